import PyProof.Rows.All
import Wide.All
import OpenK.AllK
import Wide.FinOn
import HandS.ForMost
import HandS.ExcInit
import HandS.ExcCtx
import HandS.HotCalls
import HandS.ExcInitHot
import HandS.ExcSuper
import HandS.Nested
import KE.KExcSuper
import HandS.ExcIs
import HandS.ExcField
import HandS.IsInst
import KE.KExcIs
import HandS.WordsExc
import HandS.Evl
import HandS.SetBool
import HandS.Strs
import HandS.SetFor
import HandS.ClsMeth
import HandS.Sort
import PyProof.ListRange
import HandS.Iter
import KE.GoesEnum
import HandS.Walk
import HandS.More
import HandS.Property
import PySem.Challenge.RW_twinrope_k00_net_is_kept_or_refused
import HandS.Zip
import HandS.SortInts
import HandS.OwnEq
import KE.DatumOrd
import HandS.FStr
import PyProof.ReprRoads
import HandS.Ends
import PyProof.InstNe
import PyProof.ReprBulk
import KE.RegKSuper
import KE.RegKIsAll
set_option Elab.async false
set_option linter.all false
set_option maxRecDepth 100000
set_option maxHeartbeats 4000000
namespace Tw
open PySem PySem.Spec PyProof.Rows L2

/-! the wrapper of the built-in initialiser, called -/
section
variable {prog : Program} {w : World} {A : Around} {E : Value → Shared → Prop} {h : Heap} {g : Array GenState} {d : Drawn} {t : Nat} {os : OsState}
variable {nm q : Str} {C N : Addr} {bs bm : List Value} {hdct : Bool} {sn : List Str} {sub : List Value} {ab : Bool} {col : Option Bool} {dd : Option Addr} {k0 k1 k2 k3 k5 : Option Value}
theorem wrap_call {u e t0 : Addr} {rest : List Value} {Q : Value → Shared → Prop}
    (hC : h.get? C = some (excClassObj nm q C N bs bm hdct sn sub ab col dd k0 k1 k2 k3 k5 "ValueError.__new__")) (he : h.get? e = some (HandSPX.excO C t0)) (hu : h.get? u = some (PySem.W.kxs_mw "ValueError.__init__" e)) (hrest : rest.length ≤ sizeLine)
    (hq : ∀ h' t1, (∀ b o, b ≠ e → h.get? b = some o → h'.get? b = some o) → h'.get? e = some (HandSPX.excO C t1) → Q .none ⟨h', g, d, t, os⟩) :
    wpAny (model prog w) A (call (.ref u) rest) Q E ⟨h, g, d, t, os⟩ := by
  refine wpAny_call (codeAny_of_tree ?_)
  show wpAny _ A.in1 (callAny (.ref u) ⟨rest, []⟩) _ _ _
  simp only [callAny]
  refine wpAny_bind (wpAny_load hu ?_)
  simp only [PySem.W.kxs_mw, show (Value.type "method-wrapper" == Value.type "method" || Value.type "method-wrapper" == Value.type "builtin_function_or_method" || Value.type "method-wrapper" == Value.type "method-wrapper") = true by decide, if_true]
  refine PySem.W.KFB.if_so (by decide) ?_
  refine wpAny_bind (ESX.check_bound F.excBase_ValueError hC he rfl ?_)
  refine wpAny_bind (wpAny_pure (wpAny_pure ?_))
  refine ⟨Code.quiet_builtin _ (by decide +kernel), codeAny_builtin F.excBase_ValueError.initEntry ?_⟩
  rw [Around.under_plainId F.excBase_ValueError.init.plain _]
  wp_walk
  refine hq _ h.objs.size (fun b o hb ho => ?_) ?_
  · rw [Heap.get?_update_other _ _ (Ne.symm hb)]
    exact Heap.get?_push_of_some _ ho
  · rw [Heap.get?_update_self _ (Heap.get?_push_of_some _ he) rfl]
    rfl
end
end Tw

namespace Tw
open PySem PySem.Spec PyProof.Rows L2 NdefX

/-- what the written part says for super() in an initialiser of the class at C; its cell at cc, its code at cda -/
structure SupTxt (P : Program) (K : PySem.W.Frag) (C cc cda : Addr) : Prop where
  sup : PySem.W.ks_superIn K C C "__init__" = some (some (.builtin "ValueError.__init__"))
  sub : PySem.W.subIn K (.ref C) (.type "ValueError") = some true
  any : PySem.W.nsIn K cStatics "thirdparty.any" = some none
  nsu : PySem.W.nsIn K mainGlobals "super" = some none
  cell : ∃ cl cld csl, K.lookup cc = some ⟨cl, cld, .cell (some (.ref C)), csl⟩
  code : ∃ ccl cdd ccs vs file tf, K.lookup cda = some ⟨ccl, cdd, .fields vs, ccs⟩ ∧ vs[2]? = some (.str file tf) ∧ ((P.main.file : Str) == file) = true
  top : (P.main.scope.names.lookup ("super" : Str)).isSome = false
  mro : PySem.W.mroIn K C (.ref C) = some true

/-- the function of an initialiser that closes over its class -/
abbrev iniF (name qual : Str) (params : Arguments) (body : List Stmt) (scope : Scope) (cc cda : Addr) : NF := ⟨name, qual, params, body, scope, [("__class__", cc)], cda⟩

theorem ini_ok {CX : CXT} {P : Program} {w : World} {K : PySem.W.Frag} {mg : Str → Option Value} {base : Heap} {k : Nat} {f C cc cda : Addr} {name qual : Str} {params : Arguments} {scope : Scope} {doc pm ct oc : Value} {od : Option Addr}
    {osl : Array (Option Value)} {N ps : List Str} {sp : Sp} {p0 p1 p2 p3 p4 : Pos} {msg : Expr} {rest : List Stmt} {ar : Arg} {prest : List Arg}
    (lk : K.lookup f = some ⟨oc, od, .func (PySem.W.ksFn name qual params (.Expr (.Call (.Attribute (.Call (.Name "super" p0) [] [] p1) "__init__" p2) [msg] [] p3) p4 :: rest) scope .none .none doc pm none (.ref cda) ct cc), osl⟩)
    (hcd : PySem.W.codeIn K (.ref cda) qual = true) (S : NScope N ps ["__class__"] scope) (T : OexC K C) (U : SupTxt P K C cc cda)
    (hks : scope.names.lookup ("super" : Str) = some .globalImplicit) (hp : (params.posonlyargs ++ params.args).head? = some ar) (hps : ps.head? = some ar.arg)
    (hev : ∀ env : Env, ∃ pl : Sem Bool, eval (.Call (.Attribute (.Call (.Name "super" p0) [] [] p1) "__init__" p2) [msg] [] p3) env = (do
      let ov ← attributeBase (.Call (.Name "super" p0) [] [] p1) "__init__" env (eval (.Call (.Name "super" p0) [] [] p1) env)
      standAt p2.atName
      let (f, first) ← holding [ov] (getMethod ov "__init__" pl)
      callWith p3 f first (backTo p3 (starEach [msg] env)) []))
    (hst : ∀ env : Env, starEach [msg] env = [(false, eval msg env)])
    (hsw : ∀ env : Env, swapsWith (.Call (.Attribute (.Call (.Name "super" p0) [] [] p1) "__init__" p2) [msg] [] p3) none p4.line env = pure false)
    (len : ∀ vs H Q E, sp vs H Q E → vs.length = ps.length)
    (hbody : ∀ (A : Around) (outer : List Env) (s : Shared) (H : Hp) (vs : List V) (Q : VK) (E : XK), sp vs H Q E →
      ∃ (a : Addr) (tm : TE) (t : TS), vs.head? = some (.ref a) ∧ H a = some (exo a C none) ∧
        PE (ncx CX P w K mg base N (iniF name qual params (.Expr (.Call (.Attribute (.Call (.Name "super" p0) [] [] p1) "__init__" p2) [msg] [] p3) p4 :: rest) scope cc cda) f A outer s H E) msg tm ∧
        PSs (ncx CX P w K mg base N (iniF name qual params (.Expr (.Call (.Attribute (.Call (.Name "super" p0) [] [] p1) "__init__" p2) [msg] [] p3) p4 :: rest) scope cc cda) f A outer s H E) rest t ∧
        tm (startF N vs [none]) H (fun v H1 => H1 a = some (exo a C none) ∧ t { nx := fun _ H' => Q .non H', rt := Q } (startF N vs [none]) H1)) :
    FnOk P w K mg base CX (k + 1) f (PySem.W.ksFn name qual params (.Expr (.Call (.Attribute (.Call (.Name "super" p0) [] [] p1) "__init__" p2) [msg] [] p3) p4 :: rest) scope .none .none doc pm none (.ref cda) ct cc) ps sp := by
  refine ⟨len, fun A outer s H args us vs Q E hr e0 hb r hsp => ?_⟩
  have hl := len _ _ _ _ hsp
  have KX : K.In s.heap := e0.mod.kin.keeps fun b o e => (e0.bs b o e).1
  have lim : s.heap.NoLimit := e0.mod.nolimit.keeps fun b o e => (e0.bs b o e).1
  obtain ⟨a, tm, t, hva, hHa, hmsg, hrest, hread⟩ := hbody A outer s H vs Q E hsp
  obtain ⟨cl, cld, csl, hcell⟩ := U.cell
  obtain ⟨ccl, cdd, ccs, fvs, file, tf, hcode, hvs, hfile⟩ := U.code
  obtain ⟨nm, q, NN, bs, bm, sn, sub, ab, col, dd, k0, k1, k2, k3, k5, hC, hbm⟩ := T.cls
  have hcl : PySem.W.clsIn K C = some { name := nm, bases := bs, mro := .ref C :: bm, ns := NN, qualname := q, hasDict := true, slotNames := sn, subclasses := sub, abstract := ab, collection := col, hasDel := false } := by unfold PySem.W.clsIn; rw [hC] <;> rfl
  have hcc : H cc = none := (e0.bs cc _ (e0.mod.kin _ _ hcell)).2
  have CA : CellsAt [(("__class__" : Str), cc)] ["__class__"] [none] s.heap H := by
    refine ⟨rfl, fun y c e => ?_, fun x y c e1 e2 => ?_, fun i y e => ?_⟩
    · have e' : c = cc := by
        simp only [List.lookup] at e
        split at e
        · exact (Option.some.inj e).symm
        · cases e
      subst e'
      exact ⟨hcc, _, _, KX _ _ hcell, rfl⟩
    · have key : ∀ z : Str, List.lookup z [(("__class__" : Str), cc)] = some c → z = "__class__" := fun z e => by
        simp only [List.lookup] at e
        split at e
        · rename_i h
          exact (by simpa using h)
        · cases e
      rw [key x e1, key y e2]
    · cases i with
      | zero =>
        have e' : y = "__class__" := (Option.some.inj e).symm
        subst e'
        exact ⟨cc, by simp [List.lookup], fun v hv => by cases hv⟩
      | succ i => simp at e
  have hkind : ∀ y ∈ ps.zip us, scope.names.lookup y.1 = some .local := fun ⟨n, v⟩ hy => S.par n (List.of_mem_zip hy).1
  obtain ⟨oa, hoa⟩ : ∃ oa, e0.hok a _ hHa = oa := ⟨_, rfl⟩
  refine ks_codeAny_call_defAt (fd := PySem.W.ksFn name qual params (.Expr (.Call (.Attribute (.Call (.Name "super" p0) [] [] p1) "__init__" p2) [msg] [] p3) p4 :: rest) scope .none .none doc pm none (.ref cda) ct cc) hr.depth (KX _ _ lk) rfl lim (PySem.W.codeRec_of KX hcd) rfl hb S.nocell hkind (fun h₁ hns kp => ?_) S.co S.gen S.kind
  have I0 : Inv (ncx CX P w K mg base N (iniF name qual params (.Expr (.Call (.Attribute (.Call (.Name "super" p0) [] [] p1) "__init__" p2) [msg] [] p3) p4 :: rest) scope cc cda) f A outer s H E) [] (startF N vs [none]) H { s with heap := h₁, toks := s.toks + (ps.zip us).length } :=
    inv_startN S hr.hd e0 hl r CA hns kp
  have K1 : K.In h₁ := KX.keeps kp
  -- self
  obtain ⟨u0, ur, eus, ru0⟩ : ∃ u0 ur, us = u0 :: ur ∧ RelV (.ref a) u0 := by
    cases vs with
    | nil => cases hva
    | cons v0 vr =>
      cases hva
      cases r with
      | cons r1 r2 => exact ⟨_, _, rfl, r1⟩
  obtain rfl : u0 = Value.ref a := ru0
  obtain ⟨pr, eps⟩ : ∃ pr, ps = ar.arg :: pr := by
    cases ps with
    | nil => cases hps
    | cons p0 pr =>
      cases hps
      exact ⟨pr, rfl⟩
  have ndP : ps.Nodup := by
    have q := S.nd.sublist (List.take_sublist (ps.length + 1) N)
    have e := S.pre
    rw [show (["__class__"] : List Str).length = 1 from rfl] at e
    rw [e] at q
    exact (List.nodup_append.mp q).1
  have hself : (ps.zip us).reverse.lookup ar.arg = some (Value.ref a) := zip_look (i := 0) ndP (by rw [eps]; rfl) (by rw [eus]; rfl)
  have hka : scope.names.lookup ar.arg = some .local := S.par _ (by rw [eps]; exact List.mem_cons_self)
  obtain ⟨t1, ho⟩ := exo_at I0.hok hHa
  have ho : h₁.get? a = some ({ cls := .ref C, dict := none, data := .fields #[.ref t1, .none, .none, .none, .bool false, .none] } : Obj) := ho
  -- the first statement
  obtain ⟨pl, hpl⟩ := hev (callEnv (PySem.W.ksFn name qual params (.Expr (.Call (.Attribute (.Call (.Name "super" p0) [] [] p1) "__init__" p2) [msg] [] p3) p4 :: rest) scope .none .none doc pm none (.ref cda) ct cc) s.heap.objs.size f)
  refine ks_wpAt_execs_cons (ks_wpAt_Expr_any (ks_wpAt_MethodCall ?_ hpl) I0.quiet (hsw _))
  have hC1 : h₁.get? C = some (excClassObj nm q C NN bs bm true sn sub ab col dd k0 k1 k2 k3 k5 "ValueError.__new__") := K1 _ _ hC
  refine ks_wpAt_super_base hks (S.frk _ (List.mem_singleton.mpr rfl)) (by decide) rfl (K1 _ _ lk) rfl hp rfl (K1 _ _ hcode) rfl hvs hfile U.top ?_
  obtain ⟨mb, hmb, hbb⟩ := e0.mod.blt
  have kb : ∀ b o, base.get? b = some o → h₁.get? b = some o := fun b o e => kp b o (e0.bs b o e).1
  refine PySem.W.ks_loadName_global S.kind hks (PySem.Calls.loadGlobal_builtin (e0.mod.glob.keeps kb) (PySem.W.mg_none_of e0.mod.kin e0.mod.glob U.nsu) (hmb.keeps kb) ((hbb _ (by decide +kernel)).trans (by first | rfl | decide +kernel | kernel_rfl)) ⟨rfl, ?_⟩)
  refine wpAny_loadName_free S.kind (S.frk _ (List.mem_singleton.mpr rfl)) rfl ⟨_, K1 _ _ hcell, rfl⟩ ?_
  refine wpAny_loadName_local S.kind hka hns hself ?_
  refine ks_wpAny_isType_cls hC1 rfl ⟨rfl, ?_⟩
  refine ks_wpAny_call_super hC1 rfl ho rfl (fun c e => by cases e) (PySem.W.looks_mroIn K1 U.mro) (fun h2 e2 k2 => ?_)
  have I2 : Inv (ncx CX P w K mg base N (iniF name qual params (.Expr (.Call (.Attribute (.Call (.Name "super" p0) [] [] p1) "__init__" p2) [msg] [] p3) p4 :: rest) scope cc cda) f A outer s H E) [] (startF N vs [none]) H { s with heap := h2, toks := s.toks + (ps.zip us).length } := I0.kept k2
  have K2 : K.In h2 := K1.keeps k2
  have hm := U.sup
  unfold PySem.W.ks_superIn at hm
  rw [hcl] at hm
  have ho2 := k2 _ _ ho
  have II : PySem.W.InstAt h2 a { cls := .ref C, dict := none, data := .fields #[.ref t1, .none, .none, .none, .bool false, .none] } C none := ⟨ho2, rfl, rfl, trivial⟩
  have hI : PySem.W.Looks (model P w) h2 (isInstance (.ref a) (.type "ValueError")) true := II.type.andThen (PySem.W.looks_subIn K2 U.sub)
  refine PySem.W.kxs_getMethod PySem.W.kxs_ValueError e2 (PySem.W.looks_opaque K2 U.any) (l₀ := .ref C :: bm) (fun A Q E s k q => wpAny_bind ((PySem.W.looks_clsIn K2 hcl) A _ E s k (wpAny_pure q))) rfl K2 hm hI (PySem.W.ks_ne K2 II hcl) (by decide) ?_
  have I3 : Inv (ncx CX P w K mg base N (iniF name qual params (.Expr (.Call (.Attribute (.Call (.Name "super" p0) [] [] p1) "__init__" p2) [msg] [] p3) p4 :: rest) scope cc cda) f A outer s H E) [] (startF N vs [none]) H { s with heap := h2.push (PySem.W.kxs_mw "ValueError.__init__" a), toks := s.toks + (ps.zip us).length + 1 } := I2.kept fun b o e => Heap.get?_push_of_some _ e
  have hu : (h2.push (PySem.W.kxs_mw "ValueError.__init__" a)).get? h2.objs.size = some (PySem.W.kxs_mw "ValueError.__init__" a) := Heap.get?_push_at rfl rfl
  have I4 := I3.pins_of (pins' := [(h2.objs.size, PySem.W.kxs_mw "ValueError.__init__" a)]) (fun p hp => by
    obtain rfl := List.mem_singleton.mp hp
    exact ⟨hu, I2.hok.fresh (Nat.le_refl _), Nat.ne_of_gt I2.lt, I2.nofs (Nat.le_refl _), fun v z => by cases z⟩)
  rw [hst]
  refine PySem.W.kxs_callWith (i := "ValueError.__init__") (x := a) rfl (PySem.Calls.evalArgs_plain (PySem.Calls.spliced_cons ?_))
  refine wpAny_mono (hmsg.run _ _ _ _ _ I4 hread) (fun u s5 hh => ?_) (fun _ _ z => z)
  obtain ⟨v, H5, I5, rv, hH5, hq⟩ := hh
  refine PySem.Calls.spliced_nil ?_
  have P5 := (I5.pin _ (List.mem_append_right _ (List.mem_singleton.mpr rfl))).1
  have I5' := I5.pins_of (pins' := []) (fun p hp => absurd hp (by simp))
  refine ⟨P5, ?_⟩
  obtain ⟨t5, ho5⟩ := exo_at I5.hok hH5
  have hC5 := I5.kIn _ _ hC
  obtain ⟨hp5, g5, d5, tk5, os5⟩ := s5
  refine wrap_call hC5 ho5 P5 (by rw [sizeLine_eq]; exact (by decide : 1 ≤ 16777216)) fun h6 t6 k6 e6 => ?_
  have J := I5'.write (t' := tk5) (x := a) (e := a) (o := exo a C none) (by rw [hH5]; exact True.intro) (.inl rfl) k6 ⟨_, e6⟩ (exo_ok e6)
  have eu : upd H5 a (exo a C none) = H5 := by
    funext b
    by_cases hb : b = a
    · rw [hb, upd_same, hH5]
    · rw [upd_ne hb]
  rw [eu] at J
  -- the rest
  refine wpAt_of_wpAny ?_
  refine wpAny_mono (hrest.run [] _ _ _ _ J hq) (fun fl s' hs => ?_) fun e s' hs => hs
  have fin : ∀ {σ' : L2.St} {H' : Hp} {v : V} {u : Value}, Inv (ncx CX P w K mg base N (iniF name qual params (.Expr (.Call (.Attribute (.Call (.Name "super" p0) [] [] p1) "__init__" p2) [msg] [] p3) p4 :: rest) scope cc cda) f A outer s H E) [] σ' H' s' → RelV v u → Q v H' → CE outer P w H s Q u s' :=
    fun {σ' H' v u} J rv q => ⟨v, H', J.os, J.bare, J.base, J.hok, rv, q⟩
  cases fl with
  | ret u =>
    obtain ⟨v, σ', H', J, rv, q⟩ := hs
    exact fin J rv q
  | next =>
    obtain ⟨σ', H', J, q⟩ := hs
    exact fin (v := V.non) (u := Value.none) J rfl q
  | brk =>
    obtain ⟨_, _, _, q⟩ := hs
    exact False.elim q
  | cont =>
    obtain ⟨_, _, _, q⟩ := hs
    exact False.elim q
end Tw

namespace Tw
open PySem PySem.Spec PyProof.Rows L2
section
variable {X : Cx} {e : Expr} {es : List Expr} {ta : TA} {p pos : Pos}
/-- raise's operand C(e, ..): the made exception has no context -/
theorem pmk_new {CX : CXT} {x : Str} {C fI : Addr} {k : Nat} {fd : FuncData} {ps : List Str} {sp : Sp} (T : OexC X.K C) (iC : PySem.W.findIn X.K (.ref C) "__init__" = some (some (.ref fI))) (tI : PySem.W.typeIn X.K (.ref fI) = some (.type "function"))
    (F1 : FnOk X.prog X.w X.K X.mg X.base CX k fI fd ps sp) (hr : Room (k + 1) X.A) (hb : Binds X.K fd ps []) (hx : Passes CX X (fun _ _ _ => False)) (hg : Gl X x) (hm : X.mg x = some (.ref C)) (ha : PA X (e :: es) ta)
    {R : List V → Hp → XK → Prop} (hR : ∀ vs H1 Q, R vs H1 Q → vs.length ≤ 1000 ∧ ∀ a, H1 a = none → sp (.ref a :: vs) (upd H1 a (exo a C none))
      (fun v H2 => v = .non ∧ ∃ (d : Addr) (fs : List (Str × V)), H2 a = some (exo a C (some d)) ∧ H2 d = some (exd d fs) ∧ H1 d = none ∧ Q (.ref C) (some d) (upd (del H2 a) d (.xd fs))) (fun _ _ _ => False))
    (hdb : (x == ("__debug__" : Str)) = false := by decide) (he : starEach (e :: es) X.env = (false, eval e X.env) :: starEach es X.env := by rfl) (hpl : (backTo pos (starEach es X.env)).any (·.1) = false := by rfl) :
    L2N.PMk X (.Call (.Name x p) (e :: es) [] pos) (fun σ H Q => ta σ H fun vs H1 => R vs H1 Q) := by
  intro pins s σ H Q I h
  obtain ⟨nm, q, N, bs, bm, sn, sub, ab, col, dd, k0, k1, k2, k3, k5, hC, hbm⟩ := T.cls
  refine wpAny_Call_Name_kw (ld_glob I hg hm ?_ hdb)
  refine PySem.W.callWith_K (h₀ := X.base) I.ok.mod.kin T.kC (thn (ha.run pos pins s σ H _ I h) fun us s1 ⟨vs, H1, I1, r1, qR⟩ => ⟨I1.kIn, ?_⟩) he hpl
  obtain ⟨hz, q1⟩ := hR vs H1 Q qR
  show wpAny _ _ (call (.ref C) us) _ _ _
  obtain ⟨hp, g, dr, tk, os⟩ := s1
  have hsz : hp.objs.size ≤ hp.objs.size + 1 := Nat.le_succ _
  have hn : H1 (hp.objs.size + 1) = none := I1.hok.fresh hsz
  have hq := q1 (hp.objs.size + 1) hn
  have kk : ∀ b o, hp.get? b = some o → ((hp.push (PySem.W.kdv_tup us)).push (PySem.HandSPX.excO C hp.objs.size)).get? b = some o := fun b o e => Heap.get?_push_of_some _ (Heap.get?_push_of_some _ e)
  have hget : ((hp.push (PySem.W.kdv_tup us)).push (PySem.HandSPX.excO C hp.objs.size)).get? (hp.objs.size + 1) = some (PySem.HandSPX.excO C hp.objs.size) := by heap_get
  have I2 : Inv X pins σ (upd H1 (hp.objs.size + 1) (exo (hp.objs.size + 1) C none)) ⟨(hp.push (PySem.W.kdv_tup us)).push (PySem.HandSPX.excO C hp.objs.size), g, dr, tk, os⟩ :=
    I1.laid (t' := tk) (a := hp.objs.size + 1) (o := exo (hp.objs.size + 1) C none) (h' := (hp.push (PySem.W.kdv_tup us)).push (PySem.HandSPX.excO C hp.objs.size)) kk hsz (exo_ok hget)
  have r2 : Vals (V.ref (hp.objs.size + 1) :: vs) (Value.ref (hp.objs.size + 1) :: us) := .cons rfl r1
  have hl : (Value.ref (hp.objs.size + 1) :: us ++ []).length = ps.length := by
    have e := r2.length
    rw [F1.len _ _ _ _ hq] at e
    rw [List.append_nil]
    exact e.symm
  have hus : us.length ≤ sizeLine := by
    rw [← Paired.length r1, sizeLine_eq]
    omega
  have b2 := hb _ (Value.ref (hp.objs.size + 1) :: us) I2.kIn hl
  rw [List.append_nil] at b2
  refine wpAny_call (PySem.HandSPX.call_own F.excBase_ValueError (fun Y => PySem.HandSPX.refsVE_contains Y bm hbm) (I1.kIn _ _ hC) (PySem.W.looks_findIn I1.kIn iC) (fun self => PySem.W.bind_fn I1.kIn self tI) hus
    (codeAny_mono (F1.run _ X.stack _ _ ⟨Value.ref (hp.objs.size + 1) :: us, []⟩ (Value.ref (hp.objs.size + 1) :: us) _ _ (fun _ _ _ => False) (hr.make C us []) (I2.env0.make C us []) b2 r2 hq) fun r s' hq' => ?_))
  cases r with
  | error er => exact hx pins σ _ _ er s' I2 hq'
  | ok fl =>
    cases fl with
    | ret u =>
      obtain ⟨v, H2, os2, bare2, un2, hok2, rv, ev, d, fs, ea, ed, hd1, q2⟩ := hq'
      subst ev
      obtain ⟨h2, g2, d2, t2, os'⟩ := s'
      obtain ⟨t0, G, J, kG, ge, hoe, na⟩ := mk_end0 (d2 := d2) (t2 := t2) I1 hsz kk un2 hok2 os2 bare2 ea ed hd1
      refine ⟨rv, ⟨hp.objs.size + 1, _, _, ⟨G, g2, d2, t2, os'⟩, _, .ref C, some d, rfl, J, kG, ge, hoe, ⟨rfl, rfl, fun vs hv => ?_⟩, rfl, rfl, na, rfl, bare2, raises_own T.exC T.tyC, q2⟩⟩
      cases hv
      rfl
    | next => exact False.elim hq'
    | brk => exact False.elim hq'
    | cont => exact False.elim hq'

/-! the exception that is handled, in a def that is called within the suite: it is pinned in the context -/
/-- e.f, e the handled exception -/
theorem pe_xfP {a C : Addr} {oe : Obj} {cls : Value} {d : Option Addr} {o : Expr} {te : TE} {n : Str} (hp : (a, oe) ∈ X.pn) (T : XfC X.K C) (hno : PySem.W.findIn X.K (.ref C) n = some none)
    (hz : Zc cls d oe) (hf : ∃ vs, oe.data = .fields vs) (he : PE X o te) (hb : attributeBase o n X.env (eval o X.env) = eval o X.env := by rfl) :
    PE X (.Attribute o n pos) (tXf a cls d C n te) := by
  refine ⟨fun pins s σ H Q I h => ?_⟩
  refine attr_of hb (thn (he.run pins s σ H _ I h) fun u s1 hh => ?_)
  obtain ⟨x, H1, I1, rx, ex, ec, dd, fs, v, ed, ea, l, q⟩ := hh
  subst ex
  obtain rfl : u = Value.ref a := rx
  subst ec
  subst ed
  obtain ⟨ha, _⟩ := I1.pin (a, oe) (List.mem_append_left _ hp)
  obtain ⟨vs, hd⟩ := hf
  have hx : ObjOk X.prog X.w H1 s1.heap dd (.xd fs) := I1.hok dd _ ea
  obtain ⟨mA, hns, hr⟩ := hx
  obtain ⟨od, ho, hl⟩ := lookIn_ns hns
  obtain ⟨u, hu, ru⟩ := RelO.some_of (v := v) (o := mA n) (by rw [← l]; exact hr n)
  have J : PySem.W.InstAt s1.heap a oe C (some od) := ⟨ha, hz.1, by unfold PySem.W.notCls; rw [hd] <;> rfl, by rw [hz.2]; exact ho⟩
  exact HandSPX.exc_get I1.kIn J T.ga T.gg T.exC (PySem.W.findObj_own T.hdC hno rfl (by rw [hl, hu])) (handed_of ru) ⟨v, H1, I1.tok _, ru, q⟩
end
end Tw

namespace Tw
open PySem PySem.Spec PyProof.Rows L2

/-- a def called with the handled exception p at hand: its promise may speak of p -/
structure FnP (P : Program) (w : World) (K : PySem.W.Frag) (mg : Str → Option Value) (base : Heap) (k : Nat) (f : Addr) (fd : FuncData) (ps : List Str) (sp : Addr × Obj → Sp) : Prop where
  len : ∀ p vs H Q E, sp p vs H Q E → vs.length = ps.length
  run : ∀ (p : Addr × Obj) (A : Around) (outer : List Env) (s : Shared) (H : Hp) (args : Args) (us : List Value) (vs : List V) (Q : VK), L2H.RoomH k A → L2H.Hot1 A p → L2H.PinOk outer H s p →
    Env0 P w K mg base A outer s H → BindsTo s fd args (ps.zip us) → Vals vs us → sp p vs H Q E0 → codeAny (model P w) A (.call (.ref f) args) (CR CX0 outer P w H s Q E0) s

theorem Fun.hot {P : Program} {w : World} {K : PySem.W.Frag} {mg : Str → Option Value} {base : Heap} {x qual : Str} {st : Stmt} {f : Addr} {fd : FuncData} {N ps : List Str} {k : Nat} {sp : Addr × Obj → Sp} (F : Fun K x qual st f fd) (S : FnScope N ps (defScope st))
    (len : ∀ p vs H Q E, sp p vs H Q E → vs.length = ps.length)
    (hbody : ∀ (p : Addr × Obj) (cdv : Value) (A : Around) (outer : List Env) (s : Shared) (H : Hp) (vs : List V) (Q : VK), L2H.Hot1 A p → L2H.RoomH k (A.deeper (envOfC qual (defScope st) s.heap.objs.size f cdv)) → sp p vs H Q E0 →
      ∃ t, PSs (L2H.cxH CX0 P w K mg base N qual (defScope st) f cdv A outer s H E0 p) (defBody st) t ∧ t { nx := fun _ H' => Q .non H', rt := Q } (start N vs) H) : FnP P w K mg base (k + 1) f fd ps sp := by
  refine ⟨len, fun p A outer s H args us vs Q hr hot hpin e0 hb r hsp => ?_⟩
  obtain ⟨oc, od, kV, doc, pm, an, cdv, ct, osl, rfl, lk, hcd⟩ := F.ex
  have hl := len _ _ _ _ _ hsp
  have kb : ∀ b o, base.get? b = some o → s.heap.get? b = some o := fun b o e => (e0.bs b o e).1
  have KX := e0.mod.kin.keeps kb
  refine codeAny_call_function hr.depth (KX _ _ lk) rfl S.co S.gen rfl (PySem.W.codeRec_of KX hcd) (hb _ _ _ _ (wpAny_newFunctionEnv_cells S.kind (fun y hy => ?_) fun env he s1 x => ?_))
  · exact (S.par y.1 (List.of_mem_zip (a := y.1) (b := y.2) hy).1).imp id fun q => ⟨q, PySem.W.cellsFrom_some _ _ _ (.inl q)⟩
  · subst he
    obtain ⟨t, ht, hq⟩ := hbody p cdv A outer s H vs Q hot (hr.deeper _) hsp
    refine ⟨(e0.mod.nolimit.keeps kb).keeps x.toInCall.keep, codeAny_func (wpAny_mono (ht.run [] s1 _ H _ (L2H.inv_startH S hpin e0 hl r x) hq) (fun fl s' hs => ?_) fun e s' hs => hs)⟩
    cases fl with
    | ret u => exact let ⟨v, _, H', J, rv, q⟩ := hs; ⟨v, H', J.os, J.bare, J.base, J.hok, rv, q⟩
    | next => exact let ⟨_, H', J, q⟩ := hs; ⟨V.non, H', J.os, J.bare, J.base, J.hok, rfl, q⟩
    | brk => exact let ⟨_, _, _, q⟩ := hs; q.elim
    | cont => exact let ⟨_, _, _, q⟩ := hs; q.elim

section
variable {X : Cx} {e : Expr} {es : List Expr} {ta : TA} {t : TA} {x : Str} {q pos : Pos}
/-- the call of such a def within a suite -/
theorem pe_callP {k : Nat} {f : Addr} {fd : FuncData} {ps : List Str} {sp : Addr × Obj → Sp} {p : Addr × Obj} (F : FnP X.prog X.w X.K X.mg X.base k f fd ps sp) (hr : L2H.RoomH k X.A) (hot : L2H.Hot1 X.A p) (hp : p ∈ X.pn) (hg : Gl X x) (hm : X.mg x = some (.ref f))
    (hk : PySem.W.keepIn X.K (.ref f) = true) (hb : Binds X.K fd ps []) (ha : PA X (e :: es) t) (hdb : (x == ("__debug__" : Str)) = false := by decide)
    (he : starEach (e :: es) X.env = (false, eval e X.env) :: starEach es X.env := by rfl) (hpl : (backTo pos (starEach es X.env)).any (·.1) = false := by rfl) :
    PE X (.Call (.Name x q) (e :: es) [] pos) (tCall (sp p) [] E0 t) := by
  refine ⟨fun pins s σ H Q I h => wpAny_Call_Name_kw (ld_glob I hg hm ?_ hdb)⟩
  refine PySem.W.callWith_K (h₀ := X.base) I.ok.mod.kin hk (thn (ha.run pos pins s σ H _ I h) fun us s1 ⟨vs, H1, I1, r, q⟩ => ⟨I1.kIn, ?_⟩) he hpl
  have q : sp p (vs ++ []) H1 Q E0 := q
  rw [List.append_nil] at q
  have hl : (us ++ []).length = ps.length := by rw [List.append_nil, ← r.length]; exact F.len _ _ _ _ _ q
  have b := hb s1 us I1.kIn hl
  rw [List.append_nil] at b
  obtain ⟨g1, g2, g3, g4, g5⟩ := I1.pin p (List.mem_append_left _ hp)
  refine wpAny_call (codeAny_mono (F.run p X.A X.stack s1 H1 ⟨us, []⟩ us vs Q hr hot ⟨g1, g2, fun z => (List.mem_cons.mp (I1.stkSub p.1 z)).elim g3 g4, g5⟩ I1.env0 b r q) fun r s' hq => ?_)
  cases r with
  | error e => exact hq.elim
  | ok fl =>
    cases fl with
    | ret u => exact I1.after hq
    | next => exact hq.elim
    | brk => exact hq.elim
    | cont => exact hq.elim

/-- isinstance(e, c), e the handled exception, of the class at D with its dict at dd -/
def rIsP (K : PySem.W.Frag) (D a dd : Addr) : List V → Hp → VK → Prop := fun xs H Q => ∃ (c : V) (cv : Value) (b : Bool) (fs : List (Str × V)), xs = [.ref a, c] ∧ ClsV c cv ∧ H dd = some (.xd fs) ∧ PySem.W.kitOne K (.ref D) cv = some b ∧ Q (.bl b) H
theorem call_isP {a D dd : Addr} {oe : Obj} (hp : (a, oe) ∈ X.pn) (C : ExcC X.K D) (hz : Zc (.ref D) (some dd) oe) (hf : ∃ vs, oe.data = .fields vs) : CallR X (.builtin "isinstance") (rIsP X.K D a dd) := by
  intro pins s σ H xs us Q I r h
  obtain ⟨c, cv, b, fs, rfl, kc, ed, e, q⟩ := h
  obtain ⟨u1, u2, rfl, r1, r2⟩ := vals2 r
  obtain rfl : u1 = Value.ref a := r1
  have e2 := kc.eq r2
  subst e2
  obtain ⟨vs, hv⟩ := hf
  obtain ⟨mA, hns, _⟩ := (show ObjOk X.prog X.w H s.heap dd (.xd fs) from I.hok dd _ ed)
  obtain ⟨od, ho, _⟩ := lookIn_ns hns
  have J : PySem.W.InstAt s.heap a oe D (some od) := ⟨(I.pin (a, oe) (List.mem_append_left _ hp)).1, hz.1, by unfold PySem.W.notCls; rw [hv] <;> rfl, by rw [hz.2]; exact ho⟩
  exact PySem.W.kia_one (PySem.W.kitx_exc (by obtain ⟨cd, hc, _⟩ := PySem.W.any_some C.hd; rw [hc] <;> rfl) C.hg C.hk C.hs C.ha C.hn C.ht C.hm) I.kIn J e (fun z => nomatch z) fun tk => ⟨.bl b, H, I.tok tk, rfl, q⟩
end
end Tw

namespace Tw
open PySem PySem.Spec PyProof.Rows L2

/-! ### an own exception with its fields -/
def okMsg (y : V) : Prop := (∃ i : Int, y = .int i ∧ i.natAbs.log2 < 1920) ∨ ∃ z : Str, y = .str z ∧ z.length ≤ 100000
/-- the fields as they lie: the last stored first -/
def errF (fl : List Str) (ys : List V) : List (Str × V) := (fl.zip ys).reverse
/-- what an initialiser promises -/
def spIni (C : Addr) (fl : List Str) : Sp := fun vs H Q _ => ∃ (a : Addr) (ys : List V), vs = .ref a :: ys ∧ ys.length = fl.length ∧ H a = some (exo a C none) ∧ (∀ y ∈ ys, okMsg y) ∧
  ∀ dx H', H dx = none → dx ≠ a → (∀ b, b ≠ a → b ≠ dx → H' b = H b) → H' a = some (exo a C (some dx)) → H' dx = some (exd dx (errF fl ys)) → Q .non H'
structure Exc (P : Program) (w : World) (K : PySem.W.Frag) (mg : Str → Option Value) (base : Heap) (x : Str) (fl : List Str) (C : Addr) : Prop where
  ox : OexC K C
  g : mg x = some (.ref C)
  ini : ∃ fI fd, PySem.W.findIn K (.ref C) "__init__" = some (some (.ref fI)) ∧ PySem.W.typeIn K (.ref fI) = some (.type "function") ∧ FnOk P w K mg base CX0 1 fI fd ("self" :: fl) (spIni C fl) ∧ Binds K fd ("self" :: fl) []
def tErr (C : Addr) (fl : List Str) (ta : TA) : L2.St → Hp → XK → Prop := fun σ H Q => ta σ H fun ys H1 => ys.length = fl.length ∧ ys.length ≤ 1000 ∧ (∀ y ∈ ys, okMsg y) ∧ ∀ d, H1 d = none → Q (.ref C) (some d) (upd H1 d (.xd (errF fl ys)))
theorem pmk_err {X : Cx} {x : Str} {fl : List Str} {C : Addr} {e : Expr} {es : List Expr} {ta : TA} {p pos : Pos} (T : Exc X.prog X.w X.K X.mg X.base x fl C) (hr : Room 2 X.A) (hg : Gl X x) (ha : PA X (e :: es) ta)
    (hdb : (x == ("__debug__" : Str)) = false := by decide) (he : starEach (e :: es) X.env = (false, eval e X.env) :: starEach es X.env := by rfl) (hpl : (backTo pos (starEach es X.env)).any (·.1) = false := by rfl) :
    L2N.PMk X (.Call (.Name x p) (e :: es) [] pos) (tErr C fl ta) := by
  obtain ⟨fI, fd, h1, h2, h3, h4⟩ := T.ini
  refine pmk_new T.ox h1 h2 h3 hr h4 pass0 hg T.g ha (R := fun ys H1 Q => ys.length = fl.length ∧ ys.length ≤ 1000 ∧ (∀ y ∈ ys, okMsg y) ∧ ∀ d, H1 d = none → Q (.ref C) (some d) (upd H1 d (.xd (errF fl ys)))) (fun ys H1 Q ⟨l1, l2, ok, q⟩ => ⟨l2, fun a na => ⟨a, ys, rfl, l1, upd_same, ok, fun dx H' nd ne kp ea ed => ⟨rfl, dx, _, ea, ed, ?_, ?_⟩⟩⟩) hdb he hpl
  · rw [upd_ne ne] at nd
    exact nd
  · rw [upd_ne ne] at nd
    have e : upd (del H' a) dx (.xd (errF fl ys)) = upd H1 dx (.xd (errF fl ys)) := by
      funext b
      by_cases hb : b = dx
      · rw [hb, upd_same, upd_same]
      · rw [upd_ne hb, upd_ne hb]
        by_cases ha : b = a
        · rw [ha, del_same, na]
        · rw [del_ne ha, kp b ha hb, upd_ne ha]
    rw [e]
    exact q dx nd

/-! ### a def at its name -/
structure DefAt (K : PySem.W.Frag) (mg : Str → Option Value) (x : Str) (st : Stmt) : Prop where
  ex : ∃ f fd, Fun K x x st f fd ∧ mg x = some (.ref f)
structure Cal (P : Program) (w : World) (K : PySem.W.Frag) (mg : Str → Option Value) (base : Heap) (CX : CXT) (x : Str) (k : Nat) (ps : List Str) (sp : Sp) : Prop where
  ex : ∃ f fd, FnOk P w K mg base CX k f fd ps sp ∧ mg x = some (.ref f) ∧ PySem.W.keepIn K (.ref f) = true ∧ Binds K fd ps []
theorem Cal.mono {P : Program} {w : World} {K : PySem.W.Frag} {mg : Str → Option Value} {base : Heap} {CX : CXT} {x : Str} {j k : Nat} {ps : List Str} {sp : Sp} (c : Cal P w K mg base CX x j ps sp) (h : j ≤ k) : Cal P w K mg base CX x k ps sp := by
  obtain ⟨f, fd, h1, h2, h3, h4⟩ := c.ex
  exact ⟨f, fd, h1.mono h, h2, h3, h4⟩
section
variable {X : Cx} {x : Str} {e : Expr} {es : List Expr} {t : TA} {q pos : Pos} {k : Nat} {ps : List Str} {sp : Sp}
theorem pe_cal (c : Cal X.prog X.w X.K X.mg X.base CX0 x k ps sp) (hr : Room k X.A) (hg : Gl X x) (ha : PA X (e :: es) t) (hdb : (x == ("__debug__" : Str)) = false := by decide)
    (he : starEach (e :: es) X.env = (false, eval e X.env) :: starEach es X.env := by rfl) (hpl : (backTo pos (starEach es X.env)).any (·.1) = false := by rfl) : PE X (.Call (.Name x q) (e :: es) [] pos) (tCall sp [] E0 t) := by
  obtain ⟨f, fd, h1, h2, h3, h4⟩ := c.ex
  exact pe_call h1 hr hg h2 h3 h4 .nil pass0 ha hdb he hpl
/-- within a try, or in a def that may raise: what is raised is wished by W -/
theorem pe_calX {W : WX} (c : Cal X.prog X.w X.K X.mg X.base (L2N.CX X.prog X.w) x k ps sp) (tk : L2N.Takes X W) (hr : Room k X.A) (hg : Gl X x) (ha : PA X (e :: es) t) (hdb : (x == ("__debug__" : Str)) = false := by decide)
    (he : starEach (e :: es) X.env = (false, eval e X.env) :: starEach es X.env := by rfl) (hpl : (backTo pos (starEach es X.env)).any (·.1) = false := by rfl) : PE X (.Call (.Name x q) (e :: es) [] pos) (tCallS sp (WE W) t) := by
  obtain ⟨f, fd, h1, h2, h3, h4⟩ := c.ex
  exact pe_callS h1 hr hg h2 h3 h4 (fun σ => L2N.passAt tk σ) ha hdb he hpl
end
section
variable {P : Program} {w : World} {K : PySem.W.Frag} {mg : Str → Option Value} {base : Heap} {x : Str} {st : Stmt} {N ps : List Str} {k : Nat} {sp : Sp}
/-- how positional arguments come to the parameters -/
abbrev BindOk (x : Str) (st : Stmt) (ps : List Str) : Prop := ∀ (kV doc pm : Value) (an : Option Addr) (cdv ct : Value) (us : List Value), us.length = ps.length → bindArgs (PySem.W.fnOf x x (defArgs st) (defBody st) (defScope st) .none kV doc pm an cdv ct) ⟨us, []⟩ = pure (ps.zip us)
/-- a def that raises nothing, by its body -/
theorem cal_of (D : DefAt K mg x st) (S : FnScope N ps (defScope st)) (hb : BindOk x st ps) (len : ∀ vs H Q E, sp vs H Q E → vs.length = ps.length)
    (hbody : ∀ (f : Addr) (cdv : Value) (A : Around) (outer : List Env) (s : Shared) (H : Hp) (vs : List V) (Q : VK) (E : XK), Room k (A.deeper (envOfC x (defScope st) s.heap.objs.size f cdv)) → sp vs H Q E →
      ∃ t, PSs (cxOf CX0 P w K mg base N x (defScope st) f cdv A outer s H E).nox (defBody st) t ∧ t { nx := fun _ H' => Q .non H', rt := Q } (start N vs) H) : Cal P w K mg base CX0 x (k + 1) ps sp := by
  obtain ⟨f, fd, F, m⟩ := D.ex
  exact ⟨f, fd, F.ok S len (hbody f), m, F.kp, F.binds hb⟩
/-- a def that may raise -/
theorem calX_of (D : DefAt K mg x st) (S : FnScope N ps (defScope st)) (hb : BindOk x st ps) (len : ∀ vs H Q E, sp vs H Q E → vs.length = ps.length)
    (hbody : ∀ (f : Addr) (cdv : Value) (A : Around) (outer : List Env) (s : Shared) (H : Hp) (vs : List V) (Q : VK) (E : XK), Room k (A.deeper (envOfC x (defScope st) s.heap.objs.size f cdv)) → sp vs H Q E →
      ∃ t, PSs (cxOf (L2N.CX P w) P w K mg base N x (defScope st) f cdv A outer s H E) (defBody st) t ∧ t { nx := fun _ H' => Q .non H', rt := Q } (start N vs) H) : Cal P w K mg base (L2N.CX P w) x (k + 1) ps sp := by
  obtain ⟨f, fd, F, m⟩ := D.ex
  refine ⟨f, fd, ?_, m, F.kp, F.binds hb⟩
  obtain ⟨oc, od, kV, doc, pm, an, cdv, ct, osl, rfl, lk, hcd⟩ := F.ex
  exact fn_of lk hcd S len fun A outer s H vs Q E hr hsp => hbody f cdv A outer s H vs Q E hr hsp
end
end Tw

namespace Tw
open PySem PySem.Spec PyProof.Rows L2

/-! ### the bag of a law: what it draws from -/
abbrev bg (c : Addr) (i x k t fo : Int) (big : Bool) : HO := .lst [.ref c, .int i, .int x, .int k, .int t, .int fo, .bl big]
/-- F: what is settled (never written again); the bag at b is not -/
def Bag (K : PySem.W.Frag) (F H : Hp) (b : Addr) : Prop := F b = none ∧ ∃ (c : Addr) (ns : List Int) (i x k t fo : Int) (big : Bool), H b = some (bg c i x k t fo big) ∧ SqL K F c (ns.map V.int) ∧ ns.length ≤ 63 ∧ 0 ≤ i
def spDraw (K : PySem.W.Frag) : Sp := fun vs H Q _ => ∃ (F : Hp) (b : Addr) (n : Int), vs = [.ref b, .int n] ∧ Same F H ∧ Bag K F H b ∧ 0 < n ∧ n < 1073741824 ∧
  ∀ r H', 0 ≤ r → r < n → (∀ a, a ≠ b → H' a = H a) → Bag K F H' b → Q (.int r) H'
def spMixed : Sp := fun vs H Q _ => ∃ (i j : Int), vs = [.int i, .int j] ∧ ∀ r : Int, 0 ≤ r → Q (.int r) H
theorem ixN_lt {n j : Nat} {i : Int} (h : i = (j : Int)) (hj : j < n) : ixN n i = some j := by
  subst h
  exact Evl.ixN_nat hj
theorem same_upd {F H : Hp} {b : Addr} {o : HO} (s : Same F H) (hb : F b = none) : Same F (upd H b o) := fun a u e => by
  rw [upd_ne (ne_of_none e hb)]
  exact s a u e
theorem same_new {H : Hp} {p : Addr} {o : HO} (h : H p = none) : Same H (upd H p o) := fun a u e => by
  rw [upd_ne (ne_of_none e h)]
  exact e
theorem Same.lst {K : PySem.W.Frag} {F H : Hp} {a : Addr} {xs : List V} (s : Same F H) (h : SqL K F a xs) : SqL K H a xs := s.seq h
theorem Same.tup {K : PySem.W.Frag} {H H' : Hp} {a : Addr} {xs : List V} (e : Same H H') (h : SqT K H a xs) : SqT K H' a xs := Evl.ex_t e h
end Tw

namespace Tw
open PySem PySem.Spec PyProof.Rows L2
section
variable {K : PySem.W.Frag} {H H' : Hp}
mutual
theorem Dp.same (s : Same H H') : ∀ {d : PyData} {v : V}, Dp K H v d → Dp K H' v d
  | .none, _, .non => .non
  | .bool _, _, .bl b => .bl b
  | .int _, _, .int i => .int i
  | .str _, _, .str x => .str x
  | .list _, _, .lst h r => .lst (s.seq h) (DpAll.same s r)
  | .tuple _, _, .tup h r => .tup (Same.tup s h) (DpAll.same s r)
theorem DpAll.same (s : Same H H') : ∀ {ds : List PyData} {vs : List V}, DpAll K H vs ds → DpAll K H' vs ds
  | [], _, .nil => .nil
  | _ :: _, _, .cons h r => .cons (Dp.same s h) (DpAll.same s r)
end
theorem DpAll.len : ∀ {vs : List V} {ds : List PyData}, DpAll K H vs ds → vs.length = ds.length
  | _, _, .nil => rfl
  | _, _, .cons _ r => congrArg (· + 1) (DpAll.len r)
theorem DpAll.get : ∀ {vs : List V} {ds : List PyData} {i : Nat} {v : V}, DpAll K H vs ds → vs[i]? = some v → ∃ d, ds[i]? = some d ∧ Dp K H v d
  | _, _, _, _, .nil, e => by simp at e
  | _, _, 0, v, .cons h _, e => ⟨_, rfl, by cases e; exact h⟩
  | _, _, i + 1, v, .cons _ r, e => DpAll.get (i := i) r (by simpa using e)
theorem DpAll.get' : ∀ {vs : List V} {ds : List PyData} {i : Nat} {d : PyData}, DpAll K H vs ds → ds[i]? = some d → ∃ v, vs[i]? = some v ∧ Dp K H v d
  | _, _, _, _, .nil, e => by simp at e
  | _, _, 0, _, .cons h _, e => ⟨_, rfl, by cases e; exact h⟩
  | _, _, i + 1, _, .cons _ r, e => DpAll.get' (i := i) r (by simpa using e)
theorem DpAll.append : ∀ {vs ws : List V} {ds es : List PyData}, DpAll K H vs ds → DpAll K H ws es → DpAll K H (vs ++ ws) (ds ++ es)
  | _, _, _, _, .nil, s => s
  | _, _, _, _, .cons h r, s => .cons h (DpAll.append r s)
theorem DpAll.one {v : V} {d : PyData} (h : Dp K H v d) : DpAll K H [v] [d] := .cons h .nil
/-- a value's built-in type -/
def tyN : PyData → String
  | .none => "NoneType" | .bool _ => "bool" | .int _ => "int" | .str _ => "str" | .list _ => "list" | .tuple _ => "tuple" | .dict _ => "dict"
theorem ty_of {v : V} {d : PyData} (h : Dp K H v d) : TyX K H v (.type (tyN d)) := by
  cases h with
  | non => exact .base .non
  | bl b => exact .base (.bl b)
  | int i => exact .base (.int i)
  | str x => exact .base (.str x)
  | lst h r =>
    rcases h with (h | ⟨o, h⟩) | ⟨o, its, n, h1, h2, h3, h4, h5⟩
    · exact .base (.lst h)
    · exact .base (.frz h)
    · exact .kList h1 (by assumption)
  | tup h r =>
    rcases h with (h | ⟨o, h⟩) | h
    · exact .base (.tup h)
    · exact .fTuple h
    · obtain ⟨o, its, n, h1, h2, _⟩ := h
      exact .kTuple h1 h2
/-- data without None and dicts, of bounded depth -/
def ExD : Nat → PyData → Prop
  | _, .bool _ => True
  | _, .int _ => True
  | _, .str _ => True
  | n + 1, .list ds => ds.length ≤ 1000001 ∧ ∀ d ∈ ds, ExD n d
  | n + 1, .tuple ds => ds.length ≤ 1000001 ∧ ∀ d ∈ ds, ExD n d
  | _, _ => False
/-- told is exactly due -/
def spExact (K : PySem.W.Frag) (n : Nat) : Sp := fun vs H Q _ => ∃ (x y : V) (d : PyData), vs = [x, y] ∧ Dp K H x d ∧ Dp K H y d ∧ ExD n d ∧ ∀ H', Same H H' → Q (.bl true) H'
theorem kT {a b : String} (h : kitB a b = some true := by decide +kernel) : PySem.W.kitOne K (.type a) (.type b) = some true := kit_ty h
theorem kF {a b : String} (h : kitB a b = some false := by decide +kernel) : PySem.W.kitOne K (.type a) (.type b) = some false := kit_ty h
theorem kit_lt {t a b : String} {r1 r2 : Bool} (h1 : kitB t a = some r1) (h2 : kitB t b = some r2) : PySem.W.kitAny K (.type t) [.type a, .type b] = some (r1 || r2) :=
  kitAny_cons (kit_ty h1) (fun _ => kitAny_cons (kit_ty h2) (fun e => by subst e; cases r1 <;> first | rfl | contradiction) (fun e => by subst e; cases r1 <;> rfl)) (fun e => by subst e; rfl)
end
end Tw

namespace Tw
open PySem PySem.Spec PyProof.Rows L2 TL

/-! ### rides as words -/
abbrev Ride := Int × Str
def okC (c : Str) : Bool := decide (c = "red") || decide (c = "blue")
def bad (r : Ride) : Bool := !(decide (0 ≤ r.1) && decide (r.1 ≤ 99)) || !okC r.2
def isDig (c : Nat) : Bool := decide (c ∈ tl "0123456789")
def numIn : List Nat → Option Int
  | [c] => if isDig c then some ((c : Int) - 48) else none
  | [c, d] => if isDig c && isDig d && !decide (c = 48) then some (((c : Int) - 48) * 10 + ((d : Int) - 48)) else none
  | _ => none
theorem numIn1 (c : Nat) : numIn [c] = if isDig c then some ((c : Int) - 48) else none := rfl
theorem numIn2 (c d : Nat) : numIn [c, d] = if isDig c && isDig d && !decide (c = 48) then some (((c : Int) - 48) * 10 + ((d : Int) - 48)) else none := rfl
def rideOf (w : Str) : Option Ride :=
  match tl w with
  | [] => none
  | c :: r => match numIn r with
    | none => none
    | some n => if c = 114 then some (n, "red") else if c = 98 then some (n, "blue") else none
/-- the word of a ride -/
def wordOf (r : Ride) : Str := ⟨#[r.2.cps.getD 0 0]⟩ ++ Str.ofString (toString r.1)
theorem digs : tl "0123456789" = [48, 49, 50, 51, 52, 53, 54, 55, 56, 57] := by decide +kernel
theorem isDig_iff {c : Nat} : isDig c = true ↔ 48 ≤ c ∧ c ≤ 57 := by
  unfold isDig
  rw [digs, decide_eq_true_iff]
  simp only [List.mem_cons, List.not_mem_nil, or_false]
  omega
def numT (n : Nat) : List Nat := if n < 10 then [48 + n] else [48 + n / 10, 48 + n % 10]
theorem tl_num : ∀ n : Nat, n < 100 → tl (Str.ofString (toString ((n : Nat) : Int))) = numT n := by decide +kernel
theorem num_T {n : Nat} (h : n < 100) : numIn (numT n) = some (n : Int) := by
  unfold numT
  by_cases h1 : n < 10
  · rw [if_pos h1, numIn1]
    rw [if_pos (isDig_iff.mpr (by omega))]
    congr 1
    omega
  · rw [if_neg h1, numIn2]
    have e : (isDig (48 + n / 10) && isDig (48 + n % 10) && !decide (48 + n / 10 = 48)) = true := by
      rw [isDig_iff.mpr (by omega), isDig_iff.mpr (by omega), decide_eq_false (by omega)]
      rfl
    rw [if_pos e]
    congr 1
    omega
theorem num_inv {l : List Nat} {n : Int} (h : numIn l = some n) : ∃ k : Nat, k < 100 ∧ n = (k : Int) ∧ l = numT k := by
  match l, h with
  | [c], h =>
    rw [numIn1] at h
    by_cases hc : isDig c = true
    · rw [if_pos hc] at h
      have := isDig_iff.mp hc
      refine ⟨c - 48, by omega, by cases h; omega, ?_⟩
      unfold numT
      rw [if_pos (by omega)]
      congr 1
      omega
    · rw [if_neg hc] at h
      cases h
  | [c, d], h =>
    rw [numIn2] at h
    by_cases hc : (isDig c && isDig d && !decide (c = 48)) = true
    · rw [if_pos hc] at h
      simp only [Bool.and_eq_true, Bool.not_eq_true', decide_eq_false_iff_not] at hc
      have h1 := isDig_iff.mp hc.1.1
      have h2 := isDig_iff.mp hc.1.2
      have h3 := hc.2
      refine ⟨(c - 48) * 10 + (d - 48), by omega, by cases h; omega, ?_⟩
      unfold numT
      rw [if_neg (by omega)]
      have e1 : 48 + ((c - 48) * 10 + (d - 48)) / 10 = c := by omega
      have e2 : 48 + ((c - 48) * 10 + (d - 48)) % 10 = d := by omega
      rw [e1, e2]
    · rw [if_neg hc] at h
      cases h
theorem int_T : ∀ n : Nat, n < 100 → PySem.intText? ⟨(numT n).toArray⟩ = some (n : Int) := by decide +kernel
theorem tl_red : tl "red" = [114, 101, 100] := by decide +kernel
theorem tl_blue : tl "blue" = [98, 108, 117, 101] := by decide +kernel
theorem cps_red : ("red" : Str).cps.getD 0 0 = 114 := by decide +kernel
theorem cps_blue : ("blue" : Str).cps.getD 0 0 = 98 := by decide +kernel
theorem ne_rb : ("red" : Str) ≠ "blue" := by decide +kernel
theorem ok_cases {c : Str} (h : okC c = true) : c = "red" ∨ c = "blue" := by
  unfold okC at h
  simpa using h
theorem good_of {r : Ride} (h : bad r = false) : ∃ n : Nat, n < 100 ∧ r.1 = (n : Int) ∧ (r.2 = "red" ∨ r.2 = "blue") := by
  unfold bad at h
  simp only [Bool.or_eq_false_iff, Bool.not_eq_false', Bool.and_eq_true, decide_eq_true_eq] at h
  exact ⟨r.1.toNat, by omega, by omega, ok_cases h.2⟩
theorem tl_word {n : Nat} {c : Str} (h : n < 100) : tl (wordOf ((n : Int), c)) = c.cps.getD 0 0 :: numT n := by
  unfold wordOf
  rw [tl_append, tl_num n h]
  rfl
theorem ride_word {r : Ride} (h : bad r = false) : rideOf (wordOf r) = some r := by
  obtain ⟨n, hn, e1, e2⟩ := good_of h
  obtain ⟨i, c⟩ := r
  dsimp only at e1 e2
  subst e1
  unfold rideOf
  rw [tl_word hn]
  rcases e2 with rfl | rfl
  · simp only [num_T hn, cps_red, if_true]
  · simp only [num_T hn, cps_blue]
    rfl
theorem word_ride {w : Str} {r : Ride} (h : rideOf w = some r) : bad r = false ∧ wordOf r = w := by
  unfold rideOf at h
  cases ew : tl w with
  | nil => rw [ew] at h; cases h
  | cons c l =>
    rw [ew] at h
    dsimp only at h
    cases en : numIn l with
    | none => rw [en] at h; cases h
    | some m =>
      rw [en] at h
      dsimp only at h
      obtain ⟨k, hk, rfl, rfl⟩ := num_inv en
      have fin : ∀ col : Str, (col = "red" ∨ col = "blue") → r = ((k : Int), col) → c = col.cps.getD 0 0 → bad r = false ∧ wordOf r = w := fun col hcol er ec => by
        subst er
        refine ⟨?_, ?_⟩
        · unfold bad okC
          have h1 : decide ((0 : Int) ≤ (k : Int)) = true := decide_eq_true (by omega)
          have h2 : decide ((k : Int) ≤ 99) = true := decide_eq_true (by omega)
          rcases hcol with rfl | rfl
          · simp [h1, h2]
          · simp [h1, h2]
        · refine ext_tl ?_
          rw [tl_word hk, ew, ec]
      by_cases h1 : c = 114
      · rw [if_pos h1] at h
        exact fin "red" (.inl rfl) (Option.some.inj h).symm (by rw [cps_red]; exact h1)
      · rw [if_neg h1] at h
        by_cases h2 : c = 98
        · rw [if_pos h2] at h
          exact fin "blue" (.inr rfl) (Option.some.inj h).symm (by rw [cps_blue]; exact h2)
        · rw [if_neg h2] at h
          cases h
/-! ### a text as words -/
theorem tl_sp : tl " " = [32] := by decide +kernel
theorem spl_ne : ∀ (l acc : List Nat), spl [32] 0 acc l ≠ []
  | [], acc => by unfold spl; simp
  | c :: r, acc => by
    unfold spl
    split
    · simp
    · exact spl_ne r _
theorem join_spl : ∀ (l acc : List Nat), joinL [32] (spl [32] 0 acc l) = acc ++ l
  | [], acc => by
    unfold spl
    show acc = acc ++ []
    rw [List.append_nil]
  | c :: r, acc => by
    unfold spl
    by_cases h : pre [32] (c :: r) = true
    · rw [if_pos h]
      have hc : c = 32 := by
        unfold pre at h
        simpa using h
      have ih := join_spl r []
      cases e : spl [32] ([32].length - 1) [] r with
      | nil => exact absurd e (spl_ne r [])
      | cons p q =>
        show acc ++ ([32] ++ joinL [32] (p :: q)) = acc ++ c :: r
        have e' : spl [32] 0 [] r = p :: q := e
        rw [← e', ih, hc]
        rfl
    · rw [if_neg h, join_spl r (acc ++ [c]), List.append_assoc]
      rfl
theorem join_split (x : Str) : Txt.join " " (Txt.split x " ") = x := by
  refine ext_tl ?_
  rw [join_eq, tl_join, split_spl x " " (by rw [tl_sp]; simp) (kind_ok (by decide +kernel)), tl_sp, join_spl]
  rfl
theorem split_ne (x : Str) : Txt.split x " " ≠ [] := fun h => by
  have e := split_spl x " " (by rw [tl_sp]; simp) (kind_ok (by decide +kernel))
  rw [h, tl_sp] at e
  exact spl_ne _ _ e.symm
end Tw

namespace Tw
open PySem PySem.Spec PyProof.Rows L2
section
variable {X : Cx}
/-- what the set D holds after the int c is added -/
abbrev setPut (w : World) (D : Addr) (S : Int → Bool) (n : Nat) (c : Int) : HO := SetO w D (fun j => S j || decide (j = c)) (if S c = true then n else n + 1)
/-- a set of ints by a comprehension: the wish. D is the new set, W what stands at turn i (m: what is left) -/
def tScI (w : World) (src : TI) (bind : TG) (tst : TT) (val : TE) (own : List Nat) : TE := fun σ H Q => src σ H fun J H1 => ∀ D, H1 D = none →
  ∃ W : Nat → Nat → Hp → Prop, (∃ m, W 0 m (upd H1 D (SetO w D (fun _ => false) 0))) ∧ ∀ i m H2, W i m H2 → (J.stop i H2 ∧ Q (.ref D) H2) ∨
    (J.go i H2 ∧ ∃ T : Hp → Prop, (∀ H', T H' → ∃ m', m' < m ∧ W (i + 1) m' H') ∧ ∀ x H3, J.yld i H2 x H3 → bind x (wipe σ own) H3 fun σ4 H4 => wipe σ4 own = wipe σ own ∧
      tst σ4 H4 fun b H5 => if b = true then val σ4 H5 fun y H6 => ∃ (c : Int) (S : Int → Bool) (n : Nat), y = .int c ∧ H6 D = some (SetO w D S n) ∧ n + 1 < scanBound ∧ T (upd H6 D (setPut w D S n c)) else T H5)
theorem addI_ok {pins : List (Addr × Obj)} {σ : L2.St} {H : Hp} {s : Shared} {E : Value → Shared → Prop} {D : Addr} {S : Int → Bool} {n : Nat} {c : Int} {tk : Tok} {R : Value → Shared → Prop}
    (I : Inv X pins σ H s) (at_ : H D = some (SetO X.w D S n)) (lt : n + 1 < scanBound) (go : ∀ s', Inv X pins σ (upd H D (setPut X.w D S n c)) s' → R .none s') : wpAny (model X.prog X.w) X.A (call (.builtin "set.add") [.ref D, .int c tk]) R E s := by
  refine setR_add (setO_get I at_) lt fun h' same new => go _ ?_
  obtain ⟨o, _, _, _, ho, _⟩ := new
  exact I.write (e := D) (t' := s.toks + 1) (by rw [at_]; trivial) (.inl rfl) (fun b u hb hu => (same.2 b hb).trans hu) ⟨o, ho⟩ (setO_new ⟨o, _, _, _, ho, by assumption⟩)
end
end Tw

namespace Tw
open PySem PySem.Spec PyProof.Rows L2
section
variable {X : Cx} {elt tg iter : Expr} {ifs : List Expr} {scope : Scope} {own : List (PySem.Str × Nat)} {pos : Pos} {src : TI} {bind : TG} {tst : TT} {val : TE}
/-- what the block's parts promise, in any block context -/
structure ScParts (X : Cx) (elt tg : Expr) (ifs : List Expr) (scope : Scope) (bind : TG) (tst : TT) (val : TE) : Prop where
  g : ∀ (s : Shared) (H : Hp) (C : Addr) (cl : List (PySem.Str × Addr)) (fp : List Addr), PG (X.blk s H scope (compEnvC scope cl C X.env) fp) tg bind
  t : ∀ (s : Shared) (H : Hp) (C : Addr) (cl : List (PySem.Str × Addr)) (fp : List Addr), PTs (X.blk s H scope (compEnvC scope cl C X.env) fp) ifs tst
  e : ∀ (s : Shared) (H : Hp) (C : Addr) (cl : List (PySem.Str × Addr)) (fp : List Addr), PE (X.blk s H scope (compEnvC scope cl C X.env) fp) elt val
theorem pe_scI (calm : X.calm = true) (nd : X.N.Nodup) (hi : PI X tg iter src) (ok : BlkOk X.N X.env.scope scope own) (B : ScParts X elt tg ifs scope bind tst val)
    (nf : ∀ x, foldedSetIterable iter X.env x = pure x := by intro _; rfl) : PE X (.SetComp elt [⟨tg, iter, ifs, 0⟩] scope pos) (tScI X.w src bind tst val (own.map (·.2))) := by
  refine ⟨fun pins s σ H Q I wish => ?_⟩
  rw [PpSet.eval_SetComp]
  refine wpAny_comprehension_free (use := none) rfl nf (closure_ok fun y hy e => (ok.free y hy e).elim (fun k => I.ok.has _ (.inl k)) fun k => I.ok.has _ (.inr k)) ok.kind
    (fun y hy e => by rw [ok.uniq y hy, e]) (thn (hi.run pins s σ H _ I wish) fun xv sa ga => thn ga fun iv sb gb => ?_)
  obtain ⟨it, fp, tn, J, Hb, rfl, Ib, T, t0, free, rest⟩ := gb
  refine PpSet.newSet_ok (newEnv_comp ?_)
  -- the new set
  obtain ⟨D, eD⟩ : ∃ D, sb.heap.objs.size = D := ⟨_, rfl⟩
  have nD : Hb D = none := Ib.hok.fresh (Nat.le_of_eq eD)
  obtain ⟨W, ⟨m0, w0⟩, turn⟩ := rest D nD
  obtain ⟨sc, esc⟩ : ∃ sc : Shared, ({ sb with heap := sb.heap.push { cls := .type "set", dict := none, data := .set #[] 0 (.fresh 0 0 (!X.w.params.followText "set-order")) } } : Shared) = sc := ⟨_, rfl⟩
  have hsc : sc.heap = sb.heap.push { cls := .type "set", dict := none, data := .set #[] 0 (.fresh 0 0 (!X.w.params.followText "set-order")) } := by rw [← esc]
  have Ic : Inv X pins σ (upd Hb D (SetO X.w D (fun _ => false) 0)) sc := by
    subst esc
    subst eD
    exact Ib.laid (t' := sb.toks) (fun b o e => Heap.get?_push_of_some _ e) (Nat.le_refl _) (setO_new (setR_fresh X.w))
  have small : ∀ a ∈ fp, a < sb.heap.objs.size := fun a ha => let ⟨_, e, _⟩ := T.obj _ _ t0 a ha; Heap.lt_size e
  have freeC : ∀ a ∈ fp, FpOk X pins (upd Hb D (SetO X.w D (fun _ => false) 0)) a ∧ a < sc.heap.objs.size := fun a ha => by
    have lt := small a ha
    have ne : a ≠ D := by rw [← eD]; exact Nat.ne_of_lt lt
    refine ⟨⟨(upd_ne ne).trans (free a ha).1, (free a ha).2⟩, ?_⟩
    rw [hsc, Heap.size_push]
    exact Nat.lt_succ_of_lt lt
  have tc : tn 0 sc.heap := T.keep _ _ _ t0 fun a _ o e => by
    rw [hsc]
    exact Heap.get?_push_of_some _ e
  have Id := block_start Ic ok nd freeC
  obtain ⟨Hc, eHc⟩ : ∃ Hc, upd Hb D (SetO X.w D (fun _ => false) 0) = Hc := ⟨_, rfl⟩
  obtain ⟨cl, ecl⟩ : ∃ cl, cellsFrom (sc.heap.objs.size + 1) scope.names (cloFrom X.env.cells scope.names []) = cl := ⟨_, rfl⟩
  have pg := B.g sc Hc sc.heap.objs.size cl fp
  have pt := B.t sc Hc sc.heap.objs.size cl fp
  have pe := B.e sc Hc sc.heap.objs.size cl fp
  show codeAny _ _ (.compStart (.SetComp elt [⟨tg, iter, ifs, 0⟩] scope pos) 0 (.ref it) (.ref sb.heap.objs.size) (compEnvC scope (cellsFrom ((sb.heap.push { cls := .type "set", dict := none, data := .set #[] 0 (.fresh 0 0 (!X.w.params.followText "set-order")) }).objs.size + 1) scope.names (cloFrom X.env.cells scope.names [])) (sb.heap.push { cls := .type "set", dict := none, data := .set #[] 0 (.fresh 0 0 (!X.w.params.followText "set-order")) }).objs.size X.env)) _ _
  rw [← hsc, ecl, eD]
  rw [eHc] at w0 Ic Id freeC
  rw [ecl] at Id
  obtain ⟨ce, ece⟩ : ∃ ce, compEnvC scope cl sc.heap.objs.size X.env = ce := ⟨_, rfl⟩
  have locs : ce.locals = sc.heap.objs.size := by rw [← ece]; rfl
  rw [ece] at pg pt pe Id ⊢
  obtain ⟨sd, esd⟩ : ∃ sd : Shared, ({ sc with heap := pushCells (sc.heap.push { cls := .type "dict", data := .dict #[] }) scope.names } : Shared) = sd := ⟨_, rfl⟩
  have td : tn 0 sd.heap := T.keep _ _ _ tc fun a _ o e => by
    rw [← esd]
    exact pushCells_keeps _ _ _ _ (Heap.get?_push_of_some _ e)
  rw [esd] at Id
  have nfp : ∀ a ∈ fp, Hc a = none := fun a ha => (freeC a ha).1.1
  -- the iterator's objects are out of reach
  have out : ∀ {σ' : L2.St} {H' : Hp} {s' : Shared}, Inv (X.blk sc Hc scope ce fp) [] σ' H' s' → (∀ a ∈ fp, H' a = none) → ∀ a ∈ fp, FpOk (X.blk sc Hc scope ce fp) [] H' a := fun {σ' H' s'} I' n a ha =>
    ⟨n a ha, (I'.ok.exf a ha).1, I'.ok.exfs a ha, .inl ha, fun x c e => (I'.ok.exf a ha).2 x c e, fun p hp => by cases (show p ∈ ([] : List (Addr × Obj)) from hp)⟩
  have loop : codeAny (model X.prog X.w) X.A (.compLoop (.SetComp elt [⟨tg, iter, ifs, 0⟩] scope pos) 0 (.ref it) (.ref D) ce) (compPost (model X.prog X.w) X.A X.xe none (EP X pins σ Q) (.ref D) sc.heap.objs.size) sd := by
    refine PpSet.compLoopS_any (fun k s' => ∃ i H', W i k H' ∧ tn i s'.heap ∧ (∀ a ∈ fp, H' a = none) ∧ Inv (X.blk sc Hc scope ce fp) [] (wipe σ (own.map (·.2))) H' s') ?_ m0 ⟨0, Hc, w0, td, nfp, Id⟩
    rintro k s5 ⟨i, H5, w5, t5, n5, I5⟩
    rcases turn i k H5 w5 with ⟨stop, done⟩ | ⟨more, Tn, lower, step⟩
    · refine thnF (T.done (X.blk sc Hc scope ce fp) rfl rfl rfl calm i [] s5 _ H5 (fun _ _ => False) I5 (out I5 n5) t5 stop) fun r s6 ⟨er, I6⟩ => ?_
      subst er
      have I7 : Inv X pins σ H5 s6 := Ic.call' (ch := fp) I6.os I6.base I6.hok I6.bare fun a ha => ⟨(freeC a ha).1.2.2.2.1, (freeC a ha).1.2.1, (freeC a ha).1.2.2.2.2.1, (freeC a ha).1.2.2.2.2.2⟩
      obtain ⟨m, ns, _⟩ := I6.loc
      have nC : H5 ce.locals = none := I6.free
      have ns : s6.heap.Ns ce.locals m := ns
      rw [locs] at nC ns
      obtain ⟨f0, f1, f2, f3, f4, f5⟩ := Ic.fpOk (Nat.le_refl _) nC
      exact ⟨m, ns, fun h'' sb'' => ⟨.ref D, H5, I7.turned (t' := s6.toks) (fun a o ha e => (sb''.2 a ha).trans e) f0 f1 f3 f4 f5, rfl, done⟩⟩
    · refine thnF (T.item (X.blk sc Hc scope ce fp) rfl rfl rfl calm i [] s5 _ H5 (fun _ _ => False) I5 (out I5 n5) t5 more) fun r s6 ⟨u, er, g6⟩ => ?_
      subst er
      refine thnF g6 fun _ s7 ⟨x, H7, I7, rx, y7, t7, n7⟩ => ?_
      have I7' := I7.pinned (out I7 n7) (T.obj _ _ t7)
      refine thnF (pg.run _ s7 _ H7 x u _ I7' rx (step x H7 y7)) fun _ s8 ⟨σ8, H8, I8, same8, g8⟩ => ?_
      refine thnF (pt.run _ s8 σ8 H8 _ I8 g8) fun b s9 ⟨H9, I9, g9⟩ => ?_
      have last : ∀ {s' : Shared} {H' : Hp}, Inv (X.blk sc Hc scope ce fp) ([] ++ pinsAt fp s7.heap) σ8 H' s' → Tn H' → ∃ m, m < k ∧ ∃ i H', W i m H' ∧ tn i s'.heap ∧ (∀ a ∈ fp, H' a = none) ∧ Inv (X.blk sc Hc scope ce fp) [] (wipe σ (own.map (·.2))) H' s' := fun {s' H'} J tn' => by
        obtain ⟨m', lt, w'⟩ := lower H' tn'
        have keepP : ∀ a ∈ fp, ∀ o, s7.heap.get? a = some o → s'.heap.get? a = some o ∧ H' a = none := fun a ha o e =>
          let z := J.pin (a, o) (List.mem_append_right _ (List.mem_append_right _ (mem_pinsAt ha e)))
          ⟨z.1, z.2.1⟩
        refine ⟨m', lt, i + 1, H', w', T.keep _ _ _ t7 fun a ha o e => (keepP a ha o e).1, fun a ha => let ⟨o, e, _⟩ := T.obj _ _ t7 a ha; (keepP a ha o e).2, ?_⟩
        refine (J.unpinned (pins := [])).weak (by rw [← same8, wipe_length]) fun j v e => ?_
        rw [← same8] at e
        exact (wipe_some e).1
      cases b with
      | false => exact last I9 g9
      | true =>
        have g9 : val σ8 H9 _ := g9
        refine thnF (pe.run _ s9 σ8 H9 _ I9 g9) fun z s10 ⟨yv, H10, I10, rz, c, S0, n0, ey, e10, lt10, g10⟩ => ?_
        subst ey
        obtain ⟨tk, rfl⟩ := (show ∃ tk, z = Value.int c tk from rz)
        exact addI_ok (X := X.blk sc Hc scope ce fp) I10 e10 lt10 fun s11 I11 => last I11 g10
  have fin := PpSet.codeAny_compStart_set loop (T.self X.A 0 _ _ _ td loop)
  rw [← esd] at fin
  subst esc
  exact fin
end
end Tw

namespace Tw
open PySem PySem.Spec PyProof.Rows L2
/-- a new, empty set object -/
abbrev set0 (w : World) : Obj := { cls := .type "set", dict := none, data := .set #[] 0 (.fresh 0 0 (!w.params.followText "set-order")) }
section
variable {P : Program} {w : World} {A : Around} {E : Value → Shared → Prop} {s : Shared} {l : Addr} {vs : Array Value}
/-- what set.__init__ does with a list of ints -/
theorem set_fill {ns : List Int} {m : Shared} {a : Addr} (at_ : m.heap.get? a = some (set0 w)) (low : l < a) (top : m.heap.objs.size = a + 1) (hh : A.handled = none) (hl : m.heap.IsList l vs) (hint : IntsAre vs.toList ns) (lt : ns.length + 1 < scanBound) :
    codeAny (model P w) A (.call (.builtin "set.__init__") ⟨[.ref a, .ref l], []⟩) (wants (fun r m' => r = .none ∧ ∃ h tk c, m' = { m with heap := h, toks := tk } ∧ SetR w h a (fun j => decide (j ∈ ns)) c ∧ c ≤ ns.length ∧ ∀ b o, b < a → m.heap.get? b = some o → h.get? b = some o) E) m := by
  have len : vs.size = ns.length := by
    rw [← IntsAre.length hint, Array.length_toList]
  refine codeAny_call_builtin F.called_set.init.plain F.entry_set_init (check_set_init_1 ⟨_, at_, rfl⟩ ?_)
  have isl := hl
  obtain ⟨o, get, ocls, cap, odata⟩ := hl
  obtain ⟨c1, d1, x1, y1⟩ := o
  cases ocls
  cases odata
  have e1 := F.sub_list_set
  have e2 := F.sub_list_frozenset
  have e3 : (Value.type "list" == Value.type "dict") = false := by decide
  unfold Builtin.«set.__init__» noKeywords Builtin.Frozenset.updateFrom
  generalize eI : pyIter = J
  wp_walk
  subst eI
  refine wpAny_pyIter_list isl (wpAny_bind (wpAny_runValue ?_))
  have sz : m.heap.objs.size = a + 1 := top
  have nl : l ≠ m.heap.objs.size := by rw [sz]; exact Nat.ne_of_lt (Nat.lt_succ_of_lt low)
  have na : a ∉ [m.heap.objs.size, l] := by
    rw [sz]
    intro z
    rcases List.mem_cons.mp z with z | z
    · exact Nat.ne_of_lt (Nat.lt_succ_self a) z
    · exact Nat.ne_of_gt low (List.mem_singleton.mp z)
  have item : ∀ (i : Nat) (v : Value), vs[i]? = some v → ∃ k t, ns[i]? = some k ∧ v = .int k t := fun i v e => by
    have lt : i < ns.length := by rw [← len]; exact (Array.getElem?_eq_some_iff.mp e).1
    obtain ⟨t, et⟩ := IntsAre.int_at hint i v (by rw [Array.getElem?_toList]; exact e)
    rw [List.getD_eq_getElem?_getD, List.getElem?_eq_getElem lt] at et
    exact ⟨_, t, List.getElem?_eq_getElem lt, et⟩
  have h3 : A.in1.in1.handled = none := by simp [hh]
  refine set_update_ints ((Walks.list h3 _ l nl vs).toS) a na ns len lt item vs.size 0 _ (Nat.sub_zero _) (Nat.zero_le _) ⟨⟨_, Heap.get?_push_size _ rfl, rfl, rfl⟩, isl.push _⟩ ⟨0, Nat.le_refl 0, setR_new_at (Heap.get?_push_of_some _ at_)⟩ fun m' c moved lec R => ?_
  obtain ⟨h1, g1, dr1, tk1, os1⟩ := m'
  obtain rfl : g1 = m.gens := moved.gens
  obtain rfl : dr1 = m.drawn := moved.drawn
  obtain rfl : os1 = m.os := moved.os
  refine wpAny_pure (wpAny_pure ⟨rfl, h1, tk1, c, rfl, R, by rw [← len]; exact lec, fun b o lt e => ?_⟩)
  refine moved.heap b o (fun z => ?_) (Heap.get?_push_of_some _ e)
  rcases List.mem_cons.mp z with z | z
  · exact Nat.ne_of_lt lt z
  · rw [List.mem_singleton.mp z, sz] at lt
    exact Nat.lt_irrefl _ (Nat.lt_of_lt_of_le lt (Nat.le_succ a))
end
end Tw

namespace Tw
open PySem PySem.Spec PyProof.Rows L2
section
variable {P : Program} {w : World} {A : Around} {E : Value → Shared → Prop} {s : Shared} {l : Addr} {vs : Array Value}
theorem set_of_list {ns : List Int} {Q : Value → Shared → Prop} (hh : A.handled = none) (hl : s.heap.IsList l vs) (hint : IntsAre vs.toList ns) (lt : ns.length + 1 < scanBound)
    (go : ∀ (h : Heap) (tk c : Nat), SetR w h s.heap.objs.size (fun j => decide (j ∈ ns)) c → c ≤ ns.length → (∀ b o, s.heap.get? b = some o → h.get? b = some o) → Q (.ref s.heap.objs.size) { s with heap := h, toks := tk }) :
    wpAny (model P w) A (call (.type "set") [.ref l]) Q E s := by
  have low : l < s.heap.objs.size := by
    obtain ⟨o, e, _⟩ := hl
    exact Heap.lt_size e
  have f1 := F.called_set.made
  have f2 := F.called_set.sub
  have f3 := F.called_set.notType
  have f4 := F.called_set.canCreate
  have f5 := F.typeCall_set_1 (.ref l)
  have f6 := F.called_set.init.lookup
  obtain ⟨c0, t0, f7⟩ := F.called_set.mro
  refine wpAny_call (codeAny_of_tree (wpAny_pure ⟨Code.quiet_builtin _ (by decide +kernel), codeAny_builtin F.entry_type_call ?_⟩))
  rw [Around.under_plain (weight_type_call_type "set" [.ref l] []) rfl]
  repeat (any_goals (first | assumption | wp_step))
  refine codeAny_mono (code_set_led1 (.ref l) (E := E) (Q₁ := fun x m => x = .ref s.heap.objs.size ∧ m = { s with heap := s.heap.push (set0 w) }) ⟨rfl, rfl⟩) fun r m hm => ?_
  rcases r with e | (_ | x | _ | _) <;> first | exact hm | exact hm.elim | skip
  obtain ⟨rfl, rfl⟩ := hm
  have at_ : (s.heap.push (set0 w)).get? s.heap.objs.size = some (set0 w) := Heap.get?_push_size _ rfl
  have ty : Shared.TypeIs { s with heap := s.heap.push (set0 w) } (.ref s.heap.objs.size) "set" := ⟨_, at_, rfl⟩
  have f8 := F.called_set.init.bind (.ref s.heap.objs.size)
  repeat (any_goals (first | assumption | wp_step))
  refine codeAny_mono (set_fill (E := E) (m := { s with heap := s.heap.push (set0 w) }) at_ low (Heap.size_push ..) (by simp [hh]) (hl.push _) hint lt) fun r m' hm' => ?_
  rcases r with e | (_ | x | _ | _) <;> first | exact hm' | exact hm'.elim | skip
  obtain ⟨rfl, h, tk, c, rfl, R, lec, keep⟩ := hm'
  repeat (any_goals (first | assumption | wp_step))
  exact go h tk c R lec fun b o e => keep b o (Heap.lt_size e) (Heap.get?_push_of_some _ e)
end
section
variable {X : Cx}
/-- set(xs), xs a list of ints -/
theorem cr_setL (calm : X.calm = true) : CallR X (.type "set") (fun xs H Q => ∃ (a : Addr) (ns : List Int), xs = [.ref a] ∧ H a = some (.lst (ns.map V.int)) ∧ ns.length + 1 < scanBound ∧
    ∀ p c, H p = none → c ≤ ns.length → Q (.ref p) (upd H p (SetO X.w p (fun j => decide (j ∈ ns)) c))) := by
  intro pins s σ H xs us Q I r wish
  obtain ⟨a, ns, rfl, ha, lt, q⟩ := wish
  rw [Vals.ref1 r]
  obtain ⟨its, cap, rv, get, _⟩ := I.lst ha
  refine set_of_list (vs := its.toArray) (I.ok.hd calm) ⟨_, get, rfl, cap, rfl⟩ (by simpa using Vals.ints rv) lt fun h tk c R lec keep => ?_
  exact ⟨.ref s.heap.objs.size, _, I.laid (t' := tk) keep (Nat.le_refl _) (setO_new R), rfl, q _ c (I.hok.fresh (Nat.le_refl _)) lec⟩
end
end Tw

namespace Tw
open PySem PySem.Spec PyProof.Rows L2
/-! ### level by level -/
/-- what is seen before level n, and level n -/
def lvl (ts : List (Int × Int × Int)) (gs : List Int) : Nat → (Int → Bool) × (Int → Bool)
  | 0 => (fun _ => false, fun x => decide (x ∈ gs))
  | n + 1 => (fun x => (lvl ts gs n).1 x || (lvl ts gs n).2 x, fun x => !((lvl ts gs n).1 x || (lvl ts gs n).2 x) && ts.any fun t => decide (t.1 = x) && (lvl ts gs n).2 t.2.1)
def seen (ts : List (Int × Int × Int)) (gs : List Int) (n : Nat) (x : Int) : Bool := (lvl ts gs n).1 x
def lev (ts : List (Int × Int × Int)) (gs : List Int) (n : Nat) (x : Int) : Bool := (lvl ts gs n).2 x
/-- the level at which x is met, below n -/
def farF (ts : List (Int × Int × Int)) (gs : List Int) : Nat → Int → Option Nat
  | 0, _ => none
  | n + 1, x => if lev ts gs n x = true then some n else farF ts gs n x
section
variable {ts : List (Int × Int × Int)} {gs : List Int}
theorem seen_zero (x : Int) : seen ts gs 0 x = false := rfl
theorem lev_zero (x : Int) : lev ts gs 0 x = decide (x ∈ gs) := rfl
theorem seen_succ (n : Nat) (x : Int) : seen ts gs (n + 1) x = (seen ts gs n x || lev ts gs n x) := rfl
theorem lev_succ (n : Nat) (x : Int) : lev ts gs (n + 1) x = (!(seen ts gs (n + 1) x) && ts.any fun t => decide (t.1 = x) && lev ts gs n t.2.1) := rfl
theorem lev_new {n : Nat} {x : Int} (h : lev ts gs n x = true) : seen ts gs n x = false := by
  cases n with
  | zero => rfl
  | succ n =>
    rw [lev_succ, Bool.and_eq_true] at h
    simpa using h.1
theorem far_none {n : Nat} {x : Int} : farF ts gs n x = none ↔ seen ts gs n x = false := by
  induction n with
  | zero => exact ⟨fun _ => rfl, fun _ => rfl⟩
  | succ n ih =>
    rw [seen_succ]
    unfold farF
    cases h : lev ts gs n x with
    | true => simp
    | false => simp [ih]
/-- what leads to a goal -/
inductive Rch (ts : List (Int × Int × Int)) (gs : List Int) : Int → Prop
  | goal {x : Int} : x ∈ gs → Rch ts gs x
  | step {x e r : Int} : (x, e, r) ∈ ts → Rch ts gs e → Rch ts gs x
theorem rch_of (n : Nat) : (∀ x, seen ts gs n x = true → Rch ts gs x) ∧ ∀ x, lev ts gs n x = true → Rch ts gs x := by
  induction n with
  | zero => exact ⟨fun x h => (by cases h), fun x h => .goal (of_decide_eq_true h)⟩
  | succ n ih =>
    refine ⟨fun x h => ?_, fun x h => ?_⟩
    · rw [seen_succ, Bool.or_eq_true] at h
      exact h.elim (ih.1 x) (ih.2 x)
    · rw [lev_succ, Bool.and_eq_true, List.any_eq_true] at h
      obtain ⟨_, ⟨a, e, r⟩, ht, h2⟩ := h
      rw [Bool.and_eq_true] at h2
      obtain rfl : a = x := of_decide_eq_true h2.1
      exact .step ht (ih.2 _ h2.2)
theorem closed (n : Nat) : (∀ x ∈ gs, seen ts gs (n + 1) x = true) ∧ ∀ x e r, (x, e, r) ∈ ts → seen ts gs n e = true → seen ts gs n x = true ∨ lev ts gs n x = true := by
  induction n with
  | zero => exact ⟨fun x h => by rw [seen_succ, lev_zero, decide_eq_true h, Bool.or_true], fun x e r _ h => by cases h⟩
  | succ n ih =>
    refine ⟨fun x h => by rw [seen_succ, ih.1 x h]; rfl, fun x e r ht h => ?_⟩
    by_cases hx : seen ts gs (n + 1) x = true
    · exact .inl hx
    · refine .inr ?_
      rw [seen_succ, Bool.or_eq_true] at h
      rcases h with h | h
      · rcases ih.2 x e r ht h with h | h
        · exact absurd (by rw [seen_succ, h]; rfl) hx
        · exact absurd (by rw [seen_succ, h, Bool.or_true]) hx
      · rw [lev_succ, Bool.and_eq_true, List.any_eq_true]
        exact ⟨by simpa using hx, (x, e, r), ht, by rw [h, decide_eq_true rfl]; rfl⟩
theorem seen_rch {n : Nat} (hn : ∀ x, lev ts gs n x = false) (x : Int) : seen ts gs n x = true ↔ Rch ts gs x := by
  refine ⟨(rch_of n).1 x, fun h => ?_⟩
  induction h with
  | goal h =>
    have := (closed (ts := ts) (gs := gs) n).1 _ h
    rwa [seen_succ, hn, Bool.or_false] at this
  | step ht _ ih =>
    rcases (closed n).2 _ _ _ ht ih with h | h
    · exact h
    · rw [hn] at h; cases h
/-- numbers of stations, with room -/
def U60 (x : Int) : Prop := 0 ≤ x ∧ x < 60
theorem nodup_le : ∀ {l m : List Int}, l.Nodup → (∀ x ∈ l, x ∈ m) → l.length ≤ m.length
  | [], _, _, _ => Nat.zero_le _
  | a :: l, m, h, s => by
    have ha := s a List.mem_cons_self
    have h2 := List.nodup_cons.mp h
    have := nodup_le (l := l) (m := m.erase a) h2.2 fun x hx => (List.mem_erase_of_ne (fun e => by subst e; exact h2.1 hx)).mpr (s x (List.mem_cons_of_mem _ hx))
    rw [List.length_erase_of_mem ha] at this
    have hm : 0 < m.length := List.length_pos_of_mem ha
    rw [List.length_cons]
    omega
theorem u60_le {l : List Int} (h : l.Nodup) (u : ∀ x ∈ l, U60 x) : l.length ≤ 60 := by
  have := nodup_le (m := (List.range 60).map Int.ofNat) h fun x hx => by
    have hu := u x hx
    refine List.mem_map.mpr ⟨x.toNat, List.mem_range.mpr ?_, ?_⟩
    · have := hu.2; have := hu.1; omega
    · exact Int.toNat_of_nonneg hu.1
  rwa [List.length_map, List.length_range] at this
theorem u60_of (ug : ∀ x ∈ gs, U60 x) (ut : ∀ t ∈ ts, U60 t.1) (n : Nat) : (∀ x, seen ts gs n x = true → U60 x) ∧ ∀ x, lev ts gs n x = true → U60 x := by
  have r : ∀ x, Rch ts gs x → U60 x := fun x h => by
    induction h with
    | goal h => exact ug _ h
    | step ht _ _ => exact ut _ ht
  exact ⟨fun x h => r x ((rch_of n).1 x h), fun x h => r x ((rch_of n).2 x h)⟩
end
theorem in_ints (k : Int) (ns : List Int) : inV (.int k) (ns.map V.int) = decide (k ∈ ns) := by
  induction ns with
  | nil => rfl
  | cons n ns ih =>
    show ((n == k) || inV (.int k) (ns.map V.int)) = _
    rw [ih]
    by_cases h : k = n
    · subst h; simp
    · have h2 : (n == k) = false := by simpa using fun e => h e.symm
      rw [h2, Bool.false_or]
      by_cases h3 : k ∈ ns
      · rw [decide_eq_true h3, decide_eq_true (List.mem_cons_of_mem _ h3)]
      · rw [decide_eq_false h3, decide_eq_false]
        intro z
        rcases List.mem_cons.mp z with z | z
        · exact h z
        · exact h3 z
end Tw

namespace Tw
open PySem PySem.Spec PyProof.Rows L2
/-- over a list that stays: T at turn i is what the next turn begins with -/
theorem scI_list {w : World} {K : PySem.W.Frag} {a D : Addr} {xs : List V} {bind : TG} {tst : TT} {val : TE} {own : List Nat} {σ : L2.St} {H1 : Hp} {Qd : Hp → Prop} (T : Nat → Hp → Prop) (start : T 0 (upd H1 D (SetO w D (fun _ => false) 0)))
    (stays : ∀ i H, T i H → SqL K H a xs)
    (step : ∀ i x H, xs[i]? = some x → T i H → bind x (wipe σ own) H fun σ4 H4 => wipe σ4 own = wipe σ own ∧ tst σ4 H4 fun b H5 => if b = true then val σ4 H5 fun y H6 => ∃ (c : Int) (S : Int → Bool) (n : Nat), y = .int c ∧ H6 D = some (SetO w D S n) ∧ n + 1 < scanBound ∧ T (i + 1) (upd H6 D (setPut w D S n c)) else T (i + 1) H5)
    (done : ∀ H, T xs.length H → Qd H) :
    ∃ W : Nat → Nat → Hp → Prop, (∃ m, W 0 m (upd H1 D (SetO w D (fun _ => false) 0))) ∧ ∀ i m H2, W i m H2 → ((Itl K a).stop i H2 ∧ Qd H2) ∨
      ((Itl K a).go i H2 ∧ ∃ T' : Hp → Prop, (∀ H', T' H' → ∃ m', m' < m ∧ W (i + 1) m' H') ∧ ∀ x H3, (Itl K a).yld i H2 x H3 → bind x (wipe σ own) H3 fun σ4 H4 => wipe σ4 own = wipe σ own ∧
        tst σ4 H4 fun b H5 => if b = true then val σ4 H5 fun y H6 => ∃ (c : Int) (S : Int → Bool) (n : Nat), y = .int c ∧ H6 D = some (SetO w D S n) ∧ n + 1 < scanBound ∧ T' (upd H6 D (setPut w D S n c)) else T' H5) := by
  refine ⟨fun i m H => i + m = xs.length ∧ T i H, ⟨_, Nat.zero_add _, start⟩, ?_⟩
  rintro i m H ⟨em, t⟩
  have sq := stays i H t
  cases m with
  | zero =>
    have e : i = xs.length := em
    exact .inl ⟨⟨xs, sq, by omega⟩, done H (e ▸ t)⟩
  | succ m =>
    have lt : i < xs.length := by omega
    refine .inr ⟨⟨xs, xs[i], sq, List.getElem?_eq_getElem lt⟩, T (i + 1), fun H' t' => ⟨m, Nat.lt_succ_self m, by omega, t'⟩, ?_⟩
    rintro x H3 ⟨rfl, at_⟩
    exact step i x _ (at_ xs sq) t
theorem flat_ints' (ns : List Int) : (ns.map V.int).all flatV = true := by
  rw [List.all_map, List.all_eq_true]
  intro _ _
  rfl
theorem nth_int {ns : List Int} {i : Nat} {x : V} (h : (ns.map V.int)[i]? = some x) : ∃ k, ns[i]? = some k ∧ x = .int k := by
  rw [List.getElem?_map] at h
  cases e : ns[i]? with
  | none => rw [e] at h; cases h
  | some k => rw [e] at h; exact ⟨k, rfl, (Option.some.inj h).symm⟩
/-- a set of ints, its members in a list -/
theorem setPut_list {w : World} {D : Addr} {l : List Int} {c : Int} : ∃ l' : List Int, setPut w D (fun x => decide (x ∈ l)) l.length c = SetO w D (fun x => decide (x ∈ l')) l'.length ∧ (∀ x, x ∈ l' ↔ x ∈ l ∨ x = c) ∧ (l.Nodup → l'.Nodup) := by
  by_cases h : c ∈ l
  · refine ⟨l, ?_, fun x => ⟨.inl, fun z => z.elim id fun e => e ▸ h⟩, id⟩
    show SetO w D _ (if decide (c ∈ l) = true then l.length else l.length + 1) = _
    rw [if_pos (decide_eq_true h)]
    congr 1
    funext x
    by_cases hx : x = c
    · subst hx; simp [h]
    · simp [hx]
  · refine ⟨c :: l, ?_, fun x => ⟨fun z => (List.mem_cons.mp z).elim .inr .inl, fun z => List.mem_cons.mpr (z.elim .inr .inl)⟩, fun nd => List.nodup_cons.mpr ⟨h, nd⟩⟩
    show SetO w D _ (if decide (c ∈ l) = true then l.length else l.length + 1) = _
    rw [if_neg (by simpa using h)]
    congr 1
    funext x
    simp [Bool.or_comm, eq_comm]
end Tw

namespace Tw
open PySem PySem.Spec PyProof.Rows L2
section
variable {X : Cx} {W : WX}
/-- the slots are as many as the names -/
theorem takes_len (tk : L2N.Takes X W) : L2N.Takes X (fun cls d σ H => σ.length = X.N.length → W cls d σ H) := fun u s' ⟨a, B, sI, pins, σ, H, cls, d, e, I, nb, up, sky, na, os, ag, q⟩ =>
  tk u s' ⟨a, B, sI, pins, σ, H, cls, d, e, I, nb, up, sky, na, os, ag, q I.len⟩
/-- what a try's body lets out, said without the slots -/
theorem passes_len (tk : L2N.Takes X W) : Passes (L2N.CX X.prog X.w) X (fun cls d H => ∀ σ : L2.St, σ.length = X.N.length → W cls d σ H) := L2N.passes_call (takes_len tk) fun _ _ σ _ h => h σ
/-- a def that may raise, where it does not -/
theorem passes_not : Passes (L2N.CX X.prog X.w) X E0 := L2N.passes_call (W := fun _ _ _ _ => False) (fun _ _ z => by
  obtain ⟨_, _, _, _, _, _, _, _, _, _, _, _, _, _, _, _, no⟩ := z
  exact no.elim) fun _ _ _ _ h => h
end
section
variable {X : Cx} {CX : CXT} {k i : Nat} {f C : Addr} {fd : FuncData} {ps : List Str} {sp : Sp} {E : XK} {x : Str} {p pos : Pos} {e : Expr} {es : List Expr} {t : TA}
/-- a name of the frame that is a class, called -/
def tMkL (i : Nat) (C : Addr) (sp : Sp) (E : XK) (t : TA) : TE := fun σ H Q => σ[i]? = some (some (.ref C)) ∧ t σ H fun vs H1 => ∀ a dx, H1 a = none → H1 dx = none → dx ≠ a → sp (.ref a :: (vs ++ [])) (upd (upd H1 dx (.own a)) a (.ins C dx [])) (fun v H2 => v = .non ∧ Q (.ref a) H2) E
theorem pe_mkL (i : Nat) (M : Mk X.K C f) (F : FnOk X.prog X.w X.K X.mg X.base CX k f fd ps sp) (hr : Room (k + 1) X.A) (hb : Binds X.K fd ps []) (hx : Passes CX X E) (ha : PA X (e :: es) t) (hN : X.N[i]? = some x := by rfl) (hv : Vis X.env.scope x := by first | exact Or.inl rfl | exact Or.inr (Or.inl rfl))
    (h1 : (x == ("__debug__" : Str)) = false := by decide) (h2 : (x == ("__classdict__" : Str)) = false := by decide) (h3 : starEach (e :: es) X.env = (false, eval e X.env) :: starEach es X.env := by rfl) (h4 : (backTo pos (starEach es X.env)).any (·.1) = false := by rfl) :
    PE X (.Call (.Name x p) (e :: es) [] pos) (tMkL i C sp E t) := by
  refine ⟨fun pins s σ H Q I wish => ?_⟩
  obtain ⟨at_, w⟩ := wish
  refine wpAny_Call_Name_kw (thn ((pe_var (pos := p) hN hv h1 h2).run pins s σ H (fun v H1 => v = .ref C ∧ H1 = H) I ⟨.ref C, at_, rfl, rfl⟩) fun u s1 got => ?_)
  obtain ⟨_, _, I1, ru, rfl, rfl⟩ := got
  obtain rfl : u = Value.ref C := ru
  exact PySem.W.callWith_K (h₀ := X.base) I1.ok.mod.kin M.kp (thn (ha.run pos pins s1 σ _ _ I1 w) fun us s2 ⟨vs, H2, I2, rv, q⟩ => ⟨I2.kIn, run_make M F hr hb .nil hx I2 rv q⟩) h3 h4
end
end Tw

namespace Tw
open PySem PySem.Spec PyProof.Rows L2
section
variable {X : Cx}
/-- range(n) as a value -/
theorem cr_range1 : CallR X (.type "range") (fun vs H Q => ∃ n, vs = [.int n] ∧ ∀ p, H p = none → Q (.ref p) (upd H p (.rng 0 n))) := by
  intro pins s σ H vs us Q I r wish
  obtain ⟨n, rfl, q⟩ := wish
  obtain ⟨u, rfl, t, rfl⟩ := vals1 r
  exact call_range_1 ⟨.ref s.heap.objs.size, upd H s.heap.objs.size (.rng 0 n), I.laid (t' := s.toks + 1 + 1) (fun b o e => Heap.get?_push_of_some _ e) (Nat.le_refl _) ⟨s.toks, t, s.toks + 1, Heap.get?_push_size _ rfl⟩, rfl, q _ (I.hok.fresh (Nat.le_refl _))⟩
/-- list(r), r such a range -/
theorem cr_listR (calm : X.calm = true) : CallR X (.type "list") (fun vs H Q => ∃ (a : Addr) (n : Nat), vs = [.ref a] ∧ H a = some (.rng 0 (n : Int)) ∧ n ≤ 100000 ∧ ∀ p, H p = none → Q (.ref p) (upd H p (.lst ((List.range n).map fun (k : Nat) => V.int (k : Int))))) := by
  intro pins s σ H vs us Q I r wish
  obtain ⟨a, n, rfl, ha, hn, q⟩ := wish
  rw [Vals.ref1 r]
  obtain ⟨t, u, v, get⟩ := I.hok a _ ha
  refine PySem.call_list_range (a := 0) (b := (n : Int)) (c := 1) (n := n) (I.ok.hd calm) get ?_ ?_ (by omega) fun h' tk acc cap keep new items => ?_
  · exact small_one (by decide) (by decide) (by omega) (by omega)
  · rw [rangeSize_one]; split <;> omega
  · have fresh := I.hok.fresh (Nat.le_refl s.heap.objs.size)
    have hin : IntsAre acc.toList ((List.range n).map fun (k : Nat) => (k : Int)) := ints_each (by rw [List.length_map, List.length_range, Array.length_toList, items.1]) fun j x e => by
      rw [Array.getElem?_toList] at e
      obtain ⟨tk', rfl⟩ := items.2 j x e
      have lt : j < n := by
        have := (Array.getElem?_eq_some_iff.mp e).1
        rw [items.1] at this
        exact this
      refine ⟨_, tk', ?_, rfl⟩
      rw [List.getElem?_map, List.getElem?_range lt]
      show some (j : Int) = some (0 + (j : Int) * 1)
      congr 1
      omega
    have vals := vals_of_ints hin
    rw [List.map_map] at vals
    refine ⟨.ref s.heap.objs.size, upd H s.heap.objs.size (.lst ((List.range n).map fun (k : Nat) => V.int (k : Int))), I.laid (t' := tk) keep (Nat.le_refl _) ⟨?_, acc.toList, cap, vals, ?_⟩, rfl, q _ fresh⟩
    · rw [List.length_map, List.length_range, sizeLine_eq]; omega
    · rw [Array.toArray_toList]; exact new
end
end Tw

namespace Tw
open PySem PySem.Spec PyProof.Rows L2
/-! ### enumerate(a tuple) -/
abbrev enumO (i : Addr) : Obj := { cls := .type "enumerate", data := .fields #[.none, .bool false, .ref i, rawInt 0, .none, .none] }
theorem enum1_new {v : Value} {o : Obj} {G : Heap → Prop} (B : Begins v o G) :
    Meets (Builtin.«enumerate.__new__» ⟨[.type "enumerate", v], []⟩) (fun _ R s => G s.heap ∧ R (.ok (.ret (.ref (s.heap.push o).objs.size))) { s with heap := (s.heap.push o).push (enumO s.heap.objs.size) }) :=
  .of_wp fun prog w A R m wish => by
    obtain ⟨h0, g0, dr, tk, os⟩ := m
    obtain ⟨ok, wish⟩ := wish
    have sub := sub_enumerate
    have begin1 : ∀ {A' : Around} {E Q : Value → Shared → Prop}, Q (.ref h0.objs.size) ⟨h0.push o, g0, dr, tk, os⟩ → wpAny (model prog w) A' (pyIter v) Q E ⟨h0, g0, dr, tk, os⟩ := fun q => B.iter prog w _ _ ⟨h0, g0, dr, tk, os⟩ _ ok q
    wp_walk using begin1
    refine wpAny_stack_any fun _ => wpAny_pure ?_
    split
    · rename_i c _ _ _ _ _
      cases (c == Value.type "enumerate") <;> (wp_walk using begin1; exact ⟨_, rfl, wish⟩)
    · wp_walk using begin1
      exact ⟨_, rfl, wish⟩
theorem enum1_call {prog : Program} {w : World} {A : Around} {E Q : Value → Shared → Prop} {s : Shared} {v : Value} {o : Obj} {G : Heap → Prop} (B : Begins v o G) (ok : G s.heap)
    (go : ∀ h, h.get? (s.heap.objs.size + 1) = some (enumO s.heap.objs.size) → h.get? s.heap.objs.size = some o → (∀ b u, s.heap.get? b = some u → h.get? b = some u) → Q (.ref (s.heap.objs.size + 1)) { s with heap := h }) :
    wpAny (model prog w) A (call (.type "enumerate") [v]) Q E s := by
  have size1 : (s.heap.push o).objs.size = s.heap.objs.size + 1 := Heap.size_push ..
  have at1 : ((s.heap.push o).push (enumO s.heap.objs.size)).get? (s.heap.objs.size + 1) = some (enumO s.heap.objs.size) := by
    rw [← size1]
    exact Heap.get?_push_size _ rfl
  refine callType_new F.called_enumerate (by decide) (F.typeCall_enumerate_1 _) (F.newCall_enumerate_1 _) (fun x => F.args_object_init_2 x _) F.entry_enumerate_new (enum1_new B) ⟨ok, ?_⟩
  show _ ∧ _
  rw [size1]
  exact ⟨⟨_, at1, rfl⟩, go _ at1 (Heap.get?_push_of_some _ (Heap.get?_push_size _ B.free)) fun b u e => Heap.get?_push_of_some _ (Heap.get?_push_of_some _ e)⟩
/-- the tuple at a, its items in new pairs with their turns -/
def IteT (K : PySem.W.Frag) (a : Addr) : It :=
  ⟨fun i H => ∃ (xs : List V) (x : V), SqT K H a xs ∧ xs[i]? = some x, fun i H v H' => ∃ T x, v = .ref T ∧ H T = none ∧ H' = upd H T (.tup [.int (i : Nat), x]) ∧ ∀ xs, SqT K H a xs → xs[i]? = some x, fun i H => ∃ xs : List V, SqT K H a xs ∧ xs.length ≤ i⟩
/-- a tuple's iterator that has come to its end -/
theorem draws_out {prog : Program} {w : World} {A : Around} {it a : Addr} {i : Nat} {items : Array Value} (hh : A.handled = none) (out : items[i]? = none) :
    Draws prog w A it [it, a] i (fun _ _ => False) (fun j h => j = i ∧ h.IsTupleIter it a i ∧ h.IsTuple a items) where
  live := fun _ _ st => let ⟨o, ho, _⟩ := st.2.1; ⟨o, ho⟩
  frame := fun _ _ _ st k => ⟨st.1, st.2.1.at fun o q => k it List.mem_cons_self o q, st.2.2.at fun o q => k a (List.mem_cons_of_mem _ List.mem_cons_self) o q⟩
  item := fun j s Q E lt st => absurd st.1 (Nat.ne_of_lt lt)
  done := fun s Q E st q => wpAny_nextOf_tuple_end hh st.2.1 st.2.2 out q
theorem turn_enumT {P : Program} {w : World} {K : PySem.W.Frag} {es : List Expr} {c : Nat} {pos : Pos} (a e it : Addr) :
    Turn P w K (.Tuple es c pos) (IteT K a) [e, it] e (fun i h => (∃ old, IsEnum h e it ((i : Nat) : Int) old) ∧ h.IsTupleIter it a i ∧ e ≠ it ∧ a ≠ it ∧ a ≠ e) where
  mem := List.mem_cons_self
  obj := by
    rintro i h ⟨⟨old, he⟩, ⟨o, ho, _, hd⟩, _⟩ b hb
    rcases List.mem_cons.mp hb with rfl | hb
    · exact ⟨_, he, fun v z => nomatch z⟩
    · rw [List.mem_singleton.mp hb]
      exact ⟨o, ho, fun v z => by rw [hd] at z; cases z⟩
  keep := by
    rintro i h h' ⟨⟨old, he⟩, hi, n⟩ k
    exact ⟨⟨old, k e List.mem_cons_self _ he⟩, hi.at fun o q => k it (List.mem_cons_of_mem _ List.mem_cons_self) o q, n⟩
  item := by
    intro X hP hw hK calm i pins s σ H E I free st go
    subst hP hw hK
    obtain ⟨⟨old, he⟩, hi, n1, n2, n3⟩ := st
    obtain ⟨xs, x, sq, hx⟩ := go
    obtain ⟨its, rv, tp, _⟩ := I.tuple sq
    obtain ⟨u, hu, ru⟩ := rv.get hx
    have hh : X.A.in1.handled = none := by simp [I.ok.hd calm]
    have lt : i < its.toArray.size := by
      have := (List.getElem?_eq_some_iff.mp hu).1
      simpa using this
    have notin : e ∉ [it, a] := fun z => by
      rcases List.mem_cons.mp z with z | z
      · exact n1 z
      · exact n3 (List.mem_singleton.mp z).symm
    refine wpAny_pyNext_enum_itemD (Draws.tuple hh it a n2 its.toArray) he ⟨hi, tp⟩ lt n1 notin fun y h' tk hy out st' new sz keep => ?_
    have ey : y = u := by
      have : its.toArray[i]? = some u := by simpa using hu
      exact Option.some.inj (hy.symm.trans this)
    subst ey
    refine ⟨_, rfl, wpAny_letOwnedTupleGo_enum (s := { s with heap := h', toks := tk + 1 }) out fun h2 he2 sb => ?_⟩
    have le : e < s.heap.objs.size := Heap.lt_size he
    have li : it < s.heap.objs.size := by obtain ⟨_, q, _⟩ := hi; exact Heap.lt_size q
    have new2 := (sb.2 _ (Nat.ne_of_gt le)).trans new
    have I2 : Inv X pins σ (upd H s.heap.objs.size (.tup [.int (i : Nat), x])) { s with heap := h2, toks := tk + 1 } := by
      refine I.turnedNew (ch := [e, it]) (fun b ob nb q => ?_) free (Nat.le_refl _) ⟨by show 2 ≤ sizeLine; rw [sizeLine_eq]; decide, [.int i tk, y], .cons ⟨_, rfl⟩ (.cons ru .nil), ⟨_, new2, rfl, _, rfl⟩⟩
      have be : b ≠ e := fun z => nb (by rw [z]; exact List.mem_cons_self)
      have bi : b ≠ it := fun z => nb (by rw [z]; exact List.mem_cons_of_mem _ List.mem_cons_self)
      exact (sb.2 b be).trans (keep b ob be bi q)
    refine ⟨.ref s.heap.objs.size, _, I2, rfl, ⟨_, x, rfl, I.hok.fresh (Nat.le_refl _), rfl, fun zs hz => by rw [I.tuple_inj hz sq]; exact hx⟩, ⟨⟨y, ?_⟩, st'.1.at fun o q => (sb.2 it n1.symm).trans q, n1, n2, n3⟩, fun b hb => ?_⟩
    · rw [show ((i + 1 : Nat) : Int) = (i : Int) + 1 from Int.natCast_succ i]
      exact he2
    · have lb : b < s.heap.objs.size := by
        rcases List.mem_cons.mp hb with z | z
        · rw [z]; exact le
        · rw [List.mem_singleton.mp z]; exact li
      rw [upd_ne (Nat.ne_of_lt lb)]
      exact (free b hb).1
  done := by
    intro X hP hw hK calm i pins s σ H E I free st stop
    subst hP hw hK
    obtain ⟨⟨old, he⟩, hi, n1, n2, n3⟩ := st
    obtain ⟨xs, sq, hx⟩ := stop
    obtain ⟨its, rv, tp, _⟩ := I.tuple sq
    have hh : X.A.in1.handled = none := by simp [I.ok.hd calm]
    obtain ⟨f0, f1, f2, f3, f4, f5⟩ := free it (List.mem_cons_of_mem _ List.mem_cons_self)
    have out : its.toArray[i]? = none := by
      rw [List.getElem?_toArray]
      exact List.getElem?_eq_none (by rw [← rv.length]; exact hx)
    exact wpAny_pyNext_enum_endD (draws_out hh out) he ⟨rfl, hi, tp⟩ fun h' ext => ⟨rfl, I.turned (t' := s.toks) (fun b o hb q => ext b o hb q) f0 f1 f3 f4 f5⟩
  self := fun A i s Q E st q => by
    obtain ⟨⟨_, he⟩, _⟩ := st
    exact wpAny_pyIter_enum he q
def iEnumT (K : PySem.W.Frag) (ta : TA) : TI := fun σ H R => ta σ H fun vs H1 => ∃ a xs, vs = [.ref a] ∧ SqT K H1 a xs ∧ R (IteT K a) H1
theorem pi_enumT {X : Cx} {x : Expr} {ta : TA} {p pos tpos : Pos} {es : List Expr} {c : Nat} (hg : Gl X "enumerate") (hm : X.mg "enumerate" = none) (ha : PA X [x] ta) (one : starEach [x] X.env = [(false, eval x X.env)] := by rfl) :
    PI X (.Tuple es c tpos) (.Call (.Name "enumerate" p) [x] [] pos) (iEnumT X.K ta) := by
  refine ⟨fun pins s σ H R I wish => ?_⟩
  refine Call_ (ld_blt I hg hm boot_enumerate (PyProof.Rows.callWith_type1 (thn (ha.run pos pins s σ H _ I wish) fun us s1 got => ?_) one rfl))
  obtain ⟨vs, H1, I1, rv, a, xs, rfl, sq, q⟩ := got
  rw [Vals.ref1 rv]
  obtain ⟨its, _, tp, _⟩ := I1.tuple sq
  have la : a < s1.heap.objs.size := by obtain ⟨o, ho, _⟩ := tp; exact Heap.lt_size ho
  refine enum1_call (begins_tuple a its.toArray) tp fun h at1 at0 keep => wpAny_pyIter_enum at1 ?_
  have I2 : Inv X pins σ H1 { s1 with heap := h } := I1.kept (t' := s1.toks) keep
  refine ⟨s1.heap.objs.size + 1, [s1.heap.objs.size + 1, s1.heap.objs.size], _, _, H1, rfl, I2, turn_enumT a (s1.heap.objs.size + 1) s1.heap.objs.size, ⟨⟨.none, at1⟩, ⟨_, at0, rfl, rfl⟩, Nat.succ_ne_self _, Nat.ne_of_lt la, Nat.ne_of_lt (Nat.lt_succ_of_lt la)⟩, fun b hb => ?_, q⟩
  have ge : s1.heap.objs.size ≤ b := by
    rcases List.mem_cons.mp hb with z | z
    · rw [z]; exact Nat.le_succ _
    · rw [List.mem_singleton.mp z]; exact Nat.le_refl _
  exact I1.fpOk ge (I1.hok.fresh ge)
theorem walk_enumT {K : PySem.W.Frag} {a : Addr} {xs : List V} : Walk (IteT K a) xs.length (fun H => SqT K H a xs) (YPair (fun i => some (.int (i : Nat))) (fun i => xs[i]?)) :=
  ⟨fun i H lt sq => ⟨xs, xs[i], sq, List.getElem?_eq_getElem lt⟩, fun H sq => ⟨xs, sq, Nat.le_refl _⟩, fun i H v H' _ sq y => by
    obtain ⟨T, x, h1, h2, h3, h4⟩ := y
    exact ⟨T, .int (i : Nat), x, h1, h2, h3, rfl, h4 xs sq⟩⟩
end Tw

namespace Tw
open PySem PySem.Spec PyProof.Rows L2
def top (i : Nat) : Stmt := PySem.Challenge.pw_twinrope_k00_net_is_kept_or_refused.main.body.getD i (.Pass ⟨0, 0, 0, 0⟩)
abbrev BindQ (x q : Str) (st : Stmt) (ps : List Str) : Prop := ∀ (kV doc pm : Value) (an : Option Addr) (cdv ct : Value) (us : List Value), us.length = ps.length → bindArgs (PySem.W.fnOf x q (defArgs st) (defBody st) (defScope st) .none kV doc pm an cdv ct) ⟨us, []⟩ = pure (ps.zip us)
abbrev s_check_station : Stmt := top 10
theorem sc_check_station : FnScope ["net", "station"] ["net", "station"] (defScope s_check_station) := ⟨rfl, rfl, rfl, by decide +kernel, rfl, by decide +kernel, by decide +kernel⟩
theorem b_check_station : BindOk "check_station" s_check_station ["net", "station"] := fun _ _ _ _ _ _ us hl => match us, hl with | [_, _], _ => rfl
abbrev s_check_rope : Stmt := top 11
theorem sc_check_rope : FnScope ["net", "rope"] ["net", "rope"] (defScope s_check_rope) := ⟨rfl, rfl, rfl, by decide +kernel, rfl, by decide +kernel, by decide +kernel⟩
theorem b_check_rope : BindOk "check_rope" s_check_rope ["net", "rope"] := fun _ _ _ _ _ _ us hl => match us, hl with | [_, _], _ => rfl
abbrev s_check_rope_of : Stmt := top 12
theorem sc_check_rope_of : FnScope ["ropes", "rope"] ["ropes", "rope"] (defScope s_check_rope_of) := ⟨rfl, rfl, rfl, by decide +kernel, rfl, by decide +kernel, by decide +kernel⟩
theorem b_check_rope_of : BindOk "check_rope_of" s_check_rope_of ["ropes", "rope"] := fun _ _ _ _ _ _ us hl => match us, hl with | [_, _], _ => rfl
abbrev s_rope_steps : Stmt := top 14
theorem sc_rope_steps : FnScope ["ropes", "steps", "rope", "start", "end"] ["ropes"] (defScope s_rope_steps) := ⟨rfl, rfl, rfl, by decide +kernel, rfl, by decide +kernel, by decide +kernel⟩
theorem b_rope_steps : BindOk "rope_steps" s_rope_steps ["ropes"] := fun _ _ _ _ _ _ us hl => match us, hl with | [_], _ => rfl
abbrev s_turned : Stmt := top 15
theorem sc_turned : FnScope ["steps", "start", "end", "rope"] ["steps"] (defScope s_turned) := ⟨rfl, rfl, rfl, by decide +kernel, rfl, by decide +kernel, by decide +kernel⟩
theorem b_turned : BindOk "turned" s_turned ["steps"] := fun _ _ _ _ _ _ us hl => match us, hl with | [_], _ => rfl
abbrev s_distances : Stmt := top 16
theorem sc_distances : FnScope ["goals", "steps", "far", "level", "depth", "station", "start", "end", "rope"] ["goals", "steps"] (defScope s_distances) := ⟨rfl, rfl, rfl, by decide +kernel, rfl, by decide +kernel, by decide +kernel⟩
theorem b_distances : BindOk "distances" s_distances ["goals", "steps"] := fun _ _ _ _ _ _ us hl => match us, hl with | [_, _], _ => rfl
abbrev s_stations_reached : Stmt := top 17
theorem sc_stations_reached : FnScope ["starts", "steps"] ["starts", "steps"] (defScope s_stations_reached) := ⟨rfl, rfl, rfl, by decide +kernel, rfl, by decide +kernel, by decide +kernel⟩
theorem b_stations_reached : BindOk "stations_reached" s_stations_reached ["starts", "steps"] := fun _ _ _ _ _ _ us hl => match us, hl with | [_, _], _ => rfl
abbrev s_Net___init__ : Stmt := inClass (top 19) 2
theorem sc_Net___init__ : FnScope ["self", "stations", "ropes", "reached", "station", "start", "end"] ["self", "stations", "ropes"] (defScope s_Net___init__) := ⟨rfl, rfl, rfl, by decide +kernel, rfl, by decide +kernel, by decide +kernel⟩
theorem b_Net___init__ : BindQ "__init__" "Net.__init__" s_Net___init__ ["self", "stations", "ropes"] := fun _ _ _ _ _ _ us hl => match us, hl with | [_, _, _], _ => rfl
abbrev s_Net_row : Stmt := inClass (top 19) 3
theorem sc_Net_row : FnScope ["cls", "stations"] ["cls", "stations"] (defScope s_Net_row) := ⟨rfl, rfl, rfl, by decide +kernel, rfl, by decide +kernel, by decide +kernel⟩
theorem b_Net_row : BindQ "row" "Net.row" s_Net_row ["cls", "stations"] := fun _ _ _ _ _ _ us hl => match us, hl with | [_, _], _ => rfl
abbrev s_Net_ring : Stmt := inClass (top 19) 4
theorem sc_Net_ring : FnScope ["cls", "stations"] ["cls", "stations"] (defScope s_Net_ring) := ⟨rfl, rfl, rfl, by decide +kernel, rfl, by decide +kernel, by decide +kernel⟩
theorem b_Net_ring : BindQ "ring" "Net.ring" s_Net_ring ["cls", "stations"] := fun _ _ _ _ _ _ us hl => match us, hl with | [_, _], _ => rfl
abbrev s_Net_star : Stmt := inClass (top 19) 5
theorem sc_Net_star : FnScope ["cls", "stations"] ["cls", "stations"] (defScope s_Net_star) := ⟨rfl, rfl, rfl, by decide +kernel, rfl, by decide +kernel, by decide +kernel⟩
theorem b_Net_star : BindQ "star" "Net.star" s_Net_star ["cls", "stations"] := fun _ _ _ _ _ _ us hl => match us, hl with | [_, _], _ => rfl
abbrev s_Net_is_tree : Stmt := inClass (top 19) 6
theorem sc_Net_is_tree : FnScope ["self"] ["self"] (defScope s_Net_is_tree) := ⟨rfl, rfl, rfl, by decide +kernel, rfl, by decide +kernel, by decide +kernel⟩
theorem b_Net_is_tree : BindQ "is_tree" "Net.is_tree" s_Net_is_tree ["self"] := fun _ _ _ _ _ _ us hl => match us, hl with | [_], _ => rfl
abbrev s_Net_is_ring : Stmt := inClass (top 19) 7
theorem sc_Net_is_ring : FnScope ["self"] ["self"] (defScope s_Net_is_ring) := ⟨rfl, rfl, rfl, by decide +kernel, rfl, by decide +kernel, by decide +kernel⟩
theorem b_Net_is_ring : BindQ "is_ring" "Net.is_ring" s_Net_is_ring ["self"] := fun _ _ _ _ _ _ us hl => match us, hl with | [_], _ => rfl
abbrev s_Net_is_row : Stmt := inClass (top 19) 8
theorem sc_Net_is_row : FnScope ["self"] ["self"] (defScope s_Net_is_row) := ⟨rfl, rfl, rfl, by decide +kernel, rfl, by decide +kernel, by decide +kernel⟩
theorem b_Net_is_row : BindQ "is_row" "Net.is_row" s_Net_is_row ["self"] := fun _ _ _ _ _ _ us hl => match us, hl with | [_], _ => rfl
abbrev s_Net_ends : Stmt := inClass (top 19) 9
theorem sc_Net_ends : FnScope ["self", "rope"] ["self", "rope"] (defScope s_Net_ends) := ⟨rfl, rfl, rfl, by decide +kernel, rfl, by decide +kernel, by decide +kernel⟩
theorem b_Net_ends : BindQ "ends" "Net.ends" s_Net_ends ["self", "rope"] := fun _ _ _ _ _ _ us hl => match us, hl with | [_, _], _ => rfl
abbrev s_Net_other_end : Stmt := inClass (top 19) 10
theorem sc_Net_other_end : FnScope ["self", "rope", "station", "start", "end"] ["self", "rope", "station"] (defScope s_Net_other_end) := ⟨rfl, rfl, rfl, by decide +kernel, rfl, by decide +kernel, by decide +kernel⟩
theorem b_Net_other_end : BindQ "other_end" "Net.other_end" s_Net_other_end ["self", "rope", "station"] := fun _ _ _ _ _ _ us hl => match us, hl with | [_, _, _], _ => rfl
abbrev s_Net_ropes_at : Stmt := inClass (top 19) 11
theorem sc_Net_ropes_at : FnScope ["self", "station", "rope", "ends"] ["self", "station"] (defScope s_Net_ropes_at) := ⟨rfl, rfl, rfl, by decide +kernel, rfl, by decide +kernel, by decide +kernel⟩
theorem b_Net_ropes_at : BindQ "ropes_at" "Net.ropes_at" s_Net_ropes_at ["self", "station"] := fun _ _ _ _ _ _ us hl => match us, hl with | [_, _], _ => rfl
abbrev s_Net___eq__ : Stmt := inClass (top 19) 12
theorem sc_Net___eq__ : FnScope ["self", "other"] ["self", "other"] (defScope s_Net___eq__) := ⟨rfl, rfl, rfl, by decide +kernel, rfl, by decide +kernel, by decide +kernel⟩
theorem b_Net___eq__ : BindQ "__eq__" "Net.__eq__" s_Net___eq__ ["self", "other"] := fun _ _ _ _ _ _ us hl => match us, hl with | [_, _], _ => rfl
abbrev s_Net___repr__ : Stmt := inClass (top 19) 13
theorem sc_Net___repr__ : FnScope ["self"] ["self"] (defScope s_Net___repr__) := ⟨rfl, rfl, rfl, by decide +kernel, rfl, by decide +kernel, by decide +kernel⟩
theorem b_Net___repr__ : BindQ "__repr__" "Net.__repr__" s_Net___repr__ ["self"] := fun _ _ _ _ _ _ us hl => match us, hl with | [_], _ => rfl
abbrev s_check_size : Stmt := top 20
theorem sc_check_size : FnScope ["stations"] ["stations"] (defScope s_check_size) := ⟨rfl, rfl, rfl, by decide +kernel, rfl, by decide +kernel, by decide +kernel⟩
theorem b_check_size : BindOk "check_size" s_check_size ["stations"] := fun _ _ _ _ _ _ us hl => match us, hl with | [_], _ => rfl
abbrev s_check_ropes : Stmt := top 21
theorem sc_check_ropes : FnScope ["stations", "ropes", "rope", "start", "end"] ["stations", "ropes"] (defScope s_check_ropes) := ⟨rfl, rfl, rfl, by decide +kernel, rfl, by decide +kernel, by decide +kernel⟩
theorem b_check_ropes : BindOk "check_ropes" s_check_ropes ["stations", "ropes"] := fun _ _ _ _ _ _ us hl => match us, hl with | [_, _], _ => rfl
abbrev s__law_mixed : Stmt := top 23
theorem sc__law_mixed : FnScope ["cell", "turn", "one", "two", "three"] ["cell", "turn"] (defScope s__law_mixed) := ⟨rfl, rfl, rfl, by decide +kernel, rfl, by decide +kernel, by decide +kernel⟩
theorem b__law_mixed : BindOk "_law_mixed" s__law_mixed ["cell", "turn"] := fun _ _ _ _ _ _ us hl => match us, hl with | [_, _], _ => rfl
abbrev s__law_bag : Stmt := top 24
theorem sc__law_bag : FnScope ["script", "cells", "fold", "cell"] ["script"] (defScope s__law_bag) := ⟨rfl, rfl, rfl, by decide +kernel, rfl, by decide +kernel, by decide +kernel⟩
theorem b__law_bag : BindOk "_law_bag" s__law_bag ["script"] := fun _ _ _ _ _ _ us hl => match us, hl with | [_], _ => rfl
abbrev s__law_draw : Stmt := top 25
theorem sc__law_draw : FnScope ["bag", "size", "told"] ["bag", "size"] (defScope s__law_draw) := ⟨rfl, rfl, rfl, by decide +kernel, rfl, by decide +kernel, by decide +kernel⟩
theorem b__law_draw : BindOk "_law_draw" s__law_draw ["bag", "size"] := fun _ _ _ _ _ _ us hl => match us, hl with | [_, _], _ => rfl
abbrev s__law_exact : Stmt := top 26
theorem sc__law_exact : FnScope ["told", "due", "k"] ["told", "due"] (defScope s__law_exact) := ⟨rfl, rfl, rfl, by decide +kernel, rfl, by decide +kernel, by decide +kernel⟩
theorem b__law_exact : BindOk "_law_exact" s__law_exact ["told", "due"] := fun _ _ _ _ _ _ us hl => match us, hl with | [_, _], _ => rfl
abbrev s__law_order : Stmt := top 27
theorem sc__law_order : FnScope ["bag", "many", "rest", "order", "k"] ["bag", "many"] (defScope s__law_order) := ⟨rfl, rfl, rfl, by decide +kernel, rfl, by decide +kernel, by decide +kernel⟩
theorem b__law_order : BindOk "_law_order" s__law_order ["bag", "many"] := fun _ _ _ _ _ _ us hl => match us, hl with | [_, _], _ => rfl
abbrev s__law_joined : Stmt := top 28
theorem sc__law_joined : FnScope ["bag", "one", "two"] ["bag", "one", "two"] (defScope s__law_joined) := ⟨rfl, rfl, rfl, by decide +kernel, rfl, by decide +kernel, by decide +kernel⟩
theorem b__law_joined : BindOk "_law_joined" s__law_joined ["bag", "one", "two"] := fun _ _ _ _ _ _ us hl => match us, hl with | [_, _, _], _ => rfl
abbrev s__law_net : Stmt := top 29
theorem sc__law_net : FnScope ["bag", "many", "extra", "order", "ropes", "k", "pair", "one"] ["bag"] (defScope s__law_net) := ⟨rfl, rfl, rfl, by decide +kernel, rfl, by decide +kernel, by decide +kernel⟩
theorem b__law_net : BindOk "_law_net" s__law_net ["bag"] := fun _ _ _ _ _ _ us hl => match us, hl with | [_], _ => rfl
abbrev s__law_wrong_rope : Stmt := top 30
theorem sc__law_wrong_rope : FnScope ["bag", "many", "way", "pick", "wrong", "near"] ["bag", "many", "way"] (defScope s__law_wrong_rope) := ⟨rfl, rfl, rfl, by decide +kernel, rfl, by decide +kernel, by decide +kernel⟩
theorem b__law_wrong_rope : BindOk "_law_wrong_rope" s__law_wrong_rope ["bag", "many", "way"] := fun _ _ _ _ _ _ us hl => match us, hl with | [_, _, _], _ => rfl
abbrev s__law_stations : Stmt := top 31
theorem sc__law_stations : FnScope ["bag", "many", "pick"] ["bag", "many"] (defScope s__law_stations) := ⟨rfl, rfl, rfl, by decide +kernel, rfl, by decide +kernel, by decide +kernel⟩
theorem b__law_stations : BindOk "_law_stations" s__law_stations ["bag", "many"] := fun _ _ _ _ _ _ us hl => match us, hl with | [_, _], _ => rfl
abbrev s__law_bent : Stmt := top 32
theorem sc__law_bent : FnScope ["bag", "net", "many", "ropes", "turn", "way", "pair", "filler"] ["bag", "net"] (defScope s__law_bent) := ⟨rfl, rfl, rfl, by decide +kernel, rfl, by decide +kernel, by decide +kernel⟩
theorem b__law_bent : BindOk "_law_bent" s__law_bent ["bag", "net"] := fun _ _ _ _ _ _ us hl => match us, hl with | [_, _], _ => rfl
abbrev s__law_reached : Stmt := top 33
theorem sc__law_reached : FnScope ["many", "ropes", "reached", "turn", "pair"] ["many", "ropes"] (defScope s__law_reached) := ⟨rfl, rfl, rfl, by decide +kernel, rfl, by decide +kernel, by decide +kernel⟩
theorem b__law_reached : BindOk "_law_reached" s__law_reached ["many", "ropes"] := fun _ _ _ _ _ _ us hl => match us, hl with | [_, _], _ => rfl
abbrev s__law_due : Stmt := top 34
theorem sc__law_due : FnScope ["many", "ropes", "k", "reached", "station"] ["many", "ropes"] (defScope s__law_due) := ⟨rfl, rfl, rfl, by decide +kernel, rfl, by decide +kernel, by decide +kernel⟩
theorem b__law_due : BindOk "_law_due" s__law_due ["many", "ropes"] := fun _ _ _ _ _ _ us hl => match us, hl with | [_, _], _ => rfl
abbrev s__law_told : Stmt := top 35
theorem sc__law_told : FnScope ["fault", "told"] ["fault"] (defScope s__law_told) := ⟨rfl, rfl, rfl, by decide +kernel, rfl, by decide +kernel, by decide +kernel⟩
theorem b__law_told : BindOk "_law_told" s__law_told ["fault"] := fun _ _ _ _ _ _ us hl => match us, hl with | [_], _ => rfl
abbrev s__law_refusal : Stmt := top 36
theorem sc__law_refusal : FnScope ["many", "ropes", "fault"] ["many", "ropes"] (defScope s__law_refusal) := ⟨rfl, rfl, rfl, by decide +kernel, rfl, by decide +kernel, by decide +kernel⟩
theorem b__law_refusal : BindOk "_law_refusal" s__law_refusal ["many", "ropes"] := fun _ _ _ _ _ _ us hl => match us, hl with | [_, _], _ => rfl
abbrev s__law_pair_told : Stmt := top 37
theorem sc__law_pair_told : FnScope ["net", "rope", "fault"] ["net", "rope"] (defScope s__law_pair_told) := ⟨rfl, rfl, rfl, by decide +kernel, rfl, by decide +kernel, by decide +kernel⟩
theorem b__law_pair_told : BindOk "_law_pair_told" s__law_pair_told ["net", "rope"] := fun _ _ _ _ _ _ us hl => match us, hl with | [_, _], _ => rfl
abbrev s__law_far_told : Stmt := top 38
theorem sc__law_far_told : FnScope ["net", "rope", "station", "fault"] ["net", "rope", "station"] (defScope s__law_far_told) := ⟨rfl, rfl, rfl, by decide +kernel, rfl, by decide +kernel, by decide +kernel⟩
theorem b__law_far_told : BindOk "_law_far_told" s__law_far_told ["net", "rope", "station"] := fun _ _ _ _ _ _ us hl => match us, hl with | [_, _, _], _ => rfl
abbrev s__law_near_told : Stmt := top 39
theorem sc__law_near_told : FnScope ["net", "station", "fault"] ["net", "station"] (defScope s__law_near_told) := ⟨rfl, rfl, rfl, by decide +kernel, rfl, by decide +kernel, by decide +kernel⟩
theorem b__law_near_told : BindOk "_law_near_told" s__law_near_told ["net", "station"] := fun _ _ _ _ _ _ us hl => match us, hl with | [_, _], _ => rfl
abbrev s__law_far_due : Stmt := top 40
theorem sc__law_far_due : FnScope ["many", "ropes", "rope", "station"] ["many", "ropes", "rope", "station"] (defScope s__law_far_due) := ⟨rfl, rfl, rfl, by decide +kernel, rfl, by decide +kernel, by decide +kernel⟩
theorem b__law_far_due : BindOk "_law_far_due" s__law_far_due ["many", "ropes", "rope", "station"] := fun _ _ _ _ _ _ us hl => match us, hl with | [_, _, _, _], _ => rfl
abbrev s__law_near_due : Stmt := top 41
theorem sc__law_near_due : FnScope ["many", "ropes", "station", "k"] ["many", "ropes", "station"] (defScope s__law_near_due) := ⟨rfl, rfl, rfl, by decide +kernel, rfl, by decide +kernel, by decide +kernel⟩
theorem b__law_near_due : BindOk "_law_near_due" s__law_near_due ["many", "ropes", "station"] := fun _ _ _ _ _ _ us hl => match us, hl with | [_, _, _], _ => rfl
abbrev s__law_asked : Stmt := top 42
theorem sc__law_asked : FnScope ["net", "many", "ropes", "wild", "stations", "station", "due", "told", "rope"] ["net", "many", "ropes", "wild"] (defScope s__law_asked) := ⟨rfl, rfl, rfl, by decide +kernel, rfl, by decide +kernel, by decide +kernel⟩
theorem b__law_asked : BindOk "_law_asked" s__law_asked ["net", "many", "ropes", "wild"] := fun _ _ _ _ _ _ us hl => match us, hl with | [_, _, _, _], _ => rfl
abbrev s__law_others : Stmt := top 43
theorem sc__law_others : FnScope ["bag", "ropes", "found", "spot", "place", "changed"] ["bag", "ropes"] (defScope s__law_others) := ⟨rfl, rfl, rfl, by decide +kernel, rfl, by decide +kernel, by decide +kernel⟩
theorem b__law_others : BindOk "_law_others" s__law_others ["bag", "ropes"] := fun _ _ _ _ _ _ us hl => match us, hl with | [_, _], _ => rfl
abbrev s_law : Stmt := top 44
theorem sc_law : FnScope ["script", "bag", "net", "bent", "due", "handed", "many", "ropes", "wild", "made", "twin", "changed", "other", "same"] ["script"] (defScope s_law) := ⟨rfl, rfl, rfl, by decide +kernel, rfl, by decide +kernel, by decide +kernel⟩
theorem b_law : BindOk "law" s_law ["script"] := fun _ _ _ _ _ _ us hl => match us, hl with | [_], _ => rfl
/-- the addresses of what the top has made -/
structure Ad where
  (c_RopeError c_BadNet c_TooMany c_NotConnected c_NoStation c_NoRope c_NotThere c_Net : Addr)
  mcN : Value
/-- what of the text the class of an exception shows where it is caught -/
structure Caught (K : PySem.W.Frag) (A : Ad) (C : Addr) (fs : List Str) (k1 k2 k3 k4 k5 k6 : Bool) : Prop where
  xf : XfC K C
  ec : ExcC K C
  no : ∀ f ∈ fs, PySem.W.findIn K (.ref C) f = some none
  q1 : PySem.W.kitOne K (.ref C) (.ref A.c_BadNet) = some k1
  q2 : PySem.W.kitOne K (.ref C) (.ref A.c_TooMany) = some k2
  q3 : PySem.W.kitOne K (.ref C) (.ref A.c_NotConnected) = some k3
  q4 : PySem.W.kitOne K (.ref C) (.ref A.c_NoRope) = some k4
  q5 : PySem.W.kitOne K (.ref C) (.ref A.c_NoStation) = some k5
  q6 : PySem.W.kitOne K (.ref C) (.ref A.c_NotThere) = some k6
  q7 : PySem.W.kitOne K (.ref C) (.type "ValueError") = some true
  ex : PySem.W.exmOne K (.ref C) (.ref A.c_RopeError) = some true
structure Txt (P : Program) (w : World) (K : PySem.W.Frag) (mg : Str → Option Value) (base : Heap) (A : Ad) : Prop where
  n_len : mg "len" = none
  n_int : mg "int" = none
  n_list : mg "list" = none
  n_range : mg "range" = none
  n_set : mg "set" = none
  n_sorted : mg "sorted" = none
  n_all : mg "all" = none
  n_enumerate : mg "enumerate" = none
  n_isinstance : mg "isinstance" = none
  n_bool : mg "bool" = none
  n_tuple : mg "tuple" = none
  n_ValueError : mg "ValueError" = none
  g_BadNet : mg "BadNet" = some (.ref A.c_BadNet)
  g_TooMany : mg "TooMany" = some (.ref A.c_TooMany)
  g_NotConnected : mg "NotConnected" = some (.ref A.c_NotConnected)
  g_Net : mg "Net" = some (.ref A.c_Net)
  x_BadNet : Exc P w K mg base "BadNet" ["place"] A.c_BadNet
  x_TooMany : Exc P w K mg base "TooMany" ["limit"] A.c_TooMany
  x_NotConnected : Exc P w K mg base "NotConnected" ["station"] A.c_NotConnected
  g_NoStation : mg "NoStation" = some (.ref A.c_NoStation)
  x_NoStation : Exc P w K mg base "NoStation" ["number"] A.c_NoStation
  net_ropes_at : ∃ f fd, Meth K A.c_Net "ropes_at" f ∧ Fun K "ropes_at" "Net.ropes_at" s_Net_ropes_at f fd
  d__law_told : DefAt K mg "_law_told" s__law_told
  d_check_station : DefAt K mg "check_station" s_check_station
  net_rd : ∃ mc, ClX.CRead K A.c_Net mc ∧ (∃ t, ClX.CVal K A.c_Net mc "MOST_STATIONS" (.int 24) (.int 24 t)) ∧ ∃ t, ClX.CVal K A.c_Net mc "MOST_ROPES" (.int 40) (.int 40 t)
  net_mk : ∃ f fd, Mk K A.c_Net f ∧ Fun K "__init__" "Net.__init__" s_Net___init__ f fd
  n_any : mg "any" = none
  n_str : mg "str" = none
  d__law_mixed : DefAt K mg "_law_mixed" s__law_mixed
  d__law_bag : DefAt K mg "_law_bag" s__law_bag
  d__law_draw : DefAt K mg "_law_draw" s__law_draw
  d__law_exact : DefAt K mg "_law_exact" s__law_exact
  d__law_joined : DefAt K mg "_law_joined" s__law_joined
  d__law_order : DefAt K mg "_law_order" s__law_order
  d__law_net : DefAt K mg "_law_net" s__law_net
  net_cl : Cls K A.c_Net
  net_s : NoAttr K A.c_Net "stations"
  net_r : NoAttr K A.c_Net "ropes"
  d_check_size : DefAt K mg "check_size" s_check_size
  d_check_ropes : DefAt K mg "check_ropes" s_check_ropes
  d_rope_steps : DefAt K mg "rope_steps" s_rope_steps
  d_turned : DefAt K mg "turned" s_turned
  d_distances : DefAt K mg "distances" s_distances
  d_stations_reached : DefAt K mg "stations_reached" s_stations_reached
  g_RopeError : mg "RopeError" = some (.ref A.c_RopeError)
  net_ic : PySem.W.findIn K (.ref A.c_Net) "__class__" = some (some (.builtin "object.__class__"))
  net_gs : PySem.W.specialIn K (.builtin "object.__class__") "__get__" = some (some (.builtin "getset_descriptor.__get__"))
  net_tk : PySem.W.takesIn K (.builtin "object.__class__") = some true
  net_mo : PySem.W.mroIn K A.c_Net (.type "object") = some true
  net_kit : PySem.W.kitOne K (.ref A.c_Net) (.ref A.c_Net) = some true
  net_eq : ∃ f fd, PySem.W.findIn K (.ref A.c_Net) "__eq__" = some (some (.ref f)) ∧ PySem.W.isFn K (.ref f) = true ∧ Fun K "__eq__" "Net.__eq__" s_Net___eq__ f fd
  net_is_tree : ∃ p g fd, PropOf K A.c_Net "is_tree" p g ∧ Fun K "is_tree" "Net.is_tree" s_Net_is_tree g fd
  net_is_ring : ∃ p g fd, PropOf K A.c_Net "is_ring" p g ∧ Fun K "is_ring" "Net.is_ring" s_Net_is_ring g fd
  net_is_row : ∃ p g fd, PropOf K A.c_Net "is_row" p g ∧ Fun K "is_row" "Net.is_row" s_Net_is_row g fd
  net_row : ∃ mc p g fd, ClX.CRead K A.c_Net mc ∧ ClX.CMet K A.c_Net mc "row" p g ∧ Fun K "row" "Net.row" s_Net_row g fd
  net_ring : ∃ mc p g fd, ClX.CRead K A.c_Net mc ∧ ClX.CMet K A.c_Net mc "ring" p g ∧ Fun K "ring" "Net.ring" s_Net_ring g fd
  net_star : ∃ mc p g fd, ClX.CRead K A.c_Net mc ∧ ClX.CMet K A.c_Net mc "star" p g ∧ Fun K "star" "Net.star" s_Net_star g fd
  net_c24 : ∃ t, L2.Con K A.c_Net "MOST_STATIONS" (.int 24) (.int 24 t)
  net_c40 : ∃ t, L2.Con K A.c_Net "MOST_ROPES" (.int 40) (.int 40 t)
  s_BadNet : Caught K A A.c_BadNet ["place"] true false false false false false
  s_TooMany : Caught K A A.c_TooMany ["limit"] false true false false false false
  s_NotConnected : Caught K A A.c_NotConnected ["station"] false false true false false false
  s_NoRope : Caught K A A.c_NoRope ["number"] false false false true false false
  s_NoStation : Caught K A A.c_NoStation ["number"] false false false false true false
  s_NotThere : Caught K A A.c_NotThere ["rope", "station"] false false false false false true
  d_check_rope : DefAt K mg "check_rope" s_check_rope
  d_check_rope_of : DefAt K mg "check_rope_of" s_check_rope_of
  d__law_wrong_rope : DefAt K mg "_law_wrong_rope" s__law_wrong_rope
  d__law_stations : DefAt K mg "_law_stations" s__law_stations
  d__law_bent : DefAt K mg "_law_bent" s__law_bent
  d__law_reached : DefAt K mg "_law_reached" s__law_reached
  d__law_due : DefAt K mg "_law_due" s__law_due
  d__law_refusal : DefAt K mg "_law_refusal" s__law_refusal
  d__law_pair_told : DefAt K mg "_law_pair_told" s__law_pair_told
  d__law_far_told : DefAt K mg "_law_far_told" s__law_far_told
  d__law_near_told : DefAt K mg "_law_near_told" s__law_near_told
  d__law_far_due : DefAt K mg "_law_far_due" s__law_far_due
  d__law_near_due : DefAt K mg "_law_near_due" s__law_near_due
  d__law_asked : DefAt K mg "_law_asked" s__law_asked
  d__law_others : DefAt K mg "_law_others" s__law_others
  n_max : mg "max" = none
  n_min : mg "min" = none
  n_repr : mg "repr" = none
  g_NoRope : mg "NoRope" = some (.ref A.c_NoRope)
  x_NoRope : Exc P w K mg base "NoRope" ["number"] A.c_NoRope
  g_NotThere : mg "NotThere" = some (.ref A.c_NotThere)
  x_NotThere : Exc P w K mg base "NotThere" ["rope", "station"] A.c_NotThere
  net_ends : ∃ f fd, Meth K A.c_Net "ends" f ∧ Fun K "ends" "Net.ends" s_Net_ends f fd
  net_other_end : ∃ f fd, Meth K A.c_Net "other_end" f ∧ Fun K "other_end" "Net.other_end" s_Net_other_end f fd
  net_repr : ∃ f fd, PySem.W.findIn K (.ref A.c_Net) "__repr__" = some (some (.ref f)) ∧ PySem.W.isFn K (.ref f) = true ∧ Fun K "__repr__" "Net.__repr__" s_Net___repr__ f fd
  net_ne : PySem.W.findIn K (.ref A.c_Net) "__ne__" = some (some (.builtin "object.__ne__"))
  net_tu : PySem.W.kitOne K (.type "tuple") (.ref A.c_Net) = some false
  net_st : PySem.W.kitOne K (.type "str") (.ref A.c_Net) = some false
end Tw





namespace Tw
open PySem PySem.Spec PyProof.Rows L2
abbrev Rope := Int × Int
abbrev Step := Int × Int × Int
def pairD (p : Rope) : PyData := .tuple [.int p.1, .int p.2]
def stepsFrom : Nat → List Rope → List Step
  | _, [] => []
  | i, (s, e) :: r => (s, e, (i : Int)) :: (e, s, (i : Int)) :: stepsFrom (i + 1) r
theorem stepsFrom_snoc (p : Rope) : ∀ (i : Nat) (l : List Rope), stepsFrom i (l ++ [p]) = stepsFrom i l ++ [(p.1, p.2, ((i + l.length : Nat) : Int)), (p.2, p.1, ((i + l.length : Nat) : Int))]
  | i, [] => rfl
  | i, (s, e) :: r => by
    show (s, e, (i : Int)) :: (e, s, (i : Int)) :: stepsFrom (i + 1) (r ++ [p]) = _
    rw [stepsFrom_snoc p (i + 1) r]
    have e2 : i + 1 + r.length = i + (r.length + 1) := by omega
    rw [e2]
    rfl
theorem stepsFrom_len : ∀ (i : Nat) (l : List Rope), (stepsFrom i l).length = 2 * l.length
  | i, [] => rfl
  | i, (s, e) :: r => by
    show (stepsFrom (i + 1) r).length + 2 = 2 * (r.length + 1)
    rw [stepsFrom_len]
    omega
def turn (t : Step) : Step := (t.2.1, t.1, t.2.2)
/-- new triples of ints -/
inductive Trs (H : Hp) : List V → List Step → Prop
  | nil : Trs H [] []
  | cons {p : Addr} {t : Step} {ys : List V} {ts : List Step} : H p = some (.tup [.int t.1, .int t.2.1, .int t.2.2]) → Trs H ys ts → Trs H (.ref p :: ys) (t :: ts)
theorem Trs.mono {H H' : Hp} (k : ∀ p xs, H p = some (.tup xs) → H' p = some (.tup xs)) : ∀ {ys : List V} {ts : List Step}, Trs H ys ts → Trs H' ys ts
  | _, _, .nil => .nil
  | _, _, .cons h r => .cons (k _ _ h) (Trs.mono k r)
theorem Trs.len {H : Hp} : ∀ {ys : List V} {ts : List Step}, Trs H ys ts → ys.length = ts.length
  | _, _, .nil => rfl
  | _, _, .cons _ r => congrArg (· + 1) (Trs.len r)
theorem Trs.snoc {H : Hp} {p : Addr} {t : Step} (h : H p = some (.tup [.int t.1, .int t.2.1, .int t.2.2])) : ∀ {ys : List V} {ts : List Step}, Trs H ys ts → Trs H (ys ++ [.ref p]) (ts ++ [t])
  | _, _, .nil => .cons h .nil
  | _, _, .cons g s => .cons g (Trs.snoc h s)
theorem Trs.lift {H H' : Hp} (s : Same H H') {ys : List V} {ts : List Step} (h : Trs H ys ts) : Trs H' ys ts := h.mono fun p _ e => s p _ e
theorem Trs.set {H : Hp} {q : Addr} {o : List V} {n : HO} (e : H q = some (.lst o)) {ys : List V} {ts : List Step} (h : Trs H ys ts) : Trs (upd H q n) ys ts := h.mono fun p xs e2 => by
  rw [upd_ne]
  · exact e2
  · intro z
    subst z
    rw [e] at e2
    cases e2
theorem Trs.at {H : Hp} : ∀ {ys : List V} {ts : List Step} {i : Nat} {x : V}, Trs H ys ts → ys[i]? = some x → ∃ p t, x = .ref p ∧ ts[i]? = some t ∧ H p = some (.tup [.int t.1, .int t.2.1, .int t.2.2])
  | _, _, _, _, .nil, e => by simp at e
  | _, _, 0, x, .cons h _, e => ⟨_, _, (Option.some.inj e).symm, rfl, h⟩
  | _, _, i + 1, x, .cons _ r, e => Trs.at (i := i) r (by simpa using e)
theorem pair_at {K : PySem.W.Frag} {H : Hp} {xs : List V} {ps : List Rope} {i : Nat} {x : V} (h : DpAll K H xs (ps.map pairD)) (e : xs[i]? = some x) : ∃ p a, ps[i]? = some p ∧ x = .ref a ∧ SqT K H a [.int p.1, .int p.2] := by
  obtain ⟨d, e1, e2⟩ := DpAll.get h e
  rw [List.getElem?_map] at e1
  cases er : ps[i]? with
  | none => rw [er] at e1; cases e1
  | some r =>
    rw [er] at e1
    cases e1
    cases e2 with
    | tup hs ha =>
      cases ha with
      | cons h1 h2 =>
        cases h2 with
        | cons h2 h3 =>
          cases h3
          cases h1
          cases h2
          exact ⟨r, _, rfl, rfl, hs⟩
section
variable {P : Program} {w : World} {K : PySem.W.Frag} {mg : Str → Option Value} {base : Heap} {A₀ : Ad}
def spSteps (K : PySem.W.Frag) : Sp := fun vs H Q _ => ∃ (x : V) (ps : List Rope), vs = [x] ∧ Dp K H x (.list (ps.map pairD)) ∧ ps.length ≤ 1000 ∧
  ∀ H' q ys, Same H H' → H' q = some (.lst ys) → Trs H' ys (stepsFrom 0 ps) → Q (.ref q) H'
theorem cal_rope_steps (T : Txt P w K mg base A₀) : Cal P w K mg base CX0 "rope_steps" 1 ["ropes"] (spSteps K) := by
  refine cal_of T.d_rope_steps sc_rope_steps b_rope_steps (fun vs H Q E h => ?_) (fun f cdv A outer s H vs Q E hr h => ?_)
  · obtain ⟨x, ps, rfl, _⟩ := h
    rfl
  · obtain ⟨x, ps, rfl, hx, hn, q0⟩ := h
    refine ⟨_, (pss_cons (ps_set (i := 1) sc_rope_steps.nd rfl (Or.inl rfl) (pe_lst pa_nil))
  (pss_cons (ps_for PassesOwn.never rfl (pi_enum (by rfl) T.n_enumerate (pa_cons (pv 0) pa_nil)) (pg_tup rfl (pgs_cons (pg_name (i := 2) sc_rope_steps.nd rfl (Or.inl rfl)) (pgs_cons (pg_tup rfl (pgs_cons (pg_name (i := 3) sc_rope_steps.nd rfl (Or.inl rfl)) (pgs_cons (pg_name (i := 4) sc_rope_steps.nd rfl (Or.inl rfl)) pgs_nil))) pgs_nil))) (pss_cons (ps_expr (pe_bm PySem.F.plainAttrs_list PySem.F.slot_list_append PySem.F.type_list_append mt_append (pv 1) (pa_cons (pe_tup (pa_cons (pv 3) (pa_cons (pv 4) (pa_cons (pv 2) pa_nil)))) pa_nil)))
  (pss_one (ps_expr (pe_bm PySem.F.plainAttrs_list PySem.F.slot_list_append PySem.F.type_list_append mt_append (pv 1) (pa_cons (pe_tup (pa_cons (pv 4) (pa_cons (pv 3) (pa_cons (pv 2) pa_nil)))) pa_nil))))))
  (pss_one (ps_ret (pv 1))))), ?_⟩
    cases hx with
    | @lst a xs _ hs ha =>
    have hl : xs.length = ps.length := by rw [DpAll.len ha, List.length_map]
    refine ⟨(by show 0 ≤ sizeLine; rw [sizeLine_eq]; decide), fun q nq => ?_⟩
    have s1 : Same H (upd H q (.lst [])) := same_new nq
    refine ⟨_, rfl, a, xs, rfl, s1.seq hs, for_it (walk_enum (K := K) (a := a) (xs := xs)) (fun i σ' H' => ∃ (y1 y2 y3 : Option V) (ys : List V), σ' = [some (.ref a), some (.ref q), y1, y2, y3] ∧ Same H H' ∧ H' q = some (.lst ys) ∧ Trs H' ys (stepsFrom 0 (ps.take i))) ⟨none, none, none, [], rfl, s1, upd_same, .nil⟩ (fun i σ' H' _ ⟨_, _, _, _, _, s, _⟩ => s.seq hs) ?_ ?_⟩
    · rintro i x σ' H1 H2 hi ⟨y1, y2, y3, ys, rfl, s2, hq, tr⟩ ⟨T0, v1, v2, rfl, nT, rfl, f1, f2⟩
      have f1 := Option.some.inj f1
      subst f1
      obtain ⟨p, t, ep, rfl, ht⟩ := pair_at ha f2
      have s3 : Same H1 (upd H1 T0 (.tup [.int (i : Int), .ref t])) := same_new nT
      refine ⟨T0, _, rfl, SqT.of upd_same, rfl, _, _, rfl, _, _, rfl, t, _, rfl, Same.tup (s2.trans s3) ht, rfl, _, _, rfl, _, _, rfl, rfl, rfl, ?_⟩
      have hq3 := s3 _ _ hq
      have hyl : ys.length ≤ 2000 := by
        rw [tr.len, stepsFrom_len, List.length_take]
        omega
      refine ⟨_, rfl, .inl ⟨rfl, _, SqL.of hq3⟩, _, rfl, _, rfl, _, rfl, (by show 3 ≤ sizeLine; rw [sizeLine_eq]; decide), fun a1 n1 => ⟨q, ys, .ref a1, rfl, rfl, same_new n1 _ _ hq3, by rw [sizeLine_eq]; omega, ?_⟩⟩
      have tr1 := (((tr.lift s3).lift (same_new n1)).snoc (t := (p.1, p.2, (i : Int))) upd_same).set (n := .lst (ys ++ [.ref a1])) (same_new n1 _ _ hq3)
      have s4 := same_upd (o := .lst (ys ++ [.ref a1])) ((s2.trans s3).trans (same_new (o := .tup [.int p.1, .int p.2, .int (i : Int)]) n1)) nq
      refine ⟨_, rfl, .inl ⟨rfl, _, SqL.of upd_same⟩, _, rfl, _, rfl, _, rfl, (by show 3 ≤ sizeLine; rw [sizeLine_eq]; decide), fun a2 n2 => ⟨q, _, .ref a2, rfl, rfl, same_new n2 _ _ upd_same, by rw [List.length_append, sizeLine_eq]; show ys.length + 1 < _; omega, ?_⟩⟩
      refine ⟨_, _, _, _, rfl, same_upd (s4.trans (same_new n2)) nq, upd_same, ?_⟩
      have tr2 := ((tr1.lift (same_new n2)).snoc (t := (p.2, p.1, (i : Int))) upd_same).set (n := .lst (ys ++ [.ref a1] ++ [.ref a2])) (same_new n2 _ _ upd_same)
      have e : stepsFrom 0 (ps.take (i + 1)) = stepsFrom 0 (ps.take i) ++ [(p.1, p.2, (i : Int))] ++ [(p.2, p.1, (i : Int))] := by
        rw [List.take_add_one, ep]
        show stepsFrom 0 (ps.take i ++ [p]) = _
        rw [stepsFrom_snoc, List.length_take, Nat.zero_add, Nat.min_eq_left (by omega), List.append_assoc]
        rfl
      rw [e]
      exact tr2
    · rintro σ' H1 ⟨y1, y2, y3, ys, rfl, s2, hq, tr⟩
      rw [List.take_of_length_le (by omega)] at tr
      exact ⟨_, rfl, q0 H1 q ys s2 hq tr⟩
def spTurned (K : PySem.W.Frag) : Sp := fun vs H Q _ => ∃ (a : Addr) (ys : List V) (ts : List Step), vs = [.ref a] ∧ H a = some (.lst ys) ∧ Trs H ys ts ∧ ts.length ≤ 100000 ∧
  ∀ H' q zs, Same H H' → H' q = some (.lst zs) → Trs H' zs (ts.map turn) → Q (.ref q) H'
theorem cal_turned (T : Txt P w K mg base A₀) : Cal P w K mg base CX0 "turned" 1 ["steps"] (spTurned K) := by
  refine cal_of T.d_turned sc_turned b_turned (fun vs H Q E h => ?_) (fun f cdv A outer s H vs Q E hr h => ?_)
  · obtain ⟨a, ys, ts, rfl, _⟩ := h
    rfl
  · obtain ⟨a, ys, ts, rfl, ha, tr, hn, q0⟩ := h
    refine ⟨_, (pss_one (ps_ret (pe_lc (own := [("start", 1), ("end", 2), ("rope", 3)]) (g := gTup K 3 (gCons (gName 1) (gCons (gName 2) (gCons (gName 3) gNil)))) rfl sc_turned.nd (pi_list (pv 0)) (blkOk_by (own := [("start", 1), ("end", 2), ("rope", 3)]) (N := ["steps", "start", "end", "rope"]) (sc := defScope s_turned) (by decide +kernel)) (fun _ _ _ _ _ => (pg_tup rfl (pgs_cons (pg_name (i := 1) sc_turned.nd rfl (Or.inl rfl)) (pgs_cons (pg_name (i := 2) sc_turned.nd rfl (Or.inl rfl)) (pgs_cons (pg_name (i := 3) sc_turned.nd rfl (Or.inl rfl)) pgs_nil))))) (fun _ _ _ _ _ => pts_nil) (fun _ _ _ _ _ => (pe_tup (pa_cons (pv 2) (pa_cons (pv 1) (pa_cons (pv 3) pa_nil)))))))), ?_⟩
    refine ⟨_, rfl, a, rfl, ⟨_, SqL.of ha⟩, fun D hD => ?_⟩
    refine lc_list (K := K) (a := a) (xs := ys) (g := gTup K 3 (gCons (gName 1) (gCons (gName 2) (gCons (gName 3) gNil)))) (tt := tYes) (te := tTup (tCons (tVar 2) (tCons (tVar 1) (tCons (tVar 3) tNil)))) (vs := [1, 2, 3]) (fun i H' => Same H H' ∧ ∃ zs, H' D = some (.lst zs) ∧ Trs H' zs ((ts.take i).map turn)) ⟨same_new hD, [], upd_same, .nil⟩ (fun i H' _ h => SqL.of (h.1 _ _ ha)) ?_ ?_
    · rintro i x H2 hxi ⟨s2, zs, hz, tz⟩
      obtain ⟨p, t, rfl, et, ht⟩ := tr.at hxi
      refine ⟨p, _, rfl, SqT.of (s2 _ _ ht), rfl, _, _, rfl, _, _, rfl, _, _, rfl, rfl, rfl, ?_⟩
      refine ⟨_, rfl, _, rfl, _, rfl, (by show 3 ≤ sizeLine; rw [sizeLine_eq]; decide), fun l nl => ⟨zs, same_new nl _ _ hz, ?_, ?_, ?_⟩⟩
      · rw [tz.len, List.length_map, List.length_take, sizeLine_eq]
        omega
      · exact same_upd (s2.trans (same_new nl)) hD
      · refine ⟨_, upd_same, ?_⟩
        rw [List.take_add_one, et, List.map_append]
        exact ((tz.lift (same_new nl)).snoc (t := turn t) upd_same).set (same_new nl _ _ hz)
    · rintro H2 ⟨s2, zs, hz, tz⟩
      rw [tr.len, List.take_of_length_le (Nat.le_refl _)] at tz
      exact q0 H2 D zs s2 hz tz
end
end Tw




namespace Tw
open PySem PySem.Spec PyProof.Rows L2
theorem nodup_ix {l : List Int} (h : l.Nodup) {i j : Nat} {k : Int} (hi : l[i]? = some k) (hj : l[j]? = some k) : i = j := by
  obtain ⟨hi1, hi2⟩ := List.getElem?_eq_some_iff.mp hi
  obtain ⟨hj1, hj2⟩ := List.getElem?_eq_some_iff.mp hj
  have p := List.pairwise_iff_getElem.mp h
  rcases Nat.lt_trichotomy i j with h | h | h
  · exact absurd (hi2.trans hj2.symm) (p i j hi1 hj1 h)
  · exact h
  · exact absurd (hj2.trans hi2.symm) (p j i hj1 hi1 h)
/-- what the dict of distances holds, all levels below d -/
structure FarAt (ts : List Step) (gs : List Int) (d : Nat) (kvs : List (Key × V)) (ks : List Int) : Prop where
  keys : kvs.map (·.1) = ks.map Sum.inl
  nd : ks.Nodup
  mem : ∀ x, x ∈ ks ↔ seen ts gs d x = true
  val : ∀ x, valV kvs (.inl x : Key) = (farF ts gs d x).map fun (m : Nat) => V.int (m : Int)
section
variable {P : Program} {w : World} {K : PySem.W.Frag} {mg : Str → Option Value} {base : Heap} {A₀ : Ad}
def spDist : Sp := fun vs H Q _ => ∃ (g a : Addr) (gs : List Int) (ys : List V) (ts : List Step), vs = [.ref g, .ref a] ∧ H g = some (.lst (gs.map V.int)) ∧ gs.length ≤ 60 ∧ (∀ x ∈ gs, U60 x) ∧ H a = some (.lst ys) ∧ Trs H ys ts ∧ ts.length ≤ 1000 ∧ (∀ t ∈ ts, U60 t.1) ∧
  ∀ H' q kvs ks d, Same H H' → H' q = some (.dK kvs) → FarAt ts gs d kvs ks → (∀ x, lev ts gs d x = false) → Q (.ref q) H'
theorem cal_distances (T : Txt P w K mg base A₀) : Cal P w K mg base CX0 "distances" 1 ["goals", "steps"] spDist := by
  refine cal_of T.d_distances sc_distances b_distances (fun vs H Q E h => ?_) (fun f cdv A outer s H vs Q E hr h => ?_)
  · obtain ⟨g, a, gs, ys, ts, rfl, _⟩ := h
    rfl
  · obtain ⟨g, a, gs, ys, ts, rfl, hg, gl, ug, ha, tr, tl, ut, q0⟩ := h
    refine ⟨_, (pss_cons (ps_set (i := 2) sc_distances.nd rfl (Or.inr rfl) pe_dnewK)
  (pss_cons (ps_set (i := 3) sc_distances.nd rfl (Or.inr rfl) (pe_callB (cr_sortedSet rfl) (by rfl) T.n_sorted (by decide +kernel) (pa_cons (pe_callTy (cr_setL rfl) (by rfl) T.n_set (by decide +kernel) (pa_cons (pv 0) pa_nil)) pa_nil)))
  (pss_cons (ps_set (i := 4) sc_distances.nd rfl (Or.inl rfl) pe_int)
  (pss_cons (ps_while PassesOwn.never (pt_truth (pv 3) (by intro _; rfl)) (pss_cons (ps_for PassesOwn.never rfl (pi_list (pv 3)) (pg_name (i := 5) sc_distances.nd rfl (Or.inl rfl)) (pss_one (ps_dput (hu_of hr) (pv 2) (pv 5) (pv 4) (by rfl))))
  (pss_cons (ps_aug (i := 4) sc_distances.nd rfl (Or.inl rfl) pe_int ip_add)
  (pss_one (ps_set (i := 3) sc_distances.nd rfl (Or.inr rfl) (pe_callB (cr_sortedSet rfl) (by rfl) T.n_sorted (by decide +kernel) (pa_cons (pe_scI (own := [("start", 6), ("end", 7), ("rope", 8)]) (bind := gTup K 3 (gCons (gName 6) (gCons (gName 7) (gCons (gName 8) gNil)))) rfl sc_distances.nd (pi_list (pv 1)) (blkOk_by (own := [("start", 6), ("end", 7), ("rope", 8)]) (N := ["goals", "steps", "far", "level", "depth", "station", "start", "end", "rope"]) (sc := defScope s_distances) (by decide +kernel)) ⟨fun _ _ _ _ _ => (pg_tup rfl (pgs_cons (pg_name (i := 6) sc_distances.nd rfl (Or.inl rfl)) (pgs_cons (pg_name (i := 7) sc_distances.nd rfl (Or.inl rfl)) (pgs_cons (pg_name (i := 8) sc_distances.nd rfl (Or.inl rfl)) pgs_nil)))), fun _ _ _ _ _ => (pts_one (PW.pt (pw_and (pt_cmpR (show OpR _ (compareOp .In) (rIn K false) from op_in_seq) (pv 7) (pv 3) (by rfl)) (pw_and1 (pt_cmp (pc_dnotin (hu_of hr) (pv 6) (pv 2))))))), fun _ _ _ _ _ => (pv 6)⟩) pa_nil)))))))
  (pss_one (ps_ret (pv 2))))))), ?_⟩
    have n0 : H g = some (.lst (gs.map V.int)) := hg
    -- far, level
    intro fd nfd
    have s1 : Same H (upd H fd (.dK [])) := same_new nfd
    refine ⟨_, rfl, g, gs, rfl, s1 _ _ hg, (by show gs.length + 1 < 4096; omega), fun e c ne hc => ?_⟩
    have s2 := s1.trans (same_new (o := SetO w e (fun j => decide (j ∈ gs)) c) ne)
    refine ⟨e, _, c, rfl, upd_same, by omega, fun ns lv up mem len nlv => ?_⟩
    have s3 := s2.trans (same_new (o := .lst (ns.map V.int)) nlv)
    have hfd : upd (upd (upd H fd (.dK [])) e (SetO w e (fun j => decide (j ∈ gs)) c)) lv (.lst (ns.map V.int)) fd = some (.dK []) := same_new nlv _ _ (same_new ne _ _ upd_same)
    refine ⟨fun m σ' H' => ∃ (d : Nat) (kvs : List (Key × V)) (ks ns : List Int) (lv : Addr) (y : Option V), σ' = [some (.ref g), some (.ref a), some (.ref fd), some (.ref lv), some (.int (d : Int)), y, none, none, none] ∧ Same H H' ∧ H' fd = some (.dK kvs) ∧ FarAt ts gs d kvs ks ∧ H' lv = some (.lst (ns.map V.int)) ∧ ns.Nodup ∧ (∀ x, x ∈ ns ↔ lev ts gs d x = true) ∧ m + ks.length = 60, ⟨60, 0, [], [], ns, lv, none, rfl, s3, hfd, ⟨rfl, List.nodup_nil, fun x => ⟨fun z => (by cases z), fun z => (by cases z)⟩, fun x => rfl⟩, upd_same, up.imp fun h e => by subst e; exact Int.lt_irrefl _ h, fun x => (mem x), rfl⟩, ?_⟩
    rintro m σ' H1 ⟨d, kvs, ks, ns, lv, y, rfl, s4, hfd, far, hlv, nd, mem, hm⟩
    have dis : ∀ x ∈ ns, x ∉ ks := fun x hx hk => by
      have h1 := (far.mem x).mp hk
      rw [lev_new ((mem x).mp hx)] at h1
      cases h1
    have nd2 : (ks ++ ns).Nodup := List.nodup_append.mpr ⟨far.nd, nd, fun x hx y hy e => by subst e; exact dis x hy hx⟩
    have u2 : ∀ x ∈ ks ++ ns, U60 x := fun x hx => by
      rcases List.mem_append.mp hx with hx | hx
      · exact (u60_of ug ut d).1 x ((far.mem x).mp hx)
      · exact (u60_of ug ut d).2 x ((mem x).mp hx)
    have l2 := u60_le nd2 u2
    rw [List.length_append] at l2
    have kl : kvs.length = ks.length := by
      have := congrArg List.length far.keys
      rwa [List.length_map, List.length_map] at this
    cases hns : ns with
    | nil =>
      refine ⟨_, rfl, false, .inl ⟨_, SqL.of hlv, by rw [hns]; rfl⟩, ?_⟩
      refine iteF ?_
      exact ⟨_, rfl, q0 H1 fd kvs ks d s4 hfd far fun x => by
        cases e : lev ts gs d x with
        | false => rfl
        | true =>
          have := (mem x).mpr e
          rw [hns] at this
          cases this⟩
    | cons k0 kr =>
      have npos : 0 < ns.length := by rw [hns]; exact Nat.succ_pos _
      refine ⟨_, rfl, true, .inl ⟨_, SqL.of hlv, by rw [hns]; rfl⟩, ?_⟩
      refine iteT ?_
      clear hns
      refine ⟨fun σ' H' => ∃ (d : Nat) (kvs : List (Key × V)) (ks' ns : List Int) (lv : Addr) (y : Option V), σ' = [some (.ref g), some (.ref a), some (.ref fd), some (.ref lv), some (.int (d : Int)), y, none, none, none] ∧ Same H H' ∧ H' fd = some (.dK kvs) ∧ FarAt ts gs d kvs ks' ∧ H' lv = some (.lst (ns.map V.int)) ∧ ns.Nodup ∧ (∀ x, x ∈ ns ↔ lev ts gs d x = true) ∧ ks.length < ks'.length ∧ ks'.length ≤ 60, fun σ' H' ⟨d, kvs, ks', ns, lv, y, h1, h2, h3, h4, h5, h6, h7, h8, h9⟩ => ⟨60 - ks'.length, by omega, d, kvs, ks', ns, lv, y, h1, h2, h3, h4, h5, h6, h7, by omega⟩, ?_⟩
      refine ⟨_, rfl, lv, rfl, ⟨_, SqL.of hlv⟩, for_list (K := K) (a := lv) (xs := ns.map V.int) (fun i σ' H' => ∃ (kvs' : List (Key × V)) (y : Option V), σ' = [some (.ref g), some (.ref a), some (.ref fd), some (.ref lv), some (.int (d : Int)), y, none, none, none] ∧ Same H H' ∧ H' fd = some (.dK kvs') ∧ H' lv = some (.lst (ns.map V.int)) ∧ kvs'.map (·.1) = (ks ++ ns.take i).map Sum.inl ∧ ∀ x, valV kvs' (.inl x : Key) = if x ∈ ns.take i then some (.int (d : Int)) else (farF ts gs d x).map fun (m : Nat) => V.int (m : Int)) ⟨kvs, y, rfl, s4, hfd, hlv, by rw [far.keys]; simp, fun x => by rw [far.val]; simp⟩ (fun i σ' H' _ ⟨_, _, _, _, _, h, _⟩ => SqL.of h) ?_ ?_⟩
      · rintro i x σ' H2 hx ⟨kvs', y', rfl, s5, hf, hl, hk, hv⟩
        obtain ⟨k, ek, rfl⟩ := nth_int hx
        have hlt : i < ns.length := (List.getElem?_eq_some_iff.mp ek).1
        have kin : k ∈ ns := List.mem_of_getElem? ek
        have nin : k ∉ ns.take i := fun z => by
          obtain ⟨j, hj⟩ := List.mem_iff_getElem?.mp z
          rw [List.getElem?_take] at hj
          split at hj
          · rename_i hji
            exact Nat.ne_of_lt hji (nodup_ix nd hj ek)
          · cases hj
        have vnone : valV kvs' (.inl k : Key) = none := by
          rw [hv, if_neg nin, far_none.mpr (lev_new ((mem k).mp kin))]
          rfl
        have hkl : kvs'.length ≤ 60 := by
          have := congrArg List.length hk
          rw [List.length_map, List.length_map, List.length_append, List.length_take] at this
          omega
        refine ⟨_, rfl, _, rfl, _, rfl, fd, _, rfl, DPut.k (k := .inl k) hf (by rw [sizeLine_eq]; omega), ?_⟩
        rw [putK_new _ vnone]
        have nlf : lv ≠ fd := fun e => by
          subst e
          rw [hl] at hf
          cases hf
        refine ⟨_, _, rfl, same_upd s5 nfd, upd_same, by rw [upd_ne nlf]; exact hl, ?_, fun x => ?_⟩
        · rw [List.map_append, hk, List.take_add_one, ek]
          simp
        · rw [valV_snoc _ _ _ _ vnone, List.take_add_one, ek]
          by_cases hxk : (.inl x : Key) = .inl k
          · have e : x = k := by injection hxk
            subst e
            rw [if_pos rfl, if_pos (by simp)]
          · have e : ¬ x = k := fun e => hxk (by rw [e])
            rw [if_neg hxk, hv]
            by_cases hxt : x ∈ ns.take i
            · rw [if_pos hxt, if_pos (by simp [hxt])]
            · rw [if_neg hxt, if_neg (by simp [hxt, e])]
      · rintro σ' H2 ⟨kvs2, y2, rfl, s5, hf, hl, hk, hv⟩
        have et : ns.take (ns.map V.int).length = ns := List.take_of_length_le (by rw [List.length_map]; omega)
        rw [et] at hk hv
        have far2 : FarAt ts gs (d + 1) kvs2 (ks ++ ns) := ⟨hk, nd2, fun x => by
          rw [List.mem_append, far.mem, mem, seen_succ, Bool.or_eq_true], fun x => by
          rw [hv]
          show _ = Option.map _ (if lev ts gs d x = true then some d else farF ts gs d x)
          by_cases hx : x ∈ ns
          · rw [if_pos hx, if_pos ((mem x).mp hx)]
            rfl
          · rw [if_neg hx, if_neg fun z => hx ((mem x).mpr z)]⟩
        have vS : ∀ x, (valV kvs2 (.inl x : Key)).isSome = seen ts gs (d + 1) x := fun x => by
          rw [far2.val, Option.isSome_map]
          cases e : farF ts gs (d + 1) x with
          | none => rw [far_none.mp e]; rfl
          | some m =>
            cases e2 : seen ts gs (d + 1) x with
            | true => rfl
            | false => rw [far_none.mpr e2] at e; cases e
        refine ⟨_, rfl, _, _, rfl, rfl, ?_⟩
        refine ⟨_, rfl, a, rfl, ⟨_, SqL.of (s5 _ _ ha)⟩, fun D nD => ?_⟩
        refine scI_list (K := K) (a := a) (xs := ys) (bind := gTup K 3 (gCons (gName 6) (gCons (gName 7) (gCons (gName 8) gNil)))) (tst := tAnd (tTest (tOp (rIn K false) (tVar 7) (tVar 3))) (tB (tDNotIn (tVar 6) (tVar 2)))) (val := tVar 6) (own := [6, 7, 8])
          (fun i H' => Same H2 H' ∧ ∃ l : List Int, l.Nodup ∧ H' D = some (SetO w D (fun x => decide (x ∈ l)) l.length) ∧ ∀ x, x ∈ l ↔ (seen ts gs (d + 1) x = false ∧ ∃ t ∈ ts.take i, t.1 = x ∧ lev ts gs d t.2.1 = true)) ⟨same_new nD, [], List.nodup_nil, ?_, fun x => ⟨fun z => (by cases z), fun ⟨_, t, ht, _⟩ => (by cases ht)⟩⟩ (fun i H' h => SqL.of (h.1 _ _ (s5 _ _ ha))) ?_ ?_
        · rw [upd_same]
          congr 2
        · rintro i x H3 hx ⟨s6, l, ndl, hD, hl2⟩
          obtain ⟨p, t, rfl, et2, ht⟩ := (tr.lift s5).at hx
          have hin : t ∈ ts := List.mem_of_getElem? et2
          have more : ∀ z, (∃ t' ∈ ts.take (i + 1), t'.1 = z ∧ lev ts gs d t'.2.1 = true) ↔ (∃ t' ∈ ts.take i, t'.1 = z ∧ lev ts gs d t'.2.1 = true) ∨ (t.1 = z ∧ lev ts gs d t.2.1 = true) := fun z => by
            rw [List.take_add_one, et2]
            constructor
            · rintro ⟨t', h1, h2⟩
              rcases List.mem_append.mp h1 with h1 | h1
              · exact .inl ⟨t', h1, h2⟩
              · rw [show t' = t from List.mem_singleton.mp h1] at h2
                exact .inr h2
            · rintro (⟨t', h1, h2⟩ | h)
              · exact ⟨t', List.mem_append_left _ h1, h2⟩
              · exact ⟨t, List.mem_append_right _ (List.mem_singleton.mpr rfl), h⟩
          refine ⟨p, _, rfl, SqT.of (s6 _ _ ht), rfl, _, _, rfl, _, _, rfl, _, _, rfl, rfl, rfl, ?_⟩
          refine ⟨_, rfl, _, rfl, lv, _, rfl, .inl (SqL.of (s6 _ _ hl)), rfl, flat_ints' ns, _, rfl, ?_⟩
          show (if (inV (.int t.2.1) (ns.map V.int)) = true then _ else _)
          rw [in_ints]
          by_cases h1 : t.2.1 ∈ ns
          · rw [if_pos (decide_eq_true h1)]
            have le1 := (mem t.2.1).mp h1
            have lu := u60_le ndl fun x hx => by
              obtain ⟨_, t', h2, h3, h4⟩ := (hl2 x).mp hx
              exact h3 ▸ ut t' (List.mem_of_mem_take h2)
            refine ⟨_, rfl, _, rfl, fd, _, rfl, DGet.k (k := .inl t.1) (s6 _ _ hf), _, rfl, ?_⟩
            rw [vS]
            cases es : seen ts gs (d + 1) t.1 with
            | true =>
              refine ⟨s6, l, ndl, hD, fun x => ?_⟩
              rw [hl2, more]
              refine ⟨fun h => ⟨h.1, .inl h.2⟩, fun h => ⟨h.1, h.2.elim id fun z => ?_⟩⟩
              rw [z.1, h.1] at es
              cases es
            | false =>
              obtain ⟨l', e1, e2, e3⟩ := setPut_list (w := w) (D := D) (l := l) (c := t.1)
              refine ⟨_, rfl, t.1, _, _, rfl, hD, (by show l.length + 1 < 4096; omega), same_upd s6 nD, l', e3 ndl, ?_, fun x => ?_⟩
              · rw [upd_same]
                exact congrArg some e1
              · rw [e2, hl2, more]
                constructor
                · rintro (h | rfl)
                  · exact ⟨h.1, .inl h.2⟩
                  · exact ⟨es, .inr ⟨rfl, le1⟩⟩
                · rintro ⟨h2, h | h⟩
                  · exact .inl ⟨h2, h⟩
                  · exact .inr h.1.symm
          · rw [if_neg (by simpa using h1)]
            refine ⟨s6, l, ndl, hD, fun x => ?_⟩
            rw [hl2, more]
            exact ⟨fun h => ⟨h.1, .inl h.2⟩, fun h => ⟨h.1, h.2.elim id fun z => absurd ((mem _).mpr z.2) h1⟩⟩
        · rintro H3 ⟨s6, l, ndl, hD, hl2⟩
          have lu := u60_le ndl fun x hx => by
            obtain ⟨_, t', h2, h3, h4⟩ := (hl2 x).mp hx
            exact h3 ▸ ut t' (List.mem_of_mem_take h2)
          refine ⟨D, _, _, rfl, hD, by omega, fun ns' p up' mem' len' np => ?_⟩
          have s7 : Same H2 (upd H3 p (.lst (ns'.map V.int))) := s6.trans (same_new np)
          refine ⟨d + 1, kvs2, ks ++ ns, ns', p, _, rfl, s5.trans s7, s7 _ _ hf, far2, upd_same, up'.imp fun h e => by subst e; exact Int.lt_irrefl _ h, fun x => ?_, by rw [List.length_append]; omega, by rw [List.length_append]; omega⟩
          rw [mem', decide_eq_true_iff, hl2, lev_succ, Bool.and_eq_true, List.any_eq_true, tr.len, List.take_of_length_le (Nat.le_refl _)]
          refine and_congr (by simp) ?_
          constructor
          · rintro ⟨t, h1, h2, h3⟩
            exact ⟨t, h1, by rw [decide_eq_true h2, h3]; rfl⟩
          · rintro ⟨t, h1, h2⟩
            rw [Bool.and_eq_true] at h2
            exact ⟨t, h1, of_decide_eq_true h2.1, h2.2⟩
end
end Tw




namespace Tw
open PySem PySem.Spec PyProof.Rows L2
section
variable {P : Program} {w : World} {K : PySem.W.Frag} {mg : Str → Option Value} {base : Heap} {A₀ : Ad}
def spReached : Sp := fun vs H Q _ => ∃ (g a : Addr) (gs : List Int) (ys : List V) (ts : List Step), vs = [.ref g, .ref a] ∧ H g = some (.lst (gs.map V.int)) ∧ gs.length ≤ 60 ∧ (∀ x ∈ gs, U60 x) ∧ H a = some (.lst ys) ∧ Trs H ys ts ∧ ts.length ≤ 1000 ∧ (∀ t ∈ ts, U60 t.2.1) ∧
  ∀ H' q (ns : List Int), Same H H' → H q = none → H' q = some (.lst (ns.map V.int)) → (∀ x, x ∈ ns ↔ Rch (ts.map turn) gs x) → ns.length ≤ 60 → Q (.ref q) H'
theorem cal_stations_reached (T : Txt P w K mg base A₀) : Cal P w K mg base CX0 "stations_reached" 2 ["starts", "steps"] spReached := by
  have c_distances := cal_distances T; have c_turned := cal_turned T
  refine cal_of T.d_stations_reached sc_stations_reached b_stations_reached (fun vs H Q E h => ?_) (fun f cdv A outer s H vs Q E hr h => ?_)
  · obtain ⟨g, a, gs, ys, ts, rfl, _⟩ := h
    rfl
  · obtain ⟨g, a, gs, ys, ts, rfl, hg, gl, ug, ha, tr, tl, ut, q0⟩ := h
    refine ⟨_, (pss_one (ps_ret (pe_callB (call_sortedDI rfl) (by rfl) T.n_sorted (by decide +kernel) (pa_cons (pe_cal c_distances (hr.mono (by first | exact Nat.le_refl _ | decide)) (by rfl) (pa_cons (pv 0) (pa_cons (pe_cal c_turned (hr.mono (by first | exact Nat.le_refl _ | decide)) (by rfl) (pa_cons (pv 1) pa_nil)) pa_nil))) pa_nil)))), ?_⟩
    have ut2 : ∀ t ∈ ts.map turn, U60 t.1 := fun t ht => by
      obtain ⟨t0, h0, rfl⟩ := List.mem_map.mp ht
      exact ut t0 h0
    refine ⟨_, rfl, _, rfl, a, ys, ts, rfl, ha, tr, by omega, fun H1 q zs s1 hq tz => ?_⟩
    refine ⟨g, q, gs, zs, _, rfl, s1 _ _ hg, gl, ug, hq, tz, by rw [List.length_map]; exact tl, ut2, fun H2 fd kvs ks d s2 hfd far stop => ?_⟩
    have kl := u60_le far.nd fun x hx => (u60_of ug ut2 d).1 x ((far.mem x).mp hx)
    refine ⟨fd, kvs, ks, rfl, .inl hfd, far.keys, by omega, fun ns p pm up np => q0 _ p ns ((s1.trans s2).trans (same_new np)) ((s1.trans s2).free np) upd_same (fun x => ?_) (by rw [pm.length_eq]; exact kl)⟩
    rw [pm.mem_iff, far.mem]
    exact seen_rch stop x
end
end Tw




namespace Tw
open PySem PySem.Spec PyProof.Rows L2
theorem log_sm {n : Nat} (h : n < 2 ^ 100) : n.log2 < 1920 := by
  by_cases h0 : n = 0
  · subst h0; decide
  · exact (Nat.log2_lt h0).mpr (Nat.lt_of_lt_of_le h (Nat.pow_le_pow_right (by decide) (by decide)))
theorem okN {i : Int} (h : i.natAbs < 2 ^ 100) : ∀ z ∈ [V.int i], okMsg z := fun z hz => by
  rw [List.mem_singleton.mp hz]
  exact .inl ⟨i, rfl, log_sm h⟩
/-- an own exception at hand: its one field -/
def At1 (H : Hp) (d : Addr) (f : Str) (i : Int) : Prop := H d = some (.xd [(f, .int i)])
def okSize (n : Int) : Bool := decide (1 ≤ n) && decide (n ≤ 24)
def okRope (n : Int) (p : Rope) : Bool := !decide (p.1 = p.2) && (decide (0 ≤ p.1) && decide (p.1 < n)) && (decide (0 ≤ p.2) && decide (p.2 < n))
section
variable {P : Program} {w : World} {K : PySem.W.Frag} {mg : Str → Option Value} {base : Heap} {A₀ : Ad}
def spSize (A₀ : Ad) : Sp := fun vs H Q E => ∃ n : Int, vs = [.int n] ∧ (okSize n = true → ∀ H', Same H H' → Q .non H') ∧ (okSize n = false → ∀ d H', Same H H' → At1 H' d "place" (-1) → E (.ref A₀.c_BadNet) (some d) H')
theorem cal_check_size (T : Txt P w K mg base A₀) : Cal P w K mg base (L2N.CX P w) "check_size" 3 ["stations"] (spSize A₀) := by
  have x_BadNet := T.x_BadNet
  refine calX_of T.d_check_size sc_check_size b_check_size (fun vs H Q E h => ?_) (fun f cdv A outer s H vs Q E hr h => ?_)
  · obtain ⟨n, rfl, _⟩ := h
    rfl
  · obtain ⟨n, rfl, qG, qB⟩ := h
    obtain ⟨mc, rd, ⟨t1, v1⟩, ⟨t2, v2⟩⟩ := T.net_rd
    refine ⟨_, (pss_one (ps_if (pt_not (pt_chain op_le op_le pe_int (pv 0) (ClX.pe_cval (pe_glob (v := .ref A₀.c_Net) (by rfl) T.g_Net rfl)))) (pss_one (L2N.ps_raise rfl (L2N.takes_of rfl rfl rfl rfl) (pmk_err x_BadNet (hr.mono (by first | exact Nat.le_refl _ | decide)) (by rfl) (pa_cons (pe_un un_neg pe_int) pa_nil)))) pss_nil)), ?_⟩
    have bad : okSize n = false → ∀ d, H d = none → E (.ref A₀.c_BadNet) (some d) (upd H d (.xd [("place", .int (-1))])) := fun h d nd => qB h d _ (same_new nd) upd_same
    refine ⟨_, rfl, _, _, rfl, rfl, _, rfl, ite2 (fun z1 => ?_) (fun z1 => ?_)⟩
    · refine ⟨_, mc, _, _, rfl, rd, v1, _, _, rfl, rfl, _, rfl, ?_⟩
      by_cases z2 : n ≤ 24
      · rw [decide_eq_true z2]
        exact qG (by unfold okSize; rw [z1, decide_eq_true z2]; rfl) H (Same.refl H)
      · rw [decide_eq_false z2]
        refine iteT ⟨_, rfl, rfl, (by show 1 ≤ 1000; decide), okN (by decide), fun d nd => bad ?_ d nd⟩
        unfold okSize
        rw [decide_eq_false z2, Bool.and_false]
    · refine ⟨_, rfl, iteT ⟨_, rfl, rfl, (by show 1 ≤ 1000; decide), okN (by decide), fun d nd => bad ?_ d nd⟩⟩
      unfold okSize
      rw [Bool.eq_false_iff.mpr z1, Bool.false_and]
def spRopes (K : PySem.W.Frag) (A₀ : Ad) : Sp := fun vs H Q E => ∃ (n : Int) (r : V) (ps : List Rope), vs = [.int n, r] ∧ Dp K H r (.list (ps.map pairD)) ∧ ps.length ≤ 1000 ∧
  (ps.length ≤ 40 → (∀ p ∈ ps, okRope n p = true) → ∀ H', Same H H' → Q .non H') ∧
  (40 < ps.length → ∀ d H', Same H H' → At1 H' d "limit" 40 → E (.ref A₀.c_TooMany) (some d) H') ∧
  ∀ (k : Nat) (p : Rope), ps.length ≤ 40 → ps[k]? = some p → okRope n p = false → (∀ (j : Nat) (q : Rope), j < k → ps[j]? = some q → okRope n q = true) → ∀ d H', Same H H' → At1 H' d "place" (k : Int) → E (.ref A₀.c_BadNet) (some d) H'
theorem cal_check_ropes (T : Txt P w K mg base A₀) : Cal P w K mg base (L2N.CX P w) "check_ropes" 3 ["stations", "ropes"] (spRopes K A₀) := by
  have x_TooMany := T.x_TooMany; have x_BadNet := T.x_BadNet
  refine calX_of T.d_check_ropes sc_check_ropes b_check_ropes (fun vs H Q E h => ?_) (fun f cdv A outer s H vs Q E hr h => ?_)
  · obtain ⟨n, r, ps, rfl, _⟩ := h
    rfl
  · obtain ⟨n, r, ps, rfl, hx, hn, qG, qM, qB⟩ := h
    obtain ⟨mc, rd, ⟨t1, v1⟩, ⟨t2, v2⟩⟩ := T.net_rd
    refine ⟨_, (pss_cons (ps_if (pt_cmpR op_gt (pe_callB call_len_seq (by rfl) T.n_len PySem.boot_len (pa_cons (pv 1) pa_nil)) (ClX.pe_cval (pe_glob (v := .ref A₀.c_Net) (by rfl) T.g_Net rfl)) (nomark _)) (pss_one (L2N.ps_raise rfl (L2N.takes_of rfl rfl rfl rfl) (pmk_err x_TooMany (hr.mono (by first | exact Nat.le_refl _ | decide)) (by rfl) (pa_cons (ClX.pe_cval (pe_glob (v := .ref A₀.c_Net) (by rfl) T.g_Net rfl)) pa_nil)))) pss_nil)
  (pss_one (ps_for (passes_of rfl) rfl (pi_enum (by rfl) T.n_enumerate (pa_cons (pv 1) pa_nil)) (pg_tup rfl (pgs_cons (pg_name (i := 2) sc_check_ropes.nd rfl (Or.inl rfl)) (pgs_cons (pg_tup rfl (pgs_cons (pg_name (i := 3) sc_check_ropes.nd rfl (Or.inl rfl)) (pgs_cons (pg_name (i := 4) sc_check_ropes.nd rfl (Or.inl rfl)) pgs_nil))) pgs_nil))) (pss_one (ps_if (PW.pt (pw_or (pt_cmpR op_eq (pv 3) (pv 4) (nomark _)) (pw_or (pt_not (pt_chain op_le op_lt pe_int (pv 3) (pv 0))) (pw_or1 (pt_not (pt_chain op_le op_lt pe_int (pv 4) (pv 0))))))) (pss_one (L2N.ps_raise rfl (L2N.takes_of rfl rfl rfl rfl) (pmk_err x_BadNet (hr.mono (by first | exact Nat.le_refl _ | decide)) (by rfl) (pa_cons (pv 2) pa_nil)))) pss_nil))))), ?_⟩
    cases hx with
    | @lst a xs _ hs ha =>
    have hl : xs.length = ps.length := by rw [DpAll.len ha, List.length_map]
    refine ⟨_, rfl, a, xs, rfl, .inl hs, _, mc, _, _, rfl, rd, v2, _, _, rfl, rfl, _, rfl, ite2 (fun z => ?_) (fun z => ?_)⟩
    · have z : (40 : Int) < (xs.length : Int) := of_decide_eq_true z
      refine ⟨_, mc, _, _, rfl, rd, v2, rfl, (by show 1 ≤ 1000; decide), okN (by decide), fun d nd => qM (by omega) d _ (same_new nd) upd_same⟩
    · have h40 : ps.length ≤ 40 := by
        have z : ¬ (40 : Int) < (xs.length : Int) := fun h => z (decide_eq_true h)
        omega
      refine ⟨_, rfl, a, xs, rfl, hs, for_it (walk_enum (K := K) (a := a) (xs := xs)) (fun i σ' H' => ∃ (y1 y2 y3 : Option V), σ' = [some (.int n), some (.ref a), y1, y2, y3] ∧ Same H H' ∧ ∀ (j : Nat) (q : Rope), j < i → ps[j]? = some q → okRope n q = true) ⟨none, none, none, rfl, Same.refl H, fun j _ h => absurd h (Nat.not_lt_zero _)⟩ (fun i σ' H' _ ⟨_, _, _, _, s, _⟩ => s.seq hs) ?_ ?_⟩
      · rintro i x σ' H1 H2 hi ⟨y1, y2, y3, rfl, s2, hb⟩ ⟨T0, v1', v2', rfl, nT, rfl, f1, f2⟩
        have f1 := Option.some.inj f1
        subst f1
        obtain ⟨p, t, ep, rfl, ht⟩ := pair_at ha f2
        have s3 : Same H1 (upd H1 T0 (.tup [.int (i : Int), .ref t])) := same_new nT
        have bad : okRope n p = false → ∀ d, upd H1 T0 (.tup [.int (i : Int), .ref t]) d = none → E (.ref A₀.c_BadNet) (some d) (upd (upd H1 T0 (.tup [.int (i : Int), .ref t])) d (.xd [("place", .int (i : Int))])) := fun h d nd =>
          qB i p h40 ep h hb d _ ((s2.trans s3).trans (same_new nd)) upd_same
        have good : okRope n p = true → ∀ (j : Nat) (q : Rope), j < i + 1 → ps[j]? = some q → okRope n q = true := fun h j q hj e => by
          by_cases e2 : j = i
          · subst e2
            rw [ep] at e
            cases e
            exact h
          · exact hb j q (by omega) e
        refine ⟨T0, _, rfl, SqT.of upd_same, rfl, _, _, rfl, _, _, rfl, t, _, rfl, Same.tup (s2.trans s3) ht, rfl, _, _, rfl, _, _, rfl, rfl, rfl, ?_⟩
        have fail : okRope n p = false → ∃ x, ([some (V.int n), some (.ref a), some (.int (i : Int)), some (.int p.1), some (.int p.2)] : L2.St)[2]? = some (some x) ∧ [x].length = ["place"].length ∧ [x].length ≤ 1000 ∧ (∀ z ∈ [x], okMsg z) ∧ ∀ d, upd H1 T0 (.tup [.int (i : Int), .ref t]) d = none → E (.ref A₀.c_BadNet) (some d) (upd (upd H1 T0 (.tup [.int (i : Int), .ref t])) d (.xd (errF ["place"] [x]))) := fun h =>
          ⟨_, rfl, rfl, (by show 1 ≤ 1000; decide), okN (by omega), fun d nd => bad h d nd⟩
        refine ⟨_, rfl, _, rfl, rfl, _, rfl, ite2 (fun z => ?_) (fun z => ?_)⟩
        · have e : p.1 = p.2 := by
            have := of_decide_eq_true z
            injection this
          exact fail (by unfold okRope; rw [decide_eq_true e]; rfl)
        have ne : ¬ p.1 = p.2 := fun e => z (decide_eq_true (by rw [e]))
        refine ⟨_, rfl, _, _, rfl, rfl, _, rfl, ite2 (fun a1 => ?_) (fun a1 => ?_)⟩
        · refine ⟨_, rfl, _, _, rfl, rfl, _, rfl, ?_⟩
          by_cases a2 : p.1 < n
          · rw [decide_eq_true a2]
            refine ⟨_, rfl, _, _, rfl, rfl, _, rfl, ite2 (fun b1 => ?_) (fun b1 => ?_)⟩
            · refine ⟨_, rfl, _, _, rfl, rfl, _, rfl, ?_⟩
              by_cases b2 : p.2 < n
              · rw [decide_eq_true b2]
                exact ⟨_, _, _, rfl, s2.trans s3, good (by unfold okRope; rw [decide_eq_false ne, decide_eq_true a2, decide_eq_true b2, a1, b1]; rfl)⟩
              · rw [decide_eq_false b2]
                exact fail (by unfold okRope; rw [decide_eq_false b2, Bool.and_false, Bool.and_false])
            · exact ⟨_, rfl, fail (by unfold okRope; rw [Bool.eq_false_iff.mpr b1, Bool.false_and, Bool.and_false])⟩
          · rw [decide_eq_false a2]
            exact fail (by unfold okRope; rw [decide_eq_false a2, Bool.and_false, Bool.and_false, Bool.false_and])
        · exact ⟨_, rfl, fail (by unfold okRope; rw [Bool.eq_false_iff.mpr a1, Bool.false_and, Bool.and_false, Bool.false_and])⟩
      · rintro σ' H1 ⟨y1, y2, y3, rfl, s2, hb⟩
        refine qG h40 (fun p hp => ?_) H1 s2
        obtain ⟨j, hj⟩ := List.mem_iff_getElem?.mp hp
        have := (List.getElem?_eq_some_iff.mp hj).1
        exact hb j p (by omega) hj
end
end Tw




namespace Tw
open PySem PySem.Spec PyProof.Rows L2
/-- all but b is as it was -/
def But (b : Addr) (H H' : Hp) : Prop := ∀ a o, a ≠ b → H a = some o → H' a = some o
/-- what leads to station 0 -/
def Con (ps : List Rope) : Int → Prop := Rch ((stepsFrom 0 ps).map turn) [0]
theorem stepsFrom_mem {t : Step} : ∀ {i : Nat} {ps : List Rope}, t ∈ stepsFrom i ps → ∃ p ∈ ps, (t.1 = p.1 ∧ t.2.1 = p.2) ∨ (t.1 = p.2 ∧ t.2.1 = p.1)
  | i, (s, e) :: r, h => by
    rcases List.mem_cons.mp h with rfl | h
    · exact ⟨_, List.mem_cons_self, .inl ⟨rfl, rfl⟩⟩
    · rcases List.mem_cons.mp h with rfl | h
      · exact ⟨_, List.mem_cons_self, .inr ⟨rfl, rfl⟩⟩
      · obtain ⟨p, hp, q⟩ := stepsFrom_mem h
        exact ⟨p, List.mem_cons_of_mem _ hp, q⟩
theorem okRope_u {n : Int} {p : Rope} (hn : okSize n = true) (h : okRope n p = true) : U60 p.1 ∧ U60 p.2 := by
  unfold okSize at hn
  unfold okRope at h
  simp only [Bool.and_eq_true, decide_eq_true_eq] at h hn
  exact ⟨⟨h.1.2.1, by omega⟩, ⟨h.2.1, by omega⟩⟩
theorem SqL.but {K : PySem.W.Frag} {x a C dx : Addr} {fs : List (Str × V)} {H H' : Hp} {xs : List V} (b : But x H H') (e : H x = some (.ins C dx fs)) (h : SqL K H a xs) : SqL K H' a xs := by
  have ne : ∀ {o : HO}, H a = some o → o ≠ .ins C dx fs → H' a = some o := fun {o} ea no => b a o (fun z => by subst z; rw [e] at ea; exact no (Option.some.inj ea).symm) ea
  rcases h with (h | ⟨o, h⟩) | h
  · exact .inl (.inl (ne h (fun z => by cases z)))
  · exact .inl (.inr ⟨o, ne h (fun z => by cases z)⟩)
  · exact .inr h
theorem SqT.but {K : PySem.W.Frag} {x a C dx : Addr} {fs : List (Str × V)} {H H' : Hp} {xs : List V} (b : But x H H') (e : H x = some (.ins C dx fs)) (h : SqT K H a xs) : SqT K H' a xs := by
  have ne : ∀ {o : HO}, H a = some o → o ≠ .ins C dx fs → H' a = some o := fun {o} ea no => b a o (fun z => by subst z; rw [e] at ea; exact no (Option.some.inj ea).symm) ea
  rcases h with (h | ⟨o, h⟩) | h
  · exact .inl (.inl (ne h (fun z => by cases z)))
  · exact .inl (.inr ⟨o, ne h (fun z => by cases z)⟩)
  · exact .inr h
theorem But.new {x p : Addr} {H H' : Hp} {o : HO} (b : But x H H') (h : H' p = none) : But x H (upd H' p o) := fun a u ne e => by
  have := b a u ne e
  rw [upd_ne (ne_of_none this h)]
  exact this
theorem But.self {x : Addr} {H H' : Hp} {o : HO} (b : But x H H') : But x H (upd H' x o) := fun a u ne e => by
  rw [upd_ne ne]
  exact b a u ne e
/-- new pairs of ints -/
inductive Prs (H : Hp) : List V → List Rope → Prop
  | nil : Prs H [] []
  | cons {p : Addr} {t : Rope} {ys : List V} {ts : List Rope} : H p = some (.tup [.int t.1, .int t.2]) → Prs H ys ts → Prs H (.ref p :: ys) (t :: ts)
theorem Prs.mono {H H' : Hp} (k : ∀ p xs, H p = some (.tup xs) → H' p = some (.tup xs)) : ∀ {ys : List V} {ts : List Rope}, Prs H ys ts → Prs H' ys ts
  | _, _, .nil => .nil
  | _, _, .cons h r => .cons (k _ _ h) (Prs.mono k r)
theorem Prs.len {H : Hp} : ∀ {ys : List V} {ts : List Rope}, Prs H ys ts → ys.length = ts.length
  | _, _, .nil => rfl
  | _, _, .cons _ r => congrArg (· + 1) (Prs.len r)
theorem Prs.snoc {H : Hp} {p : Addr} {t : Rope} (h : H p = some (.tup [.int t.1, .int t.2])) : ∀ {ys : List V} {ts : List Rope}, Prs H ys ts → Prs H (ys ++ [.ref p]) (ts ++ [t])
  | _, _, .nil => .cons h .nil
  | _, _, .cons g s => .cons g (Prs.snoc h s)
theorem Prs.upd {H : Hp} {q : Addr} {n : HO} (e : ∀ xs, H q ≠ some (.tup xs)) {ys : List V} {ts : List Rope} (h : Prs H ys ts) : Prs (L2.upd H q n) ys ts := h.mono fun p xs e2 => by
  rw [upd_ne]
  · exact e2
  · intro z
    subst z
    exact e _ e2
theorem Prs.dp {K : PySem.W.Frag} {H : Hp} : ∀ {ys : List V} {ts : List Rope}, Prs H ys ts → DpAll K H ys (ts.map pairD)
  | _, _, .nil => .nil
  | _, _, .cons h r => .cons (.tup (SqT.of h) (.cons (.int _) (.cons (.int _) .nil))) (Prs.dp r)
section
variable {P : Program} {w : World} {K : PySem.W.Frag} {mg : Str → Option Value} {base : Heap} {A₀ : Ad}
theorem okX_of {x qual : Str} {st : Stmt} {N ps : List Str} {k : Nat} {sp : Sp} {f : Addr} {fd : FuncData} (F : Fun K x qual st f fd) (S : FnScope N ps (defScope st)) (len : ∀ vs H Q E, sp vs H Q E → vs.length = ps.length)
    (hbody : ∀ (cdv : Value) (A : Around) (outer : List Env) (s : Shared) (H : Hp) (vs : List V) (Q : VK) (E : XK), Room k (A.deeper (envOfC qual (defScope st) s.heap.objs.size f cdv)) → sp vs H Q E →
      ∃ t, PSs (cxOf (L2N.CX P w) P w K mg base N qual (defScope st) f cdv A outer s H E) (defBody st) t ∧ t { nx := fun _ H' => Q .non H', rt := Q } (start N vs) H) : FnOk P w K mg base (L2N.CX P w) (k + 1) f fd ps sp := by
  obtain ⟨oc, od, kV, doc, pm, an, cdv, ct, osl, rfl, lk, hcd⟩ := F.ex
  exact fn_of lk hcd S len fun A outer s H vs Q E hr hsp => hbody cdv A outer s H vs Q E hr hsp
def spNetI (K : PySem.W.Frag) (A₀ : Ad) : Sp := fun vs H Q E => ∃ (x dx : Addr) (n : Int) (r : V) (ps : List Rope), vs = [.ref x, .int n, r] ∧ H x = some (.ins A₀.c_Net dx []) ∧ Dp K H r (.list (ps.map pairD)) ∧ ps.length ≤ 1000 ∧
  (okSize n = false → ∀ d H', Same H H' → At1 H' d "place" (-1) → E (.ref A₀.c_BadNet) (some d) H') ∧
  (okSize n = true → (40 < ps.length → ∀ d H', Same H H' → At1 H' d "limit" 40 → E (.ref A₀.c_TooMany) (some d) H') ∧
    (∀ (k : Nat) (p : Rope), ps.length ≤ 40 → ps[k]? = some p → okRope n p = false → (∀ (j : Nat) (q : Rope), j < k → ps[j]? = some q → okRope n q = true) → ∀ d H', Same H H' → At1 H' d "place" (k : Int) → E (.ref A₀.c_BadNet) (some d) H') ∧
    (ps.length ≤ 40 → (∀ p ∈ ps, okRope n p = true) →
      (∀ s : Nat, (s : Int) < n → ¬ Con ps s → (∀ j : Nat, j < s → Con ps j) → ∀ d H', Same H H' → At1 H' d "station" (s : Int) → E (.ref A₀.c_NotConnected) (some d) H') ∧
      ((∀ s : Nat, (s : Int) < n → Con ps s) → ∀ H' t, But x H H' → H' x = some (.ins A₀.c_Net dx [("stations", .int n), ("ropes", .ref t)]) → Dp K H' (.ref t) (.tuple (ps.map pairD)) → Q .non H')))
theorem ok_Net_init (T : Txt P w K mg base A₀) {f : Addr} {fd : FuncData} (F : Fun K "__init__" "Net.__init__" s_Net___init__ f fd) : FnOk P w K mg base (L2N.CX P w) 4 f fd ["self", "stations", "ropes"] (spNetI K A₀) := by
  have c_check_size := cal_check_size T; have c_check_ropes := cal_check_ropes T; have c_stations_reached := cal_stations_reached T; have c_rope_steps := cal_rope_steps T; have x_NotConnected := T.x_NotConnected
  refine okX_of F sc_Net___init__ (fun vs H Q E h => ?_) (fun cdv A outer s H vs Q E hr h => ?_)
  · obtain ⟨x, dx, n, r, ps, rfl, _⟩ := h
    rfl
  · obtain ⟨x, dx, n, r, ps, rfl, hx, hd, hn, qS, qG⟩ := h
    refine ⟨_, (pss_cons (ps_expr (pe_calX c_check_size (L2N.takes_of rfl rfl rfl rfl) (hr.mono (by first | exact Nat.le_refl _ | decide)) (by rfl) (pa_cons (pv 1) pa_nil)))
  (pss_cons (ps_expr (pe_calX c_check_ropes (L2N.takes_of rfl rfl rfl rfl) (hr.mono (by first | exact Nat.le_refl _ | decide)) (by rfl) (pa_cons (pv 1) (pa_cons (pv 2) pa_nil))))
  (pss_cons (ps_set (i := 3) sc_Net___init__.nd rfl (Or.inl rfl) (pe_cal c_stations_reached (hr.mono (by first | exact Nat.le_refl _ | decide)) (by rfl) (pa_cons (pe_lst (pa_cons pe_int pa_nil)) (pa_cons (pe_cal c_rope_steps (hr.mono (by first | exact Nat.le_refl _ | decide)) (by rfl) (pa_cons (pv 2) pa_nil)) pa_nil))))
  (pss_cons (ps_for (passes_of rfl) rfl (pi_range1 (by rfl) T.n_range (pa_cons (pv 1) pa_nil)) (pg_name (i := 4) sc_Net___init__.nd rfl (Or.inl rfl)) (pss_one (ps_if (pt_cmpR op_notIn_seq (pv 4) (pv 3) (by rfl)) (pss_one (L2N.ps_raise rfl (L2N.takes_of rfl rfl rfl rfl) (pmk_err x_NotConnected (hr.mono (by first | exact Nat.le_refl _ | decide)) (by rfl) (pa_cons (pv 4) pa_nil)))) pss_nil)))
  (pss_cons (ps_fld (pv 0) (pv 1) rfl)
  (pss_one (ps_fld (pv 0) (pe_callTy call_tuple_of (by rfl) T.n_tuple (by decide +kernel) (pa_cons (pe_lc (own := [("start", 5), ("end", 6)]) (g := gTup K 2 (gCons (gName 5) (gCons (gName 6) gNil))) rfl sc_Net___init__.nd (pi_list (pv 2)) (blkOk_by (own := [("start", 5), ("end", 6)]) (N := ["self", "stations", "ropes", "reached", "station", "start", "end"]) (sc := defScope s_Net___init__) (by decide +kernel)) (fun _ _ _ _ _ => (pg_tup rfl (pgs_cons (pg_name (i := 5) sc_Net___init__.nd rfl (Or.inl rfl)) (pgs_cons (pg_name (i := 6) sc_Net___init__.nd rfl (Or.inl rfl)) pgs_nil)))) (fun _ _ _ _ _ => pts_nil) (fun _ _ _ _ _ => (pe_tup (pa_cons (pv 5) (pa_cons (pv 6) pa_nil))))) pa_nil)) rfl))))))), ?_⟩
    refine ⟨_, rfl, n, rfl, fun okS H1 s1 => ?_, fun bad d H1 s1 e1 => qS bad d H1 s1 e1⟩
    obtain ⟨qM, qB, qC⟩ := qG okS
    refine ⟨_, rfl, _, rfl, n, r, ps, rfl, Dp.same s1 hd, hn, fun h40 okR H2 s2 => ?_, fun h40 d H2 s2 e2 => qM h40 d H2 (s1.trans s2) e2, fun k p h40 ek hb hp d H2 s2 e2 => qB k p h40 ek hb hp d H2 (s1.trans s2) e2⟩
    obtain ⟨qN, qR⟩ := qC h40 okR
    have s12 := s1.trans s2
    refine ⟨(by show 1 ≤ sizeLine; rw [sizeLine_eq]; decide), fun g ng => ?_⟩
    have s3 := s12.trans (same_new (o := .lst [.int 0]) ng)
    refine ⟨_, rfl, r, ps, rfl, Dp.same s3 hd, hn, fun H3 q ys s4 hq tr => ?_⟩
    refine ⟨g, q, [0], ys, _, rfl, s4 _ _ upd_same, (by decide), (fun x hx => by rw [List.mem_singleton.mp hx]; exact ⟨by decide, by decide⟩), hq, tr, by rw [stepsFrom_len]; omega, fun t ht => ?_, fun H4 rc ns s5 _ hrc mem nl => ?_⟩
    · obtain ⟨p, hp, e⟩ := stepsFrom_mem ht
      have u := okRope_u okS (okR p hp)
      rcases e with e | e
      · rw [e.2]; exact u.2
      · rw [e.2]; exact u.1
    have s34 := (s3.trans s4).trans s5
    have nb : 1 ≤ n ∧ n ≤ 24 := by
      unfold okSize at okS
      simpa using okS
    refine ⟨_, rfl, n, rfl, by omega, by omega, for_range (lo := 0) (n := n.toNat) (fun i σ' H' => (∃ y1 y2 y3 : Option V, σ' = [some (.ref x), some (.int n), some r, some (.ref rc), y1, y2, y3]) ∧ H' = H4 ∧ ∀ j : Nat, j < i → Con ps j) ⟨⟨_, _, _, rfl⟩, rfl, fun j h => absurd h (Nat.not_lt_zero _)⟩ ?_ ?_⟩
    · rintro i σ' H5 hi ⟨⟨y1, y2, y3, rfl⟩, rfl, hb⟩
      refine ⟨_, rfl, _, rfl, rc, _, rfl, .inl (SqL.of hrc), rfl, flat_ints' ns, _, rfl, ?_⟩
      show (if (!inV (.int (0 + (i : Int))) (ns.map V.int)) = true then _ else _)
      rw [in_ints, Int.zero_add]
      by_cases hc : (i : Int) ∈ ns
      · rw [decide_eq_true hc]
        refine iteF ⟨⟨_, _, _, rfl⟩, rfl, fun j hj => ?_⟩
        by_cases e : j = i
        · rw [e]; exact (mem _).mp hc
        · exact hb j (by omega)
      · rw [decide_eq_false hc]
        refine iteT ⟨_, rfl, rfl, (by show 1 ≤ 1000; decide), okN (by omega), fun d nd => ?_⟩
        refine qN i (by omega) (fun z => hc ((mem _).mpr z)) hb d _ (s34.trans (same_new nd)) ?_
        show upd _ d _ d = _
        rw [upd_same]
        rfl
    · rintro σ' H5 ⟨⟨y1, y2, y3, rfl⟩, rfl, hb⟩
      have con : ∀ s : Nat, (s : Int) < n → Con ps s := fun s hs => hb s (by omega)
      have hx5 := s34 _ _ hx
      have but0 : But x H H5 := fun a o _ e => s34 a o e
      refine ⟨_, rfl, _, rfl, x, A₀.c_Net, dx, [], rfl, hx5, T.net_cl, T.net_s, (by decide), ?_⟩
      have but1 : But x H (upd H5 x (.ins A₀.c_Net dx (putF "stations" (.int n) []))) := but0.self
      cases hd with
      | @lst a xs _ hs ha =>
      have hl : xs.length = ps.length := by rw [DpAll.len ha, List.length_map]
      refine ⟨_, rfl, a, rfl, ⟨_, SqL.but but1 hx hs⟩, fun D nD => ?_⟩
      have nDx : D ≠ x := fun z => by subst z; rw [upd_same] at nD; cases nD
      refine lc_list (K := K) (a := a) (xs := xs) (g := gTup K 2 (gCons (gName 5) (gCons (gName 6) gNil))) (tt := tYes) (te := tTup (tCons (tVar 5) (tCons (tVar 6) tNil))) (vs := [5, 6])
        (fun i H' => But x H H' ∧ H' x = some (.ins A₀.c_Net dx (putF "stations" (.int n) [])) ∧ ∃ zs, H' D = some (.lst zs) ∧ Prs H' zs (ps.take i)) ⟨but1.new nD, by rw [upd_ne nDx.symm]; exact upd_same, [], upd_same, .nil⟩ (fun i H' _ h => SqL.but h.1 hx hs) ?_ ?_
      · rintro i y H6 hy ⟨b6, x6, zs, hz, pz⟩
        obtain ⟨p, t, ep, rfl, ht⟩ := pair_at ha hy
        refine ⟨t, _, rfl, SqT.but b6 hx ht, rfl, _, _, rfl, _, _, rfl, rfl, rfl, ?_⟩
        refine ⟨_, rfl, _, rfl, (by show 2 ≤ sizeLine; rw [sizeLine_eq]; decide), fun l nl => ⟨zs, ?_, ?_, ?_, ?_, ?_⟩⟩
        · rw [upd_ne (ne_of_none hz nl)]; exact hz
        · rw [pz.len, List.length_take, sizeLine_eq]; omega
        · intro b o nb e
          have := b6.new (o := .tup [.int p.1, .int p.2]) nl b o nb e
          rw [upd_ne]
          · exact this
          · intro z
            subst z
            have h1 : H b = none := by
              cases h : H b with
              | none => rfl
              | some u =>
                have := but1 b u nb h
                rw [nD] at this
                cases this
            rw [h1] at e
            cases e
        · rw [upd_ne nDx.symm, upd_ne (ne_of_none x6 nl)]; exact x6
        · refine ⟨_, upd_same, ?_⟩
          rw [List.take_add_one, ep]
          have h1 := (pz.upd (q := l) (n := .tup [.int p.1, .int p.2]) fun xs e => by rw [nl] at e; cases e).snoc (t := p) upd_same
          refine h1.upd fun xs e => ?_
          rw [upd_ne (ne_of_none hz nl), hz] at e
          cases e
      · rintro H6 ⟨b6, x6, zs, hz, pz⟩
        rw [hl, List.take_of_length_le (Nat.le_refl _)] at pz
        refine ⟨D, zs, rfl, .inl ⟨SqL.of hz, fun t nt => ?_⟩⟩
        refine ⟨_, rfl, x, A₀.c_Net, dx, _, rfl, (by rw [upd_ne (ne_of_none x6 nt)]; exact x6), T.net_cl, T.net_r, (by show 1 < 1000; decide), ?_⟩
        refine qR con _ t (b6.new nt).self upd_same ?_
        have ntx : t ≠ x := fun z => by subst z; rw [x6] at nt; cases nt
        refine .tup (SqT.of (by rw [upd_ne ntx]; exact upd_same)) (Prs.dp ?_)
        refine (pz.upd (q := t) (n := .tup zs) fun xs e => by rw [nt] at e; cases e).upd fun xs e => ?_
        rw [upd_ne (ne_of_none x6 nt), x6] at e
        cases e
end
end Tw




namespace Tw
open PySem PySem.Spec PyProof.Rows L2
def line (n : Nat) : List Rope := (List.range (n - 1)).map fun (k : Nat) => ((k : Int), (k : Int) + 1)
section
variable {P : Program} {w : World} {K : PySem.W.Frag} {mg : Str → Option Value} {base : Heap} {A₀ : Ad}
def spLine : Sp := fun vs H Q _ => ∃ n : Nat, vs = [.int (n : Int)] ∧ n ≤ 1000 ∧ ∀ H' q ys, Same H H' → H q = none → H' q = some (.lst ys) → Prs H' ys (line n) → Q (.ref q) H'
end
end Tw




namespace Tw
open PySem PySem.Spec PyProof.Rows L2
theorem stepsFrom_has {p : Rope} : ∀ {i : Nat} {ps : List Rope}, p ∈ ps → ∃ r, (p.1, p.2, r) ∈ stepsFrom i ps ∧ (p.2, p.1, r) ∈ stepsFrom i ps
  | i, (s, e) :: ps, h => by
    rcases List.mem_cons.mp h with rfl | h
    · exact ⟨_, List.mem_cons_self, List.mem_cons_of_mem _ List.mem_cons_self⟩
    · obtain ⟨r, h1, h2⟩ := stepsFrom_has (i := i + 1) h
      exact ⟨r, List.mem_cons_of_mem _ (List.mem_cons_of_mem _ h1), List.mem_cons_of_mem _ (List.mem_cons_of_mem _ h2)⟩
theorem Con.zero {ps : List Rope} : Con ps 0 := .goal (List.mem_singleton.mpr rfl)
theorem Con.step {ps : List Rope} {p : Rope} {x e : Int} (h : Con ps e) (hp : p ∈ ps) (q : p = (x, e) ∨ p = (e, x)) : Con ps x := by
  obtain ⟨r, h1, h2⟩ := stepsFrom_has (i := 0) hp
  rcases q with rfl | rfl
  · exact Rch.step (r := r) (List.mem_map.mpr ⟨_, h2, rfl⟩) h
  · exact Rch.step (r := r) (List.mem_map.mpr ⟨_, h1, rfl⟩) h
theorem line_mem {n : Nat} {p : Rope} : p ∈ line n ↔ ∃ k : Nat, k + 1 < n ∧ p = ((k : Int), (k : Int) + 1) := by
  unfold line
  rw [List.mem_map]
  constructor
  · rintro ⟨k, hk, rfl⟩
    have := List.mem_range.mp hk
    exact ⟨k, by omega, rfl⟩
  · rintro ⟨k, hk, rfl⟩
    exact ⟨k, List.mem_range.mpr (by omega), rfl⟩
theorem con_line {n : Nat} {ps : List Rope} (sub : ∀ p ∈ line n, p ∈ ps) : ∀ s : Nat, s < n → Con ps s
  | 0, _ => Con.zero
  | s + 1, h => (con_line sub s (by omega)).step (p := ((s : Int), (s : Int) + 1)) (sub _ (line_mem.mpr ⟨s, h, rfl⟩)) (.inr rfl)
theorem line_ok {n : Int} (hn : okSize n = true) : ∀ p ∈ line n.toNat, okRope n p = true := fun p hp => by
  obtain ⟨k, hk, rfl⟩ := line_mem.mp hp
  unfold okSize at hn
  simp only [Bool.and_eq_true, decide_eq_true_eq] at hn
  unfold okRope
  simp only [Bool.and_eq_true, Bool.not_eq_true', decide_eq_false_iff_not, decide_eq_true_eq]
  omega
theorem line_len (n : Nat) : (line n).length = n - 1 := by
  unfold line
  rw [List.length_map, List.length_range]
/-- a net, as it lies -/
structure NetAt (K : PySem.W.Frag) (A₀ : Ad) (H : Hp) (a : Addr) (n : Int) (ps : List Rope) : Prop where
  at_ : ∃ dx t, H a = some (.ins A₀.c_Net dx [("stations", .int n), ("ropes", .ref t)]) ∧ Dp K H (.ref t) (.tuple (ps.map pairD))
theorem NetAt.lift {K : PySem.W.Frag} {A₀ : Ad} {H H' : Hp} {a : Addr} {n : Int} {ps : List Rope} (s : Same H H') (h : NetAt K A₀ H a n ps) : NetAt K A₀ H' a n ps := by
  obtain ⟨dx, t, h1, h2⟩ := h.at_
  exact ⟨dx, t, s _ _ h1, Dp.same s h2⟩
theorem but_same {H H2 H' : Hp} {a dx : Addr} {o u : HO} (s : Same H H2) (na : H2 a = none) (nd : H2 dx = none) (b : But a (upd (upd H2 dx o) a u) H') : Same H H' := fun c v e => by
  have e2 := s c v e
  refine b c v (ne_of_none e2 na) ?_
  rw [upd_ne (ne_of_none e2 na), upd_ne (ne_of_none e2 nd)]
  exact e2
theorem dp_two {K : PySem.W.Frag} {H : Hp} {a dx : Addr} {o u : HO} {v : V} {d : PyData} (na : H a = none) (nd : H dx = none) (ne : dx ≠ a) (h : Dp K H v d) : Dp K (upd (upd H dx o) a u) v d :=
  Dp.same (same_new (by rw [upd_ne ne.symm]; exact na)) (Dp.same (same_new nd) h)
section
variable {P : Program} {w : World} {K : PySem.W.Frag} {mg : Str → Option Value} {base : Heap} {A₀ : Ad}
/-- a classmethod that makes the net of n stations and the ropes rp n, where ok n -/
def spMk (K : PySem.W.Frag) (A₀ : Ad) (ok : Int → Bool) (rp : Nat → List Rope) : Sp := fun vs H Q E => ∃ n : Int, vs = [.ref A₀.c_Net, .int n] ∧
  (ok n = false → ∀ d H', Same H H' → At1 H' d "place" (-1) → E (.ref A₀.c_BadNet) (some d) H') ∧ (ok n = true → ∀ H' a, Same H H' → H a = none → NetAt K A₀ H' a n (rp n.toNat) → Q (.ref a) H')
theorem mk_Net (T : Txt P w K mg base A₀) : ∃ f fd, Mk K A₀.c_Net f ∧ FnOk P w K mg base (L2N.CX P w) 4 f fd ["self", "stations", "ropes"] (spNetI K A₀) ∧ Binds K fd ["self", "stations", "ropes"] [] := by
  obtain ⟨f, fd, M, F⟩ := T.net_mk
  refine ⟨f, fd, M, ok_Net_init T F, ?_⟩
  obtain ⟨oc, od, kV, doc, pm, an, cdv, ct, osl, rfl, _, _⟩ := F.ex
  exact Binds.all fun us hl => b_Net___init__ kV doc pm an cdv ct us hl
/-- where the net is good: what the maker's promise asks -/
theorem mk_good {x dx : Addr} {n : Int} {r : V} {ps : List Rope} {H : Hp} {Q : VK} {E : XK} (hx : H x = some (.ins A₀.c_Net dx [])) (hd : Dp K H r (.list (ps.map pairD))) (hs : okSize n = true) (h40 : ps.length ≤ 40) (hr : ∀ p ∈ ps, okRope n p = true) (hc : ∀ s : Nat, (s : Int) < n → Con ps s)
    (q : ∀ H', But x H H' → NetAt K A₀ H' x n ps → Q .non H') : spNetI K A₀ [.ref x, .int n, r] H Q E := by
  refine ⟨x, dx, n, r, ps, rfl, hx, hd, by omega, fun z => (by rw [hs] at z; cases z), fun _ => ⟨fun z => absurd z (by omega), fun k p _ ek hb => ?_, fun _ _ => ⟨fun s h1 h2 => absurd (hc s h1) h2, fun _ H' t b e d => q H' b ⟨dx, t, e, d⟩⟩⟩⟩
  rw [hr p (List.mem_of_getElem? ek)] at hb
  cases hb
def spokes (n : Nat) : List Rope := (List.range (n - 1)).map fun (k : Nat) => ((0 : Int), (k : Int) + 1)
end
end Tw




namespace Tw
open PySem PySem.Spec PyProof.Rows L2
section
variable {P : Program} {w : World} {K : PySem.W.Frag} {mg : Str → Option Value} {base : Heap} {A₀ : Ad}
theorem cal__law_mixed (T : Txt P w K mg base A₀) : Cal P w K mg base CX0 "_law_mixed" 1 ["cell", "turn"] spMixed := by
  refine cal_of T.d__law_mixed sc__law_mixed b__law_mixed (fun vs H Q E h => ?_) (fun f cdv A outer s H vs Q E hr h => ?_)
  · obtain ⟨i, j, rfl, _⟩ := h
    rfl
  · obtain ⟨i, j, rfl, k⟩ := h
    refine ⟨_, (pss_cons (ps_set (i := 2) sc__law_mixed.nd rfl (Or.inl rfl) (pe_op op_mod (pe_callTy call_int1 (by rfl) T.n_int (by decide +kernel) (pa_cons (pe_op op_add (pe_op op_add (pe_op op_mul (pv 0) pe_int) (pe_op op_mul (pv 1) pe_int)) pe_int) pa_nil)) pe_int))
  (pss_cons (ps_set (i := 3) sc__law_mixed.nd rfl (Or.inl rfl) (pe_op op_mod (pe_callTy call_int1 (by rfl) T.n_int (by decide +kernel) (pa_cons (pe_op op_add (pe_op op_add (pe_op op_mul (pv 2) (pv 2)) (pe_op op_mul (pv 1) pe_int)) pe_int) pa_nil)) pe_int))
  (pss_cons (ps_set (i := 4) sc__law_mixed.nd rfl (Or.inl rfl) (pe_op op_mod (pe_callTy call_int1 (by rfl) T.n_int (by decide +kernel) (pa_cons (pe_op op_add (pe_op op_mul (pv 3) (pv 3)) (pv 2)) pa_nil)) pe_int))
  (pss_one (ps_ret (pe_op op_fdiv (pv 4) pe_int)))))), ?_⟩
    have mo : ∀ {x m y : Int}, 0 < m → m < 4294967296 → CMul (x % m) y := fun {x m y} h1 h2 => .inl ⟨by have := Int.emod_nonneg x (by omega : m ≠ 0); omega, by have := Int.emod_lt_of_pos x h1; omega⟩
    refine ⟨_, rfl, _, _, rfl, rfl, .inr ⟨by decide, by decide⟩, _, rfl, _, _, rfl, rfl, .inr ⟨by decide, by decide⟩, _, _, rfl, rfl, _, _, rfl, rfl, .inl ⟨_, rfl, _, _, rfl, rfl, (by show (0 : Int) < 2147483647; decide), ?_⟩⟩
    refine ⟨_, rfl, _, rfl, _, _, rfl, rfl, mo (by decide) (by decide), _, rfl, _, _, rfl, rfl, .inr ⟨by decide, by decide⟩, _, _, rfl, rfl, _, _, rfl, rfl, .inl ⟨_, rfl, _, _, rfl, rfl, (by show (0 : Int) < 2147483629; decide), ?_⟩⟩
    refine ⟨_, rfl, _, rfl, _, _, rfl, rfl, mo (by decide) (by decide), _, rfl, _, _, rfl, rfl, .inl ⟨_, rfl, _, _, rfl, rfl, (by show (0 : Int) < 2147483587; decide), ?_⟩⟩
    refine ⟨_, rfl, _, _, rfl, rfl, ⟨by decide, by decide⟩, k _ (Int.ediv_nonneg (Int.emod_nonneg _ (by decide)) (by decide))⟩
theorem cal__law_draw (T : Txt P w K mg base A₀) : Cal P w K mg base CX0 "_law_draw" 2 ["bag", "size"] (spDraw K) := by
  have c__law_mixed := cal__law_mixed T
  refine cal_of T.d__law_draw sc__law_draw b__law_draw (fun vs H Q E h => ?_) (fun f cdv A outer s H vs Q E hr h => ?_)
  · obtain ⟨F, b, n, rfl, _⟩ := h
    rfl
  · obtain ⟨F, b, n, rfl, sF, ⟨Fb, c, ns, i, x, k, t, fo, big, hb, hc, hl, hi⟩, n0, n1, q⟩ := h
    have cb : ∀ {H' : Hp}, Same F H' → SqL K H' c (ns.map V.int) := fun s => s.seq hc
    refine ⟨_, (pss_cons (ps_asg (pe_op op_add (pe_ix ix_list (pv 0) pe_int (fun _ _ => rfl)) pe_int) (pg_sub (pv 0) pe_int set_list))
  (Evl.pss_cut (ps_if (pt_cmpR op_eq (pe_ix ix_list (pv 0) pe_int (fun _ _ => rfl)) pe_int (nomark _)) (pss_cons (ps_asg (pe_ix ix_list (pv 0) pe_int (fun _ _ => rfl)) (pg_sub (pv 0) pe_int set_list))
  (pss_cons (ps_asg pe_int (pg_sub (pv 0) pe_int set_list))
  (pss_cons (ps_asg pe_bl (pg_sub (pv 0) pe_int set_list))
  (pss_one (ps_if (pt_cmpR op_lt (pe_ix ix_list (pv 0) pe_int (fun _ _ => rfl)) (pe_callB call_len_seq (by rfl) T.n_len PySem.boot_len (pa_cons (pe_ix ix_list (pv 0) pe_int (fun _ _ => rfl)) pa_nil)) (nomark _)) (pss_cons (ps_asg (pe_ix ix_list (pe_ix ix_list (pv 0) pe_int (fun _ _ => rfl)) (pe_ix ix_list (pv 0) pe_int (fun _ _ => rfl)) (fun _ _ => rfl)) (pg_sub (pv 0) pe_int set_list))
  (pss_cons (ps_asg (pe_op op_add (pe_ix ix_list (pv 0) pe_int (fun _ _ => rfl)) pe_int) (pg_sub (pv 0) pe_int set_list))
  (pss_one (ps_if (pt_cmpR op_ge (pe_ix ix_list (pv 0) pe_int (fun _ _ => rfl)) (pe_op op_pow pe_int pe_int) (nomark _)) (pss_cons (ps_asg pe_int (pg_sub (pv 0) pe_int set_list))
  (pss_one (ps_asg pe_bl (pg_sub (pv 0) pe_int set_list)))) pss_nil)))) pss_nil))))) pss_nil)
  (pss_cons (ps_asg (pe_op op_sub (pe_ix ix_list (pv 0) pe_int (fun _ _ => rfl)) pe_int) (pg_sub (pv 0) pe_int set_list))
  (pss_cons (ps_if (pt_not (pt_truth (pe_ix ix_list (pv 0) pe_int (fun _ _ => rfl)) (by intro _; rfl))) (pss_one (ps_ret (pe_op op_mod (pe_callTy call_int1 (by rfl) T.n_int (by decide +kernel) (pa_cons (pe_cal c__law_mixed (hr.mono (by first | exact Nat.le_refl _ | decide)) (by rfl) (pa_cons (pe_ix ix_list (pv 0) pe_int (fun _ _ => rfl)) (pa_cons (pe_ix ix_list (pv 0) pe_int (fun _ _ => rfl)) pa_nil))) pa_nil)) (pv 1)))) pss_nil)
  (pss_cons (ps_set (i := 2) sc__law_draw.nd rfl (Or.inl rfl) (pe_op op_mod (pe_callTy call_int1 (by rfl) T.n_int (by decide +kernel) (pa_cons (pe_ix ix_list (pv 0) pe_int (fun _ _ => rfl)) pa_nil)) (pv 1)))
  (pss_cons (ps_asg (pe_op op_fdiv (pe_callTy call_int1 (by rfl) T.n_int (by decide +kernel) (pa_cons (pe_ix ix_list (pv 0) pe_int (fun _ _ => rfl)) pa_nil)) (pv 1)) (pg_sub (pv 0) pe_int set_list))
  (Evl.pss_cut (ps_if (pt_cmpR op_eq (pe_ix ix_list (pv 0) pe_int (fun _ _ => rfl)) pe_int (nomark _)) (pss_one (ps_asg pe_int (pg_sub (pv 0) pe_int set_list))) pss_nil)
  (pss_one (ps_ret (pv 2)))))))))), ?_⟩
    -- bag[4] = bag[4] + 1
    refine ⟨_, rfl, _, _, _, _, rfl, rfl, SqL.of hb, atI_nat (j := 4) rfl, _, _, rfl, rfl, _, rfl, b, _, _, 4, rfl, rfl, hb, ixN_lt (j := 4) rfl (by show 4 < 7; decide), ?_⟩
    refine ⟨fun σ' H' => ∃ (i x k : Int) (big : Bool), 0 ≤ i ∧ σ' = [some (.ref b), some (.int n), none] ∧ H' = upd H b (bg c i x k (t + 1) fo big), ?_, ?_⟩
    · have s1 : ∀ {o : HO}, Same F (upd H b o) := same_upd sF Fb
      refine ⟨_, rfl, _, _, _, _, rfl, rfl, SqL.of upd_same, atI_nat (j := 3) rfl, rfl, _, rfl, ite2 (fun e => ?_) (fun e => ⟨i, x, k, big, hi, rfl, rfl⟩)⟩
      refine ⟨_, rfl, _, _, _, _, rfl, rfl, SqL.of upd_same, atI_nat (j := 5) rfl, _, rfl, b, _, _, 2, rfl, rfl, upd_same, ixN_lt (j := 2) rfl (by show 2 < 7; decide), _, rfl, b, _, _, 3, rfl, rfl, upd_same, ixN_lt (j := 3) rfl (by show 3 < 7; decide), _, rfl, b, _, _, 6, rfl, rfl, upd_same, ixN_lt (j := 6) rfl (by show 6 < 7; decide), ?_⟩
      refine ⟨_, rfl, _, _, _, _, rfl, rfl, SqL.of upd_same, atI_nat (j := 1) rfl, _, rfl, _, _, _, _, rfl, rfl, SqL.of upd_same, atI_nat (j := 0) rfl, c, _, rfl, .inl (cb (by simp only [upd_upd]; exact s1)), _, _, rfl, rfl, _, rfl, ite2 (fun e2 => ?_) (fun e2 => ⟨i, fo, 9, false, hi, rfl, by simp only [upd_upd]; rfl⟩)⟩
      have hil : i.toNat < ns.length := by
        have e2' := of_decide_eq_true e2
        rw [List.length_map] at e2'
        omega
      have hat : atI (ns.map V.int) i = some (.int ns[i.toNat]) := by
        have e3 := atI_nat (xs := ns.map V.int) (j := i.toNat) (v := .int ns[i.toNat]) (by rw [List.getElem?_map, List.getElem?_eq_getElem hil]; rfl)
        rw [Int.toNat_of_nonneg hi] at e3
        exact e3
      refine ⟨_, rfl, _, _, _, _, rfl, rfl, SqL.of upd_same, atI_nat (j := 0) rfl, _, rfl, _, _, _, _, rfl, rfl, SqL.of upd_same, atI_nat (j := 1) rfl, c, _, i, _, rfl, rfl, cb (by simp only [upd_upd]; exact s1), hat, _, rfl, b, _, _, 2, rfl, rfl, upd_same, ixN_lt (j := 2) rfl (by show 2 < 7; decide), ?_⟩
      refine ⟨_, rfl, _, _, _, _, rfl, rfl, SqL.of upd_same, atI_nat (j := 1) rfl, _, _, rfl, rfl, _, rfl, b, _, _, 1, rfl, rfl, upd_same, ixN_lt (j := 1) rfl (by show 1 < 7; decide), ?_⟩
      refine ⟨_, rfl, _, _, _, _, rfl, rfl, SqL.of upd_same, atI_nat (j := 2) rfl, _, _, rfl, rfl, ⟨by decide, by decide, by decide⟩, _, _, rfl, rfl, _, rfl, ite2 (fun e4 => ?_) (fun e4 => ⟨i + 1, _, 9, false, by omega, rfl, by simp only [upd_upd]; rfl⟩)⟩
      refine ⟨_, rfl, b, _, _, 3, rfl, rfl, upd_same, ixN_lt (j := 3) rfl (by show 3 < 7; decide), _, rfl, b, _, _, 6, rfl, rfl, upd_same, ixN_lt (j := 6) rfl (by show 6 < 7; decide), ?_⟩
      exact ⟨i + 1, _, 60, true, by omega, rfl, by simp only [upd_upd]; rfl⟩
    · rintro σ' H' ⟨i, x, k, big, hi, rfl, rfl⟩
      have s1 : ∀ {o : HO}, Same F (upd H b o) := same_upd sF Fb
      have fin : ∀ (r : Int) (x k : Int) (big : Bool), 0 ≤ r → r < n → Q (.int r) (upd H b (bg c i x k (t + 1) fo big)) := fun r x k big h0 h1 => q r _ h0 h1 (fun a na => upd_ne na) ⟨Fb, c, ns, i, x, k, t + 1, fo, big, upd_same, hc, hl, hi⟩
      refine ⟨_, rfl, _, _, _, _, rfl, rfl, SqL.of upd_same, atI_nat (j := 3) rfl, _, _, rfl, rfl, _, rfl, b, _, _, 3, rfl, rfl, upd_same, ixN_lt (j := 3) rfl (by show 3 < 7; decide), ?_⟩
      refine ⟨_, rfl, _, _, _, _, rfl, rfl, SqL.of upd_same, atI_nat (j := 6) rfl, big, rfl, ?_⟩
      cases big with
      | false =>
        refine iteT ⟨_, rfl, _, _, _, _, rfl, rfl, SqL.of upd_same, atI_nat (j := 2) rfl, _, rfl, _, _, _, _, rfl, rfl, SqL.of upd_same, atI_nat (j := 4) rfl, _, _, rfl, fun r h0 => .inl ⟨_, rfl, _, rfl, _, _, rfl, rfl, n0, ?_⟩⟩
        show Q _ (upd (upd H b _) b _)
        rw [upd_upd]
        exact fin _ x (k - 1) false (Int.emod_nonneg _ (by omega)) (Int.emod_lt_of_pos _ n0)
      | true =>
        refine iteF ⟨_, rfl, _, _, _, _, rfl, rfl, SqL.of upd_same, atI_nat (j := 2) rfl, .inl ⟨_, rfl, _, rfl, _, _, rfl, rfl, n0, ?_⟩⟩
        refine ⟨_, rfl, _, _, _, _, rfl, rfl, SqL.of upd_same, atI_nat (j := 2) rfl, .inl ⟨_, rfl, _, rfl, _, _, rfl, rfl, ⟨n0, n1⟩, _, rfl, b, _, _, 2, rfl, rfl, upd_same, ixN_lt (j := 2) rfl (by show 2 < 7; decide), ?_⟩⟩
        refine ⟨fun σ' H' => ∃ (x' k' : Int), σ' = [some (.ref b), some (.int n), some (.int (x % n))] ∧ H' = upd H b (bg c i x' k' (t + 1) fo true), ?_, ?_⟩
        · refine ⟨_, rfl, _, _, _, _, rfl, rfl, SqL.of upd_same, atI_nat (j := 2) rfl, rfl, _, rfl, ite2 (fun e => ?_) (fun e => ⟨x / n, k - 1, rfl, by simp only [upd_upd]; rfl⟩)⟩
          exact ⟨_, rfl, b, _, _, 3, rfl, rfl, upd_same, ixN_lt (j := 3) rfl (by show 3 < 7; decide), x / n, 0, rfl, by simp only [upd_upd]; rfl⟩
        · rintro σ' H' ⟨x', k', rfl, rfl⟩
          exact ⟨_, rfl, fin _ x' k' true (Int.emod_nonneg _ (by omega)) (Int.emod_lt_of_pos _ n0)⟩
/-- the bag that a script makes -/
def spBag (K : PySem.W.Frag) : Sp := fun vs H Q _ => ∃ (a : Addr) (ns : List Int), vs = [.ref a] ∧ SqL K H a (ns.map V.int) ∧ ns.length ≤ 63 ∧ ∀ (F H' : Hp) (b : Addr), Same H F → Same F H' → H b = none → Bag K F H' b → Q (.ref b) H'
theorem cal__law_bag (T : Txt P w K mg base A₀) : Cal P w K mg base CX0 "_law_bag" 1 ["script"] (spBag K) := by
  refine cal_of T.d__law_bag sc__law_bag b__law_bag (fun vs H Q E h => ?_) (fun f cdv A outer s H vs Q E hr h => ?_)
  · obtain ⟨a, ns, rfl, _⟩ := h
    rfl
  · obtain ⟨a, ns, rfl, hs, hl, q⟩ := h
    refine ⟨_, (pss_cons (ps_set (i := 1) sc__law_bag.nd rfl (Or.inl rfl) (pe_callTy call_list_of (by rfl) T.n_list (by decide +kernel) (pa_cons (pe_slice sl_list (pv 0) po_none (po_some pe_int)) pa_nil)))
  (pss_cons (ps_set (i := 2) sc__law_bag.nd rfl (Or.inl rfl) pe_int)
  (pss_cons (ps_for PassesOwn.never rfl (pi_list (pv 1)) (pg_name (i := 3) sc__law_bag.nd rfl (Or.inl rfl)) (pss_one (ps_set (i := 2) sc__law_bag.nd rfl (Or.inl rfl) (pe_op op_mod (pe_callTy call_int1 (by rfl) T.n_int (by decide +kernel) (pa_cons (pe_op op_add (pe_op op_mul (pv 2) pe_int) (pv 3)) pa_nil)) pe_int))))
  (pss_one (ps_ret (pe_lst (pa_cons (pv 1) (pa_cons pe_int (pa_cons pe_int (pa_cons pe_int (pa_cons pe_int (pa_cons (pv 2) (pa_cons pe_bl pa_nil))))))))))))), ?_⟩
    have ec : cutV (ns.map V.int) none (some 63) = ns.map V.int := by
      unfold cutV
      rw [HT.sIx_none, show HT.sIx (ns.map V.int).length (ns.map V.int).length (some 63) = min 63 (ns.map V.int).length from HT.sIx_nat _ _ 63, List.length_map]
      rw [show min 63 ns.length = ns.length by omega, Nat.sub_zero, List.drop_zero]
      exact List.take_of_length_le (by rw [List.length_map]; omega)
    refine ⟨_, rfl, 63, rfl, a, _, rfl, hs, fun s ns' => ?_⟩
    have s1 : Same H (upd H s (.lst (cutV (ns.map V.int) none (some 63)))) := same_new ns'
    refine ⟨s, _, rfl, .inl (SqL.of upd_same), fun l nl => ?_⟩
    rw [ec] at s1 nl ⊢
    have s2 : Same (upd H s (.lst (ns.map V.int))) (upd (upd H s (.lst (ns.map V.int))) l (.lst (ns.map V.int))) := same_new nl
    generalize eH2 : upd (upd H s (.lst (ns.map V.int))) l (.lst (ns.map V.int)) = H2 at s2 ⊢
    have hl2 : SqL K H2 l (ns.map V.int) := SqL.of (by rw [← eH2]; exact upd_same)
    refine ⟨_, rfl, l, rfl, ⟨_, hl2⟩, for_list (K := K) (a := l) (xs := ns.map V.int) (fun i σ' H' => ∃ (fo : Int) (y : Option V), σ' = [some (.ref a), some (.ref l), some (.int fo), y] ∧ H' = H2) ⟨_, none, rfl, rfl⟩ (fun i σ' H' _ ⟨_, _, _, e⟩ => e ▸ hl2) ?_ ?_⟩
    · rintro i y σ' H' hi ⟨fo, y', rfl, rfl⟩
      obtain ⟨z, rfl⟩ : ∃ z, y = V.int z := by
        rw [List.getElem?_map] at hi
        cases e : ns[i]? with
        | none => rw [e] at hi; cases hi
        | some z => rw [e] at hi; exact ⟨z, (Option.some.inj hi).symm⟩
      exact ⟨_, rfl, _, _, rfl, rfl, .inr ⟨by decide, by decide⟩, _, rfl, _, _, rfl, rfl, .inl ⟨_, rfl, _, _, rfl, rfl, (by show (0 : Int) < 2147483647; decide), _, _, rfl, rfl⟩⟩
    · rintro σ' H' ⟨fo, y, rfl, rfl⟩
      refine ⟨_, rfl, _, rfl, (by show 7 ≤ sizeLine; rw [sizeLine_eq]; decide), fun p np => ?_⟩
      have s3 : Same H' (upd H' p (bg l 0 0 0 0 fo false)) := same_new np
      exact q H' _ p (s1.trans s2) s3 ((s1.trans s2).free np) ⟨np, l, ns, 0, 0, 0, 0, fo, false, upd_same, hl2, hl, Int.le_refl _⟩
end
end Tw




namespace Tw
open PySem PySem.Spec PyProof.Rows L2
section
variable {P : Program} {w : World} {K : PySem.W.Frag} {mg : Str → Option Value} {base : Heap} {A₀ : Ad}
theorem cal_exact (T : Txt P w K mg base A₀) (n k : Nat) (sp' : Sp) (hsp : ∀ m, n = m + 1 → sp' = spExact K m) (c__law_exact : Cal P w K mg base CX0 "_law_exact" k ["told", "due"] sp') : Cal P w K mg base CX0 "_law_exact" (k + 1) ["told", "due"] (spExact K n) := by
  refine cal_of T.d__law_exact sc__law_exact b__law_exact (fun vs H Q E h => ?_) (fun f cdv A outer s H vs Q E hr h => ?_)
  · obtain ⟨x, y, d, rfl, _⟩ := h
    rfl
  · obtain ⟨x, y, d, rfl, hx, hy, hd, q⟩ := h
    · refine ⟨_, (pss_cons (ps_if (PW.pt (pw_or (pt_val (pe_callB call_isi (by rfl) T.n_isinstance (by decide +kernel) (pa_cons (pv 0) (pa_cons (pe_bltn (v := .ty "bool") (by rfl) T.n_bool (by decide +kernel) rfl) pa_nil)))) (pw_or1 (pt_val (pe_callB call_isi (by rfl) T.n_isinstance (by decide +kernel) (pa_cons (pv 1) (pa_cons (pe_bltn (v := .ty "bool") (by rfl) T.n_bool (by decide +kernel) rfl) pa_nil))))))) (pss_one (ps_ret (pe_and (pe_callB call_isi (by rfl) T.n_isinstance (by decide +kernel) (pa_cons (pv 0) (pa_cons (pe_bltn (v := .ty "bool") (by rfl) T.n_bool (by decide +kernel) rfl) pa_nil))) (pe_and (pe_callB call_isi (by rfl) T.n_isinstance (by decide +kernel) (pa_cons (pv 1) (pa_cons (pe_bltn (v := .ty "bool") (by rfl) T.n_bool (by decide +kernel) rfl) pa_nil))) (pe_one (pe_cmpR ((op_eqD hr.units).or op_eq) (pv 0) (pv 1) (nomark _))))))) pss_nil)
  (pss_cons (ps_if (pt_val (pe_callB call_isi (by rfl) T.n_isinstance (by decide +kernel) (pa_cons (pv 1) (pa_cons (pe_bltn (v := .ty "int") (by rfl) T.n_int (by decide +kernel) rfl) pa_nil)))) (pss_one (ps_ret (pe_and (pe_callB call_isi (by rfl) T.n_isinstance (by decide +kernel) (pa_cons (pv 0) (pa_cons (pe_bltn (v := .ty "int") (by rfl) T.n_int (by decide +kernel) rfl) pa_nil))) (pe_one (pe_cmpR ((op_eqD hr.units).or op_eq) (pv 0) (pv 1) (nomark _)))))) pss_nil)
  (pss_cons (ps_if (pt_val (pe_callB call_isi (by rfl) T.n_isinstance (by decide +kernel) (pa_cons (pv 1) (pa_cons (pe_bltn (v := .ty "str") (by rfl) T.n_str (by decide +kernel) rfl) pa_nil)))) (pss_one (ps_ret (pe_and (pe_callB call_isi (by rfl) T.n_isinstance (by decide +kernel) (pa_cons (pv 0) (pa_cons (pe_bltn (v := .ty "str") (by rfl) T.n_str (by decide +kernel) rfl) pa_nil))) (pe_one (pe_cmpR ((op_eqD hr.units).or op_eq) (pv 0) (pv 1) (nomark _)))))) pss_nil)
  (pss_cons (ps_if (PW.pt (pw_and (pt_val (pe_callB call_isi (by rfl) T.n_isinstance (by decide +kernel) (pa_cons (pv 1) (pa_cons (pe_bltn (v := .ty "tuple") (by rfl) T.n_tuple (by decide +kernel) rfl) pa_nil)))) (pw_and1 (pt_not (pt_val (pe_callB call_isi (by rfl) T.n_isinstance (by decide +kernel) (pa_cons (pv 0) (pa_cons (pe_bltn (v := .ty "tuple") (by rfl) T.n_tuple (by decide +kernel) rfl) pa_nil)))))))) (pss_one (ps_ret pe_bl)) pss_nil)
  (pss_cons (ps_if (PW.pt (pw_and (pt_val (pe_callB call_isi (by rfl) T.n_isinstance (by decide +kernel) (pa_cons (pv 1) (pa_cons (pe_bltn (v := .ty "list") (by rfl) T.n_list (by decide +kernel) rfl) pa_nil)))) (pw_and1 (pt_not (pt_val (pe_callB call_isi (by rfl) T.n_isinstance (by decide +kernel) (pa_cons (pv 0) (pa_cons (pe_bltn (v := .ty "list") (by rfl) T.n_list (by decide +kernel) rfl) pa_nil)))))))) (pss_one (ps_ret pe_bl)) pss_nil)
  (pss_cons (ps_if (PW.pt (pw_or (pt_not (pt_val (pe_callB call_isiT (by rfl) T.n_isinstance (by decide +kernel) (pa_cons (pv 1) (pa_cons (pe_tup (pa_cons (pe_bltn (v := .ty "list") (by rfl) T.n_list (by decide +kernel) rfl) (pa_cons (pe_bltn (v := .ty "tuple") (by rfl) T.n_tuple (by decide +kernel) rfl) pa_nil))) pa_nil))))) (pw_or1 (pt_cmpR op_ne (pe_callB call_len_seq (by rfl) T.n_len PySem.boot_len (pa_cons (pv 0) pa_nil)) (pe_callB call_len_seq (by rfl) T.n_len PySem.boot_len (pa_cons (pv 1) pa_nil)) (nomark _))))) (pss_one (ps_ret pe_bl)) pss_nil)
  (pss_cons (ps_for PassesOwn.never rfl (pi_range1 (by rfl) T.n_range (pa_cons (pe_callB call_len_seq (by rfl) T.n_len PySem.boot_len (pa_cons (pv 1) pa_nil)) pa_nil)) (pg_name (i := 2) sc__law_exact.nd rfl (Or.inl rfl)) (pss_one (ps_if (pt_not (pt_val (pe_cal c__law_exact (hr.mono (by first | exact Nat.le_refl _ | decide)) (by rfl) (pa_cons (pe_ix ix_seq (pv 0) (pv 2) (fun _ _ => rfl)) (pa_cons (pe_ix ix_seq (pv 1) (pv 2) (fun _ _ => rfl)) pa_nil))))) (pss_one (ps_ret pe_bl)) pss_nil)))
  (pss_one (ps_ret pe_bl))))))))), ?_⟩
      cases d with
      | none => cases n <;> exact hd.elim
      | dict _ => cases n <;> exact hd.elim
      | bool v =>
        have tx : TyX K H x (.type "bool") := ty_of hx
        have ty : TyX K H y (.type "bool") := ty_of hy
        refine ⟨_, rfl, _, _, _, _, _, rfl, .ty _, tx, kT, _, rfl, iteT (iteT ⟨_, rfl, _, _, _, _, _, rfl, .ty _, tx, kT, _, rfl, iteT ⟨_, rfl, _, _, _, _, _, rfl, .ty _, ty, kT, _, rfl, iteT ⟨_, rfl, _, rfl, .inl ⟨_, _, hx, hy, rfl, rfl, ?_⟩⟩⟩⟩)⟩
        have e : PyData.eqv (.bool v) (.bool v) = true := by simp [PyData.eqv]
        rw [e]
        exact q H fun _ _ z => z
      | int v =>
        have tx : TyX K H x (.type "int") := ty_of hx
        have ty : TyX K H y (.type "int") := ty_of hy
        refine ⟨_, rfl, _, _, _, _, _, rfl, .ty _, tx, kF, _, rfl, iteF ⟨_, rfl, _, _, _, _, _, rfl, .ty _, ty, kF, _, rfl, iteF ?_⟩⟩
        refine ⟨_, rfl, _, _, _, _, _, rfl, .ty _, ty, kT, _, rfl, iteT ⟨_, rfl, _, _, _, _, _, rfl, .ty _, tx, kT, _, rfl, iteT ⟨_, rfl, _, rfl, .inl ⟨_, _, hx, hy, rfl, rfl, ?_⟩⟩⟩⟩
        have e : PyData.eqv (.int v) (.int v) = true := by simp [PyData.eqv]
        rw [e]
        exact q H fun _ _ z => z
      | str v =>
        have tx : TyX K H x (.type "str") := ty_of hx
        have ty : TyX K H y (.type "str") := ty_of hy
        refine ⟨_, rfl, _, _, _, _, _, rfl, .ty _, tx, kF, _, rfl, iteF ⟨_, rfl, _, _, _, _, _, rfl, .ty _, ty, kF, _, rfl, iteF ?_⟩⟩
        refine ⟨_, rfl, _, _, _, _, _, rfl, .ty _, ty, kF, _, rfl, iteF ?_⟩
        cases hx
        cases hy
        refine ⟨_, rfl, _, _, _, _, _, rfl, .ty _, ty, kT, _, rfl, iteT ⟨_, rfl, _, _, _, _, _, rfl, .ty _, tx, kT, _, rfl, iteT ⟨_, rfl, _, rfl, .inr ⟨rfl, ?_⟩⟩⟩⟩
        rw [decide_eq_true rfl]
        exact q H fun _ _ z => z
      | list ds =>
        obtain ⟨n, rfl⟩ : ∃ m, n = m + 1 := by
          cases n with
          | zero => exact hd.elim
          | succ m => exact ⟨m, rfl⟩
        obtain rfl := hsp n rfl
        have tx : TyX K H x (.type "list") := ty_of hx
        have ty : TyX K H y (.type "list") := ty_of hy
        refine ⟨_, rfl, _, _, _, _, _, rfl, .ty _, tx, kF, _, rfl, iteF ⟨_, rfl, _, _, _, _, _, rfl, .ty _, ty, kF, _, rfl, iteF ?_⟩⟩
        refine ⟨_, rfl, _, _, _, _, _, rfl, .ty _, ty, kF, _, rfl, iteF ?_⟩
        refine ⟨_, rfl, _, _, _, _, _, rfl, .ty _, ty, kF, _, rfl, iteF ?_⟩
        refine ⟨_, rfl, _, _, _, _, _, rfl, .ty _, ty, kF, _, rfl, iteF (iteF ⟨_, rfl, _, _, _, _, _, rfl, .ty _, ty, kT, _, rfl, iteT ⟨_, rfl, _, _, _, _, _, rfl, .ty _, tx, kT, _, rfl, iteF ?_⟩⟩)⟩
        cases hx with
        | @lst a xs _ h1 r1 =>
        cases hy with
        | @lst b ys _ h2 r2 =>
        have l1 := DpAll.len r1
        have l2 := DpAll.len r2
        refine ⟨_, rfl, (by show 2 ≤ sizeLine; rw [sizeLine_eq]; decide), fun p np => ?_⟩
        have s : Same H (upd H p (.tup [.ty "list", .ty "tuple"])) := same_new np
        refine ⟨_, p, _, _, _, _, rfl, upd_same, .cons (.ty _) (.cons (.ty _) .nil), ty_of (Dp.same s (.lst h2 r2)), kit_lt (t := "list") (r1 := true) (r2 := false) (by decide +kernel) (by decide +kernel), _, rfl, iteF ?_⟩
        refine ⟨_, rfl, a, xs, rfl, .inl (s.seq h1), _, rfl, b, ys, rfl, .inl (s.seq h2), rfl, _, rfl, iteNS (by rw [l1, l2]) ?_⟩
        refine ⟨_, rfl, b, ys, rfl, .inl (s.seq h2), _, rfl, by omega, by have := hd.1; omega, for_range (lo := 0) (n := ((ys.length : Nat) : Int).toNat) (fun i σ' H' => ∃ (z : Option V), σ' = [some (.ref a), some (.ref b), z] ∧ Same H H') ⟨none, rfl, s⟩ ?_ ?_⟩
        · rintro i σ' H' hi ⟨z, rfl, s⟩
          have hi' : i < ds.length := by omega
          obtain ⟨v, e1, d1⟩ := DpAll.get' r1 (List.getElem?_eq_getElem hi')
          obtain ⟨u, e2, d2⟩ := DpAll.get' r2 (List.getElem?_eq_getElem hi')
          have e0 : (0 : Int) + (i : Nat) = ((i : Nat) : Int) := by omega
          refine ⟨_, rfl, _, rfl, .inl ⟨a, xs, _, v, rfl, rfl, s.seq h1, by rw [e0]; exact atI_nat e1, _, rfl, _, rfl, .inl ⟨b, ys, _, u, rfl, rfl, s.seq h2, by rw [e0]; exact atI_nat e2, v, u, ds[i], rfl, Dp.same s d1, Dp.same s d2, hd.2 _ (List.getElem_mem hi'), fun H2 s2 => ⟨_, rfl, iteF ⟨_, rfl, s.trans s2⟩⟩⟩⟩⟩
        · rintro σ' H' ⟨z, rfl, s⟩
          exact q H' s
      | tuple ds =>
        obtain ⟨n, rfl⟩ : ∃ m, n = m + 1 := by
          cases n with
          | zero => exact hd.elim
          | succ m => exact ⟨m, rfl⟩
        obtain rfl := hsp n rfl
        have tx : TyX K H x (.type "tuple") := ty_of hx
        have ty : TyX K H y (.type "tuple") := ty_of hy
        refine ⟨_, rfl, _, _, _, _, _, rfl, .ty _, tx, kF, _, rfl, iteF ⟨_, rfl, _, _, _, _, _, rfl, .ty _, ty, kF, _, rfl, iteF ?_⟩⟩
        refine ⟨_, rfl, _, _, _, _, _, rfl, .ty _, ty, kF, _, rfl, iteF ?_⟩
        refine ⟨_, rfl, _, _, _, _, _, rfl, .ty _, ty, kF, _, rfl, iteF ?_⟩
        refine ⟨_, rfl, _, _, _, _, _, rfl, .ty _, ty, kT, _, rfl, iteT ⟨_, rfl, _, _, _, _, _, rfl, .ty _, tx, kT, _, rfl, iteF ⟨_, rfl, _, _, _, _, _, rfl, .ty _, ty, kF, _, rfl, iteF (iteF ?_)⟩⟩⟩
        cases hx with
        | @tup a xs _ h1 r1 =>
        cases hy with
        | @tup b ys _ h2 r2 =>
        have l1 := DpAll.len r1
        have l2 := DpAll.len r2
        refine ⟨_, rfl, (by show 2 ≤ sizeLine; rw [sizeLine_eq]; decide), fun p np => ?_⟩
        have s : Same H (upd H p (.tup [.ty "list", .ty "tuple"])) := same_new np
        refine ⟨_, p, _, _, _, _, rfl, upd_same, .cons (.ty _) (.cons (.ty _) .nil), ty_of (Dp.same s (.tup h2 r2)), kit_lt (t := "tuple") (r1 := false) (r2 := true) (by decide +kernel) (by decide +kernel), _, rfl, iteF ?_⟩
        refine ⟨_, rfl, a, xs, rfl, .inr (Same.tup s h1), _, rfl, b, ys, rfl, .inr (Same.tup s h2), rfl, _, rfl, iteNS (by rw [l1, l2]) ?_⟩
        refine ⟨_, rfl, b, ys, rfl, .inr (Same.tup s h2), _, rfl, by omega, by have := hd.1; omega, for_range (lo := 0) (n := ((ys.length : Nat) : Int).toNat) (fun i σ' H' => ∃ (z : Option V), σ' = [some (.ref a), some (.ref b), z] ∧ Same H H') ⟨none, rfl, s⟩ ?_ ?_⟩
        · rintro i σ' H' hi ⟨z, rfl, s⟩
          have hi' : i < ds.length := by omega
          obtain ⟨v, e1, d1⟩ := DpAll.get' r1 (List.getElem?_eq_getElem hi')
          obtain ⟨u, e2, d2⟩ := DpAll.get' r2 (List.getElem?_eq_getElem hi')
          have e0 : (0 : Int) + (i : Nat) = ((i : Nat) : Int) := by omega
          refine ⟨_, rfl, _, rfl, .inr (.inl ⟨a, xs, _, v, rfl, rfl, Same.tup s h1, by rw [e0]; exact atI_nat e1, _, rfl, _, rfl, .inr (.inl ⟨b, ys, _, u, rfl, rfl, Same.tup s h2, by rw [e0]; exact atI_nat e2, v, u, ds[i], rfl, Dp.same s d1, Dp.same s d2, hd.2 _ (List.getElem_mem hi'), fun H2 s2 => ⟨_, rfl, iteF ⟨_, rfl, s.trans s2⟩⟩⟩)⟩)⟩
        · rintro σ' H' ⟨z, rfl, s⟩
          exact q H' s
/-- no promise -/
theorem cal_no {x : Str} {st : Stmt} {ps : List Str} (D : DefAt K mg x st) (hb : BindOk x st ps) : Cal P w K mg base CX0 x 0 ps (fun _ _ _ _ => False) := by
  obtain ⟨f, fd, F, m⟩ := D.ex
  exact ⟨f, fd, ⟨fun _ _ _ _ h => h.elim, fun _ _ _ _ _ _ _ _ _ _ _ _ _ h => h.elim⟩, m, F.kp, F.binds hb⟩
theorem cal_exact_n (T : Txt P w K mg base A₀) : ∀ n, Cal P w K mg base CX0 "_law_exact" (n + 1) ["told", "due"] (spExact K n)
  | 0 => cal_exact T 0 0 _ (fun _ e => nomatch e) (cal_no T.d__law_exact b__law_exact)
  | n + 1 => cal_exact T (n + 1) (n + 1) _ (fun m e => by cases e; rfl) (cal_exact_n T n)
theorem cal__law_exact (T : Txt P w K mg base A₀) : Cal P w K mg base CX0 "_law_exact" 6 ["told", "due"] (spExact K 5) := cal_exact_n T 5
end
end Tw




namespace Tw
open PySem PySem.Spec PyProof.Rows L2
theorem map_erase' {α β : Type} (f : α → β) : ∀ (l : List α) (k : Nat), (l.map f).eraseIdx k = (l.eraseIdx k).map f
  | [], _ => rfl
  | _ :: _, 0 => rfl
  | a :: l, k + 1 => by
    show f a :: (l.map f).eraseIdx k = _
    rw [map_erase' f l k]
    rfl
theorem perm_erase : ∀ (l : List Int) {k : Nat} (h : k < l.length), ([l[k]] ++ l.eraseIdx k).Perm l
  | a :: l, 0, _ => List.Perm.refl _
  | a :: l, k + 1, h => by
    show (l[k]'(by simpa using h) :: a :: l.eraseIdx k).Perm (a :: l)
    exact (List.Perm.swap _ _ _).trans ((perm_erase l (by simpa using h)).cons a)
/-! ### the bag, settled anew -/
section
variable {K : PySem.W.Frag} {F H H' : Hp} {b : Addr}
theorem Bag.lift (s : Same H H') (B : Bag K F H b) : Bag K F H' b := by
  obtain ⟨h0, c, ns, i, x, k, t, fo, big, h1, h2⟩ := B
  exact ⟨h0, c, ns, i, x, k, t, fo, big, s _ _ h1, h2⟩
theorem Bag.set {q : Addr} {o : HO} (ne : b ≠ q) (B : Bag K F H b) : Bag K F (upd H q o) b := by
  obtain ⟨h0, c, ns, i, x, k, t, fo, big, h1, h2⟩ := B
  exact ⟨h0, c, ns, i, x, k, t, fo, big, by rw [upd_ne ne]; exact h1, h2⟩
theorem Bag.is (B : Bag K F H b) : ∃ xs, H b = some (.lst xs) := by
  obtain ⟨h0, c, ns, i, x, k, t, fo, big, h1, h2⟩ := B
  exact ⟨_, h1⟩
theorem Bag.ne {q : Addr} (B : Bag K F H b) (h : H q = none) : b ≠ q := by
  obtain ⟨xs, e⟩ := B.is
  exact fun z => by subst z; rw [e] at h; cases h
theorem Bag.notup (B : Bag K F H b) {xs : List V} : H b ≠ some (.tup xs) := by
  obtain ⟨ys, e⟩ := B.is
  rw [e]
  exact fun z => by cases z
/-- after a draw -/
theorem but_draw {H0 : Hp} (u : But b H0 H) (k : ∀ a, a ≠ b → H' a = H a) : But b H0 H' := fun a o ne e => by
  rw [k a ne]
  exact u a o ne e
theorem But.refl : But b H H := fun _ _ _ e => e
theorem But.trans {H2 : Hp} (u : But b H H') (v : But b H' H2) : But b H H2 := fun a o ne e => v a o ne (u a o ne e)
theorem But.settled (u : But b H H') (s : Same F H) (n : F b = none) : Same F H' := fun a o e => u a o (ne_of_none e n) (s a o e)
theorem but_upd {q : Addr} {o : HO} {H0 : Hp} (u : But b H0 H) (n : H0 q = none) : But b H0 (upd H q o) := fun a v ne e => by
  rw [upd_ne (ne_of_none e n)]
  exact u a v ne e
end
section
variable {P : Program} {w : World} {K : PySem.W.Frag} {mg : Str → Option Value} {base : Heap} {A₀ : Ad}
def spJoined (K : PySem.W.Frag) : Sp := fun vs H Q _ => ∃ (F : Hp) (b : Addr) (i j : Int), vs = [.ref b, .int i, .int j] ∧ Same F H ∧ Bag K F H b ∧
  ∀ H' t (p : Rope), But b H H' → Bag K F H' b → H t = none → H' t = some (.tup [.int p.1, .int p.2]) → (p = (i, j) ∨ p = (j, i)) → Q (.ref t) H'
theorem cal__law_joined (T : Txt P w K mg base A₀) : Cal P w K mg base CX0 "_law_joined" 3 ["bag", "one", "two"] (spJoined K) := by
  have c__law_draw := cal__law_draw T
  refine cal_of T.d__law_joined sc__law_joined b__law_joined (fun vs H Q E h => ?_) (fun f cdv A outer s H vs Q E hr h => ?_)
  · obtain ⟨F, b, i, j, rfl, _⟩ := h
    rfl
  · obtain ⟨F, b, i, j, rfl, sF, B, q0⟩ := h
    refine ⟨_, (pss_cons (ps_if (pt_cmpR op_eq (pe_cal c__law_draw (hr.mono (by first | exact Nat.le_refl _ | decide)) (by rfl) (pa_cons (pv 0) (pa_cons pe_int pa_nil))) pe_int (nomark _)) (pss_one (ps_ret (pe_tup (pa_cons (pv 2) (pa_cons (pv 1) pa_nil))))) pss_nil)
  (pss_one (ps_ret (pe_tup (pa_cons (pv 1) (pa_cons (pv 2) pa_nil)))))), ?_⟩
    refine ⟨_, rfl, F, b, 2, rfl, sF, B, by decide, by decide, fun r H1 _ _ k1 B1 => ?_⟩
    have u1 : But b H H1 := but_draw .refl k1
    have fin : ∀ (p : Rope), (p = (i, j) ∨ p = (j, i)) → ∀ t, H1 t = none → Q (.ref t) (upd H1 t (.tup [.int p.1, .int p.2])) := fun p hp t nt => by
      have ne := B1.ne nt
      exact q0 _ t p (u1.new nt) (B1.set ne) (by rw [← k1 t ne.symm]; exact nt) upd_same hp
    refine ⟨rfl, _, rfl, ite2 (fun _ => ?_) (fun _ => ?_)⟩
    · exact ⟨_, rfl, _, rfl, (by show 2 ≤ sizeLine; rw [sizeLine_eq]; decide), fun t nt => fin (j, i) (.inr rfl) t nt⟩
    · exact ⟨_, rfl, _, rfl, (by show 2 ≤ sizeLine; rw [sizeLine_eq]; decide), fun t nt => fin (i, j) (.inl rfl) t nt⟩
def spOrder (K : PySem.W.Frag) : Sp := fun vs H Q _ => ∃ (F : Hp) (b : Addr) (n : Nat), vs = [.ref b, .int (n : Int)] ∧ Same F H ∧ Bag K F H b ∧ n ≤ 1000 ∧
  ∀ H' q (ns : List Int), But b H H' → Bag K F H' b → H q = none → H' q = some (.lst (ns.map V.int)) → ns.Perm ((List.range n).map fun (k : Nat) => (k : Int)) → Q (.ref q) H'
theorem cal__law_order (T : Txt P w K mg base A₀) : Cal P w K mg base CX0 "_law_order" 3 ["bag", "many"] (spOrder K) := by
  have c__law_draw := cal__law_draw T
  refine cal_of T.d__law_order sc__law_order b__law_order (fun vs H Q E h => ?_) (fun f cdv A outer s H vs Q E hr h => ?_)
  · obtain ⟨F, b, n, rfl, _⟩ := h
    rfl
  · obtain ⟨F, b, n, rfl, sF, B, hn, q0⟩ := h
    refine ⟨_, (pss_cons (ps_set (i := 2) sc__law_order.nd rfl (Or.inl rfl) (pe_callTy (cr_listR rfl) (by rfl) T.n_list (by decide +kernel) (pa_cons (pe_callTy cr_range1 (by rfl) T.n_range (by decide +kernel) (pa_cons (pv 1) pa_nil)) pa_nil)))
  (pss_cons (ps_if (pt_cmpR op_eq (pe_cal c__law_draw (hr.mono (by first | exact Nat.le_refl _ | decide)) (by rfl) (pa_cons (pv 0) (pa_cons pe_int pa_nil))) pe_int (nomark _)) (pss_one (ps_ret (pv 2))) pss_nil)
  (pss_cons (ps_set (i := 3) sc__law_order.nd rfl (Or.inl rfl) (pe_lst pa_nil))
  (pss_cons (ps_for PassesOwn.never rfl (pi_range1 (by rfl) T.n_range (pa_cons (pv 1) pa_nil)) (pg_name (i := 4) sc__law_order.nd rfl (Or.inl rfl)) (pss_one (ps_expr (pe_bm PySem.F.plainAttrs_list PySem.F.slot_list_append PySem.F.type_list_append mt_append (pv 3) (pa_cons (pe_bm PySem.F.plainAttrs_list PySem.F.slot_list_pop PySem.F.type_list_pop mt_popAt (pv 2) (pa_cons (pe_cal c__law_draw (hr.mono (by first | exact Nat.le_refl _ | decide)) (by rfl) (pa_cons (pv 0) (pa_cons (pe_callB call_len_seq (by rfl) T.n_len PySem.boot_len (pa_cons (pv 2) pa_nil)) pa_nil))) pa_nil)) pa_nil)))))
  (pss_one (ps_ret (pv 3))))))), ?_⟩
    refine ⟨_, rfl, _, rfl, fun r nr => ⟨r, n, rfl, upd_same, by omega, fun l nl => ?_⟩⟩
    have s2 : Same H (upd (upd H r (.rng 0 (n : Int))) l (.lst ((List.range n).map fun (k : Nat) => V.int (k : Int)))) := (same_new nr).trans (same_new nl)
    have eL : ((List.range n).map fun (k : Nat) => V.int (k : Int)) = ((List.range n).map fun (k : Nat) => (k : Int)).map V.int := by rw [List.map_map]; rfl
    have nl0 : H l = none := by
      cases h : H l with
      | none => rfl
      | some o =>
        have := same_new (o := .rng 0 (n : Int)) nr l o h
        rw [nl] at this
        cases this
    have nbl := (B.lift (same_new (o := .rng 0 (n : Int)) nr)).ne nl
    refine ⟨_, rfl, F, b, 3, rfl, sF.trans s2, B.lift s2, by decide, by decide, fun x H1 _ _ k1 B1 => ?_⟩
    have u1 : But b H H1 := but_draw (fun a o _ e => s2 a o e) k1
    have hl1 : H1 l = some (.lst (((List.range n).map fun (k : Nat) => (k : Int)).map V.int)) := by rw [k1 l nbl.symm, upd_same, eL]
    refine ⟨rfl, _, rfl, ite2 (fun _ => ⟨_, rfl, q0 H1 l _ u1 B1 nl0 hl1 (List.Perm.refl _)⟩) (fun _ => ?_)⟩
    refine ⟨(by show 0 ≤ sizeLine; rw [sizeLine_eq]; decide), fun q nq => ?_⟩
    have nqb := B1.ne nq
    have nq0 : H q = none := by
      cases h : H q with
      | none => rfl
      | some o =>
        have := u1 q o nqb.symm h
        rw [nq] at this
        cases this
    have nlq : l ≠ q := fun z => by subst z; rw [hl1] at nq; cases nq
    refine ⟨_, rfl, (n : Int), rfl, by omega, by omega, for_range (lo := 0) (n := (n : Int).toNat) (fun i σ' H' => ∃ (y : Option V) (os rs : List Int), σ' = [some (.ref b), some (.int (n : Int)), some (.ref l), some (.ref q), y] ∧ But b H H' ∧ Bag K F H' b ∧ H' l = some (.lst (rs.map V.int)) ∧ H' q = some (.lst (os.map V.int)) ∧ (os ++ rs).Perm ((List.range n).map fun (k : Nat) => (k : Int)) ∧ os.length = i) ?_ ?_ ?_⟩
    · exact ⟨none, [], _, rfl, u1.new nq, B1.set nqb, by rw [upd_ne nlq]; exact hl1, upd_same, List.Perm.refl _, rfl⟩
    · rintro i σ' H2 hi ⟨y, os, rs, rfl, u2, B2, hl2, hq2, pm, lo⟩
      have len : os.length + rs.length = n := by
        have := pm.length_eq
        rwa [List.length_append, List.length_map, List.length_range] at this
      have sF2 := u2.settled sF B.1
      refine ⟨_, rfl, .inl ⟨rfl, _, SqL.of hq2⟩, _, rfl, .inl ⟨rfl, _, SqL.of hl2⟩, _, rfl, _, rfl, l, _, rfl, .inl (SqL.of hl2), F, b, _, rfl, sF2, B2, by rw [List.length_map]; omega, by rw [List.length_map]; omega, fun d H3 d0 d1 k3 B3 => ?_⟩
      rw [List.length_map] at d1
      have hl3 : H3 l = some (.lst (rs.map V.int)) := by rw [k3 l nbl.symm]; exact hl2
      have hq3 : H3 q = some (.lst (os.map V.int)) := by rw [k3 q nqb.symm]; exact hq2
      have hd : d.toNat < rs.length := by omega
      refine ⟨l, _, d, d.toNat, .int rs[d.toNat], rfl, rfl, hl3, by omega, by omega, seqIndex_of d0 (by rw [List.length_map]; exact d1), by rw [List.getElem?_map, List.getElem?_eq_getElem hd]; rfl, ?_⟩
      refine ⟨q, _, _, rfl, rfl, by rw [upd_ne nlq.symm]; exact hq3, by rw [List.length_map, sizeLine_eq]; omega, ?_⟩
      refine ⟨_, os ++ [rs[d.toNat]], rs.eraseIdx d.toNat, rfl, but_upd (but_upd (but_draw u2 k3) nl0) nq0, (B3.set nbl).set nqb, ?_, ?_, ?_, by rw [List.length_append, lo]; rfl⟩
      · rw [upd_ne nlq, upd_same]
        congr 2
        exact map_erase' V.int rs d.toNat
      · rw [upd_same, List.map_append]
        rfl
      · refine List.Perm.trans ?_ pm
        rw [List.append_assoc]
        exact List.Perm.append_left _ (perm_erase rs hd)
    · rintro σ' H2 ⟨y, os, rs, rfl, u2, B2, hl2, hq2, pm, lo⟩
      have len : os.length + rs.length = n := by
        have := pm.length_eq
        rwa [List.length_append, List.length_map, List.length_range] at this
      have er : rs = [] := List.length_eq_zero_iff.mp (by omega)
      subst er
      rw [List.append_nil] at pm
      exact ⟨_, rfl, q0 H2 q os u2 B2 nq0 hq2 pm⟩
end
end Tw




namespace Tw
open PySem PySem.Spec PyProof.Rows L2
/-- joined by ropes -/
inductive Lk (ps : List Rope) (x : Int) : Int → Prop
  | refl : Lk ps x x
  | step {y z : Int} {p : Rope} : Lk ps x y → p ∈ ps → (p = (y, z) ∨ p = (z, y)) → Lk ps x z
theorem Lk.mono {ps qs : List Rope} (h : ∀ p ∈ ps, p ∈ qs) {x y : Int} (l : Lk ps x y) : Lk qs x y := by
  induction l with
  | refl => exact .refl
  | step _ hp e ih => exact .step ih (h _ hp) e
theorem Lk.trans {ps : List Rope} {x y z : Int} (a : Lk ps x y) (b : Lk ps y z) : Lk ps x z := by
  induction b with
  | refl => exact a
  | step _ hp e ih => exact .step ih hp e
theorem Lk.symm {ps : List Rope} {x y : Int} (a : Lk ps x y) : Lk ps y x := by
  induction a with
  | refl => exact .refl
  | step _ hp e ih => exact Lk.trans (.step .refl hp e.symm) ih
theorem con_lk {ps : List Rope} {x : Int} (h : Lk ps 0 x) : Con ps x := by
  induction h with
  | refl => exact Con.zero
  | step _ hp e ih => exact ih.step hp e.symm
theorem but_free {b q : Addr} {H H' : Hp} (u : But b H H') (ne : q ≠ b) (n : H' q = none) : H q = none := by
  cases h : H q with
  | none => rfl
  | some o =>
    have := u q o ne h
    rw [n] at this
    cases this
theorem perm_mem {ns : List Int} {m : Nat} (pm : ns.Perm ((List.range m).map fun (k : Nat) => (k : Int))) (x : Int) : x ∈ ns ↔ 0 ≤ x ∧ x < m := by
  rw [pm.mem_iff, List.mem_map]
  constructor
  · rintro ⟨k, hk, rfl⟩
    have := List.mem_range.mp hk
    omega
  · rintro ⟨h0, h1⟩
    exact ⟨x.toNat, List.mem_range.mpr (by omega), by omega⟩
theorem perm_nd {ns : List Int} {m : Nat} (pm : ns.Perm ((List.range m).map fun (k : Nat) => (k : Int))) : ns.Nodup := by
  refine pm.nodup_iff.mpr ?_
  exact List.pairwise_map.mpr (List.Pairwise.imp (fun h e => h (Int.ofNat.inj e)) List.nodup_range)
theorem at_int {ns : List Int} {i : Int} (h0 : 0 ≤ i) (h1 : i < (ns.length : Int)) : ∃ x, ns[i.toNat]? = some x ∧ atI (ns.map V.int) i = some (.int x) := by
  have hi : i.toNat < ns.length := by omega
  refine ⟨ns[i.toNat], List.getElem?_eq_getElem hi, ?_⟩
  have h := atI_nat (xs := ns.map V.int) (j := i.toNat) (v := .int ns[i.toNat]) (by rw [List.getElem?_map, List.getElem?_eq_getElem hi]; rfl)
  rwa [Int.toNat_of_nonneg h0] at h
theorem Prs.app {H : Hp} : ∀ {ys zs : List V} {rs ss : List Rope}, Prs H ys rs → Prs H zs ss → Prs H (ys ++ zs) (rs ++ ss)
  | _, _, _, _, .nil, s => s
  | _, _, _, _, .cons h r, s => .cons h (Prs.app r s)
theorem Prs.take {H : Hp} : ∀ (k : Nat) {ys : List V} {rs : List Rope}, Prs H ys rs → Prs H (ys.take k) (rs.take k)
  | 0, _, _, _ => .nil
  | _ + 1, _, _, .nil => .nil
  | k + 1, _, _, .cons h r => .cons h (Prs.take k r)
theorem Prs.drop {H : Hp} : ∀ (k : Nat) {ys : List V} {rs : List Rope}, Prs H ys rs → Prs H (ys.drop k) (rs.drop k)
  | 0, _, _, h => h
  | _ + 1, _, _, .nil => .nil
  | k + 1, _, _, .cons h r => Prs.drop k r
theorem Prs.but {b : Addr} {H H' : Hp} (u : But b H H') (n : ∀ xs, H b ≠ some (.tup xs)) {ys : List V} {rs : List Rope} (h : Prs H ys rs) : Prs H' ys rs := h.mono fun p xs e => u p _ (fun z => by subst z; exact n xs e) e
theorem Prs.draw {K : PySem.W.Frag} {F H H' : Hp} {b : Addr} (k : ∀ a, a ≠ b → H' a = H a) (B : Bag K F H b) {ys : List V} {rs : List Rope} (h : Prs H ys rs) : Prs H' ys rs := h.but (but_draw .refl k) fun _ => B.notup
theorem ins_mem {α : Type} {l : List α} {k : Nat} {x y : α} : y ∈ l.take k ++ [x] ++ l.drop k ↔ y ∈ l ∨ y = x := by
  rw [List.mem_append, List.mem_append, List.mem_singleton]
  constructor
  · rintro ((h | h) | h)
    · exact .inl (List.mem_of_mem_take h)
    · exact .inr h
    · exact .inl (List.mem_of_mem_drop h)
  · rintro (h | h)
    · have e : l.take k ++ l.drop k = l := List.take_append_drop k l
      rw [← e] at h
      rcases List.mem_append.mp h with h | h
      · exact .inl (.inl h)
      · exact .inr h
    · exact .inl (.inr h)
theorem ins_len {α : Type} {l : List α} {k : Nat} {x : α} : (l.take k ++ [x] ++ l.drop k).length = l.length + 1 := by
  rw [List.length_append, List.length_append, List.length_take, List.length_drop, List.length_singleton]
  omega
theorem wrap_ne {o d m : Int} (h0 : 0 ≤ o) (h1 : o < m) (h2 : 0 ≤ d) (h3 : d < m - 1) : 0 ≤ (o + 1 + d) % m ∧ (o + 1 + d) % m < m ∧ o ≠ (o + 1 + d) % m := by
  have hm : 0 < m := by omega
  refine ⟨Int.emod_nonneg _ (by omega), Int.emod_lt_of_pos _ hm, ?_⟩
  by_cases h : o + 1 + d < m
  · rw [Int.emod_eq_of_lt (by omega) h]; omega
  · have e : (o + 1 + d) % m = o + 1 + d - m := by
      rw [← Int.sub_emod_right, Int.emod_eq_of_lt (by omega) (by omega)]
    rw [e]; omega
section
variable {P : Program} {w : World} {K : PySem.W.Frag} {mg : Str → Option Value} {base : Heap} {A₀ : Ad}
def spNetL (K : PySem.W.Frag) : Sp := fun vs H Q _ => ∃ (F : Hp) (b : Addr), vs = [.ref b] ∧ Same F H ∧ Bag K F H b ∧
  ∀ H' q r ys (n : Int) (ps : List Rope), But b H H' → Bag K F H' b → H q = none → H' q = some (.lst [.int n, .ref r]) → H r = none → H' r = some (.lst ys) → Prs H' ys ps → okSize n = true → ps.length ≤ 40 → (∀ p ∈ ps, okRope n p = true) → (∀ s : Nat, (s : Int) < n → Con ps s) → Q (.ref q) H'
theorem cal__law_net (T : Txt P w K mg base A₀) : Cal P w K mg base CX0 "_law_net" 4 ["bag"] (spNetL K) := by
  have c__law_draw := cal__law_draw T; have c__law_order := cal__law_order T; have c__law_joined := cal__law_joined T
  refine cal_of T.d__law_net sc__law_net b__law_net (fun vs H Q E h => ?_) (fun f cdv A outer s H vs Q E hr h => ?_)
  · obtain ⟨F, b, rfl, _⟩ := h
    rfl
  · obtain ⟨F, b, rfl, sF, B, q0⟩ := h
    refine ⟨_, (pss_cons (ps_set (i := 1) sc__law_net.nd rfl (Or.inl rfl) (pe_op op_add pe_int (pe_op op_fdiv (pe_op op_add pe_int (pe_cal c__law_draw (hr.mono (by first | exact Nat.le_refl _ | decide)) (by rfl) (pa_cons (pv 0) (pa_cons pe_int pa_nil)))) pe_int)))
  (pss_cons (ps_set (i := 2) sc__law_net.nd rfl (Or.inl rfl) (pe_cal c__law_draw (hr.mono (by first | exact Nat.le_refl _ | decide)) (by rfl) (pa_cons (pv 0) (pa_cons pe_int pa_nil))))
  (Evl.pss_cut (ps_if (pt_cmpR op_eq (pe_cal c__law_draw (hr.mono (by first | exact Nat.le_refl _ | decide)) (by rfl) (pa_cons (pv 0) (pa_cons pe_int pa_nil))) pe_int (nomark _)) (pss_cons (ps_set (i := 1) sc__law_net.nd rfl (Or.inl rfl) (pe_op op_add pe_int (pe_cal c__law_draw (hr.mono (by first | exact Nat.le_refl _ | decide)) (by rfl) (pa_cons (pv 0) (pa_cons pe_int pa_nil)))))
  (pss_one (ps_set (i := 2) sc__law_net.nd rfl (Or.inl rfl) (pe_cal c__law_draw (hr.mono (by first | exact Nat.le_refl _ | decide)) (by rfl) (pa_cons (pv 0) (pa_cons pe_int pa_nil)))))) pss_nil)
  (pss_cons (ps_set (i := 3) sc__law_net.nd rfl (Or.inl rfl) (pe_cal c__law_order (hr.mono (by first | exact Nat.le_refl _ | decide)) (by rfl) (pa_cons (pv 0) (pa_cons (pv 1) pa_nil))))
  (pss_cons (ps_set (i := 4) sc__law_net.nd rfl (Or.inl rfl) (pe_lst pa_nil))
  (pss_cons (ps_for PassesOwn.never rfl (pi_range2 (by rfl) T.n_range (pa_cons pe_int (pa_cons (pv 1) pa_nil))) (pg_name (i := 5) sc__law_net.nd rfl (Or.inl rfl)) (pss_cons (ps_set (i := 6) sc__law_net.nd rfl (Or.inl rfl) (pe_cal c__law_joined (hr.mono (by first | exact Nat.le_refl _ | decide)) (by rfl) (pa_cons (pv 0) (pa_cons (pe_ix ix_list (pv 3) (pv 5) (fun _ _ => rfl)) (pa_cons (pe_ix ix_list (pv 3) (pe_cal c__law_draw (hr.mono (by first | exact Nat.le_refl _ | decide)) (by rfl) (pa_cons (pv 0) (pa_cons (pv 5) pa_nil))) (fun _ _ => rfl)) pa_nil)))))
  (pss_one (ps_expr (pe_bm PySem.F.plainAttrs_list PySem.F.slot_list_insert PySem.F.type_list_insert mt_insert (pv 4) (pa_cons (pe_cal c__law_draw (hr.mono (by first | exact Nat.le_refl _ | decide)) (by rfl) (pa_cons (pv 0) (pa_cons (pe_op op_add (pe_callB call_len_seq (by rfl) T.n_len PySem.boot_len (pa_cons (pv 4) pa_nil)) pe_int) pa_nil))) (pa_cons (pv 6) pa_nil)))))))
  (Evl.pss_cut (ps_if (pt_cmpR op_gt (pv 1) pe_int (nomark _)) (pss_one (ps_for PassesOwn.never rfl (pi_range1 (by rfl) T.n_range (pa_cons (pv 2) pa_nil)) (pg_name (i := 5) sc__law_net.nd rfl (Or.inl rfl)) (pss_cons (ps_set (i := 7) sc__law_net.nd rfl (Or.inl rfl) (pe_cal c__law_draw (hr.mono (by first | exact Nat.le_refl _ | decide)) (by rfl) (pa_cons (pv 0) (pa_cons (pv 1) pa_nil))))
  (pss_cons (ps_set (i := 6) sc__law_net.nd rfl (Or.inl rfl) (pe_cal c__law_joined (hr.mono (by first | exact Nat.le_refl _ | decide)) (by rfl) (pa_cons (pv 0) (pa_cons (pv 7) (pa_cons (pe_op op_mod (pe_op op_add (pe_op op_add (pv 7) pe_int) (pe_cal c__law_draw (hr.mono (by first | exact Nat.le_refl _ | decide)) (by rfl) (pa_cons (pv 0) (pa_cons (pe_op op_sub (pv 1) pe_int) pa_nil)))) (pv 1)) pa_nil)))))
  (pss_one (ps_expr (pe_bm PySem.F.plainAttrs_list PySem.F.slot_list_insert PySem.F.type_list_insert mt_insert (pv 4) (pa_cons (pe_cal c__law_draw (hr.mono (by first | exact Nat.le_refl _ | decide)) (by rfl) (pa_cons (pv 0) (pa_cons (pe_op op_add (pe_callB call_len_seq (by rfl) T.n_len PySem.boot_len (pa_cons (pv 4) pa_nil)) pe_int) pa_nil))) (pa_cons (pv 6) pa_nil))))))))) pss_nil)
  (pss_one (ps_ret (pe_lst (pa_cons (pv 1) (pa_cons (pv 4) pa_nil)))))))))))), ?_⟩
    refine ⟨_, rfl, F, b, 11, rfl, sF, B, by decide, by decide, fun d1 H1 d1a d1b k1 B1 => ?_⟩
    have u1 : But b H H1 := but_draw .refl k1
    refine ⟨_, _, rfl, rfl, _, _, rfl, rfl, ⟨by decide, by decide⟩, _, _, rfl, rfl, ?_⟩
    refine ⟨_, rfl, F, b, 4, rfl, u1.settled sF B.1, B1, by decide, by decide, fun d2 H2 d2a d2b k2 B2 => ?_⟩
    have u2 := but_draw u1 k2
    refine ⟨fun σ' H' => ∃ m e : Int, σ' = [some (.ref b), some (.int m), some (.int e), none, none, none, none, none] ∧ 1 ≤ m ∧ m ≤ 24 ∧ 0 ≤ e ∧ e ≤ 17 ∧ But b H H' ∧ Bag K F H' b, ?_, ?_⟩
    · refine ⟨_, rfl, F, b, 8, rfl, u2.settled sF B.1, B2, by decide, by decide, fun d3 H3 _ _ k3 B3 => ?_⟩
      have u3 := but_draw u2 k3
      refine ⟨rfl, _, rfl, ite2 (fun _ => ?_) (fun _ => ⟨_, d2, rfl, by omega, by omega, d2a, by omega, u3, B3⟩)⟩
      refine ⟨_, rfl, F, b, 24, rfl, u3.settled sF B.1, B3, by decide, by decide, fun d4 H4 d4a d4b k4 B4 => ⟨_, _, rfl, rfl, ?_⟩⟩
      have u4 := but_draw u3 k4
      refine ⟨_, rfl, F, b, 18, rfl, u4.settled sF B.1, B4, by decide, by decide, fun d5 H5 d5a d5b k5 B5 => ?_⟩
      exact ⟨_, d5, rfl, by omega, by omega, d5a, by omega, but_draw u4 k5, B5⟩
    rintro σ' H3 ⟨m, e, rfl, m1, m24, e0, e17, u3, B3⟩
    have em : ((m.toNat : Nat) : Int) = m := by omega
    refine ⟨_, rfl, _, rfl, F, b, m.toNat, (by rw [em]; rfl), u3.settled sF B.1, B3, by omega, fun H4 qo ns u4 B4 nqo hqo pm => ?_⟩
    have u34 := u3.trans u4
    have nsl : ns.length = m.toNat := by
      have := pm.length_eq
      rwa [List.length_map, List.length_range] at this
    have nd := perm_nd pm
    obtain ⟨x0, hx0⟩ : ∃ x0, ns[0]? = some x0 := ⟨_, List.getElem?_eq_getElem (by omega)⟩
    refine ⟨(by show 0 ≤ sizeLine; rw [sizeLine_eq]; decide), fun q nq => ?_⟩
    have nqb := B4.ne nq
    have nq0 := but_free u34 nqb.symm nq
    have nqo2 : qo ≠ q := fun z => by subst z; rw [hqo] at nq; cases nq
    have nbo : qo ≠ b := (B3.ne nqo).symm
    refine ⟨_, rfl, 1, m, rfl, ⟨by decide, by decide, by omega, by omega⟩, for_range (lo := 1) (n := (m - 1).toNat) (fun i σ' H' => ∃ (y5 y6 : Option V) (ys : List V) (ps : List Rope), σ' = [some (.ref b), some (.int m), some (.int e), some (.ref qo), some (.ref q), y5, y6, none] ∧ But b H H' ∧ Bag K F H' b ∧ H' qo = some (.lst (ns.map V.int)) ∧ H' q = some (.lst ys) ∧ Prs H' ys ps ∧ ps.length = i ∧ (∀ p ∈ ps, okRope m p = true) ∧ ∀ (j : Nat) (x : Int), j ≤ i → ns[j]? = some x → Lk ps x0 x) ?_ ?_ ?_⟩
    · refine ⟨none, none, [], [], rfl, u34.new nq, B4.set nqb, by rw [upd_ne nqo2]; exact hqo, upd_same, .nil, rfl, fun p h => (by cases h), fun j x hj hx => ?_⟩
      have : j = 0 := by omega
      subst this
      rw [hx0] at hx
      cases hx
      exact .refl
    · rintro i σ' H5 hi ⟨y5, y6, ys, ps, rfl, u5, B5, o5, q5, pr, pl, okp, lk⟩
      obtain ⟨x, ex, ax⟩ := at_int (ns := ns) (i := 1 + (i : Int)) (by omega) (by omega)
      refine ⟨_, rfl, _, rfl, _, rfl, qo, _, _, _, rfl, rfl, SqL.of o5, ax, _, rfl, _, rfl, _, rfl, F, b, _, rfl, u5.settled sF B.1, B5, by omega, by omega, fun d H6 d0 d1 k6 B6 => ?_⟩
      have u6 := but_draw u5 k6
      have o6 : H6 qo = some (.lst (ns.map V.int)) := by rw [k6 qo nbo]; exact o5
      have q6 : H6 q = some (.lst ys) := by rw [k6 q nqb.symm]; exact q5
      have pr6 := pr.draw k6 B5
      obtain ⟨y, ey, ay⟩ := at_int (ns := ns) (i := d) d0 (by omega)
      refine ⟨qo, _, _, _, rfl, rfl, SqL.of o6, ay, F, b, x, y, rfl, u6.settled sF B.1, B6, fun H7 t p u7 B7 nt ht hp => ?_⟩
      have q7 := u7 q _ nqb.symm q6
      have o7 := u7 qo _ nbo o6
      have pr7 := pr6.but u7 fun _ => B6.notup
      have yl : ys.length = i := by rw [pr.len, pl]
      refine ⟨_, rfl, .inl ⟨rfl, _, SqL.of q7⟩, _, rfl, _, rfl, q, _, rfl, .inl (SqL.of q7), _, _, rfl, rfl, F, b, _, rfl, (u6.trans u7).settled sF B.1, B7, by omega, by omega, fun z H8 z0 z1 k8 B8 => ?_⟩
      have q8 : H8 q = some (.lst ys) := by rw [k8 q nqb.symm]; exact q7
      have o8 : H8 qo = some (.lst (ns.map V.int)) := by rw [k8 qo nbo]; exact o7
      have pr8 := pr7.draw k8 B7
      have ht8 : H8 t = some (.tup [.int p.1, .int p.2]) := by
        rw [k8 t fun z => by subst z; exact B7.notup ht]
        exact ht
      refine ⟨_, rfl, q, ys, z, .ref t, rfl, rfl, q8, by rw [yl, sizeLine_eq]; omega, z0, by omega, ?_⟩
      have xy : ¬ x = y := fun exy => by
        subst exy
        have := nodup_ix nd ex ey
        omega
      have hxm := (perm_mem pm x).mp (List.mem_of_getElem? ex)
      have hym := (perm_mem pm y).mp (List.mem_of_getElem? ey)
      refine ⟨_, _, _, ps.take z.toNat ++ [p] ++ ps.drop z.toNat, rfl, but_upd (but_draw (u6.trans u7) k8) nq0, B8.set nqb, by rw [upd_ne nqo2]; exact o8, upd_same, ?_, by rw [ins_len, pl], fun p' hp' => ?_, fun j w hj hw => ?_⟩
      · refine Prs.upd (fun xs e => by rw [q8] at e; cases e) ?_
        exact ((pr8.take _).app (.cons ht8 .nil)).app (pr8.drop _)
      · rcases ins_mem.mp hp' with h | rfl
        · exact okp p' h
        · unfold okRope
          simp only [Bool.and_eq_true, Bool.not_eq_true', decide_eq_false_iff_not, decide_eq_true_eq]
          rcases hp with rfl | rfl
          · exact ⟨⟨xy, hxm.1, by omega⟩, hym.1, by omega⟩
          · exact ⟨⟨fun z => xy z.symm, hym.1, by omega⟩, hxm.1, by omega⟩
      · by_cases hji : j ≤ i
        · exact (lk j w hji hw).mono fun p' h => ins_mem.mpr (.inl h)
        · have ej : j = (1 + (i : Int)).toNat := by omega
          subst ej
          rw [ex] at hw
          cases hw
          exact .step ((lk _ y (by omega) ey).mono fun p' h => ins_mem.mpr (.inl h)) (ins_mem.mpr (.inr rfl)) hp.symm
    · rintro σ' H5 ⟨y5, y6, ys, ps, rfl, u5, B5, o5, q5, pr, pl, okp, lk⟩
      have con : ∀ s : Nat, (s : Int) < m → Lk ps 0 s := fun s hs => by
        have has : ∀ v : Int, 0 ≤ v → v < m → Lk ps x0 v := fun v v0 v1 => by
          obtain ⟨j, hj⟩ := List.mem_iff_getElem?.mp ((perm_mem pm v).mpr ⟨v0, by omega⟩)
          have := (List.getElem?_eq_some_iff.mp hj).1
          exact lk j v (by omega) hj
        exact (has 0 (by omega) (by omega)).symm.trans (has s (by omega) hs)
      have l40 : ps.length ≤ 23 := by omega
      refine ⟨fun σ' H' => ∃ (y5 y6 y7 : Option V) (ys : List V) (ps : List Rope), σ' = [some (.ref b), some (.int m), some (.int e), some (.ref qo), some (.ref q), y5, y6, y7] ∧ But b H H' ∧ Bag K F H' b ∧ H' q = some (.lst ys) ∧ Prs H' ys ps ∧ ps.length ≤ 40 ∧ (∀ p ∈ ps, okRope m p = true) ∧ ∀ s : Nat, (s : Int) < m → Lk ps 0 s, ?_, ?_⟩
      · refine ⟨_, rfl, _, _, rfl, rfl, _, rfl, ite2 (fun z => ?_) (fun _ => ⟨_, _, _, ys, ps, rfl, u5, B5, q5, pr, by omega, okp, con⟩)⟩
        have m2 : 1 < m := of_decide_eq_true z
        refine ⟨_, rfl, e, rfl, by omega, by omega, for_range (lo := 0) (n := e.toNat) (fun i σ' H' => ∃ (y5 y6 y7 : Option V) (ys : List V) (ps : List Rope), σ' = [some (.ref b), some (.int m), some (.int e), some (.ref qo), some (.ref q), y5, y6, y7] ∧ But b H H' ∧ Bag K F H' b ∧ H' q = some (.lst ys) ∧ Prs H' ys ps ∧ ps.length ≤ 23 + i ∧ (∀ p ∈ ps, okRope m p = true) ∧ ∀ s : Nat, (s : Int) < m → Lk ps 0 s) ⟨_, _, _, ys, ps, rfl, u5, B5, q5, pr, l40, okp, con⟩ ?_ fun σ' H' ⟨y5, y6, y7, ys, ps, h1, h2, h3, h4, h5, h6, h7, h8⟩ => ⟨y5, y6, y7, ys, ps, h1, h2, h3, h4, h5, by omega, h7, h8⟩⟩
        rintro i σ' H6 hi ⟨y5, y6, y7, ys, ps, rfl, u6, B6, q6, pr6, pl, okp, con⟩
        refine ⟨_, rfl, _, rfl, F, b, m, rfl, u6.settled sF B.1, B6, by omega, by omega, fun o H7 o0 o1 k7 B7 => ?_⟩
        have u7 := but_draw u6 k7
        have q7 : H7 q = some (.lst ys) := by rw [k7 q nqb.symm]; exact q6
        have pr7 := pr6.draw k7 B6
        refine ⟨_, rfl, _, rfl, _, rfl, _, _, rfl, rfl, _, rfl, _, rfl, _, _, rfl, rfl, F, b, m - 1, rfl, u7.settled sF B.1, B7, by omega, by omega, fun d H8 d0 d1 k8 B8 => ?_⟩
        have u8 := but_draw u7 k8
        have q8 : H8 q = some (.lst ys) := by rw [k8 q nqb.symm]; exact q7
        have pr8 := pr7.draw k8 B7
        obtain ⟨v0, v1, vo⟩ := wrap_ne o0 o1 d0 d1
        refine ⟨_, _, rfl, rfl, _, rfl, _, _, rfl, rfl, (by omega), F, b, o, _, rfl, u8.settled sF B.1, B8, fun H9 t p u9 B9 nt ht hp => ?_⟩
        have q9 := u9 q _ nqb.symm q8
        have pr9 := pr8.but u9 fun _ => B8.notup
        have yl : ys.length ≤ 40 := by rw [pr9.len]; omega
        refine ⟨_, rfl, .inl ⟨rfl, _, SqL.of q9⟩, _, rfl, _, rfl, q, _, rfl, .inl (SqL.of q9), _, _, rfl, rfl, F, b, _, rfl, (u8.trans u9).settled sF B.1, B9, by omega, by omega, fun z H10 z0 z1 k10 B10 => ?_⟩
        have q10 : H10 q = some (.lst ys) := by rw [k10 q nqb.symm]; exact q9
        have pr10 := pr9.draw k10 B9
        have ht10 : H10 t = some (.tup [.int p.1, .int p.2]) := by
          rw [k10 t fun z => by subst z; exact B9.notup ht]
          exact ht
        refine ⟨_, rfl, q, ys, z, .ref t, rfl, rfl, q10, by rw [sizeLine_eq]; omega, z0, by omega, ?_⟩
        refine ⟨_, _, _, _, ps.take z.toNat ++ [p] ++ ps.drop z.toNat, rfl, but_upd (but_draw (u8.trans u9) k10) nq0, B10.set nqb, upd_same, ?_, by rw [ins_len]; omega, fun p' hp' => ?_, fun s hs => (con s hs).mono fun p' h => ins_mem.mpr (.inl h)⟩
        · refine Prs.upd (fun xs e => by rw [q10] at e; cases e) ?_
          exact ((pr10.take _).app (.cons ht10 .nil)).app (pr10.drop _)
        · rcases ins_mem.mp hp' with h | rfl
          · exact okp p' h
          · unfold okRope
            simp only [Bool.and_eq_true, Bool.not_eq_true', decide_eq_false_iff_not, decide_eq_true_eq]
            rcases hp with rfl | rfl
            · exact ⟨⟨vo, o0, o1⟩, v0, v1⟩
            · exact ⟨⟨fun z => vo z.symm, v0, v1⟩, o0, o1⟩
      · rintro σ' H6 ⟨y5, y6, y7, ys, ps, rfl, u6, B6, q6, pr6, pl, okp, con⟩
        refine ⟨_, rfl, _, rfl, (by show 2 ≤ sizeLine; rw [sizeLine_eq]; decide), fun L nL => ?_⟩
        have nLb := B6.ne nL
        refine q0 _ L q ys m ps (u6.new nL) (B6.set nLb) (but_free u6 nLb.symm nL) upd_same nq0 (by rw [upd_ne (ne_of_none q6 nL)]; exact q6) (pr6.upd fun xs e => by rw [nL] at e; cases e) ?_ pl okp fun s hs => con_lk (con s hs)
        unfold okSize
        rw [decide_eq_true m1, decide_eq_true m24]
        rfl
end
end Tw




namespace Tw
open PySem PySem.Spec PyProof.Rows L2
/-- the ropes at a station -/
def hasEnd (s : Int) (p : Rope) : Bool := decide (s = p.1) || decide (s = p.2)
def ropesAt (ps : List Rope) (s : Int) (k : Nat) : List Int := match ps with
  | [] => []
  | p :: ps => if hasEnd s p = true then (k : Int) :: ropesAt ps s (k + 1) else ropesAt ps s (k + 1)
theorem ropesAt_snoc (p : Rope) (s : Int) : ∀ (ps : List Rope) (k : Nat), ropesAt (ps ++ [p]) s k = ropesAt ps s k ++ (if hasEnd s p = true then [((k + ps.length : Nat) : Int)] else [])
  | [], k => by
    show (if hasEnd s p = true then _ else _) = _
    split <;> rfl
  | a :: ps, k => by
    have ih := ropesAt_snoc p s ps (k + 1)
    have e : k + 1 + ps.length = k + (ps.length + 1) := by omega
    rw [e] at ih
    show (if hasEnd s a = true then (k : Int) :: ropesAt (ps ++ [p]) s (k + 1) else ropesAt (ps ++ [p]) s (k + 1)) = (if hasEnd s a = true then (k : Int) :: ropesAt ps s (k + 1) else ropesAt ps s (k + 1)) ++ _
    rw [ih]
    split <;> rfl
theorem ropesAt_len (s : Int) : ∀ (ps : List Rope) (k : Nat), (ropesAt ps s k).length ≤ ps.length
  | [], _ => Nat.le_refl _
  | a :: ps, k => by
    have := ropesAt_len s ps (k + 1)
    show (if hasEnd s a = true then (k : Int) :: ropesAt ps s (k + 1) else ropesAt ps s (k + 1)).length ≤ _
    split <;> simp <;> omega
theorem end_in (s : Int) (p : Rope) : inV (.int s) [.int p.1, .int p.2] = hasEnd s p := by
  have h := in_ints s [p.1, p.2]
  rw [show ([p.1, p.2].map V.int) = [.int p.1, .int p.2] from rfl] at h
  rw [h]
  unfold hasEnd
  by_cases h1 : s = p.1
  · simp [h1]
  · by_cases h2 : s = p.2
    · simp [h2]
    · simp [h1, h2]
section
variable {P : Program} {w : World} {K : PySem.W.Frag} {mg : Str → Option Value} {base : Heap} {A₀ : Ad}
def spStation (K : PySem.W.Frag) (A₀ : Ad) : Sp := fun vs H Q E => ∃ (a : Addr) (s n : Int) (ps : List Rope), vs = [.ref a, .int s] ∧ NetAt K A₀ H a n ps ∧ s.natAbs < 2 ^ 100 ∧
  (0 ≤ s ∧ s < n → ∀ H', Same H H' → Q .non H') ∧ (¬ (0 ≤ s ∧ s < n) → ∀ d H', Same H H' → At1 H' d "number" s → E (.ref A₀.c_NoStation) (some d) H')
theorem cal_check_station (T : Txt P w K mg base A₀) : Cal P w K mg base (L2N.CX P w) "check_station" 3 ["net", "station"] (spStation K A₀) := by
  have x_NoStation := T.x_NoStation
  refine calX_of T.d_check_station sc_check_station b_check_station (fun vs H Q E h => ?_) (fun f cdv A outer s H vs Q E hr h => ?_)
  · obtain ⟨a, s, n, ps, rfl, _⟩ := h
    rfl
  · obtain ⟨a, s, n, ps, rfl, net, sb, qG, qB⟩ := h
    obtain ⟨dx, t, ha, hd⟩ := net.at_
    refine ⟨_, (pss_one (ps_if (pt_not (pt_chain op_le op_lt pe_int (pv 1) (pe_fld (pv 0) rfl))) (pss_one (L2N.ps_raise rfl (L2N.takes_of rfl rfl rfl rfl) (pmk_err x_NoStation (hr.mono (by first | exact Nat.le_refl _ | decide)) (by rfl) (pa_cons (pv 1) pa_nil)))) pss_nil)), ?_⟩
    have bad : ¬ (0 ≤ s ∧ s < n) → ∃ x, ([some (V.ref a), some (.int s)] : L2.St)[1]? = some (some x) ∧ [x].length = ["number"].length ∧ [x].length ≤ 1000 ∧ (∀ z ∈ [x], okMsg z) ∧ ∀ d, H d = none → E (.ref A₀.c_NoStation) (some d) (upd H d (.xd (errF ["number"] [x]))) := fun h =>
      ⟨_, rfl, rfl, (by show 1 ≤ 1000; decide), okN sb, fun d nd => qB h d _ (same_new nd) upd_same⟩
    refine ⟨_, rfl, _, _, rfl, rfl, _, rfl, ite2 (fun z1 => ?_) (fun z1 => ?_)⟩
    · refine ⟨_, rfl, a, _, dx, _, .int n, rfl, ha, T.net_cl, T.net_s, rfl, _, _, rfl, rfl, _, rfl, ?_⟩
      by_cases z2 : s < n
      · rw [decide_eq_true z2]
        exact qG ⟨of_decide_eq_true z1, z2⟩ H (Same.refl H)
      · rw [decide_eq_false z2]
        exact bad fun h => z2 h.2
    · exact ⟨_, rfl, bad fun h => z1 (decide_eq_true h.1)⟩
def spRopesAt (K : PySem.W.Frag) (A₀ : Ad) : Sp := fun vs H Q E => ∃ (a : Addr) (s n : Int) (ps : List Rope), vs = [.ref a, .int s] ∧ NetAt K A₀ H a n ps ∧ s.natAbs < 2 ^ 100 ∧ ps.length ≤ 1000 ∧
  (0 ≤ s ∧ s < n → ∀ H' q, Same H H' → H' q = some (.lst ((ropesAt ps s 0).map V.int)) → Q (.ref q) H') ∧ (¬ (0 ≤ s ∧ s < n) → ∀ d H', Same H H' → At1 H' d "number" s → E (.ref A₀.c_NoStation) (some d) H')
theorem ok_Net_ropes_at (T : Txt P w K mg base A₀) {f : Addr} {fd : FuncData} (F : Fun K "ropes_at" "Net.ropes_at" s_Net_ropes_at f fd) : FnOk P w K mg base (L2N.CX P w) 4 f fd ["self", "station"] (spRopesAt K A₀) := by
  have c_check_station := cal_check_station T
  refine okX_of F sc_Net_ropes_at (fun vs H Q E h => ?_) (fun cdv A outer s H vs Q E hr h => ?_)
  · obtain ⟨a, s, n, ps, rfl, _⟩ := h
    rfl
  · obtain ⟨a, s, n, ps, rfl, net, sb, hn, qG, qB⟩ := h
    refine ⟨_, (pss_cons (ps_expr (pe_calX c_check_station (L2N.takes_of rfl rfl rfl rfl) (hr.mono (by first | exact Nat.le_refl _ | decide)) (by rfl) (pa_cons (pv 0) (pa_cons (pv 1) pa_nil))))
  (pss_one (ps_ret (pe_lc (own := [("rope", 2), ("ends", 3)]) (g := gTup K 2 (gCons (gName 2) (gCons (gName 3) gNil))) rfl sc_Net_ropes_at.nd (pi_enumT (by rfl) T.n_enumerate (pa_cons (pe_fld (pv 0) rfl) pa_nil)) (blkOk_by (own := [("rope", 2), ("ends", 3)]) (N := ["self", "station", "rope", "ends"]) (sc := defScope s_Net_ropes_at) (by decide +kernel)) (fun _ _ _ _ _ => (pg_tup rfl (pgs_cons (pg_name (i := 2) sc_Net_ropes_at.nd rfl (Or.inl rfl)) (pgs_cons (pg_name (i := 3) sc_Net_ropes_at.nd rfl (Or.inl rfl)) pgs_nil)))) (fun _ _ _ _ _ => (pts_one (pt_cmpR (show OpR _ (compareOp .In) (rIn K false) from op_in_seq) (pv 1) (pv 3) (by rfl)))) (fun _ _ _ _ _ => (pv 2)))))), ?_⟩
    refine ⟨_, rfl, _, rfl, a, s, n, ps, rfl, net, sb, fun ok H1 s1 => ?_, fun bad d H1 s1 e1 => qB bad d H1 s1 e1⟩
    obtain ⟨dx, t, ha, hd⟩ := net.at_
    have ha1 := s1 _ _ ha
    cases hd with
    | @tup t xs _ hs hx =>
    have hl : xs.length = ps.length := by rw [DpAll.len hx, List.length_map]
    refine ⟨_, rfl, a, _, dx, _, .ref t, rfl, ha1, T.net_cl, T.net_r, rfl, t, xs, rfl, Same.tup s1 hs, fun D nD => ?_⟩
    refine lc_it (walk_enumT (K := K) (a := t) (xs := xs)) (g := gTup K 2 (gCons (gName 2) (gCons (gName 3) gNil))) (tt := tTest (tOp (rIn K false) (tVar 1) (tVar 3))) (te := tVar 2) (vs := [2, 3]) (fun i H' => Same H1 H' ∧ H' D = some (.lst ((ropesAt (ps.take i) s 0).map V.int))) ⟨same_new nD, upd_same⟩ (fun i H' _ h => Same.tup (s1.trans h.1) hs) ?_ ?_
    · rintro i y H2 H3 hi ⟨s2, hD⟩ ⟨T0, v1, v2, rfl, nT, rfl, f1, f2⟩
      have f1 := Option.some.inj f1
      subst f1
      obtain ⟨p, u, ep, rfl, hu⟩ := pair_at hx f2
      have s3 : Same H2 (upd H2 T0 (.tup [.int (i : Int), .ref u])) := same_new nT
      refine ⟨T0, _, rfl, SqT.of upd_same, rfl, _, _, rfl, _, _, rfl, rfl, rfl, _, rfl, _, rfl, u, _, rfl, .inr (Same.tup ((s1.trans s2).trans s3) hu), rfl, rfl, _, rfl, ?_⟩
      show (if (inV (.int s) [.int p.1, .int p.2]) = true then _ else _)
      rw [end_in]
      have more : ropesAt (ps.take (i + 1)) s 0 = ropesAt (ps.take i) s 0 ++ (if hasEnd s p = true then [(i : Int)] else []) := by
        rw [List.take_add_one, ep]
        show ropesAt (ps.take i ++ [p]) s 0 = _
        rw [ropesAt_snoc, List.length_take, Nat.zero_add, Nat.min_eq_left (by omega)]
      by_cases he : hasEnd s p = true
      · rw [if_pos he] at more ⊢
        refine ⟨_, rfl, _, s3 _ _ hD, ?_, same_upd (s2.trans s3) nD, ?_⟩
        · have := ropesAt_len s (ps.take i) 0
          rw [List.length_take] at this
          rw [List.length_map, sizeLine_eq]
          omega
        · rw [upd_same, more, List.map_append]
          rfl
      · rw [if_neg he] at more ⊢
        exact ⟨s2.trans s3, by rw [more, List.append_nil]; exact s3 _ _ hD⟩
    · rintro H2 ⟨s2, hD⟩
      rw [hl, List.take_of_length_le (Nat.le_refl _)] at hD
      exact qG ok H2 D (s1.trans s2) hD
end
end Tw




namespace Tw
open PySem PySem.Spec PyProof.Rows L2
section
variable {P : Program} {w : World} {K : PySem.W.Frag} {mg : Str → Option Value} {base : Heap} {A₀ : Ad}
def isTree (n : Int) (ps : List Rope) : Bool := decide ((ps.length : Int) = n - 1)
def isRing (n : Int) (ps : List Rope) : Bool := (List.range n.toNat).all fun (s : Nat) => decide ((ropesAt ps s 0).length = 2)
def isRow (n : Int) (ps : List Rope) : Bool := decide (ps = line n.toNat)
/-- a property that tells a word of the net -/
def spProp (K : PySem.W.Frag) (A₀ : Ad) (g : Int → List Rope → Bool) : Sp := fun vs H Q _ => ∃ (a : Addr) (n : Int) (ps : List Rope), vs = [.ref a] ∧ NetAt K A₀ H a n ps ∧ 1 ≤ n ∧ n ≤ 24 ∧ ps.length ≤ 1000 ∧ ∀ H', Same H H' → Q (.bl (g n ps)) H'
end
end Tw




namespace Tw
open PySem PySem.Spec PyProof.Rows L2
theorem eqv_pair (p q : Rope) : PyData.eqv (pairD p) (pairD q) = decide (p = q) := by
  obtain ⟨a, b⟩ := p
  obtain ⟨c, d⟩ := q
  unfold pairD
  simp only [PyData.eqv, PyData.eqvAll, Bool.and_true]
  by_cases h1 : a = c
  · by_cases h2 : b = d
    · subst h1 h2; simp
    · simp [h2]
  · simp [h1]
theorem eqv_pairs : ∀ (ps qs : List Rope), PyData.eqvAll (ps.map pairD) (qs.map pairD) = decide (ps = qs)
  | [], [] => by simp [PyData.eqvAll]
  | [], _ :: _ => by simp [PyData.eqvAll]
  | _ :: _, [] => by simp [PyData.eqvAll]
  | p :: ps, q :: qs => by
    rw [List.map_cons, List.map_cons]
    simp only [PyData.eqvAll]
    rw [eqv_pair, eqv_pairs ps qs]
    by_cases h1 : p = q
    · by_cases h2 : ps = qs
      · subst h1 h2; simp
      · simp [h2]
    · simp [h1]
theorem eqv_listP (ps qs : List Rope) : PyData.eqv (.list (ps.map pairD)) (.list (qs.map pairD)) = decide (ps = qs) := by
  simp only [PyData.eqv]
  exact eqv_pairs ps qs
theorem eqv_tupP (ps qs : List Rope) : PyData.eqv (.tuple (ps.map pairD)) (.tuple (qs.map pairD)) = decide (ps = qs) := by
  simp only [PyData.eqv]
  exact eqv_pairs ps qs
theorem lay_pairs : ∀ (ps : List Rope), PyData.canLayAll0 (ps.map pairD) = true ∧ PyData.depthAll (ps.map pairD) ≤ 1
  | [] => ⟨by simp [PyData.canLayAll0], by simp [PyData.depthAll]⟩
  | p :: ps => by
    obtain ⟨i1, i2⟩ := lay_pairs ps
    have e1 : (pairD p).canLay0 = true := by
      unfold pairD
      simp [PyData.canLay0, PyData.canLayAll0]
    have e2 : (pairD p).depth = 1 := by
      unfold pairD
      simp only [PyData.depth, PyData.depthAll]
      rfl
    refine ⟨?_, ?_⟩
    · rw [List.map_cons]
      simp only [PyData.canLayAll0, e1, i1, Bool.and_self]
    · rw [List.map_cons]
      simp only [PyData.depthAll, e2]
      omega
theorem shaped_listP (ps : List Rope) : SeqAt.shaped (.list (ps.map pairD)) = true := by
  obtain ⟨h1, h2⟩ := lay_pairs ps
  unfold SeqAt.shaped
  rw [Bool.and_eq_true_iff]
  refine ⟨by simp only [PyData.canLay0]; exact h1, decide_eq_true ?_⟩
  simp only [PyData.depth]
  omega
theorem shaped_tupP (ps : List Rope) : SeqAt.shaped (.tuple (ps.map pairD)) = true := by
  obtain ⟨h1, h2⟩ := lay_pairs ps
  unfold SeqAt.shaped
  rw [Bool.and_eq_true_iff]
  refine ⟨by simp only [PyData.canLay0]; exact h1, decide_eq_true ?_⟩
  simp only [PyData.depth]
  omega
section
variable {P : Program} {w : World} {K : PySem.W.Frag} {mg : Str → Option Value} {base : Heap} {A₀ : Ad}
end
end Tw




namespace Tw
open PySem PySem.Spec PyProof.Rows L2
theorem Prs.at {H : Hp} : ∀ {ys : List V} {ps : List Rope} {i : Nat} {x : V}, Prs H ys ps → ys[i]? = some x → ∃ t p, x = .ref t ∧ ps[i]? = some p ∧ H t = some (.tup [.int p.1, .int p.2])
  | _, _, _, _, .nil, e => by simp at e
  | _, _, 0, x, .cons h _, e => ⟨_, _, (Option.some.inj e).symm, rfl, h⟩
  | _, _, i + 1, x, .cons _ r, e => Prs.at (i := i) r (by simpa using e)
theorem Prs.notbag {K : PySem.W.Frag} {F H : Hp} {b r : Addr} {ys : List V} {ps : List Rope} (B : Bag K F H b) (h : H r = some (.lst ys)) (pr : Prs H ys ps) : r ≠ b := fun e => by
  subst e
  obtain ⟨_, c, ns, i, x, k, t, fo, big, hb, _⟩ := B
  rw [h] at hb
  injection hb with hb
  injection hb with hb
  obtain ⟨u, p, e1, _⟩ := pr.at (i := 1) (x := .int i) (by rw [hb]; rfl)
  cases e1
section
variable {P : Program} {w : World} {K : PySem.W.Frag} {mg : Str → Option Value} {base : Heap} {A₀ : Ad}
def spMing (K : PySem.W.Frag) : Sp := fun vs H Q _ => ∃ (F : Hp) (b r : Addr) (m : Int) (ys : List V) (ps : List Rope), vs = [.ref b, .int m, .ref r] ∧ Same F H ∧ Bag K F H b ∧ H r = some (.lst ys) ∧ Prs H ys ps ∧ okSize m = true ∧ ps.length ≤ 40 ∧ (∀ p ∈ ps, okRope m p = true) ∧ (∀ s : Nat, (s : Int) < m → Lk ps 0 s) ∧
  ∀ H' q zs qs, But b H H' → Bag K F H' b → H q = none → H' q = some (.lst zs) → Prs H' zs qs → qs.length = ps.length → (∀ p ∈ qs, okRope m p = true) → (∀ s : Nat, (s : Int) < m → Lk qs 0 s) → Q (.ref q) H'
end
end Tw




namespace Tw
open PySem PySem.Spec PyProof.Rows L2
theorem lk_line {n : Nat} {ps : List Rope} (sub : ∀ p ∈ line n, p ∈ ps) : ∀ s : Nat, s < n → Lk ps 0 s
  | 0, _ => .refl
  | s + 1, h => .step (lk_line sub s (by omega)) (p := ((s : Int), (s : Int) + 1)) (sub _ (line_mem.mpr ⟨s, h, rfl⟩)) (.inl rfl)
theorem lk_spokes {n : Nat} : ∀ s : Nat, s < n → Lk (spokes n) 0 s
  | 0, _ => .refl
  | s + 1, h => .step .refl (p := ((0 : Int), (s : Int) + 1)) (List.mem_map.mpr ⟨s, List.mem_range.mpr (by omega), rfl⟩) (.inl rfl)
section
variable {P : Program} {w : World} {K : PySem.W.Frag} {mg : Str → Option Value} {base : Heap} {A₀ : Ad}
def spClosing (K : PySem.W.Frag) : Sp := fun vs H Q _ => ∃ (F : Hp) (b r : Addr) (m way : Int) (ys : List V), vs = [.ref b, .int m, .ref r, .int way] ∧ Same F H ∧ Bag K F H b ∧ H r = some (.lst ys) ∧ Prs H ys (line m.toNat) ∧ 2 ≤ m ∧ m ≤ 24 ∧
  ∀ H' q zs qs, But b H H' → Bag K F H' b → H q = none → H' q = some (.lst zs) → Prs H' zs qs → qs.length ≤ 40 → (∀ p ∈ qs, okRope m p = true) → (∀ s : Nat, (s : Int) < m → Lk qs 0 s) → Q (.ref q) H'
end
end Tw




namespace Tw
open PySem PySem.Spec PyProof.Rows L2
theorem Prs.set {H : Hp} {t : Addr} {g : Rope} (ht : H t = some (.tup [.int g.1, .int g.2])) : ∀ (i : Nat) {ys : List V} {ps : List Rope}, Prs H ys ps → Prs H (ys.set i (.ref t)) (ps.set i g)
  | _, _, _, .nil => .nil
  | 0, _, _, .cons _ r => .cons ht r
  | i + 1, _, _, .cons h r => .cons h (Prs.set ht i r)
theorem Lk.cover {ps qs : List Rope} (h : ∀ p ∈ ps, p ∈ qs ∨ (p.2, p.1) ∈ qs) {x y : Int} (l : Lk ps x y) : Lk qs x y := by
  induction l with
  | refl => exact .refl
  | step _ hp e ih =>
    rcases h _ hp with hq | hq
    · exact .step ih hq e
    · refine .step ih hq ?_
      rcases e with rfl | rfl
      · exact .inr rfl
      · exact .inl rfl
theorem mem_set1 {α : Type} {l : List α} {i : Nat} {x y p : α} (hi : l[i]? = some p) (h : x ∈ l) : x ∈ l.set i y ∨ x = p := by
  obtain ⟨k, hk⟩ := List.mem_iff_getElem?.mp h
  by_cases e : i = k
  · subst e
    rw [hi] at hk
    exact .inr (Option.some.inj hk).symm
  · exact .inl (List.mem_iff_getElem?.mpr ⟨k, by rw [List.getElem?_set, if_neg e]; exact hk⟩)
theorem mem_set2 {α : Type} {l : List α} {i j : Nat} {x p q : α} (hi : l[i]? = some p) (hj : l[j]? = some q) (h : x ∈ l) : x ∈ (l.set i q).set j p := by
  have li := (List.getElem?_eq_some_iff.mp hi).1
  have lj := (List.getElem?_eq_some_iff.mp hj).1
  obtain ⟨k, hk⟩ := List.mem_iff_getElem?.mp h
  have atj : ((l.set i q).set j p)[j]? = some p := by rw [List.getElem?_set, if_pos rfl, if_pos (by rw [List.length_set]; exact lj)]
  by_cases ei : i = k
  · subst ei
    rw [hi] at hk
    cases hk
    exact List.mem_of_getElem? atj
  · by_cases ej : j = k
    · subst ej
      rw [hj] at hk
      cases hk
      refine List.mem_of_getElem? (i := i) ?_
      rw [List.getElem?_set, if_neg (fun z => ei z.symm), List.getElem?_set, if_pos rfl, if_pos li]
    · refine List.mem_of_getElem? (i := k) ?_
      rw [List.getElem?_set, if_neg ej, List.getElem?_set, if_neg ei]
      exact hk
section
variable {P : Program} {w : World} {K : PySem.W.Frag} {mg : Str → Option Value} {base : Heap} {A₀ : Ad}
end
end Tw




namespace Tw
open PySem PySem.Spec PyProof.Rows L2

/-! ### data by value: what a value holds, whole -/
inductive D where
  | non | bl (b : Bool) | int (i : Int) | str (x : Str)
  | lst (ds : List D) | tup (ds : List D) | ktup (ds : List D) | scr (ns : List Int)
  | ins (C : Addr) (fs : List (Str × D))
  | dic (kvs : List (Key × D))
  | cls (C : Addr) | exc (a dd C : Addr) (gs : List (Str × D))
mutual
inductive Rp (K : PySem.W.Frag) (F : Hp) : V → D → Prop
  | non : Rp K F .non .non
  | bl (b : Bool) : Rp K F (.bl b) (.bl b)
  | int (i : Int) : Rp K F (.int i) (.int i)
  | str (x : Str) : Rp K F (.str x) (.str x)
  | lst {a : Addr} {xs : List V} {ds : List D} : F a = some (.lst xs) → RpL K F xs ds → Rp K F (.ref a) (.lst ds)
  | scr {a : Addr} {ns : List Int} : SqL K F a (ns.map V.int) → Rp K F (.ref a) (.scr ns)
  | tup {a : Addr} {xs : List V} {ds : List D} : F a = some (.tup xs) → RpL K F xs ds → Rp K F (.ref a) (.tup ds)
  | ktup {a : Addr} {xs : List V} {ds : List D} : SqT K F a xs → RpL K F xs ds → Rp K F (.ref a) (.ktup ds)
  | ins {a C dx : Addr} {fs : List (Str × V)} {gs : List (Str × D)} : F a = some (.ins C dx fs) → RpF K F fs gs → Rp K F (.ref a) (.ins C gs)
  | dic {a : Addr} {fs : List (Key × V)} {gs : List (Key × D)} : F a = some (.dK fs) → RpK K F fs gs → Rp K F (.ref a) (.dic gs)
  | cls (C : Addr) : Rp K F (.ref C) (.cls C)
  | exc {a dd C : Addr} {fs : List (Str × V)} {gs : List (Str × D)} : F dd = some (.xd fs) → RpF K F fs gs → Rp K F (.ref a) (.exc a dd C gs)
inductive RpL (K : PySem.W.Frag) (F : Hp) : List V → List D → Prop
  | nil : RpL K F [] []
  | cons {v : V} {d : D} {vs : List V} {ds : List D} : Rp K F v d → RpL K F vs ds → RpL K F (v :: vs) (d :: ds)
inductive RpF (K : PySem.W.Frag) (F : Hp) : List (Str × V) → List (Str × D) → Prop
  | nil : RpF K F [] []
  | cons {f : Str} {v : V} {d : D} {vs : List (Str × V)} {ds : List (Str × D)} : Rp K F v d → RpF K F vs ds → RpF K F ((f, v) :: vs) ((f, d) :: ds)
inductive RpK (K : PySem.W.Frag) (F : Hp) : List (Key × V) → List (Key × D) → Prop
  | nil : RpK K F [] []
  | cons {f : Key} {v : V} {d : D} {vs : List (Key × V)} {ds : List (Key × D)} : Rp K F v d → RpK K F vs ds → RpK K F ((f, v) :: vs) ((f, d) :: ds)
end
section
variable {K : PySem.W.Frag} {F F' : Hp}
mutual
theorem Rp.same (s : Same F F') : ∀ {d : D} {v : V}, Rp K F v d → Rp K F' v d
  | .non, _, .non => .non
  | .bl _, _, .bl b => .bl b
  | .int _, _, .int i => .int i
  | .str _, _, .str x => .str x
  | .lst _, _, .lst h r => .lst (s _ _ h) (RpL.same s r)
  | .scr _, _, .scr h => .scr (s.seq h)
  | .tup _, _, .tup h r => .tup (s _ _ h) (RpL.same s r)
  | .ktup _, _, .ktup h r => .ktup (Same.tup s h) (RpL.same s r)
  | .ins _ _, _, .ins h r => .ins (s _ _ h) (RpF.same s r)
  | .dic _, _, .dic h r => .dic (s _ _ h) (RpK.same s r)
  | .cls _, _, .cls C => .cls C
  | .exc _ _ _ _, _, .exc h r => .exc (s _ _ h) (RpF.same s r)
theorem RpL.same (s : Same F F') : ∀ {ds : List D} {vs : List V}, RpL K F vs ds → RpL K F' vs ds
  | [], _, .nil => .nil
  | _ :: _, _, .cons h r => .cons (Rp.same s h) (RpL.same s r)
theorem RpF.same (s : Same F F') : ∀ {ds : List (Str × D)} {vs : List (Str × V)}, RpF K F vs ds → RpF K F' vs ds
  | [], _, .nil => .nil
  | _ :: _, _, .cons h r => .cons (Rp.same s h) (RpF.same s r)
theorem RpK.same (s : Same F F') : ∀ {ds : List (Key × D)} {vs : List (Key × V)}, RpK K F vs ds → RpK K F' vs ds
  | [], _, .nil => .nil
  | _ :: _, _, .cons h r => .cons (Rp.same s h) (RpK.same s r)
end
theorem RpL.len : ∀ {vs : List V} {ds : List D}, RpL K F vs ds → vs.length = ds.length
  | _, _, .nil => rfl
  | _, _, .cons _ r => congrArg (· + 1) (RpL.len r)
theorem RpL.get : ∀ {vs : List V} {ds : List D} {i : Nat} {v : V}, RpL K F vs ds → vs[i]? = some v → ∃ d, ds[i]? = some d ∧ Rp K F v d
  | _, _, _, _, .nil, e => by simp at e
  | _, _, 0, v, .cons h _, e => ⟨_, rfl, by cases e; exact h⟩
  | _, _, i + 1, v, .cons _ r, e => RpL.get (i := i) r (by simpa using e)
theorem RpL.get' : ∀ {vs : List V} {ds : List D} {i : Nat} {d : D}, RpL K F vs ds → ds[i]? = some d → ∃ v, vs[i]? = some v ∧ Rp K F v d
  | _, _, _, _, .nil, e => by simp at e
  | _, _, 0, _, .cons h _, e => ⟨_, rfl, by cases e; exact h⟩
  | _, _, i + 1, _, .cons _ r, e => RpL.get' (i := i) r (by simpa using e)
theorem RpL.app : ∀ {vs ws : List V} {ds es : List D}, RpL K F vs ds → RpL K F ws es → RpL K F (vs ++ ws) (ds ++ es)
  | _, _, _, _, .nil, s => s
  | _, _, _, _, .cons h r, s => .cons h (RpL.app r s)
theorem RpL.take : ∀ (k : Nat) {vs : List V} {ds : List D}, RpL K F vs ds → RpL K F (vs.take k) (ds.take k)
  | 0, _, _, _ => .nil
  | _ + 1, _, _, .nil => .nil
  | k + 1, _, _, .cons h r => .cons h (RpL.take k r)
theorem RpL.drop : ∀ (k : Nat) {vs : List V} {ds : List D}, RpL K F vs ds → RpL K F (vs.drop k) (ds.drop k)
  | 0, _, _, h => h
  | _ + 1, _, _, .nil => .nil
  | k + 1, _, _, .cons h r => RpL.drop k r
theorem RpL.set {v : V} {d : D} (h : Rp K F v d) : ∀ (k : Nat) {vs : List V} {ds : List D}, RpL K F vs ds → RpL K F (vs.set k v) (ds.set k d)
  | _, _, _, .nil => .nil
  | 0, _, _, .cons _ r => .cons h r
  | k + 1, _, _, .cons g r => .cons g (RpL.set h k r)
theorem RpL.erase : ∀ (k : Nat) {vs : List V} {ds : List D}, RpL K F vs ds → RpL K F (vs.eraseIdx k) (ds.eraseIdx k)
  | _, _, _, .nil => .nil
  | 0, _, _, .cons _ r => r
  | k + 1, _, _, .cons g r => .cons g (RpL.erase k r)
theorem RpL.ints : ∀ {vs : List V} {ns : List Int}, RpL K F vs (ns.map D.int) → vs = ns.map V.int
  | _, [], .nil => rfl
  | _, _ :: _, .cons (.int _) r => congrArg (V.int _ :: ·) (RpL.ints r)
theorem RpL.ofInts : ∀ {ns : List Int}, RpL K F (ns.map V.int) (ns.map D.int)
  | [] => .nil
  | n :: _ => .cons (.int n) RpL.ofInts
theorem RpL.bls : ∀ {vs : List V} {bs : List Bool}, RpL K F vs (bs.map D.bl) → vs = bs.map V.bl
  | _, [], .nil => rfl
  | _, _ :: _, .cons (.bl _) r => congrArg (V.bl _ :: ·) (RpL.bls r)
theorem RpF.look {f : Str} : ∀ {fs : List (Str × V)} {gs : List (Str × D)} {d : D}, RpF K F fs gs → gs.lookup f = some d → ∃ v, fs.lookup f = some v ∧ Rp K F v d
  | _, _, _, .nil, e => by cases e
  | _, _, d, .cons (f := g) h r, e => by
    simp only [List.lookup] at e ⊢
    cases hg : f == g with
    | true => rw [hg] at e; cases e; exact ⟨_, rfl, h⟩
    | false => rw [hg] at e; exact RpF.look r e
theorem RpF.none {f : Str} : ∀ {fs : List (Str × V)} {gs : List (Str × D)}, RpF K F fs gs → gs.lookup f = none → fs.lookup f = none
  | _, _, .nil, _ => rfl
  | _, _, .cons (f := g) h r, e => by
    simp only [List.lookup] at e ⊢
    cases hg : f == g with
    | true => rw [hg] at e; cases e
    | false => rw [hg] at e; exact RpF.none r e
theorem RpF.len : ∀ {vs : List (Str × V)} {ds : List (Str × D)}, RpF K F vs ds → vs.length = ds.length
  | _, _, .nil => rfl
  | _, _, .cons _ r => congrArg (· + 1) (RpF.len r)
end

/-! ### an object that one frame owns: written in place -/
inductive OB where
  | lst (ds : List D) | ins (C dx : Addr) (gs : List (Str × D)) | dic (kvs : List (Key × D))
inductive RpO (K : PySem.W.Frag) (F : Hp) : HO → OB → Prop
  | lst {vs : List V} {ds : List D} : RpL K F vs ds → RpO K F (.lst vs) (.lst ds)
  | ins {C dx : Addr} {fs : List (Str × V)} {gs : List (Str × D)} : RpF K F fs gs → RpO K F (.ins C dx fs) (.ins C dx gs)
  | dic {fs : List (Key × V)} {gs : List (Key × D)} : RpK K F fs gs → RpO K F (.dK fs) (.dic gs)
theorem RpO.same {K : PySem.W.Frag} {F F' : Hp} (s : Same F F') {h : HO} {o : OB} (r : RpO K F h o) : RpO K F' h o := by
  cases r with
  | lst r => exact .lst (r.same s)
  | ins r => exact .ins (r.same s)
  | dic r => exact .dic (r.same s)
/-- the same, held by value -/
def OB.d : OB → D
  | .lst ds => .lst ds
  | .ins C _ gs => .ins C gs
  | .dic kvs => .dic kvs
/-- what a slot holds -/
inductive Sl where
  | no | fz (d : D) | ow (q : Addr) (o : OB)
abbrev En := List Sl
def Own (η : En) (q : Addr) : Prop := ∃ (i : Nat) (o : OB), η[i]? = some (.ow q o)
/-- F: what is settled; σ and η: the slots, as they lie and as they are told -/
structure Cfg (K : PySem.W.Frag) (F H : Hp) (σ : L2.St) (η : En) : Prop where
  sub : Same F H
  len : η.length = σ.length
  fz : ∀ (i : Nat) (d : D), η[i]? = some (.fz d) → ∃ v, σ[i]? = some (some v) ∧ Rp K F v d
  ow : ∀ (i : Nat) (q : Addr) (o : OB), η[i]? = some (.ow q o) → σ[i]? = some (some (.ref q)) ∧ F q = none ∧ ∃ h, H q = some h ∧ RpO K F h o
  ne : ∀ (i j : Nat) (q : Addr) (o u : OB), η[i]? = some (.ow q o) → η[j]? = some (.ow q u) → i = j
/-- from one state to a later one -/
structure Stp (F H : Hp) (η : En) (F' H' : Hp) (η' : En) : Prop where
  ff : Same F F'
  fr : ∀ a, H a ≠ none → ¬ Own η a → H' a = H a ∧ F' a = F a
  dm : ∀ a, H a ≠ none → H' a ≠ none
  ow : ∀ a, Own η' a → Own η a ∨ H a = none
section
variable {K : PySem.W.Frag} {F H F1 H1 F2 H2 : Hp} {σ : L2.St} {η η1 η2 : En}
theorem Stp.refl : Stp F H η F H η := ⟨fun _ _ e => e, fun _ _ _ => ⟨rfl, rfl⟩, fun _ e => e, fun _ e => .inl e⟩
theorem Stp.trans (a : Stp F H η F1 H1 η1) (b : Stp F1 H1 η1 F2 H2 η2) : Stp F H η F2 H2 η2 := by
  refine ⟨a.ff.trans b.ff, fun x hx no => ?_, fun x hx => b.dm x (a.dm x hx), fun x hx => ?_⟩
  · obtain ⟨e1, e2⟩ := a.fr x hx no
    have n1 : H1 x ≠ none := a.dm x hx
    have o1 : ¬ Own η1 x := fun o => (a.ow x o).elim no hx
    obtain ⟨f1, f2⟩ := b.fr x n1 o1
    exact ⟨f1.trans e1, f2.trans e2⟩
  · rcases b.ow x hx with h | h
    · exact a.ow x h
    · right
      cases e : H x with
      | none => rfl
      | some o => exact absurd h (a.dm x (by rw [e]; simp))
theorem Cfg.own (c : Cfg K F H σ η) {q : Addr} (h : Own η q) : F q = none ∧ H q ≠ none := by
  obtain ⟨i, o, e⟩ := h
  obtain ⟨_, h1, h, h2, _⟩ := c.ow i q o e
  exact ⟨h1, by rw [h2]; simp⟩
theorem set_at {η : En} {i j : Nat} {s t : Sl} (h : (η.set i s)[j]? = some t) : (i = j ∧ t = s) ∨ (i ≠ j ∧ η[j]? = some t) := by
  by_cases e : i = j
  · subst e
    rw [List.getElem?_set, if_pos rfl] at h
    by_cases l : i < η.length
    · rw [if_pos l] at h; exact .inl ⟨rfl, (Option.some.inj h).symm⟩
    · rw [if_neg l] at h; cases h
  · rw [List.getElem?_set, if_neg e] at h
    exact .inr ⟨e, h⟩
theorem own_set {i : Nat} {s : Sl} {a : Addr} (h : Own (η.set i s) a) : Own η a ∨ ∃ o, s = .ow a o := by
  obtain ⟨j, o, e⟩ := h
  rcases set_at e with ⟨_, e⟩ | ⟨_, e⟩
  · exact .inr ⟨o, e.symm⟩
  · exact .inl ⟨j, o, e⟩
/-- more is settled: new things, or the owned ones -/
theorem Cfg.grow {F' H' : Hp} (c : Cfg K F H σ η) (s : Same F F') (sub : Same F' H') (ho : ∀ q, Own η q → H' q = H q ∧ F' q = none) : Cfg K F' H' σ η := by
  refine ⟨sub, c.len, fun i d e => ?_, fun i q o e => ?_, c.ne⟩
  · obtain ⟨v, h1, h2⟩ := c.fz i d e
    exact ⟨v, h1, h2.same s⟩
  · obtain ⟨h1, h2, h, h3, h4⟩ := c.ow i q o e
    obtain ⟨e1, e2⟩ := ho q ⟨i, o, e⟩
    exact ⟨h1, e2, h, e1.trans h3, h4.same s⟩
/-- a new thing is laid and settled -/
theorem Cfg.new {p : Addr} {o : HO} (c : Cfg K F H σ η) (n : H p = none) : Cfg K (upd F p o) (upd H p o) σ η ∧ Stp F H η (upd F p o) (upd H p o) η := by
  have nF : F p = none := by
    cases e : F p with
    | none => rfl
    | some u => have := c.sub _ _ e; rw [n] at this; cases this
  have s : Same F (upd F p o) := same_new nF
  refine ⟨c.grow s (fun a u e => ?_) (fun q hq => ?_), ⟨s, fun a ha _ => ?_, fun a ha => ?_, fun a h => .inl h⟩⟩
  · by_cases h : a = p
    · subst h; rw [upd_same] at e ⊢; exact e
    · rw [upd_ne h] at e ⊢; exact c.sub _ _ e
  · obtain ⟨h1, h2⟩ := c.own hq
    have ne : q ≠ p := fun z => h2 (z ▸ n)
    exact ⟨upd_ne ne, (upd_ne ne).trans h1⟩
  · have ne : a ≠ p := fun z => ha (z ▸ n)
    exact ⟨upd_ne ne, upd_ne ne⟩
  · have ne : a ≠ p := fun z => ha (z ▸ n)
    rw [upd_ne ne]; exact ha
/-- a new thing is laid and not settled -/
theorem Cfg.lay {p : Addr} {o : HO} (c : Cfg K F H σ η) (n : H p = none) : Cfg K F (upd H p o) σ η ∧ Stp F H η F (upd H p o) η ∧ F p = none := by
  have nF : F p = none := by
    cases e : F p with
    | none => rfl
    | some u => have := c.sub _ _ e; rw [n] at this; cases this
  refine ⟨c.grow (fun _ _ e => e) (fun a u e => ?_) (fun q hq => ?_), ⟨fun _ _ e => e, fun a ha _ => ?_, fun a ha => ?_, fun a h => .inl h⟩, nF⟩
  · have ne : a ≠ p := fun z => by rw [z, nF] at e; cases e
    rw [upd_ne ne]; exact c.sub _ _ e
  · obtain ⟨h1, h2⟩ := c.own hq
    have ne : q ≠ p := fun z => h2 (z ▸ n)
    exact ⟨upd_ne ne, h1⟩
  · have ne : a ≠ p := fun z => ha (z ▸ n)
    exact ⟨upd_ne ne, rfl⟩
  · have ne : a ≠ p := fun z => ha (z ▸ n)
    rw [upd_ne ne]; exact ha
/-- a slot is told less of, or another settled thing of -/
theorem Cfg.drop (c : Cfg K F H σ η) (i : Nat) : Cfg K F H σ (η.set i .no) := by
  refine ⟨c.sub, by rw [List.length_set]; exact c.len, fun j d e => ?_, fun j q o e => ?_, fun j k q o u e1 e2 => ?_⟩
  · rcases set_at e with ⟨_, e⟩ | ⟨_, e⟩
    · cases e
    · exact c.fz j d e
  · rcases set_at e with ⟨_, e⟩ | ⟨_, e⟩
    · cases e
    · exact c.ow j q o e
  · rcases set_at e1 with ⟨_, e⟩ | ⟨_, e1⟩
    · cases e
    · rcases set_at e2 with ⟨_, e⟩ | ⟨_, e2⟩
      · cases e
      · exact c.ne j k q o u e1 e2
theorem Stp.drop (i : Nat) : Stp F H η F H (η.set i .no) := ⟨fun _ _ e => e, fun _ _ _ => ⟨rfl, rfl⟩, fun _ e => e, fun a h => by
  rcases own_set h with h | ⟨o, h⟩
  · exact .inl h
  · cases h⟩
/-- a name is stored: a settled value -/
theorem Cfg.put {v : V} {d : D} (c : Cfg K F H σ η) (i : Nat) (hl : i < σ.length) (r : Rp K F v d) : Cfg K F H (σ.set i (some v)) (η.set i (.fz d)) := by
  refine ⟨c.sub, by rw [List.length_set, List.length_set]; exact c.len, fun j d' e => ?_, fun j q o e => ?_, fun j k q o u e1 e2 => ?_⟩
  · rcases set_at e with ⟨rfl, x⟩ | ⟨n, x⟩
    · cases x
      exact ⟨v, by rw [List.getElem?_set, if_pos rfl, if_pos hl], r⟩
    · rw [List.getElem?_set, if_neg n]
      exact c.fz j d' x
  · rcases set_at e with ⟨_, e⟩ | ⟨n, e⟩
    · cases e
    · rw [List.getElem?_set, if_neg n]
      exact c.ow j q o e
  · rcases set_at e1 with ⟨_, e⟩ | ⟨_, e1⟩
    · cases e
    · rcases set_at e2 with ⟨_, e⟩ | ⟨_, e2⟩
      · cases e
      · exact c.ne j k q o u e1 e2
theorem Stp.put {d : D} (i : Nat) : Stp F H η F H (η.set i (.fz d)) := ⟨fun _ _ e => e, fun _ _ _ => ⟨rfl, rfl⟩, fun _ e => e, fun a h => by
  rcases own_set h with h | ⟨o, h⟩
  · exact .inl h
  · cases h⟩
/-- a name is stored: an object of its own -/
theorem Cfg.putO {q : Addr} {h : HO} {o : OB} (c : Cfg K F H σ η) (i : Nat) (hl : i < σ.length) (nF : F q = none) (no : ¬ Own η q) (hq : H q = some h) (r : RpO K F h o) : Cfg K F H (σ.set i (some (.ref q))) (η.set i (.ow q o)) := by
  refine ⟨c.sub, by rw [List.length_set, List.length_set]; exact c.len, fun j d' e => ?_, fun j q' u e => ?_, fun j k q' u1 u2 e1 e2 => ?_⟩
  · rcases set_at e with ⟨_, e⟩ | ⟨n, e⟩
    · cases e
    · rw [List.getElem?_set, if_neg n]
      exact c.fz j d' e
  · rcases set_at e with ⟨rfl, x⟩ | ⟨n, x⟩
    · cases x
      exact ⟨by rw [List.getElem?_set, if_pos rfl, if_pos hl], nF, h, hq, r⟩
    · rw [List.getElem?_set, if_neg n]
      exact c.ow j q' u x
  · rcases set_at e1 with ⟨i1, e1⟩ | ⟨n1, e1⟩
    · rcases set_at e2 with ⟨i2, e2⟩ | ⟨n2, e2⟩
      · exact i1.symm.trans i2
      · cases e1
        exact absurd ⟨k, u2, e2⟩ no
    · rcases set_at e2 with ⟨i2, e2⟩ | ⟨n2, e2⟩
      · cases e2
        exact absurd ⟨j, u1, e1⟩ no
      · exact c.ne j k q' u1 u2 e1 e2
/-- the object of a slot is written -/
theorem Cfg.write {i : Nat} {q : Addr} {h : HO} {o u : OB} (c : Cfg K F H σ η) (e : η[i]? = some (.ow q o)) (r : RpO K F h u) : Cfg K F (upd H q h) σ (η.set i (.ow q u)) ∧ Stp F H η F (upd H q h) (η.set i (.ow q u)) := by
  obtain ⟨s0, nF, h0, hq, _⟩ := c.ow i q o e
  have il : i < η.length := by
    have := List.getElem?_eq_some_iff.mp e
    exact this.1
  refine ⟨⟨fun a w f => ?_, by rw [List.length_set]; exact c.len, fun j d f => ?_, fun j p w f => ?_, fun j k p w1 w2 f1 f2 => ?_⟩, ⟨fun _ _ f => f, fun a ha no => ?_, fun a ha => ?_, fun a f => ?_⟩⟩
  · have ne : a ≠ q := fun z => by rw [z, nF] at f; cases f
    rw [upd_ne ne]; exact c.sub _ _ f
  · rcases set_at f with ⟨_, f⟩ | ⟨_, f⟩
    · cases f
    · exact c.fz j d f
  · rcases set_at f with ⟨rfl, x⟩ | ⟨n, x⟩
    · cases x
      exact ⟨s0, nF, h, upd_same, r⟩
    · obtain ⟨g1, g2, g, g3, g4⟩ := c.ow j p w x
      have ne : p ≠ q := fun z => by subst z; exact n (c.ne _ _ _ _ _ e x)
      exact ⟨g1, g2, g, (upd_ne ne).trans g3, g4⟩
  · rcases set_at f1 with ⟨i1, f1⟩ | ⟨n1, f1⟩
    · rcases set_at f2 with ⟨i2, f2⟩ | ⟨n2, f2⟩
      · exact i1.symm.trans i2
      · cases f1
        exact absurd (c.ne _ _ _ _ _ e f2) n2
    · rcases set_at f2 with ⟨i2, f2⟩ | ⟨n2, f2⟩
      · cases f2
        exact absurd (c.ne _ _ _ _ _ e f1) n1
      · exact c.ne j k p w1 w2 f1 f2
  · have ne : a ≠ q := fun z => by subst z; exact no ⟨i, o, e⟩
    exact ⟨upd_ne ne, rfl⟩
  · by_cases z : a = q
    · subst z; rw [upd_same]; simp
    · rw [upd_ne z]; exact ha
  · rcases own_set f with f | ⟨w, f⟩
    · exact .inl f
    · cases f
      exact .inl ⟨i, o, e⟩
/-- the object of a slot is settled -/
theorem Cfg.freeze {i : Nat} {q : Addr} {o : OB} (c : Cfg K F H σ η) (e : η[i]? = some (.ow q o)) : ∃ F', Cfg K F' H σ (η.set i (.fz o.d)) ∧ Stp F H η F' H (η.set i (.fz o.d)) ∧ Rp K F' (.ref q) o.d := by
  obtain ⟨s0, nF, h, hq, r⟩ := c.ow i q o e
  have il : i < σ.length := (List.getElem?_eq_some_iff.mp s0).1
  have s : Same F (upd F q h) := same_new nF
  have rp : Rp K (upd F q h) (.ref q) o.d := by
    cases r with
    | lst r => exact .lst upd_same (r.same s)
    | ins r => exact .ins upd_same (r.same s)
    | dic r => exact .dic upd_same (r.same s)
  have sub : Same (upd F q h) H := fun a u f => by
    by_cases z : a = q
    · subst z; rw [upd_same] at f; rw [← f]; exact hq
    · rw [upd_ne z] at f; exact c.sub _ _ f
  have c1 : Cfg K (upd F q h) H σ (η.set i .no) := by
    refine (c.drop i).grow s sub (fun p hp => ⟨rfl, ?_⟩)
    obtain ⟨j, w, f⟩ := hp
    rcases set_at f with ⟨_, f⟩ | ⟨n, f⟩
    · cases f
    · obtain ⟨_, g2, _⟩ := c.ow j p w f
      have ne : p ≠ q := fun z => by subst z; exact n (c.ne _ _ _ _ _ e f)
      rw [upd_ne ne]; exact g2
  have c2 := c1.put i il rp
  rw [List.set_set] at c2
  have eσ : σ.set i (some (.ref q)) = σ := by
    apply List.ext_getElem?
    intro j
    by_cases z : i = j
    · subst z; rw [List.getElem?_set, if_pos rfl, if_pos il, s0]
    · rw [List.getElem?_set, if_neg z]
  rw [eσ] at c2
  refine ⟨upd F q h, c2, ⟨s, fun a ha no => ⟨rfl, ?_⟩, fun _ f => f, fun a f => ?_⟩, rp⟩
  · have ne : a ≠ q := fun z => by subst z; exact no ⟨i, o, e⟩
    exact upd_ne ne
  · rcases own_set f with f | ⟨w, f⟩
    · exact .inl f
    · cases f
end
end Tw

namespace Tw
open PySem PySem.Spec PyProof.Rows L2

/-! ### what an expression does, by value -/
/-- what is wished where an error leaves: its class, its fields, the slots -/
abbrev XW := Addr → List (Str × D) → En → Prop
abbrev WD := En → XW → (D → En → Prop) → Prop
abbrev WA := En → XW → (List D → En → Prop) → Prop
abbrev WB := En → XW → (Bool → En → Prop) → Prop
section
variable (K : PySem.W.Frag) (W : WX)
/-- what leaves as an error -/
abbrev OutX (F H : Hp) (σ : L2.St) (η : En) (X : XW) : Prop := ∀ F' H' σ' η' C dd fs gs, Stp F H η F' H' η' → Cfg K F' H' σ' η' → F' dd = some (.xd fs) → RpF K F' fs gs → X C gs η' → W (.ref C) (some dd) σ' H'
structure VE (te : TE) (w : WD) : Prop where
  run : ∀ {F H : Hp} {σ : L2.St} {η : En} {X : XW} {Q : D → En → Prop} {R : VK}, Cfg K F H σ η → w η X Q → OutX K W F H σ η X →
    (∀ F' H' η' v d, Stp F H η F' H' η' → Cfg K F' H' σ η' → Rp K F' v d → Q d η' → R v H') → te σ H R
/-- a new object: nobody holds it yet -/
structure VF (te : TE) (w : En → XW → (OB → En → Prop) → Prop) : Prop where
  run : ∀ {F H : Hp} {σ : L2.St} {η : En} {X : XW} {Q : OB → En → Prop} {R : VK}, Cfg K F H σ η → w η X Q → OutX K W F H σ η X →
    (∀ F' H' η' q h o, Stp F H η F' H' η' → Cfg K F' H' σ η' → F' q = none → ¬ Own η' q → (H q = none ∨ Own η q) → H' q = some h → RpO K F' h o → Q o η' → R (.ref q) H') → te σ H R
structure VA (ta : TA) (w : WA) : Prop where
  run : ∀ {F H : Hp} {σ : L2.St} {η : En} {X : XW} {Q : List D → En → Prop} {R : List V → Hp → Prop}, Cfg K F H σ η → w η X Q → OutX K W F H σ η X →
    (∀ F' H' η' vs ds, Stp F H η F' H' η' → Cfg K F' H' σ η' → RpL K F' vs ds → Q ds η' → R vs H') → ta σ H R
structure VT (tt : TT) (w : WB) : Prop where
  run : ∀ {F H : Hp} {σ : L2.St} {η : En} {X : XW} {Q : Bool → En → Prop} {R : Bool → Hp → Prop}, Cfg K F H σ η → w η X Q → OutX K W F H σ η X →
    (∀ F' H' η' b, Stp F H η F' H' η' → Cfg K F' H' σ η' → Q b η' → R b H') → tt σ H R
/-- a sequence that is looked at: a slot's own one stays so -/
inductive Hd where
  | val (d : D) | own (i : Nat)
def seqD : D → Option (Bool × List D)
  | .lst ds => some (true, ds)
  | .scr ns => some (true, ns.map D.int)
  | .tup ds => some (false, ds)
  | .ktup ds => some (false, ds)
  | _ => none
def seqAt (h : Hd) (η : En) : Option (Bool × List D) := match h with
  | .val d => seqD d
  | .own i => match η[i]? with
    | some (.ow _ (.lst ds)) => some (true, ds)
    | _ => none
def HdAt (F : Hp) (σ : L2.St) (v : V) : Hd → Prop
  | .val d => Rp K F v d
  | .own i => σ[i]? = some (some v)
structure VB (te : TE) (w : En → XW → (Hd → En → Prop) → Prop) : Prop where
  run : ∀ {F H : Hp} {σ : L2.St} {η : En} {X : XW} {Q : Hd → En → Prop} {R : VK}, Cfg K F H σ η → w η X Q → OutX K W F H σ η X →
    (∀ F' H' η' v h, Stp F H η F' H' η' → Cfg K F' H' σ η' → HdAt K F' σ v h → Q h η' → R v H') → te σ H R
/-- an operation on values -/
structure VR2 (r : R2) (w : D → D → (D → Prop) → Prop) : Prop where
  run : ∀ {F H : Hp} {σ : L2.St} {η : En} {x y : V} {d e : D} {Q : D → Prop} {R : VK}, Cfg K F H σ η → Rp K F x d → Rp K F y e → w d e Q →
    (∀ F' H' v d, Stp F H η F' H' η → Cfg K F' H' σ η → Rp K F' v d → Q d → R v H') → r x y H R
/-- a built-in, called -/
structure VR (r : List V → Hp → VK → Prop) (w : List D → (D → Prop) → Prop) : Prop where
  run : ∀ {F H : Hp} {σ : L2.St} {η : En} {xs : List V} {ds : List D} {Q : D → Prop} {R : VK}, Cfg K F H σ η → RpL K F xs ds → w ds Q →
    (∀ F' H' v d, Stp F H η F' H' η → Cfg K F' H' σ η → Rp K F' v d → Q d → R v H') → r xs H R
end
section
variable {K : PySem.W.Frag} {W : WX}
theorem OutX.on {F H F' H' : Hp} {σ : L2.St} {η η' : En} {X : XW} (h : OutX K W F H σ η X) (s : Stp F H η F' H' η') : OutX K W F' H' σ η' X := fun _ _ _ _ _ _ _ _ s' c e r x => h _ _ _ _ _ _ _ _ (s.trans s') c e r x
theorem HdAt.same {F F' : Hp} {σ : L2.St} {v : V} {h : Hd} (s : Same F F') (r : HdAt K F σ v h) : HdAt K F' σ v h := by
  cases h with
  | val d => exact Rp.same s r
  | own i => exact r
theorem HdAt.seq {F H : Hp} {σ : L2.St} {η : En} {v : V} {h : Hd} {b : Bool} {ds : List D} (c : Cfg K F H σ η) (r : HdAt K F σ v h) (e : seqAt h η = some (b, ds)) : ∃ a vs, v = .ref a ∧ (b = true → SqL K H a vs) ∧ (b = false → SqT K H a vs) ∧ RpL K F vs ds := by
  cases h with
  | val d =>
    cases r with
    | lst ha hr => cases e; exact ⟨_, _, rfl, fun _ => SqL.of (c.sub _ _ ha), (fun z => nomatch z), hr⟩
    | scr ha => cases e; exact ⟨_, _, rfl, fun _ => c.sub.seq ha, (fun z => nomatch z), RpL.ofInts⟩
    | tup ha hr => cases e; exact ⟨_, _, rfl, fun z => (by cases z), fun _ => SqT.of (c.sub _ _ ha), hr⟩
    | ktup ha hr => cases e; exact ⟨_, _, rfl, fun z => (by cases z), fun _ => Same.tup c.sub ha, hr⟩
    | _ => cases e
  | own i =>
    unfold seqAt at e
    dsimp only at e
    split at e
    · rename_i q es he
      cases e
      obtain ⟨h1, h2, h, h3, h4⟩ := c.ow i q _ he
      have r : σ[i]? = some (some v) := r
      rw [h1] at r
      cases r
      cases h4 with
      | lst h4 => exact ⟨q, _, rfl, fun _ => SqL.of h3, fun z => (by cases z), h4⟩
    · cases e
-- names, constants
def wVar (i : Nat) : WD := fun η _ Q => match η[i]? with
  | some (.fz d) => Q d η
  | some (.ow _ o) => Q o.d (η.set i (.fz o.d))
  | _ => False
theorem ve_var (i : Nat) : VE K W (tVar i) (wVar i) := ⟨fun {F H σ η X Q R} c w hx hq => by
  unfold wVar at w
  split at w
  · rename_i d e
    obtain ⟨v, h1, h2⟩ := c.fz i d e
    exact ⟨v, h1, hq _ _ _ _ _ .refl c h2 w⟩
  · rename_i q o e
    obtain ⟨F', c', s', r'⟩ := c.freeze e
    exact ⟨_, (c.ow i q o e).1, hq _ _ _ _ _ s' c' r' w⟩
  · exact w.elim⟩
def wC (d : D) : WD := fun η _ Q => Q d η
theorem ve_c {v : V} {d : D} (r : ∀ F, Rp K F v d) : VE K W (tC v) (wC d) := ⟨fun c w _ hq => hq _ _ _ _ _ .refl c (r _) w⟩
-- operators
def wOp (r : D → D → (D → Prop) → Prop) (wa wb : WD) : WD := fun η X Q => wa η X fun x η1 => wb η1 X fun y η2 => r x y fun z => Q z η2
theorem ve_op {r : R2} {w : D → D → (D → Prop) → Prop} {ta tb : TE} {wa wb : WD} (ha : VE K W ta wa) (hb : VE K W tb wb) (hr : VR2 K r w) : VE K W (tOp r ta tb) (wOp w wa wb) := ⟨fun c q hx hq =>
  ha.run c q hx fun _ _ _ x _ s1 c1 r1 q1 => hb.run c1 q1 (hx.on s1) fun _ _ _ y _ s2 c2 r2 q2 => hr.run c2 (r1.same s2.ff) r2 q2 fun _ _ v d s3 c3 r3 q3 => hq _ _ _ v d ((s1.trans s2).trans s3) c3 r3 q3⟩
theorem vr_I0 {g : Int → Int → V} {gd : Int → Int → D} (h : ∀ F i j, Rp K F (g i j) (gd i j)) : VR2 K (rI0 g) (fun x y Q => match x, y with | .int i, .int j => Q (gd i j) | _, _ => False) := ⟨fun {F H σ η x y d e Q R} c r1 r2 w hq => by
  cases r1 <;> first | exact w.elim | skip
  cases r2 <;> first | exact w.elim | skip
  exact ⟨_, _, rfl, rfl, hq _ _ _ _ .refl c (h _ _ _) w⟩⟩
theorem vr_I {C : Int → Int → Prop} {g : Int → Int → V} {gd : Int → Int → D} (h : ∀ F i j, Rp K F (g i j) (gd i j)) : VR2 K (rI C g) (fun x y Q => match x, y with | .int i, .int j => C i j ∧ Q (gd i j) | _, _ => False) := ⟨fun {F H σ η x y d e Q R} c r1 r2 w hq => by
  cases r1 <;> first | exact w.elim | skip
  cases r2 <;> first | exact w.elim | skip
  exact ⟨_, _, rfl, rfl, w.1, hq _ _ _ _ .refl c (h _ _ _) w.2⟩⟩
def wUn (g : Int → D) (wa : WD) : WD := fun η X Q => wa η X fun x η1 => match x with | .int i => Q (g i) η1 | _ => False
theorem ve_unI {g : Int → V} {gd : Int → D} {ta : TE} {wa : WD} (ha : VE K W ta wa) (h : ∀ F i, Rp K F (g i) (gd i)) : VE K W (tUn (rU g) ta) (wUn gd wa) := ⟨fun c q hx hq =>
  ha.run c q hx fun _ _ _ x d s1 c1 r1 q1 => by
    cases r1 <;> first | exact q1.elim | skip
    exact ⟨_, rfl, hq _ _ _ _ _ s1 c1 (h _ _) q1⟩⟩
-- tests
def wTest (wa : WD) : WB := fun η X Q => wa η X fun x η1 => match x with | .bl b => Q b η1 | _ => False
theorem vt_test {ta : TE} {wa : WD} (ha : VE K W ta wa) : VT K W (tTest ta) (wTest wa) := ⟨fun c q hx hq =>
  ha.run c q hx fun _ _ _ x d s1 c1 r1 q1 => by
    cases r1 <;> first | exact q1.elim | skip
    exact ⟨_, rfl, hq _ _ _ _ s1 c1 q1⟩⟩
theorem vt_B {ta : TE} {wa : WD} (ha : VE K W ta wa) : VT K W (tB ta) (wTest wa) := ⟨fun c q hx hq =>
  ha.run c q hx fun _ _ _ x d s1 c1 r1 q1 => by
    cases r1 <;> first | exact q1.elim | skip
    exact ⟨_, rfl, hq _ _ _ _ s1 c1 q1⟩⟩
def wAnd (wa wb : WB) : WB := fun η X Q => wa η X fun b η1 => if b = true then wb η1 X Q else Q false η1
def wOr (wa wb : WB) : WB := fun η X Q => wa η X fun b η1 => if b = true then Q true η1 else wb η1 X Q
def wNot (wa : WB) : WB := fun η X Q => wa η X fun b η1 => Q (!b) η1
theorem vt_and {ta tb : TT} {wa wb : WB} (ha : VT K W ta wa) (hb : VT K W tb wb) : VT K W (tAnd ta tb) (wAnd wa wb) := ⟨fun c q hx hq =>
  ha.run c q hx fun _ _ _ b s1 c1 q1 => by
    cases b with
    | true => exact hb.run c1 q1 (hx.on s1) fun _ _ _ b s2 c2 q2 => hq _ _ _ _ (s1.trans s2) c2 q2
    | false => exact hq _ _ _ _ s1 c1 q1⟩
theorem vt_or {ta tb : TT} {wa wb : WB} (ha : VT K W ta wa) (hb : VT K W tb wb) : VT K W (tOr ta tb) (wOr wa wb) := ⟨fun c q hx hq =>
  ha.run c q hx fun _ _ _ b s1 c1 q1 => by
    cases b with
    | true => exact hq _ _ _ _ s1 c1 q1
    | false => exact hb.run c1 q1 (hx.on s1) fun _ _ _ b s2 c2 q2 => hq _ _ _ _ (s1.trans s2) c2 q2⟩
theorem vt_not {ta : TT} {wa : WB} (ha : VT K W ta wa) : VT K W (tNot ta) (wNot wa) := ⟨fun c q hx hq => ha.run c q hx fun _ _ _ b s1 c1 q1 => hq _ _ _ _ s1 c1 q1⟩
def wAndV (wa wb : WD) : WD := fun η X Q => wa η X fun x η1 => match x with | .bl b => if b = true then wb η1 X Q else Q (.bl false) η1 | _ => False
def wOrV (wa wb : WD) : WD := fun η X Q => wa η X fun x η1 => match x with | .bl b => if b = true then Q (.bl true) η1 else wb η1 X Q | _ => False
def wNotV (wa : WD) : WD := fun η X Q => wa η X fun x η1 => match x with | .bl b => Q (.bl (!b)) η1 | _ => False
theorem ve_and {ta tb : TE} {wa wb : WD} (ha : VE K W ta wa) (hb : VE K W tb wb) : VE K W (tAndV ta tb) (wAndV wa wb) := ⟨fun c q hx hq =>
  ha.run c q hx fun _ _ _ x d s1 c1 r1 q1 => by
    cases r1 <;> first | exact q1.elim | skip
    rename_i b
    refine ⟨b, rfl, ?_⟩
    cases b with
    | true => exact hb.run c1 q1 (hx.on s1) fun _ _ _ _ _ s2 c2 r2 q2 => hq _ _ _ _ _ (s1.trans s2) c2 r2 q2
    | false => exact hq _ _ _ _ _ s1 c1 (.bl false) q1⟩
theorem ve_or {ta tb : TE} {wa wb : WD} (ha : VE K W ta wa) (hb : VE K W tb wb) : VE K W (tOrV ta tb) (wOrV wa wb) := ⟨fun c q hx hq =>
  ha.run c q hx fun _ _ _ x d s1 c1 r1 q1 => by
    cases r1 <;> first | exact q1.elim | skip
    rename_i b
    refine ⟨b, rfl, ?_⟩
    cases b with
    | true => exact hq _ _ _ _ _ s1 c1 (.bl true) q1
    | false => exact hb.run c1 q1 (hx.on s1) fun _ _ _ _ _ s2 c2 r2 q2 => hq _ _ _ _ _ (s1.trans s2) c2 r2 q2⟩
theorem ve_not {ta : TE} {wa : WD} (ha : VE K W ta wa) : VE K W (tNotV ta) (wNotV wa) := ⟨fun c q hx hq =>
  ha.run c q hx fun _ _ _ x d s1 c1 r1 q1 => by
    cases r1 <;> first | exact q1.elim | skip
    exact ⟨_, rfl, hq _ _ _ _ _ s1 c1 (.bl _) q1⟩⟩
def wIf (wt : WB) (wa wb : WD) : WD := fun η X Q => wt η X fun b η1 => if b = true then wa η1 X Q else wb η1 X Q
theorem ve_if {tt : TT} {ta tb : TE} {wt : WB} {wa wb : WD} (ht : VT K W tt wt) (ha : VE K W ta wa) (hb : VE K W tb wb) : VE K W (tIf tt ta tb) (wIf wt wa wb) := ⟨fun c q hx hq =>
  ht.run c q hx fun _ _ _ b s1 c1 q1 => by
    cases b with
    | true => exact ha.run c1 q1 (hx.on s1) fun _ _ _ _ _ s2 c2 r2 q2 => hq _ _ _ _ _ (s1.trans s2) c2 r2 q2
    | false => exact hb.run c1 q1 (hx.on s1) fun _ _ _ _ _ s2 c2 r2 q2 => hq _ _ _ _ _ (s1.trans s2) c2 r2 q2⟩
-- arguments
def wNil : WA := fun η _ Q => Q [] η
def wCons (wa : WD) (wr : WA) : WA := fun η X Q => wa η X fun x η1 => wr η1 X fun xs η2 => Q (x :: xs) η2
theorem va_nil : VA K W tNil wNil := ⟨fun c q _ hq => hq _ _ _ _ _ .refl c .nil q⟩
theorem va_cons {ta : TE} {tr : TA} {wa : WD} {wr : WA} (ha : VE K W ta wa) (hr : VA K W tr wr) : VA K W (tCons ta tr) (wCons wa wr) := ⟨fun c q hx hq =>
  ha.run c q hx fun _ _ _ x d s1 c1 r1 q1 => hr.run c1 q1 (hx.on s1) fun _ _ _ vs ds s2 c2 r2 q2 => hq _ _ _ _ _ (s1.trans s2) c2 (.cons (r1.same s2.ff) r2) q2⟩
-- tuples, lists
def wTup (wa : WA) : WD := fun η X Q => wa η X fun xs η1 => if xs.length ≤ 1000 then Q (.tup xs) η1 else False
theorem sz_of {n m : Nat} (h : n ≤ 1000) (e : m = n) : m ≤ sizeLine := by rw [sizeLine_eq]; omega
theorem ve_tup {ta : TA} {wa : WA} (ha : VA K W ta wa) : VE K W (tTup ta) (wTup wa) := ⟨fun c q hx hq =>
  ha.run c q hx fun _ H1 η1 vs ds s1 c1 r1 q1 => by
    split at q1
    · rename_i hl
      refine ⟨sz_of hl r1.len, fun p np => ?_⟩
      obtain ⟨c2, s2⟩ := c1.new (o := .tup vs) np
      exact hq _ _ _ _ _ (s1.trans s2) c2 (.tup upd_same (r1.same s2.ff)) q1
    · exact q1.elim⟩
def wLst (wa : WA) : En → XW → (OB → En → Prop) → Prop := fun η X Q => wa η X fun xs η1 => if xs.length ≤ 1000 then Q (.lst xs) η1 else False
theorem Stp.back {F H F' H' : Hp} {η η' : En} (s : Stp F H η F' H' η') {p : Addr} (n : H' p = none) : H p = none := by
  cases e : H p with
  | none => rfl
  | some o => exact absurd n (s.dm p (by rw [e]; simp))
theorem Cfg.unown {F H : Hp} {σ : L2.St} {η : En} (c : Cfg K F H σ η) {p : Addr} (n : H p = none) : ¬ Own η p := fun o => (c.own o).2 n
theorem vf_lst {ta : TA} {wa : WA} (ha : VA K W ta wa) : VF K W (tLst ta) (wLst wa) := ⟨fun c q hx hq =>
  ha.run c q hx fun _ H1 η1 vs ds s1 c1 r1 q1 => by
    split at q1
    · rename_i hl
      refine ⟨sz_of hl r1.len, fun p np => ?_⟩
      obtain ⟨c2, s2, nF⟩ := c1.lay (o := .lst vs) np
      exact hq _ _ _ p _ _ (s1.trans s2) c2 nF (c1.unown np) (.inl (s1.back np)) upd_same (.lst r1) q1
    · exact q1.elim⟩
/-- a new object, held by value -/
def wVal (w : En → XW → (OB → En → Prop) → Prop) : WD := fun η X Q => w η X fun o η1 => Q o.d η1
theorem VF.ve {te : TE} {w : En → XW → (OB → En → Prop) → Prop} (h : VF K W te w) : VE K W te (wVal w) := ⟨fun {F H σ η X Q R} c q hx hq =>
  h.run c q hx fun F1 H1 η1 p u o s1 c1 nF no n0 hp r q1 => by
    have s : Same F1 (upd F1 p u) := same_new nF
    have sub : Same (upd F1 p u) H1 := fun a w f => by
      by_cases z : a = p
      · subst z; rw [upd_same] at f; rw [← f]; exact hp
      · rw [upd_ne z] at f; exact c1.sub _ _ f
    have c2 : Cfg K (upd F1 p u) H1 σ η1 := c1.grow s sub fun b hb => ⟨rfl, by rw [upd_ne (fun z => no (by rw [← z]; exact hb))]; exact (c1.own hb).1⟩
    have s2 : Stp F H η (upd F1 p u) H1 η1 := ⟨s1.ff.trans s, fun a ha no => by
      obtain ⟨e1, e2⟩ := s1.fr a ha no
      have ne : a ≠ p := fun z => n0.elim (fun e => ha (z ▸ e)) (fun o => no (z ▸ o))
      exact ⟨e1, (upd_ne ne).trans e2⟩, s1.dm, s1.ow⟩
    refine hq _ _ _ _ _ s2 c2 ?_ q1
    cases r with
    | lst r => exact .lst upd_same (r.same s)
    | ins r => exact .ins upd_same (r.same s)
    | dic r => exact .dic upd_same (r.same s)⟩
-- looking at sequences
def wBVar (i : Nat) : En → XW → (Hd → En → Prop) → Prop := fun η _ Q => match η[i]? with
  | some (.fz d) => Q (.val d) η
  | some (.ow _ _) => Q (.own i) η
  | _ => False
theorem vb_var (i : Nat) : VB K W (tVar i) (wBVar i) := ⟨fun {F H σ η X Q R} c w hx hq => by
  unfold wBVar at w
  split at w
  · rename_i d e
    obtain ⟨v, h1, h2⟩ := c.fz i d e
    exact ⟨v, h1, hq _ _ _ _ (.val d) .refl c h2 w⟩
  · rename_i q o e
    exact ⟨_, (c.ow i q o e).1, hq _ _ _ _ (.own i) .refl c (c.ow i q o e).1 w⟩
  · exact w.elim⟩
def wBE (w : WD) : En → XW → (Hd → En → Prop) → Prop := fun η X Q => w η X fun d η1 => Q (.val d) η1
theorem VE.vb {te : TE} {w : WD} (h : VE K W te w) : VB K W te (wBE w) := ⟨fun c q hx hq => h.run c q hx fun _ _ _ _ d s c r q => hq _ _ _ _ (.val d) s c r q⟩
def wLen (w : En → XW → (Hd → En → Prop) → Prop) : WD := fun η X Q => w η X fun h η1 => match seqAt h η1 with | some (_, ds) => Q (.int ds.length) η1 | none => False
theorem ve_len {ta : TE} {w : En → XW → (Hd → En → Prop) → Prop} (ha : VB K W ta w) : VE K W (tCB (fun xs H Q => ∃ p ys, xs = [.ref p] ∧ (SqL K H p ys ∨ SqT K H p ys) ∧ Q (.int ys.length) H) (tCons ta tNil)) (wLen w) := ⟨fun c q hx hq =>
  ha.run c q hx fun _ H1 η1 v h s1 c1 r1 q1 => by
    split at q1
    · rename_i b ds e
      obtain ⟨a, vs, rfl, h1, h2, h3⟩ := r1.seq c1 e
      refine ⟨a, vs, rfl, ?_, ?_⟩
      · cases b with
        | true => exact .inl (h1 rfl)
        | false => exact .inr (h2 rfl)
      · rw [h3.len]
        exact hq _ _ _ _ _ s1 c1 (.int _) q1
    · exact q1.elim⟩
theorem atI_rp {F : Hp} {vs : List V} {ds : List D} {i : Int} {d : D} (r : RpL K F vs ds) (e : atI ds i = some d) : ∃ v, atI vs i = some v ∧ Rp K F v d := by
  unfold atI at e ⊢
  rw [r.len]
  cases h : ixN ds.length i with
  | none => rw [h] at e; cases e
  | some j =>
    rw [h] at e
    exact RpL.get' r e
/-- xs[i] -/
def wIx (w : En → XW → (Hd → En → Prop) → Prop) (wi : WD) : WD := fun η X Q => w η X fun h η1 => wi η1 X fun k η2 => match seqAt h η2, k with
  | some (_, ds), .int i => ∃ d, atI ds i = some d ∧ Q d η2
  | _, _ => False
theorem ve_ix {ta ti : TE} {w : En → XW → (Hd → En → Prop) → Prop} {wi : WD} (ha : VB K W ta w) (hi : VE K W ti wi) : VE K W (tOp (rIx K) ta ti) (wIx w wi) := ⟨fun c q hx hq =>
  ha.run c q hx fun _ H1 η1 v h s1 c1 r1 q1 => hi.run c1 q1 (hx.on s1) fun _ H2 η2 y k s2 c2 r2 q2 => by
    split at q2
    · rename_i b ds i e
      obtain ⟨d, e2, q2⟩ := q2
      cases r2
      obtain ⟨a, vs, rfl, h1, h2, h3⟩ := (r1.same s2.ff).seq c2 e
      obtain ⟨v, e3, r3⟩ := atI_rp h3 e2
      cases b with
      | true => exact .inl ⟨a, vs, i, v, rfl, rfl, h1 rfl, e3, hq _ _ _ _ _ (s1.trans s2) c2 r3 q2⟩
      | false => exact .inr (.inl ⟨a, vs, i, v, rfl, rfl, h2 rfl, e3, hq _ _ _ _ _ (s1.trans s2) c2 r3 q2⟩)
    · exact q2.elim⟩
end
end Tw

namespace Tw
open PySem PySem.Spec PyProof.Rows L2

/-! ### what a statement does, by value -/
/-- what is returned: a settled value, or a new object that nobody holds -/
inductive Rs where
  | val (d : D) | new (o : OB)
def Rs.d : Rs → D
  | .val d => d
  | .new o => o.d
def RsAt (K : PySem.W.Frag) (F H0 H : Hp) (η0 η : En) (v : V) : Rs → Prop
  | .val d => Rp K F v d
  | .new o => ∃ q h, v = .ref q ∧ F q = none ∧ ¬ Own η q ∧ H q = some h ∧ RpO K F h o ∧ (H0 q = none ∨ Own η0 q)
structure EndsV where
  nx : En → Prop
  rt : Rs → En → Prop
  bk : En → Prop
  ct : En → Prop
abbrev WS := EndsV → XW → En → Prop
/-- what the outer wishes take -/
structure Cnt (K : PySem.W.Frag) (W : WX) (F H : Hp) (η : En) (E : EndsV) (X : XW) (Dd : Ends) : Prop where
  nx : ∀ F' H' σ' η', Stp F H η F' H' η' → Cfg K F' H' σ' η' → E.nx η' → Dd.nx σ' H'
  rt : ∀ F' H' σ' η' v r, Stp F H η F' H' η' → Cfg K F' H' σ' η' → RsAt K F' H H' η η' v r → E.rt r η' → Dd.rt v H'
  bk : ∀ F' H' σ' η', Stp F H η F' H' η' → Cfg K F' H' σ' η' → E.bk η' → Dd.bk σ' H'
  ct : ∀ F' H' σ' η', Stp F H η F' H' η' → Cfg K F' H' σ' η' → E.ct η' → Dd.ct σ' H'
  ox : ∀ F' H' σ' η' C dd fs gs, Stp F H η F' H' η' → Cfg K F' H' σ' η' → F' dd = some (.xd fs) → RpF K F' fs gs → X C gs η' → W (.ref C) (some dd) σ' H'
structure VS (K : PySem.W.Frag) (W : WX) (ts : TS) (w : WS) : Prop where
  run : ∀ {F H : Hp} {σ : L2.St} {η : En} {E : EndsV} {X : XW} {Dd : Ends}, Cfg K F H σ η → w E X η → Cnt K W F H η E X Dd → ts Dd σ H
section
variable {K : PySem.W.Frag} {W : WX}
theorem RsAt.on {F H0 H1 H : Hp} {η0 η1 η : En} {v : V} {r : Rs} {F0 F1 : Hp} (s : Stp F0 H0 η0 F1 H1 η1) (h : RsAt K F H1 H η1 η v r) : RsAt K F H0 H η0 η v r := by
  cases r with
  | val d => exact h
  | new o =>
    obtain ⟨q, u, h1, h2, h3, h4, h5, h6⟩ := h
    refine ⟨q, u, h1, h2, h3, h4, h5, ?_⟩
    rcases h6 with h6 | h6
    · exact .inl (s.back h6)
    · exact (s.ow q h6).symm
theorem Cnt.on {F H F1 H1 : Hp} {η η1 : En} {E : EndsV} {X : XW} {Dd : Ends} (c : Cnt K W F H η E X Dd) (s : Stp F H η F1 H1 η1) : Cnt K W F1 H1 η1 E X Dd :=
  ⟨fun _ _ _ _ t => c.nx _ _ _ _ (s.trans t), fun _ _ _ _ _ _ t k r => c.rt _ _ _ _ _ _ (s.trans t) k (r.on s), fun _ _ _ _ t => c.bk _ _ _ _ (s.trans t), fun _ _ _ _ t => c.ct _ _ _ _ (s.trans t), fun _ _ _ _ _ _ _ _ t => c.ox _ _ _ _ _ _ _ _ (s.trans t)⟩
theorem Cnt.out {F H : Hp} {η : En} {E : EndsV} {X : XW} {Dd : Ends} {σ : L2.St} (c : Cnt K W F H η E X Dd) : OutX K W F H σ η X := c.ox
theorem Cnt.next {F H : Hp} {η : En} {E E' : EndsV} {X : XW} {Dd : Ends} {nx : L2.St → Hp → Prop} (c : Cnt K W F H η E X Dd) (e : E' = { E with nx := E'.nx }) (h : ∀ F' H' σ' η', Stp F H η F' H' η' → Cfg K F' H' σ' η' → E'.nx η' → nx σ' H') : Cnt K W F H η E' X { Dd with nx := nx } := by
  rw [e]
  exact ⟨h, c.rt, c.bk, c.ct, c.ox⟩
def wNext : WS := fun E _ η => E.nx η
theorem vs_next : VS K W tNext wNext := ⟨fun c w k => k.nx _ _ _ _ .refl c w⟩
def wBreak : WS := fun E _ η => E.bk η
theorem vs_break : VS K W tBreak wBreak := ⟨fun c w k => k.bk _ _ _ _ .refl c w⟩
def wCont : WS := fun E _ η => E.ct η
theorem vs_cont : VS K W tCont wCont := ⟨fun c w k => k.ct _ _ _ _ .refl c w⟩
def wSeq (a b : WS) : WS := fun E X η => a { E with nx := fun η' => b E X η' } X η
theorem vs_seq {t u : TS} {a b : WS} (ha : VS K W t a) (hb : VS K W u b) : VS K W (tSeq t u) (wSeq a b) := ⟨fun c w k =>
  ha.run c w (k.next rfl fun _ _ _ _ s c1 w1 => hb.run c1 w1 (k.on s))⟩
/-- a join: what follows is shown once, from M -/
def wCut (a b : WS) : WS := fun E X η => ∃ M : En → Prop, a { E with nx := M } X η ∧ ∀ η', M η' → b E X η'
theorem vs_cut {t u : TS} {a b : WS} (ha : VS K W t a) (hb : VS K W u b) : VS K W (tSeq t u) (wCut a b) := ⟨fun c ⟨M, w, m⟩ k =>
  ha.run c w (k.next rfl fun _ _ _ _ s c1 w1 => hb.run c1 (m _ w1) (k.on s))⟩
def wDrop (w : WD) : WS := fun E X η => w η X fun _ η1 => E.nx η1
theorem vs_drop {te : TE} {w : WD} (h : VE K W te w) : VS K W (tDrop te) (wDrop w) := ⟨fun c q k => h.run c q k.out fun _ _ _ _ _ s c1 _ q1 => k.nx _ _ _ _ s c1 q1⟩
def wRet (w : WD) : WS := fun E X η => w η X fun d η1 => E.rt (.val d) η1
theorem vs_ret {te : TE} {w : WD} (h : VE K W te w) : VS K W (tRet te) (wRet w) := ⟨fun c q k => h.run c q k.out fun _ _ _ _ d s c1 r q1 => k.rt _ _ _ _ _ (.val d) s c1 r q1⟩
def wRetN : WS := fun E _ η => E.rt (.val .non) η
theorem vs_retN : VS K W tRetN wRetN := ⟨fun c w k => k.rt _ _ _ _ _ (.val .non) .refl c .non w⟩
/-- return of a new object -/
def wRetF (w : En → XW → (OB → En → Prop) → Prop) : WS := fun E X η => w η X fun o η1 => E.rt (.new o) η1
theorem vs_retF {te : TE} {w : En → XW → (OB → En → Prop) → Prop} (h : VF K W te w) : VS K W (tRet te) (wRetF w) := ⟨fun c q k => h.run c q k.out fun _ _ _ p u o s c1 nF no n0 hp r q1 => k.rt _ _ _ _ _ (.new o) s c1 ⟨p, u, rfl, nF, no, hp, r, n0⟩ q1⟩
/-- return of a slot's own object -/
def wRetO (i : Nat) : WS := fun E _ η => match η[i]? with
  | some (.ow _ o) => E.rt (.new o) (η.set i .no)
  | _ => False
theorem vs_retO (i : Nat) : VS K W (tRet (tVar i)) (wRetO i) := ⟨fun {F H σ η E X Dd} c w k => by
  unfold wRetO at w
  split at w
  · rename_i q o e
    obtain ⟨h1, h2, h, h3, h4⟩ := c.ow i q o e
    refine ⟨_, h1, k.rt _ _ _ _ _ (.new o) (.drop i) (c.drop i) ⟨q, h, rfl, h2, ?_, h3, h4, .inr ⟨i, o, e⟩⟩ w⟩
    rintro ⟨j, u, f⟩
    rcases set_at f with ⟨_, f⟩ | ⟨n, f⟩
    · cases f
    · exact n (c.ne _ _ _ _ _ e f)
  · exact w.elim⟩
def wIfS (wt : WB) (a b : WS) : WS := fun E X η => wt η X fun t η1 => if t = true then a E X η1 else b E X η1
theorem vs_if {tt : TT} {t u : TS} {wt : WB} {a b : WS} (ht : VT K W tt wt) (ha : VS K W t a) (hb : VS K W u b) : VS K W (tIfS tt t u) (wIfS wt a b) := ⟨fun c q k =>
  ht.run c q k.out fun _ _ _ x s c1 q1 => by
    cases x with
    | true => exact ha.run c1 q1 (k.on s)
    | false => exact hb.run c1 q1 (k.on s)⟩
/-! ### stores -/
structure VG (K : PySem.W.Frag) (is : List Nat) (g : TG) (w : D → En → (En → Prop) → Prop) : Prop where
  run : ∀ {F H : Hp} {σ : L2.St} {η : En} {v : V} {d : D} {Q : En → Prop} {R : L2.St → Hp → Prop}, Cfg K F H σ η → Rp K F v d → w d η Q →
    (∀ σ' η', wipe σ' is = wipe σ is → Stp F H η F H η' → Cfg K F H σ' η' → Q η' → R σ' H) → g v σ H R
structure VGs (K : PySem.W.Frag) (is : List Nat) (g : TGs) (w : List D → En → (En → Prop) → Prop) : Prop where
  run : ∀ {F H : Hp} {σ : L2.St} {η : En} {vs : List V} {ds : List D} {Q : En → Prop} {R : L2.St → Hp → Prop}, Cfg K F H σ η → RpL K F vs ds → w ds η Q →
    (∀ σ' η', wipe σ' is = wipe σ is → Stp F H η F H η' → Cfg K F H σ' η' → Q η' → R σ' H) → g vs σ H R
theorem wipe_at (σ : L2.St) (j : Nat) : ∀ is : List Nat, (wipe σ is)[j]? = if j ∈ is ∧ j < σ.length then some none else σ[j]?
  | [] => by
    rw [if_neg (fun h => by cases h.1)]
    rfl
  | i :: is => by
    show ((wipe σ is).set i none)[j]? = _
    by_cases e : i = j
    · subst e
      rw [List.getElem?_set, if_pos rfl, wipe_length]
      by_cases l : i < σ.length
      · rw [if_pos l, if_pos ⟨List.mem_cons_self, l⟩]
      · rw [if_neg l, if_neg (fun h => l h.2), List.getElem?_eq_none (by omega)]
    · rw [List.getElem?_set, if_neg e, wipe_at σ j is]
      have : (j ∈ i :: is) ↔ j ∈ is := ⟨fun h => (List.mem_cons.mp h).elim (fun z => absurd z.symm e) id, fun h => List.mem_cons_of_mem _ h⟩
      by_cases h : j ∈ is ∧ j < σ.length
      · rw [if_pos h, if_pos ⟨this.mpr h.1, h.2⟩]
      · rw [if_neg h, if_neg (fun z => h ⟨this.mp z.1, z.2⟩)]
theorem wipe_len_eq {σ σ' : L2.St} {is : List Nat} (h : wipe σ' is = wipe σ is) : σ'.length = σ.length := by
  have := congrArg List.length h
  rwa [wipe_length, wipe_length] at this
theorem wipe_out {σ σ' : L2.St} {is : List Nat} {j : Nat} (h : wipe σ' is = wipe σ is) (nj : j ∉ is) : σ'[j]? = σ[j]? := by
  have e : (wipe σ' is)[j]? = (wipe σ is)[j]? := by rw [h]
  rw [wipe_at, wipe_at, if_neg (fun z => nj z.1), if_neg (fun z => nj z.1)] at e
  exact e
theorem wipe_of {σ σ' : L2.St} {is : List Nat} (hl : σ'.length = σ.length) (h : ∀ j, j ∉ is → σ'[j]? = σ[j]?) : wipe σ' is = wipe σ is := by
  apply List.ext_getElem?
  intro j
  rw [wipe_at, wipe_at, hl]
  by_cases m : j ∈ is
  · by_cases l : j < σ.length
    · rw [if_pos ⟨m, l⟩, if_pos ⟨m, l⟩]
    · rw [if_neg (fun z => l z.2), if_neg (fun z => l z.2), List.getElem?_eq_none (by omega), List.getElem?_eq_none (by omega)]
  · rw [if_neg (fun z => m z.1), if_neg (fun z => m z.1), h j m]
def wName (i : Nat) : D → En → (En → Prop) → Prop := fun d η Q => match η[i]? with
  | some _ => Q (η.set i (.fz d))
  | none => False
theorem vg_name (i : Nat) : VG K [i] (gName i) (wName i) := ⟨fun {F H σ η v d Q R} c r w k => by
  unfold wName at w
  split at w
  · rename_i s e
    have il : i < σ.length := by rw [← c.len]; exact (List.getElem?_eq_some_iff.mp e).1
    refine k _ _ (wipe_of (by rw [List.length_set]) fun j hj => ?_) (.put i) (c.put i il r) w
    rw [List.getElem?_set, if_neg (fun z => hj (by rw [← z]; exact List.mem_cons_self))]
  · exact w.elim⟩
def wGNil : List D → En → (En → Prop) → Prop := fun ds η Q => match ds with
  | [] => Q η
  | _ => False
theorem vgs_nil : VGs K [] gNil wGNil := ⟨fun c r w k => by
  cases r with
  | nil => exact ⟨rfl, k _ _ rfl .refl c w⟩
  | cons _ _ => exact w.elim⟩
def wGCons (g : D → En → (En → Prop) → Prop) (r : List D → En → (En → Prop) → Prop) : List D → En → (En → Prop) → Prop := fun ds η Q => match ds with
  | d :: ds => g d η fun η1 => r ds η1 Q
  | [] => False
theorem vgs_cons {is js : List Nat} {g : TG} {r : TGs} {wg : D → En → (En → Prop) → Prop} {wr : List D → En → (En → Prop) → Prop} (hg : VG K is g wg) (hr : VGs K js r wr) : VGs K (is ++ js) (gCons g r) (wGCons wg wr) := ⟨fun {F H σ η vs ds Q R} c rp w k => by
  cases rp with
  | nil => exact w.elim
  | cons h t =>
    refine ⟨_, _, rfl, hg.run c h w fun σ1 η1 e1 s1 c1 w1 => hr.run c1 t w1 fun σ2 η2 e2 s2 c2 w2 => k _ _ (wipe_of ((wipe_len_eq e2).trans (wipe_len_eq e1)) fun j hj => ?_) (s1.trans s2) c2 w2⟩
    rw [wipe_out e2 (fun z => hj (List.mem_append_right _ z)), wipe_out e1 (fun z => hj (List.mem_append_left _ z))]⟩
def wGTup (n : Nat) (g : List D → En → (En → Prop) → Prop) : D → En → (En → Prop) → Prop := fun d η Q => match d with
  | .tup ds => if ds.length = n then g ds η Q else False
  | _ => False
theorem vg_tup {is : List Nat} {n : Nat} {g : TGs} {w : List D → En → (En → Prop) → Prop} (h : VGs K is g w) : VG K is (gTup K n g) (wGTup n w) := ⟨fun c r q k => by
  cases r with
  | tup ha hr =>
    have q : (if _ then _ else False) := q
    split at q
    · rename_i hl
      exact ⟨_, _, rfl, SqT.of (c.sub _ _ ha), hr.len.trans hl, h.run c hr q k⟩
    · exact q.elim
  | _ => exact q.elim⟩
def wAsg (w : WD) (g : D → En → (En → Prop) → Prop) : WS := fun E X η => w η X fun d η1 => g d η1 E.nx
theorem vs_asg {is : List Nat} {te : TE} {g : TG} {w : WD} {wg : D → En → (En → Prop) → Prop} (h : VE K W te w) (hg : VG K is g wg) : VS K W (tAsg te g) (wAsg w wg) := ⟨fun c q k =>
  h.run c q k.out fun _ _ _ _ _ s c1 r q1 => hg.run c1 r q1 fun _ _ _ s2 c2 q2 => k.nx _ _ _ _ (s.trans s2) c2 q2⟩
/-- a new object is stored: the slot's own -/
def wSetO (i : Nat) (w : En → XW → (OB → En → Prop) → Prop) : WS := fun E X η => w η X fun o η1 => match η1[i]? with
  | some _ => ∀ q, E.nx (η1.set i (.ow q o))
  | none => False
theorem Stp.putO {F H F' H' : Hp} {η η' : En} {q : Addr} {o : OB} (s : Stp F H η F' H' η') (i : Nat) (n : H q = none ∨ Own η q) : Stp F H η F' H' (η'.set i (.ow q o)) := ⟨s.ff, s.fr, s.dm, fun a h => by
  rcases own_set h with h | ⟨u, h⟩
  · exact s.ow a h
  · cases h; exact n.symm⟩
theorem vs_setO {te : TE} {w : En → XW → (OB → En → Prop) → Prop} (i : Nat) (h : VF K W te w) : VS K W (tAsg te (gName i)) (wSetO i w) := ⟨fun c q k =>
  h.run c q k.out fun F1 H1 η1 p u o s c1 nF no n0 hp r q1 => by
    split at q1
    · rename_i sl e
      have il := (List.getElem?_eq_some_iff.mp e).1
      rw [c1.len] at il
      exact k.nx _ _ _ _ (s.putO i n0) (c1.putO i il nF no hp r) (q1 p)
    · exact q1.elim⟩
/-- name += e, name -= e: ints -/
def wAug (i : Nat) (f : Int → Int → Int) (w : WD) : WS := fun E X η => match η[i]? with
  | some (.fz (.int a)) => w η X fun d η1 => match d, η1[i]? with
    | .int b, some _ => E.nx (η1.set i (.fz (.int (f a b))))
    | _, _ => False
  | _ => False
theorem vs_aug {te : TE} {w : WD} (i : Nat) (f : Int → Int → Int) (h : VE K W te w) : VS K W (tAug i te (ipI f)) (wAug i f w) := ⟨fun {F H σ η E X Dd} c q k => by
  unfold wAug at q
  split at q
  · rename_i a e
    obtain ⟨v, h1, h2⟩ := c.fz i _ e
    cases h2
    refine ⟨_, h1, h.run c q k.out fun F1 H1 η1 v d s c1 r q1 => ?_⟩
    split at q1
    · rename_i b sl e1
      cases r
      have il : i < σ.length := by have := (List.getElem?_eq_some_iff.mp e1).1; rw [c1.len] at this; exact this
      exact ⟨a, b, rfl, rfl, k.nx _ _ _ _ (s.trans (.put i)) (c1.put i il (.int _)) q1⟩
    · exact q1.elim
  · exact q.elim⟩
/-! ### a slot's own list -/
theorem ixN_lt' {n : Nat} {i : Int} {j : Nat} (h : ixN n i = some j) : j < n := by
  unfold ixN at h
  split at h
  · split at h
    · cases h; omega
    · cases h
  · split at h
    · cases h; omega
    · cases h
/-- xs[k] = e -/
def wSetIx (i : Nat) (we wi : WD) : WS := fun E X η => we η X fun d η1 => match η1[i]? with
  | some (.ow _ _) => wi η1 X fun k η2 => match η2[i]?, k with
    | some (.ow q (.lst ds)), .int k => ∃ j, ixN ds.length k = some j ∧ E.nx (η2.set i (.ow q (.lst (ds.set j d))))
    | _, _ => False
  | _ => False
theorem vs_setIx {te ti : TE} {we wi : WD} (i : Nat) (h : VE K W te we) (hi : VE K W ti wi) : VS K W (tAsg te (gSub (tVar i) ti rSetL)) (wSetIx i we wi) := ⟨fun {F H σ η E X Dd} c q k =>
  h.run c q k.out fun F1 H1 η1 v d s1 c1 r1 q1 => by
    split at q1
    · rename_i q0 o0 e0
      refine ⟨_, (c1.ow i q0 o0 e0).1, hi.run c1 q1 (k.on s1).out fun F2 H2 η2 kv kd s2 c2 r2 q2 => ?_⟩
      split at q2
      · rename_i q ds kk e
        obtain ⟨j, e2, q2⟩ := q2
        cases r2
        obtain ⟨g1, g2, u, g3, g4⟩ := c2.ow i q _ e
        have eq : q = q0 := by
          have := (c1.ow i q0 o0 e0).1
          rw [g1] at this
          cases this
          rfl
        subst eq
        cases g4 with
        | lst g4 =>
          obtain ⟨c3, s3⟩ := c2.write (h := .lst _) e (.lst (g4.set (r1.same s2.ff) j))
          exact ⟨q, _, kk, j, rfl, rfl, g3, by rw [g4.len]; exact e2, k.nx _ _ _ _ ((s1.trans s2).trans s3) c3 q2⟩
      · exact q2.elim
    · exact q1.elim⟩
/-- a method of a slot's own list, its arguments -/
def wLM (i : Nat) (wa : WA) (f : List D → List D → (D → List D → Prop) → Prop) : WD := fun η X Q => match η[i]? with
  | some (.ow _ (.lst _)) => wa η X fun as η1 => match η1[i]? with
    | some (.ow q (.lst ds)) => f ds as fun r es => Q r (η1.set i (.ow q (.lst es)))
    | _ => False
  | _ => False
/-- such a method, by values -/
structure VM (K : PySem.W.Frag) (r : V → List V → Hp → VK → Prop) (f : List D → List D → (D → List D → Prop) → Prop) : Prop where
  run : ∀ {F H : Hp} {q : Addr} {vs as : List V} {ds es : List D} {Q : D → List D → Prop} {R : VK}, H q = some (.lst vs) → RpL K F vs ds → RpL K F as es → f ds es Q →
    (∀ v ws d ds', RpL K F ws ds' → Rp K F v d → Q d ds' → R v (upd H q (.lst ws))) → r (.ref q) as H R
theorem ve_lm {r : V → List V → Hp → VK → Prop} {f : List D → List D → (D → List D → Prop) → Prop} {ta : TA} {wa : WA} (i : Nat) (hr : VM K r f) (ha : VA K W ta wa) : VE K W (tBM K "list" r (tVar i) ta) (wLM i wa f) := ⟨fun {F H σ η X Q R} c w hx hq => by
  unfold wLM at w
  split at w
  · rename_i q0 ds0 e0
    obtain ⟨a1, a2, u0, a3, a4⟩ := c.ow i q0 _ e0
    refine ⟨_, a1, .inl ⟨rfl, ?_⟩, ha.run c w hx fun F1 H1 η1 vs es s1 c1 r1 q1 => ?_⟩
    · cases a4 with
      | lst a4 => exact ⟨_, SqL.of a3⟩
    · split at q1
      · rename_i q ds e
        obtain ⟨g1, g2, u, g3, g4⟩ := c1.ow i q _ e
        rw [a1] at g1
        cases g1
        cases g4 with
        | lst g4 =>
          refine hr.run g3 g4 r1 q1 fun v ws d ds' rw' rv q2 => ?_
          obtain ⟨c3, s3⟩ := c1.write (h := .lst ws) e (.lst rw')
          exact hq _ _ _ _ _ (s1.trans s3) c3 rv q2
      · exact q1.elim
  · exact w.elim⟩
def wLM0 (i : Nat) (f : List D → List D → (D → List D → Prop) → Prop) : WD := wLM i wNil f
theorem ve_lm0 {r : V → List V → Hp → VK → Prop} {f : List D → List D → (D → List D → Prop) → Prop} (i : Nat) (hr : VM K r f) : VE K W (tBM0 K "list" r (tVar i)) (wLM0 i f) := ⟨fun {F H σ η X Q R} c w hx hq => by
  obtain ⟨v, h1, h2, h3⟩ := (ve_lm (W := W) i hr va_nil).run c w hx hq
  exact ⟨v, h1, h2, h3⟩⟩
theorem vm_append : VM K rAppend (fun ds as Q => match as with | [d] => ds.length < 1000000 ∧ Q .non (ds ++ [d]) | _ => False) := ⟨fun h r ra w k => by
  split at w
  · cases ra with
    | cons h1 h2 =>
      cases h2
      exact ⟨_, _, _, rfl, rfl, h, by rw [r.len, sizeLine_eq]; omega, k _ _ _ _ (r.app (.cons h1 .nil)) .non w.2⟩
  · exact w.elim⟩
theorem vm_insert : VM K (fun x vs H Q => ∃ (l : Addr) (xs : List V) (i : Int) (y : V), x = .ref l ∧ vs = [.int i, y] ∧ H l = some (.lst xs) ∧ xs.length < sizeLine ∧ 0 ≤ i ∧ i < 2 ^ 63 ∧ Q .non (upd H l (.lst (xs.take i.toNat ++ [y] ++ xs.drop i.toNat))))
    (fun ds as Q => match as with | [.int i, d] => (ds.length < 1000000 ∧ 0 ≤ i ∧ i < 2 ^ 63) ∧ Q .non (ds.take i.toNat ++ [d] ++ ds.drop i.toNat) | _ => False) := ⟨fun h r ra w k => by
  split at w
  · cases ra with
    | cons h1 h2 =>
      cases h1
      cases h2 with
      | cons h2 h3 =>
        cases h3
        obtain ⟨⟨w1, w2, w3⟩, w⟩ := w
        exact ⟨_, _, _, _, rfl, rfl, h, by rw [r.len, sizeLine_eq]; omega, w2, w3, k _ _ _ _ (((r.take _).app (.cons h2 .nil)).app (r.drop _)) .non w⟩
  · exact w.elim⟩
theorem seqIndex_nat {i : Int} {n k : Nat} (e : i = (k : Int)) (h : k < n) : seqIndex? i n = some k := by
  subst e
  exact (seqIndex_of (Int.natCast_nonneg k) (by omega)).trans (by rw [Int.toNat_natCast])
theorem vm_popAt : VM K rPopAt (fun ds as Q => match as with | [.int i] => ∃ (k : Nat) (d : D), i = (k : Int) ∧ k < 2 ^ 62 ∧ ds[k]? = some d ∧ Q d (ds.eraseIdx k) | _ => False) := ⟨fun h r ra w k => by
  split at w
  · cases ra with
    | cons h1 h2 =>
      cases h1
      cases h2
      obtain ⟨j, d, rfl, lt, e, w⟩ := w
      obtain ⟨v, e2, rv⟩ := r.get' e
      have jl : j < _ := (List.getElem?_eq_some_iff.mp e2).1
      exact ⟨_, _, _, j, v, rfl, rfl, h, by omega, by omega, seqIndex_nat rfl jl, e2, k _ _ _ _ (r.erase j) rv w⟩
  · exact w.elim⟩
theorem RpL.rev {F : Hp} : ∀ {vs : List V} {ds : List D}, RpL K F vs ds → RpL K F vs.reverse ds.reverse
  | _, _, .nil => .nil
  | _, _, .cons h r => by
    rw [List.reverse_cons, List.reverse_cons]
    exact (RpL.rev r).app (.cons h .nil)
theorem vm_reverse : VM K rReverse (fun ds as Q => match as with | [] => Q .non ds.reverse | _ => False) := ⟨fun h r ra w k => by
  split at w
  · cases ra
    exact ⟨_, _, rfl, rfl, h, k _ _ _ _ r.rev .non w⟩
  · exact w.elim⟩
end
end Tw

namespace Tw
open PySem PySem.Spec PyProof.Rows L2 RZ

/-! ### what a for walks -/
structure VI (K : PySem.W.Frag) (W : WX) (wi : TI) (w : En → XW → (List D → En → Prop) → Prop) : Prop where
  run : ∀ {F H : Hp} {σ : L2.St} {η : En} {X : XW} {Q : List D → En → Prop} {R : It → Hp → Prop}, Cfg K F H σ η → w η X Q → OutX K W F H σ η X →
    (∀ F' H' η' ds J G Y, Stp F H η F' H' η' → Cfg K F' H' σ η' → Walk J (List.length ds) G Y → (∀ F2 H2, Same F' F2 → Same F2 H2 → G H2) →
      (∀ i F2 H2 x H3 σ2 η2, i < List.length ds → Cfg K F2 H2 σ2 η2 → Same F' F2 → Y i H2 x H3 → ∃ F3 d, ds[i]? = some d ∧ Cfg K F3 H3 σ2 η2 ∧ Stp F2 H2 η2 F3 H3 η2 ∧ Rp K F3 x d) → Q ds η' → R J H') → wi σ H R
section
variable {K : PySem.W.Frag} {W : WX}
theorem Rp.seq {F : Hp} {v : V} {d : D} {b : Bool} {ds : List D} (r : Rp K F v d) (e : seqD d = some (b, ds)) : ∃ a vs, v = .ref a ∧ (b = true → SqL K F a vs) ∧ (b = false → SqT K F a vs) ∧ RpL K F vs ds := by
  cases r with
  | lst ha hr => cases e; exact ⟨_, _, rfl, fun _ => SqL.of ha, (fun z => nomatch z), hr⟩
  | scr ha => cases e; exact ⟨_, _, rfl, fun _ => ha, (fun z => nomatch z), RpL.ofInts⟩
  | tup ha hr => cases e; exact ⟨_, _, rfl, (fun z => nomatch z), fun _ => SqT.of ha, hr⟩
  | ktup ha hr => cases e; exact ⟨_, _, rfl, (fun z => nomatch z), fun _ => ha, hr⟩
  | _ => cases e
def wSeqE (b : Bool) (w : WD) : En → XW → (List D → En → Prop) → Prop := fun η X Q => w η X fun d η1 => match seqD d with
  | some (c, ds) => if c = b then Q ds η1 else False
  | none => False
theorem vi_list {tl : TE} {w : WD} (h : VE K W tl w) : VI K W (iList K tl) (wSeqE true w) := ⟨fun c q hx hq =>
  h.run c q hx fun F1 H1 η1 v d s1 c1 r1 q1 => by
    split at q1
    · rename_i b ds e
      split at q1
      · rename_i hb
        subst hb
        obtain ⟨a, vs, rfl, h1, _, h3⟩ := r1.seq e
        refine ⟨a, rfl, ⟨vs, c1.sub.seq (h1 rfl)⟩, hq _ _ _ ds _ _ _ s1 c1 (by rw [← h3.len]; exact walk_list (K := K) (a := a) (xs := vs)) (fun F2 H2 s2 s3 => s3.seq (s2.seq (h1 rfl))) (fun i F2 H2 x H3 σ2 η2 hi c2 s2 y => ?_) q1⟩
        obtain ⟨rfl, e2⟩ := y
        obtain ⟨d2, e3, r2⟩ := h3.get e2
        exact ⟨F2, d2, e3, c2, .refl, r2.same s2⟩
      · exact q1.elim
    · exact q1.elim⟩
theorem vi_tup {tl : TE} {w : WD} (h : VE K W tl w) : VI K W (iTup K tl) (wSeqE false w) := ⟨fun c q hx hq =>
  h.run c q hx fun F1 H1 η1 v d s1 c1 r1 q1 => by
    split at q1
    · rename_i b ds e
      split at q1
      · rename_i hb
        subst hb
        obtain ⟨a, vs, rfl, _, h1, h3⟩ := r1.seq e
        refine ⟨a, rfl, ⟨vs, Same.tup c1.sub (h1 rfl)⟩, hq _ _ _ ds _ _ _ s1 c1 (by rw [← h3.len]; exact walk_tup (K := K) (a := a) (xs := vs)) (fun F2 H2 s2 s3 => Same.tup s3 (Same.tup s2 (h1 rfl))) (fun i F2 H2 x H3 σ2 η2 hi c2 s2 y => ?_) q1⟩
        obtain ⟨rfl, e2⟩ := y
        obtain ⟨d2, e3, r2⟩ := h3.get e2
        exact ⟨F2, d2, e3, c2, .refl, r2.same s2⟩
      · exact q1.elim
    · exact q1.elim⟩
/-- the ints from lo on -/
def rngD (lo : Int) (n : Nat) : List D := (List.range n).map fun (k : Nat) => D.int (lo + (k : Int))
theorem rngD_len (lo : Int) (n : Nat) : (rngD lo n).length = n := by unfold rngD; rw [List.length_map, List.length_range]
theorem rngD_at {lo : Int} {n i : Nat} (h : i < n) : (rngD lo n)[i]? = some (.int (lo + (i : Int))) := by
  unfold rngD
  rw [List.getElem?_map, List.getElem?_range h]
  rfl
def wRng1 (w : WA) : En → XW → (List D → En → Prop) → Prop := fun η X Q => w η X fun as η1 => match as with
  | [.int j] => (-(2 ^ 62) ≤ j ∧ j < 2 ^ 62) ∧ Q (rngD 0 j.toNat) η1
  | _ => False
theorem vi_range1 {ta : TA} {w : WA} (h : VA K W ta w) : VI K W (iRng1 ta) (wRng1 w) := ⟨fun c q hx hq =>
  h.run c q hx fun F1 H1 η1 vs ds s1 c1 r1 q1 => by
    split at q1
    · rename_i j
      cases r1 with
      | cons r1 r2 =>
      cases r1
      cases r2
      obtain ⟨⟨b1, b2⟩, q1⟩ := q1
      refine ⟨j, rfl, b1, b2, hq _ _ _ (rngD 0 j.toNat) _ _ _ s1 c1 (by rw [rngD_len]; exact walk_range (lo := 0) (n := j.toNat)) (fun _ _ _ _ => trivial) (fun i F2 H2 x H3 σ2 η2 hi c2 s2 y => ?_) q1⟩
      obtain ⟨rfl, rfl⟩ := y
      rw [rngD_len] at hi
      exact ⟨F2, _, rngD_at hi, c2, .refl, .int _⟩
    · exact q1.elim⟩
def wRng2 (w : WA) : En → XW → (List D → En → Prop) → Prop := fun η X Q => w η X fun as η1 => match as with
  | [.int i, .int j] => (-(2 ^ 62) ≤ i ∧ i < 2 ^ 62 ∧ -(2 ^ 62) ≤ j ∧ j < 2 ^ 62) ∧ Q (rngD i (j - i).toNat) η1
  | _ => False
theorem vi_range2 {ta : TA} {w : WA} (h : VA K W ta w) : VI K W (iRng2 ta) (wRng2 w) := ⟨fun c q hx hq =>
  h.run c q hx fun F1 H1 η1 vs ds s1 c1 r1 q1 => by
    split at q1
    · rename_i k j
      cases r1 with
      | cons r1 r2 =>
      cases r1
      cases r2 with
      | cons r2 r3 =>
      cases r2
      cases r3
      obtain ⟨b1, q1⟩ := q1
      refine ⟨k, j, rfl, b1, hq _ _ _ (rngD k (j - k).toNat) _ _ _ s1 c1 (by rw [rngD_len]; exact walk_range (lo := k) (n := (j - k).toNat)) (fun _ _ _ _ => trivial) (fun i F2 H2 x H3 σ2 η2 hi c2 s2 y => ?_) q1⟩
      obtain ⟨rfl, rfl⟩ := y
      rw [rngD_len] at hi
      exact ⟨F2, _, rngD_at hi, c2, .refl, .int _⟩
    · exact q1.elim⟩
/-- the items with their places -/
def enD (ds : List D) : List D := ds.zipIdx.map fun p => .tup [.int (p.2 : Int), p.1]
theorem enD_len (ds : List D) : (enD ds).length = ds.length := by unfold enD; rw [List.length_map, List.length_zipIdx]
theorem enD_at {ds : List D} {i : Nat} {d : D} (h : ds[i]? = some d) : (enD ds)[i]? = some (.tup [.int (i : Int), d]) := by
  unfold enD
  rw [List.getElem?_map, List.getElem?_zipIdx, h]
  show some (D.tup [.int ((0 + i : Nat) : Int), d]) = _
  rw [Nat.zero_add]
/-- a new pair of what stands -/
theorem pair_new {F2 H2 : Hp} {σ2 : L2.St} {η2 : En} {T : Addr} {x y : V} {d e : D} (c : Cfg K F2 H2 σ2 η2) (n : H2 T = none) (h1 : Rp K F2 x d) (h2 : Rp K F2 y e) :
    ∃ F3, Cfg K F3 (upd H2 T (.tup [x, y])) σ2 η2 ∧ Stp F2 H2 η2 F3 (upd H2 T (.tup [x, y])) η2 ∧ Rp K F3 (.ref T) (.tup [d, e]) := by
  obtain ⟨c3, s3⟩ := c.new (o := .tup [x, y]) n
  exact ⟨_, c3, s3, .tup upd_same (.cons (h1.same s3.ff) (.cons (h2.same s3.ff) .nil))⟩
def wEnum (b : Bool) (w : WA) : En → XW → (List D → En → Prop) → Prop := fun η X Q => w η X fun as η1 => match as with
  | [d] => match seqD d with
    | some (c, ds) => if c = b then Q (enD ds) η1 else False
    | none => False
  | _ => False
theorem vi_enum {ta : TA} {w : WA} (h : VA K W ta w) : VI K W (iEnum K ta) (wEnum true w) := ⟨fun c q hx hq =>
  h.run c q hx fun F1 H1 η1 vs es s1 c1 r1 q1 => by
    split at q1
    · rename_i d
      cases r1 with
      | cons r1 r2 =>
      cases r2
      split at q1
      · rename_i b ds e
        split at q1
        · rename_i hb
          subst hb
          obtain ⟨a, vs, rfl, h1, _, h3⟩ := r1.seq e
          refine ⟨a, vs, rfl, c1.sub.seq (h1 rfl), hq _ _ _ (enD ds) _ _ _ s1 c1 (by rw [enD_len, ← h3.len]; exact walk_enum (K := K) (a := a) (xs := vs)) (fun F2 H2 s2 s3 => s3.seq (s2.seq (h1 rfl))) (fun i F2 H2 x H3 σ2 η2 hi c2 s2 y => ?_) q1⟩
          obtain ⟨T, x, y, rfl, nT, rfl, e1, e2⟩ := y
          cases e1
          obtain ⟨d2, e3, r2⟩ := h3.get e2
          obtain ⟨F3, c3, s3, r3⟩ := pair_new c2 nT (.int (i : Nat)) (r2.same s2)
          exact ⟨F3, _, enD_at e3, c3, s3, r3⟩
        · exact q1.elim
      · exact q1.elim
    · exact q1.elim⟩
theorem vi_enumT {ta : TA} {w : WA} (h : VA K W ta w) : VI K W (iEnumT K ta) (wEnum false w) := ⟨fun c q hx hq =>
  h.run c q hx fun F1 H1 η1 vs es s1 c1 r1 q1 => by
    split at q1
    · rename_i d
      cases r1 with
      | cons r1 r2 =>
      cases r2
      split at q1
      · rename_i b ds e
        split at q1
        · rename_i hb
          subst hb
          obtain ⟨a, vs, rfl, _, h1, h3⟩ := r1.seq e
          refine ⟨a, vs, rfl, Same.tup c1.sub (h1 rfl), hq _ _ _ (enD ds) _ _ _ s1 c1 (by rw [enD_len, ← h3.len]; exact walk_enumT (K := K) (a := a) (xs := vs)) (fun F2 H2 s2 s3 => Same.tup s3 (Same.tup s2 (h1 rfl))) (fun i F2 H2 x H3 σ2 η2 hi c2 s2 y => ?_) q1⟩
          obtain ⟨T, x, y, rfl, nT, rfl, e1, e2⟩ := y
          cases e1
          obtain ⟨d2, e3, r2⟩ := h3.get e2
          obtain ⟨F3, c3, s3, r3⟩ := pair_new c2 nT (.int (i : Nat)) (r2.same s2)
          exact ⟨F3, _, enD_at e3, c3, s3, r3⟩
        · exact q1.elim
      · exact q1.elim
    · exact q1.elim⟩
def zipD (xs ys : List D) : List D := (xs.zip ys).map fun p => .tup [p.1, p.2]
theorem zipD_len (xs ys : List D) : (zipD xs ys).length = min xs.length ys.length := by unfold zipD; rw [List.length_map, List.length_zip]
theorem zipD_at {xs ys : List D} {i : Nat} {d e : D} (h1 : xs[i]? = some d) (h2 : ys[i]? = some e) : (zipD xs ys)[i]? = some (.tup [d, e]) := by
  unfold zipD
  rw [List.getElem?_map, (List.getElem?_zip_eq_some (z := (d, e))).mpr ⟨h1, h2⟩]
  rfl
theorem walk_zipT {a b : Addr} {xs ys : List V} {n : Nat} (hn : n = min xs.length ys.length) : Walk (ItzT K a b) n (fun H => SqT K H a xs ∧ SqT K H b ys) (YPair (fun i => xs[i]?) (fun i => ys[i]?)) := by
  subst hn
  refine ⟨fun i _ hi q => ?_, fun _ q => ⟨xs, ys, q.1, q.2, by omega⟩, fun i H v H' _ q y => ?_⟩
  · have h1 : i < xs.length := by omega
    have h2 : i < ys.length := by omega
    exact ⟨xs, ys, xs[i], ys[i], q.1, q.2, by simp [h1], by simp [h2]⟩
  · obtain ⟨T, x, z, h1, h2, h3, h4, h5⟩ := y
    exact ⟨T, x, z, h1, h2, h3, h4 xs q.1, h5 ys q.2⟩
def wZip (w : WA) : En → XW → (List D → En → Prop) → Prop := fun η X Q => w η X fun as η1 => match as with
  | [d, e] => match seqD d, seqD e with
    | some (b, xs), some (c, ys) => if b = c then Q (zipD xs ys) η1 else False
    | _, _ => False
  | _ => False
theorem vi_zip {ta : TA} {w : WA} (h : VA K W ta w) : VI K W (iZipA K ta) (wZip w) := ⟨fun c q hx hq =>
  h.run c q hx fun F1 H1 η1 vs es s1 c1 r1 q1 => by
    split at q1
    · rename_i d e
      cases r1 with
      | cons r1 r2 =>
      cases r2 with
      | cons r2 r3 =>
      cases r3
      split at q1
      · rename_i b xs cc ys e1 e2
        split at q1
        · rename_i hb
          subst hb
          obtain ⟨a, vs, rfl, h1, h1', h3⟩ := r1.seq e1
          obtain ⟨a2, vs2, rfl, h4, h4', h6⟩ := r2.seq e2
          have fin : ∀ i F2 H2 x H3 σ2 η2, i < List.length (zipD xs ys) → Cfg K F2 H2 σ2 η2 → Same F1 F2 → YPair (fun i => vs[i]?) (fun i => vs2[i]?) i H2 x H3 → ∃ F3 d, (zipD xs ys)[i]? = some d ∧ Cfg K F3 H3 σ2 η2 ∧ Stp F2 H2 η2 F3 H3 η2 ∧ Rp K F3 x d := fun i F2 H2 x H3 σ2 η2 hi c2 s2 y => by
            obtain ⟨T, x, y, rfl, nT, rfl, e1, e2⟩ := y
            obtain ⟨d2, e3, r2⟩ := h3.get e1
            obtain ⟨d3, e4, r3⟩ := h6.get e2
            obtain ⟨F3, c3, s3, r3⟩ := pair_new c2 nT (r2.same s2) (r3.same s2)
            exact ⟨F3, _, zipD_at e3 e4, c3, s3, r3⟩
          cases b with
          | true => exact ⟨a, a2, vs, vs2, rfl, .inl ⟨c1.sub.seq (h1 rfl), c1.sub.seq (h4 rfl), hq _ _ _ (zipD xs ys) _ _ _ s1 c1 (walk_zip (K := K) (a := a) (b := a2) (xs := vs) (ys := vs2) (by rw [zipD_len, h3.len, h6.len])) (fun F2 H2 s2 s3 => ⟨s3.seq (s2.seq (h1 rfl)), s3.seq (s2.seq (h4 rfl))⟩) fin q1⟩⟩
          | false => exact ⟨a, a2, vs, vs2, rfl, .inr ⟨Same.tup c1.sub (h1' rfl), Same.tup c1.sub (h4' rfl), hq _ _ _ (zipD xs ys) _ _ _ s1 c1 (walk_zipT (K := K) (a := a) (b := a2) (xs := vs) (ys := vs2) (by rw [zipD_len, h3.len, h6.len])) (fun F2 H2 s2 s3 => ⟨Same.tup s3 (Same.tup s2 (h1' rfl)), Same.tup s3 (Same.tup s2 (h4' rfl))⟩) fin q1⟩⟩
        · exact q1.elim
      · exact q1.elim
    · exact q1.elim⟩
/-! ### loops -/
def wFor (wi : En → XW → (List D → En → Prop) → Prop) (wg : D → En → (En → Prop) → Prop) (wb : WS) : WS := fun E X η => wi η X fun ds η1 => ∃ I : Nat → En → Prop, I 0 η1 ∧
  (∀ i d η2, ds[i]? = some d → I i η2 → wg d η2 fun η3 => wb { E with nx := I (i + 1), ct := I (i + 1), bk := E.nx } X η3) ∧ ∀ η2, I ds.length η2 → E.nx η2
theorem vs_for {wi : TI} {g : TG} {tb : TS} {is : List Nat} {ww : En → XW → (List D → En → Prop) → Prop} {wg : D → En → (En → Prop) → Prop} {wb : WS} (hi : VI K W wi ww) (hg : VG K is g wg) (hb : VS K W tb wb) : VS K W (tFor wi g tb) (wFor ww wg wb) := ⟨fun {F H σ η E X Dd} c q k =>
  hi.run c q k.out fun F1 H1 η1 ds J G Y s1 c1 wk stay yld ⟨I, i0, tn, fin⟩ => by
    refine for_it wk (fun i σ2 H2 => ∃ F2 η2, Stp F H η F2 H2 η2 ∧ Cfg K F2 H2 σ2 η2 ∧ Same F1 F2 ∧ I i η2) ⟨F1, η1, s1, c1, Same.refl _, i0⟩ (fun i σ2 H2 _ ⟨F2, η2, _, c2, s2, _⟩ => stay F2 H2 s2 c2.sub) ?_ ?_
    · rintro i x σ2 H2 H3 lt ⟨F2, η2, s2, c2, f2, w2⟩ y
      obtain ⟨F3, d, e, c3, s3, r3⟩ := yld i F2 H2 x H3 σ2 η2 lt c2 f2 y
      refine hg.run c3 r3 (tn i d η2 e w2) fun σ4 η4 _ s4 c4 q4 => hb.run c4 q4 ?_
      have s04 := (s2.trans s3).trans s4
      have k4 := k.on s04
      have nx : ∀ F' H' σ' η', Stp F3 H3 η4 F' H' η' → Cfg K F' H' σ' η' → I (i + 1) η' → ∃ F2 η2, Stp F H η F2 H' η2 ∧ Cfg K F2 H' σ' η2 ∧ Same F1 F2 ∧ I (i + 1) η2 := fun F' H' σ' η' s c w => ⟨F', η', s04.trans s, c, (f2.trans s3.ff).trans s.ff, w⟩
      exact ⟨nx, k4.rt, k4.nx, nx, k4.ox⟩
    · rintro σ2 H2 ⟨F2, η2, s2, c2, _, w2⟩
      exact k.nx _ _ _ _ s2 c2 (fin η2 w2)⟩
def wWhile (wc : WB) (wb : WS) : WS := fun E X η => ∃ (I : En → Prop) (μ : En → Nat), I η ∧ ∀ η1, I η1 → wc η1 X fun b η2 => if b = true then wb { E with nx := fun η3 => I η3 ∧ μ η3 < μ η1, ct := fun η3 => I η3 ∧ μ η3 < μ η1, bk := E.nx } X η2 else E.nx η2
theorem vs_while {tc : TT} {tb : TS} {wc : WB} {wb : WS} (hc : VT K W tc wc) (hb : VS K W tb wb) : VS K W (tWhile tc tb) (wWhile wc wb) := ⟨fun {F H σ η E X Dd} c ⟨I, μ, i0, tn⟩ k => by
  refine ⟨fun m σ2 H2 => ∃ F2 η2, Stp F H η F2 H2 η2 ∧ Cfg K F2 H2 σ2 η2 ∧ I η2 ∧ μ η2 = m, ⟨_, F, η, .refl, c, i0, rfl⟩, ?_⟩
  rintro m σ2 H2 ⟨F2, η2, s2, c2, w2, rfl⟩
  refine hc.run c2 (tn η2 w2) (k.on s2).out fun F3 H3 η3 b s3 c3 q3 => ?_
  have k3 := k.on (s2.trans s3)
  cases b with
  | true =>
    have q3 : wb _ X η3 := q3
    refine ⟨fun σ' H' => ∃ F' η', Stp F H η F' H' η' ∧ Cfg K F' H' σ' η' ∧ I η' ∧ μ η' < μ η2, fun σ' H' ⟨F', η', s', c', w', l'⟩ => ⟨_, l', F', η', s', c', w', rfl⟩, hb.run c3 q3 ?_⟩
    have nx : ∀ F' H' σ' η', Stp F3 H3 η3 F' H' η' → Cfg K F' H' σ' η' → (I η' ∧ μ η' < μ η2) → ∃ F' η', Stp F H η F' H' η' ∧ Cfg K F' H' σ' η' ∧ I η' ∧ μ η' < μ η2 := fun F' H' σ' η' s c w => ⟨F', η', (s2.trans s3).trans s, c, w.1, w.2⟩
    exact ⟨nx, k3.rt, k3.nx, nx, k3.ox⟩
  | false => exact k3.nx _ _ _ _ .refl c3 q3⟩
/-! ### comprehensions -/
def wipeE (η : En) : List Nat → En
  | [] => η
  | i :: is => (wipeE η is).set i .no
theorem wipeE_at (η : En) (j : Nat) : ∀ is : List Nat, (wipeE η is)[j]? = if j ∈ is ∧ j < η.length then some .no else η[j]?
  | [] => by
    rw [if_neg (fun h => by cases h.1)]
    rfl
  | i :: is => by
    have len : (wipeE η is).length = η.length := by
      induction is with
      | nil => rfl
      | cons k is ih => show ((wipeE η is).set k .no).length = _; rw [List.length_set, ih]
    show ((wipeE η is).set i .no)[j]? = _
    by_cases e : i = j
    · subst e
      rw [List.getElem?_set, if_pos rfl, len]
      by_cases l : i < η.length
      · rw [if_pos l, if_pos ⟨List.mem_cons_self, l⟩]
      · rw [if_neg l, if_neg (fun h => l h.2), List.getElem?_eq_none (by omega)]
    · rw [List.getElem?_set, if_neg e, wipeE_at η j is]
      have : (j ∈ i :: is) ↔ j ∈ is := ⟨fun h => (List.mem_cons.mp h).elim (fun z => absurd z.symm e) id, fun h => List.mem_cons_of_mem _ h⟩
      by_cases h : j ∈ is ∧ j < η.length
      · rw [if_pos h, if_pos ⟨this.mpr h.1, h.2⟩]
      · rw [if_neg h, if_neg (fun z => h ⟨this.mp z.1, z.2⟩)]
theorem wipeE_len (η : En) : ∀ is : List Nat, (wipeE η is).length = η.length
  | [] => rfl
  | i :: is => by show ((wipeE η is).set i .no).length = _; rw [List.length_set, wipeE_len η is]
theorem wipeE_some {η : En} {is : List Nat} {j : Nat} {s : Sl} (h : (wipeE η is)[j]? = some s) (n : s ≠ .no) : j ∉ is ∧ η[j]? = some s := by
  rw [wipeE_at] at h
  split at h
  · cases h; exact absurd rfl n
  · rename_i hn
    refine ⟨fun m => hn ⟨m, ?_⟩, h⟩
    exact (List.getElem?_eq_some_iff.mp h).1
/-- the block's own names forgotten; and back to the slots outside -/
theorem Cfg.wipe {F H : Hp} {σ σ' : L2.St} {η : En} {is : List Nat} (c : Cfg K F H σ η) (e : L2.wipe σ' is = L2.wipe σ is) : Cfg K F H σ' (wipeE η is) := by
  refine ⟨c.sub, by rw [wipeE_len, c.len, wipe_len_eq e], fun i d h => ?_, fun i q o h => ?_, fun i j q o u h1 h2 => ?_⟩
  · obtain ⟨n, h⟩ := wipeE_some h (fun z => nomatch z)
    rw [wipe_out e n]
    exact c.fz i d h
  · obtain ⟨n, h⟩ := wipeE_some h (fun z => nomatch z)
    rw [wipe_out e n]
    exact c.ow i q o h
  · exact c.ne i j q o u (wipeE_some h1 (fun z => nomatch z)).2 (wipeE_some h2 (fun z => nomatch z)).2
theorem Stp.wipe {F H : Hp} {η : En} {is : List Nat} : Stp F H η F H (wipeE η is) := ⟨fun _ _ e => e, fun _ _ _ => ⟨rfl, rfl⟩, fun _ e => e, fun a ⟨j, o, h⟩ => .inl ⟨j, o, (wipeE_some h (fun z => nomatch z)).2⟩⟩
theorem wipe_wipe (σ : L2.St) (is : List Nat) : L2.wipe (L2.wipe σ is) is = L2.wipe σ is := wipe_of (wipe_length _ _) fun j hj => by rw [wipe_at, if_neg (fun z => hj z.1)]
def noX : XW := fun _ _ _ => False
def wLc (wi : En → XW → (List D → En → Prop) → Prop) (wg : D → En → (En → Prop) → Prop) (wt : WB) (we : WD) (is : List Nat) : En → XW → (OB → En → Prop) → Prop := fun η X Q => wi η X fun ds η1 => ∃ I : Nat → List D → En → Prop, I 0 [] η1 ∧
  (∀ i d acc η2, ds[i]? = some d → I i acc η2 → wg d (wipeE η2 is) fun η3 => wt η3 noX fun b η4 => if b = true then we η4 noX fun y η5 => acc.length < 1000000 ∧ I (i + 1) (acc ++ [y]) (wipeE η5 is) else I (i + 1) acc (wipeE η4 is)) ∧
  ∀ acc η2, I ds.length acc η2 → Q (.lst acc) η2
/-- a thing that nobody holds is written -/
theorem Cfg.other {F H : Hp} {σ : L2.St} {η : En} {p : Addr} {o : HO} (c : Cfg K F H σ η) (nF : F p = none) (no : ¬ Own η p) : Cfg K F (upd H p o) σ η :=
  c.grow (fun _ _ e => e) (fun a u e => by
    have ne : a ≠ p := fun z => by rw [z, nF] at e; cases e
    rw [upd_ne ne]; exact c.sub _ _ e) fun q hq => ⟨upd_ne fun z => no (by rw [← z]; exact hq), (c.own hq).1⟩
theorem vf_lc {wi : TI} {g : TG} {tt : TT} {te : TE} {vs is : List Nat} {ww : En → XW → (List D → En → Prop) → Prop} {wg : D → En → (En → Prop) → Prop} {wt : WB} {we : WD} (hi : VI K W wi ww) (hg : VG K is g wg) (ht : VT K (fun _ _ _ _ => True) tt wt) (he : VE K (fun _ _ _ _ => True) te we) (hv : vs = is) :
    VF K W (tLc wi g tt te vs) (wLc ww wg wt we is) := ⟨fun {F H σ η X Q R} c q hx hq =>
  hi.run c q hx fun F1 H1 η1 ds J G Y s1 c1 wk stay yld ⟨I, i0, tn, fin⟩ => by
    subst hv
    intro Dl nD
    have nF1 : F1 Dl = none := by
      cases e : F1 Dl with
      | none => rfl
      | some u => have := c1.sub _ _ e; rw [nD] at this; cases this
    have no1 : ¬ Own η1 Dl := c1.unown nD
    have ox : ∀ {F H σ η}, OutX K (fun _ _ _ _ => True) F H σ η noX := fun _ _ _ _ _ _ _ _ _ _ _ _ _ => trivial
    refine lc_it wk (fun i H2 => ∃ F2 η2 acc zs, Stp F1 H1 η1 F2 H2 η2 ∧ Cfg K F2 H2 σ η2 ∧ Same F1 F2 ∧ H2 Dl = some (.lst zs) ∧ F2 Dl = none ∧ ¬ Own η2 Dl ∧ RpL K F2 zs acc ∧ I i acc η2) ?_ ?_ ?_ ?_
    · obtain ⟨c2, s2, _⟩ := c1.lay (o := .lst []) nD
      exact ⟨F1, η1, [], [], s2, c2, Same.refl _, upd_same, nF1, no1, .nil, i0⟩
    · rintro i H2 _ ⟨F2, η2, acc, zs, _, c2, f2, _⟩
      exact stay F2 H2 f2 c2.sub
    · rintro i x H2 H3 lt ⟨F2, η2, acc, zs, s2, c2, f2, hD, nF, no, ra, w2⟩ y
      have cw := c2.wipe (σ' := L2.wipe σ vs) (wipe_wipe σ vs)
      obtain ⟨F3, d, e, c3, s3, r3⟩ := yld i F2 H2 x H3 _ _ lt cw f2 y
      have nH : H2 Dl ≠ none := by rw [hD]; simp
      have s2w := s2.trans (Stp.wipe (is := vs))
      have now : ¬ Own (wipeE η2 vs) Dl := fun ⟨j, o, h⟩ => no ⟨j, o, (wipeE_some h (fun z => nomatch z)).2⟩
      -- what stays of the list that is made
      have keep : ∀ {F' H' η'}, Stp F2 H2 (wipeE η2 vs) F' H' η' → H' Dl = some (.lst zs) ∧ F' Dl = none ∧ ¬ Own η' Dl := fun {F' H' η'} s => by
        obtain ⟨e1, e2⟩ := s.fr Dl nH now
        exact ⟨e1.trans hD, e2.trans nF, fun o => (s.ow Dl o).elim now nH⟩
      refine hg.run c3 r3 (tn i d acc η2 e w2) fun σ4 η4 ew s4 c4 q4 => ⟨ew.trans (wipe_wipe σ vs), ?_⟩
      have es : L2.wipe σ vs = L2.wipe σ4 vs := (ew.trans (wipe_wipe σ vs)).symm
      refine ht.run c4 q4 ox fun F5 H5 η5 b s5 c5 q5 => ?_
      have s25 := (s3.trans s4).trans s5
      cases b with
      | false =>
        obtain ⟨k1, k2, k3⟩ := keep s25
        refine ⟨F5, wipeE η5 vs, acc, zs, (s2w.trans s25).trans Stp.wipe, c5.wipe es, f2.trans s25.ff, k1, k2, ?_, ra.same s25.ff, q5⟩
        exact fun ⟨j, o, h⟩ => k3 ⟨j, o, (wipeE_some h (fun z => nomatch z)).2⟩
      | true =>
        have q5 : we η5 noX _ := q5
        refine he.run c5 q5 ox fun F6 H6 η6 v y s6 c6 r6 q6 => ?_
        have s26 := s25.trans s6
        obtain ⟨k1, k2, k3⟩ := keep s26
        have k3' : ¬ Own (wipeE η6 vs) Dl := fun ⟨j, o, h⟩ => k3 ⟨j, o, (wipeE_some h (fun z => nomatch z)).2⟩
        refine ⟨zs, k1, by rw [ra.len, sizeLine_eq]; have := q6.1; omega, F6, wipeE η6 vs, acc ++ [y], zs ++ [v], ?_, (c6.wipe es).other k2 k3', f2.trans s26.ff, upd_same, k2, k3', (ra.same s26.ff).app (.cons r6 .nil), q6.2⟩
        have sA := (s2w.trans s26).trans (Stp.wipe (is := vs))
        refine ⟨sA.ff, fun a ha na => ?_, fun a ha => ?_, sA.ow⟩
        · have ne : a ≠ Dl := fun z => ha (by rw [z]; exact nD)
          rw [upd_ne ne]
          exact sA.fr a ha na
        · have ne : a ≠ Dl := fun z => ha (by rw [z]; exact nD)
          rw [upd_ne ne]
          exact sA.dm a ha
    · rintro H2 ⟨F2, η2, acc, zs, s2, c2, _, hD, nF, no, ra, w2⟩
      exact hq _ _ _ Dl _ (.lst acc) (s1.trans s2) c2 nF no (.inl (s1.back nD)) hD (.lst ra) (fin acc η2 w2)⟩
theorem vt_yes : VT K W tYes (fun η _ Q => Q true η) := ⟨fun c q _ hq => hq _ _ _ _ .refl c q⟩
end
end Tw

namespace Tw
open PySem PySem.Spec PyProof.Rows L2

/-! ### data that == compares -/
mutual
def D.p : D → PyData
  | .non => .none
  | .bl b => .bool b
  | .int i => .int i
  | .str x => .str x
  | .lst ds => .list (D.ps ds)
  | .tup ds => .tuple (D.ps ds)
  | .ktup ds => .tuple (D.ps ds)
  | .scr ns => .list (ns.map PyData.int)
  | .ins _ _ => .none
  | .dic _ => .none
  | .cls _ => .none
  | .exc _ _ _ _ => .none
def D.ps : List D → List PyData
  | [] => []
  | d :: ds => D.p d :: D.ps ds
end
mutual
/-- no own objects within -/
def D.ok : D → Bool
  | .lst ds => D.oks ds
  | .tup ds => D.oks ds
  | .ktup ds => D.oks ds
  | .ins _ _ => false
  | .dic _ => false
  | .cls _ => false
  | .exc _ _ _ _ => false
  | _ => true
def D.oks : List D → Bool
  | [] => true
  | d :: ds => D.ok d && D.oks ds
end
theorem D.ps_map (ds : List D) : D.ps ds = ds.map D.p := by
  induction ds with
  | nil => rfl
  | cons d ds ih => show D.p d :: D.ps ds = _; rw [ih]; rfl
theorem D.oks_all {ds : List D} : D.oks ds = true ↔ ∀ d ∈ ds, D.ok d = true := by
  induction ds with
  | nil => exact ⟨fun _ d h => (by cases h), fun _ => rfl⟩
  | cons d ds ih =>
    show (D.ok d && D.oks ds) = true ↔ _
    rw [Bool.and_eq_true, ih]
    constructor
    · rintro ⟨h1, h2⟩ x hx
      rcases List.mem_cons.mp hx with rfl | hx
      · exact h1
      · exact h2 x hx
    · intro h
      exact ⟨h d List.mem_cons_self, fun x hx => h x (List.mem_cons_of_mem _ hx)⟩
section
variable {K : PySem.W.Frag} {W : WX}
theorem dp_ints {H : Hp} : ∀ {ns : List Int}, DpAll K H (ns.map V.int) (ns.map PyData.int)
  | [] => .nil
  | n :: _ => .cons (.int n) dp_ints
mutual
theorem Rp.dp {F : Hp} : ∀ {d : D} {v : V}, Rp K F v d → D.ok d = true → Dp K F v (D.p d)
  | .non, _, .non, _ => .non
  | .bl _, _, .bl b, _ => .bl b
  | .int _, _, .int i, _ => .int i
  | .str _, _, .str x, _ => .str x
  | .lst ds, _, .lst h r, e => .lst (SqL.of h) (RpL.dp r e)
  | .scr ns, _, .scr h, e => .lst h dp_ints
  | .tup ds, _, .tup h r, e => .tup (SqT.of h) (RpL.dp r e)
  | .ktup ds, _, .ktup h r, e => .tup h (RpL.dp r e)
  | .ins _ _, _, .ins h r, e => by cases e
  | .dic _, _, .dic h r, e => by cases e
  | .cls _, _, .cls C, e => by cases e
  | .exc _ _ _ _, _, .exc h r, e => by cases e
theorem RpL.dp {F : Hp} : ∀ {ds : List D} {vs : List V}, RpL K F vs ds → D.oks ds = true → DpAll K F vs (D.ps ds)
  | [], _, .nil, _ => .nil
  | d :: ds, _, .cons h r, e => by
    have e' : (D.ok d && D.oks ds) = true := e
    rw [Bool.and_eq_true] at e'
    exact .cons (Rp.dp h e'.1) (RpL.dp r e'.2)
end
/-- a handle's data, as it stands -/
def hdD (h : Hd) (η : En) : Option D := match h with
  | .val d => some d
  | .own i => match η[i]? with
    | some (.ow _ o) => some o.d
    | _ => none
/-- .. held by value at the heap as it is -/
theorem HdAt.rp {F H : Hp} {σ : L2.St} {η : En} {v : V} {h : Hd} {d : D} (c : Cfg K F H σ η) (r : HdAt K F σ v h) (e : hdD h η = some d) : Rp K H v d := by
  cases h with
  | val d' => cases e; exact Rp.same c.sub r
  | own i =>
    unfold hdD at e
    dsimp only at e
    split at e
    · rename_i q o he
      cases e
      obtain ⟨h1, h2, u, h3, h4⟩ := c.ow i q o he
      have r : σ[i]? = some (some v) := r
      rw [h1] at r
      cases r
      cases h4 with
      | lst h4 => exact .lst h3 (h4.same c.sub)
      | ins h4 => exact .ins h3 (h4.same c.sub)
      | dic h4 => exact .dic h3 (h4.same c.sub)
    · cases e
/-! ### == -/
def eqS : D → D → Option Bool
  | .int i, .int j => some (decide (i = j))
  | .str x, .str y => some (decide (x = y))
  | .bl a, .bl b => some (decide (a = b))
  | .non, .non => some true
  | .non, .int _ => some false
  | .int _, .non => some false
  | .non, .str _ => some false
  | .str _, .non => some false
  | .non, .bl _ => some false
  | .bl _, .non => some false
  | .int _, .str _ => some false
  | .str _, .int _ => some false
  | .bl _, .str _ => some false
  | .str _, .bl _ => some false
  | _, _ => none
theorem dI (i j : Int) : decide (V.int i = V.int j) = decide (i = j) := by
  by_cases h : i = j
  · rw [h, decide_eq_true rfl, decide_eq_true rfl]
  · rw [decide_eq_false h, decide_eq_false (fun z => h (by injection z))]
theorem dS (i j : Str) : decide (V.str i = V.str j) = decide (i = j) := by
  by_cases h : i = j
  · rw [h, decide_eq_true rfl, decide_eq_true rfl]
  · rw [decide_eq_false h, decide_eq_false (fun z => h (by injection z))]
theorem dB (i j : Bool) : decide (V.bl i = V.bl j) = decide (i = j) := by cases i <;> cases j <;> rfl
theorem eqS_at {F : Hp} {x y : V} {d e : D} {b : Bool} (r1 : Rp K F x d) (r2 : Rp K F y e) (h : eqS d e = some b) : scal x y = true ∧ decide (x = y) = b := by
  cases r1 <;> cases r2 <;> first | (cases h; done) | (cases h; first | exact ⟨rfl, dI _ _⟩ | exact ⟨rfl, dS _ _⟩ | exact ⟨rfl, dB _ _⟩ | exact ⟨rfl, rfl⟩)
def wEq (wa wb : WD) : WD := wOp (fun x y Q => match eqS x y with
  | some b => Q (.bl b)
  | none => False) wa wb
def wNe (wa wb : WD) : WD := wOp (fun x y Q => match eqS x y with
  | some b => Q (.bl (!b))
  | none => False) wa wb
theorem ve_eq {ta tb : TE} {wa wb : WD} (ha : VE K W ta wa) (hb : VE K W tb wb) : VE K W (tOp rEq ta tb) (wEq wa wb) := ve_op ha hb ⟨fun c r1 r2 w k => by
  split at w
  · rename_i b e
    obtain ⟨h1, h2⟩ := eqS_at r1 r2 e
    exact ⟨h1, by rw [h2]; exact k _ _ _ _ .refl c (.bl b) w⟩
  · exact w.elim⟩
theorem ve_ne {ta tb : TE} {wa wb : WD} (ha : VE K W ta wa) (hb : VE K W tb wb) : VE K W (tOp rNe ta tb) (wNe wa wb) := ve_op ha hb ⟨fun c r1 r2 w k => by
  split at w
  · rename_i b e
    obtain ⟨h1, h2⟩ := eqS_at r1 r2 e
    exact ⟨h1, by rw [h2]; exact k _ _ _ _ .refl c (.bl _) w⟩
  · exact w.elim⟩
/-- data of lists and tuples -/
def DOk (d : D) : Prop := D.ok d = true ∧ SeqAt.shaped d.p = true
def wEqD (wa wb : En → XW → (Hd → En → Prop) → Prop) : WD := fun η X Q => wa η X fun h η1 => wb η1 X fun g η2 => match hdD h η2, hdD g η2 with
  | some x, some y => (DOk x ∧ DOk y) ∧ Q (.bl (PyData.eqv x.p y.p)) η2
  | _, _ => False
def wNeD (wa wb : En → XW → (Hd → En → Prop) → Prop) : WD := fun η X Q => wa η X fun h η1 => wb η1 X fun g η2 => match hdD h η2, hdD g η2 with
  | some x, some y => (DOk x ∧ DOk y) ∧ Q (.bl (!PyData.eqv x.p y.p)) η2
  | _, _ => False
theorem ve_eqD {ta tb : TE} {wa wb : En → XW → (Hd → En → Prop) → Prop} (ha : VB K W ta wa) (hb : VB K W tb wb) : VE K W (tOp (rEqD K) ta tb) (wEqD wa wb) := ⟨fun c q hx hq =>
  ha.run c q hx fun _ _ _ x h s1 c1 r1 q1 => hb.run c1 q1 (hx.on s1) fun _ _ _ y g s2 c2 r2 q2 => by
    split at q2
    · rename_i d e e1 e2
      obtain ⟨⟨⟨o1, p1⟩, o2, p2⟩, q2⟩ := q2
      exact ⟨_, _, ((r1.same s2.ff).rp c2 e1).dp o1, (r2.rp c2 e2).dp o2, p1, p2, hq _ _ _ _ _ (s1.trans s2) c2 (.bl _) q2⟩
    · exact q2.elim⟩
theorem ve_neD {ta tb : TE} {wa wb : En → XW → (Hd → En → Prop) → Prop} (ha : VB K W ta wa) (hb : VB K W tb wb) : VE K W (tOp (rNeD K) ta tb) (wNeD wa wb) := ⟨fun c q hx hq =>
  ha.run c q hx fun _ _ _ x h s1 c1 r1 q1 => hb.run c1 q1 (hx.on s1) fun _ _ _ y g s2 c2 r2 q2 => by
    split at q2
    · rename_i d e e1 e2
      obtain ⟨⟨⟨o1, p1⟩, o2, p2⟩, q2⟩ := q2
      exact ⟨_, _, ((r1.same s2.ff).rp c2 e1).dp o1, (r2.rp c2 e2).dp o2, p1, p2, hq _ _ _ _ _ (s1.trans s2) c2 (.bl _) q2⟩
    · exact q2.elim⟩
/-- == of scalars or of data -/
def EqX (x y : D) (b : Bool) : Prop := eqS x y = some b ∨ (DOk x ∧ DOk y ∧ b = PyData.eqv x.p y.p)
def wEqX (wa wb : En → XW → (Hd → En → Prop) → Prop) : WD := fun η X Q => wa η X fun h η1 => wb η1 X fun g η2 => match hdD h η2, hdD g η2 with
  | some x, some y => ∃ b, EqX x y b ∧ Q (.bl b) η2
  | _, _ => False
def wNeX (wa wb : En → XW → (Hd → En → Prop) → Prop) : WD := fun η X Q => wa η X fun h η1 => wb η1 X fun g η2 => match hdD h η2, hdD g η2 with
  | some x, some y => ∃ b, EqX x y b ∧ Q (.bl (!b)) η2
  | _, _ => False
theorem ve_eqX {ta tb : TE} {wa wb : En → XW → (Hd → En → Prop) → Prop} (ha : VB K W ta wa) (hb : VB K W tb wb) : VE K W (tOp (fun x y H Q => rEqD K x y H Q ∨ rEq x y H Q) ta tb) (wEqX wa wb) := ⟨fun c q hx hq =>
  ha.run c q hx fun _ _ _ x h s1 c1 r1 q1 => hb.run c1 q1 (hx.on s1) fun _ _ _ y g s2 c2 r2 q2 => by
    split at q2
    · rename_i d e e1 e2
      obtain ⟨b, ex, q2⟩ := q2
      have a1 := (r1.same s2.ff).rp c2 e1
      have a2 := r2.rp c2 e2
      rcases ex with ex | ⟨⟨o1, p1⟩, ⟨o2, p2⟩, rfl⟩
      · obtain ⟨h1, h2⟩ := eqS_at a1 a2 ex
        exact .inr ⟨h1, by rw [h2]; exact hq _ _ _ _ _ (s1.trans s2) c2 (.bl b) q2⟩
      · exact .inl ⟨_, _, a1.dp o1, a2.dp o2, p1, p2, hq _ _ _ _ _ (s1.trans s2) c2 (.bl _) q2⟩
    · exact q2.elim⟩
theorem ve_neX {ta tb : TE} {wa wb : En → XW → (Hd → En → Prop) → Prop} (ha : VB K W ta wa) (hb : VB K W tb wb) : VE K W (tOp (fun x y H Q => rNeD K x y H Q ∨ rNe x y H Q) ta tb) (wNeX wa wb) := ⟨fun c q hx hq =>
  ha.run c q hx fun _ _ _ x h s1 c1 r1 q1 => hb.run c1 q1 (hx.on s1) fun _ _ _ y g s2 c2 r2 q2 => by
    split at q2
    · rename_i d e e1 e2
      obtain ⟨b, ex, q2⟩ := q2
      have a1 := (r1.same s2.ff).rp c2 e1
      have a2 := r2.rp c2 e2
      rcases ex with ex | ⟨⟨o1, p1⟩, ⟨o2, p2⟩, rfl⟩
      · obtain ⟨h1, h2⟩ := eqS_at a1 a2 ex
        exact .inr ⟨h1, by rw [h2]; exact hq _ _ _ _ _ (s1.trans s2) c2 (.bl _) q2⟩
      · exact .inl ⟨_, _, a1.dp o1, a2.dp o2, p1, p2, hq _ _ _ _ _ (s1.trans s2) c2 (.bl _) q2⟩
    · exact q2.elim⟩
/-! ### in: ints, texts -/
theorem inV_ints (i : Int) (ns : List Int) : inV (.int i) (ns.map V.int) = decide (i ∈ ns) := by
  unfold inV
  rw [List.any_map]
  induction ns with
  | nil => rfl
  | cons n ns ih =>
    rw [List.any_cons, ih]
    show ((n == i) || _) = _
    by_cases h : i = n
    · subst h; simp
    · by_cases h2 : i ∈ ns
      · simp [h2]
      · simp [h, h2]; exact fun z => h z.symm
theorem inV_strs (i : Str) (ns : List Str) : inV (.str i) (ns.map V.str) = decide (i ∈ ns) := by
  unfold inV
  rw [List.any_map]
  induction ns with
  | nil => rfl
  | cons n ns ih =>
    rw [List.any_cons, ih]
    show ((n == i) || _) = _
    by_cases h : i = n
    · subst h; simp
    · by_cases h2 : i ∈ ns
      · simp [h2]
      · simp [h, h2]; exact fun z => h z.symm
theorem RpL.strs {F : Hp} : ∀ {vs : List V} {ns : List Str}, RpL K F vs (ns.map D.str) → vs = ns.map V.str
  | _, [], .nil => rfl
  | _, _ :: _, .cons (.str _) r => congrArg (V.str _ :: ·) (RpL.strs r)
theorem flat_map {α : Type} {f : α → V} (h : ∀ a, flatV (f a) = true) (ns : List α) : (ns.map f).all flatV = true := by
  rw [List.all_map, List.all_eq_true]
  intro a _
  exact h a
def wIn (wa : WD) (wb : En → XW → (Hd → En → Prop) → Prop) : WD := fun η X Q => wa η X fun x η1 => wb η1 X fun g η2 => match seqAt g η2, x with
  | some (_, ds), .int i => ∃ ns : List Int, ds = ns.map D.int ∧ Q (.bl (decide (i ∈ ns))) η2
  | some (_, ds), .str i => ∃ ns : List Str, ds = ns.map D.str ∧ Q (.bl (decide (i ∈ ns))) η2
  | _, _ => False
theorem ve_in {ta tb : TE} {wa : WD} {wb : En → XW → (Hd → En → Prop) → Prop} (ha : VE K W ta wa) (hb : VB K W tb wb) : VE K W (tOp (rIn K false) ta tb) (wIn wa wb) := ⟨fun c q hx hq =>
  ha.run c q hx fun _ _ _ x d s1 c1 r1 q1 => hb.run c1 q1 (hx.on s1) fun _ _ _ y g s2 c2 r2 q2 => by
    have sq : ∀ {b : Bool} {ds : List D}, seqAt g _ = some (b, ds) → _ := fun {b ds} e => r2.seq c2 e
    split at q2
    · rename_i b ds i e
      obtain ⟨ns, rfl, q2⟩ := q2
      cases r1
      obtain ⟨a, vs, rfl, h1, h2, h3⟩ := sq e
      rw [h3.ints] at h1 h2
      refine ⟨a, ns.map V.int, rfl, ?_, rfl, flat_map (fun _ => rfl) ns, ?_⟩
      · cases b with
        | true => exact .inl (h1 rfl)
        | false => exact .inr (h2 rfl)
      · show _
        rw [if_neg (by decide), inV_ints]
        exact hq _ _ _ _ _ (s1.trans s2) c2 (.bl _) q2
    · rename_i b ds i e
      obtain ⟨ns, rfl, q2⟩ := q2
      cases r1
      obtain ⟨a, vs, rfl, h1, h2, h3⟩ := sq e
      rw [h3.strs] at h1 h2
      refine ⟨a, ns.map V.str, rfl, ?_, rfl, flat_map (fun _ => rfl) ns, ?_⟩
      · cases b with
        | true => exact .inl (h1 rfl)
        | false => exact .inr (h2 rfl)
      · show _
        rw [if_neg (by decide), inV_strs]
        exact hq _ _ _ _ _ (s1.trans s2) c2 (.bl _) q2
    · exact q2.elim⟩
def wNin (wa : WD) (wb : En → XW → (Hd → En → Prop) → Prop) : WD := fun η X Q => wa η X fun x η1 => wb η1 X fun g η2 => match seqAt g η2, x with
  | some (_, ds), .int i => ∃ ns : List Int, ds = ns.map D.int ∧ Q (.bl (!decide (i ∈ ns))) η2
  | some (_, ds), .str i => ∃ ns : List Str, ds = ns.map D.str ∧ Q (.bl (!decide (i ∈ ns))) η2
  | _, _ => False
theorem ve_nin {ta tb : TE} {wa : WD} {wb : En → XW → (Hd → En → Prop) → Prop} (ha : VE K W ta wa) (hb : VB K W tb wb) : VE K W (tOp (rIn K true) ta tb) (wNin wa wb) := ⟨fun c q hx hq =>
  ha.run c q hx fun _ _ _ x d s1 c1 r1 q1 => hb.run c1 q1 (hx.on s1) fun _ _ _ y g s2 c2 r2 q2 => by
    have sq : ∀ {b : Bool} {ds : List D}, seqAt g _ = some (b, ds) → _ := fun {b ds} e => r2.seq c2 e
    split at q2
    · rename_i b ds i e
      obtain ⟨ns, rfl, q2⟩ := q2
      cases r1
      obtain ⟨a, vs, rfl, h1, h2, h3⟩ := sq e
      rw [h3.ints] at h1 h2
      refine ⟨a, ns.map V.int, rfl, ?_, rfl, flat_map (fun _ => rfl) ns, ?_⟩
      · cases b with
        | true => exact .inl (h1 rfl)
        | false => exact .inr (h2 rfl)
      · show _
        rw [if_pos rfl, inV_ints]
        exact hq _ _ _ _ _ (s1.trans s2) c2 (.bl _) q2
    · rename_i b ds i e
      obtain ⟨ns, rfl, q2⟩ := q2
      cases r1
      obtain ⟨a, vs, rfl, h1, h2, h3⟩ := sq e
      rw [h3.strs] at h1 h2
      refine ⟨a, ns.map V.str, rfl, ?_, rfl, flat_map (fun _ => rfl) ns, ?_⟩
      · cases b with
        | true => exact .inl (h1 rfl)
        | false => exact .inr (h2 rfl)
      · show _
        rw [if_pos rfl, inV_strs]
        exact hq _ _ _ _ _ (s1.trans s2) c2 (.bl _) q2
    · exact q2.elim⟩
/-! ### new lists -/
/-- a tracked list, by its handle -/
def lstAt (h : Hd) (η : En) : Option (List D) := match h with
  | .val (.lst ds) => some ds
  | .own i => match η[i]? with
    | some (.ow _ (.lst ds)) => some ds
    | _ => none
  | _ => none
theorem HdAt.lst {F H : Hp} {σ : L2.St} {η : En} {v : V} {h : Hd} {ds : List D} (c : Cfg K F H σ η) (r : HdAt K F σ v h) (e : lstAt h η = some ds) : ∃ a vs, v = .ref a ∧ H a = some (.lst vs) ∧ RpL K F vs ds := by
  cases h with
  | val d =>
    cases r with
    | lst ha hr => cases e; exact ⟨_, _, rfl, c.sub _ _ ha, hr⟩
    | _ => cases e
  | own i =>
    unfold lstAt at e
    dsimp only at e
    split at e
    · rename_i q es he
      cases e
      obtain ⟨h1, h2, u, h3, h4⟩ := c.ow i q _ he
      have r : σ[i]? = some (some v) := r
      rw [h1] at r
      cases r
      cases h4 with
      | lst h4 => exact ⟨q, _, rfl, h3, h4⟩
    · cases e
abbrev WF := En → XW → (OB → En → Prop) → Prop
abbrev WH := En → XW → (Hd → En → Prop) → Prop
/-- a new list comes of it -/
theorem laid_new {F H F1 H1 : Hp} {σ : L2.St} {η η1 : En} {vs : List V} {ds : List D} {Q : OB → En → Prop} {R : VK} (s1 : Stp F H η F1 H1 η1) (c1 : Cfg K F1 H1 σ η1) (r : RpL K F1 vs ds) (q : Q (.lst ds) η1)
    (hq : ∀ F' H' η' q h o, Stp F H η F' H' η' → Cfg K F' H' σ η' → F' q = none → ¬ Own η' q → (H q = none ∨ Own η q) → H' q = some h → RpO K F' h o → Q o η' → R (.ref q) H') : ∀ p, H1 p = none → R (.ref p) (upd H1 p (.lst vs)) := fun p np => by
  obtain ⟨c2, s2, nF⟩ := c1.lay (o := .lst vs) np
  exact hq _ _ _ p _ _ (s1.trans s2) c2 nF (c1.unown np) (.inl (s1.back np)) upd_same (.lst r) q
def wCat (wa wb : WH) : WF := fun η X Q => wa η X fun h η1 => wb η1 X fun g η2 => match lstAt h η2, lstAt g η2 with
  | some xs, some ys => xs.length + ys.length ≤ 1000000 ∧ Q (.lst (xs ++ ys)) η2
  | _, _ => False
theorem vf_cat {ta tb : TE} {wa wb : WH} (ha : VB K W ta wa) (hb : VB K W tb wb) : VF K W (tOp rCat ta tb) (wCat wa wb) := ⟨fun c q hx hq =>
  ha.run c q hx fun _ _ _ x h s1 c1 r1 q1 => hb.run c1 q1 (hx.on s1) fun _ _ _ y g s2 c2 r2 q2 => by
    split at q2
    · rename_i xs ys e1 e2
      obtain ⟨a, vs, rfl, h1, h2⟩ := (r1.same s2.ff).lst c2 e1
      obtain ⟨b, ws, rfl, h3, h4⟩ := r2.lst c2 e2
      exact ⟨a, b, vs, ws, rfl, rfl, h1, h3, by rw [h2.len, h4.len, sizeLine_eq]; have := q2.1; omega, laid_new (s1.trans s2) c2 (h2.app h4) q2.2 hq⟩
    · exact q2.elim⟩
theorem RpL.rep {F : Hp} {vs : List V} {ds : List D} (r : RpL K F vs ds) : ∀ n : Nat, RpL K F (List.replicate n vs).flatten (List.replicate n ds).flatten
  | 0 => .nil
  | n + 1 => by
    rw [List.replicate_succ, List.replicate_succ, List.flatten_cons, List.flatten_cons]
    exact r.app (RpL.rep r n)
def wRep (wa : WH) (wb : WD) : WF := fun η X Q => wa η X fun h η1 => wb η1 X fun k η2 => match lstAt h η2, k with
  | some xs, .int k => (-(2 ^ 63) ≤ k ∧ k < 2 ^ 63 ∧ xs.length * k.toNat ≤ 1000000) ∧ Q (.lst (List.replicate k.toNat xs).flatten) η2
  | _, _ => False
theorem vf_rep {ta tb : TE} {wa : WH} {wb : WD} (ha : VB K W ta wa) (hb : VE K W tb wb) : VF K W (tOp rRep ta tb) (wRep wa wb) := ⟨fun c q hx hq =>
  ha.run c q hx fun _ _ _ x h s1 c1 r1 q1 => hb.run c1 q1 (hx.on s1) fun _ _ _ y g s2 c2 r2 q2 => by
    split at q2
    · rename_i xs k e1
      cases r2
      obtain ⟨a, vs, rfl, h1, h2⟩ := (r1.same s2.ff).lst c2 e1
      obtain ⟨⟨b1, b2, b3⟩, q2⟩ := q2
      exact ⟨a, k, vs, rfl, rfl, h1, b1, b2, by rw [h2.len, sizeLine_eq]; omega, laid_new (s1.trans s2) c2 (h2.rep _) q2 hq⟩
    · exact q2.elim⟩
/-- a slice's bounds -/
structure VO (K : PySem.W.Frag) (W : WX) (t : TO) (w : En → XW → (Option Int → En → Prop) → Prop) : Prop where
  run : ∀ {F H : Hp} {σ : L2.St} {η : En} {X : XW} {Q : Option Int → En → Prop} {R : Option Int → Hp → Prop}, Cfg K F H σ η → w η X Q → OutX K W F H σ η X →
    (∀ F' H' η' o, Stp F H η F' H' η' → Cfg K F' H' σ η' → Q o η' → R o H') → t σ H R
def wNoPart : En → XW → (Option Int → En → Prop) → Prop := fun η _ Q => Q none η
theorem vo_none : VO K W tNoPart wNoPart := ⟨fun c q _ hq => hq _ _ _ _ .refl c q⟩
def wPart (w : WD) : En → XW → (Option Int → En → Prop) → Prop := fun η X Q => w η X fun d η1 => match d with
  | .int i => Q (some i) η1
  | _ => False
theorem vo_some {te : TE} {w : WD} (h : VE K W te w) : VO K W (tPart te) (wPart w) := ⟨fun c q hx hq =>
  h.run c q hx fun _ _ _ v d s c1 r q1 => by
    split at q1
    · cases r
      exact ⟨_, rfl, hq _ _ _ _ s c1 q1⟩
    · exact q1.elim⟩
def cutD (xs : List D) (lo hi : Option Int) : List D := (xs.drop (HT.sIx xs.length 0 lo)).take (HT.sIx xs.length xs.length hi - HT.sIx xs.length 0 lo)
theorem RpL.cut {F : Hp} {vs : List V} {ds : List D} (r : RpL K F vs ds) (lo hi : Option Int) : RpL K F (cutV vs lo hi) (cutD ds lo hi) := by
  unfold cutV cutD
  rw [r.len]
  exact (r.drop _).take _
def wSlL (wa : WH) (wl wh : En → XW → (Option Int → En → Prop) → Prop) : WF := fun η X Q => wa η X fun h η1 => wl η1 X fun lo η2 => wh η2 X fun hi η3 => match seqAt h η3 with
  | some (b, ds) => if b = true then Q (.lst (cutD ds lo hi)) η3 else False
  | none => False
theorem vf_slL {ta : TE} {tl th : TO} {wa : WH} {wl wh : En → XW → (Option Int → En → Prop) → Prop} (ha : VB K W ta wa) (hl : VO K W tl wl) (hh : VO K W th wh) : VF K W (tSl (rSlL K) ta tl th) (wSlL wa wl wh) := ⟨fun c q hx hq =>
  ha.run c q hx fun _ _ _ x h s1 c1 r1 q1 => hl.run c1 q1 (hx.on s1) fun _ _ _ lo s2 c2 q2 => hh.run c2 q2 (hx.on (s1.trans s2)) fun _ _ _ hi s3 c3 q3 => by
    split at q3
    · rename_i b ds e
      split at q3
      · rename_i hb
        subst hb
        obtain ⟨a, vs, rfl, h1, _, h3⟩ := ((r1.same s2.ff).same s3.ff).seq c3 e
        exact ⟨a, vs, rfl, h1 rfl, laid_new ((s1.trans s2).trans s3) c3 (h3.cut lo hi) q3 hq⟩
      · exact q3.elim
    · exact q3.elim⟩
/-- list(xs) -/
def wList (wa : WH) : WF := fun η X Q => wa η X fun h η1 => match seqAt h η1 with
  | some (_, ds) => Q (.lst ds) η1
  | none => False
theorem vf_list {ta : TE} {wa : WH} (ha : VB K W ta wa) : VF K W (tCB (fun xs H Q => ∃ p ys, xs = [.ref p] ∧ (SqL K H p ys ∨ SqT K H p ys) ∧ ∀ l, H l = none → Q (.ref l) (upd H l (.lst ys))) (tCons ta tNil)) (wList wa) := ⟨fun c q hx hq =>
  ha.run c q hx fun _ _ _ x h s1 c1 r1 q1 => by
    split at q1
    · rename_i b ds e
      obtain ⟨a, vs, rfl, h1, h2, h3⟩ := r1.seq c1 e
      refine ⟨a, vs, rfl, ?_, laid_new s1 c1 h3 q1 hq⟩
      cases b with
      | true => exact .inl (h1 rfl)
      | false => exact .inr (h2 rfl)
    · exact q1.elim⟩
/-- tuple(xs) -/
def wTupleOf (wa : WH) : WD := fun η X Q => wa η X fun h η1 => match seqAt h η1 with
  | some (b, ds) => (match h with | .val (.ktup _) => False | _ => Q (.tup ds) η1)
  | none => False
theorem ve_tupleOf {ta : TE} {wa : WH} (ha : VB K W ta wa) : VE K W (tCB (fun xs H Q => ∃ p ys, xs = [.ref p] ∧ ((SqL K H p ys ∧ ∀ l, H l = none → Q (.ref l) (upd H l (.tup ys))) ∨ (SqT K H p ys ∧ Q (.ref p) H))) (tCons ta tNil)) (wTupleOf wa) := ⟨fun {F H σ η X Q R} c q hx hq =>
  ha.run c q hx fun F1 H1 η1 x h s1 c1 r1 q1 => by
    split at q1
    · rename_i b ds e
      cases b with
      | true =>
        have q1 : Q (.tup ds) η1 := by
          revert q1
          cases h with
          | val d => cases d <;> first | exact id | exact fun z => z.elim
          | own i => exact id
        obtain ⟨a, vs, rfl, h1, h2, h3⟩ := r1.seq c1 e
        refine ⟨a, vs, rfl, .inl ⟨h1 rfl, fun p np => ?_⟩⟩
        obtain ⟨c2, s2⟩ := c1.new (o := .tup vs) np
        exact hq _ _ _ _ _ (s1.trans s2) c2 (.tup upd_same (h3.same s2.ff)) q1
      | false =>
        cases h with
        | val d =>
          cases d with
          | tup es =>
            cases e
            cases r1 with
            | tup ha hr => exact ⟨_, _, rfl, .inr ⟨SqT.of (c1.sub _ _ ha), hq _ _ _ _ _ s1 c1 (.tup ha hr) q1⟩⟩
          | ktup es => exact q1.elim
          | _ => cases e
        | own i =>
          unfold seqAt at e
          dsimp only at e
          split at e <;> cases e
    · exact q1.elim⟩
/-! ### built-ins of one sequence -/
def wSum (wa : WH) : WD := fun η X Q => wa η X fun h η1 => match seqAt h η1 with
  | some (b, ds) => b = true ∧ ∃ ns : List Int, ds = ns.map D.int ∧ Q (.int ns.sum) η1
  | none => False
theorem ve_sum {ta : TE} {wa : WH} (ha : VB K W ta wa) : VE K W (tCB (rSum K) (tCons ta tNil)) (wSum wa) := ⟨fun c q hx hq =>
  ha.run c q hx fun _ _ _ x h s1 c1 r1 q1 => by
    split at q1
    · rename_i b ds e
      obtain ⟨rfl, ns, rfl, q1⟩ := q1
      obtain ⟨a, vs, rfl, h1, _, h3⟩ := r1.seq c1 e
      rw [h3.ints] at h1
      exact ⟨a, ns, rfl, h1 rfl, hq _ _ _ _ _ s1 c1 (.int _) q1⟩
    · exact q1.elim⟩
def wBls (f : List Bool → Bool) (wa : WH) : WD := fun η X Q => wa η X fun h η1 => match seqAt h η1 with
  | some (b, ds) => b = true ∧ ∃ bs : List Bool, ds = bs.map D.bl ∧ Q (.bl (f bs)) η1
  | none => False
theorem ve_any {ta : TE} {wa : WH} (ha : VB K W ta wa) : VE K W (tCB (rAny K) (tCons ta tNil)) (wBls (fun bs => bs.any id) wa) := ⟨fun c q hx hq =>
  ha.run c q hx fun _ _ _ x h s1 c1 r1 q1 => by
    split at q1
    · rename_i b ds e
      obtain ⟨rfl, ns, rfl, q1⟩ := q1
      obtain ⟨a, vs, rfl, h1, _, h3⟩ := r1.seq c1 e
      rw [h3.bls] at h1
      exact ⟨a, ns, rfl, h1 rfl, hq _ _ _ _ _ s1 c1 (.bl _) q1⟩
    · exact q1.elim⟩
theorem ve_all {ta : TE} {wa : WH} (ha : VB K W ta wa) : VE K W (tCB (rAll K) (tCons ta tNil)) (wBls (fun bs => bs.all id) wa) := ⟨fun c q hx hq =>
  ha.run c q hx fun _ _ _ x h s1 c1 r1 q1 => by
    split at q1
    · rename_i b ds e
      obtain ⟨rfl, ns, rfl, q1⟩ := q1
      obtain ⟨a, vs, rfl, h1, _, h3⟩ := r1.seq c1 e
      rw [h3.bls] at h1
      exact ⟨a, ns, rfl, h1 rfl, hq _ _ _ _ _ s1 c1 (.bl _) q1⟩
    · exact q1.elim⟩
def wSorted (wa : WH) : WF := fun η X Q => wa η X fun h η1 => match seqAt h η1 with
  | some (b, ds) => b = true ∧ ∃ ns : List Int, ds = ns.map D.int ∧ ∀ ms : List Int, ms.Perm ns → ms.Pairwise (· ≤ ·) → Q (.lst (ms.map D.int)) η1
  | none => False
theorem vf_sorted {ta : TE} {wa : WH} (ha : VB K W ta wa) : VF K W (tCB (rSortedI K) (tCons ta tNil)) (wSorted wa) := ⟨fun c q hx hq =>
  ha.run c q hx fun _ _ _ x h s1 c1 r1 q1 => by
    split at q1
    · rename_i b ds e
      obtain ⟨rfl, ns, rfl, q1⟩ := q1
      obtain ⟨a, vs, rfl, h1, _, h3⟩ := r1.seq c1 e
      rw [h3.ints] at h1
      exact ⟨a, ns, rfl, h1 rfl, fun ms p pm pw np => laid_new s1 c1 RpL.ofInts (q1 ms pm pw) hq p np⟩
    · exact q1.elim⟩
/-- a built-in of ints -/
def wI1 (f : Int → Int) (wa : WD) : WD := wUn (fun i => .int (f i)) wa
theorem ve_abs {ta : TE} {wa : WD} (ha : VE K W ta wa) : VE K W (tCB (fun xs H Q => ∃ i, xs = [.int i] ∧ Q (.int (if i < 0 then -i else i)) H) (tCons ta tNil)) (wI1 (fun i => if i < 0 then -i else i) wa) := ⟨fun c q hx hq =>
  ha.run c q hx fun _ _ _ x d s1 c1 r1 q1 => by
    cases r1 <;> first | exact q1.elim | skip
    exact ⟨_, rfl, hq _ _ _ _ _ s1 c1 (.int _) q1⟩⟩
def wI2 (f : Int → Int → Int) (wa wb : WD) : WD := wOp (fun x y Q => match x, y with | .int i, .int j => Q (.int (f i j)) | _, _ => False) wa wb
theorem ve_i2 {f : Int → Int → Int} {ta tb : TE} {wa wb : WD} (ha : VE K W ta wa) (hb : VE K W tb wb) : VE K W (tCB (fun xs H Q => ∃ i j, xs = [.int i, .int j] ∧ Q (.int (f i j)) H) (tCons ta (tCons tb tNil))) (wI2 f wa wb) := ⟨fun c q hx hq =>
  ha.run c q hx fun _ _ _ x d s1 c1 r1 q1 => hb.run c1 q1 (hx.on s1) fun _ _ _ y e s2 c2 r2 q2 => by
    cases r1 <;> first | exact q2.elim | skip
    cases r2 <;> first | exact q2.elim | skip
    exact ⟨_, _, rfl, hq _ _ _ _ _ (s1.trans s2) c2 (.int _) q2⟩⟩
/-- int(x), x an int -/
theorem ve_int1 {ta : TE} {wa : WD} (ha : VE K W ta wa) : VE K W (tCB (fun xs H Q => (∃ i, xs = [.int i] ∧ Q (.int i) H) ∨ ∃ k, xs = [.bl k] ∧ Q (.int (if k then 1 else 0)) H) (tCons ta tNil)) (wI1 (fun i => i) wa) := ⟨fun c q hx hq =>
  ha.run c q hx fun _ _ _ x d s1 c1 r1 q1 => by
    cases r1 <;> first | exact q1.elim | skip
    exact .inl ⟨_, rfl, hq _ _ _ _ _ s1 c1 (.int _) q1⟩⟩
/-! ### isinstance -/
/-- what an instance of the class at C needs for it -/
structure InsT (K : PySem.W.Frag) (C : Addr) : Prop where
  ok : ∀ {H : Hp} {a dx : Addr} {fs : List (Str × V)}, H a = some (.ins C dx fs) → TyX K H (.ref a) (.ref C)
def tyD (K : PySem.W.Frag) : D → Value → Prop
  | .non, t => t = .type "NoneType"
  | .bl _, t => t = .type "bool"
  | .int _, t => t = .type "int"
  | .str _, t => t = .type "str"
  | .lst _, t => t = .type "list"
  | .scr _, t => t = .type "list"
  | .tup _, t => t = .type "tuple"
  | .ktup _, t => t = .type "tuple"
  | .ins C _, t => t = .ref C ∧ InsT K C
  | .dic _, t => t = .type "dict"
  | .cls _, _ => False
  | .exc _ _ _ _, _ => False
theorem tyD_at {H : Hp} {v : V} {d : D} {t : Value} (r : Rp K H v d) (h : tyD K d t) : TyX K H v t := by
  have seqL : ∀ {a : Addr} {xs : List V}, SqL K H a xs → TyX K H (.ref a) (.type "list") := fun {a xs} h => by
    rcases h with (h | ⟨o, h⟩) | ⟨o, its, n, h1, h2, h3, h4, h5⟩
    · exact .base (.lst h)
    · exact .base (.frz h)
    · exact .kList h1 (by assumption)
  cases r with
  | non => cases h; exact .base .non
  | bl b => cases h; exact .base (.bl b)
  | int i => cases h; exact .base (.int i)
  | str x => cases h; exact .base (.str x)
  | lst h1 r1 => cases h; exact .base (.lst h1)
  | scr h1 => cases h; exact seqL h1
  | tup h1 r1 => cases h; exact .base (.tup h1)
  | ktup h1 r1 =>
    cases h
    rcases h1 with (h1 | ⟨o, h1⟩) | h1
    · exact .base (.tup h1)
    · exact .fTuple h1
    · obtain ⟨o, its, n, h1, h2, _⟩ := h1
      exact .kTuple h1 h2
  | ins h1 r1 =>
    obtain ⟨rfl, hi⟩ := h
    exact hi.ok h1
  | dic h1 r1 => cases h; exact .base (.dK h1)
  | cls C => exact h.elim
  | exc h1 r1 => exact h.elim
def wIsi (K : PySem.W.Frag) (u : Value) (wa : WH) : WD := fun η X Q => wa η X fun h η1 => match hdD h η1 with
  | some d => ∃ t b, tyD K d t ∧ PySem.W.kitOne K t u = some b ∧ Q (.bl b) η1
  | none => False
theorem ve_isi {ta : TE} {wa : WH} {x : V} {u : Value} (ha : VB K W ta wa) (hc : ClsV x u) : VE K W (tCB (rIsi K) (tCons ta (tCons (tC x) tNil))) (wIsi K u wa) := ⟨fun c q hx hq =>
  ha.run c q hx fun _ _ _ v h s1 c1 r1 q1 => by
    split at q1
    · rename_i d e
      obtain ⟨t, b, ht, hb, q1⟩ := q1
      exact ⟨v, x, t, u, b, rfl, hc, tyD_at (r1.rp c1 e) ht, hb, hq _ _ _ _ _ s1 c1 (.bl b) q1⟩
    · exact q1.elim⟩
/-- isinstance(x, (list, tuple)) -/
def wIsi2 (K : PySem.W.Frag) (u1 u2 : Value) (wa : WH) : WD := fun η X Q => wa η X fun h η1 => match hdD h η1 with
  | some d => ∃ t b, tyD K d t ∧ PySem.W.kitAny K t [u1, u2] = some b ∧ Q (.bl b) η1
  | none => False
theorem ve_isi2 {ta : TE} {wa : WH} {x1 x2 : V} {u1 u2 : Value} (ha : VB K W ta wa) (h1 : ClsV x1 u1) (h2 : ClsV x2 u2) : VE K W (tCB (rIsiT K) (tCons ta (tCons (tTup (tCons (tC x1) (tCons (tC x2) tNil))) tNil))) (wIsi2 K u1 u2 wa) := ⟨fun c q hx hq =>
  ha.run c q hx fun F1 H1 η1 v h s1 c1 r1 q1 => by
    split at q1
    · rename_i d e
      obtain ⟨t, b, ht, hb, q1⟩ := q1
      refine ⟨by show 2 ≤ sizeLine; rw [sizeLine_eq]; decide, fun p np => ?_⟩
      obtain ⟨c2, s2, _⟩ := c1.lay (o := .tup [x1, x2]) np
      have rp := (r1.same s2.ff).rp c2 e
      exact ⟨v, p, _, t, [u1, u2], b, rfl, upd_same, .cons h1 (.cons h2 .nil), tyD_at rp ht, hb, hq _ _ _ _ _ (s1.trans s2) c2 (.bl b) q1⟩
    · exact q1.elim⟩
/-! ### truth, None -/
def wIsN (wa : WD) : WD := fun η X Q => wa η X fun d η1 => match d with
  | .non => Q (.bl true) η1
  | _ => Q (.bl false) η1
def wNotN (wa : WD) : WD := fun η X Q => wa η X fun d η1 => match d with
  | .non => Q (.bl false) η1
  | _ => Q (.bl true) η1
theorem ve_isN {ta : TE} {wa : WD} (ha : VE K W ta wa) : VE K W (tOp (fun x y H Q => y = .non ∧ Q (.bl (decide (x = .non))) H) ta (tC .non)) (wIsN wa) := ⟨fun c q hx hq =>
  ha.run c q hx fun _ _ _ v d s1 c1 r1 q1 => ⟨rfl, by cases r1 <;> exact hq _ _ _ _ _ s1 c1 (.bl _) q1⟩⟩
theorem ve_notN {ta : TE} {wa : WD} (ha : VE K W ta wa) : VE K W (tOp (fun x y H Q => y = .non ∧ Q (.bl (!decide (x = .non))) H) ta (tC .non)) (wNotN wa) := ⟨fun c q hx hq =>
  ha.run c q hx fun _ _ _ v d s1 c1 r1 q1 => ⟨rfl, by cases r1 <;> exact hq _ _ _ _ _ s1 c1 (.bl _) q1⟩⟩
end
end Tw

namespace Tw
open PySem PySem.Spec PyProof.Rows L2

/-! ### what a def promises, by value -/
abbrev XS := Addr → List (Str × D) → Prop
/-- arguments, what is wished of an error, of the value and of the arguments' own objects behind it -/
abbrev VSp := List Sl → XS → (Rs → List Sl → Prop) → Prop
def spV (K : PySem.W.Frag) (S : VSp) : Sp := fun vs H Q E => ∃ (F : Hp) (as : List Sl) (X : XS) (Qd : Rs → List Sl → Prop), Cfg K F H (vs.map some) as ∧ S as X Qd ∧
  (∀ F' H' as' v r, Stp F H as F' H' as' → Cfg K F' H' (vs.map some) as' → RsAt K F' H H' as as' v r → Qd r as' → Q v H') ∧
  (∀ F' H' C dd fs gs, Stp F H as F' H' [] → Same F' H' → F' dd = some (.xd fs) → RpF K F' fs gs → X C gs → E (.ref C) (some dd) H')
/-- the arguments' own objects, as the slots tell them at the end -/
inductive Outs (η : En) : List Sl → List Sl → Prop
  | nil : Outs η [] []
  | no {as as' : List Sl} : Outs η as as' → Outs η (.no :: as) (.no :: as')
  | fz {d : D} {as as' : List Sl} : Outs η as as' → Outs η (.fz d :: as) (.fz d :: as')
  | ow {q : Addr} {o o' : OB} {as as' : List Sl} (i : Nat) (h : η[i]? = some (.ow q o')) : Outs η as as' → Outs η (.ow q o :: as) (.ow q o' :: as')
theorem Outs.fzAt {η : En} : ∀ {as as' : List Sl}, Outs η as as' → ∀ (j : Nat) (d : D), as'[j]? = some (Sl.fz d) → as[j]? = some (Sl.fz d)
  | _, _, .no r, 0, d, e => by cases e
  | _, _, .no r, j + 1, d, e => Outs.fzAt r j d (by simpa using e)
  | _, _, .fz r, 0, d, e => e
  | _, _, .fz r, j + 1, d, e => Outs.fzAt r j d (by simpa using e)
  | _, _, .ow i h r, 0, d, e => by cases e
  | _, _, .ow i h r, j + 1, d, e => Outs.fzAt r j d (by simpa using e)
  | _, _, .nil, j, d, e => by simp at e
theorem Outs.owAt {η : En} : ∀ {as as' : List Sl}, Outs η as as' → ∀ (j : Nat) (q : Addr) (o : OB), as'[j]? = some (Sl.ow q o) → (∃ o0, as[j]? = some (Sl.ow q o0)) ∧ ∃ i : Nat, η[i]? = some (Sl.ow q o)
  | _, _, .no r, 0, _, _, e => by cases e
  | _, _, .no r, j + 1, q, o, e => Outs.owAt r j q o (by simpa using e)
  | _, _, .fz r, 0, _, _, e => by cases e
  | _, _, .fz r, j + 1, q, o, e => Outs.owAt r j q o (by simpa using e)
  | _, _, .ow i h r, 0, q, o, e => by cases e; exact ⟨⟨_, rfl⟩, i, h⟩
  | _, _, .ow i h r, j + 1, q, o, e => Outs.owAt r j q o (by simpa using e)
  | _, _, .nil, j, _, _, e => by simp at e
theorem Outs.len {η : En} : ∀ {as as' : List Sl}, Outs η as as' → as'.length = as.length
  | _, _, .no r => congrArg (· + 1) (Outs.len r)
  | _, _, .fz r => congrArg (· + 1) (Outs.len r)
  | _, _, .ow i h r => congrArg (· + 1) (Outs.len r)
  | _, _, .nil => rfl
/-- what the body is to reach -/
def endsOf (as : List Sl) (Qd : Rs → List Sl → Prop) : EndsV where
  nx := fun η => ∃ as', Outs η as as' ∧ Qd (.val .non) as'
  rt := fun r η => ∃ as', Outs η as as' ∧ Qd r as'
  bk := fun _ => False
  ct := fun _ => False
/-- the slots at the start -/
def startE (n : Nat) (as : List Sl) : En := as ++ List.replicate (n - as.length) .no
section
variable {K : PySem.W.Frag} {W : WX}
theorem startE_some {n : Nat} {as : List Sl} {i : Nat} {s : Sl} (h : (startE n as)[i]? = some s) (ns : s ≠ .no) : as[i]? = some s := by
  unfold startE at h
  by_cases l : i < as.length
  · rwa [List.getElem?_append_left l] at h
  · rw [List.getElem?_append_right (by omega), List.getElem?_replicate] at h
    split at h
    · cases h; exact absurd rfl ns
    · cases h
theorem own_start {n : Nat} {as : List Sl} {a : Addr} : Own (startE n as) a ↔ Own as a := by
  constructor
  · rintro ⟨i, o, h⟩
    exact ⟨i, o, startE_some h (fun z => nomatch z)⟩
  · rintro ⟨i, o, h⟩
    refine ⟨i, o, ?_⟩
    unfold startE
    rw [List.getElem?_append_left (List.getElem?_eq_some_iff.mp h).1]
    exact h
theorem Cfg.start {F H : Hp} {vs : List V} {as : List Sl} {N : List Str} (c : Cfg K F H (vs.map some) as) : Cfg K F H (L2.start N vs) (startE N.length as) := by
  have hl := c.len
  rw [List.length_map] at hl
  refine ⟨c.sub, ?_, fun i d h => ?_, fun i q o h => ?_, fun i j q o u h1 h2 => ?_⟩
  · unfold startE L2.start
    rw [List.length_append, List.length_append, List.length_replicate, List.length_replicate, List.length_map, hl]
  · have h := startE_some h (fun z => nomatch z)
    obtain ⟨v, h1, h2⟩ := c.fz i d h
    refine ⟨v, ?_, h2⟩
    unfold L2.start
    rw [List.getElem?_append_left (List.getElem?_eq_some_iff.mp h1).1]
    exact h1
  · have h := startE_some h (fun z => nomatch z)
    obtain ⟨h1, h2⟩ := c.ow i q o h
    refine ⟨?_, h2⟩
    unfold L2.start
    rw [List.getElem?_append_left (List.getElem?_eq_some_iff.mp h1).1]
    exact h1
  · exact c.ne i j q o u (startE_some h1 (fun z => nomatch z)) (startE_some h2 (fun z => nomatch z))
/-- what the caller of the def takes -/
theorem con_of {F H : Hp} {vs : List V} {as : List Sl} {N : List Str} {X : XS} {Qd : Rs → List Sl → Prop} {Q : VK} {E : XK} (c : Cfg K F H (vs.map some) as)
    (k : ∀ F' H' as' v r, Stp F H as F' H' as' → Cfg K F' H' (vs.map some) as' → RsAt K F' H H' as as' v r → Qd r as' → Q v H')
    (kx : ∀ F' H' C dd fs gs, Stp F H as F' H' [] → Same F' H' → F' dd = some (.xd fs) → RpF K F' fs gs → X C gs → E (.ref C) (some dd) H') :
    Cnt K (fun cls d _ H' => E cls d H') F H (startE N.length as) (endsOf as Qd) (fun C gs _ => X C gs) { nx := fun _ H' => Q .non H', rt := Q, bk := fun _ _ => False, ct := fun _ _ => False } := by
  have stp : ∀ {F' H' η'} {as' : List Sl}, Stp F H (startE N.length as) F' H' η' → (∀ a, Own as' a → Own as a) → Stp F H as F' H' as' := fun {F' H' η' as'} s o => ⟨s.ff, fun a ha no => s.fr a ha fun z => no (own_start.mp z), s.dm, fun a h => .inl (o a h)⟩
  have back : ∀ {F' H' σ' η'} {as' : List Sl}, Stp F H (startE N.length as) F' H' η' → Cfg K F' H' σ' η' → Outs η' as as' → Stp F H as F' H' as' ∧ Cfg K F' H' (vs.map some) as' := fun {F' H' σ' η' as'} s c' o => by
    refine ⟨stp s fun a ⟨j, u, h⟩ => let ⟨⟨o0, h0⟩, _⟩ := o.owAt j a u h; ⟨j, o0, h0⟩, ⟨c'.sub, o.len.trans c.len, fun j d h => ?_, fun j q u h => ?_, fun i j q u w h1 h2 => ?_⟩⟩
    · obtain ⟨v, h1, h2⟩ := c.fz j d (o.fzAt j d h)
      exact ⟨v, h1, h2.same s.ff⟩
    · obtain ⟨⟨o0, h0⟩, i, h2⟩ := o.owAt j q u h
      obtain ⟨_, h3⟩ := c'.ow i q u h2
      exact ⟨(c.ow j q o0 h0).1, h3⟩
    · obtain ⟨⟨o1, h1⟩, _⟩ := o.owAt i q u h1
      obtain ⟨⟨o2, h2⟩, _⟩ := o.owAt j q w h2
      exact c.ne i j q o1 o2 h1 h2
  refine ⟨fun F' H' σ' η' s c' ⟨as', o, q⟩ => ?_, fun F' H' σ' η' v r s c' ra ⟨as', o, q⟩ => ?_, fun _ _ _ _ _ _ z => z, fun _ _ _ _ _ _ z => z, fun F' H' σ' η' C dd fs gs s c' e r x => kx F' H' C dd fs gs (stp s fun a ⟨j, u, h⟩ => by simp at h) c'.sub e r x⟩
  · obtain ⟨s1, c1⟩ := back s c' o
    exact k F' H' as' .non (.val .non) s1 c1 .non q
  · obtain ⟨s1, c1⟩ := back s c' o
    refine k F' H' as' v r s1 c1 ?_ q
    cases r with
    | val d => exact ra
    | new u =>
      obtain ⟨p, h, h1, h2, h3, h4, h5, h6⟩ := ra
      refine ⟨p, h, h1, h2, fun ⟨j, w, z⟩ => ?_, h4, h5, h6.imp id own_start.mp⟩
      obtain ⟨_, i, h7⟩ := o.owAt j p w z
      exact h3 ⟨i, w, h7⟩
end
section
variable {P : Program} {w : World} {K : PySem.W.Frag} {mg : Str → Option Value} {base : Heap} {x : Str} {st : Stmt} {N ps : List Str} {k : Nat} {S : VSp}
theorem spV_len (len : ∀ as X Q, S as X Q → as.length = ps.length) : ∀ vs H Q E, spV K S vs H Q E → vs.length = ps.length := fun vs H Q E ⟨F, as, X, Qd, c, s, _⟩ => by
  have := c.len
  rw [List.length_map] at this
  rw [← this]
  exact len _ _ _ s
/-- a def that raises nothing -/
theorem cal_ofV (Dd : DefAt K mg x st) (Sc : FnScope N ps (defScope st)) (hb : BindOk x st ps) (len : ∀ as X Q, S as X Q → as.length = ps.length)
    (hbody : ∀ (f : Addr) (cdv : Value) (A : Around) (outer : List Env) (s : Shared) (H : Hp) (E : XK), Room k (A.deeper (envOfC x (defScope st) s.heap.objs.size f cdv)) →
      ∃ (ts : TS) (ws : WS), PSs (cxOf CX0 P w K mg base N x (defScope st) f cdv A outer s H E).nox (defBody st) ts ∧ (∀ W : WX, VS K W ts ws) ∧
        ∀ as X Qd, S as X Qd → ws (endsOf as Qd) (fun C gs _ => X C gs) (startE N.length as)) : Cal P w K mg base CX0 x (k + 1) ps (spV K S) := by
  refine cal_of Dd Sc hb (spV_len len) fun f cdv A outer s H vs Q E hr h => ?_
  obtain ⟨F, as, X, Qd, c, sp, q, qx⟩ := h
  obtain ⟨ts, ws, h1, h2, h3⟩ := hbody f cdv A outer s H E hr
  exact ⟨ts, h1, (h2 _).run c.start (h3 as X Qd sp) (con_of (E := E) c q qx)⟩
/-- a def that may raise -/
theorem calX_ofV (Dd : DefAt K mg x st) (Sc : FnScope N ps (defScope st)) (hb : BindOk x st ps) (len : ∀ as X Q, S as X Q → as.length = ps.length)
    (hbody : ∀ (f : Addr) (cdv : Value) (A : Around) (outer : List Env) (s : Shared) (H : Hp) (E : XK), Room k (A.deeper (envOfC x (defScope st) s.heap.objs.size f cdv)) →
      ∃ (ts : TS) (ws : WS), PSs (cxOf (L2N.CX P w) P w K mg base N x (defScope st) f cdv A outer s H E) (defBody st) ts ∧ VS K (fun cls d _ H' => E cls d H') ts ws ∧
        ∀ as X Qd, S as X Qd → ws (endsOf as Qd) (fun C gs _ => X C gs) (startE N.length as)) : Cal P w K mg base (L2N.CX P w) x (k + 1) ps (spV K S) := by
  refine calX_of Dd Sc hb (spV_len len) fun f cdv A outer s H vs Q E hr h => ?_
  obtain ⟨F, as, X, Qd, c, sp, q, qx⟩ := h
  obtain ⟨ts, ws, h1, h2, h3⟩ := hbody f cdv A outer s H E hr
  exact ⟨ts, h1, h2.run c.start (h3 as X Qd sp) (con_of (E := E) c q qx)⟩
/-- methods, by their def -/
theorem ok_ofV {qual : Str} {f : Addr} {fd : FuncData} (F : Fun K x qual st f fd) (Sc : FnScope N ps (defScope st)) (len : ∀ as X Q, S as X Q → as.length = ps.length)
    (hbody : ∀ (cdv : Value) (A : Around) (outer : List Env) (s : Shared) (H : Hp) (E : XK), Room k (A.deeper (envOfC qual (defScope st) s.heap.objs.size f cdv)) →
      ∃ (ts : TS) (ws : WS), PSs (cxOf CX0 P w K mg base N qual (defScope st) f cdv A outer s H E).nox (defBody st) ts ∧ (∀ W : WX, VS K W ts ws) ∧
        ∀ as X Qd, S as X Qd → ws (endsOf as Qd) (fun C gs _ => X C gs) (startE N.length as)) : FnOk P w K mg base CX0 (k + 1) f fd ps (spV K S) := by
  refine F.ok Sc (spV_len len) fun cdv A outer s H vs Q E hr h => ?_
  obtain ⟨F, as, X, Qd, c, sp, q, qx⟩ := h
  obtain ⟨ts, ws, h1, h2, h3⟩ := hbody cdv A outer s H E hr
  exact ⟨ts, h1, (h2 _).run c.start (h3 as X Qd sp) (con_of (E := E) c q qx)⟩
theorem okX_ofV {qual : Str} {f : Addr} {fd : FuncData} (F : Fun K x qual st f fd) (Sc : FnScope N ps (defScope st)) (len : ∀ as X Q, S as X Q → as.length = ps.length)
    (hbody : ∀ (cdv : Value) (A : Around) (outer : List Env) (s : Shared) (H : Hp) (E : XK), Room k (A.deeper (envOfC qual (defScope st) s.heap.objs.size f cdv)) →
      ∃ (ts : TS) (ws : WS), PSs (cxOf (L2N.CX P w) P w K mg base N qual (defScope st) f cdv A outer s H E) (defBody st) ts ∧ VS K (fun cls d _ H' => E cls d H') ts ws ∧
        ∀ as X Qd, S as X Qd → ws (endsOf as Qd) (fun C gs _ => X C gs) (startE N.length as)) : FnOk P w K mg base (L2N.CX P w) (k + 1) f fd ps (spV K S) := by
  obtain ⟨oc, od, kV, doc, pm, an, cdv, ct, osl, rfl, lk, hcd⟩ := F.ex
  refine fn_of lk hcd Sc (spV_len len) fun A outer s H vs Q E hr h => ?_
  obtain ⟨F, as, X, Qd, c, sp, q, qx⟩ := h
  obtain ⟨ts, ws, h1, h2, h3⟩ := hbody cdv A outer s H E hr
  exact ⟨ts, h1, h2.run c.start (h3 as X Qd sp) (con_of (E := E) c q qx)⟩
end
/-! ### calls -/
/-- an argument: a value, or a slot's own object, handed on -/
inductive Ak where
  | val (d : D) | ref (i : Nat)
inductive AkAt (K : PySem.W.Frag) (F : Hp) (σ : L2.St) : List V → List Ak → Prop
  | nil : AkAt K F σ [] []
  | val {v : V} {d : D} {vs : List V} {ks : List Ak} : Rp K F v d → AkAt K F σ vs ks → AkAt K F σ (v :: vs) (.val d :: ks)
  | ref {v : V} {i : Nat} {vs : List V} {ks : List Ak} : σ[i]? = some (some v) → AkAt K F σ vs ks → AkAt K F σ (v :: vs) (.ref i :: ks)
theorem AkAt.same {K : PySem.W.Frag} {F F' : Hp} {σ : L2.St} (s : Same F F') : ∀ {vs : List V} {ks : List Ak}, AkAt K F σ vs ks → AkAt K F' σ vs ks
  | _, _, .nil => .nil
  | _, _, .val h r => .val (h.same s) (r.same s)
  | _, _, .ref h r => .ref h (r.same s)
structure VK (K : PySem.W.Frag) (W : WX) (ta : TA) (w : En → XW → (List Ak → En → Prop) → Prop) : Prop where
  run : ∀ {F H : Hp} {σ : L2.St} {η : En} {X : XW} {Q : List Ak → En → Prop} {R : List V → Hp → Prop}, Cfg K F H σ η → w η X Q → OutX K W F H σ η X →
    (∀ F' H' η' vs ks, Stp F H η F' H' η' → Cfg K F' H' σ η' → AkAt K F' σ vs ks → Q ks η' → R vs H') → ta σ H R
abbrev WK := En → XW → (List Ak → En → Prop) → Prop
section
variable {K : PySem.W.Frag} {W : WX}
def wkNil : WK := fun η _ Q => Q [] η
theorem vk_nil : VK K W tNil wkNil := ⟨fun c q _ hq => hq _ _ _ _ _ .refl c .nil q⟩
def wkVal (wa : WD) (wr : WK) : WK := fun η X Q => wa η X fun d η1 => wr η1 X fun ks η2 => Q (.val d :: ks) η2
theorem vk_val {ta : TE} {tr : TA} {wa : WD} {wr : WK} (ha : VE K W ta wa) (hr : VK K W tr wr) : VK K W (tCons ta tr) (wkVal wa wr) := ⟨fun c q hx hq =>
  ha.run c q hx fun _ _ _ x d s1 c1 r1 q1 => hr.run c1 q1 (hx.on s1) fun _ _ _ vs ks s2 c2 r2 q2 => hq _ _ _ _ _ (s1.trans s2) c2 (.val (r1.same s2.ff) r2) q2⟩
def wkRef (i : Nat) (wr : WK) : WK := fun η X Q => match η[i]? with
  | some (.ow _ _) => wr η X fun ks η2 => Q (.ref i :: ks) η2
  | some (.fz d) => wr η X fun ks η2 => Q (.val d :: ks) η2
  | _ => False
theorem vk_ref {tr : TA} {wr : WK} (i : Nat) (hr : VK K W tr wr) : VK K W (tCons (tVar i) tr) (wkRef i wr) := ⟨fun {F H σ η X Q R} c q hx hq => by
  unfold wkRef at q
  split at q
  · rename_i p o e
    exact ⟨_, (c.ow i p o e).1, hr.run c q hx fun _ _ _ vs ks s2 c2 r2 q2 => hq _ _ _ _ _ s2 c2 (.ref (c.ow i p o e).1 r2) q2⟩
  · rename_i d e
    obtain ⟨v, h1, h2⟩ := c.fz i d e
    exact ⟨_, h1, hr.run c q hx fun _ _ _ vs ks s2 c2 r2 q2 => hq _ _ _ _ _ s2 c2 (.val (h2.same s2.ff) r2) q2⟩
  · exact q.elim⟩
/-- the arguments as the callee is told them -/
def akSl (η : En) : Ak → Option Sl
  | .val d => some (.fz d)
  | .ref i => match η[i]? with
    | some (.ow q o) => some (.ow q o)
    | _ => none
def akSls (η : En) : List Ak → Option (List Sl)
  | [] => some []
  | k :: ks => match akSl η k, akSls η ks with
    | some s, some r => some (s :: r)
    | _, _ => none
def refs : List Ak → List Nat
  | [] => []
  | .val _ :: ks => refs ks
  | .ref i :: ks => i :: refs ks
/-- the slots behind the call -/
def backE : List Ak → List Sl → En → En
  | .ref i :: ks, s :: as, η => backE ks as (η.set i s)
  | .val _ :: ks, _ :: as, η => backE ks as η
  | _, _, η => η
def loseE : List Ak → En → En
  | .ref i :: ks, η => loseE ks (η.set i .no)
  | .val _ :: ks, η => loseE ks η
  | [], η => η
theorem akSls_cons {η : En} {k : Ak} {ks : List Ak} {as : List Sl} (h : akSls η (k :: ks) = some as) : ∃ s r, akSl η k = some s ∧ akSls η ks = some r ∧ as = s :: r := by
  unfold akSls at h
  split at h
  · rename_i s r h1 h2
    cases h
    exact ⟨s, r, h1, h2, rfl⟩
  · cases h
theorem akSl_ref {η : En} {i : Nat} {s : Sl} (h : akSl η (.ref i) = some s) : ∃ q o, s = .ow q o ∧ η[i]? = some (.ow q o) := by
  unfold akSl at h
  dsimp only at h
  split at h
  · rename_i q o e
    cases h
    exact ⟨q, o, rfl, e⟩
  · cases h
/-- an argument's own object is a slot's -/
theorem ak_own {η : En} {q : Addr} {o : OB} : ∀ {ks : List Ak} {as : List Sl}, akSls η ks = some as → ∀ (j : Nat), as[j]? = some (.ow q o) → ∃ i, ks[j]? = some (.ref i) ∧ i ∈ refs ks ∧ η[i]? = some (.ow q o)
  | [], _, h, j, e => by cases h; simp at e
  | .val d :: ks, _, h, j, e => by
    obtain ⟨s, r, h1, h2, rfl⟩ := akSls_cons h
    cases h1
    cases j with
    | zero => cases e
    | succ j => exact ak_own h2 j (by simpa using e)
  | .ref i :: ks, _, h, j, e => by
    obtain ⟨s, r, h1, h2, rfl⟩ := akSls_cons h
    obtain ⟨q', o', rfl, h3⟩ := akSl_ref h1
    cases j with
    | zero => cases e; exact ⟨i, rfl, List.mem_cons_self, h3⟩
    | succ j =>
      obtain ⟨i', h4, h5, h6⟩ := ak_own h2 j (by simpa using e)
      exact ⟨i', by simpa using h4, List.mem_cons_of_mem _ h5, h6⟩
theorem ak_cfg {F H : Hp} {σ : L2.St} {η : En} (c : Cfg K F H σ η) {vs : List V} {ks : List Ak} {as : List Sl} (a : AkAt K F σ vs ks) (h : akSls η ks = some as) (nd : (refs ks).Nodup) : Cfg K F H (vs.map some) as := by
  have len : ∀ {vs : List V} {ks : List Ak} {as : List Sl}, AkAt K F σ vs ks → akSls η ks = some as → as.length = vs.length := fun {vs ks as} a => by
    induction a generalizing as with
    | nil => intro h; cases h; rfl
    | val _ _ ih => intro h; obtain ⟨s, r, _, h2, rfl⟩ := akSls_cons h; rw [List.length_cons, List.length_cons, ih h2]
    | ref _ _ ih => intro h; obtain ⟨s, r, _, h2, rfl⟩ := akSls_cons h; rw [List.length_cons, List.length_cons, ih h2]
  have fz : ∀ {vs : List V} {ks : List Ak} {as : List Sl}, AkAt K F σ vs ks → akSls η ks = some as → ∀ (j : Nat) (d : D), as[j]? = some (Sl.fz d) → ∃ v, (vs.map some)[j]? = some (some v) ∧ Rp K F v d := fun {vs ks as} a => by
    induction a generalizing as with
    | nil => intro h j d e; cases h; simp at e
    | val r _ ih =>
      intro h j d e
      obtain ⟨s, r', h1, h2, rfl⟩ := akSls_cons h
      cases h1
      cases j with
      | zero => cases e; exact ⟨_, rfl, r⟩
      | succ j => exact ih h2 j d (by simpa using e)
    | ref _ _ ih =>
      intro h j d e
      obtain ⟨s, r', h1, h2, rfl⟩ := akSls_cons h
      obtain ⟨q, o, rfl, _⟩ := akSl_ref h1
      cases j with
      | zero => cases e
      | succ j => exact ih h2 j d (by simpa using e)
  have ow : ∀ {vs : List V} {ks : List Ak} {as : List Sl}, AkAt K F σ vs ks → akSls η ks = some as → ∀ (j : Nat) (q : Addr) (o : OB), as[j]? = some (Sl.ow q o) → (vs.map some)[j]? = some (some (V.ref q)) := fun {vs ks as} a => by
    induction a generalizing as with
    | nil => intro h j q o e; cases h; simp at e
    | val r _ ih =>
      intro h j q o e
      obtain ⟨s, r', h1, h2, rfl⟩ := akSls_cons h
      cases h1
      cases j with
      | zero => cases e
      | succ j => exact ih h2 j q o (by simpa using e)
    | ref hv _ ih =>
      intro h j q o e
      obtain ⟨s, r', h1, h2, rfl⟩ := akSls_cons h
      obtain ⟨q', o', rfl, h3⟩ := akSl_ref h1
      cases j with
      | zero =>
        cases e
        rw [(c.ow _ _ _ h3).1] at hv
        cases hv
        rfl
      | succ j => exact ih h2 j q o (by simpa using e)
  refine ⟨c.sub, by rw [List.length_map]; exact len a h, fz a h, fun j q o e => ⟨ow a h j q o e, ?_⟩, fun i j q o u e1 e2 => ?_⟩
  · obtain ⟨i, _, _, h3⟩ := ak_own h j e
    exact (c.ow i q o h3).2
  · obtain ⟨i1, h1, m1, g1⟩ := ak_own h i e1
    obtain ⟨i2, h2, m2, g2⟩ := ak_own h j e2
    have ei := c.ne _ _ _ _ _ g1 g2
    subst ei
    have uq : ∀ {ks : List Ak} {i j n : Nat}, (refs ks).Nodup → ks[i]? = some (Ak.ref n) → ks[j]? = some (Ak.ref n) → i = j := fun {ks} => by
      induction ks with
      | nil => intro i j n _ h; simp at h
      | cons k ks ih =>
        intro i j n nd h1 h2
        have mem : ∀ {ks : List Ak} {j : Nat}, ks[j]? = some (Ak.ref n) → n ∈ refs ks := fun {ks} => by
          induction ks with
          | nil => intro j h; simp at h
          | cons k ks ih =>
            intro j h
            cases j with
            | zero => cases h; exact List.mem_cons_self
            | succ j =>
              have := ih (j := j) (by simpa using h)
              cases k with
              | val d => exact this
              | ref m => exact List.mem_cons_of_mem _ this
        cases k with
        | val d =>
          cases i with
          | zero => cases h1
          | succ i =>
            cases j with
            | zero => cases h2
            | succ j => rw [ih (i := i) (j := j) nd (by simpa using h1) (by simpa using h2)]
        | ref m =>
          have nd : (m :: refs ks).Nodup := nd
          rw [List.nodup_cons] at nd
          cases i with
          | zero =>
            cases h1
            cases j with
            | zero => rfl
            | succ j => exact absurd (mem (j := j) (by simpa using h2)) nd.1
          | succ i =>
            cases j with
            | zero => cases h2; exact absurd (mem (j := i) (by simpa using h1)) nd.1
            | succ j => rw [ih (i := i) (j := j) nd.2 (by simpa using h1) (by simpa using h2)]
    exact uq nd h1 h2
/-- what stands in a slot behind the call -/
theorem back_at : ∀ {ks : List Ak} {as' : List Sl} {η : En} {i : Nat} {s : Sl}, as'.length = ks.length → (backE ks as' η)[i]? = some s → (∃ j : Nat, ks[j]? = some (Ak.ref i) ∧ as'[j]? = some s) ∨ (i ∉ refs ks ∧ η[i]? = some s)
  | [], as', η, i, s, hl, h => .inr ⟨fun z => (by cases z), by cases as' <;> exact h⟩
  | .val d :: ks, a :: as', η, i, s, hl, h => by
    rcases back_at (ks := ks) (as' := as') (η := η) (by simpa using hl) h with ⟨j, h1, h2⟩ | ⟨h1, h2⟩
    · exact .inl ⟨j + 1, by simpa using h1, by simpa using h2⟩
    · exact .inr ⟨h1, h2⟩
  | .ref n :: ks, a :: as', η, i, s, hl, h => by
    rcases back_at (ks := ks) (as' := as') (η := η.set n a) (by simpa using hl) h with ⟨j, h1, h2⟩ | ⟨h1, h2⟩
    · exact .inl ⟨j + 1, by simpa using h1, by simpa using h2⟩
    · rcases set_at h2 with ⟨rfl, rfl⟩ | ⟨ne, h2⟩
      · exact .inl ⟨0, rfl, rfl⟩
      · refine .inr ⟨fun z => ?_, h2⟩
        rcases List.mem_cons.mp z with z | z
        · exact ne z.symm
        · exact h1 z
theorem back_len : ∀ {ks : List Ak} {as' : List Sl} {η : En}, (backE ks as' η).length = η.length
  | [], as', η => by cases as' <;> rfl
  | .val d :: ks, [], η => rfl
  | .ref d :: ks, [], η => rfl
  | .val d :: ks, a :: as', η => back_len (ks := ks)
  | .ref n :: ks, a :: as', η => by
    show (backE ks as' (η.set n a)).length = _
    rw [back_len, List.length_set]
theorem lose_at : ∀ {ks : List Ak} {η : En} {i : Nat} {s : Sl}, (loseE ks η)[i]? = some s → s ≠ .no → i ∉ refs ks ∧ η[i]? = some s
  | [], η, i, s, h, _ => ⟨fun z => (by cases z), h⟩
  | .val d :: ks, η, i, s, h, n => lose_at (ks := ks) h n
  | .ref m :: ks, η, i, s, h, n => by
    obtain ⟨h1, h2⟩ := lose_at (ks := ks) (η := η.set m .no) h n
    rcases set_at h2 with ⟨_, e⟩ | ⟨ne, h2⟩
    · exact absurd e n
    · refine ⟨fun z => ?_, h2⟩
      rcases List.mem_cons.mp z with z | z
      · exact ne z.symm
      · exact h1 z
theorem lose_len : ∀ {ks : List Ak} {η : En}, (loseE ks η).length = η.length
  | [], η => rfl
  | .val d :: ks, η => lose_len (ks := ks)
  | .ref n :: ks, η => by
    show (loseE ks (η.set n .no)).length = _
    rw [lose_len, List.length_set]
theorem ref_mem {n : Nat} : ∀ {ks : List Ak} {j : Nat}, ks[j]? = some (Ak.ref n) → n ∈ refs ks
  | [], j, h => by simp at h
  | .val d :: ks, 0, h => by cases h
  | .ref m :: ks, 0, h => by cases h; exact List.mem_cons_self
  | .val d :: ks, j + 1, h => ref_mem (ks := ks) (j := j) (by simpa using h)
  | .ref m :: ks, j + 1, h => List.mem_cons_of_mem _ (ref_mem (ks := ks) (j := j) (by simpa using h))
theorem ref_at {F : Hp} {σ : L2.St} {n : Nat} : ∀ {vs : List V} {ks : List Ak} {j : Nat}, AkAt K F σ vs ks → ks[j]? = some (Ak.ref n) → ∃ v, σ[n]? = some (some v) ∧ (vs.map some)[j]? = some (some v)
  | _, _, j, .nil, h => by simp at h
  | _, _, 0, .val _ _, h => by cases h
  | _, _, 0, .ref e _, h => by cases h; exact ⟨_, e, rfl⟩
  | _, _, j + 1, .val _ r, h => ref_at (j := j) r (by simpa using h)
  | _, _, j + 1, .ref _ r, h => ref_at (j := j) r (by simpa using h)
/-- the callee's wishes, from the caller's -/
structure VRs (K : PySem.W.Frag) (W : WX) (te : TE) (w : En → XW → (Rs → En → Prop) → Prop) : Prop where
  run : ∀ {F H : Hp} {σ : L2.St} {η : En} {X : XW} {Q : Rs → En → Prop} {R : L2.VK}, Cfg K F H σ η → w η X Q → OutX K W F H σ η X →
    (∀ F' H' η' v r, Stp F H η F' H' η' → Cfg K F' H' σ η' → RsAt K F' H H' η η' v r → Q r η' → R v H') → te σ H R
/-- the callee's part of a call, at its arguments -/
def atCall (S : VSp) (ks : List Ak) (η1 : En) (XE : XS) (Q : Rs → En → Prop) : Prop := match akSls η1 ks with
  | some as => if (refs ks).Nodup then S as XE (fun r as' => Q r (backE ks as' η1)) else False
  | none => False
theorem call_run {F H F1 H1 : Hp} {σ : L2.St} {η η1 : En} {Q : Rs → En → Prop} {R : L2.VK} {E : XK} {S : VSp} {vs : List V} {ks : List Ak} {XE : XS} (s1 : Stp F H η F1 H1 η1) (c1 : Cfg K F1 H1 σ η1) (a : AkAt K F1 σ vs ks) (q : atCall S ks η1 XE Q)
    (hxE : ∀ F' H' C dd fs gs, Stp F1 H1 η1 F' H' (loseE ks η1) → Cfg K F' H' σ (loseE ks η1) → F' dd = some (.xd fs) → RpF K F' fs gs → XE C gs → E (.ref C) (some dd) H')
    (hq : ∀ F' H' η' v r, Stp F H η F' H' η' → Cfg K F' H' σ η' → RsAt K F' H H' η η' v r → Q r η' → R v H') : spV K S vs H1 R E := by
  unfold atCall at q
  split at q
  case h_2 => exact q.elim
  rename_i as e
  split at q
  case isFalse => exact q.elim
  rename_i nd
  have ca := ak_cfg c1 a e nd
  have own_as : ∀ {p : Addr}, Own as p → ∃ i : Nat, i ∈ refs ks ∧ ∃ o, η1[i]? = some (Sl.ow p o) := fun {p} ⟨j, o, h⟩ => let ⟨i, _, h2, h3⟩ := ak_own e j h; ⟨i, h2, o, h3⟩
  have klen : as.length = ks.length := by
    have h1 := ca.len
    rw [List.length_map] at h1
    rw [h1]
    clear q ca own_as h1 e nd hxE
    induction a with
    | nil => rfl
    | val _ _ ih => rw [List.length_cons, List.length_cons, ih]
    | ref _ _ ih => rw [List.length_cons, List.length_cons, ih]
  refine ⟨F1, as, _, _, ca, q, fun F' H' as' v r s c' ra q' => ?_, fun F' H' C dd fs gs s sub ed rf x => ?_⟩
  · have clen := c'.len
    rw [List.length_map] at clen
    have kl : as'.length = ks.length := by
      have h1 := ca.len
      rw [List.length_map] at h1
      rw [clen, ← h1, klen]
    have keep : ∀ {i : Nat} {p : Addr} {o : OB}, i ∉ refs ks → η1[i]? = some (Sl.ow p o) → H1 p ≠ none ∧ ¬ Own as p := fun {i p o} ni h => ⟨(c1.own ⟨i, o, h⟩).2, fun ow => by
      obtain ⟨i2, m, o2, h2⟩ := own_as ow
      exact ni (by rw [c1.ne _ _ _ _ _ h h2]; exact m)⟩
    have s2 : Stp F1 H1 η1 F' H' (backE ks as' η1) := by
      refine ⟨s.ff, fun p hp no => s.fr p hp fun ow => ?_, s.dm, fun p ⟨i, o, h⟩ => ?_⟩
      · obtain ⟨i, _, o, h⟩ := own_as ow
        exact no ⟨i, o, h⟩
      · rcases back_at kl h with ⟨j, h1, h2⟩ | ⟨h1, h2⟩
        · rcases s.ow p ⟨j, o, h2⟩ with h | h
          · obtain ⟨i, _, o, h⟩ := own_as h
            exact .inl ⟨i, o, h⟩
          · exact .inr h
        · exact .inl ⟨i, o, h2⟩
    have c2 : Cfg K F' H' σ (backE ks as' η1) := by
      refine ⟨c'.sub, by rw [back_len]; exact c1.len, fun i d h => ?_, fun i p o h => ?_, fun i j p o u h1 h2 => ?_⟩
      · rcases back_at kl h with ⟨j, h1, h2⟩ | ⟨h1, h2⟩
        · obtain ⟨v, g1, g2⟩ := ref_at a h1
          obtain ⟨v', g3, g4⟩ := c'.fz j d h2
          rw [g2] at g3
          cases g3
          exact ⟨v, g1, g4⟩
        · obtain ⟨v, g1, g2⟩ := c1.fz i d h2
          exact ⟨v, g1, g2.same s.ff⟩
      · rcases back_at kl h with ⟨j, h1, h2⟩ | ⟨h1, h2⟩
        · obtain ⟨v, g1, g2⟩ := ref_at a h1
          obtain ⟨g3, g4⟩ := c'.ow j p o h2
          rw [g2] at g3
          cases g3
          exact ⟨g1, g4⟩
        · obtain ⟨g1, g2, u, g3, g4⟩ := c1.ow i p o h2
          obtain ⟨hp, no⟩ := keep h1 h2
          obtain ⟨e1, e2⟩ := s.fr p hp no
          exact ⟨g1, e2.trans g2, u, e1.trans g3, g4.same s.ff⟩
      · have mix : ∀ {i j : Nat} {m : Nat} {o u : OB}, ks[m]? = some (Ak.ref i) → as'[m]? = some (Sl.ow p o) → j ∉ refs ks → η1[j]? = some (Sl.ow p u) → i = j := fun {i j m o u} k1 a1 nj ej => by
          obtain ⟨hp, no⟩ := keep nj ej
          rcases s.ow p ⟨m, o, a1⟩ with h | h
          · exact absurd h no
          · exact absurd h hp
        rcases back_at kl h1 with ⟨m, k1, a1⟩ | ⟨n1, e1⟩
        · rcases back_at kl h2 with ⟨n, k2, a2⟩ | ⟨n2, e2⟩
          · have := c'.ne _ _ _ _ _ a1 a2
            subst this
            rw [k1] at k2
            cases k2
            rfl
          · exact mix k1 a1 n2 e2
        · rcases back_at kl h2 with ⟨n, k2, a2⟩ | ⟨n2, e2⟩
          · exact (mix k2 a2 n1 e1).symm
          · exact c1.ne _ _ _ _ _ e1 e2
    refine hq F' H' _ v r (s1.trans s2) c2 ?_ q'
    cases r with
    | val d => exact ra
    | new o =>
      obtain ⟨p, u, g1, g2, g3, g4, g5, g6⟩ := ra
      refine ⟨p, u, g1, g2, fun ⟨i, w, h⟩ => ?_, g4, g5, ?_⟩
      · rcases back_at kl h with ⟨j, h1, h2⟩ | ⟨h1, h2⟩
        · exact g3 ⟨j, w, h2⟩
        · obtain ⟨hp, no⟩ := keep h1 h2
          exact g6.elim (fun z => hp z) no
      · rcases g6 with g6 | g6
        · exact .inl (s1.back g6)
        · obtain ⟨i, _, o', h⟩ := own_as g6
          exact (s1.ow p ⟨i, o', h⟩).symm
  · have s2 : Stp F1 H1 η1 F' H' (loseE ks η1) := by
      refine ⟨s.ff, fun p hp no => s.fr p hp fun ow => ?_, s.dm, fun p ⟨i, o, h⟩ => .inl ⟨i, o, (lose_at h (fun z => nomatch z)).2⟩⟩
      obtain ⟨i, _, o, h⟩ := own_as ow
      exact no ⟨i, o, h⟩
    have c2 : Cfg K F' H' σ (loseE ks η1) := by
      refine ⟨sub, by rw [lose_len]; exact c1.len, fun i d h => ?_, fun i p o h => ?_, fun i j p o u h1 h2 => ?_⟩
      · obtain ⟨n, h⟩ := lose_at h (fun z => nomatch z)
        obtain ⟨v, g1, g2⟩ := c1.fz i d h
        exact ⟨v, g1, g2.same s.ff⟩
      · obtain ⟨n, h⟩ := lose_at h (fun z => nomatch z)
        obtain ⟨g1, g2, u, g3, g4⟩ := c1.ow i p o h
        have no : ¬ Own as p := fun ow => by
          obtain ⟨i2, m, o2, h2⟩ := own_as ow
          exact n (by rw [c1.ne _ _ _ _ _ h h2]; exact m)
        obtain ⟨e1, e2⟩ := s.fr p (by rw [g3]; simp) no
        exact ⟨g1, e2.trans g2, u, e1.trans g3, g4.same s.ff⟩
      · exact c1.ne _ _ _ _ _ (lose_at h1 (fun z => nomatch z)).2 (lose_at h2 (fun z => nomatch z)).2
    exact hxE F' H' C dd fs gs s2 c2 ed rf x
def wCall (S : VSp) (wk : WK) : En → XW → (Rs → En → Prop) → Prop := fun η X Q => wk η X fun ks η1 => atCall S ks η1 (fun C gs => X C gs (loseE ks η1)) Q
/-- a call that lets nothing out -/
def wCall0 (S : VSp) (wk : WK) : En → XW → (Rs → En → Prop) → Prop := fun η _ Q => wk η (fun _ _ _ => False) fun ks η1 => atCall S ks η1 (fun _ _ => False) Q
theorem noOut {F H : Hp} {σ : L2.St} {η : En} : OutX K (fun _ _ _ _ => False) F H σ η (fun _ _ _ => False) := fun _ _ _ _ _ _ _ _ _ _ _ _ z => z
theorem vrs_call {S : VSp} {ta : TA} {wk : WK} {E : XK} (ha : VK K (fun _ _ _ _ => False) ta wk) : VRs K W (tCall (spV K S) [] E ta) (wCall0 S wk) := ⟨fun {F H σ η X Q R} c q hx hq =>
  ha.run (X := fun _ _ _ => False) c q noOut fun F1 H1 η1 vs ks s1 c1 a q1 => by
    show spV K S (vs ++ []) H1 R E
    rw [List.append_nil]
    exact call_run s1 c1 a q1 (fun _ _ _ _ _ _ _ _ _ _ z => z.elim) hq⟩
/-- where errors are let out -/
theorem vrs_callS {S : VSp} {ta : TA} {wk : WK} (ha : VK K W ta wk) : VRs K W (tCallS (spV K S) (WE W) ta) (wCall S wk) := ⟨fun {F H σ η X Q R} c q hx hq =>
  ha.run c q hx fun F1 H1 η1 vs ks s1 c1 a q1 => call_run s1 c1 a q1 (fun F' H' C dd fs gs s k e r x => hx F' H' σ _ C dd fs gs (s1.trans s) k e r x) hq⟩
/-- the result by value; the new object of it -/
def wResV (w : En → XW → (Rs → En → Prop) → Prop) : WD := fun η X Q => w η X fun r η1 => Q r.d η1
theorem VRs.ve {te : TE} {w : En → XW → (Rs → En → Prop) → Prop} (h : VRs K W te w) : VE K W te (wResV w) := ⟨fun {F H σ η X Q R} c q hx hq =>
  h.run c q hx fun F1 H1 η1 v r s1 c1 ra q1 => by
    cases r with
    | val d => exact hq _ _ _ _ _ s1 c1 ra q1
    | new o =>
      obtain ⟨p, u, rfl, nF, no, hp, r, n0⟩ := ra
      have s : Same F1 (upd F1 p u) := same_new nF
      have sub : Same (upd F1 p u) H1 := fun a w f => by
        by_cases z : a = p
        · subst z; rw [upd_same] at f; rw [← f]; exact hp
        · rw [upd_ne z] at f; exact c1.sub _ _ f
      have c2 : Cfg K (upd F1 p u) H1 σ η1 := c1.grow s sub fun b hb => ⟨rfl, by rw [upd_ne (fun z => no (by rw [← z]; exact hb))]; exact (c1.own hb).1⟩
      have s2 : Stp F H η (upd F1 p u) H1 η1 := ⟨s1.ff.trans s, fun a ha no => by
        obtain ⟨e1, e2⟩ := s1.fr a ha no
        have ne : a ≠ p := fun z => n0.elim (fun e => ha (z ▸ e)) (fun o => no (z ▸ o))
        exact ⟨e1, (upd_ne ne).trans e2⟩, s1.dm, s1.ow⟩
      refine hq _ _ _ _ _ s2 c2 ?_ q1
      cases r with
      | lst r => exact .lst upd_same (r.same s)
      | ins r => exact .ins upd_same (r.same s)
      | dic r => exact .dic upd_same (r.same s)⟩
def wResF (w : En → XW → (Rs → En → Prop) → Prop) : WF := fun η X Q => w η X fun r η1 => match r with
  | .new o => Q o η1
  | .val _ => False
theorem VRs.vf {te : TE} {w : En → XW → (Rs → En → Prop) → Prop} (h : VRs K W te w) : VF K W te (wResF w) := ⟨fun {F H σ η X Q R} c q hx hq =>
  h.run c q hx fun F1 H1 η1 v r s1 c1 ra q1 => by
    cases r with
    | val d => exact q1.elim
    | new o =>
      obtain ⟨p, u, rfl, nF, no, hp, r, n0⟩ := ra
      exact hq _ _ _ p u o s1 c1 nF no n0 hp r q1⟩
end
end Tw

namespace Tw
open PySem PySem.Spec PyProof.Rows L2
section
variable {K : PySem.W.Frag} {W : WX}
/-! ### two comparisons in a row; truth -/
def wChain (r r' : D → D → (D → Prop) → Prop) (wa wb wc : WD) : WD := fun η X Q => wa η X fun x η1 => wb η1 X fun y η2 => r x y fun z => match z with
  | .bl k => if k = true then wc η2 X fun u η3 => r' y u fun z => Q z η3 else Q (.bl false) η2
  | _ => False
theorem ve_chain {r r' : R2} {w w' : D → D → (D → Prop) → Prop} {ta tb tc : TE} {wa wb wc : WD} (ha : VE K W ta wa) (hb : VE K W tb wb) (hc : VE K W tc wc) (hr : VR2 K r w) (hr' : VR2 K r' w') : VE K W (tChain r r' ta tb tc) (wChain w w' wa wb wc) := ⟨fun c q hx hq =>
  ha.run c q hx fun _ _ _ x _ s1 c1 r1 q1 => hb.run c1 q1 (hx.on s1) fun _ _ _ y _ s2 c2 r2 q2 => hr.run c2 (r1.same s2.ff) r2 q2 fun _ _ z d s3 c3 r3 q3 => by
    cases r3 <;> first | exact q3.elim | skip
    rename_i k
    refine ⟨k, rfl, ?_⟩
    have s := (s1.trans s2).trans s3
    cases k with
    | true =>
      have q3 : wc _ _ _ := q3
      exact hc.run c3 q3 (hx.on s) fun _ _ _ u _ s4 c4 r4 q4 => hr'.run c4 ((r2.same s3.ff).same s4.ff) r4 q4 fun _ _ _ _ s5 c5 r5 q5 => hq _ _ _ _ _ ((s.trans s4).trans s5) c5 r5 q5
    | false => exact hq _ _ _ _ _ s c3 (.bl false) q3⟩
def wTruth (wa : WH) : WB := fun η X Q => wa η X fun h η1 => match seqAt h η1 with
  | some (_, ds) => Q (!ds.isEmpty) η1
  | none => False
theorem isE_len {α β : Type} {xs : List α} {ys : List β} (h : xs.length = ys.length) : xs.isEmpty = ys.isEmpty := by
  cases xs <;> cases ys <;> first | rfl | simp at h
theorem vt_truth {ta : TE} {wa : WH} (ha : VB K W ta wa) : VT K W (fun σ H Q => ta σ H fun x H' => ∃ k, TruV K x H' k ∧ Q k H') (wTruth wa) := ⟨fun c q hx hq =>
  ha.run c q hx fun _ _ _ v h s1 c1 r1 q1 => by
    split at q1
    · rename_i b ds e
      obtain ⟨a, vs, rfl, h1, h2, h3⟩ := r1.seq c1 e
      refine ⟨!vs.isEmpty, ?_, by rw [isE_len h3.len]; exact hq _ _ _ _ s1 c1 q1⟩
      cases b with
      | true => exact .inl ⟨vs, h1 rfl, rfl⟩
      | false => exact .inr (.inl ⟨vs, h2 rfl, rfl⟩)
    · exact q1.elim⟩
/-! ### fields -/
def wFld (C : Addr) (f : Str) (wa : WD) : WD := fun η X Q => wa η X fun x η1 => match x with
  | .ins C' gs => C' = C ∧ ∃ d, gs.lookup f = some d ∧ Q d η1
  | _ => False
theorem ve_fld {C : Addr} {f : Str} {ta : TE} {wa : WD} (cl : Cls K C) (na : NoAttr K C f) (ha : VE K W ta wa) : VE K W (tFld K ta f) (wFld C f wa) := ⟨fun c q hx hq =>
  ha.run c q hx fun _ _ _ x d s1 c1 r1 q1 => by
    cases r1 <;> first | exact q1.elim | skip
    rename_i a C' dx fs gs h1 h2
    obtain ⟨rfl, d, e, q1⟩ := q1
    obtain ⟨v, e2, r2⟩ := h2.look e
    exact ⟨a, C', dx, fs, v, rfl, c1.sub _ _ h1, cl, na, e2, hq _ _ _ _ _ s1 c1 r2 q1⟩⟩
/-- a constant of the class, read through an instance -/
def wCon (C : Addr) (f : Str) (d : D) (wa : WD) : WD := fun η X Q => wa η X fun x η1 => match x with
  | .ins C' gs => (C' = C ∧ gs.lookup f = none) ∧ Q d η1
  | _ => False
theorem ve_con {C : Addr} {f : Str} {v : V} {u : Value} {d : D} {ta : TE} {wa : WD} (cl : Cls K C) (na : L2.Con K C f v u) (hd : ∀ F, Rp K F v d) (ha : VE K W ta wa) : VE K W (tCon K ta f) (wCon C f d wa) := ⟨fun c q hx hq =>
  ha.run c q hx fun _ _ _ x d s1 c1 r1 q1 => by
    cases r1 <;> first | exact q1.elim | skip
    rename_i a C' dx fs gs h1 h2
    obtain ⟨⟨rfl, e⟩, q1⟩ := q1
    exact ⟨a, C', dx, fs, v, u, rfl, c1.sub _ _ h1, cl, na, h2.none e, hq _ _ _ _ _ s1 c1 (hd _) q1⟩⟩
theorem ve_cval {C : Addr} {mc : Value} {f : Str} {v : V} {u : Value} {d : D} (r : ClX.CRead K C mc) (k : ClX.CVal K C mc f v u) (hd : ∀ F, Rp K F v d) : VE K W (ClX.tCVal K (tC (.ref C)) f) (wC d) := ⟨fun c q hx hq => ⟨C, mc, v, u, rfl, r, k, hq _ _ _ _ _ .refl c (hd _) q⟩⟩
def putD (f : Str) (d : D) : List (Str × D) → List (Str × D)
  | [] => [(f, d)]
  | (g, x) :: r => if g = f then (g, d) :: r else (g, x) :: putD f d r
theorem RpF.put {F : Hp} {f : Str} {v : V} {d : D} (h : Rp K F v d) : ∀ {fs : List (Str × V)} {gs : List (Str × D)}, RpF K F fs gs → RpF K F (putF f v fs) (putD f d gs)
  | _, _, .nil => .cons h .nil
  | _, _, .cons (f := g) r t => by
    unfold putF putD
    by_cases e : g = f
    · rw [if_pos e, if_pos e]; exact .cons h t
    · rw [if_neg e, if_neg e]; exact .cons r (RpF.put h t)
/-- self.f = e, self the object that is made -/
def wSetFld (i : Nat) (C : Addr) (f : Str) (wv : WD) : WS := fun E X η => wv η X fun d η1 => match η1[i]? with
  | some (.ow q (.ins C' dx gs)) => (C' = C ∧ gs.length < 1000) ∧ E.nx (η1.set i (.ow q (.ins C' dx (putD f d gs))))
  | _ => False
theorem vs_setFld {i : Nat} {C : Addr} {f : Str} {tv : TE} {wv : WD} (cl : Cls K C) (na : NoAttr K C f) (hv : VE K W tv wv) : VS K W (sFld K (tVar i) tv f) (wSetFld i C f wv) := ⟨fun {F H σ η E X Dd} c q k =>
  hv.run c q k.out fun F1 H1 η1 v d s1 c1 r1 q1 => by
    split at q1
    · rename_i q0 C' dx gs e
      obtain ⟨⟨rfl, hl⟩, q1⟩ := q1
      obtain ⟨g1, g2, u, g3, g4⟩ := c1.ow i q0 _ e
      cases g4 with
      | ins g4 =>
        obtain ⟨c2, s2⟩ := c1.write (h := .ins C' dx _) e (.ins (g4.put (f := f) r1))
        exact ⟨_, g1, q0, C', dx, _, rfl, g3, cl, na, by rw [g4.len]; exact hl, k.nx _ _ _ _ (s1.trans s2) c2 q1⟩
    · exact q1.elim⟩
/-! ### methods, properties -/
def wkProp (C : Addr) (wa : WD) : WK := fun η X Q => wa η X fun d η1 => match d with
  | .ins C' gs => C' = C ∧ Q [.val (.ins C' gs)] η1
  | _ => False
theorem vrs_prop {C : Addr} {S : VSp} {ta : TE} {wa : WD} {E : XK} (ha : VE K (fun _ _ _ _ => False) ta wa) : VRs K W (tProp C (spV K S) [] E ta) (wCall0 S (wkProp C wa)) := ⟨fun {F H σ η X Q R} c q hx hq =>
  ha.run (X := fun _ _ _ => False) c q noOut fun F1 H1 η1 v d s1 c1 r q1 => by
    cases r <;> first | exact q1.elim | skip
    rename_i a C' dx fs gs h1 h2
    obtain ⟨rfl, q1⟩ := q1
    exact ⟨a, dx, fs, rfl, c1.sub _ _ h1, call_run s1 c1 (.val (.ins h1 h2) .nil) q1 (fun _ _ _ _ _ _ _ _ _ _ z => z.elim) hq⟩⟩
/-- the object, then the arguments -/
def wkObj (C : Addr) (m : Str) (wa : WD) (wk : WK) : WK := fun η X Q => wa η X fun d η1 => match d with
  | .ins C' gs => (C' = C ∧ gs.lookup m = none) ∧ wk η1 X fun ks η2 => Q (.val (.ins C' gs) :: ks) η2
  | _ => False
theorem vrs_meth {C : Addr} {m : Str} {S : VSp} {ta : TE} {t : TA} {wa : WD} {wk : WK} {E : XK} (ha : VE K (fun _ _ _ _ => False) ta wa) (hk : VK K (fun _ _ _ _ => False) t wk) : VRs K W (tMeth C m (spV K S) [] E ta t) (wCall0 S (wkObj C m wa wk)) := ⟨fun {F H σ η X Q R} c q hx hq =>
  ha.run (X := fun _ _ _ => False) c q noOut fun F1 H1 η1 v d s1 c1 r q1 => by
    cases r <;> first | exact q1.elim | skip
    rename_i a C' dx fs gs h1 h2
    obtain ⟨⟨rfl, e⟩, q1⟩ := q1
    refine ⟨a, dx, fs, rfl, c1.sub _ _ h1, h2.none e, hk.run (X := fun _ _ _ => False) c1 q1 noOut fun F2 H2 η2 vs ks s2 c2 r2 q2 => ?_⟩
    rw [List.append_nil]
    exact call_run (s1.trans s2) c2 (.val (Rp.same s2.ff (.ins h1 h2)) r2) q2 (fun _ _ _ _ _ _ _ _ _ _ z => z.elim) hq⟩
/-- a wish of errors, whatever the slots hold -/
structure Lets (W : WX) (n : Nat) (E : XK) : Prop where
  ok : ∀ C d H, (∀ σ : L2.St, σ.length = n → W (.ref C) (some d) σ H) → E (.ref C) (some d) H
def noS (n : Nat) : En := List.replicate n .no
theorem noS_at {n i : Nat} {s : Sl} (e : (noS n)[i]? = some s) : s = .no := by
  unfold noS at e
  rw [List.getElem?_replicate] at e
  split at e
  · cases e; rfl
  · cases e
theorem cfg_noS {F H : Hp} {σ : L2.St} {n : Nat} (s : Same F H) (h : σ.length = n) : Cfg K F H σ (noS n) :=
  ⟨s, by unfold noS; rw [List.length_replicate]; exact h.symm, fun i d e => (by cases noS_at e), fun i q o e => (by cases noS_at e), fun i j q o u e _ => (by cases noS_at e)⟩
theorem stp_noS {F H F' H' : Hp} {η η' : En} {n : Nat} (s : Stp F H η F' H' η') : Stp F H η F' H' (noS n) := ⟨s.ff, s.fr, s.dm, fun a ⟨i, o, h⟩ => (by cases noS_at h)⟩
theorem let_out {n : Nat} {E : XK} (le : Lets W n E) {F H F1 H1 : Hp} {σ : L2.St} {η η1 : En} {X : XW} (hx : OutX K W F H σ η X) (s1 : Stp F H η F1 H1 η1) {η2 : En} : ∀ F' H' C dd fs gs, Stp F1 H1 η1 F' H' η2 → Cfg K F' H' σ η2 → F' dd = some (.xd fs) → RpF K F' fs gs → X C gs (noS n) → E (.ref C) (some dd) H' := fun F' H' C dd fs gs s k e r x =>
  le.ok C dd H' fun σ' hl => hx F' H' σ' (noS n) C dd fs gs (stp_noS (s1.trans s)) (cfg_noS k.sub hl) e r x
def wCallN (n : Nat) (S : VSp) (wk : WK) : En → XW → (Rs → En → Prop) → Prop := fun η X Q => wk η X fun ks η1 => atCall S ks η1 (fun C gs => X C gs (noS n)) Q
/-- a method that may raise -/
theorem vrs_methX {n : Nat} {C : Addr} {m : Str} {S : VSp} {ta : TE} {t : TA} {wa : WD} {wk : WK} {E : XK} (le : Lets W n E) (ha : VE K W ta wa) (hk : VK K W t wk) : VRs K W (tMeth C m (spV K S) [] E ta t) (wCallN n S (wkObj C m wa wk)) := ⟨fun {F H σ η X Q R} c q hx hq =>
  ha.run c q hx fun F1 H1 η1 v d s1 c1 r q1 => by
    cases r <;> first | exact q1.elim | skip
    rename_i a C' dx fs gs h1 h2
    obtain ⟨⟨rfl, e⟩, q1⟩ := q1
    refine ⟨a, dx, fs, rfl, c1.sub _ _ h1, h2.none e, hk.run c1 q1 (hx.on s1) fun F2 H2 η2 vs ks s2 c2 r2 q2 => ?_⟩
    rw [List.append_nil]
    exact call_run (s1.trans s2) c2 (.val (Rp.same s2.ff (.ins h1 h2)) r2) q2 (let_out le hx (s1.trans s2)) hq⟩
theorem vrs_propX {n : Nat} {C : Addr} {S : VSp} {ta : TE} {wa : WD} {E : XK} (le : Lets W n E) (ha : VE K W ta wa) : VRs K W (tProp C (spV K S) [] E ta) (wCallN n S (wkProp C wa)) := ⟨fun {F H σ η X Q R} c q hx hq =>
  ha.run c q hx fun F1 H1 η1 v d s1 c1 r q1 => by
    cases r <;> first | exact q1.elim | skip
    rename_i a C' dx fs gs h1 h2
    obtain ⟨rfl, q1⟩ := q1
    exact ⟨a, dx, fs, rfl, c1.sub _ _ h1, call_run s1 c1 (.val (.ins h1 h2) .nil) q1 (let_out le hx s1) hq⟩⟩
/-- a classmethod of the class at C -/
def wkCls (C : Addr) (wk : WK) : WK := fun η X Q => wk η X fun ks η2 => Q (.val (.cls C) :: ks) η2
theorem vrs_cmX {n : Nat} {C : Addr} {S : VSp} {t : TA} {wk : WK} {E : XK} (le : Lets W n E) (hk : VK K W t wk) : VRs K W (ClX.tCMeth C (spV K S) E (tC (.ref C)) t) (wCallN n S (wkCls C wk)) := ⟨fun {F H σ η X Q R} c q hx hq =>
  ⟨rfl, hk.run c q hx fun F2 H2 η2 vs ks s2 c2 r2 q2 => call_run s2 c2 (.val (.cls C) r2) q2 (let_out le hx s2) hq⟩⟩
theorem vrs_cm0 {C : Addr} {S : VSp} {t : TA} {wk : WK} {E : XK} (hk : VK K (fun _ _ _ _ => False) t wk) : VRs K W (ClX.tCMeth C (spV K S) E (tC (.ref C)) t) (wCall0 S (wkCls C wk)) := ⟨fun {F H σ η X Q R} c q hx hq =>
  ⟨rfl, hk.run (X := fun _ _ _ => False) c q noOut fun F2 H2 η2 vs ks s2 c2 r2 q2 => call_run s2 c2 (.val (.cls C) r2) q2 (fun _ _ _ _ _ _ _ _ _ _ z => z.elim) hq⟩⟩
/-! ### a new instance -/
/-- what __init__ is asked: the empty instance, then the arguments -/
def wMake (C : Addr) (S : VSp) (wk : WK) (n : Nat) : WF := fun η X Q => wk η X fun ks η1 => ∀ x dx, atCall S (.ref η1.length :: ks) (η1 ++ [.ow x (.ins C dx [])]) (fun C gs => X C gs (noS n)) (fun r η' => match r, η'.getLast? with
  | .val .non, some (.ow _ (.ins C' dy gs)) => Q (.ins C' dy gs) η'.dropLast
  | _, _ => False)
theorem own_app {η : En} {s : Sl} {a : Addr} (h : Own (η ++ [s]) a) : Own η a ∨ ∃ o, s = .ow a o := by
  obtain ⟨i, o, e⟩ := h
  by_cases l : i < η.length
  · rw [List.getElem?_append_left l] at e
    exact .inl ⟨i, o, e⟩
  · rw [List.getElem?_append_right (by omega)] at e
    cases h : i - η.length with
    | zero => rw [h] at e; cases e; exact .inr ⟨o, rfl⟩
    | succ k => rw [h] at e; simp at e
theorem own_appL {η : En} {s : Sl} {a : Addr} (h : Own η a) : Own (η ++ [s]) a := by
  obtain ⟨i, o, e⟩ := h
  exact ⟨i, o, by rw [List.getElem?_append_left (List.getElem?_eq_some_iff.mp e).1]; exact e⟩
/-- one slot more, and away with it -/
theorem Cfg.more {F H : Hp} {σ : L2.St} {η : En} {x : Addr} {o : OB} {h : HO} (c : Cfg K F H σ η) (nF : F x = none) (no : ¬ Own η x) (hx : H x = some h) (r : RpO K F h o) : Cfg K F H (σ ++ [some (.ref x)]) (η ++ [.ow x o]) := by
  have at_ : ∀ {i : Nat} {s : Sl}, (η ++ [Sl.ow x o])[i]? = some s → (η[i]? = some s ∧ i < η.length) ∨ (i = η.length ∧ s = .ow x o) := fun {i s} e => by
    by_cases l : i < η.length
    · rw [List.getElem?_append_left l] at e
      exact .inl ⟨e, l⟩
    · rw [List.getElem?_append_right (by omega)] at e
      cases h : i - η.length with
      | zero => rw [h] at e; cases e; exact .inr ⟨by omega, rfl⟩
      | succ k => rw [h] at e; simp at e
  have sl : ∀ {i : Nat}, i < η.length → (σ ++ [some (V.ref x)])[i]? = σ[i]? := fun {i} l => List.getElem?_append_left (by rw [← c.len]; exact l)
  refine ⟨c.sub, by rw [List.length_append, List.length_append, c.len]; rfl, fun i d e => ?_, fun i q u e => ?_, fun i j q u w e1 e2 => ?_⟩
  · rcases at_ e with ⟨e, l⟩ | ⟨_, e⟩
    · rw [sl l]; exact c.fz i d e
    · cases e
  · rcases at_ e with ⟨e, l⟩ | ⟨rfl, e3⟩
    · rw [sl l]; exact c.ow i q u e
    · cases e3
      refine ⟨?_, nF, h, hx, r⟩
      rw [c.len, List.getElem?_append_right (Nat.le_refl _), Nat.sub_self]
      rfl
  · rcases at_ e1 with ⟨e1, l1⟩ | ⟨i1, e1⟩
    · rcases at_ e2 with ⟨e2, l2⟩ | ⟨i2, e2⟩
      · exact c.ne i j q u w e1 e2
      · cases e2; exact absurd ⟨i, u, e1⟩ no
    · rcases at_ e2 with ⟨e2, l2⟩ | ⟨i2, e2⟩
      · cases e1; exact absurd ⟨j, w, e2⟩ no
      · exact i1.trans i2.symm
theorem Cfg.less {F H : Hp} {σ : L2.St} {η : En} {x : V} {s : Sl} (c : Cfg K F H (σ ++ [some x]) (η ++ [s])) : Cfg K F H σ η := by
  have ln : η.length = σ.length := by
    have := c.len
    rw [List.length_append, List.length_append] at this
    simpa using this
  have up : ∀ {i : Nat} {t : Sl}, η[i]? = some t → (η ++ [s])[i]? = some t ∧ (σ ++ [some x])[i]? = σ[i]? := fun {i t} e => by
    have l := (List.getElem?_eq_some_iff.mp e).1
    exact ⟨by rw [List.getElem?_append_left l]; exact e, List.getElem?_append_left (by rw [← ln]; exact l)⟩
  refine ⟨c.sub, ln, fun i d e => ?_, fun i q u e => ?_, fun i j q u w e1 e2 => c.ne i j q u w (up e1).1 (up e2).1⟩
  · obtain ⟨e1, e2⟩ := up e
    rw [← e2]; exact c.fz i d e1
  · obtain ⟨e1, e2⟩ := up e
    rw [← e2]; exact c.ow i q u e1
theorem AkAt.more {F : Hp} {σ : L2.St} {x : Option V} : ∀ {vs : List V} {ks : List Ak}, AkAt K F σ vs ks → AkAt K F (σ ++ [x]) vs ks
  | _, _, .nil => .nil
  | _, _, .val h r => .val h (r.more)
  | _, _, .ref h r => .ref (by rw [List.getElem?_append_left (List.getElem?_eq_some_iff.mp h).1]; exact h) (r.more)
theorem make_run {n : Nat} {C : Addr} {S : VSp} {F H F1 H1 : Hp} {σ : L2.St} {η η1 : En} {X : XW} {Q : OB → En → Prop} {R : L2.VK} {E : XK} {vs : List V} {ks : List Ak} (le : Lets W n E) (s1 : Stp F H η F1 H1 η1) (c1 : Cfg K F1 H1 σ η1) (ak : AkAt K F1 σ vs ks)
    {x dx : Addr} (q1 : atCall S (.ref η1.length :: ks) (η1 ++ [.ow x (.ins C dx [])]) (fun C gs => X C gs (noS n)) (fun r η' => match r, η'.getLast? with
      | .val .non, some (.ow _ (.ins C' dy gs)) => Q (.ins C' dy gs) η'.dropLast
      | _, _ => False)) (hx : OutX K W F H σ η X)
    (hq : ∀ F' H' η' q h o, Stp F H η F' H' η' → Cfg K F' H' σ η' → F' q = none → ¬ Own η' q → (H q = none ∨ Own η q) → H' q = some h → RpO K F' h o → Q o η' → R (.ref q) H') (nx : H1 x = none) (nd : H1 dx = none) (ne : dx ≠ x) :
    spV K S (.ref x :: vs) (upd (upd H1 dx (.own x)) x (.ins C dx [])) (fun v H2 => v = .non ∧ R (.ref x) H2) E := by
  obtain ⟨ca, sa, nFd⟩ := c1.lay (o := .own x) nd
  have nx' : upd H1 dx (.own x) x = none := by rw [upd_ne ne.symm]; exact nx
  obtain ⟨cb, sb, nFx⟩ := ca.lay (o := .ins C dx []) nx'
  have no : ¬ Own η1 x := ca.unown nx'
  have cm := cb.more (o := .ins C dx []) nFx no upd_same (.ins .nil)
  have sab := sa.trans sb
  -- from the call's slots back to ours
  have back : ∀ {F' H' : Hp} {η' : En} {u : Sl}, Stp F1 (upd (upd H1 dx (.own x)) x (.ins C dx [])) (η1 ++ [Sl.ow x (.ins C dx [])]) F' H' (η' ++ [u]) → Stp F1 H1 η1 F' H' η' ∨ True := fun _ => .inr trivial
  have stp : ∀ {F' H' : Hp} {η' η2 : En}, Stp F1 (upd (upd H1 dx (.own x)) x (.ins C dx [])) (η1 ++ [Sl.ow x (.ins C dx [])]) F' H' η' → (∀ a, Own η2 a → Own η' a ∧ a ≠ x) → Stp F1 H1 η1 F' H' η2 := fun {F' H' η' η2} s o => by
    refine ⟨s.ff, fun a ha na => ?_, fun a ha => ?_, fun a ha => ?_⟩
    · have n1 : a ≠ x := fun z => ha (z ▸ nx)
      have n2 : a ≠ dx := fun z => ha (z ▸ nd)
      have e : upd (upd H1 dx (.own x)) x (.ins C dx []) a = H1 a := by rw [upd_ne n1, upd_ne n2]
      obtain ⟨e1, e2⟩ := s.fr a (by rw [e]; exact ha) fun ow => by
        rcases own_app ow with h | ⟨w, h⟩
        · exact na h
        · cases h; exact n1 rfl
      exact ⟨e1.trans e, e2⟩
    · exact s.dm a (sab.dm a ha)
    · obtain ⟨oa, nax⟩ := o a ha
      rcases s.ow a oa with h | h
      · rcases own_app h with h | ⟨w, h⟩
        · exact .inl h
        · cases h; exact absurd rfl nax
      · exact .inr (sab.back h)
  have s0 : Stp F1 (upd (upd H1 dx (.own x)) x (.ins C dx [])) (η1 ++ [Sl.ow x (.ins C dx [])]) F1 (upd (upd H1 dx (.own x)) x (.ins C dx [])) (η1 ++ [Sl.ow x (.ins C dx [])]) := .refl
  refine call_run (S := S) (ks := .ref η1.length :: ks) s0 cm (.ref (by rw [c1.len, List.getElem?_append_right (Nat.le_refl _), Nat.sub_self]; rfl) ak.more) q1 (fun F' H' C' dd fs gs s k ed rf xx => ?_) (fun F' H' η' v r s k ra qq => ?_)
  · refine le.ok C' dd H' fun σ' hl => hx F' H' σ' (noS n) C' dd fs gs (s1.trans ⟨s.ff, fun a ha na => ?_, fun a ha => s.dm a (sab.dm a ha), fun a ⟨i, o, h⟩ => (by cases noS_at h)⟩) (cfg_noS k.sub hl) ed rf xx
    have n1 : a ≠ x := fun z => ha (z ▸ nx)
    have n2 : a ≠ dx := fun z => ha (z ▸ nd)
    have e : upd (upd H1 dx (.own x)) x (.ins C dx []) a = H1 a := by rw [upd_ne n1, upd_ne n2]
    obtain ⟨e1, e2⟩ := s.fr a (by rw [e]; exact ha) fun ow => by
      rcases own_app ow with h | ⟨w, h⟩
      · exact na h
      · cases h; exact n1 rfl
    exact ⟨e1.trans e, e2⟩
  · split at qq
    case h_2 => exact qq.elim
    rename_i y C' dy gs el
    have eη : η' = η'.dropLast ++ [Sl.ow y (.ins C' dy gs)] := by
      have ne0 : η' ≠ [] := fun z => by rw [z] at el; cases el
      have := List.dropLast_concat_getLast ne0
      rw [List.getLast?_eq_some_getLast ne0] at el
      rw [Option.some.inj el] at this
      exact this.symm
    generalize η'.dropLast = η2 at eη qq
    subst eη
    have kl := k.len
    have l2 : η2.length = σ.length := by
      rw [List.length_append, List.length_append] at kl
      simpa using kl
    have atl : (η2 ++ [Sl.ow y (.ins C' dy gs)])[η2.length]? = some (Sl.ow y (.ins C' dy gs)) := by rw [List.getElem?_append_right (Nat.le_refl _), Nat.sub_self]; rfl
    obtain ⟨g1, g2, h, g3, g4⟩ := k.ow _ _ _ atl
    rw [l2, List.getElem?_append_right (Nat.le_refl _), Nat.sub_self] at g1
    have hy : y = x := by cases g1; rfl
    subst hy
    have nox : ¬ Own η2 y := fun ⟨i, o, e⟩ => by
      have l := (List.getElem?_eq_some_iff.mp e).1
      have e' : (η2 ++ [Sl.ow y (.ins C' dy gs)])[i]? = some (Sl.ow y o) := by rw [List.getElem?_append_left l]; exact e
      have := k.ne _ _ _ _ _ e' atl
      omega
    have cless : Cfg K F' H' σ η2 := Cfg.less k
    have rv : v = .non := by
      have ra : Rp K F' v .non := ra
      cases ra
      rfl
    refine ⟨rv, hq F' H' η2 y h _ (s1.trans (stp s fun a oa => ⟨own_appL oa, fun z => nox (z ▸ oa)⟩)) cless g2 nox (.inl (s1.back nx)) g3 g4 qq⟩
theorem vf_make {n : Nat} {C : Addr} {S : VSp} {t : TA} {wk : WK} {E : XK} (le : Lets W n E) (hk : VK K W t wk) : VF K W (tMake C (spV K S) [] E t) (wMake C S wk n) := ⟨fun {F H σ η X Q R} c q hx hq =>
  hk.run c q hx fun F1 H1 η1 vs ks s1 c1 ak q1 x dx nx nd ne => by
    rw [List.append_nil]
    exact make_run le s1 c1 ak (q1 x dx) hx hq nx nd ne⟩
theorem vf_mkL {i n : Nat} {C : Addr} {S : VSp} {t : TA} {wk : WK} {E : XK} (le : Lets W n E) (hk : VK K W t wk) : VF K W (tMkL i C (spV K S) E t) (fun η X Q => η[i]? = some (.fz (.cls C)) ∧ wMake C S wk n η X Q) := ⟨fun {F H σ η X Q R} c ⟨e0, q⟩ hx hq => by
  obtain ⟨v, h1, h2⟩ := c.fz i _ e0
  cases h2
  refine ⟨h1, hk.run c q hx fun F1 H1 η1 vs ks s1 c1 ak q1 x dx nx nd ne => ?_⟩
  rw [List.append_nil]
  exact make_run le s1 c1 ak (q1 x dx) hx hq nx nd ne⟩
theorem lets_def {n : Nat} {E : XK} : Lets (fun cls d _ H => E cls d H) n E := ⟨fun C d H h => h (List.replicate n none) List.length_replicate⟩
theorem lets_try {X : Cx} {W : WX} : Lets W X.N.length (fun cls d H => ∀ σ : L2.St, σ.length = X.N.length → W cls d σ H) := ⟨fun _ _ _ h => h⟩
theorem lets_no {n : Nat} {E : XK} : Lets (fun _ _ _ _ => False) n E := ⟨fun C d H h => (h (List.replicate n none) List.length_replicate).elim⟩
/-! ### raise, try -/
def okMsgD : D → Prop
  | .int i => i.natAbs.log2 < 1920
  | .str z => z.length ≤ 100000
  | _ => False
def okMsgs : List D → Prop
  | [] => True
  | d :: ds => okMsgD d ∧ okMsgs ds
theorem okMsgs_at {F : Hp} : ∀ {ys : List V} {ds : List D}, RpL K F ys ds → okMsgs ds → ∀ y ∈ ys, okMsg y
  | _, _, .nil, _, y, h => by cases h
  | _, _, .cons r t, ⟨o, os⟩, y, h => by
    rcases List.mem_cons.mp h with rfl | h
    · cases r <;> first | exact o.elim | skip
      · exact .inl ⟨_, rfl, o⟩
      · exact .inr ⟨_, rfl, o⟩
    · exact okMsgs_at t os y h
def errD (fl : List Str) (ds : List D) : List (Str × D) := (fl.zip ds).reverse
theorem RpF.zip {F : Hp} : ∀ {fl : List Str} {ys : List V} {ds : List D}, RpL K F ys ds → RpF K F (fl.zip ys) (fl.zip ds)
  | [], _, _, _ => by rw [List.zip_nil_left, List.zip_nil_left]; exact .nil
  | _ :: _, _, _, .nil => .nil
  | f :: fl, _, _, .cons r t => .cons r (RpF.zip t)
theorem RpF.app {F : Hp} : ∀ {fs es : List (Str × V)} {gs hs : List (Str × D)}, RpF K F fs gs → RpF K F es hs → RpF K F (fs ++ es) (gs ++ hs)
  | _, _, _, _, .nil, s => s
  | _, _, _, _, .cons r t, s => .cons r (RpF.app t s)
theorem RpF.rev {F : Hp} : ∀ {fs : List (Str × V)} {gs : List (Str × D)}, RpF K F fs gs → RpF K F fs.reverse gs.reverse
  | _, _, .nil => .nil
  | _, _, .cons r t => by
    rw [List.reverse_cons, List.reverse_cons]
    exact (RpF.rev t).app (.cons r .nil)
def wRaise (C : Addr) (fl : List Str) (wa : WA) : WS := fun _ X η => wa η X fun ds η1 => if ds.length = fl.length ∧ ds.length ≤ 1000 then okMsgs ds ∧ X C (errD fl ds) η1 else False
theorem vs_raise {C : Addr} {fl : List Str} {ta : TA} {wa : WA} (ha : VA K W ta wa) : VS K W (fun _ σ H => tErr C fl ta σ H fun cls d H' => W cls d σ H') (wRaise C fl wa) := ⟨fun {F H σ η E X Dd} c q k =>
  ha.run c q k.out fun F1 H1 η1 ys ds s1 c1 r1 q1 => by
    split at q1
    · rename_i hl
      refine ⟨by rw [r1.len]; exact hl.1, by rw [r1.len]; exact hl.2, okMsgs_at r1 q1.1, fun d nd => ?_⟩
      obtain ⟨c2, s2⟩ := c1.new (o := .xd (errF fl ys)) nd
      exact k.ox _ _ σ _ C d _ _ (s1.trans s2) c2 upd_same ((RpF.zip r1).rev.same s2.ff) q1.2
    · exact q1.elim⟩
theorem Cfg.unset {F H : Hp} {σ : L2.St} {η : En} (c : Cfg K F H σ η) (i : Nat) : Cfg K F H (σ.set i none) (η.set i .no) := by
  refine ⟨c.sub, by rw [List.length_set, List.length_set]; exact c.len, fun j d e => ?_, fun j q o e => ?_, fun j k q o u e1 e2 => ?_⟩
  · rcases set_at e with ⟨_, e⟩ | ⟨n, e⟩
    · cases e
    · rw [List.getElem?_set, if_neg n]; exact c.fz j d e
  · rcases set_at e with ⟨_, e⟩ | ⟨n, e⟩
    · cases e
    · rw [List.getElem?_set, if_neg n]; exact c.ow j q o e
  · rcases set_at e1 with ⟨_, e⟩ | ⟨_, e1⟩
    · cases e
    · rcases set_at e2 with ⟨_, e⟩ | ⟨_, e2⟩
      · cases e
      · exact c.ne j k q o u e1 e2
/-- try: .. except c as (slot i): .. -/
def wTry (K : PySem.W.Frag) (c : Value) (i : Nat) (wb : WS) (ws : Addr → Addr → Addr → WS) : WS := fun E X η => wb E (fun C gs η1 => ∃ b, PySem.W.exmOne K (.ref C) c = some b ∧
  (b = true → (match η1[i]? with | some _ => True | none => False) ∧ ∀ a dd, ws a dd C { nx := fun η2 => E.nx (η2.set i .no), rt := E.rt, bk := fun η2 => E.bk (η2.set i .no), ct := fun η2 => E.ct (η2.set i .no) } X (η1.set i (.fz (.exc a dd C gs)))) ∧ (b = false → X C gs η1)) η
theorem vs_try {c : Value} {i : Nat} {tb : WX → TS} {ts : Addr → Value → Option Addr → TS} {Wout : WX} {wb : WS} {ws : Addr → Addr → Addr → WS} (hb : ∀ W : WX, VS K W (tb W) wb) (hs : ∀ a dd C, VS K Wout (ts a (.ref C) (some dd)) (ws a dd C)) :
    VS K Wout (fun Dd σ H => tb (wAs K c i ts Wout Dd) Dd σ H) (wTry K c i wb ws) := ⟨fun {F H σ η E X Dd} cf q k => by
  refine (hb _).run cf q ⟨k.nx, k.rt, k.bk, k.ct, fun F' H' σ' η' C dd fs gs s c' ed rf ⟨b, eb, h1, h2⟩ => ?_⟩
  refine ⟨b, eb, fun hb a na => ?_, fun hb => k.ox F' H' σ' η' C dd fs gs s c' ed rf (h2 hb)⟩
  obtain ⟨hi, h1⟩ := h1 hb
  have il : i < σ'.length := by
    split at hi
    · rename_i sl e
      rw [← c'.len]; exact (List.getElem?_eq_some_iff.mp e).1
    · exact hi.elim
  have k' := k.on s
  refine (hs a dd C).run (c'.put i il (.exc ed rf)) (h1 a dd) ⟨fun F2 H2 σ2 η2 s2 c2 w2 => ?_, fun F2 H2 σ2 η2 v r s2 c2 ra w2 => ?_, fun F2 H2 σ2 η2 s2 c2 w2 => ?_, fun F2 H2 σ2 η2 s2 c2 w2 => ?_, fun F2 H2 σ2 η2 C2 dd2 fs2 gs2 s2 c2 e2 r2 w2 => ?_⟩
  · exact k'.nx _ _ _ _ (((Stp.put i).trans s2).trans (Stp.drop i)) (c2.unset i) w2
  · exact k'.rt _ _ _ _ _ r ((Stp.put i).trans s2) c2 (RsAt.on (F0 := F') (F1 := F') (H0 := H') (H1 := H') (Stp.put i) ra) w2
  · exact k'.bk _ _ _ _ (((Stp.put i).trans s2).trans (Stp.drop i)) (c2.unset i) w2
  · exact k'.ct _ _ _ _ (((Stp.put i).trans s2).trans (Stp.drop i)) (c2.unset i) w2
  · exact k'.ox _ _ _ _ _ _ _ _ ((Stp.put i).trans s2) c2 e2 r2 w2⟩
end
end Tw

namespace Tw
open PySem PySem.Spec PyProof.Rows L2
/-! ### == by an own __eq__, of two instances of one class -/
def rEqOwn (C : Addr) (sp : Sp) (E : XK) : R2 := fun x y H Q => ∃ a b dx dy fs gs, x = .ref a ∧ y = .ref b ∧ H a = some (.ins C dx fs) ∧ H b = some (.ins C dy gs) ∧ sp [x, y] H Q E
theorem op_eqOwn {X : Cx} {CX : CXT} {n : Nat} {C f : Addr} {fd : FuncData} {ps : List Str} {sp : Sp} {E : XK} (F : FnOk X.prog X.w X.K X.mg X.base CX n f fd ps sp)
    (hs : PySem.W.findIn X.K (.ref C) "__eq__" = some (some (.ref f))) (hf : PySem.W.isFn X.K (.ref f) = true) (hb : Binds X.K fd ps []) (hx : Passes CX X E) (room : Room n X.A) : OpR X (compareOp .Eq) (rEqOwn C sp E) := by
  intro pins s σ H x y v u Q I rx ry d
  obtain ⟨a, b, dx, dy, fs, gs, rfl, rfl, ha, hb', hsp⟩ := d
  cases rx
  cases ry
  obtain ⟨mA, J, _⟩ := ins_get I.hok ha
  obtain ⟨mB, J', _⟩ := ins_get I.hok hb'
  obtain ⟨od, J, _⟩ := J.look
  obtain ⟨od', J', _⟩ := J'.look
  obtain ⟨m, hF⟩ := I.fr
  show wpAny (model X.prog X.w) X.A (richCompare .Eq (.ref a) (.ref b)) (EP X pins σ Q) X.xe s
  refine PySem.W.cmp_K (op := .Eq) (tb := .ref C) room.units0 hF I.ok.mod.kin J J'.type (by simp [PySem.W.notFirst]) hs hf ?_
  have e0 : Env0 X.prog X.w X.K X.mg X.base X.A X.stack s H := I.env0
  have hl := F.len _ _ _ _ hsp
  have r2 : Vals [V.ref a, V.ref b] [Value.ref a, Value.ref b] := .cons rfl (.cons rfl .nil)
  refine wpAny_call (codeAny_mono (F.run X.A X.stack s H ⟨[.ref a, .ref b], []⟩ [.ref a, .ref b] [.ref a, .ref b] Q E room e0 (by
    have := hb s [.ref a, .ref b] I.kIn (by simpa using hl)
    simpa using this) r2 hsp) fun r s' hq => ?_)
  cases r with
  | error e => exact hx pins σ H s e s' I hq
  | ok fl =>
    cases fl with
    | ret w =>
      have h := I.after hq
      obtain ⟨z, H', I', rz, q⟩ := h
      cases w <;> first | exact ⟨z, H', I', rz, q⟩ | (cases z <;> first | (cases rz; done) | (obtain ⟨_, e⟩ := rz; cases e))
    | next => exact False.elim hq
    | brk => exact False.elim hq
    | cont => exact False.elim hq
section
variable {K : PySem.W.Frag} {W : WX}
def wkTwo (C : Addr) (wa wb : WD) : WK := fun η X Q => wa η X fun x η1 => wb η1 X fun y η2 => match x, y with
  | .ins C1 gs, .ins C2 hs => (C1 = C ∧ C2 = C) ∧ Q [.val (.ins C1 gs), .val (.ins C2 hs)] η2
  | _, _ => False
theorem vrs_eqOwn {C : Addr} {S : VSp} {ta tb : TE} {wa wb : WD} {E : XK} (ha : VE K (fun _ _ _ _ => False) ta wa) (hb : VE K (fun _ _ _ _ => False) tb wb) : VRs K W (tOp (rEqOwn C (spV K S) E) ta tb) (wCall0 S (wkTwo C wa wb)) := ⟨fun {F H σ η X Q R} c q hx hq =>
  ha.run (X := fun _ _ _ => False) c q noOut fun F1 H1 η1 v d s1 c1 r1 q1 => hb.run (X := fun _ _ _ => False) c1 q1 noOut fun F2 H2 η2 u e s2 c2 r2 q2 => by
    have r1' := r1.same s2.ff
    cases r1' <;> first | exact q2.elim | skip
    cases r2 <;> first | exact q2.elim | skip
    rename_i a1 C1 d1 f1 g1 h1 k1 a2 C2 d2 f2 g2 h2 k2
    obtain ⟨⟨rfl, rfl⟩, q2⟩ := q2
    exact ⟨_, _, _, _, _, _, rfl, rfl, c2.sub _ _ h1, c2.sub _ _ h2, call_run (s1.trans s2) c2 (.val (.ins h1 k1) (.val (.ins h2 k2) .nil)) q2 (fun _ _ _ _ _ _ _ _ _ _ z => z.elim) hq⟩⟩
/-- list(range(n)) -/
def wListR (wa : WD) : WF := fun η X Q => wa η X fun d η1 => match d with
  | .int j => (0 ≤ j ∧ j ≤ 100000) ∧ Q (.lst (rngD 0 j.toNat)) η1
  | _ => False
theorem rng_rp {F : Hp} {n : Nat} : RpL K F ((List.range n).map fun (k : Nat) => V.int (k : Int)) (rngD 0 n) := by
  have e1 : ((List.range n).map fun (k : Nat) => V.int (k : Int)) = ((List.range n).map fun (k : Nat) => (k : Int)).map V.int := by rw [List.map_map]; rfl
  have e2 : rngD 0 n = ((List.range n).map fun (k : Nat) => (k : Int)).map D.int := by
    unfold rngD
    rw [List.map_map]
    exact List.map_congr_left fun k _ => by show D.int (0 + (k : Int)) = D.int (k : Int); rw [Int.zero_add]
  rw [e1, e2]
  exact RpL.ofInts
theorem vf_listR {ta : TE} {wa : WD} (ha : VE K W ta wa) : VF K W (tCB (fun vs H Q => ∃ (a : Addr) (n : Nat), vs = [.ref a] ∧ H a = some (.rng 0 (n : Int)) ∧ n ≤ 100000 ∧ ∀ p, H p = none → Q (.ref p) (upd H p (.lst ((List.range n).map fun (k : Nat) => V.int (k : Int))))) (tCons (tCB (fun vs H Q => ∃ n, vs = [.int n] ∧ ∀ p, H p = none → Q (.ref p) (upd H p (.rng 0 n))) (tCons ta tNil)) tNil)) (wListR wa) := ⟨fun {F H σ η X Q R} c q hx hq =>
  ha.run c q hx fun F1 H1 η1 v d s1 c1 r1 q1 => by
    cases r1 <;> first | exact q1.elim | skip
    rename_i j
    obtain ⟨⟨j0, j1⟩, q1⟩ := q1
    refine ⟨j, rfl, fun p np => ?_⟩
    obtain ⟨c2, s2, _⟩ := c1.lay (o := .rng 0 j) np
    have ej : ((j.toNat : Nat) : Int) = j := by omega
    exact ⟨p, j.toNat, rfl, by rw [upd_same, ej], by omega, laid_new (s1.trans s2) c2 rng_rp q1 hq⟩⟩
end
end Tw

namespace Tw
open PySem PySem.Spec PyProof.Rows L2
/-! ### by value: a def that is called with the exception that is handled -/
def spVP (K : PySem.W.Frag) (G : Addr → Prop) (S : Addr → Addr → Addr → VSp) : Addr × Obj → Sp := fun p vs H Q E => ∃ C dd, G C ∧ L2N.Zn (.ref C) (some dd) p.2 ∧ (∃ vs, p.2.data = .fields vs) ∧ spV K (S p.1 dd C) vs H Q E
section
variable {P : Program} {w : World} {K : PySem.W.Frag} {mg : Str → Option Value} {base : Heap} {x qual : Str} {st : Stmt} {N ps : List Str} {k : Nat} {G : Addr → Prop} {S : Addr → Addr → Addr → VSp} {W : WX}
theorem hot_ofV {f : Addr} {fd : FuncData} (F : Fun K x qual st f fd) (Sc : FnScope N ps (defScope st)) (len : ∀ a dd C as X Q, S a dd C as X Q → as.length = ps.length)
    (hbody : ∀ (a : Addr) (oe : Obj) (C dd : Addr) (cdv : Value) (A : Around) (outer : List Env) (s : Shared) (H : Hp), G C → L2N.Zn (.ref C) (some dd) oe → (∃ vs, oe.data = .fields vs) → L2H.RoomH k (A.deeper (envOfC qual (defScope st) s.heap.objs.size f cdv)) →
      ∃ (ts : TS) (ws : WS), PSs (L2H.cxH CX0 P w K mg base N qual (defScope st) f cdv A outer s H E0 (a, oe)) (defBody st) ts ∧ (∀ W : WX, VS K W ts ws) ∧
        ∀ as X Qd, S a dd C as X Qd → ws (endsOf as Qd) (fun C gs _ => X C gs) (startE N.length as)) : FnP P w K mg base (k + 1) f fd ps (spVP K G S) := by
  refine Tw.Fun.hot F Sc (fun p vs H Q E h => ?_) (fun p cdv A outer s H vs Q hot hr h => ?_)
  · obtain ⟨C, dd, _, _, _, h⟩ := h
    exact spV_len (fun as X Q h => len _ _ _ as X Q h) vs H Q E h
  · obtain ⟨a, oe⟩ := p
    obtain ⟨C, dd, g, zz, ff, F, as, X, Qd, c, sp, q, qx⟩ := h
    obtain ⟨ts, ws, h1, h2, h3⟩ := hbody a oe C dd cdv A outer s H g zz ff hr
    exact ⟨ts, h1, (h2 _).run c.start (h3 as X Qd sp) (con_of (E := E0) c q qx)⟩
/-- such a call within the suite -/
def tTold (K : PySem.W.Frag) (G : Addr → Prop) (S : Addr → Addr → Addr → VSp) (ta : TA) (a : Addr) (cls : Value) (d : Option Addr) : TE := fun σ H Q => ∀ oe, L2N.Zn cls d oe → (∃ vs, oe.data = .fields vs) → tCall (spVP K G S (a, oe)) [] E0 ta σ H Q
theorem vrs_told {ta : TA} {wk : WK} {a C dd : Addr} (ha : VK K (fun _ _ _ _ => False) ta wk) : VRs K W (tTold K G S ta a (.ref C) (some dd)) (fun η X Q => G C ∧ wCall0 (S a dd C) wk η X Q) := ⟨fun {F H σ η X Q R} c q hx hq oe hz hf => by
  obtain ⟨g, q⟩ := q
  refine ha.run (X := fun _ _ _ => False) c q noOut fun F1 H1 η1 vs ks s1 c1 a q1 => ?_
  show spVP K G S _ (vs ++ []) H1 R E0
  rw [List.append_nil]
  exact ⟨C, dd, g, hz, hf, call_run s1 c1 a q1 (fun _ _ _ _ _ _ _ _ _ _ z => z.elim) hq⟩⟩
/-- a field of the exception -/
def wXf (a C dd : Addr) (f : Str) (wa : WD) : WD := fun η X Q => wa η X fun d η1 => match d with
  | .exc a' dd' C' gs => (a' = a ∧ dd' = dd ∧ C' = C) ∧ ∃ v, gs.lookup f = some v ∧ Q v η1
  | _ => False
theorem ve_xf {a C dd : Addr} {f : Str} {te : TE} {wa : WD} (ha : VE K W te wa) : VE K W (L2.tXf a (.ref C) (some dd) C f te) (wXf a C dd f wa) := ⟨fun c q hx hq =>
  ha.run c q hx fun F1 H1 η1 x d s1 c1 r1 q1 => by
    cases r1 <;> first | exact q1.elim | skip
    rename_i fs gs e rf
    obtain ⟨⟨rfl, rfl, rfl⟩, v, ev, q1⟩ := q1
    obtain ⟨u, h1, h2⟩ := rf.look ev
    exact ⟨rfl, rfl, _, fs, u, rfl, c1.sub _ _ e, h1, hq _ _ _ _ _ s1 c1 h2 q1⟩⟩
/-- isinstance of the exception -/
def wIsP (K : PySem.W.Frag) (a C dd : Addr) (u : Value) (wa : WD) : WD := fun η X Q => wa η X fun d η1 => match d with
  | .exc a' dd' C' _ => (a' = a ∧ dd' = dd ∧ C' = C) ∧ ∃ b, PySem.W.kitOne K (.ref C) u = some b ∧ Q (.bl b) η1
  | _ => False
theorem ve_isP {a C dd : Addr} {te : TE} {wa : WD} {x : V} {u : Value} (ha : VE K W te wa) (hc : ClsV x u) : VE K W (tCB (rIsP K C a dd) (tCons te (tCons (tC x) tNil))) (wIsP K a C dd u wa) := ⟨fun c q hx hq =>
  ha.run c q hx fun F1 H1 η1 v d s1 c1 r1 q1 => by
    cases r1 <;> first | exact q1.elim | skip
    rename_i fs gs e rf
    obtain ⟨⟨rfl, rfl, rfl⟩, b, hb, q1⟩ := q1
    exact ⟨x, u, b, fs, rfl, hc, c1.sub _ _ e, hb, hq _ _ _ _ _ s1 c1 (.bl b) q1⟩⟩
/-- what is never reached -/
def tNo : TE := fun _ _ _ => False
def wNo : WD := fun _ _ _ => False
theorem pe_no {X : Cx} {e : Expr} : PE X e tNo := ⟨fun _ _ _ _ _ _ h => h.elim⟩
theorem ve_no : VE K W tNo wNo := ⟨fun _ q => q.elim⟩
/-- a try that lets nothing out -/
def wTryN (K : PySem.W.Frag) (c : Value) (i : Nat) (wb : WS) (ws : Addr → Addr → Addr → WS) : WS := fun E _ η => wTry K c i wb ws E (fun _ _ _ => False) η
theorem vs_tryN {c : Value} {i : Nat} {tb : WX → TS} {ts : Addr → Value → Option Addr → TS} {wb : WS} {ws : Addr → Addr → Addr → WS} (hb : ∀ W : WX, VS K W (tb W) wb) (hs : ∀ a dd C, VS K (fun _ _ _ _ => False) (ts a (.ref C) (some dd)) (ws a dd C)) :
    VS K W (fun Dd σ H => tb (wAs K c i ts (fun _ _ _ _ => False) Dd) Dd σ H) (wTryN K c i wb ws) := ⟨fun {F H σ η E X Dd} cf q k =>
  (vs_try hb hs).run cf q ⟨k.nx, k.rt, k.bk, k.ct, fun _ _ _ _ _ _ _ _ _ _ _ _ z => z.elim⟩⟩
/-- a slot's own object settles before the statement -/
def wFrz (i : Nat) (w : WS) : WS := fun E X η => match η[i]? with
  | some (.ow _ o) => w E X (η.set i (.fz o.d))
  | _ => False
theorem VS.frz {t : TS} {w : WS} (i : Nat) (h : VS K W t w) : VS K W t (wFrz i w) := ⟨fun {F H σ η E X Dd} c q k => by
  unfold wFrz at q
  split at q
  · rename_i p o e
    obtain ⟨F', c', s', _⟩ := c.freeze e
    exact h.run c' q (k.on s')
  · exact q.elim⟩
/-- a new object, where nothing is let out -/
theorem VF.no {te : TE} {w : WF} (h : VF K (fun _ _ _ _ => False) te w) : VF K W te (fun η _ Q => w η (fun _ _ _ => False) Q) := ⟨fun c q _ hq => h.run c q noOut hq⟩
end
end Tw

namespace Tw
open PySem PySem.Spec PyProof.Rows L2
/-! ### min and max of a pair of ints -/
def rPair (f : Int → Int → Int) (K : PySem.W.Frag) : List V → Hp → L2.VK → Prop := fun vs H Q => ∃ (a : Addr) (i j : Int), vs = [V.ref a] ∧ SqT K H a [.int i, .int j] ∧ Q (.int (f i j)) H
abbrev fMin : Int → Int → Int := fun i j => if j < i then j else i
abbrev fMax : Int → Int → Int := fun i j => if i < j then j else i
section
variable {X : Cx}
theorem hold2 {h : Heap} {us : List Value} {i j : Int} (r : Vals [V.int i, V.int j] us) : PySem.W.HoldAll h us [i, j] := by
  obtain ⟨t, u, rfl⟩ := Vals.int2 r
  exact .cons (PySem.W.holds_int i t) (.cons (PySem.W.holds_int j u) .nil)
theorem min1_raw {prog : Program} {w : World} {A : Around} {E : Value → Shared → Prop} {s : Shared} {l : Addr} {its : List Value} {i j : Int} {Q : Value → Shared → Prop} (hh : A.handled = none) (hl : s.heap.IsTuple l its.toArray) (hi : Vals [V.int i, V.int j] its) (hu : A.units + 64 < cLine)
    (h : ∀ h' tk t', (∀ b o, s.heap.get? b = some o → h'.get? b = some o) → Q (.int (fMin i j) t') { s with heap := h', toks := tk }) : wpAny (model prog w) A (call (.builtin "min") [.ref l]) Q E s := by
  refine PySem.W.min_tuple_datum (x := i) (xs := [j]) hh hl (hold2 hi) (by show A.units + 1 + 0 < cLine; omega) fun k v h' tk _ hv hk => ?_
  obtain ⟨t, rfl⟩ := PySem.W.int_of_holds hv
  have e : PySem.W.minOf i [j] = fMin i j := by
    show (if decide (j < i) = true then j else i) = _
    by_cases z : j < i
    · simp [z]
    · simp [z]
  rw [e]
  exact h h' tk t hk
theorem max1_raw {prog : Program} {w : World} {A : Around} {E : Value → Shared → Prop} {s : Shared} {l : Addr} {its : List Value} {i j : Int} {Q : Value → Shared → Prop} (hh : A.handled = none) (hl : s.heap.IsTuple l its.toArray) (hi : Vals [V.int i, V.int j] its) (hu : A.units + 64 < cLine)
    (h : ∀ h' tk t', (∀ b o, s.heap.get? b = some o → h'.get? b = some o) → Q (.int (fMax i j) t') { s with heap := h', toks := tk }) : wpAny (model prog w) A (call (.builtin "max") [.ref l]) Q E s := by
  refine PySem.W.max_tuple_datum (x := i) (xs := [j]) hh hl (hold2 hi) (by show A.units + 1 + 0 < cLine; omega) fun k v h' tk _ hv hk => ?_
  obtain ⟨t, rfl⟩ := PySem.W.int_of_holds hv
  have e : PySem.W.maxOf i [j] = fMax i j := by
    show (if decide (i < j) = true then j else i) = _
    by_cases z : i < j
    · simp [z]
    · simp [z]
  rw [e]
  exact h h' tk t hk
theorem call_min1 (hu : X.A.units + 64 < cLine) (hc : X.calm = true) : CallR X (.builtin "min") (rPair fMin X.K) := by
  intro pins s σ H vs us Q I r h
  obtain ⟨a, i, j, rfl, hs, q⟩ := h
  obtain ⟨its, rv, ⟨o, h1, h2, n, h3⟩, _⟩ := I.tuple hs
  rw [Vals.ref1 r]
  exact min1_raw (I.ok.hd hc) ⟨o, h1, h2, n, h3⟩ rv hu fun h' tk t' hk => ⟨.int _, H, I.kept hk, ⟨_, rfl⟩, q⟩
theorem call_max1 (hu : X.A.units + 64 < cLine) (hc : X.calm = true) : CallR X (.builtin "max") (rPair fMax X.K) := by
  intro pins s σ H vs us Q I r h
  obtain ⟨a, i, j, rfl, hs, q⟩ := h
  obtain ⟨its, rv, ⟨o, h1, h2, n, h3⟩, _⟩ := I.tuple hs
  rw [Vals.ref1 r]
  exact max1_raw (I.ok.hd hc) ⟨o, h1, h2, n, h3⟩ rv hu fun h' tk t' hk => ⟨.int _, H, I.kept hk, ⟨_, rfl⟩, q⟩
end
section
variable {K : PySem.W.Frag} {W : WX}
def wPair (f : Int → Int → Int) (wa : WD) : WD := fun η X Q => wa η X fun d η1 => match d with
  | .tup [.int i, .int j] => Q (.int (f i j)) η1
  | _ => False
theorem ve_pair {f : Int → Int → Int} {ta : TE} {wa : WD} (ha : VE K W ta wa) : VE K W (tCB (rPair f K) (tCons ta tNil)) (wPair f wa) := ⟨fun c q hx hq =>
  ha.run c q hx fun F1 H1 η1 x d s1 c1 r1 q1 => by
    cases r1 with
    | tup h r =>
      rename_i vs ds
      split at q1
      · rename_i i j e
        injection e with e
        subst e
        have e := RpL.ints (ns := [i, j]) r
        subst e
        exact ⟨_, i, j, rfl, SqT.of (c1.sub _ _ h), hq _ _ _ _ _ s1 c1 (.int _) q1⟩
      · exact q1.elim
    | _ => exact q1.elim⟩
end
end Tw

namespace Tw
open PySem PySem.Spec PyProof.Rows L2
/-! ### defs that rest on it that no repr is under way -/
abbrev Still (A : Around) : Prop := A.guards = some []
structure FnG (P : Program) (w : World) (K : PySem.W.Frag) (mg : Str → Option Value) (base : Heap) (k : Nat) (f : Addr) (fd : FuncData) (ps : List Str) (sp : Sp) : Prop where
  len : ∀ vs H Q E, sp vs H Q E → vs.length = ps.length
  run : ∀ (A : Around) (outer : List Env) (s : Shared) (H : Hp) (args : Args) (us : List Value) (vs : List V) (Q : L2.VK), Still A → Room k A →
    Env0 P w K mg base A outer s H → BindsTo s fd args (ps.zip us) → Vals vs us → sp vs H Q E0 → codeAny (model P w) A (.call (.ref f) args) (CR CX0 outer P w H s Q E0) s
theorem Fun.still {P : Program} {w : World} {K : PySem.W.Frag} {mg : Str → Option Value} {base : Heap} {x qual : Str} {st : Stmt} {f : Addr} {fd : FuncData} {N ps : List Str} {k : Nat} {sp : Sp} (F : Fun K x qual st f fd) (S : FnScope N ps (defScope st))
    (len : ∀ vs H Q E, sp vs H Q E → vs.length = ps.length)
    (hbody : ∀ (cdv : Value) (A : Around) (outer : List Env) (s : Shared) (H : Hp) (vs : List V) (Q : L2.VK), Still (A.deeper (envOfC qual (defScope st) s.heap.objs.size f cdv)) → Room k (A.deeper (envOfC qual (defScope st) s.heap.objs.size f cdv)) → sp vs H Q E0 →
      ∃ t, PSs (cxOf CX0 P w K mg base N qual (defScope st) f cdv A outer s H E0).nox (defBody st) t ∧ t { nx := fun _ H' => Q .non H', rt := Q } (start N vs) H) : FnG P w K mg base (k + 1) f fd ps sp := by
  refine ⟨len, fun A outer s H args us vs Q still hr e0 hb r hsp => ?_⟩
  obtain ⟨oc, od, kV, doc, pm, an, cdv, ct, osl, rfl, lk, hcd⟩ := F.ex
  have hl := len _ _ _ _ hsp
  have kb : ∀ b o, base.get? b = some o → s.heap.get? b = some o := fun b o e => (e0.bs b o e).1
  have KX := e0.mod.kin.keeps kb
  refine codeAny_call_function hr.depth (KX _ _ lk) rfl S.co S.gen rfl (PySem.W.codeRec_of KX hcd) (hb _ _ _ _ (wpAny_newFunctionEnv_cells S.kind (fun y hy => ?_) fun env he s1 x => ?_))
  · exact (S.par y.1 (List.of_mem_zip (a := y.1) (b := y.2) hy).1).imp id fun q => ⟨q, PySem.W.cellsFrom_some _ _ _ (.inl q)⟩
  · subst he
    obtain ⟨t, ht, hq⟩ := hbody cdv A outer s H vs Q still (hr.deeper _) hsp
    refine ⟨(e0.mod.nolimit.keeps kb).keeps x.toInCall.keep, codeAny_func (wpAny_mono (ht.nox.run [] s1 _ H _ (inv_start S hr.hd e0 hl r x) hq) (fun fl s' hs => ?_) fun e s' hs => hs)⟩
    cases fl with
    | ret u => exact let ⟨v, _, H', J, rv, q⟩ := hs; ⟨v, H', J.os, J.bare, J.base, J.hok, rv, q⟩
    | next => exact let ⟨_, H', J, q⟩ := hs; ⟨V.non, H', J.os, J.bare, J.base, J.hok, rfl, q⟩
    | brk => exact let ⟨_, _, _, q⟩ := hs; q.elim
    | cont => exact let ⟨_, _, _, q⟩ := hs; q.elim
section
variable {X : Cx} {e : Expr} {es : List Expr} {ta : TA} {t : TA} {x : Str} {q pos : Pos}
theorem runG {k : Nat} {f : Addr} {fd : FuncData} {ps : List Str} {sp : Sp} {pins : List (Addr × Obj)} {σ : L2.St} {s : Shared} {H : Hp} {us : List Value} {vs : List V} {Q : L2.VK} {A : Around} (F : FnG X.prog X.w X.K X.mg X.base k f fd ps sp) (still : Still A) (hr : Room k A) (hb : Binds X.K fd ps [])
    (I : Inv X pins σ H s) (e0 : Env0 X.prog X.w X.K X.mg X.base A X.stack s H) (r : Vals vs us) (h : sp vs H Q E0) (R : Value → Shared → Prop) (hR : ∀ u s', EP X pins σ Q u s' → R u s') : wpAny (model X.prog X.w) A (call (.ref f) us) R X.xe s := by
  have hl : (us ++ []).length = ps.length := by rw [List.append_nil, ← r.length]; exact F.len _ _ _ _ h
  have b := hb s us I.kIn hl
  rw [List.append_nil] at b
  refine wpAny_call (codeAny_mono (F.run A X.stack s H ⟨us, []⟩ us vs Q still hr e0 b r h) fun r s' hq => ?_)
  cases r with
  | error e => exact hq.elim
  | ok fl =>
    cases fl with
    | ret u => exact hR u s' (I.after hq)
    | next => exact hq.elim
    | brk => exact hq.elim
    | cont => exact hq.elim
/-- the call of such a def, where no repr is under way -/
theorem pe_callG {k : Nat} {f : Addr} {fd : FuncData} {ps : List Str} {sp : Sp} (F : FnG X.prog X.w X.K X.mg X.base k f fd ps sp) (still : Still X.A) (hr : Room k X.A) (hg : Gl X x) (hm : X.mg x = some (.ref f))
    (hk : PySem.W.keepIn X.K (.ref f) = true) (hb : Binds X.K fd ps []) (ha : PA X (e :: es) t) (hdb : (x == ("__debug__" : Str)) = false := by decide)
    (he : starEach (e :: es) X.env = (false, eval e X.env) :: starEach es X.env := by rfl) (hpl : (backTo pos (starEach es X.env)).any (·.1) = false := by rfl) :
    PE X (.Call (.Name x q) (e :: es) [] pos) (tCall sp [] E0 t) := by
  refine ⟨fun pins s σ H Q I h => wpAny_Call_Name_kw (ld_glob I hg hm ?_ hdb)⟩
  refine PySem.W.callWith_K (h₀ := X.base) I.ok.mod.kin hk (thn (ha.run pos pins s σ H _ I h) fun us s1 ⟨vs, H1, I1, r, q⟩ => ⟨I1.kIn, ?_⟩) he hpl
  have q : sp (vs ++ []) H1 Q E0 := q
  rw [List.append_nil] at q
  exact runG F still hr hb I1 I1.env0 r q _ fun _ _ z => z
/-- the program's own repr of an instance -/
def rReprOwn (C : Addr) (sp : Sp) : List V → Hp → L2.VK → Prop := fun vs H Q => ∃ a dx fs, vs = [V.ref a] ∧ H a = some (.ins C dx fs) ∧ sp [.ref a] H (fun v H' => ∃ x, v = .str x ∧ Q v H') E0
theorem call_reprOwn {n : Nat} {C f : Addr} {fd : FuncData} {ps : List Str} {sp : Sp} (F : FnG X.prog X.w X.K X.mg X.base n f fd ps sp) (hs : PySem.W.findIn X.K (.ref C) "__repr__" = some (some (.ref f))) (hf : PySem.W.isFn X.K (.ref f) = true)
    (hb : Binds X.K fd ps []) (still : Still X.A) (room : Room (n + 1) X.A) : CallR X (.builtin "repr") (rReprOwn C sp) := by
  intro pins s σ H vs us Q I r h
  obtain ⟨a, dx, fs, rfl, ha, hsp⟩ := h
  rw [Vals.ref1 r]
  obtain ⟨mA, J, _⟩ := ins_get I.hok ha
  obtain ⟨od, J, _⟩ := J.look
  obtain ⟨m, hF⟩ := I.fr
  refine PySem.W.repr_K (Nat.lt_of_succ_lt (hu_of room.in1)) hF I.ok.mod.kin J hs hf ?_
  refine runG (A := X.A.in1) (vs := [V.ref a]) F still (room.in1) hb I I.env0.in1 (.cons rfl .nil) hsp _ fun u s' z => ?_
  obtain ⟨v, H', I', rv, x, rfl, q⟩ := z
  obtain ⟨t, rfl⟩ := rv
  exact ⟨.str x, H', I', ⟨t, rfl⟩, q⟩
/-- repr of data -/
def rReprD (K : PySem.W.Frag) : List V → Hp → L2.VK → Prop := fun vs H Q => ∃ (a : Addr) (d : PyData), vs = [V.ref a] ∧ Dp K H (.ref a) d ∧ (d.showable = true ∧ d.hasDict = false ∧ d.shown.length ≤ sizeLine ∧ d.depth ≤ 8) ∧ Q (.str d.shown) H
theorem call_reprD (still : Still X.A) (hu : X.A.units + 64 < cLine) : CallR X (.builtin "repr") (rReprD X.K) := by
  intro pins s σ H vs us Q I r h
  obtain ⟨a, d, rfl, hd, ⟨d1, d2, d3, d4⟩, q⟩ := h
  rw [Vals.ref1 r]
  obtain ⟨as, rd⟩ := Dp.reads I d _ _ hd (rfl : RelV (V.ref a) (Value.ref a))
  exact PySem.repr_of_reads' rd d1 (fun z => by rw [d2] at z; cases z) still (by omega) (fun _ _ e => e) (fun h' u tk hk => ⟨.str d.shown, H, I.kept hk, ⟨_, rfl⟩, q⟩) d3
/-- {x} in an f-string, x data -/
def tFmtD (K : PySem.W.Frag) (te : TE) : TE := fun σ H Q => te σ H fun x H1 => ∃ (a : Addr) (d : PyData), x = V.ref a ∧ Dp K H1 (.ref a) d ∧ (d.showable = true ∧ d.hasDict = false ∧ d.shown.length ≤ sizeLine ∧ d.depth ≤ 8) ∧ Q (.str d.shown) H1
theorem pe_fmtD {te : TE} (still : Still X.A) (hu : X.A.units + 64 < cLine) (he : PE X e te) : PE X (.FormattedValue e (-1) none pos) (tFmtD X.K te) := by
  refine ⟨fun pins s σ H Q I h => ?_⟩
  refine wpAny_FormattedValue_plain (thn (he.run pins s σ H _ I h) fun v s1 hv => ?_)
  obtain ⟨x, H1, I1, r1, a, d, rfl, hd, ⟨d1, d2, d3, d4⟩, q⟩ := hv
  obtain rfl : v = Value.ref a := r1
  obtain ⟨as, rd⟩ := Dp.reads I1 d _ _ hd (rfl : RelV (V.ref a) (Value.ref a))
  exact PySem.formatField_of_reads rd d1 (fun z => by rw [d2] at z; cases z) still (by omega) (fun _ _ e => e) (fun h' u tk hk => ⟨.str d.shown, H1, I1.kept hk, ⟨_, rfl⟩, q⟩) d3
end
end Tw

namespace Tw
open PySem PySem.Spec PyProof.Rows L2
/-! ### the law itself, at its entry: no repr is under way there -/
section
variable {P : Program} {w : World} {K : PySem.W.Frag} {mg mb : Str → Option Value} {k : Nat} {fa a : Addr} {fd : FuncData} {x : Str} {sp : Sp} {s₁ : Shared} {vs : List Value} {ns : List Int}
abbrev Ends1 (s₁ : Shared) : Result → Shared → Prop := fun r s' => r = .ok (.ret (.bool true)) ∧ OldK s₁.heap s'.heap ∧ s'.os = s₁.os ∧ AllBare s'.gens
/-- over a heap that tracks the script at most -/
theorem enterG (kin : K.In s₁.heap) (gl : s₁.heap.Ns mainGlobals mg) (bi : s₁.heap.Ns builtinsNs mb) (bb : ∀ x : Str, x ≠ "__name__" → mb x = bootBuiltins x) (nl : s₁.heap.NoLimit) (gn : s₁.gens = #[])
    (at1 : s₁.heap.get? a = some { cls := .type "list", data := .seq vs.toArray }) (room : Room k callerA)
    (F : ∀ base : Heap, K.In base → base.Ns mainGlobals mg → FnG P w K mg base k fa fd [x] sp) (bn : ∀ (s : Shared) (u : Value), BindsTo s fd ⟨[u], []⟩ [(x, u)])
    {H : Hp} (only : Only H) (wish : sp [.ref a] H (fun v _ => v = .bl true) E0) (hok : HOk P w H s₁.heap) (dom : ∀ b, H b ≠ none → b = a) (free : H a ≠ none → K.lookup a = none) :
    codeAny (model P w) callerA (.call (.ref fa) ⟨[.ref a], []⟩) (Ends1 s₁) s₁ := by
  have keepB : ∀ {b : Addr} {o : Obj}, (b = a → H a = none) → s₁.heap.get? b = some o → (hidT s₁.heap H).get? b = some o := fun {b o} h e => hidT_get e (by
    by_cases n : H b = none
    · exact n
    · have := dom b n
      subst this
      exact h rfl)
  have dictB : ∀ {b : Addr} {m : Str → Option Value}, s₁.heap.Ns b m → (hidT s₁.heap H).Ns b m := fun {b m} ⟨o, es, ep, e, d, r⟩ => ⟨o, es, ep, keepB (fun z => by
    subst z
    rw [at1] at e
    cases e
    exact Data.noConfusion d) e, d, r⟩
  have kinB : K.In (hidT s₁.heap H) := fun b o e => keepB (fun z => by
    subst z
    by_cases n : H b = none
    · exact n
    · have := free n
      rw [e] at this
      cases this) (kin b o e)
  obtain ⟨mc, l1, l2⟩ := nl
  have e0 : Env0 P w K mg (hidT s₁.heap H) callerA [] s₁ H := ⟨rfl, ⟨kinB, dictB gl, ⟨mb, dictB bi, bb⟩, mc, dictB l1, l2⟩, fun b o e => of_hidT e, Nat.le_of_eq (hidT_size _ _), trivial, fun b hb => (by cases hb), hok, .of_eq gn⟩
  refine codeAny_mono ((F _ kinB (dictB gl)).run callerA [] s₁ H ⟨[.ref a], []⟩ [.ref a] [.ref a] _ rfl room e0 (bn s₁ (.ref a)) (.cons rfl .nil) wish) fun r s' h => ?_
  match r, h with
  | .ok (.ret u), h =>
    obtain ⟨v, H', same, bare, un, hok', rv, e⟩ := h
    have e : v = .bl true := e
    subst e
    obtain rfl : u = Value.bool true := rv
    refine ⟨rfl, OldK.of_keep fun b o g => ?_, same, bare⟩
    cases n : H b with
    | none => exact un.keep b o g n (fun z => by cases z) (by simp)
    | some u =>
      rcases only b with z | ⟨ob, xs, z⟩
      · rw [n] at z; cases z
      · obtain ⟨g1, _⟩ := hok b _ z
        obtain ⟨g2, _⟩ := hok' b _ (un.frzs b ob _ z)
        rw [g] at g1
        cases g1
        exact g2
  | .ok .next, h => exact False.elim h
  | .ok .brk, h => exact False.elim h
  | .ok .cont, h => exact False.elim h
  | .error e, h => exact False.elim h
theorem law_callG (kin : K.In s₁.heap) (gl : s₁.heap.Ns mainGlobals mg) (bi : s₁.heap.Ns builtinsNs mb) (bb : ∀ x : Str, x ≠ "__name__" → mb x = bootBuiltins x) (nl : s₁.heap.NoLimit) (gn : s₁.gens = #[])
    (at1 : s₁.heap.get? a = some { cls := .type "list", data := .seq vs.toArray }) (hi : IntsAre vs ns) (small : ns.length ≤ sizeLine) (room : Room k callerA)
    (F : ∀ base : Heap, K.In base → base.Ns mainGlobals mg → FnG P w K mg base k fa fd [x] sp) (bn : ∀ (s : Shared) (u : Value), BindsTo s fd ⟨[u], []⟩ [(x, u)])
    (wish : ∀ H : Hp, Only H → SqL K H a (ns.map V.int) → sp [.ref a] H (fun v _ => v = .bl true) E0) : codeAny (model P w) callerA (.call (.ref fa) ⟨[.ref a], []⟩) (Ends1 s₁) s₁ := by
  have rv := vals_ints hi
  have len := hi.length
  by_cases own : K.lookup a = none
  · let o1 : Obj := { cls := .type "list", data := .seq vs.toArray }
    let G : Hp := fun b => if b = a then some (.frz o1 (.lst (ns.map V.int))) else none
    have ga : G a = some (.frz o1 (.lst (ns.map V.int))) := if_pos rfl
    have gb : ∀ {b}, b ≠ a → G b = none := fun h => if_neg h
    have og : Only G := fun b => by
      by_cases z : b = a
      · subst z; exact .inr ⟨_, _, ga⟩
      · exact .inl (gb z)
    refine enterG kin gl bi bb nl gn at1 room F bn og (wish G og (.inl (.inr ⟨_, ga⟩))) (fun b u g => ?_) (fun b n => Classical.byContradiction fun z => n (gb z)) fun _ => own
    by_cases z : b = a
    · subst z
      rw [ga] at g
      cases g
      exact ⟨at1, by rw [List.length_map]; exact small, vs, _, rv, at1⟩
    · rw [gb z] at g
      cases g
  · obtain ⟨o, ho⟩ : ∃ o, K.lookup a = some o := by
      cases z : K.lookup a with
      | none => exact absurd z own
      | some o => exact ⟨o, rfl⟩
    have e := kin a o ho
    rw [at1] at e
    cases e
    have og : Only (fun _ => none) := fun _ => .inl rfl
    exact enterG kin gl bi bb nl gn at1 room F bn og (wish _ og (.inr ⟨_, vs.toArray, _, ho, rfl, rfl, rfl, by rw [List.size_toArray, len]; exact small, by simpa using rv⟩)) (fun b u g => by cases (show (none : Option HO) = some u from g)) (fun b n => absurd rfl n) fun n => absurd rfl n
end
theorem walkG {l : PySem.W.OpenLaw} {n k : Nat} {q : Program} {loose : List Str} {XP : (Str → Option Value) → Heap → Prop} {YP : World → Heap → Prop} {d : DefRec} {K : Params → PySem.W.Frag} {sp : World → Sp} {x : Str}
    (hn : l.most = some n) (hn2 : n ≤ sizeLine) (hdf : d.params.defaults = []) (room : Room k callerA) (hY : ∀ (w : World) (h : Heap), YP w h → (K w.params).In h)
    (F : ∀ (w : World) (mg : Str → Option Value) (fa : Addr) (h : Heap), (K w.params).In h → h.Ns mainGlobals mg → mg d.name = some (.ref fa) →
      ∃ fd : FuncData, (∀ (s : Shared) (u : Value), BindsTo s fd ⟨[u], []⟩ [(x, u)]) ∧ ∀ base : Heap, (K w.params).In base → base.Ns mainGlobals mg → FnG l.prog w (K w.params) mg base k fa fd [x] (sp w))
    (wish : ∀ (w : World) (H : Hp) (a : Addr) (ns : List Int), ns.length ≤ n → Only H → SqL (K w.params) H a (ns.map V.int) → sp w [.ref a] H (fun v _ => v = .bl true) E0) :
    PySem.W.WalkO q loose XP YP l.row.toRowW d [] (fun f vs => PySem.call f vs) := by
  refine Att.attach_call hn hdf fun w s₀ s₁ mg mb fa o pm cd doc a vs ns G Y _ _ _ hmg hobj hints hlen hg => ?_
  have kin := hY w _ Y
  obtain ⟨fd, bn, f⟩ := F w mg fa _ kin G.T.g hmg
  exact law_callG kin G.T.g G.T.b G.T.builtins G.T.nolimit hg hobj hints (Nat.le_trans hlen hn2) room f bn fun H hO hS => wish w H a ns hlen hO hS
end Tw

namespace Tw
open PySem PySem.Spec PyProof.Rows L2
/-! ### by value: defs that rest on it that no repr is under way -/
structure CalG (P : Program) (w : World) (K : PySem.W.Frag) (mg : Str → Option Value) (base : Heap) (x : Str) (k : Nat) (ps : List Str) (sp : Sp) : Prop where
  ex : ∃ f fd, FnG P w K mg base k f fd ps sp ∧ mg x = some (.ref f) ∧ PySem.W.keepIn K (.ref f) = true ∧ Binds K fd ps []
section
variable {P : Program} {w : World} {K : PySem.W.Frag} {mg : Str → Option Value} {base : Heap} {x : Str} {st : Stmt} {N ps : List Str} {k : Nat} {S : VSp}
theorem ok_ofVG {qual : Str} {f : Addr} {fd : FuncData} (F : Fun K x qual st f fd) (Sc : FnScope N ps (defScope st)) (len : ∀ as X Q, S as X Q → as.length = ps.length)
    (hbody : ∀ (cdv : Value) (A : Around) (outer : List Env) (s : Shared) (H : Hp), Still (A.deeper (envOfC qual (defScope st) s.heap.objs.size f cdv)) → Room k (A.deeper (envOfC qual (defScope st) s.heap.objs.size f cdv)) →
      ∃ (ts : TS) (ws : WS), PSs (cxOf CX0 P w K mg base N qual (defScope st) f cdv A outer s H E0).nox (defBody st) ts ∧ (∀ W : WX, VS K W ts ws) ∧
        ∀ as X Qd, S as X Qd → ws (endsOf as Qd) (fun C gs _ => X C gs) (startE N.length as)) : FnG P w K mg base (k + 1) f fd ps (spV K S) := by
  refine Tw.Fun.still F Sc (spV_len len) fun cdv A outer s H vs Q still hr h => ?_
  obtain ⟨F, as, X, Qd, c, sp, q, qx⟩ := h
  obtain ⟨ts, ws, h1, h2, h3⟩ := hbody cdv A outer s H still hr
  exact ⟨ts, h1, (h2 _).run c.start (h3 as X Qd sp) (con_of (E := E0) c q qx)⟩
theorem cal_ofVG (Dd : DefAt K mg x st) (Sc : FnScope N ps (defScope st)) (hb : BindOk x st ps) (len : ∀ as X Q, S as X Q → as.length = ps.length)
    (hbody : ∀ (f : Addr) (cdv : Value) (A : Around) (outer : List Env) (s : Shared) (H : Hp), Still (A.deeper (envOfC x (defScope st) s.heap.objs.size f cdv)) → Room k (A.deeper (envOfC x (defScope st) s.heap.objs.size f cdv)) →
      ∃ (ts : TS) (ws : WS), PSs (cxOf CX0 P w K mg base N x (defScope st) f cdv A outer s H E0).nox (defBody st) ts ∧ (∀ W : WX, VS K W ts ws) ∧
        ∀ as X Qd, S as X Qd → ws (endsOf as Qd) (fun C gs _ => X C gs) (startE N.length as)) : CalG P w K mg base x (k + 1) ps (spV K S) := by
  obtain ⟨f, fd, F, m⟩ := Dd.ex
  exact ⟨f, fd, ok_ofVG F Sc len fun cdv A outer s H still hr => hbody f cdv A outer s H still hr, m, F.kp, F.binds hb⟩
end
section
variable {X : Cx} {x : Str} {e : Expr} {es : List Expr} {t : TA} {q pos : Pos} {k : Nat} {ps : List Str} {sp : Sp}
theorem pe_calG (c : CalG X.prog X.w X.K X.mg X.base x k ps sp) (still : Still X.A) (hr : Room k X.A) (hg : Gl X x) (ha : PA X (e :: es) t) (hdb : (x == ("__debug__" : Str)) = false := by decide)
    (he : starEach (e :: es) X.env = (false, eval e X.env) :: starEach es X.env := by rfl) (hpl : (backTo pos (starEach es X.env)).any (·.1) = false := by rfl) : PE X (.Call (.Name x q) (e :: es) [] pos) (tCall sp [] E0 t) := by
  obtain ⟨f, fd, h1, h2, h3, h4⟩ := c.ex
  exact pe_callG h1 still hr hg h2 h3 h4 ha hdb he hpl
end
section
variable {K : PySem.W.Frag} {W : WX}
/-- what can be shown: its text is x -/
def Shw (d : D) (x : Str) : Prop := D.ok d = true ∧ (d.p.showable = true ∧ d.p.hasDict = false ∧ d.p.shown.length ≤ sizeLine ∧ d.p.depth ≤ 8) ∧ d.p.shown = x
def wRepr (wa : WH) : WD := fun η X Q => wa η X fun h η1 => match hdD h η1 with
  | some (.lst ds) => ∃ x, Shw (.lst ds) x ∧ Q (.str x) η1
  | _ => False
theorem ve_repr {ta : TE} {wa : WH} (ha : VB K W ta wa) : VE K W (tCB (rReprD K) (tCons ta tNil)) (wRepr wa) := ⟨fun c q hx hq =>
  ha.run c q hx fun _ _ _ v h s1 c1 r1 q1 => by
    split at q1
    · rename_i ds e
      obtain ⟨x, ⟨o, sh, rfl⟩, q1⟩ := q1
      have rp := r1.rp c1 e
      have dp := rp.dp o
      cases rp with
      | lst h r => exact ⟨_, _, rfl, dp, sh, hq _ _ _ _ _ s1 c1 (.str _) q1⟩
    · exact q1.elim⟩
def wFmtD (wa : WD) : WD := fun η X Q => wa η X fun d η1 => match d with
  | .lst ds => ∃ x, Shw (.lst ds) x ∧ Q (.str x) η1
  | _ => False
theorem ve_fmtD {ta : TE} {wa : WD} (ha : VE K W ta wa) : VE K W (tFmtD K ta) (wFmtD wa) := ⟨fun c q hx hq =>
  ha.run c q hx fun _ _ _ v d s1 c1 rp q1 => by
    cases d with
    | lst ds =>
      obtain ⟨x, ⟨o, sh, rfl⟩, q1⟩ := q1
      have dp := (Rp.same c1.sub rp).dp o
      cases rp with
      | lst h r => exact ⟨_, _, rfl, dp, sh, hq _ _ _ _ _ s1 c1 (.str _) q1⟩
    | _ => exact q1.elim⟩
def wFmtI (wa : WD) : WD := fun η X Q => wa η X fun d η1 => match d with
  | .int i => i.natAbs.log2 < 1920 ∧ Q (.str (toString i)) η1
  | _ => False
theorem ve_fmtI {ta : TE} {wa : WD} (ha : VE K W ta wa) : VE K W (tFmt ta) (wFmtI wa) := ⟨fun c q hx hq =>
  ha.run c q hx fun _ _ _ v d s1 c1 rp q1 => by
    cases d with
    | int i =>
      cases rp
      exact .inr ⟨i, rfl, q1.1, hq _ _ _ _ _ s1 c1 (.str _) q1.2⟩
    | _ => exact q1.elim⟩
theorem ve_strI {ta : TE} {wa : WD} (ha : VE K W ta wa) : VE K W (tCB (fun xs H Q => ∃ i, xs = [.int i] ∧ i.natAbs.log2 < 1920 ∧ Q (.str (toString i)) H) (tCons ta tNil)) (wFmtI wa) := ⟨fun c q hx hq =>
  ha.run c q hx fun _ _ _ v d s1 c1 rp q1 => by
    cases d with
    | int i =>
      cases rp
      exact ⟨i, rfl, q1.1, hq _ _ _ _ _ s1 c1 (.str _) q1.2⟩
    | _ => exact q1.elim⟩
/-- the parts of an f-string, one behind the other -/
inductive VJ (K : PySem.W.Frag) (W : WX) : List TE → List WD → Prop where
  | nil : VJ K W [] []
  | cons {t : TE} {w : WD} {ts : List TE} {ws : List WD} (h : VE K W t w) (r : VJ K W ts ws) : VJ K W (t :: ts) (w :: ws)
def wJs : List WD → Str → En → XW → (Str → En → Prop) → Prop
  | [], acc, η, _, Q => Q acc η
  | w :: ws, acc, η, X, Q => w η X fun d η1 => match d with
    | .str y => (acc ++ y).length ≤ sizeLine ∧ wJs ws (acc ++ y) η1 X Q
    | _ => False
theorem vj_run {ts : List TE} {ws : List WD} (h : VJ K W ts ws) : ∀ {F H : Hp} {σ : L2.St} {η : En} {X : XW} {acc : Str} {Q : Str → En → Prop} {R : Str → Hp → Prop}, Cfg K F H σ η → wJs ws acc η X Q → OutX K W F H σ η X →
    (∀ F' H' η' x, Stp F H η F' H' η' → Cfg K F' H' σ η' → Q x η' → R x H') → tJs ts acc σ H R := by
  induction h with
  | nil => exact fun c q _ k => k _ _ _ _ .refl c q
  | cons h r ih =>
    intro F H σ η X acc Q R c q hx k
    refine h.run c q hx fun F1 H1 η1 v d s1 c1 rp q1 => ?_
    cases d with
    | str y =>
      cases rp
      exact ⟨y, rfl, q1.1, ih c1 q1.2 (hx.on s1) fun F2 H2 η2 x s2 c2 q2 => k _ _ _ _ (s1.trans s2) c2 q2⟩
    | _ => exact q1.elim
theorem ve_joined {ts : List TE} {ws : List WD} (h : VJ K W ts ws) : VE K W (fun σ H Q => tJs ts Str.empty σ H fun out H1 => Q (.str out) H1) (fun η X Q => wJs ws Str.empty η X fun x η1 => Q (.str x) η1) := ⟨fun c q hx hq =>
  vj_run h c q hx fun F' H' η' x s1 c1 q1 => hq _ _ _ _ _ s1 c1 (.str x) q1⟩
/-- x in range(n) -/
def wInR (wa wb : WD) : WD := fun η X Q => wa η X fun x η1 => wb η1 X fun y η2 => match x, y with
  | .int i, .int j => Q (.bl (decide (0 ≤ i ∧ i < j))) η2
  | _, _ => False
theorem ve_inR {ta tb : TE} {wa wb : WD} (ha : VE K W ta wa) (hb : VE K W tb wb) : VE K W (tOp (fun x y H Q => ∃ i a lo hi, x = V.int i ∧ y = V.ref a ∧ H a = some (.rng lo hi) ∧ Q (.bl (decide (lo ≤ i ∧ i < hi))) H) ta (tCB (fun vs H Q => ∃ n, vs = [.int n] ∧ ∀ p, H p = none → Q (.ref p) (upd H p (.rng 0 n))) (tCons tb tNil))) (wInR wa wb) := ⟨fun c q hx hq =>
  ha.run c q hx fun F1 H1 η1 x d s1 c1 r1 q1 => hb.run c1 q1 (hx.on s1) fun F2 H2 η2 y e s2 c2 r2 q2 => by
    cases d <;> first | exact q2.elim | skip
    cases e <;> first | exact q2.elim | skip
    cases r1
    cases r2
    rename_i i j
    refine ⟨j, rfl, fun p np => ?_⟩
    obtain ⟨c3, s3, _⟩ := c2.lay (o := .rng 0 j) np
    exact ⟨i, p, 0, j, rfl, rfl, upd_same, hq _ _ _ _ _ ((s1.trans s2).trans s3) c3 (.bl _) q2⟩⟩
/-- the program's own repr -/
def wkOne (C : Addr) (wa : WD) : WK := fun η X Q => wa η X fun x η1 => match x with
  | .ins C1 gs => C1 = C ∧ Q [.val (.ins C1 gs)] η1
  | _ => False
theorem ve_reprOwn {C : Addr} {S : VSp} {ta : TE} {wa : WD} (ha : VE K (fun _ _ _ _ => False) ta wa) : VE K W (tCB (rReprOwn C (spV K S)) (tCons ta tNil)) (fun η X Q => wCall0 S (wkOne C wa) η X fun r η1 => match r with | .val (.str x) => Q (.str x) η1 | _ => False) := ⟨fun {F H σ η X Q R} c q hx hq =>
  ha.run (X := fun _ _ _ => False) c q noOut fun F1 H1 η1 v d s1 c1 r1 q1 => by
    cases r1 <;> first | exact q1.elim | skip
    rename_i a1 C1 d1 f1 g1 h1 k1
    obtain ⟨rfl, q1⟩ := q1
    refine ⟨_, _, _, rfl, c1.sub _ _ h1, call_run s1 c1 (.val (.ins h1 k1) .nil) q1 (fun _ _ _ _ _ _ _ _ _ _ z => z.elim) fun F' H' η' v r s2 c2 rs q2 => ?_⟩
    cases r with
    | val d =>
      cases d <;> first | exact q2.elim | skip
      cases rs
      exact ⟨_, rfl, hq _ _ _ _ _ s2 c2 (.str _) q2⟩
    | new o => exact q2.elim⟩
end
end Tw

namespace Tw
open PySem PySem.Spec PyProof.Rows L2 Builtin
/-! ### != of instances with an own __eq__ and no __ne__; == with a value of another class -/
section
variable {prog : Program} {w : World} {A : Around} {E : Value → Shared → Prop} {s : Shared} {K : PySem.W.Frag} {x y C f : Addr} {ox oy : Obj} {od od' : Option Obj}
theorem ne_entry {Q : Fin → Shared → Prop} (hu : A.units < cLine) (X : K.In s.heap) (I : PySem.W.InstAt s.heap x ox C od) (hs : PySem.W.findIn K (.ref C) "__eq__" = some (some (.ref f))) (hf : PySem.W.isFn K (.ref f) = true)
    (h : wpAny (model prog w) A (call (.ref f) [.ref x, .ref y]) (fun v s' => ∃ b, v = .bool b ∧ Q (.done (.ret (.bool (!b)))) s') E s) : wpAny (model prog w) A (Builtin.«object.__ne__» ⟨[.ref x, .ref y], []⟩) Q E s := by
  unfold Builtin.«object.__ne__»
  repeat (first
    | with_reducible refine wpAny_cRoomFor hu ?_
    | (refine wpAny_bind (m := callSpecialIfBound? (.ref x) (Str.ofString "__eq__") [.ref y]) (PySem.W.ifBound_K X I hs hf (wpAny_mono h (fun r s' z => ?_) fun _ _ e => e))
       obtain ⟨b, rfl, q⟩ := z)
    | (with_reducible exact q)
    | (with_reducible exact wpAny_pure q)
    | (with_reducible exact wpAny_truthy_bool q)
    | (refine wpAny_bind (m := truthy (.bool _)) (wpAny_truthy_bool ?_))
    | wp_step)
theorem ne_bound {M : Model} {args : List Value} {Q : Option Value → Shared → Prop} (X : K.In s.heap) (I : PySem.W.InstAt s.heap x ox C od) (hn : PySem.W.findIn K (.ref C) "__ne__" = some (some (.builtin "object.__ne__")))
    (h : wpAny M A (call (.builtin "object.__ne__") (.ref x :: args)) (fun v => Q (some v)) E s) : wpAny M A (callSpecialIfBound? (.ref x) "__ne__" args) Q E s := by
  simp only [callSpecialIfBound?, bindSpecialIfBound?]
  have last : wpAny M A (call (.builtin "object.__ne__") ([.ref x] ++ args) >>= fun v => pure (some v)) Q E s := wpAny_bind (wpAny_mono h (fun v s' z => wpAny_pure z) fun _ _ z => z)
  refine wpAny_holding (wpAny_bind (wpAny_bind (wpAny_bind (I.type.here ((PySem.W.looks_findIn X hn).here (wpAny_bind (wpAny_askSetting (wpAny_ite ?_))))))))
  split
  · exact wpAny_bind (wpAny_of_eq (F.cmp_object.ne.bind _) (wpAny_pure (by exact last)))
  · exact wpAny_tryCatch (wpAny_bind (wpAny_of_eq (F.cmp_object.ne.bind _) (wpAny_pure (by exact last))))
theorem ne_inst {Q : Value → Shared → Prop} (hu : A.units + 1 < cLine) (X : K.In s.heap) (I : PySem.W.InstAt s.heap x ox C od) (J : PySem.W.InstAt s.heap y oy C od') (hn : PySem.W.findIn K (.ref C) "__ne__" = some (some (.builtin "object.__ne__")))
    (hm : PySem.W.mroIn K C (.type "object") = some true) (hs : PySem.W.findIn K (.ref C) "__eq__" = some (some (.ref f))) (hf : PySem.W.isFn K (.ref f) = true)
    (h : wpAny (model prog w) A.in1 (call (.ref f) [.ref x, .ref y]) (fun v s' => ∃ b, v = .bool b ∧ Q (.bool (!b)) s') E s) : wpAny (model prog w) A (compareOp .NotEq (.ref x) (.ref y)) Q E s := by
  have one : wpAny (model prog w) A (tryCompare (.ref x) "__ne__" (.ref y)) (fun r s' => ∃ b, r = some (.bool b) ∧ Q (.bool b) s') E s := by
    unfold tryCompare
    refine wpAny_bind (ne_bound X I hn (wpAny_call (codeAny_call_builtin F.cmp_object.ne.plain F.cmpEntry_ne (PySem.W.check_slot F.cmpKind_ne F.cmpSplit_ne (I.type.andThen (PySem.W.looks_mroIn X hm)) (F.cmpArgs_ne _ _)
      (ne_entry hu X I hs hf (wpAny_mono h (fun v s' z => ?_) fun _ _ e => e))))))
    obtain ⟨b, rfl, q⟩ := z
    first
      | exact ⟨b, rfl, wpAny_pure ⟨_, rfl, q⟩⟩
      | exact ⟨b, rfl, wpAny_pure (wpAny_pure ⟨_, rfl, q⟩)⟩
  show wpAny (model prog w) A (richCompare .NotEq (.ref x) (.ref y)) Q E s
  unfold richCompare
  simp only [oneThing_ref]
  refine wpAny_holding (wpAny_bind (wpAny_cRoomFor (Nat.lt_of_succ_lt hu) ?_))
  rw [cmpInfo_NotEq]
  refine wpAny_bind (I.type.here (wpAny_bind (J.type.here ?_)))
  rw [show (Value.ref C != Value.ref C) = false from by simp]
  simp only [Bool.false_eq_true, if_false]
  refine wpAny_bind (wpAny_pure ?_)
  simp only [Bool.false_eq_true, if_false]
  refine wpAny_bind (wpAny_mono one (fun r s' z => ?_) fun _ _ e => e)
  obtain ⟨b, rfl, q⟩ := z
  first | exact wpAny_pure q | exact q
end
section
variable {X : Cx} {CX : CXT} {n : Nat} {C f : Addr} {fd : FuncData} {ps : List Str} {sp : Sp} {E : XK}
/-- a call of a program's def, from a state of the body -/
theorem runA {pins : List (Addr × Obj)} {σ : L2.St} {s : Shared} {H : Hp} {us : List Value} {vs : List V} {Q : L2.VK} {A : Around} (F : FnOk X.prog X.w X.K X.mg X.base CX n f fd ps sp) (hr : Room n A) (hb : Binds X.K fd ps []) (hx : Passes CX X E)
    (I : Inv X pins σ H s) (e0 : Env0 X.prog X.w X.K X.mg X.base A X.stack s H) (r : Vals vs us) (h : sp vs H Q E) (R : Value → Shared → Prop) (hR : ∀ u s', EP X pins σ Q u s' → R u s') : wpAny (model X.prog X.w) A (call (.ref f) us) R X.xe s := by
  have hl : (us ++ []).length = ps.length := by rw [List.append_nil, ← r.length]; exact F.len _ _ _ _ h
  have b := hb s us I.kIn hl
  rw [List.append_nil] at b
  refine wpAny_call (codeAny_mono (F.run A X.stack s H ⟨us, []⟩ us vs Q E hr e0 b r h) fun r s' hq => ?_)
  cases r with
  | error e => exact hx pins σ H s e s' I hq
  | ok fl =>
    cases fl with
    | ret u => exact hR u s' (I.after hq)
    | next => exact hq.elim
    | brk => exact hq.elim
    | cont => exact hq.elim
def rNeOwn (C : Addr) (sp : Sp) (E : XK) : R2 := fun x y H Q => ∃ a b dx dy fs gs, x = .ref a ∧ y = .ref b ∧ H a = some (.ins C dx fs) ∧ H b = some (.ins C dy gs) ∧ sp [x, y] H (fun v H' => ∃ k, v = .bl k ∧ Q (.bl (!k)) H') E
theorem op_neOwn (F : FnOk X.prog X.w X.K X.mg X.base CX n f fd ps sp) (hs : PySem.W.findIn X.K (.ref C) "__eq__" = some (some (.ref f))) (hf : PySem.W.isFn X.K (.ref f) = true) (hn : PySem.W.findIn X.K (.ref C) "__ne__" = some (some (.builtin "object.__ne__")))
    (hm : PySem.W.mroIn X.K C (.type "object") = some true) (hb : Binds X.K fd ps []) (hx : Passes CX X E) (room : Room (n + 1) X.A) : OpR X (compareOp .NotEq) (rNeOwn C sp E) := by
  intro pins s σ H x y v u Q I rx ry d
  obtain ⟨a, b, dx, dy, fs, gs, rfl, rfl, ha, hb', hsp⟩ := d
  cases rx
  cases ry
  obtain ⟨mA, J, _⟩ := ins_get I.hok ha
  obtain ⟨mB, J', _⟩ := ins_get I.hok hb'
  obtain ⟨od, J, _⟩ := J.look
  obtain ⟨od', J', _⟩ := J'.look
  refine ne_inst (hu_of room) I.kIn J J' hn hm hs hf ?_
  refine runA (A := X.A.in1) (vs := [V.ref a, V.ref b]) F room.in1 hb hx I I.env0.in1 (.cons rfl (.cons rfl .nil)) hsp _ fun u s' z => ?_
  obtain ⟨v, H', I', rv, k, rfl, q⟩ := z
  cases rv
  exact ⟨k, rfl, .bl _, H', I', rfl, q⟩
/-- the type of what stands on the right -/
inductive TyV (K : PySem.W.Frag) (H : Hp) : V → String → Prop
  | tup {a : Addr} {xs : List V} : SqT K H a xs → TyV K H (.ref a) "tuple"
  | str (x : Str) : TyV K H (.str x) "str"
def rEqTy (K : PySem.W.Frag) (C : Addr) (T : String) (sp : Sp) (E : XK) : R2 := fun x y H Q => ∃ a dx fs, x = .ref a ∧ H a = some (.ins C dx fs) ∧ TyV K H y T ∧ sp [x, y] H (fun v H' => ∃ k, v = .bl k ∧ Q v H') E
theorem op_eqTy {T : String} (F : FnOk X.prog X.w X.K X.mg X.base CX n f fd ps sp) (hs : PySem.W.findIn X.K (.ref C) "__eq__" = some (some (.ref f))) (hf : PySem.W.isFn X.K (.ref f) = true) (nf : PySem.W.notFirst X.K C (.type T) = true)
    (hb : Binds X.K fd ps []) (hx : Passes CX X E) (room : Room n X.A) : OpR X (compareOp .Eq) (rEqTy X.K C T sp E) := by
  intro pins s σ H x y v u Q I rx ry d
  obtain ⟨a, dx, fs, rfl, ha, ty, hsp⟩ := d
  cases rx
  obtain ⟨mA, J, _⟩ := ins_get I.hok ha
  obtain ⟨od, J, _⟩ := J.look
  obtain ⟨m, hF⟩ := I.fr
  have ht : PySem.W.Looks (model X.prog X.w) s.heap (typeOf u) (.type T) := by
    cases ty with
    | tup h =>
      cases ry
      obtain ⟨its, rv, ⟨o, h1, h2, _⟩, _⟩ := I.tuple h
      rw [← h2]
      exact (PySem.W.Looks.ld (part := none) h1).andThen .now
    | str x =>
      obtain ⟨t, rfl⟩ := ry
      exact PySem.W.Looks.now
  show wpAny (model X.prog X.w) X.A (richCompare .Eq (.ref a) u) (EP X pins σ Q) X.xe s
  refine PySem.W.cmp_K (op := .Eq) (tb := .type T) room.units0 hF I.ok.mod.kin J ht nf hs hf ?_
  refine runA (A := X.A) (vs := [V.ref a, y]) F room hb hx I I.env0 (.cons rfl (.cons ry .nil)) hsp _ fun u s' z => ?_
  obtain ⟨v, H', I', rv, k, rfl, q⟩ := z
  cases rv
  exact ⟨.bl k, H', I', rfl, q⟩
end
end Tw

namespace Tw
open PySem PySem.Spec PyProof.Rows L2
section
variable {K : PySem.W.Frag} {W : WX}
/-! ### by value: !=, and == with a value of another class -/
theorem vrs_bool {S : VSp} {F H F1 H1 : Hp} {σ : L2.St} {η η1 : En} {Q : D → En → Prop} {R : L2.VK} {vs : List V} {ks : List Ak} {g : Bool → Bool} (s1 : Stp F H η F1 H1 η1) (c1 : Cfg K F1 H1 σ η1) (a : AkAt K F1 σ vs ks)
    (q : atCall S ks η1 (fun _ _ => False) (fun r η' => match r with | .val (.bl b) => Q (.bl (g b)) η' | _ => False)) (hq : ∀ F' H' η' v d, Stp F H η F' H' η' → Cfg K F' H' σ η' → Rp K F' v d → Q d η' → R v H') : spV K S vs H1 (fun v H' => ∃ k, v = .bl k ∧ R (.bl (g k)) H') E0 :=
  call_run s1 c1 a q (fun _ _ _ _ _ _ _ _ _ _ z => z.elim) fun F' H' η' v r s2 c2 rs q2 => by
    cases r with
    | val d =>
      cases d <;> first | exact q2.elim | skip
      cases rs
      exact ⟨_, rfl, hq _ _ _ _ _ s2 c2 (.bl _) q2⟩
    | new o => exact q2.elim
def wBool (g : Bool → Bool) (S : VSp) (wk : WK) : WD := fun η X Q => wCall0 S wk η X fun r η1 => match r with
  | .val (.bl b) => Q (.bl (g b)) η1
  | _ => False
theorem ve_neOwn {C : Addr} {S : VSp} {ta tb : TE} {wa wb : WD} (ha : VE K (fun _ _ _ _ => False) ta wa) (hb : VE K (fun _ _ _ _ => False) tb wb) : VE K W (tOp (rNeOwn C (spV K S) E0) ta tb) (wBool (fun b => !b) S (wkTwo C wa wb)) := ⟨fun {F H σ η X Q R} c q hx hq =>
  ha.run (X := fun _ _ _ => False) c q noOut fun F1 H1 η1 v d s1 c1 r1 q1 => hb.run (X := fun _ _ _ => False) c1 q1 noOut fun F2 H2 η2 u e s2 c2 r2 q2 => by
    have r1' := r1.same s2.ff
    cases r1' <;> first | exact q2.elim | skip
    cases r2 <;> first | exact q2.elim | skip
    rename_i a1 C1 d1 f1 g1 h1 k1 a2 C2 d2 f2 g2 h2 k2
    obtain ⟨⟨rfl, rfl⟩, q2⟩ := q2
    exact ⟨_, _, _, _, _, _, rfl, rfl, c2.sub _ _ h1, c2.sub _ _ h2, vrs_bool (g := fun b => !b) (s1.trans s2) c2 (.val (.ins h1 k1) (.val (.ins h2 k2) .nil)) q2 hq⟩⟩
def wkTy (C : Addr) (T : String) (wa wb : WD) : WK := fun η X Q => wa η X fun x η1 => wb η1 X fun y η2 => match x, y with
  | .ins C1 gs, .tup ds => (C1 = C ∧ T = "tuple") ∧ Q [.val (.ins C1 gs), .val (.tup ds)] η2
  | .ins C1 gs, .str z => (C1 = C ∧ T = "str") ∧ Q [.val (.ins C1 gs), .val (.str z)] η2
  | _, _ => False
theorem vrs_self {S : VSp} {F H F1 H1 : Hp} {σ : L2.St} {η η1 : En} {Q : D → En → Prop} {R : L2.VK} {vs : List V} {ks : List Ak} (s1 : Stp F H η F1 H1 η1) (c1 : Cfg K F1 H1 σ η1) (a : AkAt K F1 σ vs ks)
    (q : atCall S ks η1 (fun _ _ => False) (fun r η' => match r with | .val (.bl b) => Q (.bl b) η' | _ => False)) (hq : ∀ F' H' η' v d, Stp F H η F' H' η' → Cfg K F' H' σ η' → Rp K F' v d → Q d η' → R v H') : spV K S vs H1 (fun v H' => ∃ k, v = .bl k ∧ R v H') E0 :=
  call_run s1 c1 a q (fun _ _ _ _ _ _ _ _ _ _ z => z.elim) fun F' H' η' v r s2 c2 rs q2 => by
    cases r with
    | val d =>
      cases d <;> first | exact q2.elim | skip
      cases rs
      exact ⟨_, rfl, hq _ _ _ _ _ s2 c2 (.bl _) q2⟩
    | new o => exact q2.elim
theorem ve_eqTy {C : Addr} {T : String} {S : VSp} {ta tb : TE} {wa wb : WD} (ha : VE K (fun _ _ _ _ => False) ta wa) (hb : VE K (fun _ _ _ _ => False) tb wb) : VE K W (tOp (rEqTy K C T (spV K S) E0) ta tb) (wBool id S (wkTy C T wa wb)) := ⟨fun {F H σ η X Q R} c q hx hq =>
  ha.run (X := fun _ _ _ => False) c q noOut fun F1 H1 η1 v d s1 c1 r1 q1 => hb.run (X := fun _ _ _ => False) c1 q1 noOut fun F2 H2 η2 u e s2 c2 r2 q2 => by
    have r1' := r1.same s2.ff
    cases r1' <;> first | exact q2.elim | skip
    rename_i a1 C1 d1 f1 g1 h1 k1
    cases r2 <;> first | exact q2.elim | skip
    · rename_i x
      obtain ⟨⟨rfl, rfl⟩, q2⟩ := q2
      exact ⟨_, _, _, rfl, c2.sub _ _ h1, .str _, vrs_self (s1.trans s2) c2 (.val (.ins h1 k1) (.val (.str _) .nil)) q2 hq⟩
    · rename_i a2 xs ds h2 k2
      obtain ⟨⟨rfl, rfl⟩, q2⟩ := q2
      exact ⟨_, _, _, rfl, c2.sub _ _ h1, .tup (SqT.of (c2.sub _ _ h2)), vrs_self (s1.trans s2) c2 (.val (.ins h1 k1) (.val (.tup h2 k2) .nil)) q2 hq⟩⟩
/-! ### a list within a new list is written to: what a def tells holds nothing of the settled lists, so this one is new -/
def noL (F : Hp) : Hp := fun a => match F a with
  | some (.lst _) => none
  | u => u
theorem noL_sub {F : Hp} : Same (noL F) F := fun a u e => by
  unfold noL at e
  split at e
  · cases e
  · exact e
theorem noL_of {F : Hp} {a : Addr} {u : HO} (e : F a = some u) (n : ∀ xs, u ≠ .lst xs) : noL F a = some u := by
  unfold noL
  rw [e]
  cases u <;> first | rfl | exact absurd rfl (n _)
theorem noL_lst {F : Hp} {a : Addr} {xs : List V} (e : noL F a = some (.lst xs)) : False := by
  unfold noL at e
  split at e
  · cases e
  · rename_i n
    exact n _ e
def NoOwn (η : En) : Prop := ∀ (i : Nat) (q : Addr) (o : OB), η[i]? ≠ some (.ow q o)
theorem NoOwn.no {η : En} (h : NoOwn η) {a : Addr} : ¬ Own η a := fun ⟨i, o, e⟩ => h i a o e
theorem NoOwn.set {η : En} (h : NoOwn η) (k : Nat) (d : Sl) (hd : ∀ q o, d ≠ .ow q o) : NoOwn (η.set k d) := fun i q o e => by
  rcases set_at e with ⟨_, e⟩ | ⟨_, e⟩
  · exact hd q o e.symm
  · exact h i q o e
def wNear (K : PySem.W.Frag) (S : VSp) (w1 w2 w3 : WB) (iN iS iT : Nat) : WS := fun E X η => ∃ (dN dS : D) (out : List D), (η[iN]? = some (.fz dN) ∧ η[iS]? = some (.fz dS) ∧ NoOwn η ∧ iT < η.length) ∧
  ((∀ F v, Rp K F v dN → Rp K (noL F) v dN) ∧ (∀ F v, Rp K F v dS → Rp K (noL F) v dS) ∧ ∀ ds, out = [.lst ds] → ds.length < 1000000) ∧
  (∀ Q : Rs → List Sl → Prop, Q (.new (.lst out)) [.fz dN, .fz dS] → S [.fz dN, .fz dS] (fun _ _ => False) Q) ∧
  w1 (η.set iT (.fz (.lst out))) X (fun b η' => b = false ∧ η' = η.set iT (.fz (.lst out))) ∧
  w2 (η.set iT (.fz (.lst out))) X (fun b η' => η' = η.set iT (.fz (.lst out)) ∧ (b = true → ∃ ds, out = [.lst ds])) ∧
  w3 (η.set iT .no) X (fun b η' => b = false ∧ η' = η.set iT .no) ∧ E.nx (η.set iT .no)
theorem vs_near {S : VSp} {t1 t2 t3 : TT} {ta : TE} {r1 r3 : TS} {w1 w2 w3 : WB} {iN iS iT : Nat} (h1 : VT K W t1 w1) (h2 : VT K W t2 w2) (h3 : VT K W t3 w3)
    (happ : ∀ {σ : L2.St} {H : Hp} {Q : L2.VK} {q r : Addr} {xs : List V}, σ[iT]? = some (some (.ref q)) → H q = some (.lst [.ref r]) → H r = some (.lst xs) → xs.length < 1000000 → Q .non (upd H r (.lst (xs ++ [.int (-1)]))) → ta σ H Q) :
    VS K W (tSeq (tAsg (tCall (spV K S) [] E0 (tCons (tVar iN) (tCons (tVar iS) tNil))) (gName iT)) (tSeq (tIfS t1 r1 tNext) (tIfS t2 (tSeq (tDrop ta) (tIfS t3 r3 tNext)) tNext))) (wNear K S w1 w2 w3 iN iS iT) := ⟨fun {F H σ η E X Dd} c q k => by
  obtain ⟨dN, dS, out, ⟨eN, eS, no, lT⟩, ⟨lN, lS, small⟩, sv, q1, q2, q3, qn⟩ := q
  obtain ⟨vN, sN, rN⟩ := c.fz _ _ eN
  obtain ⟨vS, sS, rS⟩ := c.fz _ _ eS
  refine ⟨vN, sN, vS, sS, ?_⟩
  have c0 : Cfg K (noL F) H ([vN, vS].map some) [.fz dN, .fz dS] := by
    refine ⟨fun a u e => c.sub _ _ (noL_sub _ _ e), rfl, fun i d e => ?_, fun i q o e => ?_, fun i j q o u e => ?_⟩
    · match i, e with
      | 0, e => cases e; exact ⟨vN, rfl, lN _ _ rN⟩
      | 1, e => cases e; exact ⟨vS, rfl, lS _ _ rS⟩
    · match i, e with
      | 0, e => cases e
      | 1, e => cases e
    · match i, e with
      | 0, e => cases e
      | 1, e => cases e
  refine ⟨noL F, [.fz dN, .fz dS], fun _ _ => False, fun r as => r = .new (.lst out), c0, sv _ rfl, fun F' H' as' v r st cf rs e => ?_, fun _ _ _ _ _ _ _ _ _ _ z => z.elim⟩
  subst e
  obtain ⟨p, h, rfl, nF', _, hp, ro, fresh⟩ := rs
  have noA : NoOwn [Sl.fz dN, .fz dS] := fun i q o e => by
    match i, e with
    | 0, e => cases e
    | 1, e => cases e
  have nH : H p = none := fresh.elim id fun z => absurd z noA.no
  cases ro with
  | lst rl =>
    rename_i vs
    have old : ∀ a, H a ≠ none → H' a = H a ∧ F' a = noL F a := fun a ha => st.fr a ha noA.no
    let F1 : Hp := fun a => if H a = none then (if a = p then some (.lst vs) else F' a) else F a
    have f1p : F1 p = some (.lst vs) := by show (if H p = none then _ else _) = _; rw [if_pos nH, if_pos rfl]
    have f1n : ∀ {a}, H a = none → a ≠ p → F1 a = F' a := fun {a} h n => by show (if H a = none then _ else _) = _; rw [if_pos h, if_neg n]
    have f1o : ∀ {a}, H a ≠ none → F1 a = F a := fun {a} h => by show (if H a = none then _ else _) = _; rw [if_neg h]
    have FF1 : Same F F1 := fun a u e => by rw [f1o (by rw [c.sub _ _ e]; simp)]; exact e
    have F'F1 : Same F' F1 := fun a u e => by
      by_cases ha : H a = none
      · rw [f1n ha (fun z => by rw [z, nF'] at e; cases e)]; exact e
      · rw [f1o ha]
        rw [(old a ha).2] at e
        exact noL_sub _ _ e
    have F1H : Same F1 H' := fun a u e => by
      by_cases ha : H a = none
      · by_cases hz : a = p
        · subst hz; rw [f1p] at e; cases e; exact hp
        · rw [f1n ha hz] at e; exact cf.sub _ _ e
      · rw [f1o ha] at e; rw [(old a ha).1]; exact c.sub _ _ e
    have rp1 : Rp K F1 (.ref p) (.lst out) := .lst f1p (rl.same F'F1)
    have lσ : iT < σ.length := by rw [← c.len]; exact lT
    have cA : Cfg K F1 H' σ η := ⟨F1H, c.len, fun i d e => let ⟨v, a, b⟩ := c.fz i d e; ⟨v, a, b.same FF1⟩, fun i q o e => absurd e (no i q o), fun i j q o u e => absurd e (no i q o)⟩
    have c1 := cA.put iT lσ rp1
    have s1 : Stp F H η F1 H' (η.set iT (.fz (.lst out))) := ⟨FF1, fun a ha _ => ⟨(old a ha).1, f1o ha⟩, fun a ha => by rw [(old a ha).1]; exact ha, fun a o => (absurd o (no.set iT (.fz (.lst out)) (fun _ _ z => by cases z)).no)⟩
    have no1 : NoOwn (η.set iT (.fz (.lst out))) := no.set iT _ fun _ _ z => by cases z
    have out1 : OutX K W F1 H' (σ.set iT (some (.ref p))) (η.set iT (.fz (.lst out))) X := fun F2 H2 σ2 η2 C dd fs gs s => k.ox _ _ _ _ _ _ _ _ (s1.trans s)
    refine h1.run c1 q1 out1 fun F2 H2 η2 b s2 c2 ⟨hb, e2⟩ => ?_
    subst hb
    subst e2
    refine h2.run c2 q2 (fun F3 H3 σ3 η3 C dd fs gs s => out1 _ _ _ _ _ _ _ _ (s2.trans s)) fun F3 H3 η3 b s3 c3 ⟨e3, hb⟩ => ?_
    subst e3
    have s13 := s2.trans s3
    cases b with
    | false =>
      exact k.nx _ _ _ _ ((s1.trans s13).trans (by
        have := Stp.drop (F := F3) (H := H3) (η := η.set iT (.fz (.lst out))) iT
        exact this)) (c3.drop iT) (by rw [List.set_set]; exact qn)
    | true =>
      obtain ⟨ds, rfl⟩ := hb rfl
      cases rl with
      | cons ra rnil =>
        cases rnil
        cases ra with
        | lst hr rds =>
          rename_i r xs
          have nr : H r = none := Classical.byContradiction fun z => noL_lst (by rw [← (old r z).2]; exact hr)
          have pr : r ≠ p := fun z => by rw [z, nF'] at hr; cases hr
          have hr1 : H' r = some (.lst xs) := cf.sub _ _ hr
          have k1 : ∀ a, H' a ≠ none → H3 a = H' a ∧ F3 a = F1 a := fun a ha => s13.fr a ha no1.no
          have hr3 : H3 r = some (.lst xs) := by rw [(k1 r (by rw [hr1]; simp)).1]; exact hr1
          have hp3 : H3 p = some (.lst [.ref r]) := by rw [(k1 p (by rw [hp]; simp)).1]; exact hp
          refine happ (by rw [List.getElem?_set, if_pos rfl, if_pos lσ]) hp3 hr3 (by rw [rds.len]; exact small ds rfl) ?_
          let F4 : Hp := fun a => if a = r ∨ a = p then none else F3 a
          have f4 : ∀ {a}, ¬ (a = r ∨ a = p) → F4 a = F3 a := fun h => if_neg h
          have f4n : ∀ {a}, (a = r ∨ a = p) → F4 a = none := fun h => if_pos h
          have inH : ∀ {a}, H a ≠ none → ¬ (a = r ∨ a = p) := fun {a} h z => by
            rcases z with rfl | rfl
            · exact h nr
            · exact h nH
          have o3 : ∀ {a}, H a ≠ none → H3 a = H a ∧ F3 a = F a := fun {a} h => by
            have g1 := (old a h).1
            obtain ⟨g2, g3⟩ := k1 a (by rw [g1]; exact h)
            exact ⟨g2.trans g1, g3.trans (f1o h)⟩
          have FF4 : Same F F4 := fun a u e => by
            have h : H a ≠ none := by rw [c.sub _ _ e]; simp
            rw [f4 (inH h), (o3 h).2]; exact e
          have c4 : Cfg K F4 (upd H3 r (.lst (xs ++ [.int (-1)]))) (σ.set iT (some (.ref p))) (η.set iT .no) := by
            refine ⟨fun a u e => ?_, by rw [List.length_set, List.length_set]; exact c.len, fun i d e => ?_, fun i q o e => absurd e (no.set iT .no (fun _ _ z => by cases z) i q o), fun i j q o u e => absurd e (no.set iT .no (fun _ _ z => by cases z) i q o)⟩
            · by_cases z : a = r ∨ a = p
              · rw [f4n z] at e; cases e
              · rw [f4 z] at e
                rw [upd_ne (fun y => z (.inl y))]
                exact c3.sub _ _ e
            · rcases set_at e with ⟨_, e⟩ | ⟨n, e⟩
              · cases e
              · obtain ⟨v, a, b⟩ := c.fz i d e
                exact ⟨v, by rw [List.getElem?_set, if_neg n]; exact a, b.same FF4⟩
          have s4 : Stp F H η F4 (upd H3 r (.lst (xs ++ [.int (-1)]))) (η.set iT .no) := by
            refine ⟨FF4, fun a ha _ => ⟨?_, ?_⟩, fun a ha => ?_, fun a o => absurd o (no.set iT .no fun _ _ z => by cases z).no⟩
            · rw [upd_ne fun z => inH ha (.inl z)]; exact (o3 ha).1
            · rw [f4 (inH ha)]; exact (o3 ha).2
            · rw [upd_ne fun z => inH ha (.inl z), (o3 ha).1]; exact ha
          refine h3.run c4 q3 (fun F5 H5 σ5 η5 C dd fs gs s => k.ox _ _ _ _ _ _ _ _ (s4.trans s)) fun F5 H5 η5 b s5 c5 ⟨hb, e5⟩ => ?_
          subst hb
          subst e5
          exact k.nx _ _ _ _ (s4.trans s5) c5 qn⟩
end
end Tw

namespace Tw
open PySem PySem.Spec PyProof.Rows L2
section
variable {X : Cx}
/-- list(range(lo, hi)) -/
theorem cr_listR2 (calm : X.calm = true) : CallR X (.type "list") (fun vs H Q => ∃ (a : Addr) (lo : Int) (n : Nat), vs = [.ref a] ∧ H a = some (.rng lo (lo + (n : Int))) ∧ (n ≤ 100000 ∧ -100000 ≤ lo ∧ lo ≤ 100000) ∧ ∀ p, H p = none → Q (.ref p) (upd H p (.lst ((List.range n).map fun (k : Nat) => V.int (lo + (k : Int)))))) := by
  intro pins s σ H vs us Q I r wish
  obtain ⟨a, lo, n, rfl, ha, ⟨hn, l1, l2⟩, q⟩ := wish
  rw [Vals.ref1 r]
  obtain ⟨t, u, v, get⟩ := I.hok a _ ha
  refine PySem.call_list_range (a := lo) (b := lo + (n : Int)) (c := 1) (n := n) (I.ok.hd calm) get ?_ ?_ (by omega) fun h' tk acc cap keep new items => ?_
  · exact small_one (by omega) (by omega) (by omega) (by omega)
  · rw [rangeSize_one]; split <;> omega
  · have fresh := I.hok.fresh (Nat.le_refl s.heap.objs.size)
    have hin : IntsAre acc.toList ((List.range n).map fun (k : Nat) => lo + (k : Int)) := ints_each (by rw [List.length_map, List.length_range, Array.length_toList, items.1]) fun j x e => by
      rw [Array.getElem?_toList] at e
      obtain ⟨tk', rfl⟩ := items.2 j x e
      have lt : j < n := by
        have := (Array.getElem?_eq_some_iff.mp e).1
        rw [items.1] at this
        exact this
      refine ⟨_, tk', ?_, rfl⟩
      rw [List.getElem?_map, List.getElem?_range lt]
      show some (lo + (j : Int)) = some (lo + (j : Int) * 1)
      congr 1
      omega
    have vals := vals_of_ints hin
    rw [List.map_map] at vals
    refine ⟨.ref s.heap.objs.size, upd H s.heap.objs.size (.lst ((List.range n).map fun (k : Nat) => V.int (lo + (k : Int)))), I.laid (t' := tk) keep (Nat.le_refl _) ⟨?_, acc.toList, cap, vals, ?_⟩, rfl, q _ fresh⟩
    · rw [List.length_map, List.length_range, sizeLine_eq]; omega
    · rw [Array.toArray_toList]; exact new
end
section
variable {K : PySem.W.Frag} {W : WX}
theorem rng_rp2 {F : Hp} {lo : Int} {n : Nat} : RpL K F ((List.range n).map fun (k : Nat) => V.int (lo + (k : Int))) (rngD lo n) := by
  have e1 : ((List.range n).map fun (k : Nat) => V.int (lo + (k : Int))) = ((List.range n).map fun (k : Nat) => lo + (k : Int)).map V.int := by rw [List.map_map]; rfl
  have e2 : rngD lo n = ((List.range n).map fun (k : Nat) => lo + (k : Int)).map D.int := by
    unfold rngD
    rw [List.map_map]
    rfl
  rw [e1, e2]
  exact RpL.ofInts
def wListR2 (wa wb : WD) : WF := fun η X Q => wa η X fun d η1 => wb η1 X fun e η2 => match d, e with
  | .int i, .int j => (i ≤ j ∧ j - i ≤ 100000 ∧ -100000 ≤ i ∧ i ≤ 100000) ∧ Q (.lst (rngD i (j - i).toNat)) η2
  | _, _ => False
theorem vf_listR2 {ta tb : TE} {wa wb : WD} (ha : VE K W ta wa) (hb : VE K W tb wb) : VF K W (tCB (fun vs H Q => ∃ (a : Addr) (lo : Int) (n : Nat), vs = [.ref a] ∧ H a = some (.rng lo (lo + (n : Int))) ∧ (n ≤ 100000 ∧ -100000 ≤ lo ∧ lo ≤ 100000) ∧ ∀ p, H p = none → Q (.ref p) (upd H p (.lst ((List.range n).map fun (k : Nat) => V.int (lo + (k : Int)))))) (tCons (tCB (fun vs H Q => ∃ i j, vs = [V.int i, V.int j] ∧ ∀ p, H p = none → Q (.ref p) (upd H p (.rng i j))) (tCons ta (tCons tb tNil))) tNil)) (wListR2 wa wb) := ⟨fun {F H σ η X Q R} c q hx hq =>
  ha.run c q hx fun F1 H1 η1 v d s1 c1 r1 q1 => hb.run c1 q1 (hx.on s1) fun F2 H2 η2 u e s2 c2 r2 q2 => by
    cases d <;> first | exact q2.elim | skip
    cases e <;> first | exact q2.elim | skip
    cases r1
    cases r2
    rename_i i j
    obtain ⟨⟨ij, j1, i0, i1⟩, q2⟩ := q2
    refine ⟨i, j, rfl, fun p np => ?_⟩
    obtain ⟨c3, s3, _⟩ := c2.lay (o := .rng i j) np
    have ej : j = i + (((j - i).toNat : Nat) : Int) := by omega
    exact ⟨p, i, (j - i).toNat, rfl, by rw [upd_same, ← ej], ⟨by omega, i0, i1⟩, laid_new ((s1.trans s2).trans s3) c3 rng_rp2 q2 hq⟩⟩
/-- a text behind a text -/
def wCats (wa wb : WD) : WD := fun η X Q => wa η X fun x η1 => wb η1 X fun y η2 => match x, y with
  | .str a, .str b => a.length + b.length ≤ 1000000 ∧ Q (.str (a ++ b)) η2
  | _, _ => False
theorem ve_cats {ta tb : TE} {wa wb : WD} (ha : VE K W ta wa) (hb : VE K W tb wb) : VE K W (tOp (fun x y H Q => ∃ i j, x = V.str i ∧ y = V.str j ∧ i.length + j.length ≤ sizeLine ∧ Q (.str (i ++ j)) H) ta tb) (wCats wa wb) := ⟨fun c q hx hq =>
  ha.run c q hx fun F1 H1 η1 x d s1 c1 r1 q1 => hb.run c1 q1 (hx.on s1) fun F2 H2 η2 y e s2 c2 r2 q2 => by
    cases d <;> first | exact q2.elim | skip
    cases e <;> first | exact q2.elim | skip
    cases r1
    cases r2
    rename_i a b
    obtain ⟨l, q2⟩ := q2
    exact ⟨a, b, rfl, rfl, by have : sizeLine = 16777216 := sizeLine_eq
                              omega, hq _ _ _ _ _ (s1.trans s2) c2 (.str _) q2⟩⟩
/-! ### a slot's own list is lent to what makes a new object that holds no list -/
def NoLst (K : PySem.W.Frag) (d : D) : Prop := ∀ F v, Rp K F v d → Rp K (noL F) v d
def lent (n i j : Nat) (d e : D) : En := ((List.replicate n Sl.no).set i (.fz d)).set j (.fz e)
theorem lent_at {n i j k : Nat} {d e : D} {s : Sl} (h : (lent n i j d e)[k]? = some s) : s = .no ∨ (k = i ∧ s = .fz d) ∨ (k = j ∧ s = .fz e) := by
  unfold lent at h
  rcases set_at h with ⟨a, b⟩ | ⟨_, h⟩
  · exact .inr (.inr ⟨a.symm, b⟩)
  · rcases set_at h with ⟨a, b⟩ | ⟨_, h⟩
    · exact .inr (.inl ⟨a.symm, b⟩)
    · rw [List.getElem?_replicate] at h
      split at h
      · cases h; exact .inl rfl
      · cases h
def wLend (K : PySem.W.Frag) (we : WF) (i j m : Nat) : WS := fun E X η => ∃ (d : D) (q : Addr) (ds : List D), (η[i]? = some (.fz d) ∧ η[j]? = some (.ow q (.lst ds)) ∧ m < η.length ∧ m ≠ j ∧ NoLst K d) ∧
  we (lent η.length i j d (.lst ds)) (fun _ _ _ => False) (fun o η1 => η1 = lent η.length i j d (.lst ds) ∧ NoLst K o.d ∧ (∀ ys, o ≠ .lst ys) ∧ E.nx (η.set m (.fz o.d)))
theorem vs_lend {te : TE} {we : WF} {i j m : Nat} (he : VF K (fun _ _ _ _ => False) te we) : VS K W (tAsg te (gName m)) (wLend K we i j m) := ⟨fun {F H σ η E X Dd} c q k => by
  obtain ⟨d, q0, ds, ⟨ei, ej, lm, mj, nd⟩, q⟩ := q
  obtain ⟨vi, si, ri⟩ := c.fz _ _ ei
  obtain ⟨sj, nq, h0, hq, ro⟩ := c.ow _ _ _ ej
  cases ro with
  | lst rl =>
    rename_i vs
    -- what the callee may see as settled
    let G : Hp := upd F q0 (.lst vs)
    have gq : G q0 = some (.lst vs) := upd_same
    have FG : Same F G := same_new nq
    have noE : NoOwn (lent η.length i j d (.lst ds)) := fun k p o e => by
      rcases lent_at e with z | ⟨_, z⟩ | ⟨_, z⟩ <;> cases z
    have cG : Cfg K G H σ (lent η.length i j d (.lst ds)) := by
      refine ⟨fun a u e => ?_, by unfold lent; rw [List.length_set, List.length_set, List.length_replicate]; exact c.len, fun k d' e => ?_, fun k p o e => absurd e (noE k p o), fun k l p o u e => absurd e (noE k p o)⟩
      · by_cases z : a = q0
        · subst z; rw [gq] at e; cases e; exact hq
        · have e : upd F q0 (.lst vs) a = some u := e
          rw [upd_ne z] at e
          exact c.sub _ _ e
      · rcases lent_at e with z | ⟨rfl, z⟩ | ⟨rfl, z⟩
        · cases z
        · cases z; exact ⟨vi, si, ri.same FG⟩
        · cases z; exact ⟨_, sj, .lst gq (rl.same FG)⟩
    refine he.run (X := fun _ _ _ => False) cG q noOut fun F1 H1 η1 p h o s1 c1 nF no n0 hp r1 ⟨e1, no1, nl, qn⟩ => ?_
    subst e1
    have nH : H p = none := n0.elim id fun z => absurd z noE.no
    have old : ∀ a, H a ≠ none → H1 a = H a ∧ F1 a = G a := fun a ha => s1.fr a ha noE.no
    have pq : p ≠ q0 := fun z => by rw [z, hq] at nH; cases nH
    -- and back: without the lent list
    let F2 : Hp := fun a => if a = q0 then none else if a = p then some h else F1 a
    have f2q : F2 q0 = none := if_pos rfl
    have f2p : F2 p = some h := by show (if p = q0 then none else _) = _; rw [if_neg pq, if_pos rfl]
    have f2 : ∀ {a}, a ≠ q0 → a ≠ p → F2 a = F1 a := fun {a} x y => by show (if a = q0 then none else _) = _; rw [if_neg x, if_neg y]
    have FF2 : Same F F2 := fun a u e => by
      have ha : H a ≠ none := by rw [c.sub _ _ e]; simp
      have aq : a ≠ q0 := fun z => by rw [z, nq] at e; cases e
      rw [f2 aq (fun z => ha (z ▸ nH)), (old a ha).2]
      show upd F q0 _ a = _
      rw [upd_ne aq]; exact e
    have sub2 : Same F2 H1 := fun a u e => by
      by_cases z : a = q0
      · rw [z, f2q] at e; cases e
      · by_cases y : a = p
        · rw [y, f2p] at e; cases e; rw [y]; exact hp
        · rw [f2 z y] at e; exact c1.sub _ _ e
    have rd : Rp K F2 (.ref p) o.d := by
      let F3 : Hp := fun a => if a = p then some h else F1 a
      have f3p : F3 p = some h := if_pos rfl
      have f13 : Same F1 F3 := fun a u e => by
        show (if a = p then some h else F1 a) = _
        rw [if_neg fun z => by rw [z, nF] at e; cases e]; exact e
      have r3 : Rp K F3 (.ref p) o.d := by
        have r1 := r1.same f13
        cases r1 with
        | lst r => exact .lst f3p r
        | ins r => exact .ins f3p r
        | dic r => exact .dic f3p r
      refine (no1 _ _ r3).same fun a u e => ?_
      have e3 := noL_sub _ _ e
      by_cases z : a = q0
      · subst z
        have g1 : F1 a = some (.lst vs) := by rw [(old a (by rw [hq]; simp)).2]; exact gq
        have : noL F3 a = none := by
          unfold noL
          rw [f13 _ _ g1]
        rw [this] at e; cases e
      · by_cases y : a = p
        · subst y; rw [f3p] at e3; rw [f2p]; exact e3
        · rw [f2 z y]
          have g : F3 a = F1 a := if_neg y
          rw [g] at e3; exact e3
    have lσ : m < σ.length := by rw [← c.len]; exact lm
    have own2 : ∀ a, Own η a → H1 a = H a ∧ F2 a = none := fun a oa => by
      obtain ⟨h1, h2⟩ := c.own oa
      refine ⟨(old a h2).1, ?_⟩
      by_cases z : a = q0
      · rw [z]; exact f2q
      · have ap : a ≠ p := fun y => h2 (y ▸ nH)
        rw [f2 z ap, (old a h2).2]
        show upd F q0 _ a = _
        rw [upd_ne z]; exact h1
    have c2 : Cfg K F2 H1 σ η := c.grow FF2 sub2 own2
    have s2 : Stp F H η F2 H1 η := ⟨FF2, fun a ha no => ⟨(old a ha).1, by
      have aq : a ≠ q0 := fun z => no ⟨j, _, by rw [z]; exact ej⟩
      rw [f2 aq (fun z => ha (z ▸ nH)), (old a ha).2]
      show upd F q0 _ a = _
      rw [upd_ne aq]⟩, fun a ha => by rw [(old a ha).1]; exact ha, fun a h => .inl h⟩
    exact k.nx _ _ _ _ (s2.trans (Stp.put m)) (c2.put m lσ rd) qn⟩
end
end Tw

namespace Tw
open PySem PySem.Spec PyProof.Rows L2
def pD (p : Rope) : D := .tup [.int p.1, .int p.2]
def tD (t : Step) : D := .tup [.int t.1, .int t.2.1, .int t.2.2]
theorem rngD_inv {lo : Int} {n i : Nat} {d : D} (h : (rngD lo n)[i]? = some d) : i < n ∧ d = .int (lo + (i : Int)) := by
  have hi : i < n := by
    have := (List.getElem?_eq_some_iff.mp h).1
    rwa [rngD_len] at this
  rw [rngD_at hi] at h
  exact ⟨hi, (Option.some.inj h).symm⟩
theorem map_inv {α : Type} {f : α → D} {l : List α} {i : Nat} {d : D} (h : (l.map f)[i]? = some d) : ∃ a, l[i]? = some a ∧ d = f a := by
  rw [List.getElem?_map] at h
  cases e : l[i]? with
  | none => rw [e] at h; cases h
  | some a => rw [e] at h; exact ⟨a, rfl, (Option.some.inj h).symm⟩
theorem enD_inv {ds : List D} {i : Nat} {d : D} (h : (enD ds)[i]? = some d) : ∃ x, ds[i]? = some x ∧ d = .tup [.int (i : Int), x] := by
  have hi : i < ds.length := by
    have := (List.getElem?_eq_some_iff.mp h).1
    rwa [enD_len] at this
  rw [enD_at (List.getElem?_eq_getElem hi)] at h
  exact ⟨_, List.getElem?_eq_getElem hi, (Option.some.inj h).symm⟩
section
variable {P : Program} {w : World} {K : PySem.W.Frag} {mg : Str → Option Value} {base : Heap} {A₀ : Ad}
theorem trs_of {F H : Hp} (s : Same F H) : ∀ {ts : List Step} {vs : List V}, RpL K F vs (ts.map tD) → Trs H vs ts
  | [], _, .nil => .nil
  | t :: ts, _, .cons (.tup h r) rest => by
    cases r with
    | cons r1 r2 =>
    cases r1
    cases r2 with
    | cons r2 r3 =>
    cases r2
    cases r3 with
    | cons r3 r4 =>
    cases r3
    cases r4
    exact .cons (s _ _ h) (trs_of s rest)
/-- arguments that are values: what is kept -/
theorem fz_keep {F H H' : Hp} {vs : List V} {as : List Sl} (c : Cfg K F H (vs.map some) as) (fz : ∀ a, ¬ Own as a) (s : Same H H') : Stp F H as F H' as ∧ Cfg K F H' (vs.map some) as := by
  refine ⟨⟨fun _ _ e => e, fun a ha _ => ⟨?_, rfl⟩, fun a ha => ?_, fun a o => .inl o⟩, ⟨fun a o e => s a o (c.sub a o e), c.len, c.fz, fun i q o e => absurd ⟨i, o, e⟩ (fz q), c.ne⟩⟩
  · cases e : H a with
    | none => exact absurd e ha
    | some o => exact s a o e
  · cases e : H a with
    | none => exact absurd e ha
    | some o => rw [s a o e]; simp
def svReached : VSp := fun as _ Q => ∃ (gs : List Int) (ts : List Step), as = [.fz (.lst (gs.map D.int)), .fz (.lst (ts.map tD))] ∧ gs.length ≤ 60 ∧ (∀ x ∈ gs, U60 x) ∧ ts.length ≤ 1000 ∧ (∀ t ∈ ts, U60 t.2.1) ∧
  ∀ ns : List Int, (∀ x, x ∈ ns ↔ Rch (ts.map turn) gs x) → ns.length ≤ 60 → Q (.new (.lst (ns.map D.int))) as
theorem cv_stations_reached (T : Txt P w K mg base A₀) : Cal P w K mg base CX0 "stations_reached" 2 ["starts", "steps"] (spV K svReached) := by
  obtain ⟨f, fd, h1, h2, h3, h4⟩ := (cal_stations_reached T).ex
  have imp : ∀ vs H Q E, spV K svReached vs H Q E → spReached vs H Q E := fun vs H Q E ⟨F, as, X, Qd, c, ⟨gs, ts, e, l1, u1, l2, u2, q⟩, k, kx⟩ => by
    subst e
    have hl := c.len
    rw [List.length_map] at hl
    match vs, hl with
    | [v1, v2], _ =>
      obtain ⟨v, e1, r1⟩ := c.fz 0 _ rfl
      cases e1
      obtain ⟨v, e2, r2⟩ := c.fz 1 _ rfl
      cases e2
      cases r1 with
      | lst ha hr =>
      cases r2 with
      | lst hb hs =>
      have ei := hr.ints
      subst ei
      refine ⟨_, _, gs, _, ts, rfl, c.sub _ _ ha, l1, u1, c.sub _ _ hb, trs_of c.sub hs, l2, u2, fun H' q' ns s nq hq mem nl => ?_⟩
      have no : ∀ a, ¬ Own [Sl.fz (.lst (gs.map D.int)), Sl.fz (.lst (ts.map tD))] a := fun a ⟨i, o, e⟩ => by
        match i with
        | 0 => cases e
        | 1 => cases e
        | i + 2 => simp at e
      obtain ⟨st, c'⟩ := fz_keep c no s
      refine k F H' _ _ (.new (.lst (ns.map D.int))) st c' ⟨q', _, rfl, ?_, no q', hq, .lst RpL.ofInts, .inl nq⟩ (q ns mem nl)
      cases e : F q' with
      | none => rfl
      | some o => rw [c.sub _ _ e] at nq; cases nq
  refine ⟨f, fd, ⟨fun vs H Q E h => h1.len _ _ _ _ (imp _ _ _ _ h), fun A outer s H args us vs Q E a1 a2 a3 a4 a5 => h1.run A outer s H args us vs Q E a1 a2 a3 a4 (imp _ _ _ _ a5)⟩, h2, h3, h4⟩
def svSteps : VSp := fun as _ Q => ∃ ps : List Rope, as = [.fz (.lst (ps.map pD))] ∧ ps.length ≤ 1000 ∧ Q (.new (.lst ((stepsFrom 0 ps).map tD))) as
theorem cv_rope_steps (T : Txt P w K mg base A₀) : Cal P w K mg base CX0 "rope_steps" 1 ["ropes"] (spV K svSteps) := by
  skip
  refine cal_ofV T.d_rope_steps sc_rope_steps b_rope_steps (fun as X Q h => ?_) (fun f cdv A outer s H E hr => ⟨_, _, (pss_cons (ps_set (i := 1) sc_rope_steps.nd rfl (Or.inl rfl) (pe_lst pa_nil))
  (pss_cons (ps_for PassesOwn.never rfl (pi_enum (by rfl) T.n_enumerate (pa_cons (pv 0) pa_nil)) (pg_tup rfl (pgs_cons (pg_name (i := 2) sc_rope_steps.nd rfl (Or.inl rfl)) (pgs_cons (pg_tup rfl (pgs_cons (pg_name (i := 3) sc_rope_steps.nd rfl (Or.inl rfl)) (pgs_cons (pg_name (i := 4) sc_rope_steps.nd rfl (Or.inl rfl)) pgs_nil))) pgs_nil))) (pss_cons (ps_expr (pe_bm PySem.F.plainAttrs_list PySem.F.slot_list_append PySem.F.type_list_append mt_append (pv 1) (pa_cons (pe_tup (pa_cons (pv 3) (pa_cons (pv 4) (pa_cons (pv 2) pa_nil)))) pa_nil)))
  (pss_one (ps_expr (pe_bm PySem.F.plainAttrs_list PySem.F.slot_list_append PySem.F.type_list_append mt_append (pv 1) (pa_cons (pe_tup (pa_cons (pv 4) (pa_cons (pv 3) (pa_cons (pv 2) pa_nil)))) pa_nil))))))
  (pss_one (ps_ret (pv 1))))), fun W => (vs_seq (vs_setO 1 (vf_lst va_nil))
  (vs_seq (vs_for (vi_enum (va_cons (ve_var 0) va_nil)) (vg_tup (vgs_cons (vg_name 2) (vgs_cons (vg_tup (vgs_cons (vg_name 3) (vgs_cons (vg_name 4) vgs_nil))) vgs_nil))) (vs_seq (vs_drop (ve_lm 1 vm_append (va_cons (ve_tup (va_cons (ve_var 3) (va_cons (ve_var 4) (va_cons (ve_var 2) va_nil)))) va_nil)))
  (vs_drop (ve_lm 1 vm_append (va_cons (ve_tup (va_cons (ve_var 4) (va_cons (ve_var 3) (va_cons (ve_var 2) va_nil)))) va_nil)))))
  (vs_retO 1))), fun as X Q h => ?_⟩)
  · obtain ⟨ps, rfl, _⟩ := h
    rfl
  · obtain ⟨ps, rfl, hn, q⟩ := h
    intro q0
    refine ⟨fun i η => ∃ y1 y2 y3, η = [.fz (.lst (ps.map pD)), .ow q0 (.lst ((stepsFrom 0 (ps.take i)).map tD)), y1, y2, y3], ⟨_, _, _, rfl⟩, ?_, ?_⟩
    · rintro i d η e ⟨y1, y2, y3, rfl⟩
      obtain ⟨x, e1, rfl⟩ := enD_inv e
      obtain ⟨p, ep, rfl⟩ := map_inv e1
      have l1 : (stepsFrom 0 (ps.take i)).length ≤ 2000 := by rw [stepsFrom_len, List.length_take]; omega
      refine ⟨by rw [List.length_map]; omega, ?_⟩
      refine ⟨by rw [List.length_append, List.length_map]; show _ + 1 < _; omega, ?_⟩
      have key : (stepsFrom 0 (ps.take (i + 1))).map tD = (stepsFrom 0 (ps.take i)).map tD ++ [tD (p.1, p.2, (i : Int))] ++ [tD (p.2, p.1, (i : Int))] := by
        rw [List.take_add_one, ep]
        show (stepsFrom 0 (ps.take i ++ [p])).map tD = _
        rw [stepsFrom_snoc, List.length_take, Nat.zero_add, Nat.min_eq_left (by have := (List.getElem?_eq_some_iff.mp ep).1; omega), List.map_append, List.append_assoc]
        rfl
      show ∃ y1 y2 y3, _ = [Sl.fz (D.lst (ps.map pD)), Sl.ow q0 (.lst ((stepsFrom 0 (ps.take (i + 1))).map tD)), y1, y2, y3]
      rw [key]
      exact ⟨_, _, _, rfl⟩
    · rintro η ⟨y1, y2, y3, rfl⟩
      rw [enD_len, List.length_map, List.take_of_length_le (Nat.le_refl _)]
      exact ⟨_, .fz .nil, q⟩
end
end Tw




namespace Tw
open PySem PySem.Spec PyProof.Rows L2
theorem okI {i : Int} (h : i.natAbs < 2 ^ 100) : okMsgs [.int i] := ⟨by
  show i.natAbs.log2 < 1920
  by_cases z : i.natAbs = 0
  · rw [z]; decide
  · have := (Nat.log2_lt z (k := 100)).mpr h
    omega, trivial⟩
section
variable {P : Program} {w : World} {K : PySem.W.Frag} {mg : Str → Option Value} {base : Heap} {A₀ : Ad}
def svSize (A₀ : Ad) : VSp := fun as X Q => ∃ n : Int, as = [.fz (.int n)] ∧ (okSize n = true → Q (.val .non) as) ∧ (okSize n = false → X A₀.c_BadNet [("place", .int (-1))])
theorem cv_check_size (T : Txt P w K mg base A₀) : Cal P w K mg base (L2N.CX P w) "check_size" 3 ["stations"] (spV K (svSize A₀)) := by
  have x_BadNet := T.x_BadNet
  obtain ⟨mc, rd, ⟨t24, cv24⟩, t40, cv40⟩ := T.net_rd
  refine calX_ofV T.d_check_size sc_check_size b_check_size (fun as X Q h => ?_) (fun f cdv A outer s H E hr => ⟨_, _, (pss_one (ps_if (pt_not (pt_chain op_le op_le pe_int (pv 0) (ClX.pe_cval (pe_glob (v := .ref A₀.c_Net) (by rfl) T.g_Net rfl)))) (pss_one (L2N.ps_raise rfl (L2N.takes_of rfl rfl rfl rfl) (pmk_err x_BadNet (hr.mono (by first | exact Nat.le_refl _ | decide)) (by rfl) (pa_cons (pe_un un_neg pe_int) pa_nil)))) pss_nil)), (vs_if (vt_not (vt_test (ve_chain (ve_c fun _ => .int _) (ve_var 0) (ve_cval rd cv24 fun _ => .int _) (vr_I0 fun _ _ _ => .bl _) (vr_I0 fun _ _ _ => .bl _)))) (vs_raise (va_cons (ve_unI (ve_c fun _ => .int _) fun _ _ => .int _) va_nil)) vs_next), fun as X Q h => ?_⟩)
  · obtain ⟨n, rfl, _⟩ := h
    rfl
  · obtain ⟨n, rfl, qG, qB⟩ := h
    refine ite2 (fun a => ?_) (fun a => ?_)
    · refine ite2 (fun b => ?_) (fun b => ?_)
      · refine ⟨okI (by decide), qB ?_⟩
        unfold okSize
        rw [a]
        show decide (n ≤ 24) = false
        simpa using b
      · refine ⟨_, .fz .nil, qG ?_⟩
        unfold okSize
        rw [a]
        show decide (n ≤ 24) = true
        simpa using b
    · refine ⟨okI (by decide), qB ?_⟩
      unfold okSize
      rw [Bool.not_eq_true _ |>.mp a]
      rfl
def svRopes (A₀ : Ad) : VSp := fun as X Q => ∃ (n : Int) (ps : List Rope), as = [.fz (.int n), .fz (.lst (ps.map pD))] ∧ ps.length ≤ 1000 ∧ (40 < ps.length → X A₀.c_TooMany [("limit", .int 40)]) ∧
  (∀ (k : Nat) (p : Rope), ps.length ≤ 40 → ps[k]? = some p → okRope n p = false → (∀ (j : Nat) (q : Rope), j < k → ps[j]? = some q → okRope n q = true) → X A₀.c_BadNet [("place", .int (k : Int))]) ∧
  (ps.length ≤ 40 → (∀ p ∈ ps, okRope n p = true) → Q (.val .non) as)
theorem cv_check_ropes (T : Txt P w K mg base A₀) : Cal P w K mg base (L2N.CX P w) "check_ropes" 3 ["stations", "ropes"] (spV K (svRopes A₀)) := by
  have x_TooMany := T.x_TooMany; have x_BadNet := T.x_BadNet
  obtain ⟨mc, rd, ⟨t24, cv24⟩, t40, cv40⟩ := T.net_rd
  refine calX_ofV T.d_check_ropes sc_check_ropes b_check_ropes (fun as X Q h => ?_) (fun f cdv A outer s H E hr => ⟨_, _, (pss_cons (ps_if (pt_cmpR op_gt (pe_callB call_len_seq (by rfl) T.n_len PySem.boot_len (pa_cons (pv 1) pa_nil)) (ClX.pe_cval (pe_glob (v := .ref A₀.c_Net) (by rfl) T.g_Net rfl)) (nomark _)) (pss_one (L2N.ps_raise rfl (L2N.takes_of rfl rfl rfl rfl) (pmk_err x_TooMany (hr.mono (by first | exact Nat.le_refl _ | decide)) (by rfl) (pa_cons (ClX.pe_cval (pe_glob (v := .ref A₀.c_Net) (by rfl) T.g_Net rfl)) pa_nil)))) pss_nil)
  (pss_one (ps_for (passes_of rfl) rfl (pi_enum (by rfl) T.n_enumerate (pa_cons (pv 1) pa_nil)) (pg_tup rfl (pgs_cons (pg_name (i := 2) sc_check_ropes.nd rfl (Or.inl rfl)) (pgs_cons (pg_tup rfl (pgs_cons (pg_name (i := 3) sc_check_ropes.nd rfl (Or.inl rfl)) (pgs_cons (pg_name (i := 4) sc_check_ropes.nd rfl (Or.inl rfl)) pgs_nil))) pgs_nil))) (pss_one (ps_if (PW.pt (pw_or (pt_cmpR op_eq (pv 3) (pv 4) (nomark _)) (pw_or (pt_not (pt_chain op_le op_lt pe_int (pv 3) (pv 0))) (pw_or1 (pt_not (pt_chain op_le op_lt pe_int (pv 4) (pv 0))))))) (pss_one (L2N.ps_raise rfl (L2N.takes_of rfl rfl rfl rfl) (pmk_err x_BadNet (hr.mono (by first | exact Nat.le_refl _ | decide)) (by rfl) (pa_cons (pv 2) pa_nil)))) pss_nil))))), (vs_seq (vs_if (vt_test (ve_op (ve_len (vb_var 1)) (ve_cval rd cv40 fun _ => .int _) (vr_I0 fun _ _ _ => .bl _))) (vs_raise (va_cons (ve_cval rd cv40 fun _ => .int _) va_nil)) vs_next)
  (vs_for (vi_enum (va_cons (ve_var 1) va_nil)) (vg_tup (vgs_cons (vg_name 2) (vgs_cons (vg_tup (vgs_cons (vg_name 3) (vgs_cons (vg_name 4) vgs_nil))) vgs_nil))) (vs_if (vt_or (vt_test (ve_eq (ve_var 3) (ve_var 4))) (vt_or (vt_not (vt_test (ve_chain (ve_c fun _ => .int _) (ve_var 3) (ve_var 0) (vr_I0 fun _ _ _ => .bl _) (vr_I0 fun _ _ _ => .bl _)))) (vt_not (vt_test (ve_chain (ve_c fun _ => .int _) (ve_var 4) (ve_var 0) (vr_I0 fun _ _ _ => .bl _) (vr_I0 fun _ _ _ => .bl _)))))) (vs_raise (va_cons (ve_var 2) va_nil)) vs_next))), fun as X Q h => ?_⟩)
  · obtain ⟨n, ps, rfl, _⟩ := h
    rfl
  · obtain ⟨n, ps, rfl, hn, qM, qB, qG⟩ := h
    refine ite2 (fun a => ?_) (fun a => ?_)
    · have a := of_decide_eq_true a
      rw [List.length_map] at a
      exact ⟨okI (by decide), qM (by omega)⟩
    · have a : ¬ (40 : Int) < ((ps.map pD).length : Int) := fun z => a (decide_eq_true z)
      rw [List.length_map] at a
      have h40 : ps.length ≤ 40 := by omega
      refine ⟨fun i η => (∃ y1 y2 y3, η = [.fz (.int n), .fz (.lst (ps.map pD)), y1, y2, y3]) ∧ ∀ (j : Nat) (q : Rope), j < i → ps[j]? = some q → okRope n q = true, ⟨⟨_, _, _, rfl⟩, fun j q h => absurd h (Nat.not_lt_zero _)⟩, ?_, ?_⟩
      · rintro i d η e ⟨⟨y1, y2, y3, rfl⟩, ih⟩
        obtain ⟨x, e1, rfl⟩ := enD_inv e
        obtain ⟨p, ep, rfl⟩ := map_inv e1
        have il : i < ps.length := (List.getElem?_eq_some_iff.mp ep).1
        have bad : okRope n p = false → okMsgs [.int (i : Int)] ∧ X A₀.c_BadNet [("place", .int (i : Int))] := fun h => ⟨okI (by omega), qB i p h40 ep h ih⟩
        have good : okRope n p = true → (∃ y1 y2 y3, [Sl.fz (.int n), .fz (.lst (ps.map pD)), .fz (.int (i : Int)), .fz (.int p.1), .fz (.int p.2)] = [Sl.fz (.int n), .fz (.lst (ps.map pD)), y1, y2, y3]) ∧ ∀ (j : Nat) (q : Rope), j < i + 1 → ps[j]? = some q → okRope n q = true := fun h => ⟨⟨_, _, _, rfl⟩, fun j q hj eq => by
          by_cases e : j = i
          · subst e
            rw [ep] at eq
            cases eq
            exact h
          · exact ih j q (by omega) eq⟩
        unfold okRope at bad good
        refine ite2 (fun c1 => ?_) (fun c1 => ?_)
        · exact bad (by rw [c1]; rfl)
        rw [Bool.not_eq_true _ |>.mp c1] at bad good
        refine ite2 (fun c2 => ?_) (fun c2 => ?_)
        · refine ite2 (fun c3 => ?_) (fun c3 => ?_)
          · refine bad ?_
            rw [c2]
            have c3 : decide (p.1 < n) = false := by simpa using c3
            rw [c3]
            rfl
          rw [c2] at bad good
          have c3 : decide (p.1 < n) = true := by simpa using c3
          rw [c3] at bad good
          refine ite2 (fun c4 => ?_) (fun c4 => ?_)
          · refine ite2 (fun c5 => ?_) (fun c5 => ?_)
            · refine bad ?_
              rw [c4]
              have c5 : decide (p.2 < n) = false := by simpa using c5
              rw [c5]
              rfl
            · refine good ?_
              rw [c4]
              have c5 : decide (p.2 < n) = true := by simpa using c5
              rw [c5]
              rfl
          · exact bad (by rw [Bool.not_eq_true _ |>.mp c4]; rfl)
        · exact bad (by rw [Bool.not_eq_true _ |>.mp c2]; rfl)
      · rintro η ⟨⟨y1, y2, y3, rfl⟩, ih⟩
        rw [enD_len, List.length_map] at ih
        refine ⟨_, .fz (.fz .nil), qG h40 fun p hp => ?_⟩
        obtain ⟨j, hj⟩ := List.mem_iff_getElem?.mp hp
        exact ih j p (List.getElem?_eq_some_iff.mp hj).1 hj
def netD (A₀ : Ad) (n : Int) (ps : List Rope) : D := .ins A₀.c_Net [("stations", .int n), ("ropes", .tup (ps.map pD))]
def netO (A₀ : Ad) (dx : Addr) (n : Int) (ps : List Rope) : OB := .ins A₀.c_Net dx [("stations", .int n), ("ropes", .tup (ps.map pD))]
def svNetI (A₀ : Ad) : VSp := fun as X Q => ∃ (x dx : Addr) (n : Int) (ps : List Rope), as = [.ow x (.ins A₀.c_Net dx []), .fz (.int n), .fz (.lst (ps.map pD))] ∧ ps.length ≤ 1000 ∧ (okSize n = false → X A₀.c_BadNet [("place", .int (-1))]) ∧
  (okSize n = true → (40 < ps.length → X A₀.c_TooMany [("limit", .int 40)]) ∧
    (∀ (k : Nat) (p : Rope), ps.length ≤ 40 → ps[k]? = some p → okRope n p = false → (∀ (j : Nat) (q : Rope), j < k → ps[j]? = some q → okRope n q = true) → X A₀.c_BadNet [("place", .int (k : Int))]) ∧
    (ps.length ≤ 40 → (∀ p ∈ ps, okRope n p = true) → (∀ s : Nat, (s : Int) < n → ¬ Con ps s → (∀ j : Nat, j < s → Con ps j) → X A₀.c_NotConnected [("station", .int (s : Int))]) ∧
      ((∀ s : Nat, (s : Int) < n → Con ps s) → Q (.val .non) [.ow x (netO A₀ dx n ps), .fz (.int n), .fz (.lst (ps.map pD))])))
theorem ov_Net___init__ (T : Txt P w K mg base A₀) {f : Addr} {fd : FuncData} (F : Fun K "__init__" "Net.__init__" s_Net___init__ f fd) : FnOk P w K mg base (L2N.CX P w) 4 f fd ["self", "stations", "ropes"] (spV K (svNetI A₀)) := by
  have c_check_size := cv_check_size T; have c_check_ropes := cv_check_ropes T; have c_stations_reached := cv_stations_reached T; have c_rope_steps := cv_rope_steps T; have x_NotConnected := T.x_NotConnected
  refine okX_ofV F sc_Net___init__ (fun as X Q h => ?_) (fun cdv A outer s H E hr => ⟨_, _, (pss_cons (ps_expr (pe_calX c_check_size (L2N.takes_of rfl rfl rfl rfl) (hr.mono (by first | exact Nat.le_refl _ | decide)) (by rfl) (pa_cons (pv 1) pa_nil)))
  (pss_cons (ps_expr (pe_calX c_check_ropes (L2N.takes_of rfl rfl rfl rfl) (hr.mono (by first | exact Nat.le_refl _ | decide)) (by rfl) (pa_cons (pv 1) (pa_cons (pv 2) pa_nil))))
  (pss_cons (ps_set (i := 3) sc_Net___init__.nd rfl (Or.inl rfl) (pe_cal c_stations_reached (hr.mono (by first | exact Nat.le_refl _ | decide)) (by rfl) (pa_cons (pe_lst (pa_cons pe_int pa_nil)) (pa_cons (pe_cal c_rope_steps (hr.mono (by first | exact Nat.le_refl _ | decide)) (by rfl) (pa_cons (pv 2) pa_nil)) pa_nil))))
  (pss_cons (ps_for (passes_of rfl) rfl (pi_range1 (by rfl) T.n_range (pa_cons (pv 1) pa_nil)) (pg_name (i := 4) sc_Net___init__.nd rfl (Or.inl rfl)) (pss_one (ps_if (pt_cmpR op_notIn_seq (pv 4) (pv 3) (by rfl)) (pss_one (L2N.ps_raise rfl (L2N.takes_of rfl rfl rfl rfl) (pmk_err x_NotConnected (hr.mono (by first | exact Nat.le_refl _ | decide)) (by rfl) (pa_cons (pv 4) pa_nil)))) pss_nil)))
  (pss_cons (ps_fld (pv 0) (pv 1) rfl)
  (pss_one (ps_fld (pv 0) (pe_callTy call_tuple_of (by rfl) T.n_tuple (by decide +kernel) (pa_cons (pe_lc (own := [("start", 5), ("end", 6)]) (g := gTup K 2 (gCons (gName 5) (gCons (gName 6) gNil))) rfl sc_Net___init__.nd (pi_list (pv 2)) (blkOk_by (own := [("start", 5), ("end", 6)]) (N := ["self", "stations", "ropes", "reached", "station", "start", "end"]) (sc := defScope s_Net___init__) (by decide +kernel)) (fun _ _ _ _ _ => (pg_tup rfl (pgs_cons (pg_name (i := 5) sc_Net___init__.nd rfl (Or.inl rfl)) (pgs_cons (pg_name (i := 6) sc_Net___init__.nd rfl (Or.inl rfl)) pgs_nil)))) (fun _ _ _ _ _ => pts_nil) (fun _ _ _ _ _ => (pe_tup (pa_cons (pv 5) (pa_cons (pv 6) pa_nil))))) pa_nil)) rfl))))))), (vs_seq (vs_drop (VRs.ve (vrs_callS (vk_val (ve_var 1) vk_nil))))
  (vs_seq (vs_drop (VRs.ve (vrs_callS (vk_val (ve_var 1) (vk_val (ve_var 2) vk_nil)))))
  (vs_seq (vs_asg (VF.ve (VRs.vf (vrs_call (vk_val (VF.ve (vf_lst (va_cons (ve_c fun _ => .int _) va_nil))) (vk_val (VF.ve (VRs.vf (vrs_call (vk_val (ve_var 2) vk_nil)))) vk_nil))))) (vg_name 3))
  (vs_seq (vs_for (vi_range1 (va_cons (ve_var 1) va_nil)) (vg_name 4) (vs_if (vt_test (ve_nin (ve_var 4) (vb_var 3))) (vs_raise (va_cons (ve_var 4) va_nil)) vs_next))
  (vs_seq (vs_setFld T.net_cl T.net_s (ve_var 1))
  (vs_setFld T.net_cl T.net_r (ve_tupleOf (VE.vb (VF.ve (vf_lc (vi_list (ve_var 2)) (vg_tup (vgs_cons (vg_name 5) (vgs_cons (vg_name 6) vgs_nil))) vt_yes (ve_tup (va_cons (ve_var 5) (va_cons (ve_var 6) va_nil))) rfl)))))))))), fun as X Q h => ?_⟩)
  · obtain ⟨x, dx, n, ps, rfl, _⟩ := h
    rfl
  · obtain ⟨x, dx, n, ps, rfl, hn, qS, qR⟩ := h
    refine ⟨n, rfl, fun okS => ?_, fun h => qS h⟩
    obtain ⟨qM, qB, qG⟩ := qR okS
    refine ⟨n, ps, rfl, hn, qM, qB, fun h40 okR => ?_⟩
    obtain ⟨qC, qN⟩ := qG h40 okR
    refine ⟨ps, rfl, hn, ?_⟩
    refine ⟨[0], stepsFrom 0 ps, rfl, (by decide), (fun x hx => by rw [List.mem_singleton.mp hx]; exact ⟨by decide, by decide⟩), by rw [stepsFrom_len]; omega, fun t ht => ?_, fun ns mem nl => ?_⟩
    · obtain ⟨p, hp, e⟩ := stepsFrom_mem ht
      have u := okRope_u okS (okR p hp)
      rcases e with e | e
      · rw [e.2]; exact u.2
      · rw [e.2]; exact u.1
    have nb : 1 ≤ n ∧ n ≤ 24 := by
      unfold okSize at okS
      simpa using okS
    refine ⟨⟨by omega, by omega⟩, fun i η => (∃ y1, η = [.ow x (.ins A₀.c_Net dx []), .fz (.int n), .fz (.lst (ps.map pD)), .fz (.lst (ns.map D.int)), y1, .no, .no]) ∧ ∀ j : Nat, j < i → Con ps j, ⟨⟨_, rfl⟩, fun j h => absurd h (Nat.not_lt_zero _)⟩, ?_, ?_⟩
    · rintro i d η e ⟨⟨y1, rfl⟩, ih⟩
      obtain ⟨hi, rfl⟩ := rngD_inv e
      rw [Int.zero_add]
      refine ⟨ns, rfl, ?_⟩
      by_cases hc : (i : Int) ∈ ns
      · rw [decide_eq_true hc]
        refine ⟨⟨_, rfl⟩, fun j hj => ?_⟩
        by_cases e : j = i
        · rw [e]; exact (mem _).mp hc
        · exact ih j (by omega)
      · rw [decide_eq_false hc]
        exact ⟨okI (by omega), qC i (by omega) (fun z => hc ((mem _).mpr z)) ih⟩
    · rintro η ⟨⟨y1, rfl⟩, ih⟩
      rw [rngD_len] at ih
      refine ⟨⟨rfl, by decide⟩, ?_⟩
      refine ⟨fun i acc η => acc = (ps.take i).map pD ∧ η = [.ow x (.ins A₀.c_Net dx [("stations", .int n)]), .fz (.int n), .fz (.lst (ps.map pD)), .fz (.lst (ns.map D.int)), y1, .no, .no], ?_, ?_, ?_⟩
      · exact ⟨by rw [List.take_zero]; rfl, rfl⟩
      · rintro i d acc η e ⟨rfl, rfl⟩
        obtain ⟨p, ep, rfl⟩ := map_inv e
        refine ⟨by rw [List.length_map, List.length_take]; omega, ?_, rfl⟩
        rw [List.take_add_one, ep]
        show _ = (ps.take i ++ [p]).map pD
        rw [List.map_append]
        rfl
      · rintro acc η ⟨rfl, rfl⟩
        rw [List.length_map, List.take_of_length_le (Nat.le_refl _)]
        exact ⟨⟨rfl, by show 1 < 1000; decide⟩, _, .ow 0 rfl (.fz (.fz .nil)), qN fun s hs => ih s (by omega)⟩
end
end Tw




namespace Tw
open PySem PySem.Spec PyProof.Rows L2
theorem ps_pairs (ps : List Rope) : D.ps (ps.map pD) = ps.map pairD := by
  rw [D.ps_map, List.map_map]
  exact List.map_congr_left fun p _ => rfl
theorem oks_pairs (ps : List Rope) : D.oks (ps.map pD) = true := D.oks_all.mpr fun d h => by
  obtain ⟨p, _, rfl⟩ := List.mem_map.mp h
  rfl
theorem dok_pairs (ps : List Rope) : DOk (.lst (ps.map pD)) := ⟨oks_pairs ps, by
  show SeqAt.shaped (.list (D.ps (ps.map pD))) = true
  rw [ps_pairs]
  exact shaped_listP ps⟩
theorem dok_tpairs (ps : List Rope) : DOk (.tup (ps.map pD)) := ⟨oks_pairs ps, by
  show SeqAt.shaped (.tuple (D.ps (ps.map pD))) = true
  rw [ps_pairs]
  exact shaped_tupP ps⟩
theorem eq_pairs (ps qs : List Rope) : PyData.eqv (D.p (.lst (ps.map pD))) (D.p (.lst (qs.map pD))) = decide (ps = qs) := by
  show PyData.eqv (.list (D.ps (ps.map pD))) (.list (D.ps (qs.map pD))) = _
  rw [ps_pairs, ps_pairs]
  exact eqv_listP ps qs
theorem eq_tpairs (ps qs : List Rope) : PyData.eqv (D.p (.tup (ps.map pD))) (D.p (.tup (qs.map pD))) = decide (ps = qs) := by
  show PyData.eqv (.tuple (D.ps (ps.map pD))) (.tuple (D.ps (qs.map pD))) = _
  rw [ps_pairs, ps_pairs]
  exact eqv_tupP ps qs
theorem map_pairs (n : Nat) (f : Nat → Rope) : (List.range n).map (fun k => pD (f k)) = ((List.range n).map f).map pD := by rw [List.map_map]; rfl
theorem nd1 {x : Nat} : [x].Nodup := List.nodup_cons.mpr ⟨fun h => (by cases h), List.nodup_nil⟩
theorem atCall_of {S : VSp} {ks : List Ak} {η1 : En} {XE : XS} {Q : Rs → En → Prop} {as : List Sl} (h : akSls η1 ks = some as) (nd : (refs ks).Nodup) (s : S as XE (fun r as' => Q r (backE ks as' η1))) : atCall S ks η1 XE Q := by
  unfold atCall
  rw [h]
  show if (refs ks).Nodup then _ else _
  rw [if_pos nd]
  exact s
section
variable {P : Program} {w : World} {K : PySem.W.Frag} {mg : Str → Option Value} {base : Heap} {A₀ : Ad}
def svLine : VSp := fun as _ Q => ∃ n : Nat, as = [.fz (.int (n : Int))] ∧ n ≤ 1000 ∧ Q (.new (.lst ((line n).map pD))) as
theorem mv_Net (T : Txt P w K mg base A₀) : ∃ f fd, Mk K A₀.c_Net f ∧ FnOk P w K mg base (L2N.CX P w) 4 f fd ["self", "stations", "ropes"] (spV K (svNetI A₀)) ∧ Binds K fd ["self", "stations", "ropes"] [] := by
  obtain ⟨f, fd, M, F⟩ := T.net_mk
  refine ⟨f, fd, M, ov_Net___init__ T F, ?_⟩
  obtain ⟨oc, od, kV, doc, pm, an, cdv, ct, osl, rfl, _, _⟩ := F.ex
  exact Binds.all fun us hl => b_Net___init__ kV doc pm an cdv ct us hl
/-- a good net is made -/
theorem net_good {x dx : Addr} {n : Int} {ps : List Rope} {X : XS} {Q : Rs → List Sl → Prop} (hs : okSize n = true) (h40 : ps.length ≤ 40) (hr : ∀ p ∈ ps, okRope n p = true) (hc : ∀ s : Nat, (s : Int) < n → Con ps s)
    (q : Q (.val .non) [.ow x (netO A₀ dx n ps), .fz (.int n), .fz (.lst (ps.map pD))]) : svNetI A₀ [.ow x (.ins A₀.c_Net dx []), .fz (.int n), .fz (.lst (ps.map pD))] X Q := by
  refine ⟨x, dx, n, ps, rfl, by omega, fun z => (by rw [hs] at z; cases z), fun _ => ⟨fun z => absurd z (by omega), fun k p _ ek hb => ?_, fun _ _ => ⟨fun s h1 h2 => absurd (hc s h1) h2, fun _ => q⟩⟩⟩
  rw [hr p (List.mem_of_getElem? ek)] at hb
  cases hb
def svMk (A₀ : Ad) (ok : Int → Bool) (rp : Nat → List Rope) : VSp := fun as X Q => ∃ n : Int, as = [.fz (.cls A₀.c_Net), .fz (.int n)] ∧ (ok n = false → X A₀.c_BadNet [("place", .int (-1))]) ∧ (ok n = true → ∀ dx, Q (.new (netO A₀ dx n (rp n.toNat))) as)
theorem size_nb {n : Int} (h : okSize n = true) : 1 ≤ n ∧ n ≤ 24 := by
  unfold okSize at h
  simpa using h
def okRing (n : Int) : Bool := okSize n && !decide (n = 1)
def ringOf (n : Nat) : List Rope := line n ++ [((n : Int) - 1, 0)]
end
end Tw




namespace Tw
open PySem PySem.Spec PyProof.Rows L2
section
variable {P : Program} {w : World} {K : PySem.W.Frag} {mg : Str → Option Value} {base : Heap} {A₀ : Ad}
theorem instT_net (T : Txt P w K mg base A₀) : InsT K A₀.c_Net := ⟨fun h => .base (.ins h T.net_cl T.net_ic T.net_gs T.net_tk T.net_mo)⟩
def svStation (A₀ : Ad) : VSp := fun as X Q => ∃ (s n : Int) (ps : List Rope), as = [.fz (netD A₀ n ps), .fz (.int s)] ∧ s.natAbs < 2 ^ 100 ∧ (0 ≤ s ∧ s < n → Q (.val .non) as) ∧ (¬ (0 ≤ s ∧ s < n) → X A₀.c_NoStation [("number", .int s)])
theorem cv_check_station (T : Txt P w K mg base A₀) : Cal P w K mg base (L2N.CX P w) "check_station" 3 ["net", "station"] (spV K (svStation A₀)) := by
  have x_NoStation := T.x_NoStation
  refine calX_ofV T.d_check_station sc_check_station b_check_station (fun as X Q h => ?_) (fun f cdv A outer s H E hr => ⟨_, _, (pss_one (ps_if (pt_not (pt_chain op_le op_lt pe_int (pv 1) (pe_fld (pv 0) rfl))) (pss_one (L2N.ps_raise rfl (L2N.takes_of rfl rfl rfl rfl) (pmk_err x_NoStation (hr.mono (by first | exact Nat.le_refl _ | decide)) (by rfl) (pa_cons (pv 1) pa_nil)))) pss_nil)), (vs_if (vt_not (vt_test (ve_chain (ve_c fun _ => .int _) (ve_var 1) (ve_fld T.net_cl T.net_s (ve_var 0)) (vr_I0 fun _ _ _ => .bl _) (vr_I0 fun _ _ _ => .bl _)))) (vs_raise (va_cons (ve_var 1) va_nil)) vs_next), fun as X Q h => ?_⟩)
  · obtain ⟨s, n, ps, rfl, _⟩ := h
    rfl
  · obtain ⟨s, n, ps, rfl, sb, qG, qB⟩ := h
    refine ite2 (fun z1 => ?_) (fun z1 => ?_)
    · refine ⟨rfl, _, rfl, ?_⟩
      refine ite2 (fun z2 => ?_) (fun z2 => ?_)
      · exact ⟨okI sb, qB fun h => by simp [h.2] at z2⟩
      · exact ⟨_, .fz (.fz .nil), qG ⟨of_decide_eq_true z1, by simpa using z2⟩⟩
    · exact ⟨okI sb, qB fun h => z1 (decide_eq_true h.1)⟩
def svRopesAt (A₀ : Ad) : VSp := fun as X Q => ∃ (s n : Int) (ps : List Rope), as = [.fz (netD A₀ n ps), .fz (.int s)] ∧ s.natAbs < 2 ^ 100 ∧ ps.length ≤ 1000 ∧ (0 ≤ s ∧ s < n → Q (.new (.lst ((ropesAt ps s 0).map D.int))) as) ∧ (¬ (0 ≤ s ∧ s < n) → X A₀.c_NoStation [("number", .int s)])
theorem ov_Net_ropes_at (T : Txt P w K mg base A₀) {f : Addr} {fd : FuncData} (F : Fun K "ropes_at" "Net.ropes_at" s_Net_ropes_at f fd) : FnOk P w K mg base (L2N.CX P w) 4 f fd ["self", "station"] (spV K (svRopesAt A₀)) := by
  have c_check_station := cv_check_station T
  refine okX_ofV F sc_Net_ropes_at (fun as X Q h => ?_) (fun cdv A outer s H E hr => ⟨_, _, (pss_cons (ps_expr (pe_calX c_check_station (L2N.takes_of rfl rfl rfl rfl) (hr.mono (by first | exact Nat.le_refl _ | decide)) (by rfl) (pa_cons (pv 0) (pa_cons (pv 1) pa_nil))))
  (pss_one (ps_ret (pe_lc (own := [("rope", 2), ("ends", 3)]) (g := gTup K 2 (gCons (gName 2) (gCons (gName 3) gNil))) rfl sc_Net_ropes_at.nd (pi_enumT (by rfl) T.n_enumerate (pa_cons (pe_fld (pv 0) rfl) pa_nil)) (blkOk_by (own := [("rope", 2), ("ends", 3)]) (N := ["self", "station", "rope", "ends"]) (sc := defScope s_Net_ropes_at) (by decide +kernel)) (fun _ _ _ _ _ => (pg_tup rfl (pgs_cons (pg_name (i := 2) sc_Net_ropes_at.nd rfl (Or.inl rfl)) (pgs_cons (pg_name (i := 3) sc_Net_ropes_at.nd rfl (Or.inl rfl)) pgs_nil)))) (fun _ _ _ _ _ => (pts_one (pt_cmpR (show OpR _ (compareOp .In) (rIn K false) from op_in_seq) (pv 1) (pv 3) (by rfl)))) (fun _ _ _ _ _ => (pv 2)))))), (vs_seq (vs_drop (VRs.ve (vrs_callS (vk_val (ve_var 0) (vk_val (ve_var 1) vk_nil)))))
  (vs_retF (vf_lc (vi_enumT (va_cons (ve_fld T.net_cl T.net_r (ve_var 0)) va_nil)) (vg_tup (vgs_cons (vg_name 2) (vgs_cons (vg_name 3) vgs_nil))) (vt_test (ve_in (ve_var 1) (vb_var 3))) (ve_var 2) rfl))), fun as X Q h => ?_⟩)
  · obtain ⟨s, n, ps, rfl, _⟩ := h
    rfl
  · obtain ⟨s, n, ps, rfl, sb, hn, qG, qB⟩ := h
    refine ⟨s, n, ps, rfl, sb, fun ok => ?_, fun no => qB no⟩
    refine ⟨rfl, _, rfl, fun i acc η => acc = (ropesAt (ps.take i) s 0).map D.int ∧ η = [.fz (netD A₀ n ps), .fz (.int s), .no, .no], ⟨by rw [List.take_zero]; rfl, rfl⟩, ?_, ?_⟩
    · rintro i d acc η e ⟨rfl, rfl⟩
      obtain ⟨x, e1, rfl⟩ := enD_inv e
      obtain ⟨p, ep, rfl⟩ := map_inv e1
      refine ⟨[p.1, p.2], rfl, ?_⟩
      have hE : decide (s ∈ [p.1, p.2]) = hasEnd s p := by
        unfold hasEnd
        by_cases h1 : s = p.1
        · simp [h1]
        · by_cases h2 : s = p.2
          · simp [h2]
          · simp [h1, h2]
      have more : ropesAt (ps.take (i + 1)) s 0 = ropesAt (ps.take i) s 0 ++ (if hasEnd s p = true then [(i : Int)] else []) := by
        rw [List.take_add_one, ep]
        show ropesAt (ps.take i ++ [p]) s 0 = _
        have il : i < ps.length := (List.getElem?_eq_some_iff.mp ep).1
        rw [ropesAt_snoc, List.length_take, Nat.zero_add, Nat.min_eq_left (by omega)]
      rw [hE]
      by_cases he : hasEnd s p = true
      · rw [he]
        rw [if_pos he] at more
        refine ⟨?_, ?_, rfl⟩
        · have := ropesAt_len s (ps.take i) 0
          rw [List.length_take] at this
          rw [List.length_map]
          omega
        · show _ = (ropesAt (ps.take (i + 1)) s 0).map D.int
          rw [more, List.map_append]
          rfl
      · rw [Bool.not_eq_true _ |>.mp he]
        rw [if_neg he, List.append_nil] at more
        refine ⟨?_, rfl⟩
        show _ = (ropesAt (ps.take (i + 1)) s 0).map D.int
        rw [more]
    · rintro acc η ⟨rfl, rfl⟩
      rw [enD_len, List.length_map, List.take_of_length_le (Nat.le_refl _)]
      exact ⟨_, .fz (.fz .nil), qG ok⟩
theorem mv_ropes_at (T : Txt P w K mg base A₀) : ∃ f fd, Meth K A₀.c_Net "ropes_at" f ∧ FnOk P w K mg base (L2N.CX P w) 4 f fd ["self", "station"] (spV K (svRopesAt A₀)) ∧ Binds K fd ["self", "station"] [] := by
  obtain ⟨f, fd, M, F⟩ := T.net_ropes_at
  refine ⟨f, fd, M, ov_Net_ropes_at T F, ?_⟩
  obtain ⟨oc, od, kV, doc, pm, an, cdv, ct, osl, rfl, _, _⟩ := F.ex
  exact Binds.all fun us hl => b_Net_ropes_at kV doc pm an cdv ct us hl
def svProp (A₀ : Ad) (g : Int → List Rope → Bool) : VSp := fun as X Q => ∃ (n : Int) (ps : List Rope), as = [.fz (netD A₀ n ps)] ∧ 1 ≤ n ∧ n ≤ 24 ∧ ps.length ≤ 1000 ∧ Q (.val (.bl (g n ps))) as
def svNetEq (A₀ : Ad) : VSp := fun as X Q => ∃ (n m : Int) (ps qs : List Rope), as = [.fz (netD A₀ n ps), .fz (netD A₀ m qs)] ∧ Q (.val (.bl (decide (n = m) && decide (ps = qs)))) as
theorem ov_Net___eq__ (T : Txt P w K mg base A₀) {f : Addr} {fd : FuncData} (F : Fun K "__eq__" "Net.__eq__" s_Net___eq__ f fd) : FnOk P w K mg base CX0 1 f fd ["self", "other"] (spV K (svNetEq A₀)) := by
  skip
  refine ok_ofV F sc_Net___eq__ (fun as X Q h => ?_) (fun cdv A outer s H E hr => ⟨_, _, (pss_one (ps_ret (pe_and (pe_callB call_isi (by rfl) T.n_isinstance (by decide +kernel) (pa_cons (pv 1) (pa_cons (pe_glob (v := .ref A₀.c_Net) (by rfl) T.g_Net rfl) pa_nil))) (pe_and (pe_cmpR op_eq (pe_fld (pv 0) rfl) (pe_fld (pv 1) rfl) (nomark _)) (pe_one (pe_cmpR (op_eqD hr.units) (pe_fld (pv 0) rfl) (pe_fld (pv 1) rfl) (nomark _))))))), fun W => (vs_ret (ve_and (ve_isi (vb_var 1) (.own _)) (ve_and (ve_eq (ve_fld T.net_cl T.net_s (ve_var 0)) (ve_fld T.net_cl T.net_s (ve_var 1))) (ve_eqD (VE.vb (ve_fld T.net_cl T.net_r (ve_var 0))) (VE.vb (ve_fld T.net_cl T.net_r (ve_var 1))))))), fun as X Q h => ?_⟩)
  · obtain ⟨n, m, ps, qs, rfl, _⟩ := h
    rfl
  · obtain ⟨n, m, ps, qs, rfl, q⟩ := h
    refine ⟨_, _, ⟨rfl, instT_net T⟩, T.net_kit, ?_⟩
    refine ⟨rfl, _, rfl, rfl, _, rfl, ite2 (fun e => ?_) (fun e => ?_)⟩
    · refine ⟨rfl, _, rfl, rfl, _, rfl, ⟨dok_tpairs ps, dok_tpairs qs⟩, _, .fz (.fz .nil), ?_⟩
      show Q (.val (.bl (PyData.eqv (D.p (.tup (ps.map pD))) (D.p (.tup (qs.map pD)))))) _
      rw [eq_tpairs]
      rw [e, Bool.true_and] at q
      exact q
    · refine ⟨_, .fz (.fz .nil), ?_⟩
      rw [Bool.not_eq_true _ |>.mp e, Bool.false_and] at q
      exact q
theorem mv_eq (T : Txt P w K mg base A₀) : ∃ f fd, PySem.W.findIn K (.ref A₀.c_Net) "__eq__" = some (some (.ref f)) ∧ PySem.W.isFn K (.ref f) = true ∧ FnOk P w K mg base CX0 1 f fd ["self", "other"] (spV K (svNetEq A₀)) ∧ Binds K fd ["self", "other"] [] := by
  obtain ⟨f, fd, h1, h2, F⟩ := T.net_eq
  refine ⟨f, fd, h1, h2, ov_Net___eq__ T F, ?_⟩
  obtain ⟨oc, od, kV, doc, pm, an, cdv, ct, osl, rfl, _, _⟩ := F.ex
  exact Binds.all fun us hl => b_Net___eq__ kV doc pm an cdv ct us hl
end
end Tw




namespace Tw
open PySem PySem.Spec PyProof.Rows L2
/-- a law's bag of draws, by value -/
def WfB (b : List D) : Prop := ∃ (ns : List Int) (i x k t fo : Int) (big : Bool), b = [.lst (ns.map D.int), .int i, .int x, .int k, .int t, .int fo, .bl big] ∧ ns.length ≤ 63 ∧ 0 ≤ i
theorem atD {ns : List Int} {i : Int} (h0 : 0 ≤ i) (h1 : i < (ns.length : Int)) : ∃ x : Int, ns[i.toNat]? = some x ∧ atI (ns.map D.int) i = some (D.int x) := by
  have hi : i.toNat < ns.length := by omega
  refine ⟨ns[i.toNat], List.getElem?_eq_getElem hi, ?_⟩
  have h := atI_nat (xs := ns.map D.int) (j := i.toNat) (v := D.int ns[i.toNat]) (by rw [List.getElem?_map, List.getElem?_eq_getElem hi]; rfl)
  rwa [Int.toNat_of_nonneg h0] at h
section
variable {P : Program} {w : World} {K : PySem.W.Frag} {mg : Str → Option Value} {base : Heap} {A₀ : Ad}
def svMixed : VSp := fun as _ Q => ∃ i j : Int, as = [.fz (.int i), .fz (.int j)] ∧ ∀ r : Int, 0 ≤ r → Q (.val (.int r)) as
theorem cv__law_mixed (T : Txt P w K mg base A₀) : Cal P w K mg base CX0 "_law_mixed" 1 ["cell", "turn"] (spV K svMixed) := by
  skip
  refine cal_ofV T.d__law_mixed sc__law_mixed b__law_mixed (fun as X Q h => ?_) (fun f cdv A outer s H E hr => ⟨_, _, (pss_cons (ps_set (i := 2) sc__law_mixed.nd rfl (Or.inl rfl) (pe_op op_mod (pe_callTy call_int1 (by rfl) T.n_int (by decide +kernel) (pa_cons (pe_op op_add (pe_op op_add (pe_op op_mul (pv 0) pe_int) (pe_op op_mul (pv 1) pe_int)) pe_int) pa_nil)) pe_int))
  (pss_cons (ps_set (i := 3) sc__law_mixed.nd rfl (Or.inl rfl) (pe_op op_mod (pe_callTy call_int1 (by rfl) T.n_int (by decide +kernel) (pa_cons (pe_op op_add (pe_op op_add (pe_op op_mul (pv 2) (pv 2)) (pe_op op_mul (pv 1) pe_int)) pe_int) pa_nil)) pe_int))
  (pss_cons (ps_set (i := 4) sc__law_mixed.nd rfl (Or.inl rfl) (pe_op op_mod (pe_callTy call_int1 (by rfl) T.n_int (by decide +kernel) (pa_cons (pe_op op_add (pe_op op_mul (pv 3) (pv 3)) (pv 2)) pa_nil)) pe_int))
  (pss_one (ps_ret (pe_op op_fdiv (pv 4) pe_int)))))), fun W => (vs_seq (vs_asg (ve_op (ve_int1 (ve_op (ve_op (ve_op (ve_var 0) (ve_c fun _ => .int _) (vr_I fun _ _ _ => .int _)) (ve_op (ve_var 1) (ve_c fun _ => .int _) (vr_I fun _ _ _ => .int _)) (vr_I0 fun _ _ _ => .int _)) (ve_c fun _ => .int _) (vr_I0 fun _ _ _ => .int _))) (ve_c fun _ => .int _) (vr_I fun _ _ _ => .int _)) (vg_name 2))
  (vs_seq (vs_asg (ve_op (ve_int1 (ve_op (ve_op (ve_op (ve_var 2) (ve_var 2) (vr_I fun _ _ _ => .int _)) (ve_op (ve_var 1) (ve_c fun _ => .int _) (vr_I fun _ _ _ => .int _)) (vr_I0 fun _ _ _ => .int _)) (ve_c fun _ => .int _) (vr_I0 fun _ _ _ => .int _))) (ve_c fun _ => .int _) (vr_I fun _ _ _ => .int _)) (vg_name 3))
  (vs_seq (vs_asg (ve_op (ve_int1 (ve_op (ve_op (ve_var 3) (ve_var 3) (vr_I fun _ _ _ => .int _)) (ve_var 2) (vr_I0 fun _ _ _ => .int _))) (ve_c fun _ => .int _) (vr_I fun _ _ _ => .int _)) (vg_name 4))
  (vs_ret (ve_op (ve_var 4) (ve_c fun _ => .int _) (vr_I fun _ _ _ => .int _)))))), fun as X Q h => ?_⟩)
  · obtain ⟨i, j, rfl, _⟩ := h
    rfl
  · obtain ⟨i, j, rfl, q⟩ := h
    have mo : ∀ {x m y : Int}, 0 < m → m < 4294967296 → CMul (x % m) y := fun {x m y} h1 h2 => .inl ⟨by have := Int.emod_nonneg x (by omega : m ≠ 0); omega, by have := Int.emod_lt_of_pos x h1; omega⟩
    refine ⟨.inr ⟨by decide, by decide⟩, .inr ⟨by decide, by decide⟩, (by show (0 : Int) < 2147483647; decide), ?_⟩
    refine ⟨mo (by decide) (by decide), .inr ⟨by decide, by decide⟩, (by show (0 : Int) < 2147483629; decide), ?_⟩
    refine ⟨mo (by decide) (by decide), (by show (0 : Int) < 2147483587; decide), ⟨by decide, by decide⟩, _, .fz (.fz .nil), q _ (Int.ediv_nonneg (Int.emod_nonneg _ (by decide)) (by decide))⟩
def svDraw : VSp := fun as _ Q => ∃ (q : Addr) (b : List D) (n : Int), as = [.ow q (.lst b), .fz (.int n)] ∧ WfB b ∧ 0 < n ∧ n < 1073741824 ∧ ∀ (r : Int) (b' : List D), 0 ≤ r → r < n → WfB b' → Q (.val (.int r)) [.ow q (.lst b'), .fz (.int n)]
theorem cv__law_draw (T : Txt P w K mg base A₀) : Cal P w K mg base CX0 "_law_draw" 2 ["bag", "size"] (spV K svDraw) := by
  have c__law_mixed := cv__law_mixed T
  refine cal_ofV T.d__law_draw sc__law_draw b__law_draw (fun as X Q h => ?_) (fun f cdv A outer s H E hr => ⟨_, _, (pss_cons (ps_asg (pe_op op_add (pe_ix ix_seq (pv 0) pe_int (fun _ _ => rfl)) pe_int) (pg_sub (pv 0) pe_int set_list))
  (pss_cons (ps_if (pt_cmpR op_eq (pe_ix ix_seq (pv 0) pe_int (fun _ _ => rfl)) pe_int (nomark _)) (pss_cons (ps_asg (pe_ix ix_seq (pv 0) pe_int (fun _ _ => rfl)) (pg_sub (pv 0) pe_int set_list))
  (pss_cons (ps_asg pe_int (pg_sub (pv 0) pe_int set_list))
  (pss_cons (ps_asg pe_bl (pg_sub (pv 0) pe_int set_list))
  (pss_one (ps_if (pt_cmpR op_lt (pe_ix ix_seq (pv 0) pe_int (fun _ _ => rfl)) (pe_callB call_len_seq (by rfl) T.n_len PySem.boot_len (pa_cons (pe_ix ix_seq (pv 0) pe_int (fun _ _ => rfl)) pa_nil)) (nomark _)) (pss_cons (ps_asg (pe_ix ix_seq (pe_ix ix_seq (pv 0) pe_int (fun _ _ => rfl)) (pe_ix ix_seq (pv 0) pe_int (fun _ _ => rfl)) (fun _ _ => rfl)) (pg_sub (pv 0) pe_int set_list))
  (pss_cons (ps_asg (pe_op op_add (pe_ix ix_seq (pv 0) pe_int (fun _ _ => rfl)) pe_int) (pg_sub (pv 0) pe_int set_list))
  (pss_one (ps_if (pt_cmpR op_ge (pe_ix ix_seq (pv 0) pe_int (fun _ _ => rfl)) (pe_op op_pow pe_int pe_int) (nomark _)) (pss_cons (ps_asg pe_int (pg_sub (pv 0) pe_int set_list))
  (pss_one (ps_asg pe_bl (pg_sub (pv 0) pe_int set_list)))) pss_nil)))) pss_nil))))) pss_nil)
  (pss_cons (ps_asg (pe_op op_sub (pe_ix ix_seq (pv 0) pe_int (fun _ _ => rfl)) pe_int) (pg_sub (pv 0) pe_int set_list))
  (pss_cons (ps_if (pt_not (pt_val (pe_ix ix_seq (pv 0) pe_int (fun _ _ => rfl)))) (pss_one (ps_ret (pe_op op_mod (pe_callTy call_int1 (by rfl) T.n_int (by decide +kernel) (pa_cons (pe_cal c__law_mixed (hr.mono (by first | exact Nat.le_refl _ | decide)) (by rfl) (pa_cons (pe_ix ix_seq (pv 0) pe_int (fun _ _ => rfl)) (pa_cons (pe_ix ix_seq (pv 0) pe_int (fun _ _ => rfl)) pa_nil))) pa_nil)) (pv 1)))) pss_nil)
  (pss_cons (ps_set (i := 2) sc__law_draw.nd rfl (Or.inl rfl) (pe_op op_mod (pe_callTy call_int1 (by rfl) T.n_int (by decide +kernel) (pa_cons (pe_ix ix_seq (pv 0) pe_int (fun _ _ => rfl)) pa_nil)) (pv 1)))
  (pss_cons (ps_asg (pe_op op_fdiv (pe_callTy call_int1 (by rfl) T.n_int (by decide +kernel) (pa_cons (pe_ix ix_seq (pv 0) pe_int (fun _ _ => rfl)) pa_nil)) (pv 1)) (pg_sub (pv 0) pe_int set_list))
  (pss_cons (ps_if (pt_cmpR op_eq (pe_ix ix_seq (pv 0) pe_int (fun _ _ => rfl)) pe_int (nomark _)) (pss_one (ps_asg pe_int (pg_sub (pv 0) pe_int set_list))) pss_nil)
  (pss_one (ps_ret (pv 2)))))))))), fun W => (vs_seq (vs_setIx 0 (ve_op (ve_ix (vb_var 0) (ve_c fun _ => .int _)) (ve_c fun _ => .int _) (vr_I0 fun _ _ _ => .int _)) (ve_c fun _ => .int _))
  (vs_cut (vs_if (vt_test (ve_eq (ve_ix (vb_var 0) (ve_c fun _ => .int _)) (ve_c fun _ => .int _))) (vs_seq (vs_setIx 0 (ve_ix (vb_var 0) (ve_c fun _ => .int _)) (ve_c fun _ => .int _))
  (vs_seq (vs_setIx 0 (ve_c fun _ => .int _) (ve_c fun _ => .int _))
  (vs_seq (vs_setIx 0 (ve_c fun _ => .bl _) (ve_c fun _ => .int _))
  (vs_if (vt_test (ve_op (ve_ix (vb_var 0) (ve_c fun _ => .int _)) (ve_len (VE.vb (ve_ix (vb_var 0) (ve_c fun _ => .int _)))) (vr_I0 fun _ _ _ => .bl _))) (vs_seq (vs_setIx 0 (ve_ix (VE.vb (ve_ix (vb_var 0) (ve_c fun _ => .int _))) (ve_ix (vb_var 0) (ve_c fun _ => .int _))) (ve_c fun _ => .int _))
  (vs_seq (vs_setIx 0 (ve_op (ve_ix (vb_var 0) (ve_c fun _ => .int _)) (ve_c fun _ => .int _) (vr_I0 fun _ _ _ => .int _)) (ve_c fun _ => .int _))
  (vs_if (vt_test (ve_op (ve_ix (vb_var 0) (ve_c fun _ => .int _)) (ve_op (ve_c fun _ => .int _) (ve_c fun _ => .int _) (vr_I fun _ _ _ => .int _)) (vr_I0 fun _ _ _ => .bl _))) (vs_seq (vs_setIx 0 (ve_c fun _ => .int _) (ve_c fun _ => .int _))
  (vs_setIx 0 (ve_c fun _ => .bl _) (ve_c fun _ => .int _))) vs_next))) vs_next)))) vs_next)
  (vs_seq (vs_setIx 0 (ve_op (ve_ix (vb_var 0) (ve_c fun _ => .int _)) (ve_c fun _ => .int _) (vr_I0 fun _ _ _ => .int _)) (ve_c fun _ => .int _))
  (vs_seq (vs_if (vt_not (vt_B (ve_ix (vb_var 0) (ve_c fun _ => .int _)))) (vs_ret (ve_op (ve_int1 (VRs.ve (vrs_call (vk_val (ve_ix (vb_var 0) (ve_c fun _ => .int _)) (vk_val (ve_ix (vb_var 0) (ve_c fun _ => .int _)) vk_nil))))) (ve_var 1) (vr_I fun _ _ _ => .int _))) vs_next)
  (vs_seq (vs_asg (ve_op (ve_int1 (ve_ix (vb_var 0) (ve_c fun _ => .int _))) (ve_var 1) (vr_I fun _ _ _ => .int _)) (vg_name 2))
  (vs_seq (vs_setIx 0 (ve_op (ve_int1 (ve_ix (vb_var 0) (ve_c fun _ => .int _))) (ve_var 1) (vr_I fun _ _ _ => .int _)) (ve_c fun _ => .int _))
  (vs_cut (vs_if (vt_test (ve_eq (ve_ix (vb_var 0) (ve_c fun _ => .int _)) (ve_c fun _ => .int _))) (vs_setIx 0 (ve_c fun _ => .int _) (ve_c fun _ => .int _)) vs_next)
  (vs_ret (ve_var 2))))))))), fun as X Q h => ?_⟩)
  · obtain ⟨q, b, n, rfl, _⟩ := h
    rfl
  · obtain ⟨q, b, n, rfl, ⟨ns, i, x, k, t, fo, big, rfl, hl, hi⟩, n0, n1, qq⟩ := h
    refine ⟨_, rfl, _, rfl, ?_⟩
    refine ⟨fun η => ∃ (i x k : Int) (big : Bool), 0 ≤ i ∧ η = [.ow q (.lst [.lst (ns.map D.int), .int i, .int x, .int k, .int (t + 1), .int fo, .bl big]), .fz (.int n), .no], ?_, ?_⟩
    · refine ⟨_, rfl, ite2 (fun e => ?_) (fun e => ⟨i, x, k, big, hi, rfl⟩)⟩
      refine ⟨_, rfl, _, rfl, _, rfl, _, rfl, _, rfl, _, rfl, ite2 (fun e2 => ?_) (fun e2 => ⟨i, fo, 9, false, hi, rfl⟩)⟩
      have e2 := of_decide_eq_true e2
      rw [List.length_map] at e2
      obtain ⟨y, _, hy⟩ := atD hi e2
      refine ⟨_, rfl, _, rfl, _, hy, _, rfl, _, rfl, _, rfl, _, rfl, ⟨by decide, by decide, by decide⟩, ite2 (fun e4 => ?_) (fun e4 => ⟨i + 1, y, 9, false, by omega, rfl⟩)⟩
      exact ⟨_, rfl, _, rfl, i + 1, y, 60, true, by omega, rfl⟩
    · rintro η ⟨i, x, k, big, hi, rfl⟩
      have fin : ∀ (r x k : Int) (big : Bool), 0 ≤ r → r < n → Q (.val (.int r)) [.ow q (.lst [.lst (ns.map D.int), .int i, .int x, .int k, .int (t + 1), .int fo, .bl big]), .fz (.int n)] := fun r x k big h0 h1 => qq r _ h0 h1 ⟨ns, i, x, k, t + 1, fo, big, rfl, hl, hi⟩
      refine ⟨_, rfl, _, rfl, _, rfl, ?_⟩
      cases big with
      | false =>
        refine ⟨_, rfl, _, rfl, _, _, rfl, fun r h0 => ⟨n0, _, .ow 0 rfl (.fz .nil), fin _ x (k - 1) false (Int.emod_nonneg _ (by omega)) (Int.emod_lt_of_pos _ n0)⟩⟩
      | true =>
        refine ⟨_, rfl, n0, _, rfl, ⟨n0, n1⟩, _, rfl, ?_⟩
        refine ⟨fun η => ∃ (x' k' : Int), η = [.ow q (.lst [.lst (ns.map D.int), .int i, .int x', .int k', .int (t + 1), .int fo, .bl true]), .fz (.int n), .fz (.int (x % n))], ?_, ?_⟩
        · exact ⟨_, rfl, ite2 (fun e => ⟨_, rfl, x / n, 0, rfl⟩) (fun e => ⟨x / n, k - 1, rfl⟩)⟩
        · rintro η ⟨x', k', rfl⟩
          exact ⟨_, .ow 0 rfl (.fz .nil), fin _ x' k' true (Int.emod_nonneg _ (by omega)) (Int.emod_lt_of_pos _ n0)⟩
def svBag : VSp := fun as _ Q => ∃ ns : List Int, as = [.fz (.scr ns)] ∧ ns.length ≤ 63 ∧ ∀ b, WfB b → Q (.new (.lst b)) as
theorem cv__law_bag (T : Txt P w K mg base A₀) : Cal P w K mg base CX0 "_law_bag" 1 ["script"] (spV K svBag) := by
  skip
  refine cal_ofV T.d__law_bag sc__law_bag b__law_bag (fun as X Q h => ?_) (fun f cdv A outer s H E hr => ⟨_, _, (pss_cons (ps_set (i := 1) sc__law_bag.nd rfl (Or.inl rfl) (pe_callTy call_list_of (by rfl) T.n_list (by decide +kernel) (pa_cons (pe_slice sl_list (pv 0) po_none (po_some pe_int)) pa_nil)))
  (pss_cons (ps_set (i := 2) sc__law_bag.nd rfl (Or.inl rfl) pe_int)
  (pss_cons (ps_for PassesOwn.never rfl (pi_list (pv 1)) (pg_name (i := 3) sc__law_bag.nd rfl (Or.inl rfl)) (pss_one (ps_set (i := 2) sc__law_bag.nd rfl (Or.inl rfl) (pe_op op_mod (pe_callTy call_int1 (by rfl) T.n_int (by decide +kernel) (pa_cons (pe_op op_add (pe_op op_mul (pv 2) pe_int) (pv 3)) pa_nil)) pe_int))))
  (pss_one (ps_ret (pe_lst (pa_cons (pv 1) (pa_cons pe_int (pa_cons pe_int (pa_cons pe_int (pa_cons pe_int (pa_cons (pv 2) (pa_cons pe_bl pa_nil))))))))))))), fun W => (vs_seq (vs_asg (VF.ve (vf_list (VE.vb (VF.ve (vf_slL (vb_var 0) vo_none (vo_some (ve_c fun _ => .int _))))))) (vg_name 1))
  (vs_seq (vs_asg (ve_c fun _ => .int _) (vg_name 2))
  (vs_seq (vs_for (vi_list (ve_var 1)) (vg_name 3) (vs_asg (ve_op (ve_int1 (ve_op (ve_op (ve_var 2) (ve_c fun _ => .int _) (vr_I fun _ _ _ => .int _)) (ve_var 3) (vr_I0 fun _ _ _ => .int _))) (ve_c fun _ => .int _) (vr_I fun _ _ _ => .int _)) (vg_name 2)))
  (vs_retF (vf_lst (va_cons (ve_var 1) (va_cons (ve_c fun _ => .int _) (va_cons (ve_c fun _ => .int _) (va_cons (ve_c fun _ => .int _) (va_cons (ve_c fun _ => .int _) (va_cons (ve_var 2) (va_cons (ve_c fun _ => .bl _) va_nil)))))))))))), fun as X Q h => ?_⟩)
  · obtain ⟨ns, rfl, _⟩ := h
    rfl
  · obtain ⟨ns, rfl, hl, q⟩ := h
    have ec : cutD (ns.map D.int) none (some 63) = ns.map D.int := by
      unfold cutD
      rw [HT.sIx_none, show HT.sIx (ns.map D.int).length (ns.map D.int).length (some 63) = min 63 (ns.map D.int).length from HT.sIx_nat _ _ 63, List.length_map]
      rw [show min 63 ns.length = ns.length by omega, Nat.sub_zero, List.drop_zero]
      exact List.take_of_length_le (by rw [List.length_map]; omega)
    refine ⟨fun i η => ∃ (fo : Int) (y : Sl), η = [.fz (.scr ns), .fz (.lst (cutD (ns.map D.int) none (some 63))), .fz (.int fo), y], ⟨_, _, rfl⟩, ?_, ?_⟩
    · rintro i d η e ⟨fo, y, rfl⟩
      rw [ec] at e
      obtain ⟨z, _, rfl⟩ := map_inv e
      exact ⟨.inr ⟨by decide, by decide⟩, (by show (0 : Int) < 2147483647; decide), _, _, rfl⟩
    · rintro η ⟨fo, y, rfl⟩
      refine ⟨_, .fz .nil, q _ ⟨ns, 0, 0, 0, 0, fo, false, ?_, hl, Int.le_refl _⟩⟩
      show [D.lst (cutD (ns.map D.int) none (some 63)), _, _, _, _, _, _] = _
      rw [ec]
end
end Tw




namespace Tw
open PySem PySem.Spec PyProof.Rows L2
/-- data that _law_exact tells the same: no None, of bounded depth -/
def ExX : Nat → D → Prop
  | _, .bl _ => True
  | _, .int _ => True
  | _, .str _ => True
  | n + 1, .lst ds => ds.length ≤ 1000001 ∧ ∀ d ∈ ds, ExX n d
  | n + 1, .tup ds => ds.length ≤ 1000001 ∧ ∀ d ∈ ds, ExX n d
  | _, _ => False
section
variable {P : Program} {w : World} {K : PySem.W.Frag} {mg : Str → Option Value} {base : Heap} {A₀ : Ad}
def svExact (n : Nat) : VSp := fun as _ Q => ∃ d : D, as = [.fz d, .fz d] ∧ ExX n d ∧ Q (.val (.bl true)) as
theorem cvn_exact (T : Txt P w K mg base A₀) (n k : Nat) (sp' : VSp) (hsp : ∀ m, n = m + 1 → sp' = svExact m) (c__law_exact : Cal P w K mg base CX0 "_law_exact" k ["told", "due"] (spV K sp')) : Cal P w K mg base CX0 "_law_exact" (k + 1) ["told", "due"] (spV K (svExact n)) := by
  refine cal_ofV T.d__law_exact sc__law_exact b__law_exact (fun as X Q h => ?_) (fun f cdv A outer s H E hr => ⟨_, _, (pss_cons (ps_if (PW.pt (pw_or (pt_val (pe_callB call_isi (by rfl) T.n_isinstance (by decide +kernel) (pa_cons (pv 0) (pa_cons (pe_bltn (v := .ty "bool") (by rfl) T.n_bool (by decide +kernel) rfl) pa_nil)))) (pw_or1 (pt_val (pe_callB call_isi (by rfl) T.n_isinstance (by decide +kernel) (pa_cons (pv 1) (pa_cons (pe_bltn (v := .ty "bool") (by rfl) T.n_bool (by decide +kernel) rfl) pa_nil))))))) (pss_one (ps_ret (pe_and (pe_callB call_isi (by rfl) T.n_isinstance (by decide +kernel) (pa_cons (pv 0) (pa_cons (pe_bltn (v := .ty "bool") (by rfl) T.n_bool (by decide +kernel) rfl) pa_nil))) (pe_and (pe_callB call_isi (by rfl) T.n_isinstance (by decide +kernel) (pa_cons (pv 1) (pa_cons (pe_bltn (v := .ty "bool") (by rfl) T.n_bool (by decide +kernel) rfl) pa_nil))) (pe_one (pe_cmpR ((op_eqD hr.units).or op_eq) (pv 0) (pv 1) (nomark _))))))) pss_nil)
  (pss_cons (ps_if (pt_val (pe_callB call_isi (by rfl) T.n_isinstance (by decide +kernel) (pa_cons (pv 1) (pa_cons (pe_bltn (v := .ty "int") (by rfl) T.n_int (by decide +kernel) rfl) pa_nil)))) (pss_one (ps_ret (pe_and (pe_callB call_isi (by rfl) T.n_isinstance (by decide +kernel) (pa_cons (pv 0) (pa_cons (pe_bltn (v := .ty "int") (by rfl) T.n_int (by decide +kernel) rfl) pa_nil))) (pe_one (pe_cmpR ((op_eqD hr.units).or op_eq) (pv 0) (pv 1) (nomark _)))))) pss_nil)
  (pss_cons (ps_if (pt_val (pe_callB call_isi (by rfl) T.n_isinstance (by decide +kernel) (pa_cons (pv 1) (pa_cons (pe_bltn (v := .ty "str") (by rfl) T.n_str (by decide +kernel) rfl) pa_nil)))) (pss_one (ps_ret (pe_and (pe_callB call_isi (by rfl) T.n_isinstance (by decide +kernel) (pa_cons (pv 0) (pa_cons (pe_bltn (v := .ty "str") (by rfl) T.n_str (by decide +kernel) rfl) pa_nil))) (pe_one (pe_cmpR ((op_eqD hr.units).or op_eq) (pv 0) (pv 1) (nomark _)))))) pss_nil)
  (pss_cons (ps_if (PW.pt (pw_and (pt_val (pe_callB call_isi (by rfl) T.n_isinstance (by decide +kernel) (pa_cons (pv 1) (pa_cons (pe_bltn (v := .ty "tuple") (by rfl) T.n_tuple (by decide +kernel) rfl) pa_nil)))) (pw_and1 (pt_not (pt_val (pe_callB call_isi (by rfl) T.n_isinstance (by decide +kernel) (pa_cons (pv 0) (pa_cons (pe_bltn (v := .ty "tuple") (by rfl) T.n_tuple (by decide +kernel) rfl) pa_nil)))))))) (pss_one (ps_ret pe_bl)) pss_nil)
  (pss_cons (ps_if (PW.pt (pw_and (pt_val (pe_callB call_isi (by rfl) T.n_isinstance (by decide +kernel) (pa_cons (pv 1) (pa_cons (pe_bltn (v := .ty "list") (by rfl) T.n_list (by decide +kernel) rfl) pa_nil)))) (pw_and1 (pt_not (pt_val (pe_callB call_isi (by rfl) T.n_isinstance (by decide +kernel) (pa_cons (pv 0) (pa_cons (pe_bltn (v := .ty "list") (by rfl) T.n_list (by decide +kernel) rfl) pa_nil)))))))) (pss_one (ps_ret pe_bl)) pss_nil)
  (pss_cons (ps_if (PW.pt (pw_or (pt_not (pt_val (pe_callB call_isiT (by rfl) T.n_isinstance (by decide +kernel) (pa_cons (pv 1) (pa_cons (pe_tup (pa_cons (pe_bltn (v := .ty "list") (by rfl) T.n_list (by decide +kernel) rfl) (pa_cons (pe_bltn (v := .ty "tuple") (by rfl) T.n_tuple (by decide +kernel) rfl) pa_nil))) pa_nil))))) (pw_or1 (pt_cmpR op_ne (pe_callB call_len_seq (by rfl) T.n_len PySem.boot_len (pa_cons (pv 0) pa_nil)) (pe_callB call_len_seq (by rfl) T.n_len PySem.boot_len (pa_cons (pv 1) pa_nil)) (nomark _))))) (pss_one (ps_ret pe_bl)) pss_nil)
  (pss_cons (ps_for PassesOwn.never rfl (pi_range1 (by rfl) T.n_range (pa_cons (pe_callB call_len_seq (by rfl) T.n_len PySem.boot_len (pa_cons (pv 1) pa_nil)) pa_nil)) (pg_name (i := 2) sc__law_exact.nd rfl (Or.inl rfl)) (pss_one (ps_if (pt_not (pt_val (pe_cal c__law_exact (hr.mono (by first | exact Nat.le_refl _ | decide)) (by rfl) (pa_cons (pe_ix ix_seq (pv 0) (pv 2) (fun _ _ => rfl)) (pa_cons (pe_ix ix_seq (pv 1) (pv 2) (fun _ _ => rfl)) pa_nil))))) (pss_one (ps_ret pe_bl)) pss_nil)))
  (pss_one (ps_ret pe_bl))))))))), fun W => (vs_seq (vs_if (vt_or (vt_B (ve_isi (vb_var 0) (.ty _))) (vt_B (ve_isi (vb_var 1) (.ty _)))) (vs_ret (ve_and (ve_isi (vb_var 0) (.ty _)) (ve_and (ve_isi (vb_var 1) (.ty _)) (ve_eqX (vb_var 0) (vb_var 1))))) vs_next)
  (vs_seq (vs_if (vt_B (ve_isi (vb_var 1) (.ty _))) (vs_ret (ve_and (ve_isi (vb_var 0) (.ty _)) (ve_eqX (vb_var 0) (vb_var 1)))) vs_next)
  (vs_seq (vs_if (vt_B (ve_isi (vb_var 1) (.ty _))) (vs_ret (ve_and (ve_isi (vb_var 0) (.ty _)) (ve_eqX (vb_var 0) (vb_var 1)))) vs_next)
  (vs_seq (vs_if (vt_and (vt_B (ve_isi (vb_var 1) (.ty _))) (vt_not (vt_B (ve_isi (vb_var 0) (.ty _))))) (vs_ret (ve_c fun _ => .bl _)) vs_next)
  (vs_seq (vs_if (vt_and (vt_B (ve_isi (vb_var 1) (.ty _))) (vt_not (vt_B (ve_isi (vb_var 0) (.ty _))))) (vs_ret (ve_c fun _ => .bl _)) vs_next)
  (vs_seq (vs_if (vt_or (vt_not (vt_B (ve_isi2 (vb_var 1) (.ty _) (.ty _)))) (vt_test (ve_ne (ve_len (vb_var 0)) (ve_len (vb_var 1))))) (vs_ret (ve_c fun _ => .bl _)) vs_next)
  (vs_seq (vs_for (vi_range1 (va_cons (ve_len (vb_var 1)) va_nil)) (vg_name 2) (vs_if (vt_not (vt_B (VRs.ve (vrs_call (vk_val (ve_ix (vb_var 0) (ve_var 2)) (vk_val (ve_ix (vb_var 1) (ve_var 2)) vk_nil)))))) (vs_ret (ve_c fun _ => .bl _)) vs_next))
  (vs_ret (ve_c fun _ => .bl _))))))))), fun as X Q h => ?_⟩)
  · obtain ⟨d, rfl, _⟩ := h
    rfl
  · obtain ⟨d, rfl, hd, q⟩ := h
    have q' : ∃ as', Outs [Sl.fz d, .fz d, .no] [.fz d, .fz d] as' ∧ Q (.val (.bl true)) as' := ⟨_, .fz (.fz .nil), q⟩
    cases d with
    | bl v =>
      refine ⟨_, _, rfl, kT, ?_⟩
      refine ⟨_, _, rfl, kT, _, _, rfl, kT, _, .inl rfl, ?_⟩
      refine ⟨_, .fz (.fz .nil), ?_⟩
      rw [decide_eq_true rfl]
      exact q
    | int v =>
      refine ⟨_, _, rfl, kF, _, _, rfl, kF, _, _, rfl, kT, _, _, rfl, kT, _, .inl rfl, ?_⟩
      refine ⟨_, .fz (.fz .nil), ?_⟩
      rw [decide_eq_true rfl]
      exact q
    | str v =>
      refine ⟨_, _, rfl, kF, _, _, rfl, kF, _, _, rfl, kF, _, _, rfl, kT, _, _, rfl, kT, _, .inl rfl, ?_⟩
      refine ⟨_, .fz (.fz .nil), ?_⟩
      rw [decide_eq_true rfl]
      exact q
    | lst ds =>
      obtain ⟨n, rfl⟩ : ∃ m, n = m + 1 := by
        cases n with
        | zero => exact hd.elim
        | succ m => exact ⟨m, rfl⟩
      obtain rfl := hsp n rfl
      refine ⟨_, _, rfl, kF, _, _, rfl, kF, _, _, rfl, kF, _, _, rfl, kF, _, _, rfl, kF, _, _, rfl, kT, _, _, rfl, kT, ?_⟩
      refine ⟨_, _, rfl, kit_lt (t := "list") (r1 := true) (r2 := false) (by decide +kernel) (by decide +kernel), ?_⟩
      refine iteNS rfl ?_
      refine ⟨⟨by have := hd.1; omega, by have := hd.1; omega⟩, fun i η => ∃ y, η = [.fz (.lst ds), .fz (.lst ds), y], ⟨_, rfl⟩, ?_, ?_⟩
      · rintro i d η e ⟨y, rfl⟩
        obtain ⟨hi, rfl⟩ := rngD_inv e
        have hi : i < ds.length := by omega
        rw [Int.zero_add]
        have at1 : atI ds (i : Int) = some ds[i] := atI_nat (List.getElem?_eq_getElem hi)
        exact ⟨_, at1, _, at1, ds[i], rfl, hd.2 _ (List.getElem_mem hi), _, rfl⟩
      · rintro η ⟨y, rfl⟩
        exact ⟨_, .fz (.fz .nil), q⟩
    | tup ds =>
      obtain ⟨n, rfl⟩ : ∃ m, n = m + 1 := by
        cases n with
        | zero => exact hd.elim
        | succ m => exact ⟨m, rfl⟩
      obtain rfl := hsp n rfl
      refine ⟨_, _, rfl, kF, _, _, rfl, kF, _, _, rfl, kF, _, _, rfl, kF, _, _, rfl, kT, _, _, rfl, kT, _, _, rfl, kF, ?_⟩
      refine ⟨_, _, rfl, kit_lt (t := "tuple") (r1 := false) (r2 := true) (by decide +kernel) (by decide +kernel), ?_⟩
      refine iteNS rfl ?_
      refine ⟨⟨by have := hd.1; omega, by have := hd.1; omega⟩, fun i η => ∃ y, η = [.fz (.tup ds), .fz (.tup ds), y], ⟨_, rfl⟩, ?_, ?_⟩
      · rintro i d η e ⟨y, rfl⟩
        obtain ⟨hi, rfl⟩ := rngD_inv e
        have hi : i < ds.length := by omega
        rw [Int.zero_add]
        have at1 : atI ds (i : Int) = some ds[i] := atI_nat (List.getElem?_eq_getElem hi)
        exact ⟨_, at1, _, at1, ds[i], rfl, hd.2 _ (List.getElem_mem hi), _, rfl⟩
      · rintro η ⟨y, rfl⟩
        exact ⟨_, .fz (.fz .nil), q⟩
    | _ => cases n <;> exact hd.elim
theorem cvn_no {x : Str} {st : Stmt} {ps : List Str} (Dd : DefAt K mg x st) (hb : BindOk x st ps) : Cal P w K mg base CX0 x 0 ps (spV K (fun _ _ _ => False)) := by
  obtain ⟨f, fd, F, m⟩ := Dd.ex
  exact ⟨f, fd, ⟨fun _ _ _ _ ⟨_, _, _, _, _, h, _⟩ => h.elim, fun _ _ _ _ _ _ _ _ _ _ _ _ _ ⟨_, _, _, _, _, h, _⟩ => h.elim⟩, m, F.kp, F.binds hb⟩
theorem cv_exactN (T : Txt P w K mg base A₀) : ∀ n, Cal P w K mg base CX0 "_law_exact" (n + 1) ["told", "due"] (spV K (svExact n))
  | 0 => cvn_exact T 0 0 (fun _ _ _ => False) (fun m e => by cases e) (cvn_no T.d__law_exact b__law_exact)
  | n + 1 => cvn_exact T (n + 1) (n + 1) (svExact n) (fun m e => by cases e; rfl) (cv_exactN T n)
theorem cv__law_exact (T : Txt P w K mg base A₀) : Cal P w K mg base CX0 "_law_exact" 6 ["told", "due"] (spV K (svExact 5)) := cv_exactN T 5
def svLineL : VSp := svLine
def svJoined : VSp := fun as _ Q => ∃ (q : Addr) (b : List D) (x y : Int), as = [.ow q (.lst b), .fz (.int x), .fz (.int y)] ∧ WfB b ∧ ∀ (b' : List D) (p : Rope), WfB b' → p = (x, y) ∨ p = (y, x) → Q (.val (pD p)) [.ow q (.lst b'), .fz (.int x), .fz (.int y)]
theorem cv__law_joined (T : Txt P w K mg base A₀) : Cal P w K mg base CX0 "_law_joined" 3 ["bag", "one", "two"] (spV K svJoined) := by
  have c__law_draw := cv__law_draw T
  refine cal_ofV T.d__law_joined sc__law_joined b__law_joined (fun as X Q h => ?_) (fun f cdv A outer s H E hr => ⟨_, _, (pss_cons (ps_if (pt_cmpR op_eq (pe_cal c__law_draw (hr.mono (by first | exact Nat.le_refl _ | decide)) (by rfl) (pa_cons (pv 0) (pa_cons pe_int pa_nil))) pe_int (nomark _)) (pss_one (ps_ret (pe_tup (pa_cons (pv 2) (pa_cons (pv 1) pa_nil))))) pss_nil)
  (pss_one (ps_ret (pe_tup (pa_cons (pv 1) (pa_cons (pv 2) pa_nil)))))), fun W => (vs_seq (vs_if (vt_test (ve_eq (VRs.ve (vrs_call (vk_ref 0 (vk_val (ve_c fun _ => .int _) vk_nil)))) (ve_c fun _ => .int _))) (vs_ret (ve_tup (va_cons (ve_var 2) (va_cons (ve_var 1) va_nil)))) vs_next)
  (vs_ret (ve_tup (va_cons (ve_var 1) (va_cons (ve_var 2) va_nil))))), fun as X Q h => ?_⟩)
  · obtain ⟨q, b, x, y, rfl, _⟩ := h
    rfl
  · obtain ⟨q, b, x, y, rfl, wf, qq⟩ := h
    refine ⟨q, b, 2, rfl, wf, by decide, by decide, fun r b' _ _ wf' => ite2 (fun _ => ?_) (fun _ => ?_)⟩
    · exact ⟨_, .ow 0 rfl (.fz (.fz .nil)), qq b' (y, x) wf' (.inr rfl)⟩
    · exact ⟨_, .ow 0 rfl (.fz (.fz .nil)), qq b' (x, y) wf' (.inl rfl)⟩
def svOrder : VSp := fun as _ Q => ∃ (q : Addr) (b : List D) (n : Nat), as = [.ow q (.lst b), .fz (.int (n : Int))] ∧ WfB b ∧ n ≤ 1000 ∧ ∀ (b' : List D) (os : List Int), WfB b' → os.Perm ((List.range n).map fun (k : Nat) => (k : Int)) → Q (.new (.lst (os.map D.int))) [.ow q (.lst b'), .fz (.int (n : Int))]
theorem rngD_ints (n : Nat) : rngD 0 n = ((List.range n).map fun (k : Nat) => (k : Int)).map D.int := by
  unfold rngD
  rw [List.map_map]
  exact List.map_congr_left fun k _ => by show D.int (0 + (k : Int)) = D.int (k : Int); rw [Int.zero_add]
theorem map_eraseD {α : Type} (f : α → D) : ∀ (l : List α) (i : Nat), (l.map f).eraseIdx i = (l.eraseIdx i).map f
  | [], _ => rfl
  | _ :: _, 0 => rfl
  | a :: l, i + 1 => by
    show f a :: (l.map f).eraseIdx i = f a :: (l.eraseIdx i).map f
    rw [map_eraseD f l i]
theorem cv__law_order (T : Txt P w K mg base A₀) : Cal P w K mg base CX0 "_law_order" 3 ["bag", "many"] (spV K svOrder) := by
  have c__law_draw := cv__law_draw T
  refine cal_ofV T.d__law_order sc__law_order b__law_order (fun as X Q h => ?_) (fun f cdv A outer s H E hr => ⟨_, _, (pss_cons (ps_set (i := 2) sc__law_order.nd rfl (Or.inl rfl) (pe_callTy (cr_listR rfl) (by rfl) T.n_list (by decide +kernel) (pa_cons (pe_callTy cr_range1 (by rfl) T.n_range (by decide +kernel) (pa_cons (pv 1) pa_nil)) pa_nil)))
  (pss_cons (ps_if (pt_cmpR op_eq (pe_cal c__law_draw (hr.mono (by first | exact Nat.le_refl _ | decide)) (by rfl) (pa_cons (pv 0) (pa_cons pe_int pa_nil))) pe_int (nomark _)) (pss_one (ps_ret (pv 2))) pss_nil)
  (pss_cons (ps_set (i := 3) sc__law_order.nd rfl (Or.inl rfl) (pe_lst pa_nil))
  (pss_cons (ps_for PassesOwn.never rfl (pi_range1 (by rfl) T.n_range (pa_cons (pv 1) pa_nil)) (pg_name (i := 4) sc__law_order.nd rfl (Or.inl rfl)) (pss_one (ps_expr (pe_bm PySem.F.plainAttrs_list PySem.F.slot_list_append PySem.F.type_list_append mt_append (pv 3) (pa_cons (pe_bm PySem.F.plainAttrs_list PySem.F.slot_list_pop PySem.F.type_list_pop mt_popAt (pv 2) (pa_cons (pe_cal c__law_draw (hr.mono (by first | exact Nat.le_refl _ | decide)) (by rfl) (pa_cons (pv 0) (pa_cons (pe_callB call_len_seq (by rfl) T.n_len PySem.boot_len (pa_cons (pv 2) pa_nil)) pa_nil))) pa_nil)) pa_nil)))))
  (pss_one (ps_ret (pv 3))))))), fun W => (vs_seq (vs_setO 2 (vf_listR (ve_var 1)))
  (vs_seq (vs_if (vt_test (ve_eq (VRs.ve (vrs_call (vk_ref 0 (vk_val (ve_c fun _ => .int _) vk_nil)))) (ve_c fun _ => .int _))) (vs_retO 2) vs_next)
  (vs_seq (vs_setO 3 (vf_lst va_nil))
  (vs_seq (vs_for (vi_range1 (va_cons (ve_var 1) va_nil)) (vg_name 4) (vs_drop (ve_lm 3 vm_append (va_cons (ve_lm 2 vm_popAt (va_cons (VRs.ve (vrs_call (vk_ref 0 (vk_val (ve_len (vb_var 2)) vk_nil)))) va_nil)) va_nil))))
  (vs_retO 3))))), fun as X Q h => ?_⟩)
  · obtain ⟨q, b, n, rfl, _⟩ := h
    rfl
  · obtain ⟨q, b, n, rfl, wf, hn, qq⟩ := h
    refine ⟨⟨by omega, by omega⟩, fun q1 => ?_⟩
    refine ⟨q, b, 3, rfl, wf, by decide, by decide, fun r b1 _ _ wf1 => ite2 (fun _ => ?_) (fun _ => ?_)⟩
    · refine ⟨_, .ow 0 rfl (.fz .nil), ?_⟩
      show Q (.new (.lst (rngD 0 n))) _
      rw [rngD_ints]
      exact qq b1 _ wf1 (List.Perm.refl _)
    · intro q2
      refine ⟨⟨by omega, by omega⟩, fun i η => ∃ (y : Sl) (b2 : List D) (os rs : List Int), η = [.ow q (.lst b2), .fz (.int (n : Int)), .ow q1 (.lst (rs.map D.int)), .ow q2 (.lst (os.map D.int)), y] ∧ WfB b2 ∧ (os ++ rs).Perm ((List.range n).map fun (k : Nat) => (k : Int)) ∧ os.length = i, ?_, ?_, ?_⟩
      · refine ⟨.no, b1, [], (List.range n).map fun (k : Nat) => (k : Int), ?_, wf1, List.Perm.refl _, rfl⟩
        show [_, _, Sl.ow q1 (.lst (rngD 0 n)), _, _] = _
        rw [rngD_ints]
        rfl
      · rintro i d η e ⟨y, b2, os, rs, rfl, wf2, pm, lo⟩
        obtain ⟨hi, rfl⟩ := rngD_inv e
        have len : os.length + rs.length = n := by
          have := pm.length_eq
          rwa [List.length_append, List.length_map, List.length_range] at this
        have hi : i < n := by omega
        refine ⟨q, b2, _, rfl, wf2, by rw [List.length_map]; omega, by rw [List.length_map]; omega, fun d b3 d0 d1 wf3 => ?_⟩
        rw [List.length_map] at d1
        have hd : d.toNat < rs.length := by omega
        refine ⟨d.toNat, D.int rs[d.toNat], by omega, by omega, by rw [List.getElem?_map, List.getElem?_eq_getElem hd]; rfl, ?_⟩
        refine ⟨by rw [List.length_map]; omega, ?_⟩
        refine ⟨.fz (.int (0 + (i : Int))), b3, os ++ [rs[d.toNat]], rs.eraseIdx d.toNat, ?_, wf3, ?_, by rw [List.length_append, lo]; rfl⟩
        · show [Sl.ow q (.lst b3), .fz (.int (n : Int)), .ow q1 (.lst ((rs.map D.int).eraseIdx d.toNat)), .ow q2 (.lst (os.map D.int ++ [D.int rs[d.toNat]])), _] = _
          rw [map_eraseD, List.map_append]
          rfl
        · refine List.Perm.trans ?_ pm
          rw [List.append_assoc]
          exact List.Perm.append_left _ (perm_erase rs hd)
      · rintro η ⟨y, b2, os, rs, rfl, wf2, pm, lo⟩
        have len : os.length + rs.length = n := by
          have := pm.length_eq
          rwa [List.length_append, List.length_map, List.length_range] at this
        rw [rngD_len] at lo
        have er : rs = [] := List.length_eq_zero_iff.mp (by omega)
        subst er
        rw [List.append_nil] at pm
        exact ⟨_, .ow 0 rfl (.fz .nil), qq b2 os wf2 pm⟩
end
end Tw




namespace Tw
open PySem PySem.Spec PyProof.Rows L2
section
variable {P : Program} {w : World} {K : PySem.W.Frag} {mg : Str → Option Value} {base : Heap} {A₀ : Ad}
/-- a net's number of stations and its ropes: all stations joined -/
def NetOk (m : Int) (ps : List Rope) : Prop := okSize m = true ∧ ps.length ≤ 40 ∧ (∀ p ∈ ps, okRope m p = true) ∧ ∀ s : Nat, (s : Int) < m → Lk ps 0 s
def svNetL : VSp := fun as _ Q => ∃ (q : Addr) (b : List D), as = [.ow q (.lst b)] ∧ WfB b ∧ ∀ (b' : List D) (m : Int) (ps : List Rope), WfB b' → NetOk m ps → Q (.new (.lst [.int m, .lst (ps.map pD)])) [.ow q (.lst b')]
theorem okR {m : Int} {p : Rope} (h1 : 0 ≤ p.1) (h2 : p.1 < m) (h3 : 0 ≤ p.2) (h4 : p.2 < m) (h5 : p.1 ≠ p.2) : okRope m p = true := by
  unfold okRope
  simp only [Bool.and_eq_true, Bool.not_eq_true', decide_eq_false_iff_not, decide_eq_true_eq]
  exact ⟨⟨h5, h1, h2⟩, h3, h4⟩
theorem okR_of {m : Int} {p : Rope} {x y : Int} (h : p = (x, y) ∨ p = (y, x)) (h1 : 0 ≤ x) (h2 : x < m) (h3 : 0 ≤ y) (h4 : y < m) (h5 : x ≠ y) : okRope m p = true := by
  rcases h with rfl | rfl
  · exact okR h1 h2 h3 h4 h5
  · exact okR h3 h4 h1 h2 fun z => h5 z.symm
theorem okS_of {m : Int} (h1 : 1 ≤ m) (h2 : m ≤ 24) : okSize m = true := by
  unfold okSize
  rw [decide_eq_true h1, decide_eq_true h2]
  rfl
theorem insD (l : List Rope) (k : Nat) (p : Rope) : (l.map pD).take k ++ [pD p] ++ (l.map pD).drop k = (l.take k ++ [p] ++ l.drop k).map pD := by
  rw [List.map_append, List.map_append, List.map_take, List.map_drop]
  rfl
theorem cv__law_net (T : Txt P w K mg base A₀) : Cal P w K mg base CX0 "_law_net" 4 ["bag"] (spV K svNetL) := by
  have c__law_draw := cv__law_draw T; have c__law_order := cv__law_order T; have c__law_joined := cv__law_joined T
  refine cal_ofV T.d__law_net sc__law_net b__law_net (fun as X Q h => ?_) (fun f cdv A outer s H E hr => ⟨_, _, (pss_cons (ps_set (i := 1) sc__law_net.nd rfl (Or.inl rfl) (pe_op op_add pe_int (pe_op op_fdiv (pe_op op_add pe_int (pe_cal c__law_draw (hr.mono (by first | exact Nat.le_refl _ | decide)) (by rfl) (pa_cons (pv 0) (pa_cons pe_int pa_nil)))) pe_int)))
  (pss_cons (ps_set (i := 2) sc__law_net.nd rfl (Or.inl rfl) (pe_cal c__law_draw (hr.mono (by first | exact Nat.le_refl _ | decide)) (by rfl) (pa_cons (pv 0) (pa_cons pe_int pa_nil))))
  (pss_cons (ps_if (pt_cmpR op_eq (pe_cal c__law_draw (hr.mono (by first | exact Nat.le_refl _ | decide)) (by rfl) (pa_cons (pv 0) (pa_cons pe_int pa_nil))) pe_int (nomark _)) (pss_cons (ps_set (i := 1) sc__law_net.nd rfl (Or.inl rfl) (pe_op op_add pe_int (pe_cal c__law_draw (hr.mono (by first | exact Nat.le_refl _ | decide)) (by rfl) (pa_cons (pv 0) (pa_cons pe_int pa_nil)))))
  (pss_one (ps_set (i := 2) sc__law_net.nd rfl (Or.inl rfl) (pe_cal c__law_draw (hr.mono (by first | exact Nat.le_refl _ | decide)) (by rfl) (pa_cons (pv 0) (pa_cons pe_int pa_nil)))))) pss_nil)
  (pss_cons (ps_set (i := 3) sc__law_net.nd rfl (Or.inl rfl) (pe_cal c__law_order (hr.mono (by first | exact Nat.le_refl _ | decide)) (by rfl) (pa_cons (pv 0) (pa_cons (pv 1) pa_nil))))
  (pss_cons (ps_set (i := 4) sc__law_net.nd rfl (Or.inl rfl) (pe_lst pa_nil))
  (pss_cons (ps_for PassesOwn.never rfl (pi_range2 (by rfl) T.n_range (pa_cons pe_int (pa_cons (pv 1) pa_nil))) (pg_name (i := 5) sc__law_net.nd rfl (Or.inl rfl)) (pss_cons (ps_set (i := 6) sc__law_net.nd rfl (Or.inl rfl) (pe_cal c__law_joined (hr.mono (by first | exact Nat.le_refl _ | decide)) (by rfl) (pa_cons (pv 0) (pa_cons (pe_ix ix_seq (pv 3) (pv 5) (fun _ _ => rfl)) (pa_cons (pe_ix ix_seq (pv 3) (pe_cal c__law_draw (hr.mono (by first | exact Nat.le_refl _ | decide)) (by rfl) (pa_cons (pv 0) (pa_cons (pv 5) pa_nil))) (fun _ _ => rfl)) pa_nil)))))
  (pss_one (ps_expr (pe_bm PySem.F.plainAttrs_list PySem.F.slot_list_insert PySem.F.type_list_insert mt_insert (pv 4) (pa_cons (pe_cal c__law_draw (hr.mono (by first | exact Nat.le_refl _ | decide)) (by rfl) (pa_cons (pv 0) (pa_cons (pe_op op_add (pe_callB call_len_seq (by rfl) T.n_len PySem.boot_len (pa_cons (pv 4) pa_nil)) pe_int) pa_nil))) (pa_cons (pv 6) pa_nil)))))))
  (pss_cons (ps_if (pt_cmpR op_gt (pv 1) pe_int (nomark _)) (pss_one (ps_for PassesOwn.never rfl (pi_range1 (by rfl) T.n_range (pa_cons (pv 2) pa_nil)) (pg_name (i := 5) sc__law_net.nd rfl (Or.inl rfl)) (pss_cons (ps_set (i := 7) sc__law_net.nd rfl (Or.inl rfl) (pe_cal c__law_draw (hr.mono (by first | exact Nat.le_refl _ | decide)) (by rfl) (pa_cons (pv 0) (pa_cons (pv 1) pa_nil))))
  (pss_cons (ps_set (i := 6) sc__law_net.nd rfl (Or.inl rfl) (pe_cal c__law_joined (hr.mono (by first | exact Nat.le_refl _ | decide)) (by rfl) (pa_cons (pv 0) (pa_cons (pv 7) (pa_cons (pe_op op_mod (pe_op op_add (pe_op op_add (pv 7) pe_int) (pe_cal c__law_draw (hr.mono (by first | exact Nat.le_refl _ | decide)) (by rfl) (pa_cons (pv 0) (pa_cons (pe_op op_sub (pv 1) pe_int) pa_nil)))) (pv 1)) pa_nil)))))
  (pss_one (ps_expr (pe_bm PySem.F.plainAttrs_list PySem.F.slot_list_insert PySem.F.type_list_insert mt_insert (pv 4) (pa_cons (pe_cal c__law_draw (hr.mono (by first | exact Nat.le_refl _ | decide)) (by rfl) (pa_cons (pv 0) (pa_cons (pe_op op_add (pe_callB call_len_seq (by rfl) T.n_len PySem.boot_len (pa_cons (pv 4) pa_nil)) pe_int) pa_nil))) (pa_cons (pv 6) pa_nil))))))))) pss_nil)
  (pss_one (ps_ret (pe_lst (pa_cons (pv 1) (pa_cons (pv 4) pa_nil)))))))))))), fun W => (vs_seq (vs_asg (ve_op (ve_c fun _ => .int _) (ve_op (ve_op (ve_c fun _ => .int _) (VRs.ve (vrs_call (vk_ref 0 (vk_val (ve_c fun _ => .int _) vk_nil)))) (vr_I0 fun _ _ _ => .int _)) (ve_c fun _ => .int _) (vr_I fun _ _ _ => .int _)) (vr_I0 fun _ _ _ => .int _)) (vg_name 1))
  (vs_seq (vs_asg (VRs.ve (vrs_call (vk_ref 0 (vk_val (ve_c fun _ => .int _) vk_nil)))) (vg_name 2))
  (vs_cut (vs_if (vt_test (ve_eq (VRs.ve (vrs_call (vk_ref 0 (vk_val (ve_c fun _ => .int _) vk_nil)))) (ve_c fun _ => .int _))) (vs_seq (vs_asg (ve_op (ve_c fun _ => .int _) (VRs.ve (vrs_call (vk_ref 0 (vk_val (ve_c fun _ => .int _) vk_nil)))) (vr_I0 fun _ _ _ => .int _)) (vg_name 1))
  (vs_asg (VRs.ve (vrs_call (vk_ref 0 (vk_val (ve_c fun _ => .int _) vk_nil)))) (vg_name 2))) vs_next)
  (vs_seq (vs_asg (VF.ve (VRs.vf (vrs_call (vk_ref 0 (vk_val (ve_var 1) vk_nil))))) (vg_name 3))
  (vs_seq (vs_setO 4 (vf_lst va_nil))
  (vs_seq (vs_for (vi_range2 (va_cons (ve_c fun _ => .int _) (va_cons (ve_var 1) va_nil))) (vg_name 5) (vs_seq (vs_asg (VRs.ve (vrs_call (vk_ref 0 (vk_val (ve_ix (vb_var 3) (ve_var 5)) (vk_val (ve_ix (vb_var 3) (VRs.ve (vrs_call (vk_ref 0 (vk_val (ve_var 5) vk_nil))))) vk_nil))))) (vg_name 6))
  (vs_drop (ve_lm 4 vm_insert (va_cons (VRs.ve (vrs_call (vk_ref 0 (vk_val (ve_op (ve_len (vb_var 4)) (ve_c fun _ => .int _) (vr_I0 fun _ _ _ => .int _)) vk_nil)))) (va_cons (ve_var 6) va_nil))))))
  (vs_cut (vs_if (vt_test (ve_op (ve_var 1) (ve_c fun _ => .int _) (vr_I0 fun _ _ _ => .bl _))) (vs_for (vi_range1 (va_cons (ve_var 2) va_nil)) (vg_name 5) (vs_seq (vs_asg (VRs.ve (vrs_call (vk_ref 0 (vk_val (ve_var 1) vk_nil)))) (vg_name 7))
  (vs_seq (vs_asg (VRs.ve (vrs_call (vk_ref 0 (vk_val (ve_var 7) (vk_val (ve_op (ve_op (ve_op (ve_var 7) (ve_c fun _ => .int _) (vr_I0 fun _ _ _ => .int _)) (VRs.ve (vrs_call (vk_ref 0 (vk_val (ve_op (ve_var 1) (ve_c fun _ => .int _) (vr_I0 fun _ _ _ => .int _)) vk_nil)))) (vr_I0 fun _ _ _ => .int _)) (ve_var 1) (vr_I fun _ _ _ => .int _)) vk_nil))))) (vg_name 6))
  (vs_drop (ve_lm 4 vm_insert (va_cons (VRs.ve (vrs_call (vk_ref 0 (vk_val (ve_op (ve_len (vb_var 4)) (ve_c fun _ => .int _) (vr_I0 fun _ _ _ => .int _)) vk_nil)))) (va_cons (ve_var 6) va_nil))))))) vs_next)
  (vs_retF (vf_lst (va_cons (ve_var 1) (va_cons (ve_var 4) va_nil))))))))))), fun as X Q h => ?_⟩)
  · obtain ⟨q, b, rfl, _⟩ := h
    rfl
  · obtain ⟨q, b, rfl, wf, qq⟩ := h
    refine ⟨q, b, 11, rfl, wf, by decide, by decide, fun d1 b1 d1a d1b wf1 => ?_⟩
    refine ⟨⟨by decide, by decide⟩, ?_⟩
    refine ⟨q, b1, 4, rfl, wf1, by decide, by decide, fun d2 b2 d2a d2b wf2 => ?_⟩
    refine ⟨fun η => ∃ (m e : Int) (b' : List D), η = [.ow q (.lst b'), .fz (.int m), .fz (.int e), .no, .no, .no, .no, .no] ∧ 1 ≤ m ∧ m ≤ 24 ∧ 0 ≤ e ∧ e ≤ 17 ∧ WfB b', ?_, ?_⟩
    · refine ⟨q, b2, 8, rfl, wf2, by decide, by decide, fun d3 b3 d3a d3b wf3 => ite2 (fun _ => ?_) (fun _ => ⟨_, d2, b3, rfl, by omega, by omega, d2a, by omega, wf3⟩)⟩
      refine ⟨q, b3, 24, rfl, wf3, by decide, by decide, fun d4 b4 d4a d4b wf4 => ?_⟩
      refine ⟨q, b4, 18, rfl, wf4, by decide, by decide, fun d5 b5 d5a d5b wf5 => ?_⟩
      exact ⟨_, d5, b5, rfl, by omega, by omega, d5a, by omega, wf5⟩
    rintro η ⟨m, e, b3, rfl, m1, m24, e0, e17, wf3⟩
    have em : ((m.toNat : Nat) : Int) = m := by omega
    refine ⟨q, b3, m.toNat, by rw [em], wf3, by omega, fun b4 ns wf4 pm => ?_⟩
    have nsl : ns.length = m.toNat := by
      have := pm.length_eq
      rwa [List.length_map, List.length_range] at this
    have nd := perm_nd pm
    obtain ⟨x0, hx0⟩ : ∃ x0, ns[0]? = some x0 := ⟨_, List.getElem?_eq_getElem (by omega)⟩
    intro q2
    refine ⟨⟨by decide, by omega⟩, fun i η => ∃ (y5 y6 y7 : Sl) (b' : List D) (ps : List Rope), η = [.ow q (.lst b'), .fz (.int m), .fz (.int e), .fz (.lst (ns.map D.int)), .ow q2 (.lst (ps.map pD)), y5, y6, y7] ∧ WfB b' ∧ ps.length = i ∧ (∀ p ∈ ps, okRope m p = true) ∧ ∀ (j : Nat) (x : Int), j ≤ i → ns[j]? = some x → Lk ps x0 x, ?_, ?_, ?_⟩
    · refine ⟨.no, .no, .no, b4, [], rfl, wf4, rfl, fun p h => (by cases h), fun j x hj hx => ?_⟩
      have : j = 0 := by omega
      subst this
      rw [hx0] at hx
      cases hx
      exact .refl
    · rintro i d η e ⟨y5, y6, y7, b5, ps, rfl, wf5, pl, okp, lk⟩
      obtain ⟨hi, rfl⟩ := rngD_inv e
      obtain ⟨x, ex, ax⟩ := atD (ns := ns) (i := 1 + (i : Int)) (by omega) (by omega)
      refine ⟨_, ax, q, b5, _, rfl, wf5, by omega, by omega, fun d b6 d0 d1 wf6 => ?_⟩
      obtain ⟨y, ey, ay⟩ := atD (ns := ns) (i := d) d0 (by omega)
      refine ⟨_, ay, q, b6, x, y, rfl, wf6, fun b7 p wf7 hp => ?_⟩
      refine ⟨q, b7, _, rfl, wf7, by rw [List.length_map]; omega, by rw [List.length_map]; omega, fun z b8 z0 z1 wf8 => ?_⟩
      rw [List.length_map] at z1
      have xy : ¬ x = y := fun exy => by
        subst exy
        have := nodup_ix nd ex ey
        omega
      have hxm := (perm_mem pm x).mp (List.mem_of_getElem? ex)
      have hym := (perm_mem pm y).mp (List.mem_of_getElem? ey)
      refine ⟨⟨by rw [List.length_map]; omega, z0, by omega⟩, .fz (.int (1 + (i : Int))), .fz (pD p), y7, b8, ps.take z.toNat ++ [p] ++ ps.drop z.toNat, ?_, wf8, by rw [ins_len, pl], fun p' hp' => ?_, fun j w hj hw => ?_⟩
      · show [_, _, _, _, Sl.ow q2 (.lst ((ps.map pD).take z.toNat ++ [pD p] ++ (ps.map pD).drop z.toNat)), _, _, _] = _
        rw [insD]
        rfl
      · rcases ins_mem.mp hp' with h | rfl
        · exact okp p' h
        · exact okR_of hp hxm.1 (by omega) hym.1 (by omega) xy
      · by_cases hji : j ≤ i
        · exact (lk j w hji hw).mono fun p' h => ins_mem.mpr (.inl h)
        · have ej : j = (1 + (i : Int)).toNat := by omega
          subst ej
          rw [ex] at hw
          cases hw
          exact .step ((lk _ y (by omega) ey).mono fun p' h => ins_mem.mpr (.inl h)) (ins_mem.mpr (.inr rfl)) hp.symm
    · rintro η ⟨y5, y6, y7, b5, ps, rfl, wf5, pl, okp, lk⟩
      rw [rngD_len] at pl lk
      have con : ∀ s : Nat, (s : Int) < m → Lk ps 0 s := fun s hs => by
        have has : ∀ v : Int, 0 ≤ v → v < m → Lk ps x0 v := fun v v0 v1 => by
          obtain ⟨j, hj⟩ := List.mem_iff_getElem?.mp ((perm_mem pm v).mpr ⟨v0, by omega⟩)
          have := (List.getElem?_eq_some_iff.mp hj).1
          exact lk j v (by omega) hj
        exact (has 0 (by omega) (by omega)).symm.trans (has s (by omega) hs)
      have l23 : ps.length ≤ 23 := by omega
      refine ⟨fun η => ∃ (y5 y6 y7 : Sl) (b' : List D) (ps : List Rope), η = [.ow q (.lst b'), .fz (.int m), .fz (.int e), .fz (.lst (ns.map D.int)), .ow q2 (.lst (ps.map pD)), y5, y6, y7] ∧ WfB b' ∧ ps.length ≤ 40 ∧ (∀ p ∈ ps, okRope m p = true) ∧ ∀ s : Nat, (s : Int) < m → Lk ps 0 s, ?_, ?_⟩
      · refine ite2 (fun z => ?_) (fun _ => ⟨_, _, _, b5, ps, rfl, wf5, by omega, okp, con⟩)
        have m2 : 1 < m := of_decide_eq_true z
        refine ⟨⟨by omega, by omega⟩, fun i η => ∃ (y5 y6 y7 : Sl) (b' : List D) (ps : List Rope), η = [.ow q (.lst b'), .fz (.int m), .fz (.int e), .fz (.lst (ns.map D.int)), .ow q2 (.lst (ps.map pD)), y5, y6, y7] ∧ WfB b' ∧ ps.length ≤ 23 + i ∧ (∀ p ∈ ps, okRope m p = true) ∧ ∀ s : Nat, (s : Int) < m → Lk ps 0 s, ⟨_, _, _, b5, ps, rfl, wf5, l23, okp, con⟩, ?_, ?_⟩
        · rintro i d η ee ⟨y5, y6, y7, b6, ps, rfl, wf6, pl, okp, con⟩
          obtain ⟨hi, rfl⟩ := rngD_inv ee
          refine ⟨q, b6, m, rfl, wf6, by omega, by omega, fun o b7 o0 o1 wf7 => ?_⟩
          refine ⟨q, b7, m - 1, rfl, wf7, by omega, by omega, fun d b8 d0 d1 wf8 => ?_⟩
          obtain ⟨v0, v1, vo⟩ := wrap_ne o0 o1 d0 d1
          refine ⟨by omega, ?_⟩
          refine ⟨q, b8, o, _, rfl, wf8, fun b9 p wf9 hp => ?_⟩
          refine ⟨q, b9, _, rfl, wf9, by rw [List.length_map]; omega, by rw [List.length_map]; omega, fun z ba z0 z1 wfa => ?_⟩
          rw [List.length_map] at z1
          refine ⟨⟨by rw [List.length_map]; omega, z0, by omega⟩, .fz (.int (0 + (i : Int))), .fz (pD p), .fz (.int o), ba, ps.take z.toNat ++ [p] ++ ps.drop z.toNat, ?_, wfa, by rw [ins_len]; omega, fun p' hp' => ?_, fun s hs => (con s hs).mono fun p' h => ins_mem.mpr (.inl h)⟩
          · show [_, _, _, _, Sl.ow q2 (.lst ((ps.map pD).take z.toNat ++ [pD p] ++ (ps.map pD).drop z.toNat)), _, _, _] = _
            rw [insD]
            rfl
          · rcases ins_mem.mp hp' with h | rfl
            · exact okp p' h
            · exact okR_of hp o0 o1 v0 v1 vo
        · rintro η ⟨y5, y6, y7, b6, ps, rfl, wf6, pl, okp, con⟩
          rw [rngD_len] at pl
          exact ⟨y5, y6, y7, b6, ps, rfl, wf6, by omega, okp, con⟩
      · rintro η ⟨y5, y6, y7, b6, ps, rfl, wf6, pl, okp, con⟩
        exact ⟨_, .ow 0 rfl .nil, qq b6 m ps wf6 ⟨okS_of m1 m24, pl, okp, con⟩⟩
end
end Tw




namespace Tw
open PySem PySem.Spec PyProof.Rows L2
section
variable {P : Program} {w : World} {K : PySem.W.Frag} {mg : Str → Option Value} {base : Heap} {A₀ : Ad}
def svMing : VSp := fun as _ Q => ∃ (q : Addr) (b : List D) (m : Int) (ps : List Rope), as = [.ow q (.lst b), .fz (.int m), .fz (.lst (ps.map pD))] ∧ WfB b ∧ NetOk m ps ∧ ∀ (b' : List D) (qs : List Rope), WfB b' → NetOk m qs → Q (.new (.lst (qs.map pD))) [.ow q (.lst b'), .fz (.int m), .fz (.lst (ps.map pD))]
theorem pD_ok (p : Rope) : pD p = .tup [.int p.1, .int p.2] := rfl
def svClosing : VSp := fun as _ Q => ∃ (q r : Addr) (b : List D) (m way : Int), as = [.ow q (.lst b), .fz (.int m), .ow r (.lst ((line m.toNat).map pD)), .fz (.int way)] ∧ WfB b ∧ 2 ≤ m ∧ m ≤ 24 ∧ ∀ (b' : List D) (qs : List Rope), WfB b' → NetOk m qs → Q (.new (.lst (qs.map pD))) [.ow q (.lst b'), .fz (.int m), .ow r (.lst ((line m.toNat).map pD)), .fz (.int way)]
end
end Tw




namespace Tw
open PySem PySem.Spec PyProof.Rows L2
section
variable {P : Program} {w : World} {K : PySem.W.Frag} {mg : Str → Option Value} {base : Heap} {A₀ : Ad}
theorem setD (l : List Rope) (k : Nat) (p : Rope) : (l.map pD).set k (pD p) = (l.set k p).map pD := by rw [List.map_set]
end
end Tw




namespace Tw
open PySem PySem.Spec PyProof.Rows L2
section
variable {P : Program} {w : World} {K : PySem.W.Frag} {mg : Str → Option Value} {base : Heap} {A₀ : Ad}
def svRope (A₀ : Ad) : VSp := fun as X Q => ∃ (r n : Int) (ps : List Rope), as = [.fz (netD A₀ n ps), .fz (.int r)] ∧ r.natAbs < 2 ^ 100 ∧ (0 ≤ r ∧ r < ps.length → Q (.val .non) as) ∧ (¬ (0 ≤ r ∧ r < ps.length) → X A₀.c_NoRope [("number", .int r)])
def svRopeOf (A₀ : Ad) : VSp := fun as X Q => ∃ r k : Int, as = [.fz (.int k), .fz (.int r)] ∧ r.natAbs < 2 ^ 100 ∧ (0 ≤ r ∧ r < k → Q (.val .non) as) ∧ (¬ (0 ≤ r ∧ r < k) → X A₀.c_NoRope [("number", .int r)])
theorem cv_check_rope_of (T : Txt P w K mg base A₀) : Cal P w K mg base (L2N.CX P w) "check_rope_of" 3 ["ropes", "rope"] (spV K (svRopeOf A₀)) := by
  have x_NoRope := T.x_NoRope
  refine calX_ofV T.d_check_rope_of sc_check_rope_of b_check_rope_of (fun as X Q h => ?_) (fun f cdv A outer s H E hr => ⟨_, _, (pss_one (ps_if (pt_not (pt_chain op_le op_lt pe_int (pv 1) (pv 0))) (pss_one (L2N.ps_raise rfl (L2N.takes_of rfl rfl rfl rfl) (pmk_err x_NoRope (hr.mono (by first | exact Nat.le_refl _ | decide)) (by rfl) (pa_cons (pv 1) pa_nil)))) pss_nil)), (vs_if (vt_not (vt_test (ve_chain (ve_c fun _ => .int _) (ve_var 1) (ve_var 0) (vr_I0 fun _ _ _ => .bl _) (vr_I0 fun _ _ _ => .bl _)))) (vs_raise (va_cons (ve_var 1) va_nil)) vs_next), fun as X Q h => ?_⟩)
  · obtain ⟨r, k, rfl, _⟩ := h
    rfl
  · obtain ⟨r, k, rfl, rb, qG, qB⟩ := h
    refine ite2 (fun z1 => ?_) (fun z1 => ?_)
    · refine ite2 (fun z2 => ?_) (fun z2 => ?_)
      · exact ⟨okI rb, qB fun h => by simp [h.2] at z2⟩
      · exact ⟨_, .fz (.fz .nil), qG ⟨of_decide_eq_true z1, by simpa using z2⟩⟩
    · exact ⟨okI rb, qB fun h => z1 (decide_eq_true h.1)⟩
theorem cv_check_rope (T : Txt P w K mg base A₀) : Cal P w K mg base (L2N.CX P w) "check_rope" 4 ["net", "rope"] (spV K (svRope A₀)) := by
  have c_check_rope_of := cv_check_rope_of T
  refine calX_ofV T.d_check_rope sc_check_rope b_check_rope (fun as X Q h => ?_) (fun f cdv A outer s H E hr => ⟨_, _, (pss_one (ps_expr (pe_calX c_check_rope_of (L2N.takes_of rfl rfl rfl rfl) (hr.mono (by first | exact Nat.le_refl _ | decide)) (by rfl) (pa_cons (pe_callB call_len_seq (by rfl) T.n_len PySem.boot_len (pa_cons (pe_fld (pv 0) rfl) pa_nil)) (pa_cons (pv 1) pa_nil))))), (vs_drop (VRs.ve (vrs_callS (vk_val (ve_len (VE.vb (ve_fld T.net_cl T.net_r (ve_var 0)))) (vk_val (ve_var 1) vk_nil))))), fun as X Q h => ?_⟩)
  · obtain ⟨r, n, ps, rfl, _⟩ := h
    rfl
  · obtain ⟨r, n, ps, rfl, rb, qG, qB⟩ := h
    refine ⟨rfl, _, rfl, r, _, rfl, rb, fun ok => ?_, fun no => ?_⟩
    · rw [List.length_map] at ok
      exact ⟨_, .fz (.fz .nil), qG ok⟩
    · rw [List.length_map] at no
      exact qB no
def svEnds (A₀ : Ad) : VSp := fun as X Q => ∃ (r n : Int) (ps : List Rope), as = [.fz (netD A₀ n ps), .fz (.int r)] ∧ r.natAbs < 2 ^ 62 ∧ (∀ p, 0 ≤ r → ps[r.toNat]? = some p → Q (.val (pD p)) as) ∧ (¬ (0 ≤ r ∧ r < ps.length) → X A₀.c_NoRope [("number", .int r)])
theorem ov_Net_ends (T : Txt P w K mg base A₀) {f : Addr} {fd : FuncData} (F : Fun K "ends" "Net.ends" s_Net_ends f fd) : FnOk P w K mg base (L2N.CX P w) 5 f fd ["self", "rope"] (spV K (svEnds A₀)) := by
  have c_check_rope := cv_check_rope T
  refine okX_ofV F sc_Net_ends (fun as X Q h => ?_) (fun cdv A outer s H E hr => ⟨_, _, (pss_cons (ps_expr (pe_calX c_check_rope (L2N.takes_of rfl rfl rfl rfl) (hr.mono (by first | exact Nat.le_refl _ | decide)) (by rfl) (pa_cons (pv 0) (pa_cons (pv 1) pa_nil))))
  (pss_one (ps_ret (pe_ix ix_seq (pe_fld (pv 0) rfl) (pv 1) (fun _ _ => rfl))))), (vs_seq (vs_drop (VRs.ve (vrs_callS (vk_val (ve_var 0) (vk_val (ve_var 1) vk_nil)))))
  (vs_ret (ve_ix (VE.vb (ve_fld T.net_cl T.net_r (ve_var 0))) (ve_var 1)))), fun as X Q h => ?_⟩)
  · obtain ⟨r, n, ps, rfl, _⟩ := h
    rfl
  · obtain ⟨r, n, ps, rfl, rb, qG, qB⟩ := h
    refine ⟨r, n, ps, rfl, by omega, fun ok => ?_, fun no => qB no⟩
    have hr : r.toNat < ps.length := by omega
    obtain ⟨k, rfl⟩ := Int.eq_ofNat_of_zero_le ok.1
    refine ⟨rfl, _, rfl, _, atI_nat (by rw [List.getElem?_map, List.getElem?_eq_getElem (by omega : k < ps.length)]; rfl), _, .fz (.fz .nil), qG _ ok.1 (List.getElem?_eq_getElem hr)⟩
def svOther (A₀ : Ad) : VSp := fun as X Q => ∃ (r s n : Int) (ps : List Rope), as = [.fz (netD A₀ n ps), .fz (.int r), .fz (.int s)] ∧ r.natAbs < 2 ^ 62 ∧ s.natAbs < 2 ^ 62 ∧ (¬ (0 ≤ r ∧ r < ps.length) → X A₀.c_NoRope [("number", .int r)]) ∧ (0 ≤ r ∧ r < ps.length → ¬ (0 ≤ s ∧ s < n) → X A₀.c_NoStation [("number", .int s)]) ∧
  ∀ p, 0 ≤ r → ps[r.toNat]? = some p → 0 ≤ s ∧ s < n → (s = p.1 → Q (.val (.int p.2)) as) ∧ (s ≠ p.1 → s = p.2 → Q (.val (.int p.1)) as) ∧ (s ≠ p.1 → s ≠ p.2 → X A₀.c_NotThere [("station", .int s), ("rope", .int r)])
theorem ov_Net_other_end (T : Txt P w K mg base A₀) {f : Addr} {fd : FuncData} (F : Fun K "other_end" "Net.other_end" s_Net_other_end f fd) : FnOk P w K mg base (L2N.CX P w) 5 f fd ["self", "rope", "station"] (spV K (svOther A₀)) := by
  have c_check_rope := cv_check_rope T; have c_check_station := cv_check_station T; have x_NotThere := T.x_NotThere
  refine okX_ofV F sc_Net_other_end (fun as X Q h => ?_) (fun cdv A outer s H E hr => ⟨_, _, (pss_cons (ps_expr (pe_calX c_check_rope (L2N.takes_of rfl rfl rfl rfl) (hr.mono (by first | exact Nat.le_refl _ | decide)) (by rfl) (pa_cons (pv 0) (pa_cons (pv 1) pa_nil))))
  (pss_cons (ps_expr (pe_calX c_check_station (L2N.takes_of rfl rfl rfl rfl) (hr.mono (by first | exact Nat.le_refl _ | decide)) (by rfl) (pa_cons (pv 0) (pa_cons (pv 2) pa_nil))))
  (pss_cons (ps_asg (pe_ix ix_seq (pe_fld (pv 0) rfl) (pv 1) (fun _ _ => rfl)) (pg_tup rfl (pgs_cons (pg_name (i := 3) sc_Net_other_end.nd rfl (Or.inl rfl)) (pgs_cons (pg_name (i := 4) sc_Net_other_end.nd rfl (Or.inl rfl)) pgs_nil))))
  (pss_cons (ps_if (pt_cmpR op_eq (pv 2) (pv 3) (nomark _)) (pss_one (ps_ret (pv 4))) pss_nil)
  (pss_cons (ps_if (pt_cmpR op_eq (pv 2) (pv 4) (nomark _)) (pss_one (ps_ret (pv 3))) pss_nil)
  (pss_one (L2N.ps_raise rfl (L2N.takes_of rfl rfl rfl rfl) (pmk_err x_NotThere (hr.mono (by first | exact Nat.le_refl _ | decide)) (by rfl) (pa_cons (pv 1) (pa_cons (pv 2) pa_nil)))))))))), (vs_seq (vs_drop (VRs.ve (vrs_callS (vk_val (ve_var 0) (vk_val (ve_var 1) vk_nil)))))
  (vs_seq (vs_drop (VRs.ve (vrs_callS (vk_val (ve_var 0) (vk_val (ve_var 2) vk_nil)))))
  (vs_seq (vs_asg (ve_ix (VE.vb (ve_fld T.net_cl T.net_r (ve_var 0))) (ve_var 1)) (vg_tup (vgs_cons (vg_name 3) (vgs_cons (vg_name 4) vgs_nil))))
  (vs_seq (vs_if (vt_test (ve_eq (ve_var 2) (ve_var 3))) (vs_ret (ve_var 4)) vs_next)
  (vs_seq (vs_if (vt_test (ve_eq (ve_var 2) (ve_var 4))) (vs_ret (ve_var 3)) vs_next)
  (vs_raise (va_cons (ve_var 1) (va_cons (ve_var 2) va_nil)))))))), fun as X Q h => ?_⟩)
  · obtain ⟨r, s, n, ps, rfl, _⟩ := h
    rfl
  · obtain ⟨r, s, n, ps, rfl, rb, sb, q1, q2, q3⟩ := h
    refine ⟨r, n, ps, rfl, by omega, fun ok => ?_, fun no => q1 no⟩
    refine ⟨s, n, ps, rfl, by omega, fun ok2 => ?_, fun no => q2 ok no⟩
    have hr : r.toNat < ps.length := by omega
    obtain ⟨k, rfl⟩ := Int.eq_ofNat_of_zero_le ok.1
    have hk : k < ps.length := by omega
    obtain ⟨a1, a2, a3⟩ := q3 ps[k] ok.1 (List.getElem?_eq_getElem hr) ok2
    refine ⟨rfl, _, rfl, _, atI_nat (by rw [List.getElem?_map, List.getElem?_eq_getElem hk]; rfl), ?_⟩
    refine ite2 (fun z => ?_) (fun z => ite2 (fun z2 => ?_) (fun z2 => ?_))
    · exact ⟨_, .fz (.fz (.fz .nil)), a1 (of_decide_eq_true z)⟩
    · exact ⟨_, .fz (.fz (.fz .nil)), a2 (fun e => z (decide_eq_true e)) (of_decide_eq_true z2)⟩
    · exact ⟨⟨(okI (by omega)).1, okI (by omega)⟩, a3 (fun e => z (decide_eq_true e)) fun e => z2 (decide_eq_true e)⟩
def svStations : VSp := fun as _ Q => ∃ (q : Addr) (b : List D) (m : Int), as = [.ow q (.lst b), .fz (.int m)] ∧ WfB b ∧ ∀ (b' : List D) (r : Int), WfB b' → r.natAbs < m.natAbs + 2 ^ 60 → Q (.val (.int r)) [.ow q (.lst b'), .fz (.int m)]
theorem cv__law_stations (T : Txt P w K mg base A₀) : Cal P w K mg base CX0 "_law_stations" 3 ["bag", "many"] (spV K svStations) := by
  have c__law_draw := cv__law_draw T
  refine cal_ofV T.d__law_stations sc__law_stations b__law_stations (fun as X Q h => ?_) (fun f cdv A outer s H E hr => ⟨_, _, (pss_cons (ps_set (i := 2) sc__law_stations.nd rfl (Or.inl rfl) (pe_cal c__law_draw (hr.mono (by first | exact Nat.le_refl _ | decide)) (by rfl) (pa_cons (pv 0) (pa_cons pe_int pa_nil))))
  (pss_cons (ps_if (pt_cmpR op_lt (pv 2) pe_int (nomark _)) (pss_one (ps_ret (pe_ix ix_seq (pe_lst (pa_cons pe_int (pa_cons pe_int (pa_cons pe_int pa_nil)))) (pv 2) (fun _ _ => rfl)))) pss_nil)
  (pss_cons (ps_if (pt_cmpR op_eq (pv 2) pe_int (nomark _)) (pss_one (ps_ret (pe_op op_sub (pe_un un_neg pe_int) (pe_cal c__law_draw (hr.mono (by first | exact Nat.le_refl _ | decide)) (by rfl) (pa_cons (pv 0) (pa_cons (pe_op op_pow pe_int pe_int) pa_nil)))))) pss_nil)
  (pss_cons (ps_if (pt_cmpR op_eq (pv 2) pe_int (nomark _)) (pss_one (ps_ret (pe_op op_sub (pe_op op_pow pe_int pe_int) (pe_cal c__law_draw (hr.mono (by first | exact Nat.le_refl _ | decide)) (by rfl) (pa_cons (pv 0) (pa_cons (pe_op op_pow pe_int pe_int) pa_nil)))))) pss_nil)
  (pss_cons (ps_if (pt_cmpR op_eq (pv 2) pe_int (nomark _)) (pss_one (ps_ret (pe_op op_sub (pe_callB (call_max2 rfl) (by rfl) T.n_max (by decide +kernel) (pa_cons (pv 1) (pa_cons pe_int pa_nil))) pe_int))) pss_nil)
  (pss_one (ps_ret (pe_op op_add (pe_op op_add (pv 1) pe_int) (pe_cal c__law_draw (hr.mono (by first | exact Nat.le_refl _ | decide)) (by rfl) (pa_cons (pv 0) (pa_cons pe_int pa_nil))))))))))), fun W => (vs_seq (vs_asg (VRs.ve (vrs_call (vk_ref 0 (vk_val (ve_c fun _ => .int _) vk_nil)))) (vg_name 2))
  (vs_seq (vs_if (vt_test (ve_op (ve_var 2) (ve_c fun _ => .int _) (vr_I0 fun _ _ _ => .bl _))) (vs_ret (ve_ix (VE.vb (VF.ve (vf_lst (va_cons (ve_c fun _ => .int _) (va_cons (ve_c fun _ => .int _) (va_cons (ve_c fun _ => .int _) va_nil)))))) (ve_var 2))) vs_next)
  (vs_seq (vs_if (vt_test (ve_eq (ve_var 2) (ve_c fun _ => .int _))) (vs_ret (ve_op (ve_unI (ve_c fun _ => .int _) fun _ _ => .int _) (VRs.ve (vrs_call (vk_ref 0 (vk_val (ve_op (ve_c fun _ => .int _) (ve_c fun _ => .int _) (vr_I fun _ _ _ => .int _)) vk_nil)))) (vr_I0 fun _ _ _ => .int _))) vs_next)
  (vs_seq (vs_if (vt_test (ve_eq (ve_var 2) (ve_c fun _ => .int _))) (vs_ret (ve_op (ve_op (ve_c fun _ => .int _) (ve_c fun _ => .int _) (vr_I fun _ _ _ => .int _)) (VRs.ve (vrs_call (vk_ref 0 (vk_val (ve_op (ve_c fun _ => .int _) (ve_c fun _ => .int _) (vr_I fun _ _ _ => .int _)) vk_nil)))) (vr_I0 fun _ _ _ => .int _))) vs_next)
  (vs_seq (vs_if (vt_test (ve_eq (ve_var 2) (ve_c fun _ => .int _))) (vs_ret (ve_op (ve_i2 (f := fun i j => if j > i then j else i) (ve_var 1) (ve_c fun _ => .int _)) (ve_c fun _ => .int _) (vr_I0 fun _ _ _ => .int _))) vs_next)
  (vs_ret (ve_op (ve_op (ve_var 1) (ve_c fun _ => .int _) (vr_I0 fun _ _ _ => .int _)) (VRs.ve (vrs_call (vk_ref 0 (vk_val (ve_c fun _ => .int _) vk_nil)))) (vr_I0 fun _ _ _ => .int _)))))))), fun as X Q h => ?_⟩)
  · obtain ⟨q, b, m, rfl, _⟩ := h
    rfl
  · obtain ⟨q, b, m, rfl, wf, qq⟩ := h
    have p6 : (10 : Int) ^ (6 : Int).toNat = 1000000 := by decide
    have p17 : (10 : Int) ^ (17 : Int).toNat = 100000000000000000 := by decide
    have c6 : CPow 10 6 := ⟨by decide, by decide, by decide⟩
    have c17 : CPow 10 17 := ⟨by decide, by decide, by decide⟩
    refine ⟨q, b, 7, rfl, wf, by decide, by decide, fun d b1 d0 d1 wf1 => ?_⟩
    refine ite2 (fun z => ?_) (fun z => ite2 (fun z1 => ?_) (fun z1 => ite2 (fun z2 => ?_) (fun z2 => ite2 (fun z3 => ?_) (fun z3 => ?_))))
    · have z := of_decide_eq_true z
      obtain ⟨x, ex, ax⟩ := atD (ns := [0, 24, 25]) d0 z
      have hx : x ∈ [0, 24, 25] := List.mem_of_getElem? ex
      refine ⟨_, ax, _, .ow 0 rfl (.fz .nil), qq b1 x wf1 ?_⟩
      simp only [List.mem_cons, List.not_mem_nil, or_false] at hx
      omega
    · refine ⟨c6, q, b1, _, rfl, wf1, by rw [p6]; decide, by rw [p6]; decide, fun e b2 e0 e1 wf2 => ⟨_, .ow 0 rfl (.fz .nil), qq b2 _ wf2 (by rw [p6] at e1; omega)⟩⟩
    · refine ⟨c17, c6, q, b1, _, rfl, wf1, by rw [p6]; decide, by rw [p6]; decide, fun e b2 e0 e1 wf2 => ⟨_, .ow 0 rfl (.fz .nil), qq b2 _ wf2 (by rw [p6] at e1; rw [p17]; omega)⟩⟩
    · exact ⟨_, .ow 0 rfl (.fz .nil), qq b1 _ wf1 (by show ((if (1 : Int) > m then 1 else m) - 1).natAbs < _; split <;> omega)⟩
    · exact ⟨q, b1, 3, rfl, wf1, by decide, by decide, fun e b2 e0 e1 wf2 => ⟨_, .ow 0 rfl (.fz .nil), qq b2 _ wf2 (by omega)⟩⟩
def svWrong : VSp := fun as _ Q => ∃ (q : Addr) (b : List D) (m way : Int), as = [.ow q (.lst b), .fz (.int m), .fz (.int way)] ∧ WfB b ∧ ∀ (b' : List D) (p : Rope), WfB b' → p.1.natAbs < m.natAbs + 2 ^ 60 → p.2.natAbs < m.natAbs + 2 ^ 60 → Q (.val (pD p)) [.ow q (.lst b'), .fz (.int m), .fz (.int way)]
theorem cv__law_wrong_rope (T : Txt P w K mg base A₀) : Cal P w K mg base CX0 "_law_wrong_rope" 4 ["bag", "many", "way"] (spV K svWrong) := by
  have c__law_draw := cv__law_draw T; have c__law_joined := cv__law_joined T
  refine cal_ofV T.d__law_wrong_rope sc__law_wrong_rope b__law_wrong_rope (fun as X Q h => ?_) (fun f cdv A outer s H E hr => ⟨_, _, (pss_cons (ps_set (i := 3) sc__law_wrong_rope.nd rfl (Or.inl rfl) (pe_cal c__law_draw (hr.mono (by first | exact Nat.le_refl _ | decide)) (by rfl) (pa_cons (pv 0) (pa_cons pe_int pa_nil))))
  (pss_cons (ps_set (i := 4) sc__law_wrong_rope.nd rfl (Or.inl rfl) (pe_ix ix_seq (pe_lst (pa_cons (pe_un un_neg pe_int) (pa_cons (pv 1) (pa_cons (pe_op op_add (pv 1) pe_int) (pa_cons pe_int (pa_cons pe_int pa_nil)))))) (pv 3) (fun _ _ => rfl)))
  (pss_cons (ps_if (pt_cmpR op_eq (pv 3) pe_int (nomark _)) (pss_one (ps_set (i := 4) sc__law_wrong_rope.nd rfl (Or.inl rfl) (pe_op op_sub (pe_un un_neg pe_int) (pe_cal c__law_draw (hr.mono (by first | exact Nat.le_refl _ | decide)) (by rfl) (pa_cons (pv 0) (pa_cons (pe_op op_pow pe_int pe_int) pa_nil)))))) pss_nil)
  (pss_cons (ps_if (pt_cmpR op_eq (pv 3) pe_int (nomark _)) (pss_one (ps_set (i := 4) sc__law_wrong_rope.nd rfl (Or.inl rfl) (pe_op op_sub (pe_op op_add (pe_op op_pow pe_int pe_int) (pe_op op_pow pe_int pe_int)) (pe_cal c__law_draw (hr.mono (by first | exact Nat.le_refl _ | decide)) (by rfl) (pa_cons (pv 0) (pa_cons (pe_op op_pow pe_int pe_int) pa_nil)))))) pss_nil)
  (pss_cons (ps_set (i := 5) sc__law_wrong_rope.nd rfl (Or.inl rfl) (pe_cal c__law_draw (hr.mono (by first | exact Nat.le_refl _ | decide)) (by rfl) (pa_cons (pv 0) (pa_cons pe_int pa_nil))))
  (pss_cons (ps_if (pt_cmpR op_eq (pv 2) pe_int (nomark _)) (pss_one (ps_ret (pe_tup (pa_cons (pv 5) (pa_cons (pv 5) pa_nil))))) pss_nil)
  (pss_one (ps_ret (pe_cal c__law_joined (hr.mono (by first | exact Nat.le_refl _ | decide)) (by rfl) (pa_cons (pv 0) (pa_cons (pv 5) (pa_cons (pv 4) pa_nil)))))))))))), fun W => (vs_seq (vs_asg (VRs.ve (vrs_call (vk_ref 0 (vk_val (ve_c fun _ => .int _) vk_nil)))) (vg_name 3))
  (vs_seq (vs_asg (ve_ix (VE.vb (VF.ve (vf_lst (va_cons (ve_unI (ve_c fun _ => .int _) fun _ _ => .int _) (va_cons (ve_var 1) (va_cons (ve_op (ve_var 1) (ve_c fun _ => .int _) (vr_I0 fun _ _ _ => .int _)) (va_cons (ve_c fun _ => .int _) (va_cons (ve_c fun _ => .int _) va_nil)))))))) (ve_var 3)) (vg_name 4))
  (vs_cut (vs_if (vt_test (ve_eq (ve_var 3) (ve_c fun _ => .int _))) (vs_asg (ve_op (ve_unI (ve_c fun _ => .int _) fun _ _ => .int _) (VRs.ve (vrs_call (vk_ref 0 (vk_val (ve_op (ve_c fun _ => .int _) (ve_c fun _ => .int _) (vr_I fun _ _ _ => .int _)) vk_nil)))) (vr_I0 fun _ _ _ => .int _)) (vg_name 4)) vs_next)
  (vs_cut (vs_if (vt_test (ve_eq (ve_var 3) (ve_c fun _ => .int _))) (vs_asg (ve_op (ve_op (ve_op (ve_c fun _ => .int _) (ve_c fun _ => .int _) (vr_I fun _ _ _ => .int _)) (ve_op (ve_c fun _ => .int _) (ve_c fun _ => .int _) (vr_I fun _ _ _ => .int _)) (vr_I0 fun _ _ _ => .int _)) (VRs.ve (vrs_call (vk_ref 0 (vk_val (ve_op (ve_c fun _ => .int _) (ve_c fun _ => .int _) (vr_I fun _ _ _ => .int _)) vk_nil)))) (vr_I0 fun _ _ _ => .int _)) (vg_name 4)) vs_next)
  (vs_seq (vs_asg (VRs.ve (vrs_call (vk_ref 0 (vk_val (ve_c fun _ => .int _) vk_nil)))) (vg_name 5))
  (vs_seq (vs_if (vt_test (ve_eq (ve_var 2) (ve_c fun _ => .int _))) (vs_ret (ve_tup (va_cons (ve_var 5) (va_cons (ve_var 5) va_nil)))) vs_next)
  (vs_ret (VRs.ve (vrs_call (vk_ref 0 (vk_val (ve_var 5) (vk_val (ve_var 4) vk_nil)))))))))))), fun as X Q h => ?_⟩)
  · obtain ⟨q, b, m, way, rfl, _⟩ := h
    rfl
  · obtain ⟨q, b, m, way, rfl, wf, qq⟩ := h
    have p6 : (10 : Int) ^ (6 : Int).toNat = 1000000 := by decide
    have p9 : (10 : Int) ^ (9 : Int).toNat = 1000000000 := by decide
    have p17 : (10 : Int) ^ (17 : Int).toNat = 100000000000000000 := by decide
    have c6 : CPow 10 6 := ⟨by decide, by decide, by decide⟩
    have c9 : CPow 10 9 := ⟨by decide, by decide, by decide⟩
    have c17 : CPow 10 17 := ⟨by decide, by decide, by decide⟩
    refine ⟨q, b, 5, rfl, wf, by decide, by decide, fun d b1 d0 d1 wf1 => ?_⟩
    obtain ⟨x, ex, ax⟩ := atD (ns := [-1, m, m + 1, 0, 0]) d0 d1
    have hx : x ∈ [-1, m, m + 1, 0, 0] := List.mem_of_getElem? ex
    simp only [List.mem_cons, List.not_mem_nil, or_false] at hx
    refine ⟨_, ax, ?_⟩
    refine ⟨fun η => ∃ (b' : List D) (x : Int), η = [.ow q (.lst b'), .fz (.int m), .fz (.int way), .fz (.int d), .fz (.int x), .no] ∧ WfB b' ∧ x.natAbs < m.natAbs + 2 ^ 60, ?_, ?_⟩
    · refine ite2 (fun z => ?_) (fun z => ?_)
      · exact ⟨c6, q, b1, _, rfl, wf1, by rw [p6]; decide, by rw [p6]; decide, fun e b2 e0 e1 wf2 => ⟨b2, _, rfl, wf2, by rw [p6] at e1; omega⟩⟩
      · exact ⟨b1, x, rfl, wf1, by omega⟩
    rintro η ⟨b2, x, rfl, wf2, hx⟩
    refine ⟨fun η => ∃ (b' : List D) (x : Int), η = [.ow q (.lst b'), .fz (.int m), .fz (.int way), .fz (.int d), .fz (.int x), .no] ∧ WfB b' ∧ x.natAbs < m.natAbs + 2 ^ 60, ?_, ?_⟩
    · refine ite2 (fun z => ?_) (fun z => ?_)
      · exact ⟨c17, c9, c6, q, b2, _, rfl, wf2, by rw [p6]; decide, by rw [p6]; decide, fun e b3 e0 e1 wf3 => ⟨b3, _, rfl, wf3, by rw [p6] at e1; rw [p9, p17]; omega⟩⟩
      · exact ⟨b2, x, rfl, wf2, hx⟩
    rintro η ⟨b3, x, rfl, wf3, hx⟩
    refine ⟨q, b3, 24, rfl, wf3, by decide, by decide, fun e b4 e0 e1 wf4 => ?_⟩
    refine ite2 (fun z => ?_) (fun z => ?_)
    · exact ⟨_, .ow 0 rfl (.fz (.fz .nil)), qq b4 (e, e) wf4 (by show e.natAbs < _; omega) (by show e.natAbs < _; omega)⟩
    · refine ⟨q, b4, e, x, rfl, wf4, fun b5 p wf5 hp => ⟨_, .ow 0 rfl (.fz (.fz .nil)), ?_⟩⟩
      rcases hp with rfl | rfl
      · exact qq b5 _ wf5 (by show e.natAbs < _; omega) hx
      · exact qq b5 _ wf5 hx (by show e.natAbs < _; omega)
end
end Tw

namespace Tw
open PySem PySem.Spec PyProof.Rows L2
theorem hasEnd_in (s : Int) (p : Rope) : decide (s ∈ [p.1, p.2]) = hasEnd s p := by
  unfold hasEnd
  by_cases h1 : s = p.1
  · simp [h1]
  · by_cases h2 : s = p.2
    · simp [h2]
    · simp [h1, h2]
section
variable {P : Program} {w : World} {K : PySem.W.Frag} {mg : Str → Option Value} {base : Heap} {A₀ : Ad}
/-- what other_end must tell -/
def farD (m : Int) (ps : List Rope) (r s : Int) : List D :=
  if r < 0 ∨ (ps.length : Int) ≤ r then [.tup [.str "NoRope", .int r]]
  else if s < 0 ∨ m ≤ s then [.tup [.str "NoStation", .int s]]
  else match ps[r.toNat]? with
    | some p => if hasEnd s p = true then [.int (p.1 + p.2 - s)] else [.tup [.str "NotThere", .int r, .int s]]
    | none => []
def svFarDue : VSp := fun as _ Q => ∃ (m r s : Int) (ps : List Rope), as = [.fz (.int m), .fz (.lst (ps.map pD)), .fz (.int r), .fz (.int s)] ∧ ps.length ≤ 1000 ∧ Q (.new (.lst (farD m ps r s))) as
theorem cv__law_far_due (T : Txt P w K mg base A₀) : Cal P w K mg base CX0 "_law_far_due" 1 ["many", "ropes", "rope", "station"] (spV K svFarDue) := by
  skip
  refine cal_ofV T.d__law_far_due sc__law_far_due b__law_far_due (fun as X Q h => ?_) (fun f cdv A outer s H E hr => ⟨_, _, (pss_cons (ps_if (PW.pt (pw_or (pt_cmpR op_lt (pv 2) pe_int (nomark _)) (pw_or1 (pt_cmpR op_ge (pv 2) (pe_callB call_len_seq (by rfl) T.n_len PySem.boot_len (pa_cons (pv 1) pa_nil)) (nomark _))))) (pss_one (ps_ret (pe_lst (pa_cons (pe_tup (pa_cons pe_str (pa_cons (pv 2) pa_nil))) pa_nil)))) pss_nil)
  (pss_cons (ps_if (PW.pt (pw_or (pt_cmpR op_lt (pv 3) pe_int (nomark _)) (pw_or1 (pt_cmpR op_ge (pv 3) (pv 0) (nomark _))))) (pss_one (ps_ret (pe_lst (pa_cons (pe_tup (pa_cons pe_str (pa_cons (pv 3) pa_nil))) pa_nil)))) pss_nil)
  (pss_cons (ps_if (pt_cmpR op_notIn_seq (pv 3) (pe_ix ix_seq (pv 1) (pv 2) (fun _ _ => rfl)) (by rfl)) (pss_one (ps_ret (pe_lst (pa_cons (pe_tup (pa_cons pe_str (pa_cons (pv 2) (pa_cons (pv 3) pa_nil)))) pa_nil)))) pss_nil)
  (pss_one (ps_ret (pe_lst (pa_cons (pe_op op_sub (pe_op op_add (pe_ix ix_seq (pe_ix ix_seq (pv 1) (pv 2) (fun _ _ => rfl)) pe_int (fun _ _ => rfl)) (pe_ix ix_seq (pe_ix ix_seq (pv 1) (pv 2) (fun _ _ => rfl)) pe_int (fun _ _ => rfl))) (pv 3)) pa_nil))))))), fun W => (vs_seq (vs_if (vt_or (vt_test (ve_op (ve_var 2) (ve_c fun _ => .int _) (vr_I0 fun _ _ _ => .bl _))) (vt_test (ve_op (ve_var 2) (ve_len (vb_var 1)) (vr_I0 fun _ _ _ => .bl _)))) (vs_retF (vf_lst (va_cons (ve_tup (va_cons (ve_c fun _ => .str _) (va_cons (ve_var 2) va_nil))) va_nil))) vs_next)
  (vs_seq (vs_if (vt_or (vt_test (ve_op (ve_var 3) (ve_c fun _ => .int _) (vr_I0 fun _ _ _ => .bl _))) (vt_test (ve_op (ve_var 3) (ve_var 0) (vr_I0 fun _ _ _ => .bl _)))) (vs_retF (vf_lst (va_cons (ve_tup (va_cons (ve_c fun _ => .str _) (va_cons (ve_var 3) va_nil))) va_nil))) vs_next)
  (vs_seq (vs_if (vt_test (ve_nin (ve_var 3) (VE.vb (ve_ix (vb_var 1) (ve_var 2))))) (vs_retF (vf_lst (va_cons (ve_tup (va_cons (ve_c fun _ => .str _) (va_cons (ve_var 2) (va_cons (ve_var 3) va_nil)))) va_nil))) vs_next)
  (vs_retF (vf_lst (va_cons (ve_op (ve_op (ve_ix (VE.vb (ve_ix (vb_var 1) (ve_var 2))) (ve_c fun _ => .int _)) (ve_ix (VE.vb (ve_ix (vb_var 1) (ve_var 2))) (ve_c fun _ => .int _)) (vr_I0 fun _ _ _ => .int _)) (ve_var 3) (vr_I0 fun _ _ _ => .int _)) va_nil)))))), fun as X Q h => ?_⟩)
  · obtain ⟨m, r, s, ps, rfl, _⟩ := h
    rfl
  · obtain ⟨m, r, s, ps, rfl, hl, q⟩ := h
    have lm : (((ps.map pD).length : Nat) : Int) = ps.length := by rw [List.length_map]
    unfold farD at q
    refine ite2 (fun z => ?_) (fun z => ite2 (fun z1 => ?_) (fun z1 => ?_))
    · rw [if_pos (.inl (of_decide_eq_true z))] at q
      exact iteT ⟨_, .fz (.fz (.fz (.fz .nil))), q⟩
    · rw [if_pos (.inr (by have := of_decide_eq_true z1; rw [lm] at this; exact this))] at q
      exact ⟨_, .fz (.fz (.fz (.fz .nil))), q⟩
    · have r0 : ¬ r < 0 := fun h => z (decide_eq_true h)
      have r1 : ¬ (ps.length : Int) ≤ r := fun h => z1 (decide_eq_true (by rw [lm]; exact h))
      rw [if_neg (fun h => h.elim r0 r1)] at q
      refine ite2 (fun z2 => ?_) (fun z2 => ite2 (fun z3 => ?_) (fun z3 => ?_))
      · rw [if_pos (.inl (of_decide_eq_true z2))] at q
        exact iteT ⟨_, .fz (.fz (.fz (.fz .nil))), q⟩
      · rw [if_pos (.inr (of_decide_eq_true z3))] at q
        exact ⟨_, .fz (.fz (.fz (.fz .nil))), q⟩
      · rw [if_neg (fun h => h.elim (fun h => z2 (decide_eq_true h)) fun h => z3 (decide_eq_true h))] at q
        obtain ⟨k, rfl⟩ := Int.eq_ofNat_of_zero_le (by omega : 0 ≤ r)
        have hk : k < ps.length := by omega
        have at1 : atI (ps.map pD) (k : Int) = some (pD ps[k]) := atI_nat (by rw [List.getElem?_map, List.getElem?_eq_getElem hk]; rfl)
        rw [Int.toNat_natCast, List.getElem?_eq_getElem hk] at q
        refine ⟨_, at1, [ps[k].1, ps[k].2], rfl, ?_⟩
        rw [hasEnd_in]
        cases he : hasEnd s ps[k] with
        | false =>
          have q : Q (.new (.lst (if hasEnd s ps[k] = true then [D.int (ps[k].1 + ps[k].2 - s)] else [.tup [.str "NotThere", .int (k : Int), .int s]]))) [.fz (.int m), .fz (.lst (ps.map pD)), .fz (.int (k : Int)), .fz (.int s)] := q
          rw [he, if_neg Bool.false_ne_true] at q
          exact iteT ⟨_, .fz (.fz (.fz (.fz .nil))), q⟩
        | true =>
          have q : Q (.new (.lst (if hasEnd s ps[k] = true then [D.int (ps[k].1 + ps[k].2 - s)] else [.tup [.str "NotThere", .int (k : Int), .int s]]))) [.fz (.int m), .fz (.lst (ps.map pD)), .fz (.int (k : Int)), .fz (.int s)] := q
          rw [he, if_pos rfl] at q
          exact iteF ⟨_, at1, _, rfl, _, at1, _, rfl, _, .fz (.fz (.fz (.fz .nil))), q⟩
def nearD (m : Int) (ps : List Rope) (s : Int) : List D :=
  if s < 0 ∨ m ≤ s then [.tup [.str "NoStation", .int s]] else [.lst ((ropesAt ps s 0).map D.int)]
def svNearDue : VSp := fun as _ Q => ∃ (m s : Int) (ps : List Rope), as = [.fz (.int m), .fz (.lst (ps.map pD)), .fz (.int s)] ∧ ps.length ≤ 1000 ∧ Q (.new (.lst (nearD m ps s))) as
theorem cv__law_near_due (T : Txt P w K mg base A₀) : Cal P w K mg base CX0 "_law_near_due" 1 ["many", "ropes", "station"] (spV K svNearDue) := by
  skip
  refine cal_ofV T.d__law_near_due sc__law_near_due b__law_near_due (fun as X Q h => ?_) (fun f cdv A outer s H E hr => ⟨_, _, (pss_cons (ps_if (PW.pt (pw_or (pt_cmpR op_lt (pv 2) pe_int (nomark _)) (pw_or1 (pt_cmpR op_ge (pv 2) (pv 0) (nomark _))))) (pss_one (ps_ret (pe_lst (pa_cons (pe_tup (pa_cons pe_str (pa_cons (pv 2) pa_nil))) pa_nil)))) pss_nil)
  (pss_one (ps_ret (pe_lst (pa_cons (pe_lc (own := [("k", 3)]) (g := gName 3) rfl sc__law_near_due.nd (pi_range1 (by rfl) T.n_range (pa_cons (pe_callB call_len_seq (by rfl) T.n_len PySem.boot_len (pa_cons (pv 1) pa_nil)) pa_nil)) (blkOk_by (own := [("k", 3)]) (N := ["many", "ropes", "station", "k"]) (sc := defScope s__law_near_due) (by decide +kernel)) (fun _ _ _ _ _ => (pg_name (i := 3) sc__law_near_due.nd rfl (Or.inl rfl))) (fun _ _ _ _ _ => (pts_one (pt_cmpR (show OpR _ (compareOp .In) (rIn K false) from op_in_seq) (pv 2) (pe_ix ix_seq (pv 1) (pv 3) (fun _ _ => rfl)) (by rfl)))) (fun _ _ _ _ _ => (pv 3))) pa_nil))))), fun W => (vs_seq (vs_if (vt_or (vt_test (ve_op (ve_var 2) (ve_c fun _ => .int _) (vr_I0 fun _ _ _ => .bl _))) (vt_test (ve_op (ve_var 2) (ve_var 0) (vr_I0 fun _ _ _ => .bl _)))) (vs_retF (vf_lst (va_cons (ve_tup (va_cons (ve_c fun _ => .str _) (va_cons (ve_var 2) va_nil))) va_nil))) vs_next)
  (vs_retF (vf_lst (va_cons (VF.ve (vf_lc (vi_range1 (va_cons (ve_len (vb_var 1)) va_nil)) (vg_name 3) (vt_test (ve_in (ve_var 2) (VE.vb (ve_ix (vb_var 1) (ve_var 3))))) (ve_var 3) rfl)) va_nil)))), fun as X Q h => ?_⟩)
  · obtain ⟨m, s, ps, rfl, _⟩ := h
    rfl
  · obtain ⟨m, s, ps, rfl, hl, q⟩ := h
    unfold nearD at q
    refine ite2 (fun z => ?_) (fun z => ite2 (fun z1 => ?_) (fun z1 => ?_))
    · rw [if_pos (.inl (of_decide_eq_true z))] at q
      exact iteT ⟨_, .fz (.fz (.fz .nil)), q⟩
    · rw [if_pos (.inr (of_decide_eq_true z1))] at q
      exact ⟨_, .fz (.fz (.fz .nil)), q⟩
    · rw [if_neg (fun h => h.elim (fun h => z (decide_eq_true h)) fun h => z1 (decide_eq_true h))] at q
      refine ⟨⟨by rw [List.length_map]; omega, by rw [List.length_map]; omega⟩, fun i acc η => acc = (ropesAt (ps.take i) s 0).map D.int ∧ ∃ y, η = [.fz (.int m), .fz (.lst (ps.map pD)), .fz (.int s), y], ⟨by rw [List.take_zero]; rfl, _, rfl⟩, ?_, ?_⟩
      · rintro i d acc η e ⟨rfl, y, rfl⟩
        obtain ⟨hi, rfl⟩ := rngD_inv e
        rw [Int.zero_add]
        have hi : i < ps.length := by rw [List.length_map] at hi; omega
        have ep := List.getElem?_eq_getElem hi
        have at1 : atI (ps.map pD) (i : Int) = some (pD ps[i]) := atI_nat (by rw [List.getElem?_map, ep]; rfl)
        refine ⟨_, at1, [ps[i].1, ps[i].2], rfl, ?_⟩
        rw [hasEnd_in]
        have more : ropesAt (ps.take (i + 1)) s 0 = ropesAt (ps.take i) s 0 ++ (if hasEnd s ps[i] = true then [(i : Int)] else []) := by
          rw [List.take_add_one, ep]
          show ropesAt (ps.take i ++ [ps[i]]) s 0 = _
          rw [ropesAt_snoc, List.length_take, Nat.zero_add, Nat.min_eq_left (by omega)]
        by_cases he : hasEnd s ps[i] = true
        · rw [he]
          rw [if_pos he] at more
          refine ⟨?_, ?_, _, rfl⟩
          · have := ropesAt_len s (ps.take i) 0
            rw [List.length_take] at this
            rw [List.length_map]
            omega
          · rw [more, List.map_append]
            rfl
        · rw [Bool.not_eq_true _ |>.mp he]
          rw [if_neg he, List.append_nil] at more
          exact ⟨by rw [more], _, rfl⟩
      · rintro acc η ⟨rfl, y, rfl⟩
        rw [rngD_len, List.length_map]
        rw [show ((ps.length : Nat) : Int).toNat = ps.length from Int.toNat_natCast _, List.take_of_length_le (Nat.le_refl _)]
        exact ⟨_, .fz (.fz (.fz .nil)), q⟩
end
end Tw

namespace Tw
open PySem PySem.Spec PyProof.Rows L2
def pL (ps : List Rope) : D := .lst (ps.map pD)
section
variable {P : Program} {w : World} {K : PySem.W.Frag} {mg : Str → Option Value} {base : Heap} {A₀ : Ad}
def svOthers : VSp := fun as _ Q => ∃ (q : Addr) (b : List D) (m : Int) (ps : List Rope), as = [.ow q (.lst b), .fz (.lst (ps.map pD))] ∧ WfB b ∧ NetOk m ps ∧ ∀ (b' : List D) (fs : List (List Rope)), WfB b' → (∀ f ∈ fs, NetOk m f) → fs.length ≤ 3 → Q (.new (.lst (fs.map pL))) [.ow q (.lst b'), .fz (.lst (ps.map pD))]
theorem cv__law_others (T : Txt P w K mg base A₀) : Cal P w K mg base CX0 "_law_others" 3 ["bag", "ropes"] (spV K svOthers) := by
  have c__law_draw := cv__law_draw T
  refine cal_ofV T.d__law_others sc__law_others b__law_others (fun as X Q h => ?_) (fun f cdv A outer s H E hr => ⟨_, _, (pss_cons (ps_set (i := 2) sc__law_others.nd rfl (Or.inl rfl) (pe_lst pa_nil))
  (pss_cons (ps_if (pt_truth (pv 1) (by intro _; rfl)) (pss_cons (ps_set (i := 3) sc__law_others.nd rfl (Or.inl rfl) (pe_cal c__law_draw (hr.mono (by first | exact Nat.le_refl _ | decide)) (by rfl) (pa_cons (pv 0) (pa_cons (pe_callB call_len_seq (by rfl) T.n_len PySem.boot_len (pa_cons (pv 1) pa_nil)) pa_nil))))
  (pss_cons (ps_set (i := 4) sc__law_others.nd rfl (Or.inl rfl) (pe_cal c__law_draw (hr.mono (by first | exact Nat.le_refl _ | decide)) (by rfl) (pa_cons (pv 0) (pa_cons (pe_callB call_len_seq (by rfl) T.n_len PySem.boot_len (pa_cons (pv 1) pa_nil)) pa_nil))))
  (pss_cons (ps_set (i := 5) sc__law_others.nd rfl (Or.inl rfl) (pe_callTy call_list_of (by rfl) T.n_list (by decide +kernel) (pa_cons (pv 1) pa_nil)))
  (pss_cons (ps_asg (pe_tup (pa_cons (pe_ix ix_seq (pe_ix ix_seq (pv 1) (pv 3) (fun _ _ => rfl)) pe_int (fun _ _ => rfl)) (pa_cons (pe_ix ix_seq (pe_ix ix_seq (pv 1) (pv 3) (fun _ _ => rfl)) pe_int (fun _ _ => rfl)) pa_nil))) (pg_sub (pv 5) (pv 3) set_list))
  (pss_cons (ps_expr (pe_bm PySem.F.plainAttrs_list PySem.F.slot_list_append PySem.F.type_list_append mt_append (pv 2) (pa_cons (pv 5) pa_nil)))
  (pss_cons (ps_set (i := 5) sc__law_others.nd rfl (Or.inl rfl) (pe_callTy call_list_of (by rfl) T.n_list (by decide +kernel) (pa_cons (pv 1) pa_nil)))
  (pss_cons (ps_asg (pe_ix ix_seq (pv 1) (pv 4) (fun _ _ => rfl)) (pg_sub (pv 5) (pv 3) set_list))
  (pss_cons (ps_asg (pe_ix ix_seq (pv 1) (pv 3) (fun _ _ => rfl)) (pg_sub (pv 5) (pv 4) set_list))
  (pss_cons (ps_expr (pe_bm PySem.F.plainAttrs_list PySem.F.slot_list_append PySem.F.type_list_append mt_append (pv 2) (pa_cons (pv 5) pa_nil)))
  (pss_one (ps_if (pt_cmpR op_lt (pe_callB call_len_seq (by rfl) T.n_len PySem.boot_len (pa_cons (pv 1) pa_nil)) pe_int (nomark _)) (pss_one (ps_expr (pe_bm PySem.F.plainAttrs_list PySem.F.slot_list_append PySem.F.type_list_append mt_append (pv 2) (pa_cons (pe_op op_cat (pv 1) (pe_lst (pa_cons (pe_ix ix_seq (pv 1) (pv 3) (fun _ _ => rfl)) pa_nil))) pa_nil)))) pss_nil))))))))))) pss_nil)
  (pss_one (ps_ret (pv 2))))), fun W => (vs_seq (vs_setO 2 (vf_lst va_nil))
  (vs_cut (vs_if (vt_truth (vb_var 1)) (vs_seq (vs_asg (VRs.ve (vrs_call (vk_ref 0 (vk_val (ve_len (vb_var 1)) vk_nil)))) (vg_name 3))
  (vs_cut (vs_asg (VRs.ve (vrs_call (vk_ref 0 (vk_val (ve_len (vb_var 1)) vk_nil)))) (vg_name 4))
  (vs_seq (vs_setO 5 (vf_list (vb_var 1)))
  (vs_seq (vs_setIx 5 (ve_tup (va_cons (ve_ix (VE.vb (ve_ix (vb_var 1) (ve_var 3))) (ve_c fun _ => .int _)) (va_cons (ve_ix (VE.vb (ve_ix (vb_var 1) (ve_var 3))) (ve_c fun _ => .int _)) va_nil))) (ve_var 3))
  (vs_cut (VS.frz 5 (vs_drop (ve_lm 2 vm_append (va_cons (ve_var 5) va_nil))))
  (vs_seq (vs_setO 5 (vf_list (vb_var 1)))
  (vs_seq (vs_setIx 5 (ve_ix (vb_var 1) (ve_var 4)) (ve_var 3))
  (vs_seq (vs_setIx 5 (ve_ix (vb_var 1) (ve_var 3)) (ve_var 4))
  (vs_cut (VS.frz 5 (vs_drop (ve_lm 2 vm_append (va_cons (ve_var 5) va_nil))))
  (vs_if (vt_test (ve_op (ve_len (vb_var 1)) (ve_c fun _ => .int _) (vr_I0 fun _ _ _ => .bl _))) (vs_drop (ve_lm 2 vm_append (va_cons (VF.ve (vf_cat (vb_var 1) (VE.vb (VF.ve (vf_lst (va_cons (ve_ix (vb_var 1) (ve_var 3)) va_nil)))))) va_nil))) vs_next)))))))))) vs_next)
  (vs_retO 2))), fun as X Q h => ?_⟩)
  · obtain ⟨q, b, m, ps, rfl, _⟩ := h
    rfl
  · obtain ⟨q, b, m, ps, rfl, wf, ok, qq⟩ := h
    intro q2
    have R := ok
    obtain ⟨okS, l40, okp, lk⟩ := ok
    have turn : ∀ (i : Nat) (hi : i < ps.length), NetOk m (ps.set i (ps[i].2, ps[i].1)) := fun i hi => by
      have ep := List.getElem?_eq_getElem hi
      refine ⟨okS, by rw [List.length_set]; exact l40, fun g hg => ?_, fun s hs => (lk s hs).cover fun g hg => ?_⟩
      · rcases List.mem_or_eq_of_mem_set hg with h | rfl
        · exact okp g h
        · have okf := okp _ (List.getElem_mem hi)
          unfold okRope at okf ⊢
          simp only [Bool.and_eq_true, Bool.not_eq_true', decide_eq_false_iff_not, decide_eq_true_eq] at okf ⊢
          exact ⟨⟨fun z => okf.1.1 z.symm, okf.2⟩, okf.1.2⟩
      · rcases mem_set1 (y := (ps[i].2, ps[i].1)) ep hg with h | rfl
        · exact .inl h
        · exact .inr (List.mem_of_getElem? (i := i) (by rw [List.getElem?_set, if_pos rfl, if_pos hi]))
    have swap : ∀ (i j : Nat) (hi : i < ps.length) (hj : j < ps.length), NetOk m ((ps.set i ps[j]).set j ps[i]) := fun i j hi hj => by
      refine ⟨okS, by rw [List.length_set, List.length_set]; exact l40, fun g hg => ?_, fun s hs => (lk s hs).cover fun g hg => .inl (mem_set2 (List.getElem?_eq_getElem hi) (List.getElem?_eq_getElem hj) hg)⟩
      rcases List.mem_or_eq_of_mem_set hg with h | rfl
      · rcases List.mem_or_eq_of_mem_set h with h | rfl
        · exact okp g h
        · exact okp _ (List.getElem_mem hj)
      · exact okp _ (List.getElem_mem hi)
    have more : ∀ (i : Nat) (hi : i < ps.length), ps.length < 40 → NetOk m (ps ++ [ps[i]]) := fun i hi h => by
      refine ⟨okS, by rw [List.length_append]; show ps.length + 1 ≤ 40; omega, fun g hg => ?_, fun s hs => (lk s hs).mono fun g hg => List.mem_append_left _ hg⟩
      rcases List.mem_append.mp hg with h | h
      · exact okp g h
      · rw [List.mem_singleton.mp h]
        exact okp _ (List.getElem_mem hi)
    refine ⟨fun η => ∃ (b' : List D) (fs : List (List Rope)) (y3 y4 y5 : Sl), η = [.ow q (.lst b'), .fz (.lst (ps.map pD)), .ow q2 (.lst (fs.map pL)), y3, y4, y5] ∧ WfB b' ∧ (∀ f ∈ fs, NetOk m f) ∧ fs.length ≤ 3, ?_, ?_⟩
    · refine ite2 (fun z => ?_) (fun z => ⟨b, [], _, _, _, rfl, wf, fun f h => (by cases h), by decide⟩)
      have hl : 0 < ps.length := by
        cases ps with
        | nil => cases z
        | cons p pt => exact Nat.succ_pos _
      refine ⟨q, b, _, rfl, wf, by rw [List.length_map]; omega, by rw [List.length_map]; omega, fun d1 b1 d1a d1b wf1 => ?_⟩
      rw [List.length_map] at d1b
      refine ⟨fun η => ∃ (b' : List D) (d2 : Int), η = [.ow q (.lst b'), .fz (.lst (ps.map pD)), .ow q2 (.lst []), .fz (.int d1), .fz (.int d2), .no] ∧ WfB b' ∧ 0 ≤ d2 ∧ d2 < ps.length, ?_, ?_⟩
      · refine ⟨q, b1, _, rfl, wf1, by rw [List.length_map]; omega, by rw [List.length_map]; omega, fun d2 b2 d2a d2b wf2 => ⟨b2, d2, rfl, wf2, d2a, by rw [List.length_map] at d2b; exact d2b⟩⟩
      rintro η ⟨b2, d2, rfl, wf2, d2a, d2b⟩
      obtain ⟨i, rfl⟩ := Int.eq_ofNat_of_zero_le d1a
      obtain ⟨j, rfl⟩ := Int.eq_ofNat_of_zero_le d2a
      have hi : i < ps.length := by omega
      have hj : j < ps.length := by omega
      have ai : atI (ps.map pD) (i : Int) = some (pD ps[i]) := atI_nat (by rw [List.getElem?_map, List.getElem?_eq_getElem hi]; rfl)
      have aj : atI (ps.map pD) (j : Int) = some (pD ps[j]) := atI_nat (by rw [List.getElem?_map, List.getElem?_eq_getElem hj]; rfl)
      intro q5
      refine ⟨_, ai, _, rfl, _, ai, _, rfl, i, ixN_lt rfl (by rw [List.length_map]; exact hi), ?_⟩
      refine ⟨fun η => η = [.ow q (.lst b2), .fz (.lst (ps.map pD)), .ow q2 (.lst [pL (ps.set i (ps[i].2, ps[i].1))]), .fz (.int i), .fz (.int j), .fz (pL (ps.set i (ps[i].2, ps[i].1)))], ?_, ?_⟩
      · refine ⟨by show 0 < 1000000; decide, ?_⟩
        unfold pL
        rw [← setD]
        rfl
      rintro η rfl
      intro q6
      refine ⟨_, aj, i, ixN_lt rfl (by rw [List.length_map]; exact hi), _, ai, j, ixN_lt rfl (by rw [List.length_set, List.length_map]; exact hj), ?_⟩
      refine ⟨fun η => η = [.ow q (.lst b2), .fz (.lst (ps.map pD)), .ow q2 (.lst [pL (ps.set i (ps[i].2, ps[i].1)), pL ((ps.set i ps[j]).set j ps[i])]), .fz (.int i), .fz (.int j), .fz (pL ((ps.set i ps[j]).set j ps[i]))], ?_, ?_⟩
      · refine ⟨by show 1 < 1000000; decide, ?_⟩
        unfold pL
        rw [← setD (ps.set i ps[j]), ← setD ps i ps[j]]
        rfl
      rintro η rfl
      refine ite2 (fun z4 => ?_) (fun z4 => ?_)
      · have z4 := of_decide_eq_true z4
        rw [List.length_map] at z4
        refine ⟨_, ai, by rw [List.length_map]; show ps.length + 1 ≤ 1000000; omega, by show 2 < 1000000; decide, b2, [ps.set i (ps[i].2, ps[i].1), (ps.set i ps[j]).set j ps[i], ps ++ [ps[i]]], .fz (.int i), .fz (.int j), .fz (pL ((ps.set i ps[j]).set j ps[i])), ?_, wf2, fun f hf => ?_, by show 3 ≤ 3; decide⟩
        · show [_, _, Sl.ow q2 (.lst [_, _, D.lst (ps.map pD ++ [pD ps[i]])]), _, _, _] = [_, _, Sl.ow q2 (.lst [_, _, D.lst ((ps ++ [ps[i]]).map pD)]), _, _, _]
          rw [List.map_append]
          rfl
        · rcases List.mem_cons.mp hf with rfl | hf
          · exact turn i hi
          rcases List.mem_cons.mp hf with rfl | hf
          · exact swap i j hi hj
          rw [List.mem_singleton.mp hf]
          exact more i hi (by omega)
      · refine ⟨b2, [ps.set i (ps[i].2, ps[i].1), (ps.set i ps[j]).set j ps[i]], _, _, _, rfl, wf2, fun f hf => ?_, by show 2 ≤ 3; decide⟩
        rcases List.mem_cons.mp hf with rfl | hf
        · exact turn i hi
        rw [List.mem_singleton.mp hf]
        exact swap i j hi hj
    · rintro η ⟨b', fs, y3, y4, y5, rfl, wf', okf, l3⟩
      exact ⟨_, .ow 0 rfl (.fz .nil), qq b' fs wf' okf l3⟩
end
end Tw

namespace Tw
open PySem PySem.Spec PyProof.Rows L2
section
variable {P : Program} {w : World} {K : PySem.W.Frag} {mg : Str → Option Value} {base : Heap} {A₀ : Ad}
def shapeD (m : Int) (ps : List Rope) : D := .lst [.int m, .lst (ps.map pD)]
theorem map_eraseIdx' (l : List Rope) (k : Nat) : (l.map pD).eraseIdx k = (l.eraseIdx k).map pD := by
  induction l generalizing k with
  | nil => rfl
  | cons x l ih => cases k with
    | zero => rfl
    | succ k => exact congrArg (pD x :: ·) (ih k)
def svBent : VSp := fun as _ Q => ∃ (q : Addr) (b : List D) (m : Int) (ps : List Rope), as = [.ow q (.lst b), .fz (shapeD m ps)] ∧ WfB b ∧ ps.length ≤ 40 ∧ ∀ (b' : List D) (m' : Int) (qs : List Rope), WfB b' → qs.length ≤ 100 → Q (.new (.lst [.int m', .lst (qs.map pD)])) [.ow q (.lst b'), .fz (shapeD m ps)]
theorem cv__law_bent (T : Txt P w K mg base A₀) : Cal P w K mg base CX0 "_law_bent" 5 ["bag", "net"] (spV K svBent) := by
  have c__law_draw := cv__law_draw T; have c__law_stations := cv__law_stations T; have c__law_wrong_rope := cv__law_wrong_rope T
  refine cal_ofV T.d__law_bent sc__law_bent b__law_bent (fun as X Q h => ?_) (fun f cdv A outer s H E hr => ⟨_, _, (pss_cons (ps_set (i := 2) sc__law_bent.nd rfl (Or.inl rfl) (pe_ix ix_seq (pv 1) pe_int (fun _ _ => rfl)))
  (pss_cons (ps_set (i := 3) sc__law_bent.nd rfl (Or.inl rfl) (pe_callTy call_list_of (by rfl) T.n_list (by decide +kernel) (pa_cons (pe_ix ix_seq (pv 1) pe_int (fun _ _ => rfl)) pa_nil)))
  (pss_cons (ps_for PassesOwn.never rfl (pi_range1 (by rfl) T.n_range (pa_cons (pe_cal c__law_draw (hr.mono (by first | exact Nat.le_refl _ | decide)) (by rfl) (pa_cons (pv 0) (pa_cons pe_int pa_nil))) pa_nil)) (pg_name (i := 4) sc__law_bent.nd rfl (Or.inl rfl)) (pss_cons (ps_set (i := 5) sc__law_bent.nd rfl (Or.inl rfl) (pe_cal c__law_draw (hr.mono (by first | exact Nat.le_refl _ | decide)) (by rfl) (pa_cons (pv 0) (pa_cons pe_int pa_nil))))
  (pss_one (ps_if (pt_cmpR op_eq (pv 5) pe_int (nomark _)) (pss_one (ps_set (i := 2) sc__law_bent.nd rfl (Or.inl rfl) (pe_cal c__law_stations (hr.mono (by first | exact Nat.le_refl _ | decide)) (by rfl) (pa_cons (pv 0) (pa_cons (pv 2) pa_nil))))) (pss_one (ps_if (pt_cmpR op_eq (pv 5) pe_int (nomark _)) (pss_one (ps_if (pt_truth (pv 3) (by intro _; rfl)) (pss_one (ps_expr (pe_bm PySem.F.plainAttrs_list PySem.F.slot_list_pop PySem.F.type_list_pop mt_popAt (pv 3) (pa_cons (pe_cal c__law_draw (hr.mono (by first | exact Nat.le_refl _ | decide)) (by rfl) (pa_cons (pv 0) (pa_cons (pe_callB call_len_seq (by rfl) T.n_len PySem.boot_len (pa_cons (pv 3) pa_nil)) pa_nil))) pa_nil)))) pss_nil)) (pss_one (ps_if (pt_cmpR op_lt (pv 5) pe_int (nomark _)) (pss_cons (ps_set (i := 6) sc__law_bent.nd rfl (Or.inl rfl) (pe_cal c__law_wrong_rope (hr.mono (by first | exact Nat.le_refl _ | decide)) (by rfl) (pa_cons (pv 0) (pa_cons (pv 2) (pa_cons (pv 5) pa_nil)))))
  (pss_one (ps_expr (pe_bm PySem.F.plainAttrs_list PySem.F.slot_list_insert PySem.F.type_list_insert mt_insert (pv 3) (pa_cons (pe_cal c__law_draw (hr.mono (by first | exact Nat.le_refl _ | decide)) (by rfl) (pa_cons (pv 0) (pa_cons (pe_op op_add (pe_callB call_len_seq (by rfl) T.n_len PySem.boot_len (pa_cons (pv 3) pa_nil)) pe_int) pa_nil))) (pa_cons (pv 6) pa_nil)))))) (pss_cons (ps_set (i := 7) sc__law_bent.nd rfl (Or.inl rfl) (pe_tup (pa_cons pe_int (pa_cons pe_int pa_nil))))
  (pss_cons (ps_if (pt_truth (pv 3) (by intro _; rfl)) (pss_one (ps_set (i := 7) sc__law_bent.nd rfl (Or.inl rfl) (pe_ix ix_seq (pv 3) (pe_cal c__law_draw (hr.mono (by first | exact Nat.le_refl _ | decide)) (by rfl) (pa_cons (pv 0) (pa_cons (pe_callB call_len_seq (by rfl) T.n_len PySem.boot_len (pa_cons (pv 3) pa_nil)) pa_nil))) (fun _ _ => rfl)))) pss_nil)
  (pss_one (ps_set (i := 3) sc__law_bent.nd rfl (Or.inl rfl) (pe_op op_cat (pv 3) (pe_op op_rep (pe_lst (pa_cons (pv 7) pa_nil)) (pe_callB (call_max2 rfl) (by rfl) T.n_max (by decide +kernel) (pa_cons pe_int (pa_cons (pe_op op_sub (pe_op op_add pe_int (pe_cal c__law_draw (hr.mono (by first | exact Nat.le_refl _ | decide)) (by rfl) (pa_cons (pv 0) (pa_cons pe_int pa_nil)))) (pe_callB call_len_seq (by rfl) T.n_len PySem.boot_len (pa_cons (pv 3) pa_nil))) pa_nil)))))))))))))))))
  (pss_one (ps_ret (pe_lst (pa_cons (pv 2) (pa_cons (pv 3) pa_nil)))))))), fun W => (vs_seq (vs_asg (ve_ix (vb_var 1) (ve_c fun _ => .int _)) (vg_name 2))
  (vs_seq (vs_setO 3 (vf_list (VE.vb (ve_ix (vb_var 1) (ve_c fun _ => .int _)))))
  (vs_seq (vs_for (vi_range1 (va_cons (VRs.ve (vrs_call (vk_ref 0 (vk_val (ve_c fun _ => .int _) vk_nil)))) va_nil)) (vg_name 4) (vs_seq (vs_asg (VRs.ve (vrs_call (vk_ref 0 (vk_val (ve_c fun _ => .int _) vk_nil)))) (vg_name 5))
  (vs_if (vt_test (ve_eq (ve_var 5) (ve_c fun _ => .int _))) (vs_asg (VRs.ve (vrs_call (vk_ref 0 (vk_val (ve_var 2) vk_nil)))) (vg_name 2)) (vs_if (vt_test (ve_eq (ve_var 5) (ve_c fun _ => .int _))) (vs_if (vt_truth (vb_var 3)) (vs_drop (ve_lm 3 vm_popAt (va_cons (VRs.ve (vrs_call (vk_ref 0 (vk_val (ve_len (vb_var 3)) vk_nil)))) va_nil))) vs_next) (vs_if (vt_test (ve_op (ve_var 5) (ve_c fun _ => .int _) (vr_I0 fun _ _ _ => .bl _))) (vs_seq (vs_asg (VRs.ve (vrs_call (vk_ref 0 (vk_val (ve_var 2) (vk_val (ve_var 5) vk_nil))))) (vg_name 6))
  (vs_drop (ve_lm 3 vm_insert (va_cons (VRs.ve (vrs_call (vk_ref 0 (vk_val (ve_op (ve_len (vb_var 3)) (ve_c fun _ => .int _) (vr_I0 fun _ _ _ => .int _)) vk_nil)))) (va_cons (ve_var 6) va_nil))))) (vs_seq (vs_asg (ve_tup (va_cons (ve_c fun _ => .int _) (va_cons (ve_c fun _ => .int _) va_nil))) (vg_name 7))
  (vs_cut (vs_if (vt_truth (vb_var 3)) (vs_asg (ve_ix (vb_var 3) (VRs.ve (vrs_call (vk_ref 0 (vk_val (ve_len (vb_var 3)) vk_nil))))) (vg_name 7)) vs_next)
  (vs_setO 3 (vf_cat (vb_var 3) (VE.vb (VF.ve (vf_rep (VE.vb (VF.ve (vf_lst (va_cons (ve_var 7) va_nil)))) (ve_i2 (f := fun i j => if j > i then j else i) (ve_c fun _ => .int _) (ve_op (ve_op (ve_c fun _ => .int _) (VRs.ve (vrs_call (vk_ref 0 (vk_val (ve_c fun _ => .int _) vk_nil)))) (vr_I0 fun _ _ _ => .int _)) (ve_len (vb_var 3)) (vr_I0 fun _ _ _ => .int _)))))))))))))))
  (vs_retF (vf_lst (va_cons (ve_var 2) (va_cons (ve_var 3) va_nil))))))), fun as X Q h => ?_⟩)
  · obtain ⟨q, b, m, ps, rfl, _⟩ := h
    rfl
  · obtain ⟨q, b, m, ps, rfl, wf, l40, qq⟩ := h
    refine ⟨_, rfl, _, rfl, fun q3 => ?_⟩
    refine ⟨q, b, 3, rfl, wf, by decide, by decide, fun d b1 d0 d1 wf1 => ?_⟩
    refine ⟨⟨by omega, by omega⟩, fun i η => ∃ (b' : List D) (m' : Int) (qs : List Rope) (q3 : Addr) (y4 y5 y6 y7 : Sl), η = [.ow q (.lst b'), .fz (shapeD m ps), .fz (.int m'), .ow q3 (.lst (qs.map pD)), y4, y5, y6, y7] ∧ WfB b' ∧ qs.length ≤ 42 + i, ⟨b1, m, ps, q3, _, _, _, _, rfl, wf1, by omega⟩, ?_, ?_⟩
    · rintro i e η he ⟨b', m', qs, q3, y4, y5, y6, y7, rfl, wf', hl⟩
      obtain ⟨hi, rfl⟩ := rngD_inv he
      have hi : i < 2 := by omega
      have back : ∀ (b2 : List D) (m2 : Int) (rs : List Rope) (z4 z5 z6 z7 : Sl), WfB b2 → rs.length ≤ 42 + (i + 1) → ∃ (b' : List D) (m' : Int) (qs : List Rope) (q3' : Addr) (y4 y5 y6 y7 : Sl), [Sl.ow q (.lst b2), .fz (shapeD m ps), .fz (.int m2), .ow q3 (.lst (rs.map pD)), z4, z5, z6, z7] = [.ow q (.lst b'), .fz (shapeD m ps), .fz (.int m'), .ow q3' (.lst (qs.map pD)), y4, y5, y6, y7] ∧ WfB b' ∧ qs.length ≤ 42 + (i + 1) := fun b2 m2 rs z4 z5 z6 z7 h1 h2 => ⟨b2, m2, rs, q3, z4, z5, z6, z7, rfl, h1, h2⟩
      refine ⟨q, b', 5, rfl, wf', by decide, by decide, fun e b2 e0 e1 wf2 => ?_⟩
      refine ite2 (fun z => ?_) (fun z => ite2 (fun z1 => ?_) (fun z1 => ite2 (fun z2 => ?_) (fun z2 => ?_)))
      · exact ⟨q, b2, m', rfl, wf2, fun b3 r wf3 _ => back b3 r qs _ _ _ _ wf3 (by omega)⟩
      · refine ite2 (fun z3 => ?_) (fun z3 => back b2 m' qs _ _ _ _ wf2 (by omega))
        have hq : 0 < qs.length := by
          cases qs with
          | nil => cases z3
          | cons p pt => exact Nat.succ_pos _
        refine ⟨q, b2, _, rfl, wf2, by rw [List.length_map]; omega, by rw [List.length_map]; omega, fun d1 b3 d1a d1b wf3 => ?_⟩
        rw [List.length_map] at d1b
        obtain ⟨k, rfl⟩ := Int.eq_ofNat_of_zero_le d1a
        have hk : k < qs.length := by omega
        refine ⟨k, pD qs[k], rfl, by omega, by rw [List.getElem?_map, List.getElem?_eq_getElem hk]; rfl, b3, m', qs.eraseIdx k, q3, .fz (.int (0 + (i : Int))), .fz (.int e), y6, y7, ?_, wf3, by rw [List.length_eraseIdx]; split <;> omega⟩
        · show [_, _, _, Sl.ow q3 (.lst ((qs.map pD).eraseIdx k)), _, _, _, _] = _
          rw [map_eraseIdx']
          rfl
      · refine ⟨q, b2, m', e, rfl, wf2, fun b3 p wf3 _ _ => ?_⟩
        refine ⟨q, b3, _, rfl, wf3, by rw [List.length_map]; omega, by rw [List.length_map]; omega, fun d1 b4 d1a d1b wf4 => ?_⟩
        rw [List.length_map] at d1b
        refine ⟨⟨by rw [List.length_map]; omega, d1a, by omega⟩, b4, m', qs.take d1.toNat ++ [p] ++ qs.drop d1.toNat, q3, .fz (.int (0 + (i : Int))), .fz (.int e), .fz (pD p), y7, ?_, wf4, by rw [ins_len]; omega⟩
        · show [_, _, _, Sl.ow q3 (.lst ((qs.map pD).take d1.toNat ++ [pD p] ++ (qs.map pD).drop d1.toNat)), _, _, _, _] = _
          rw [insD]
          rfl
      · refine ⟨fun η => ∃ (b' : List D) (f : Rope) (y4 : Sl), η = [.ow q (.lst b'), .fz (shapeD m ps), .fz (.int m'), .ow q3 (.lst (qs.map pD)), y4, .fz (.int e), y6, .fz (pD f)] ∧ WfB b', ?_, ?_⟩
        · refine ite2 (fun z3 => ?_) (fun z3 => ⟨b2, (0, 1), _, rfl, wf2⟩)
          have hq : 0 < qs.length := by
            cases qs with
            | nil => cases z3
            | cons p pt => exact Nat.succ_pos _
          refine ⟨q, b2, _, rfl, wf2, by rw [List.length_map]; omega, by rw [List.length_map]; omega, fun d1 b3 d1a d1b wf3 => ?_⟩
          rw [List.length_map] at d1b
          obtain ⟨k, rfl⟩ := Int.eq_ofNat_of_zero_le d1a
          have hk : k < qs.length := by omega
          exact ⟨_, atI_nat (by rw [List.getElem?_map, List.getElem?_eq_getElem hk]; rfl), b3, qs[k], _, rfl, wf3⟩
        · rintro η ⟨b3, f, y4, rfl, wf3⟩
          refine ⟨q, b3, 4, rfl, wf3, by decide, by decide, fun d1 b4 d1a d1b wf4 => ?_⟩
          have hd : (((qs.map pD).length : Nat) : Int) = qs.length := by rw [List.length_map]
          have hk : (if (39 + d1 - ((qs.map pD).length : Int)) > 0 then 39 + d1 - ((qs.map pD).length : Int) else 0) ≤ 42 - qs.length ∨ (if (39 + d1 - ((qs.map pD).length : Int)) > 0 then 39 + d1 - ((qs.map pD).length : Int) else 0) = 0 := by
            rw [hd]; split <;> omega
          have hk0 : 0 ≤ (if (39 + d1 - ((qs.map pD).length : Int)) > 0 then 39 + d1 - ((qs.map pD).length : Int) else 0) := by split <;> omega
          revert hk hk0
          generalize hz : (if (39 + d1 - ((qs.map pD).length : Int)) > 0 then 39 + d1 - ((qs.map pD).length : Int) else 0) = z
          intro hk hk0
          have zn : z.toNat ≤ 42 := by omega
          have fl : ∀ n : Nat, (List.replicate n [pD f]).flatten = (List.replicate n f).map pD := fun n => by
            rw [List.map_replicate]
            induction n with
            | zero => rfl
            | succ n ih => rw [List.replicate_succ, List.replicate_succ, List.flatten_cons, ih]; rfl
          have st2 : (qs.map pD).length + (List.replicate z.toNat [pD f]).flatten.length ≤ 1000000 := by
            rw [fl, List.length_map, List.length_map, List.length_replicate]; omega
          have st3 : (qs ++ List.replicate z.toNat f).length ≤ 42 + (i + 1) := by
            rw [List.length_append, List.length_replicate]; omega
          have st1 : -2 ^ 63 ≤ z ∧ z < 2 ^ 63 ∧ [pD f].length * z.toNat ≤ 1000000 := ⟨by omega, by omega, by show 1 * z.toNat ≤ 1000000; omega⟩
          rw [← hz] at st1 st2
          refine ⟨st1, st2, fun q4 => ⟨b4, m', qs ++ List.replicate z.toNat f, q4, y4, .fz (.int e), y6, .fz (pD f), ?_, wf4, st3⟩⟩
          show [_, _, _, Sl.ow q4 (.lst (qs.map pD ++ (List.replicate (if (39 + d1 - ((qs.map pD).length : Int)) > 0 then 39 + d1 - ((qs.map pD).length : Int) else 0).toNat [pD f]).flatten)), _, _, _, _] = _
          rw [hz, fl, ← List.map_append]
    · rintro η ⟨b', m', qs, q3, y4, y5, y6, y7, rfl, wf', hl⟩
      rw [rngD_len] at hl
      exact ⟨_, .ow 0 rfl (.fz .nil), qq b' m' qs wf' (by omega)⟩
end
end Tw

namespace Tw
open PySem PySem.Spec PyProof.Rows L2
/-! ### the stations that the law's own rounds reach -/
def st1 (rs : List Int) (p : Rope) : List Int := if p.1 ∈ rs ∧ p.2 ∉ rs then rs ++ [p.2] else rs
def st2 (rs : List Int) (p : Rope) : List Int := if p.2 ∈ rs ∧ p.1 ∉ rs then rs ++ [p.1] else rs
def stp (rs : List Int) (p : Rope) : List Int := st2 (st1 rs p) p
def rnd (ps : List Rope) (rs : List Int) : List Int := ps.foldl stp rs
def rch (ps : List Rope) : Nat → List Int
  | 0 => [0]
  | n + 1 => rnd ps (rch ps n)
theorem st1_len (rs : List Int) (p : Rope) : (st1 rs p).length ≤ rs.length + 1 := by
  unfold st1; split
  · rw [List.length_append]; exact Nat.le_refl _
  · omega
theorem st2_len (rs : List Int) (p : Rope) : (st2 rs p).length ≤ rs.length + 1 := by
  unfold st2; split
  · rw [List.length_append]; exact Nat.le_refl _
  · omega
theorem stp_len (rs : List Int) (p : Rope) : (stp rs p).length ≤ rs.length + 2 := by
  have := st1_len rs p
  have := st2_len (st1 rs p) p
  unfold stp; omega
theorem rnd_len : ∀ (ps : List Rope) (rs : List Int), (rnd ps rs).length ≤ rs.length + 2 * ps.length
  | [], rs => Nat.le_refl _
  | p :: ps, rs => by
    have h1 := rnd_len ps (stp rs p)
    have h2 := stp_len rs p
    show (rnd ps (stp rs p)).length ≤ rs.length + 2 * (ps.length + 1)
    omega
theorem rch_len (ps : List Rope) : ∀ n, (rch ps n).length ≤ 1 + 2 * ps.length * n
  | 0 => by show 1 ≤ 1 + _; omega
  | n + 1 => by
    have h1 := rch_len ps n
    have h2 := rnd_len ps (rch ps n)
    show (rnd ps (rch ps n)).length ≤ _
    rw [Nat.mul_succ]
    omega
theorem rnd_take {ps : List Rope} {i : Nat} {p : Rope} {rs : List Int} (h : ps[i]? = some p) : rnd (ps.take (i + 1)) rs = stp (rnd (ps.take i) rs) p := by
  unfold rnd
  rw [List.take_add_one, h, List.foldl_append]
  rfl
section
variable {P : Program} {w : World} {K : PySem.W.Frag} {mg : Str → Option Value} {base : Heap} {A₀ : Ad}
def svReach : VSp := fun as _ Q => ∃ (m : Int) (ps : List Rope), as = [.fz (.int m), .fz (.lst (ps.map pD))] ∧ 0 ≤ m ∧ m ≤ 24 ∧ ps.length ≤ 40 ∧ Q (.new (.lst ((rch ps m.toNat).map D.int))) as
theorem cv__law_reached (T : Txt P w K mg base A₀) : Cal P w K mg base CX0 "_law_reached" 1 ["many", "ropes"] (spV K svReach) := by
  skip
  refine cal_ofV T.d__law_reached sc__law_reached b__law_reached (fun as X Q h => ?_) (fun f cdv A outer s H E hr => ⟨_, _, (pss_cons (ps_set (i := 2) sc__law_reached.nd rfl (Or.inl rfl) (pe_lst (pa_cons pe_int pa_nil)))
  (pss_cons (ps_for PassesOwn.never rfl (pi_range1 (by rfl) T.n_range (pa_cons (pv 0) pa_nil)) (pg_name (i := 3) sc__law_reached.nd rfl (Or.inl rfl)) (pss_one (ps_for PassesOwn.never rfl (pi_list (pv 1)) (pg_name (i := 4) sc__law_reached.nd rfl (Or.inl rfl)) (pss_cons (ps_if (PW.pt (pw_and (pt_cmpR op_in_seq (pe_ix ix_seq (pv 4) pe_int (fun _ _ => rfl)) (pv 2) (by rfl)) (pw_and1 (pt_cmpR op_notIn_seq (pe_ix ix_seq (pv 4) pe_int (fun _ _ => rfl)) (pv 2) (by rfl))))) (pss_one (ps_expr (pe_bm PySem.F.plainAttrs_list PySem.F.slot_list_append PySem.F.type_list_append mt_append (pv 2) (pa_cons (pe_ix ix_seq (pv 4) pe_int (fun _ _ => rfl)) pa_nil)))) pss_nil)
  (pss_one (ps_if (PW.pt (pw_and (pt_cmpR op_in_seq (pe_ix ix_seq (pv 4) pe_int (fun _ _ => rfl)) (pv 2) (by rfl)) (pw_and1 (pt_cmpR op_notIn_seq (pe_ix ix_seq (pv 4) pe_int (fun _ _ => rfl)) (pv 2) (by rfl))))) (pss_one (ps_expr (pe_bm PySem.F.plainAttrs_list PySem.F.slot_list_append PySem.F.type_list_append mt_append (pv 2) (pa_cons (pe_ix ix_seq (pv 4) pe_int (fun _ _ => rfl)) pa_nil)))) pss_nil))))))
  (pss_one (ps_ret (pv 2))))), fun W => (vs_seq (vs_setO 2 (vf_lst (va_cons (ve_c fun _ => .int _) va_nil)))
  (vs_seq (vs_for (vi_range1 (va_cons (ve_var 0) va_nil)) (vg_name 3) (vs_for (vi_list (ve_var 1)) (vg_name 4) (vs_cut (vs_if (vt_and (vt_test (ve_in (ve_ix (vb_var 4) (ve_c fun _ => .int _)) (vb_var 2))) (vt_test (ve_nin (ve_ix (vb_var 4) (ve_c fun _ => .int _)) (vb_var 2)))) (vs_drop (ve_lm 2 vm_append (va_cons (ve_ix (vb_var 4) (ve_c fun _ => .int _)) va_nil))) vs_next)
  (vs_if (vt_and (vt_test (ve_in (ve_ix (vb_var 4) (ve_c fun _ => .int _)) (vb_var 2))) (vt_test (ve_nin (ve_ix (vb_var 4) (ve_c fun _ => .int _)) (vb_var 2)))) (vs_drop (ve_lm 2 vm_append (va_cons (ve_ix (vb_var 4) (ve_c fun _ => .int _)) va_nil))) vs_next))))
  (vs_retO 2))), fun as X Q h => ?_⟩)
  · obtain ⟨m, ps, rfl, _⟩ := h
    rfl
  · obtain ⟨m, ps, rfl, m0, m24, l40, q⟩ := h
    intro q2
    refine ⟨⟨by omega, by omega⟩, fun i η => ∃ y3 y4, η = [.fz (.int m), .fz (.lst (ps.map pD)), .ow q2 (.lst ((rch ps i).map D.int)), y3, y4], ⟨_, _, rfl⟩, ?_, ?_⟩
    · rintro i e η he ⟨y3, y4, rfl⟩
      obtain ⟨hi, rfl⟩ := rngD_inv he
      have hi : i < 24 := by omega
      refine ⟨fun j η => ∃ y4, η = [.fz (.int m), .fz (.lst (ps.map pD)), .ow q2 (.lst ((rnd (ps.take j) (rch ps i)).map D.int)), .fz (.int (0 + (i : Int))), y4], ⟨_, rfl⟩, ?_, ?_⟩
      · rintro j d η e ⟨y4, rfl⟩
        obtain ⟨p, ep, rfl⟩ := map_inv e
        have fin := rnd_take (rs := rch ps i) ep
        have lj := rnd_len (ps.take j) (rch ps i)
        have li := rch_len ps i
        rw [List.length_take] at lj
        generalize hrs : rnd (ps.take j) (rch ps i) = rs at lj fin ⊢
        have lr : rs.length ≤ 10000 := by
          have : 2 * ps.length * i ≤ 80 * 24 := Nat.mul_le_mul (by omega) (by omega)
          omega
        refine ⟨fun η => η = [.fz (.int m), .fz (.lst (ps.map pD)), .ow q2 (.lst ((st1 rs p).map D.int)), .fz (.int (0 + (i : Int))), .fz (pD p)], ?_, ?_⟩
        · refine ⟨_, rfl, rs, rfl, ?_⟩
          by_cases h1 : p.1 ∈ rs
          · rw [decide_eq_true h1]
            refine ⟨_, rfl, rs, rfl, ?_⟩
            by_cases h2 : p.2 ∈ rs
            · rw [decide_eq_true h2]
              unfold st1
              rw [if_neg (fun z => z.2 h2)]
              rfl
            · rw [decide_eq_false h2]
              unfold st1
              rw [if_pos ⟨h1, h2⟩, List.map_append]
              exact ⟨_, rfl, by show (rs.map D.int).length < 1000000; rw [List.length_map]; omega, rfl⟩
          · rw [decide_eq_false h1]
            unfold st1
            rw [if_neg (fun z => h1 z.1)]
            rfl
        rintro η rfl
        have ls := st1_len rs p
        have back : ∀ xs : List D, xs = (stp rs p).map D.int → ∃ y4, [Sl.fz (.int m), .fz (.lst (ps.map pD)), .ow q2 (.lst xs), .fz (.int (0 + (i : Int))), .fz (pD p)] = [.fz (.int m), .fz (.lst (ps.map pD)), .ow q2 (.lst ((rnd (ps.take (j + 1)) (rch ps i)).map D.int)), .fz (.int (0 + (i : Int))), y4] := fun xs e => ⟨.fz (pD p), by rw [e, fin]⟩
        unfold stp at back
        generalize st1 rs p = rs at ls back ⊢
        refine ⟨_, rfl, rs, rfl, ?_⟩
        by_cases h1 : p.2 ∈ rs
        · rw [decide_eq_true h1]
          refine ⟨_, rfl, rs, rfl, ?_⟩
          by_cases h2 : p.1 ∈ rs
          · rw [decide_eq_true h2]
            exact back _ (by unfold st2; rw [if_neg (fun z => z.2 h2)])
          · rw [decide_eq_false h2]
            exact ⟨_, rfl, by show (rs.map D.int).length < 1000000; rw [List.length_map]; omega, back _ (by unfold st2; rw [if_pos ⟨h1, h2⟩, List.map_append]; rfl)⟩
        · rw [decide_eq_false h1]
          exact back _ (by unfold st2; rw [if_neg (fun z => h1 z.1)])
      · rintro η ⟨y4, rfl⟩
        rw [List.length_map, List.take_of_length_le (Nat.le_refl _)]
        exact ⟨_, _, rfl⟩
    · rintro η ⟨y3, y4, rfl⟩
      rw [rngD_len]
      exact ⟨_, .fz (.fz .nil), q⟩
end
end Tw

namespace Tw
open PySem PySem.Spec PyProof.Rows L2
/-! ### the rounds reach what ropes lead to -/
theorem pig : ∀ (n : Nat) (l : List Int), l.Nodup → (∀ x ∈ l, 0 ≤ x ∧ x < (n : Int)) → l.length ≤ n
  | 0, l, _, h => by
    cases l with
    | nil => exact Nat.le_refl _
    | cons x l => exact absurd (h x List.mem_cons_self) (by omega)
  | n + 1, l, nd, h => by
    have h1 := pig n (l.erase (n : Int)) (nd.erase _) fun x hx => by
      have := (nd.mem_erase_iff).mp hx
      have := h x this.2
      omega
    by_cases z : (n : Int) ∈ l
    · rw [List.length_erase_of_mem z] at h1
      omega
    · rw [List.erase_of_not_mem z] at h1
      omega
theorem st1_ext (rs : List Int) (p : Rope) : ∃ t, st1 rs p = rs ++ t := by
  unfold st1; split
  · exact ⟨_, rfl⟩
  · exact ⟨[], (List.append_nil _).symm⟩
theorem st2_ext (rs : List Int) (p : Rope) : ∃ t, st2 rs p = rs ++ t := by
  unfold st2; split
  · exact ⟨_, rfl⟩
  · exact ⟨[], (List.append_nil _).symm⟩
theorem stp_ext (rs : List Int) (p : Rope) : ∃ t, stp rs p = rs ++ t := by
  obtain ⟨t, h⟩ := st1_ext rs p
  obtain ⟨u, g⟩ := st2_ext (st1 rs p) p
  exact ⟨t ++ u, by unfold stp; rw [g, h, List.append_assoc]⟩
theorem rnd_ext : ∀ (ps : List Rope) (rs : List Int), ∃ t, rnd ps rs = rs ++ t
  | [], rs => ⟨[], (List.append_nil _).symm⟩
  | p :: ps, rs => by
    obtain ⟨t, h⟩ := stp_ext rs p
    obtain ⟨u, g⟩ := rnd_ext ps (stp rs p)
    exact ⟨t ++ u, by show rnd ps (stp rs p) = _; rw [g, h, List.append_assoc]⟩
def Cl (ps : List Rope) (rs : List Int) : Prop := ∀ p ∈ ps, p.1 ∈ rs ↔ p.2 ∈ rs
theorem stp_self {rs : List Int} {p : Rope} (h : stp rs p = rs) : p.1 ∈ rs ↔ p.2 ∈ rs := by
  obtain ⟨t, h1⟩ := st1_ext rs p
  obtain ⟨u, h2⟩ := st2_ext (st1 rs p) p
  have e : rs ++ (t ++ u) = rs := by
    rw [← List.append_assoc, ← h1, ← h2]; exact h
  have e2 : t ++ u = [] := List.append_cancel_left (by rw [e, List.append_nil])
  obtain ⟨rfl, rfl⟩ := List.append_eq_nil_iff.mp e2
  rw [List.append_nil] at h1
  rw [h1, List.append_nil] at h2
  unfold st1 at h1
  unfold st2 at h2
  constructor
  · intro a
    by_cases b : p.2 ∈ rs
    · exact b
    · rw [if_pos ⟨a, b⟩] at h1
      exact absurd (congrArg List.length h1) (by rw [List.length_append]; simp)
  · intro a
    by_cases b : p.1 ∈ rs
    · exact b
    · rw [if_pos ⟨a, b⟩] at h2
      exact absurd (congrArg List.length h2) (by rw [List.length_append]; simp)
theorem self_stp {rs : List Int} {p : Rope} (h : p.1 ∈ rs ↔ p.2 ∈ rs) : stp rs p = rs := by
  have h1 : st1 rs p = rs := by unfold st1; exact if_neg fun z => z.2 (h.mp z.1)
  unfold stp
  rw [h1]
  unfold st2
  exact if_neg fun z => z.2 (h.mpr z.1)
theorem rnd_self : ∀ {ps : List Rope} {rs : List Int}, rnd ps rs = rs → Cl ps rs
  | [], _, _ => fun p h => (by cases h)
  | p :: ps, rs, h => by
    obtain ⟨t, h1⟩ := stp_ext rs p
    obtain ⟨u, h2⟩ := rnd_ext ps (stp rs p)
    have h3 : rnd ps (stp rs p) = rs := h
    have e : rs ++ (t ++ u) = rs := by
      rw [← List.append_assoc, ← h1, ← h2]; exact h3
    have e2 : t ++ u = [] := List.append_cancel_left (by rw [e, List.append_nil])
    obtain ⟨rfl, rfl⟩ := List.append_eq_nil_iff.mp e2
    rw [List.append_nil] at h1
    rw [h1] at h3
    intro q hq
    rcases List.mem_cons.mp hq with rfl | hq
    · exact stp_self h1
    · exact rnd_self h3 q hq
theorem self_rnd : ∀ {ps : List Rope} {rs : List Int}, Cl ps rs → rnd ps rs = rs
  | [], _, _ => rfl
  | p :: ps, rs, h => by
    show rnd ps (stp rs p) = rs
    rw [self_stp (h p List.mem_cons_self)]
    exact self_rnd fun q hq => h q (List.mem_cons_of_mem _ hq)
/-- what the rounds keep -/
theorem st1_keep {ps : List Rope} {rs : List Int} {p : Rope} (G : Int → Prop) (hG : G p.1 → G p.2) (h : ∀ x ∈ rs, G x) (nd : rs.Nodup) : (∀ x ∈ st1 rs p, G x) ∧ (st1 rs p).Nodup := by
  unfold st1; split
  · rename_i z
    refine ⟨fun x hx => ?_, ?_⟩
    · rcases List.mem_append.mp hx with hx | hx
      · exact h x hx
      · rw [List.mem_singleton.mp hx]; exact hG (h _ z.1)
    · refine List.nodup_append.mpr ⟨nd, by simp, fun a ha b hb e => ?_⟩
      rw [List.mem_singleton.mp hb] at e
      subst e
      exact z.2 ha
  · exact ⟨h, nd⟩
theorem st2_keep {ps : List Rope} {rs : List Int} {p : Rope} (G : Int → Prop) (hG : G p.2 → G p.1) (h : ∀ x ∈ rs, G x) (nd : rs.Nodup) : (∀ x ∈ st2 rs p, G x) ∧ (st2 rs p).Nodup := by
  unfold st2; split
  · rename_i z
    refine ⟨fun x hx => ?_, ?_⟩
    · rcases List.mem_append.mp hx with hx | hx
      · exact h x hx
      · rw [List.mem_singleton.mp hx]; exact hG (h _ z.1)
    · refine List.nodup_append.mpr ⟨nd, by simp, fun a ha b hb e => ?_⟩
      rw [List.mem_singleton.mp hb] at e
      subst e
      exact z.2 ha
  · exact ⟨h, nd⟩
theorem rnd_keep (G : Int → Prop) : ∀ {ps : List Rope} {rs : List Int}, (∀ p ∈ ps, (G p.1 → G p.2) ∧ (G p.2 → G p.1)) → (∀ x ∈ rs, G x) → rs.Nodup → (∀ x ∈ rnd ps rs, G x) ∧ (rnd ps rs).Nodup
  | [], _, _, h, nd => ⟨h, nd⟩
  | p :: ps, rs, hG, h, nd => by
    obtain ⟨g1, g2⟩ := hG p List.mem_cons_self
    obtain ⟨a1, a2⟩ := st1_keep (ps := ps) G g1 h nd
    obtain ⟨b1, b2⟩ := st2_keep (ps := ps) G g2 a1 a2
    exact rnd_keep (ps := ps) (rs := stp rs p) G (fun q hq => hG q (List.mem_cons_of_mem _ hq)) b1 b2
theorem rch_keep {ps : List Rope} (G : Int → Prop) (h0 : G 0) (hG : ∀ p ∈ ps, (G p.1 → G p.2) ∧ (G p.2 → G p.1)) : ∀ n, (∀ x ∈ rch ps n, G x) ∧ (rch ps n).Nodup
  | 0 => ⟨fun x hx => by rw [List.mem_singleton.mp hx]; exact h0, by show [(0 : Int)].Nodup; simp⟩
  | n + 1 => rnd_keep G hG (rch_keep G h0 hG n).1 (rch_keep G h0 hG n).2
theorem rch_zero (ps : List Rope) : ∀ n, (0 : Int) ∈ rch ps n
  | 0 => List.mem_singleton.mpr rfl
  | n + 1 => by
    obtain ⟨t, h⟩ := rnd_ext ps (rch ps n)
    show (0 : Int) ∈ rnd ps (rch ps n)
    rw [h]
    exact List.mem_append_left _ (rch_zero ps n)
theorem rch_grow (ps : List Rope) : ∀ n, Cl ps (rch ps n) ∨ n + 1 ≤ (rch ps n).length
  | 0 => .inr (Nat.le_refl _)
  | n + 1 => by
    rcases rch_grow ps n with h | h
    · left
      show Cl ps (rnd ps (rch ps n))
      rw [self_rnd h]
      exact h
    · obtain ⟨t, ht⟩ := rnd_ext ps (rch ps n)
      cases t with
      | nil =>
        rw [List.append_nil] at ht
        left
        show Cl ps (rnd ps (rch ps n))
        rw [ht]
        exact rnd_self ht
      | cons x t =>
        right
        show _ ≤ (rnd ps (rch ps n)).length
        rw [ht, List.length_append]
        show n + 2 ≤ _ + (t.length + 1)
        omega
theorem okR_inv {m : Int} {p : Rope} (h : okRope m p = true) : p.1 ≠ p.2 ∧ (0 ≤ p.1 ∧ p.1 < m) ∧ 0 ≤ p.2 ∧ p.2 < m := by
  unfold okRope at h
  simp only [Bool.and_eq_true, Bool.not_eq_true', decide_eq_false_iff_not, decide_eq_true_eq] at h
  exact ⟨h.1.1, h.1.2, h.2⟩
theorem rch_con {m : Int} {ps : List Rope} (m1 : 1 ≤ m) (ok : ∀ p ∈ ps, okRope m p = true) (s : Int) : s ∈ rch ps m.toNat ↔ Con ps s := by
  constructor
  · exact fun h => con_lk ((rch_keep (ps := ps) (fun x => Lk ps 0 x) .refl (fun p hp => ⟨fun h => .step h hp (.inl rfl), fun h => .step h hp (.inr rfl)⟩) m.toNat).1 s h)
  · intro h
    have k := rch_keep (ps := ps) (fun x => 0 ≤ x ∧ x < (m.toNat : Int)) ⟨by omega, by omega⟩ (fun p hp => by
      obtain ⟨_, ⟨a, b⟩, c, d⟩ := okR_inv (ok p hp)
      exact ⟨fun _ => ⟨c, by omega⟩, fun _ => ⟨a, by omega⟩⟩) m.toNat
    have l := pig m.toNat _ k.2 k.1
    have cl : Cl ps (rch ps m.toNat) := (rch_grow ps m.toNat).elim id fun h => by omega
    unfold Con at h
    induction h with
    | goal h => rw [List.mem_singleton.mp h]; exact rch_zero ps _
    | step h _ ih =>
      obtain ⟨t, ht, e⟩ := List.mem_map.mp h
      unfold turn at e
      injection e with e1 e2
      injection e2 with e2 e3
      obtain ⟨p, hp, q⟩ := stepsFrom_mem ht
      rcases q with ⟨q1, q2⟩ | ⟨q1, q2⟩
      · rw [← e1, q2]
        rw [← e2, q1] at ih
        exact (cl p hp).mp ih
      · rw [← e1, q2]
        rw [← e2, q1] at ih
        exact (cl p hp).mpr ih
/-! ### what Net must say of a number and ropes -/
inductive Due (m : Int) (ps : List Rope) : List D → Prop
  | size : okSize m = false → Due m ps [.tup [.str "BadNet", .int (-1)]]
  | many : okSize m = true → 40 < ps.length → Due m ps [.tup [.str "TooMany", .int 40]]
  | rope (k : Nat) (p : Rope) : okSize m = true → ps.length ≤ 40 → ps[k]? = some p → okRope m p = false → (∀ (j : Nat) (q : Rope), j < k → ps[j]? = some q → okRope m q = true) → Due m ps [.tup [.str "BadNet", .int (k : Int)]]
  | con (s : Nat) : okSize m = true → ps.length ≤ 40 → (∀ p ∈ ps, okRope m p = true) → (s : Int) < m → ¬ Con ps s → (∀ j : Nat, j < s → Con ps j) → Due m ps [.tup [.str "NotConnected", .int (s : Int)]]
  | fine : okSize m = true → ps.length ≤ 40 → (∀ p ∈ ps, okRope m p = true) → (∀ s : Nat, (s : Int) < m → Con ps s) → Due m ps []
theorem least_of {G : Nat → Prop} (h : ∃ n, G n) : ∃ n, G n ∧ ∀ j, j < n → ¬ G j := by
  obtain ⟨n, hn⟩ := h
  induction n using Nat.strongRecOn with
  | ind n ih =>
    by_cases z : ∃ j, j < n ∧ G j
    · obtain ⟨j, hj, gj⟩ := z
      exact ih j hj gj
    · exact ⟨n, hn, fun j hj gj => z ⟨j, hj, gj⟩⟩
theorem due_ex (m : Int) (ps : List Rope) : ∃ ds, Due m ps ds := by
  cases hs : okSize m with
  | false => exact ⟨_, .size hs⟩
  | true =>
    by_cases h40 : ps.length ≤ 40
    · by_cases hp : ∀ p ∈ ps, okRope m p = true
      · by_cases hc : ∀ s : Nat, (s : Int) < m → Con ps s
        · exact ⟨_, .fine hs h40 hp hc⟩
        · have : ∃ s : Nat, (s : Int) < m ∧ ¬ Con ps s := by
            apply Classical.byContradiction
            intro z
            exact hc fun s h => Classical.byContradiction fun w => z ⟨s, h, w⟩
          obtain ⟨s, ⟨h1, h2⟩, h3⟩ := least_of this
          exact ⟨_, .con s hs h40 hp h1 h2 fun j hj => Classical.byContradiction fun w => h3 j hj ⟨by omega, w⟩⟩
      · have : ∃ k : Nat, ∃ p, ps[k]? = some p ∧ okRope m p = false := by
          apply Classical.byContradiction
          intro z
          refine hp fun p h => ?_
          obtain ⟨k, hk⟩ := List.mem_iff_getElem?.mp h
          cases e : okRope m p with
          | true => rfl
          | false => exact absurd ⟨k, p, hk, e⟩ z
        obtain ⟨k, ⟨p, h1, h2⟩, h3⟩ := least_of this
        refine ⟨_, .rope k p hs h40 h1 h2 fun j q hj hq => ?_⟩
        cases e : okRope m q with
        | true => rfl
        | false => exact absurd ⟨q, hq, e⟩ (h3 j hj)
    · exact ⟨_, .many hs (by omega)⟩
end Tw

namespace Tw
open PySem PySem.Spec PyProof.Rows L2
theorem due_uniq {m : Int} {ps : List Rope} {ds es : List D} (a : Due m ps ds) (b : Due m ps es) : ds = es := by
  cases a with
  | size h => cases b with
    | size _ => rfl
    | many g _ => rw [h] at g; cases g
    | rope _ _ g => rw [h] at g; cases g
    | con _ g => rw [h] at g; cases g
    | fine g => rw [h] at g; cases g
  | many h h2 => cases b with
    | size g => rw [h] at g; cases g
    | many => rfl
    | rope _ _ _ g => omega
    | con _ _ g => omega
    | fine _ g => omega
  | rope k p h h2 h3 h4 h5 => cases b with
    | size g => rw [h] at g; cases g
    | many _ g => omega
    | rope k' p' g g2 g3 g4 g5 =>
      by_cases e : k = k'
      · rw [e]
      · by_cases l : k < k'
        · have := g5 k p l h3
          rw [h4] at this; cases this
        · have := h5 k' p' (by omega) g3
          rw [g4] at this; cases this
    | con _ _ _ g =>
      have := g p (List.mem_of_getElem? h3)
      rw [h4] at this; cases this
    | fine _ _ g =>
      have := g p (List.mem_of_getElem? h3)
      rw [h4] at this; cases this
  | con s h h2 h3 h4 h5 h6 => cases b with
    | size g => rw [h] at g; cases g
    | many _ g => omega
    | rope k' p' g g2 g3 g4 g5 =>
      have := h3 p' (List.mem_of_getElem? g3)
      rw [g4] at this; cases this
    | con s' g g2 g3 g4 g5 g6 =>
      by_cases e : s = s'
      · rw [e]
      · by_cases l : s < s'
        · exact absurd (g6 s l) h5
        · exact absurd (h6 s' (by omega)) g5
    | fine _ _ _ g => exact absurd (g s h4) h5
  | fine h h2 h3 h4 => cases b with
    | size g => rw [h] at g; cases g
    | many _ g => omega
    | rope k' p' g g2 g3 g4 g5 =>
      have := h3 p' (List.mem_of_getElem? g3)
      rw [g4] at this; cases this
    | con s' g g2 g3 g4 g5 g6 => exact absurd (h4 s' g4) g5
    | fine => rfl
section
variable {P : Program} {w : World} {K : PySem.W.Frag} {mg : Str → Option Value} {base : Heap} {A₀ : Ad}
def svDueL : VSp := fun as _ Q => ∃ (m : Int) (ps : List Rope) (ds : List D), as = [.fz (.int m), .fz (.lst (ps.map pD))] ∧ ps.length ≤ 1000 ∧ Due m ps ds ∧ Q (.new (.lst ds)) as
theorem cv__law_due (T : Txt P w K mg base A₀) : Cal P w K mg base CX0 "_law_due" 2 ["many", "ropes"] (spV K svDueL) := by
  have c__law_reached := cv__law_reached T
  refine cal_ofV T.d__law_due sc__law_due b__law_due (fun as X Q h => ?_) (fun f cdv A outer s H E hr => ⟨_, _, (pss_cons (ps_if (PW.pt (pw_or (pt_cmpR op_lt (pv 0) pe_int (nomark _)) (pw_or1 (pt_cmpR op_gt (pv 0) pe_int (nomark _))))) (pss_one (ps_ret (pe_lst (pa_cons (pe_tup (pa_cons pe_str (pa_cons (pe_un un_neg pe_int) pa_nil))) pa_nil)))) pss_nil)
  (pss_cons (ps_if (pt_cmpR op_gt (pe_callB call_len_seq (by rfl) T.n_len PySem.boot_len (pa_cons (pv 1) pa_nil)) pe_int (nomark _)) (pss_one (ps_ret (pe_lst (pa_cons (pe_tup (pa_cons pe_str (pa_cons pe_int pa_nil))) pa_nil)))) pss_nil)
  (pss_cons (ps_for PassesOwn.never rfl (pi_range1 (by rfl) T.n_range (pa_cons (pe_callB call_len_seq (by rfl) T.n_len PySem.boot_len (pa_cons (pv 1) pa_nil)) pa_nil)) (pg_name (i := 2) sc__law_due.nd rfl (Or.inl rfl)) (pss_one (ps_if (PW.pt (pw_or (pt_cmpR op_lt (pe_callB (call_min1 hr.units rfl) (by rfl) T.n_min (by decide +kernel) (pa_cons (pe_ix ix_seq (pv 1) (pv 2) (fun _ _ => rfl)) pa_nil)) pe_int (nomark _)) (pw_or (pt_cmpR op_ge (pe_callB (call_max1 hr.units rfl) (by rfl) T.n_max (by decide +kernel) (pa_cons (pe_ix ix_seq (pv 1) (pv 2) (fun _ _ => rfl)) pa_nil)) (pv 0) (nomark _)) (pw_or1 (pt_cmpR op_eq (pe_ix ix_seq (pe_ix ix_seq (pv 1) (pv 2) (fun _ _ => rfl)) pe_int (fun _ _ => rfl)) (pe_ix ix_seq (pe_ix ix_seq (pv 1) (pv 2) (fun _ _ => rfl)) pe_int (fun _ _ => rfl)) (nomark _)))))) (pss_one (ps_ret (pe_lst (pa_cons (pe_tup (pa_cons pe_str (pa_cons (pv 2) pa_nil))) pa_nil)))) pss_nil)))
  (pss_cons (ps_set (i := 3) sc__law_due.nd rfl (Or.inl rfl) (pe_cal c__law_reached (hr.mono (by first | exact Nat.le_refl _ | decide)) (by rfl) (pa_cons (pv 0) (pa_cons (pv 1) pa_nil))))
  (pss_cons (ps_for PassesOwn.never rfl (pi_range1 (by rfl) T.n_range (pa_cons (pv 0) pa_nil)) (pg_name (i := 4) sc__law_due.nd rfl (Or.inl rfl)) (pss_one (ps_if (pt_cmpR op_notIn_seq (pv 4) (pv 3) (by rfl)) (pss_one (ps_ret (pe_lst (pa_cons (pe_tup (pa_cons pe_str (pa_cons (pv 4) pa_nil))) pa_nil)))) pss_nil)))
  (pss_one (ps_ret (pe_lst pa_nil)))))))), fun W => (vs_seq (vs_if (vt_or (vt_test (ve_op (ve_var 0) (ve_c fun _ => .int _) (vr_I0 fun _ _ _ => .bl _))) (vt_test (ve_op (ve_var 0) (ve_c fun _ => .int _) (vr_I0 fun _ _ _ => .bl _)))) (vs_retF (vf_lst (va_cons (ve_tup (va_cons (ve_c fun _ => .str _) (va_cons (ve_unI (ve_c fun _ => .int _) fun _ _ => .int _) va_nil))) va_nil))) vs_next)
  (vs_seq (vs_if (vt_test (ve_op (ve_len (vb_var 1)) (ve_c fun _ => .int _) (vr_I0 fun _ _ _ => .bl _))) (vs_retF (vf_lst (va_cons (ve_tup (va_cons (ve_c fun _ => .str _) (va_cons (ve_c fun _ => .int _) va_nil))) va_nil))) vs_next)
  (vs_seq (vs_for (vi_range1 (va_cons (ve_len (vb_var 1)) va_nil)) (vg_name 2) (vs_if (vt_or (vt_test (ve_op (ve_pair (f := fMin) (ve_ix (vb_var 1) (ve_var 2))) (ve_c fun _ => .int _) (vr_I0 fun _ _ _ => .bl _))) (vt_or (vt_test (ve_op (ve_pair (f := fMax) (ve_ix (vb_var 1) (ve_var 2))) (ve_var 0) (vr_I0 fun _ _ _ => .bl _))) (vt_test (ve_eq (ve_ix (VE.vb (ve_ix (vb_var 1) (ve_var 2))) (ve_c fun _ => .int _)) (ve_ix (VE.vb (ve_ix (vb_var 1) (ve_var 2))) (ve_c fun _ => .int _)))))) (vs_retF (vf_lst (va_cons (ve_tup (va_cons (ve_c fun _ => .str _) (va_cons (ve_var 2) va_nil))) va_nil))) vs_next))
  (vs_seq (vs_asg (VF.ve (VRs.vf (vrs_call (vk_val (ve_var 0) (vk_val (ve_var 1) vk_nil))))) (vg_name 3))
  (vs_seq (vs_for (vi_range1 (va_cons (ve_var 0) va_nil)) (vg_name 4) (vs_if (vt_test (ve_nin (ve_var 4) (vb_var 3))) (vs_retF (vf_lst (va_cons (ve_tup (va_cons (ve_c fun _ => .str _) (va_cons (ve_var 4) va_nil))) va_nil))) vs_next))
  (vs_retF (vf_lst va_nil))))))), fun as X Q h => ?_⟩)
  · obtain ⟨m, ps, ds, rfl, _⟩ := h
    rfl
  · obtain ⟨m, ps, ds, rfl, hl, du, q⟩ := h
    have lm : (((ps.map pD).length : Nat) : Int) = ps.length := by rw [List.length_map]
    have leaf : ∀ es, Due m ps es → Q (.new (.lst es)) [.fz (.int m), .fz (.lst (ps.map pD))] := fun es h => by rw [due_uniq h du]; exact q
    refine ite2 (fun z => ?_) (fun z => ite2 (fun z1 => ?_) (fun z1 => ?_))
    · exact iteT ⟨_, .fz (.fz .nil), leaf _ (.size (by
        have := of_decide_eq_true z
        unfold okSize
        rw [decide_eq_false (by omega : ¬ 1 ≤ m)]; rfl))⟩
    · exact ⟨_, .fz (.fz .nil), leaf _ (.size (by
        have := of_decide_eq_true z1
        unfold okSize
        rw [decide_eq_false (by omega : ¬ m ≤ 24)]; exact Bool.and_false _))⟩
    have m1 : 1 ≤ m := by
      have : ¬ m < 1 := fun h => z (decide_eq_true h)
      omega
    have m24 : m ≤ 24 := by
      have : ¬ 24 < m := fun h => z1 (decide_eq_true h)
      omega
    have okS := okS_of m1 m24
    refine ite2 (fun z2 => ?_) (fun z2 => ?_)
    · exact ⟨_, .fz (.fz .nil), leaf _ (.many okS (by have := of_decide_eq_true z2; rw [lm] at this; omega))⟩
    have l40 : ps.length ≤ 40 := by
      have : ¬ (40 : Int) < ((ps.map pD).length : Int) := fun h => z2 (decide_eq_true h)
      rw [lm] at this; omega
    refine ⟨⟨by rw [List.length_map]; omega, by rw [List.length_map]; omega⟩, fun i η => (∃ y, η = [.fz (.int m), .fz (.lst (ps.map pD)), y, .no, .no]) ∧ ∀ (j : Nat) (p : Rope), j < i → ps[j]? = some p → okRope m p = true, ⟨⟨_, rfl⟩, fun j p h => absurd h (Nat.not_lt_zero _)⟩, ?_, ?_⟩
    · rintro i d η e ⟨⟨y, rfl⟩, ih⟩
      obtain ⟨hi, rfl⟩ := rngD_inv e
      rw [Int.zero_add]
      have hi : i < ps.length := by rw [List.length_map] at hi; omega
      have ep := List.getElem?_eq_getElem hi
      have at1 : atI (ps.map pD) (i : Int) = some (pD ps[i]) := atI_nat (by rw [List.getElem?_map, ep]; rfl)
      have bad : okRope m ps[i] = false → Q (.new (.lst [.tup [.str "BadNet", .int (i : Int)]])) [.fz (.int m), .fz (.lst (ps.map pD))] := fun h => leaf _ (.rope i ps[i] okS l40 ep h ih)
      have noR : ¬ okRope m ps[i] = true → okRope m ps[i] = false := fun h => by simpa using h
      refine ⟨_, at1, ite2 (fun c1 => ?_) (fun c1 => ⟨_, at1, ite2 (fun c2 => ?_) (fun c2 => ⟨_, at1, _, rfl, _, at1, _, rfl, ite2 (fun c3 => ?_) (fun c3 => ?_)⟩)⟩)⟩
      · have c1 := of_decide_eq_true c1
        refine iteT ⟨_, .fz (.fz .nil), bad (noR fun h => ?_)⟩
        obtain ⟨_, a, b⟩ := okR_inv h
        revert c1
        show (if ps[i].2 < ps[i].1 then ps[i].2 else ps[i].1) < 0 → False
        split <;> omega
      · have c2 := of_decide_eq_true c2
        refine iteT ⟨_, .fz (.fz .nil), bad (noR fun h => ?_)⟩
        obtain ⟨_, a, b⟩ := okR_inv h
        revert c2
        show m ≤ (if ps[i].1 < ps[i].2 then ps[i].2 else ps[i].1) → False
        split <;> omega
      · have c3 := of_decide_eq_true c3
        refine ⟨_, .fz (.fz .nil), bad (noR fun h => ?_)⟩
        exact (okR_inv h).1 c3
      · have c1 : ¬ (if ps[i].2 < ps[i].1 then ps[i].2 else ps[i].1) < 0 := fun h => c1 (decide_eq_true h)
        have c2 : ¬ m ≤ (if ps[i].1 < ps[i].2 then ps[i].2 else ps[i].1) := fun h => c2 (decide_eq_true h)
        have c3 : ¬ ps[i].1 = ps[i].2 := fun h => c3 (decide_eq_true h)
        refine ⟨⟨_, rfl⟩, fun j p hj hp => ?_⟩
        by_cases e : j = i
        · subst e
          rw [ep] at hp
          cases hp
          exact okR (by split at c1 <;> omega) (by split at c2 <;> omega) (by split at c1 <;> omega) (by split at c2 <;> omega) c3
        · exact ih j p (by omega) hp
    · rintro η ⟨⟨y, rfl⟩, ih⟩
      rw [rngD_len, List.length_map] at ih
      have okp : ∀ p ∈ ps, okRope m p = true := fun p hp => by
        obtain ⟨j, hj⟩ := List.mem_iff_getElem?.mp hp
        exact ih j p (by have := (List.getElem?_eq_some_iff.mp hj).1; omega) hj
      refine ⟨m, ps, rfl, by omega, m24, l40, ?_⟩
      refine ⟨⟨by omega, by omega⟩, fun i η => (∃ y4, η = [.fz (.int m), .fz (.lst (ps.map pD)), y, .fz (.lst ((rch ps m.toNat).map D.int)), y4]) ∧ ∀ j : Nat, j < i → Con ps j, ⟨⟨_, rfl⟩, fun j h => absurd h (Nat.not_lt_zero _)⟩, ?_, ?_⟩
      · rintro i d η e ⟨⟨y4, rfl⟩, jh⟩
        obtain ⟨hi, rfl⟩ := rngD_inv e
        rw [Int.zero_add]
        refine ⟨_, rfl, ?_⟩
        by_cases hc : (i : Int) ∈ rch ps m.toNat
        · rw [decide_eq_true hc]
          refine ⟨⟨_, rfl⟩, fun j hj => ?_⟩
          by_cases e : j = i
          · rw [e]; exact (rch_con m1 okp _).mp hc
          · exact jh j (by omega)
        · rw [decide_eq_false hc]
          exact ⟨_, .fz (.fz .nil), leaf _ (.con i okS l40 okp (by omega) (fun z => hc ((rch_con m1 okp _).mpr z)) jh)⟩
      · rintro η ⟨⟨y4, rfl⟩, jh⟩
        rw [rngD_len] at jh
        exact ⟨_, .fz (.fz .nil), leaf _ (.fine okS l40 okp fun s hs => jh s (by omega))⟩
end
end Tw

namespace Tw
open PySem PySem.Spec PyProof.Rows L2
section
variable {P : Program} {w : World} {K : PySem.W.Frag} {mg : Str → Option Value} {base : Heap} {A₀ : Ad}
theorem FnP.or {k : Nat} {f : Addr} {fd : FuncData} {ps : List Str} {sp sp' : Addr × Obj → Sp} (F : FnP P w K mg base k f fd ps sp) (F' : FnP P w K mg base k f fd ps sp') : FnP P w K mg base k f fd ps (fun p vs H Q E => sp p vs H Q E ∨ sp' p vs H Q E) :=
  ⟨fun p vs H Q E h => h.elim (F.len p vs H Q E) (F'.len p vs H Q E), fun p A outer s H args us vs Q hr ho hp he hb hv h => h.elim (F.run p A outer s H args us vs Q hr ho hp he hb hv) (F'.run p A outer s H args us vs Q hr ho hp he hb hv)⟩
theorem FnP.imp {k : Nat} {f : Addr} {fd : FuncData} {ps : List Str} {sp sp' : Addr × Obj → Sp} (F : FnP P w K mg base k f fd ps sp) (h : ∀ p vs H Q E, sp' p vs H Q E → sp p vs H Q E) : FnP P w K mg base k f fd ps sp' :=
  ⟨fun p vs H Q E q => F.len p vs H Q E (h _ _ _ _ _ q), fun p A outer s H args us vs Q hr ho hp he hb hv q => F.run p A outer s H args us vs Q hr ho hp he hb hv (h _ _ _ _ _ q)⟩
/-- one exception's fields, and what the law tells of it -/
def svTold (gs : List (Str × D)) (out : List D) : Addr → Addr → Addr → VSp := fun a dd C as _ Q => as = [.fz (.exc a dd C gs)] ∧ Q (.new (.lst out)) as

theorem fnp_BadNet (T : Txt P w K mg base A₀) {f : Addr} {fd : FuncData} (F : Fun K "_law_told" "_law_told" s__law_told f fd) (i : Int) : FnP P w K mg base 1 f fd ["fault"] (spVP K (fun C => C = A₀.c_BadNet) (svTold [("place", .int i)] [.tup [.str "BadNet", .int i]])) := by
  refine hot_ofV F sc__law_told (fun a dd C as X Q h => ?_) (fun a oe C dd cdv A outer s H g zz ff hr => ?_)
  · obtain ⟨rfl, _⟩ := h
    rfl
  · subst g
    refine ⟨_, _, (pss_cons (ps_set (i := 1) sc__law_told.nd rfl (Or.inl rfl) (pe_lst pa_nil))
  (pss_cons (ps_if (pt_val (pe_callB (call_isP (a := a) (oe := oe) (D := A₀.c_BadNet) (dd := dd) (List.mem_singleton.mpr rfl) T.s_BadNet.ec zz.zc ff) (by rfl) T.n_isinstance (by decide +kernel) (pa_cons (pv 0) (pa_cons (pe_glob (v := .ref A₀.c_BadNet) (by rfl) T.g_BadNet rfl) pa_nil)))) (pss_one (ps_expr (pe_bm PySem.F.plainAttrs_list PySem.F.slot_list_append PySem.F.type_list_append mt_append (pv 1) (pa_cons (pe_tup (pa_cons pe_str (pa_cons (pe_xfP (a := a) (oe := oe) (C := A₀.c_BadNet) (cls := .ref A₀.c_BadNet) (d := some dd) (List.mem_singleton.mpr rfl) T.s_BadNet.xf (T.s_BadNet.no _ (by decide)) zz.zc ff (pv 0)) pa_nil))) pa_nil)))) pss_nil)
  (pss_cons (ps_if (pt_val (pe_callB (call_isP (a := a) (oe := oe) (D := A₀.c_BadNet) (dd := dd) (List.mem_singleton.mpr rfl) T.s_BadNet.ec zz.zc ff) (by rfl) T.n_isinstance (by decide +kernel) (pa_cons (pv 0) (pa_cons (pe_glob (v := .ref A₀.c_TooMany) (by rfl) T.g_TooMany rfl) pa_nil)))) (pss_one (ps_expr (pe_bm PySem.F.plainAttrs_list PySem.F.slot_list_append PySem.F.type_list_append mt_append (pv 1) (pa_cons (pe_tup (pa_cons pe_str (pa_cons pe_no pa_nil))) pa_nil)))) pss_nil)
  (pss_cons (ps_if (pt_val (pe_callB (call_isP (a := a) (oe := oe) (D := A₀.c_BadNet) (dd := dd) (List.mem_singleton.mpr rfl) T.s_BadNet.ec zz.zc ff) (by rfl) T.n_isinstance (by decide +kernel) (pa_cons (pv 0) (pa_cons (pe_glob (v := .ref A₀.c_NotConnected) (by rfl) T.g_NotConnected rfl) pa_nil)))) (pss_one (ps_expr (pe_bm PySem.F.plainAttrs_list PySem.F.slot_list_append PySem.F.type_list_append mt_append (pv 1) (pa_cons (pe_tup (pa_cons pe_str (pa_cons pe_no pa_nil))) pa_nil)))) pss_nil)
  (pss_cons (ps_if (pt_val (pe_callB (call_isP (a := a) (oe := oe) (D := A₀.c_BadNet) (dd := dd) (List.mem_singleton.mpr rfl) T.s_BadNet.ec zz.zc ff) (by rfl) T.n_isinstance (by decide +kernel) (pa_cons (pv 0) (pa_cons (pe_glob (v := .ref A₀.c_NoRope) (by rfl) T.g_NoRope rfl) pa_nil)))) (pss_one (ps_expr (pe_bm PySem.F.plainAttrs_list PySem.F.slot_list_append PySem.F.type_list_append mt_append (pv 1) (pa_cons (pe_tup (pa_cons pe_str (pa_cons pe_no pa_nil))) pa_nil)))) pss_nil)
  (pss_cons (ps_if (pt_val (pe_callB (call_isP (a := a) (oe := oe) (D := A₀.c_BadNet) (dd := dd) (List.mem_singleton.mpr rfl) T.s_BadNet.ec zz.zc ff) (by rfl) T.n_isinstance (by decide +kernel) (pa_cons (pv 0) (pa_cons (pe_glob (v := .ref A₀.c_NoStation) (by rfl) T.g_NoStation rfl) pa_nil)))) (pss_one (ps_expr (pe_bm PySem.F.plainAttrs_list PySem.F.slot_list_append PySem.F.type_list_append mt_append (pv 1) (pa_cons (pe_tup (pa_cons pe_str (pa_cons pe_no pa_nil))) pa_nil)))) pss_nil)
  (pss_cons (ps_if (pt_val (pe_callB (call_isP (a := a) (oe := oe) (D := A₀.c_BadNet) (dd := dd) (List.mem_singleton.mpr rfl) T.s_BadNet.ec zz.zc ff) (by rfl) T.n_isinstance (by decide +kernel) (pa_cons (pv 0) (pa_cons (pe_glob (v := .ref A₀.c_NotThere) (by rfl) T.g_NotThere rfl) pa_nil)))) (pss_one (ps_expr (pe_bm PySem.F.plainAttrs_list PySem.F.slot_list_append PySem.F.type_list_append mt_append (pv 1) (pa_cons (pe_tup (pa_cons pe_str (pa_cons pe_no (pa_cons pe_no pa_nil)))) pa_nil)))) pss_nil)
  (pss_cons (ps_if (pt_not (pt_val (pe_callB (call_isP (a := a) (oe := oe) (D := A₀.c_BadNet) (dd := dd) (List.mem_singleton.mpr rfl) T.s_BadNet.ec zz.zc ff) (by rfl) T.n_isinstance (by decide +kernel) (pa_cons (pv 0) (pa_cons (pe_bltn (v := .ty "ValueError") (by rfl) T.n_ValueError (by decide +kernel) rfl) pa_nil))))) (pss_one (ps_expr (pe_bm PySem.F.plainAttrs_list PySem.F.slot_list_append PySem.F.type_list_append mt_append (pv 1) (pa_cons (pe_tup (pa_cons pe_str (pa_cons pe_int pa_nil))) pa_nil)))) pss_nil)
  (pss_one (ps_ret (pv 1))))))))))), fun W => (vs_seq (vs_setO 1 (vf_lst va_nil))
  (vs_seq (vs_if (vt_B (ve_isP (ve_var 0) (.own _))) (vs_drop (ve_lm 1 vm_append (va_cons (ve_tup (va_cons (ve_c fun _ => .str _) (va_cons (ve_xf (ve_var 0)) va_nil))) va_nil))) vs_next)
  (vs_seq (vs_if (vt_B (ve_isP (ve_var 0) (.own _))) (vs_drop (ve_lm 1 vm_append (va_cons (ve_tup (va_cons (ve_c fun _ => .str _) (va_cons ve_no va_nil))) va_nil))) vs_next)
  (vs_seq (vs_if (vt_B (ve_isP (ve_var 0) (.own _))) (vs_drop (ve_lm 1 vm_append (va_cons (ve_tup (va_cons (ve_c fun _ => .str _) (va_cons ve_no va_nil))) va_nil))) vs_next)
  (vs_seq (vs_if (vt_B (ve_isP (ve_var 0) (.own _))) (vs_drop (ve_lm 1 vm_append (va_cons (ve_tup (va_cons (ve_c fun _ => .str _) (va_cons ve_no va_nil))) va_nil))) vs_next)
  (vs_seq (vs_if (vt_B (ve_isP (ve_var 0) (.own _))) (vs_drop (ve_lm 1 vm_append (va_cons (ve_tup (va_cons (ve_c fun _ => .str _) (va_cons ve_no va_nil))) va_nil))) vs_next)
  (vs_seq (vs_if (vt_B (ve_isP (ve_var 0) (.own _))) (vs_drop (ve_lm 1 vm_append (va_cons (ve_tup (va_cons (ve_c fun _ => .str _) (va_cons ve_no (va_cons ve_no va_nil)))) va_nil))) vs_next)
  (vs_seq (vs_if (vt_not (vt_B (ve_isP (ve_var 0) (.ty _)))) (vs_drop (ve_lm 1 vm_append (va_cons (ve_tup (va_cons (ve_c fun _ => .str _) (va_cons (ve_c fun _ => .int _) va_nil))) va_nil))) vs_next)
  (vs_retO 1))))))))), fun as X Q h => ?_⟩
    obtain ⟨rfl, q⟩ := h
    intro q1
    refine ⟨⟨rfl, rfl, rfl⟩, true, T.s_BadNet.q1, iteT ?_⟩
    refine ⟨⟨rfl, rfl, rfl⟩, _, rfl, by show 0 < 1000000; decide, ?_⟩
    refine ⟨⟨rfl, rfl, rfl⟩, false, T.s_BadNet.q2, iteF ?_⟩
    refine ⟨⟨rfl, rfl, rfl⟩, false, T.s_BadNet.q3, iteF ?_⟩
    refine ⟨⟨rfl, rfl, rfl⟩, false, T.s_BadNet.q4, iteF ?_⟩
    refine ⟨⟨rfl, rfl, rfl⟩, false, T.s_BadNet.q5, iteF ?_⟩
    refine ⟨⟨rfl, rfl, rfl⟩, false, T.s_BadNet.q6, iteF ?_⟩
    refine ⟨⟨rfl, rfl, rfl⟩, true, T.s_BadNet.q7, iteF ?_⟩
    exact ⟨_, .fz .nil, q⟩

theorem fnp_TooMany (T : Txt P w K mg base A₀) {f : Addr} {fd : FuncData} (F : Fun K "_law_told" "_law_told" s__law_told f fd) (i : Int) : FnP P w K mg base 1 f fd ["fault"] (spVP K (fun C => C = A₀.c_TooMany) (svTold [("limit", .int i)] [.tup [.str "TooMany", .int i]])) := by
  refine hot_ofV F sc__law_told (fun a dd C as X Q h => ?_) (fun a oe C dd cdv A outer s H g zz ff hr => ?_)
  · obtain ⟨rfl, _⟩ := h
    rfl
  · subst g
    refine ⟨_, _, (pss_cons (ps_set (i := 1) sc__law_told.nd rfl (Or.inl rfl) (pe_lst pa_nil))
  (pss_cons (ps_if (pt_val (pe_callB (call_isP (a := a) (oe := oe) (D := A₀.c_TooMany) (dd := dd) (List.mem_singleton.mpr rfl) T.s_TooMany.ec zz.zc ff) (by rfl) T.n_isinstance (by decide +kernel) (pa_cons (pv 0) (pa_cons (pe_glob (v := .ref A₀.c_BadNet) (by rfl) T.g_BadNet rfl) pa_nil)))) (pss_one (ps_expr (pe_bm PySem.F.plainAttrs_list PySem.F.slot_list_append PySem.F.type_list_append mt_append (pv 1) (pa_cons (pe_tup (pa_cons pe_str (pa_cons pe_no pa_nil))) pa_nil)))) pss_nil)
  (pss_cons (ps_if (pt_val (pe_callB (call_isP (a := a) (oe := oe) (D := A₀.c_TooMany) (dd := dd) (List.mem_singleton.mpr rfl) T.s_TooMany.ec zz.zc ff) (by rfl) T.n_isinstance (by decide +kernel) (pa_cons (pv 0) (pa_cons (pe_glob (v := .ref A₀.c_TooMany) (by rfl) T.g_TooMany rfl) pa_nil)))) (pss_one (ps_expr (pe_bm PySem.F.plainAttrs_list PySem.F.slot_list_append PySem.F.type_list_append mt_append (pv 1) (pa_cons (pe_tup (pa_cons pe_str (pa_cons (pe_xfP (a := a) (oe := oe) (C := A₀.c_TooMany) (cls := .ref A₀.c_TooMany) (d := some dd) (List.mem_singleton.mpr rfl) T.s_TooMany.xf (T.s_TooMany.no _ (by decide)) zz.zc ff (pv 0)) pa_nil))) pa_nil)))) pss_nil)
  (pss_cons (ps_if (pt_val (pe_callB (call_isP (a := a) (oe := oe) (D := A₀.c_TooMany) (dd := dd) (List.mem_singleton.mpr rfl) T.s_TooMany.ec zz.zc ff) (by rfl) T.n_isinstance (by decide +kernel) (pa_cons (pv 0) (pa_cons (pe_glob (v := .ref A₀.c_NotConnected) (by rfl) T.g_NotConnected rfl) pa_nil)))) (pss_one (ps_expr (pe_bm PySem.F.plainAttrs_list PySem.F.slot_list_append PySem.F.type_list_append mt_append (pv 1) (pa_cons (pe_tup (pa_cons pe_str (pa_cons pe_no pa_nil))) pa_nil)))) pss_nil)
  (pss_cons (ps_if (pt_val (pe_callB (call_isP (a := a) (oe := oe) (D := A₀.c_TooMany) (dd := dd) (List.mem_singleton.mpr rfl) T.s_TooMany.ec zz.zc ff) (by rfl) T.n_isinstance (by decide +kernel) (pa_cons (pv 0) (pa_cons (pe_glob (v := .ref A₀.c_NoRope) (by rfl) T.g_NoRope rfl) pa_nil)))) (pss_one (ps_expr (pe_bm PySem.F.plainAttrs_list PySem.F.slot_list_append PySem.F.type_list_append mt_append (pv 1) (pa_cons (pe_tup (pa_cons pe_str (pa_cons pe_no pa_nil))) pa_nil)))) pss_nil)
  (pss_cons (ps_if (pt_val (pe_callB (call_isP (a := a) (oe := oe) (D := A₀.c_TooMany) (dd := dd) (List.mem_singleton.mpr rfl) T.s_TooMany.ec zz.zc ff) (by rfl) T.n_isinstance (by decide +kernel) (pa_cons (pv 0) (pa_cons (pe_glob (v := .ref A₀.c_NoStation) (by rfl) T.g_NoStation rfl) pa_nil)))) (pss_one (ps_expr (pe_bm PySem.F.plainAttrs_list PySem.F.slot_list_append PySem.F.type_list_append mt_append (pv 1) (pa_cons (pe_tup (pa_cons pe_str (pa_cons pe_no pa_nil))) pa_nil)))) pss_nil)
  (pss_cons (ps_if (pt_val (pe_callB (call_isP (a := a) (oe := oe) (D := A₀.c_TooMany) (dd := dd) (List.mem_singleton.mpr rfl) T.s_TooMany.ec zz.zc ff) (by rfl) T.n_isinstance (by decide +kernel) (pa_cons (pv 0) (pa_cons (pe_glob (v := .ref A₀.c_NotThere) (by rfl) T.g_NotThere rfl) pa_nil)))) (pss_one (ps_expr (pe_bm PySem.F.plainAttrs_list PySem.F.slot_list_append PySem.F.type_list_append mt_append (pv 1) (pa_cons (pe_tup (pa_cons pe_str (pa_cons pe_no (pa_cons pe_no pa_nil)))) pa_nil)))) pss_nil)
  (pss_cons (ps_if (pt_not (pt_val (pe_callB (call_isP (a := a) (oe := oe) (D := A₀.c_TooMany) (dd := dd) (List.mem_singleton.mpr rfl) T.s_TooMany.ec zz.zc ff) (by rfl) T.n_isinstance (by decide +kernel) (pa_cons (pv 0) (pa_cons (pe_bltn (v := .ty "ValueError") (by rfl) T.n_ValueError (by decide +kernel) rfl) pa_nil))))) (pss_one (ps_expr (pe_bm PySem.F.plainAttrs_list PySem.F.slot_list_append PySem.F.type_list_append mt_append (pv 1) (pa_cons (pe_tup (pa_cons pe_str (pa_cons pe_int pa_nil))) pa_nil)))) pss_nil)
  (pss_one (ps_ret (pv 1))))))))))), fun W => (vs_seq (vs_setO 1 (vf_lst va_nil))
  (vs_seq (vs_if (vt_B (ve_isP (ve_var 0) (.own _))) (vs_drop (ve_lm 1 vm_append (va_cons (ve_tup (va_cons (ve_c fun _ => .str _) (va_cons ve_no va_nil))) va_nil))) vs_next)
  (vs_seq (vs_if (vt_B (ve_isP (ve_var 0) (.own _))) (vs_drop (ve_lm 1 vm_append (va_cons (ve_tup (va_cons (ve_c fun _ => .str _) (va_cons (ve_xf (ve_var 0)) va_nil))) va_nil))) vs_next)
  (vs_seq (vs_if (vt_B (ve_isP (ve_var 0) (.own _))) (vs_drop (ve_lm 1 vm_append (va_cons (ve_tup (va_cons (ve_c fun _ => .str _) (va_cons ve_no va_nil))) va_nil))) vs_next)
  (vs_seq (vs_if (vt_B (ve_isP (ve_var 0) (.own _))) (vs_drop (ve_lm 1 vm_append (va_cons (ve_tup (va_cons (ve_c fun _ => .str _) (va_cons ve_no va_nil))) va_nil))) vs_next)
  (vs_seq (vs_if (vt_B (ve_isP (ve_var 0) (.own _))) (vs_drop (ve_lm 1 vm_append (va_cons (ve_tup (va_cons (ve_c fun _ => .str _) (va_cons ve_no va_nil))) va_nil))) vs_next)
  (vs_seq (vs_if (vt_B (ve_isP (ve_var 0) (.own _))) (vs_drop (ve_lm 1 vm_append (va_cons (ve_tup (va_cons (ve_c fun _ => .str _) (va_cons ve_no (va_cons ve_no va_nil)))) va_nil))) vs_next)
  (vs_seq (vs_if (vt_not (vt_B (ve_isP (ve_var 0) (.ty _)))) (vs_drop (ve_lm 1 vm_append (va_cons (ve_tup (va_cons (ve_c fun _ => .str _) (va_cons (ve_c fun _ => .int _) va_nil))) va_nil))) vs_next)
  (vs_retO 1))))))))), fun as X Q h => ?_⟩
    obtain ⟨rfl, q⟩ := h
    intro q1
    refine ⟨⟨rfl, rfl, rfl⟩, false, T.s_TooMany.q1, iteF ?_⟩
    refine ⟨⟨rfl, rfl, rfl⟩, true, T.s_TooMany.q2, iteT ?_⟩
    refine ⟨⟨rfl, rfl, rfl⟩, _, rfl, by show 0 < 1000000; decide, ?_⟩
    refine ⟨⟨rfl, rfl, rfl⟩, false, T.s_TooMany.q3, iteF ?_⟩
    refine ⟨⟨rfl, rfl, rfl⟩, false, T.s_TooMany.q4, iteF ?_⟩
    refine ⟨⟨rfl, rfl, rfl⟩, false, T.s_TooMany.q5, iteF ?_⟩
    refine ⟨⟨rfl, rfl, rfl⟩, false, T.s_TooMany.q6, iteF ?_⟩
    refine ⟨⟨rfl, rfl, rfl⟩, true, T.s_TooMany.q7, iteF ?_⟩
    exact ⟨_, .fz .nil, q⟩

theorem fnp_NotConnected (T : Txt P w K mg base A₀) {f : Addr} {fd : FuncData} (F : Fun K "_law_told" "_law_told" s__law_told f fd) (i : Int) : FnP P w K mg base 1 f fd ["fault"] (spVP K (fun C => C = A₀.c_NotConnected) (svTold [("station", .int i)] [.tup [.str "NotConnected", .int i]])) := by
  refine hot_ofV F sc__law_told (fun a dd C as X Q h => ?_) (fun a oe C dd cdv A outer s H g zz ff hr => ?_)
  · obtain ⟨rfl, _⟩ := h
    rfl
  · subst g
    refine ⟨_, _, (pss_cons (ps_set (i := 1) sc__law_told.nd rfl (Or.inl rfl) (pe_lst pa_nil))
  (pss_cons (ps_if (pt_val (pe_callB (call_isP (a := a) (oe := oe) (D := A₀.c_NotConnected) (dd := dd) (List.mem_singleton.mpr rfl) T.s_NotConnected.ec zz.zc ff) (by rfl) T.n_isinstance (by decide +kernel) (pa_cons (pv 0) (pa_cons (pe_glob (v := .ref A₀.c_BadNet) (by rfl) T.g_BadNet rfl) pa_nil)))) (pss_one (ps_expr (pe_bm PySem.F.plainAttrs_list PySem.F.slot_list_append PySem.F.type_list_append mt_append (pv 1) (pa_cons (pe_tup (pa_cons pe_str (pa_cons pe_no pa_nil))) pa_nil)))) pss_nil)
  (pss_cons (ps_if (pt_val (pe_callB (call_isP (a := a) (oe := oe) (D := A₀.c_NotConnected) (dd := dd) (List.mem_singleton.mpr rfl) T.s_NotConnected.ec zz.zc ff) (by rfl) T.n_isinstance (by decide +kernel) (pa_cons (pv 0) (pa_cons (pe_glob (v := .ref A₀.c_TooMany) (by rfl) T.g_TooMany rfl) pa_nil)))) (pss_one (ps_expr (pe_bm PySem.F.plainAttrs_list PySem.F.slot_list_append PySem.F.type_list_append mt_append (pv 1) (pa_cons (pe_tup (pa_cons pe_str (pa_cons pe_no pa_nil))) pa_nil)))) pss_nil)
  (pss_cons (ps_if (pt_val (pe_callB (call_isP (a := a) (oe := oe) (D := A₀.c_NotConnected) (dd := dd) (List.mem_singleton.mpr rfl) T.s_NotConnected.ec zz.zc ff) (by rfl) T.n_isinstance (by decide +kernel) (pa_cons (pv 0) (pa_cons (pe_glob (v := .ref A₀.c_NotConnected) (by rfl) T.g_NotConnected rfl) pa_nil)))) (pss_one (ps_expr (pe_bm PySem.F.plainAttrs_list PySem.F.slot_list_append PySem.F.type_list_append mt_append (pv 1) (pa_cons (pe_tup (pa_cons pe_str (pa_cons (pe_xfP (a := a) (oe := oe) (C := A₀.c_NotConnected) (cls := .ref A₀.c_NotConnected) (d := some dd) (List.mem_singleton.mpr rfl) T.s_NotConnected.xf (T.s_NotConnected.no _ (by decide)) zz.zc ff (pv 0)) pa_nil))) pa_nil)))) pss_nil)
  (pss_cons (ps_if (pt_val (pe_callB (call_isP (a := a) (oe := oe) (D := A₀.c_NotConnected) (dd := dd) (List.mem_singleton.mpr rfl) T.s_NotConnected.ec zz.zc ff) (by rfl) T.n_isinstance (by decide +kernel) (pa_cons (pv 0) (pa_cons (pe_glob (v := .ref A₀.c_NoRope) (by rfl) T.g_NoRope rfl) pa_nil)))) (pss_one (ps_expr (pe_bm PySem.F.plainAttrs_list PySem.F.slot_list_append PySem.F.type_list_append mt_append (pv 1) (pa_cons (pe_tup (pa_cons pe_str (pa_cons pe_no pa_nil))) pa_nil)))) pss_nil)
  (pss_cons (ps_if (pt_val (pe_callB (call_isP (a := a) (oe := oe) (D := A₀.c_NotConnected) (dd := dd) (List.mem_singleton.mpr rfl) T.s_NotConnected.ec zz.zc ff) (by rfl) T.n_isinstance (by decide +kernel) (pa_cons (pv 0) (pa_cons (pe_glob (v := .ref A₀.c_NoStation) (by rfl) T.g_NoStation rfl) pa_nil)))) (pss_one (ps_expr (pe_bm PySem.F.plainAttrs_list PySem.F.slot_list_append PySem.F.type_list_append mt_append (pv 1) (pa_cons (pe_tup (pa_cons pe_str (pa_cons pe_no pa_nil))) pa_nil)))) pss_nil)
  (pss_cons (ps_if (pt_val (pe_callB (call_isP (a := a) (oe := oe) (D := A₀.c_NotConnected) (dd := dd) (List.mem_singleton.mpr rfl) T.s_NotConnected.ec zz.zc ff) (by rfl) T.n_isinstance (by decide +kernel) (pa_cons (pv 0) (pa_cons (pe_glob (v := .ref A₀.c_NotThere) (by rfl) T.g_NotThere rfl) pa_nil)))) (pss_one (ps_expr (pe_bm PySem.F.plainAttrs_list PySem.F.slot_list_append PySem.F.type_list_append mt_append (pv 1) (pa_cons (pe_tup (pa_cons pe_str (pa_cons pe_no (pa_cons (pe_xfP (a := a) (oe := oe) (C := A₀.c_NotConnected) (cls := .ref A₀.c_NotConnected) (d := some dd) (List.mem_singleton.mpr rfl) T.s_NotConnected.xf (T.s_NotConnected.no _ (by decide)) zz.zc ff (pv 0)) pa_nil)))) pa_nil)))) pss_nil)
  (pss_cons (ps_if (pt_not (pt_val (pe_callB (call_isP (a := a) (oe := oe) (D := A₀.c_NotConnected) (dd := dd) (List.mem_singleton.mpr rfl) T.s_NotConnected.ec zz.zc ff) (by rfl) T.n_isinstance (by decide +kernel) (pa_cons (pv 0) (pa_cons (pe_bltn (v := .ty "ValueError") (by rfl) T.n_ValueError (by decide +kernel) rfl) pa_nil))))) (pss_one (ps_expr (pe_bm PySem.F.plainAttrs_list PySem.F.slot_list_append PySem.F.type_list_append mt_append (pv 1) (pa_cons (pe_tup (pa_cons pe_str (pa_cons pe_int pa_nil))) pa_nil)))) pss_nil)
  (pss_one (ps_ret (pv 1))))))))))), fun W => (vs_seq (vs_setO 1 (vf_lst va_nil))
  (vs_seq (vs_if (vt_B (ve_isP (ve_var 0) (.own _))) (vs_drop (ve_lm 1 vm_append (va_cons (ve_tup (va_cons (ve_c fun _ => .str _) (va_cons ve_no va_nil))) va_nil))) vs_next)
  (vs_seq (vs_if (vt_B (ve_isP (ve_var 0) (.own _))) (vs_drop (ve_lm 1 vm_append (va_cons (ve_tup (va_cons (ve_c fun _ => .str _) (va_cons ve_no va_nil))) va_nil))) vs_next)
  (vs_seq (vs_if (vt_B (ve_isP (ve_var 0) (.own _))) (vs_drop (ve_lm 1 vm_append (va_cons (ve_tup (va_cons (ve_c fun _ => .str _) (va_cons (ve_xf (ve_var 0)) va_nil))) va_nil))) vs_next)
  (vs_seq (vs_if (vt_B (ve_isP (ve_var 0) (.own _))) (vs_drop (ve_lm 1 vm_append (va_cons (ve_tup (va_cons (ve_c fun _ => .str _) (va_cons ve_no va_nil))) va_nil))) vs_next)
  (vs_seq (vs_if (vt_B (ve_isP (ve_var 0) (.own _))) (vs_drop (ve_lm 1 vm_append (va_cons (ve_tup (va_cons (ve_c fun _ => .str _) (va_cons ve_no va_nil))) va_nil))) vs_next)
  (vs_seq (vs_if (vt_B (ve_isP (ve_var 0) (.own _))) (vs_drop (ve_lm 1 vm_append (va_cons (ve_tup (va_cons (ve_c fun _ => .str _) (va_cons ve_no (va_cons (ve_xf (ve_var 0)) va_nil)))) va_nil))) vs_next)
  (vs_seq (vs_if (vt_not (vt_B (ve_isP (ve_var 0) (.ty _)))) (vs_drop (ve_lm 1 vm_append (va_cons (ve_tup (va_cons (ve_c fun _ => .str _) (va_cons (ve_c fun _ => .int _) va_nil))) va_nil))) vs_next)
  (vs_retO 1))))))))), fun as X Q h => ?_⟩
    obtain ⟨rfl, q⟩ := h
    intro q1
    refine ⟨⟨rfl, rfl, rfl⟩, false, T.s_NotConnected.q1, iteF ?_⟩
    refine ⟨⟨rfl, rfl, rfl⟩, false, T.s_NotConnected.q2, iteF ?_⟩
    refine ⟨⟨rfl, rfl, rfl⟩, true, T.s_NotConnected.q3, iteT ?_⟩
    refine ⟨⟨rfl, rfl, rfl⟩, _, rfl, by show 0 < 1000000; decide, ?_⟩
    refine ⟨⟨rfl, rfl, rfl⟩, false, T.s_NotConnected.q4, iteF ?_⟩
    refine ⟨⟨rfl, rfl, rfl⟩, false, T.s_NotConnected.q5, iteF ?_⟩
    refine ⟨⟨rfl, rfl, rfl⟩, false, T.s_NotConnected.q6, iteF ?_⟩
    refine ⟨⟨rfl, rfl, rfl⟩, true, T.s_NotConnected.q7, iteF ?_⟩
    exact ⟨_, .fz .nil, q⟩

theorem fnp_NoRope (T : Txt P w K mg base A₀) {f : Addr} {fd : FuncData} (F : Fun K "_law_told" "_law_told" s__law_told f fd) (i : Int) : FnP P w K mg base 1 f fd ["fault"] (spVP K (fun C => C = A₀.c_NoRope) (svTold [("number", .int i)] [.tup [.str "NoRope", .int i]])) := by
  refine hot_ofV F sc__law_told (fun a dd C as X Q h => ?_) (fun a oe C dd cdv A outer s H g zz ff hr => ?_)
  · obtain ⟨rfl, _⟩ := h
    rfl
  · subst g
    refine ⟨_, _, (pss_cons (ps_set (i := 1) sc__law_told.nd rfl (Or.inl rfl) (pe_lst pa_nil))
  (pss_cons (ps_if (pt_val (pe_callB (call_isP (a := a) (oe := oe) (D := A₀.c_NoRope) (dd := dd) (List.mem_singleton.mpr rfl) T.s_NoRope.ec zz.zc ff) (by rfl) T.n_isinstance (by decide +kernel) (pa_cons (pv 0) (pa_cons (pe_glob (v := .ref A₀.c_BadNet) (by rfl) T.g_BadNet rfl) pa_nil)))) (pss_one (ps_expr (pe_bm PySem.F.plainAttrs_list PySem.F.slot_list_append PySem.F.type_list_append mt_append (pv 1) (pa_cons (pe_tup (pa_cons pe_str (pa_cons pe_no pa_nil))) pa_nil)))) pss_nil)
  (pss_cons (ps_if (pt_val (pe_callB (call_isP (a := a) (oe := oe) (D := A₀.c_NoRope) (dd := dd) (List.mem_singleton.mpr rfl) T.s_NoRope.ec zz.zc ff) (by rfl) T.n_isinstance (by decide +kernel) (pa_cons (pv 0) (pa_cons (pe_glob (v := .ref A₀.c_TooMany) (by rfl) T.g_TooMany rfl) pa_nil)))) (pss_one (ps_expr (pe_bm PySem.F.plainAttrs_list PySem.F.slot_list_append PySem.F.type_list_append mt_append (pv 1) (pa_cons (pe_tup (pa_cons pe_str (pa_cons pe_no pa_nil))) pa_nil)))) pss_nil)
  (pss_cons (ps_if (pt_val (pe_callB (call_isP (a := a) (oe := oe) (D := A₀.c_NoRope) (dd := dd) (List.mem_singleton.mpr rfl) T.s_NoRope.ec zz.zc ff) (by rfl) T.n_isinstance (by decide +kernel) (pa_cons (pv 0) (pa_cons (pe_glob (v := .ref A₀.c_NotConnected) (by rfl) T.g_NotConnected rfl) pa_nil)))) (pss_one (ps_expr (pe_bm PySem.F.plainAttrs_list PySem.F.slot_list_append PySem.F.type_list_append mt_append (pv 1) (pa_cons (pe_tup (pa_cons pe_str (pa_cons pe_no pa_nil))) pa_nil)))) pss_nil)
  (pss_cons (ps_if (pt_val (pe_callB (call_isP (a := a) (oe := oe) (D := A₀.c_NoRope) (dd := dd) (List.mem_singleton.mpr rfl) T.s_NoRope.ec zz.zc ff) (by rfl) T.n_isinstance (by decide +kernel) (pa_cons (pv 0) (pa_cons (pe_glob (v := .ref A₀.c_NoRope) (by rfl) T.g_NoRope rfl) pa_nil)))) (pss_one (ps_expr (pe_bm PySem.F.plainAttrs_list PySem.F.slot_list_append PySem.F.type_list_append mt_append (pv 1) (pa_cons (pe_tup (pa_cons pe_str (pa_cons (pe_xfP (a := a) (oe := oe) (C := A₀.c_NoRope) (cls := .ref A₀.c_NoRope) (d := some dd) (List.mem_singleton.mpr rfl) T.s_NoRope.xf (T.s_NoRope.no _ (by decide)) zz.zc ff (pv 0)) pa_nil))) pa_nil)))) pss_nil)
  (pss_cons (ps_if (pt_val (pe_callB (call_isP (a := a) (oe := oe) (D := A₀.c_NoRope) (dd := dd) (List.mem_singleton.mpr rfl) T.s_NoRope.ec zz.zc ff) (by rfl) T.n_isinstance (by decide +kernel) (pa_cons (pv 0) (pa_cons (pe_glob (v := .ref A₀.c_NoStation) (by rfl) T.g_NoStation rfl) pa_nil)))) (pss_one (ps_expr (pe_bm PySem.F.plainAttrs_list PySem.F.slot_list_append PySem.F.type_list_append mt_append (pv 1) (pa_cons (pe_tup (pa_cons pe_str (pa_cons (pe_xfP (a := a) (oe := oe) (C := A₀.c_NoRope) (cls := .ref A₀.c_NoRope) (d := some dd) (List.mem_singleton.mpr rfl) T.s_NoRope.xf (T.s_NoRope.no _ (by decide)) zz.zc ff (pv 0)) pa_nil))) pa_nil)))) pss_nil)
  (pss_cons (ps_if (pt_val (pe_callB (call_isP (a := a) (oe := oe) (D := A₀.c_NoRope) (dd := dd) (List.mem_singleton.mpr rfl) T.s_NoRope.ec zz.zc ff) (by rfl) T.n_isinstance (by decide +kernel) (pa_cons (pv 0) (pa_cons (pe_glob (v := .ref A₀.c_NotThere) (by rfl) T.g_NotThere rfl) pa_nil)))) (pss_one (ps_expr (pe_bm PySem.F.plainAttrs_list PySem.F.slot_list_append PySem.F.type_list_append mt_append (pv 1) (pa_cons (pe_tup (pa_cons pe_str (pa_cons pe_no (pa_cons pe_no pa_nil)))) pa_nil)))) pss_nil)
  (pss_cons (ps_if (pt_not (pt_val (pe_callB (call_isP (a := a) (oe := oe) (D := A₀.c_NoRope) (dd := dd) (List.mem_singleton.mpr rfl) T.s_NoRope.ec zz.zc ff) (by rfl) T.n_isinstance (by decide +kernel) (pa_cons (pv 0) (pa_cons (pe_bltn (v := .ty "ValueError") (by rfl) T.n_ValueError (by decide +kernel) rfl) pa_nil))))) (pss_one (ps_expr (pe_bm PySem.F.plainAttrs_list PySem.F.slot_list_append PySem.F.type_list_append mt_append (pv 1) (pa_cons (pe_tup (pa_cons pe_str (pa_cons pe_int pa_nil))) pa_nil)))) pss_nil)
  (pss_one (ps_ret (pv 1))))))))))), fun W => (vs_seq (vs_setO 1 (vf_lst va_nil))
  (vs_seq (vs_if (vt_B (ve_isP (ve_var 0) (.own _))) (vs_drop (ve_lm 1 vm_append (va_cons (ve_tup (va_cons (ve_c fun _ => .str _) (va_cons ve_no va_nil))) va_nil))) vs_next)
  (vs_seq (vs_if (vt_B (ve_isP (ve_var 0) (.own _))) (vs_drop (ve_lm 1 vm_append (va_cons (ve_tup (va_cons (ve_c fun _ => .str _) (va_cons ve_no va_nil))) va_nil))) vs_next)
  (vs_seq (vs_if (vt_B (ve_isP (ve_var 0) (.own _))) (vs_drop (ve_lm 1 vm_append (va_cons (ve_tup (va_cons (ve_c fun _ => .str _) (va_cons ve_no va_nil))) va_nil))) vs_next)
  (vs_seq (vs_if (vt_B (ve_isP (ve_var 0) (.own _))) (vs_drop (ve_lm 1 vm_append (va_cons (ve_tup (va_cons (ve_c fun _ => .str _) (va_cons (ve_xf (ve_var 0)) va_nil))) va_nil))) vs_next)
  (vs_seq (vs_if (vt_B (ve_isP (ve_var 0) (.own _))) (vs_drop (ve_lm 1 vm_append (va_cons (ve_tup (va_cons (ve_c fun _ => .str _) (va_cons (ve_xf (ve_var 0)) va_nil))) va_nil))) vs_next)
  (vs_seq (vs_if (vt_B (ve_isP (ve_var 0) (.own _))) (vs_drop (ve_lm 1 vm_append (va_cons (ve_tup (va_cons (ve_c fun _ => .str _) (va_cons ve_no (va_cons ve_no va_nil)))) va_nil))) vs_next)
  (vs_seq (vs_if (vt_not (vt_B (ve_isP (ve_var 0) (.ty _)))) (vs_drop (ve_lm 1 vm_append (va_cons (ve_tup (va_cons (ve_c fun _ => .str _) (va_cons (ve_c fun _ => .int _) va_nil))) va_nil))) vs_next)
  (vs_retO 1))))))))), fun as X Q h => ?_⟩
    obtain ⟨rfl, q⟩ := h
    intro q1
    refine ⟨⟨rfl, rfl, rfl⟩, false, T.s_NoRope.q1, iteF ?_⟩
    refine ⟨⟨rfl, rfl, rfl⟩, false, T.s_NoRope.q2, iteF ?_⟩
    refine ⟨⟨rfl, rfl, rfl⟩, false, T.s_NoRope.q3, iteF ?_⟩
    refine ⟨⟨rfl, rfl, rfl⟩, true, T.s_NoRope.q4, iteT ?_⟩
    refine ⟨⟨rfl, rfl, rfl⟩, _, rfl, by show 0 < 1000000; decide, ?_⟩
    refine ⟨⟨rfl, rfl, rfl⟩, false, T.s_NoRope.q5, iteF ?_⟩
    refine ⟨⟨rfl, rfl, rfl⟩, false, T.s_NoRope.q6, iteF ?_⟩
    refine ⟨⟨rfl, rfl, rfl⟩, true, T.s_NoRope.q7, iteF ?_⟩
    exact ⟨_, .fz .nil, q⟩

theorem fnp_NoStation (T : Txt P w K mg base A₀) {f : Addr} {fd : FuncData} (F : Fun K "_law_told" "_law_told" s__law_told f fd) (i : Int) : FnP P w K mg base 1 f fd ["fault"] (spVP K (fun C => C = A₀.c_NoStation) (svTold [("number", .int i)] [.tup [.str "NoStation", .int i]])) := by
  refine hot_ofV F sc__law_told (fun a dd C as X Q h => ?_) (fun a oe C dd cdv A outer s H g zz ff hr => ?_)
  · obtain ⟨rfl, _⟩ := h
    rfl
  · subst g
    refine ⟨_, _, (pss_cons (ps_set (i := 1) sc__law_told.nd rfl (Or.inl rfl) (pe_lst pa_nil))
  (pss_cons (ps_if (pt_val (pe_callB (call_isP (a := a) (oe := oe) (D := A₀.c_NoStation) (dd := dd) (List.mem_singleton.mpr rfl) T.s_NoStation.ec zz.zc ff) (by rfl) T.n_isinstance (by decide +kernel) (pa_cons (pv 0) (pa_cons (pe_glob (v := .ref A₀.c_BadNet) (by rfl) T.g_BadNet rfl) pa_nil)))) (pss_one (ps_expr (pe_bm PySem.F.plainAttrs_list PySem.F.slot_list_append PySem.F.type_list_append mt_append (pv 1) (pa_cons (pe_tup (pa_cons pe_str (pa_cons pe_no pa_nil))) pa_nil)))) pss_nil)
  (pss_cons (ps_if (pt_val (pe_callB (call_isP (a := a) (oe := oe) (D := A₀.c_NoStation) (dd := dd) (List.mem_singleton.mpr rfl) T.s_NoStation.ec zz.zc ff) (by rfl) T.n_isinstance (by decide +kernel) (pa_cons (pv 0) (pa_cons (pe_glob (v := .ref A₀.c_TooMany) (by rfl) T.g_TooMany rfl) pa_nil)))) (pss_one (ps_expr (pe_bm PySem.F.plainAttrs_list PySem.F.slot_list_append PySem.F.type_list_append mt_append (pv 1) (pa_cons (pe_tup (pa_cons pe_str (pa_cons pe_no pa_nil))) pa_nil)))) pss_nil)
  (pss_cons (ps_if (pt_val (pe_callB (call_isP (a := a) (oe := oe) (D := A₀.c_NoStation) (dd := dd) (List.mem_singleton.mpr rfl) T.s_NoStation.ec zz.zc ff) (by rfl) T.n_isinstance (by decide +kernel) (pa_cons (pv 0) (pa_cons (pe_glob (v := .ref A₀.c_NotConnected) (by rfl) T.g_NotConnected rfl) pa_nil)))) (pss_one (ps_expr (pe_bm PySem.F.plainAttrs_list PySem.F.slot_list_append PySem.F.type_list_append mt_append (pv 1) (pa_cons (pe_tup (pa_cons pe_str (pa_cons pe_no pa_nil))) pa_nil)))) pss_nil)
  (pss_cons (ps_if (pt_val (pe_callB (call_isP (a := a) (oe := oe) (D := A₀.c_NoStation) (dd := dd) (List.mem_singleton.mpr rfl) T.s_NoStation.ec zz.zc ff) (by rfl) T.n_isinstance (by decide +kernel) (pa_cons (pv 0) (pa_cons (pe_glob (v := .ref A₀.c_NoRope) (by rfl) T.g_NoRope rfl) pa_nil)))) (pss_one (ps_expr (pe_bm PySem.F.plainAttrs_list PySem.F.slot_list_append PySem.F.type_list_append mt_append (pv 1) (pa_cons (pe_tup (pa_cons pe_str (pa_cons (pe_xfP (a := a) (oe := oe) (C := A₀.c_NoStation) (cls := .ref A₀.c_NoStation) (d := some dd) (List.mem_singleton.mpr rfl) T.s_NoStation.xf (T.s_NoStation.no _ (by decide)) zz.zc ff (pv 0)) pa_nil))) pa_nil)))) pss_nil)
  (pss_cons (ps_if (pt_val (pe_callB (call_isP (a := a) (oe := oe) (D := A₀.c_NoStation) (dd := dd) (List.mem_singleton.mpr rfl) T.s_NoStation.ec zz.zc ff) (by rfl) T.n_isinstance (by decide +kernel) (pa_cons (pv 0) (pa_cons (pe_glob (v := .ref A₀.c_NoStation) (by rfl) T.g_NoStation rfl) pa_nil)))) (pss_one (ps_expr (pe_bm PySem.F.plainAttrs_list PySem.F.slot_list_append PySem.F.type_list_append mt_append (pv 1) (pa_cons (pe_tup (pa_cons pe_str (pa_cons (pe_xfP (a := a) (oe := oe) (C := A₀.c_NoStation) (cls := .ref A₀.c_NoStation) (d := some dd) (List.mem_singleton.mpr rfl) T.s_NoStation.xf (T.s_NoStation.no _ (by decide)) zz.zc ff (pv 0)) pa_nil))) pa_nil)))) pss_nil)
  (pss_cons (ps_if (pt_val (pe_callB (call_isP (a := a) (oe := oe) (D := A₀.c_NoStation) (dd := dd) (List.mem_singleton.mpr rfl) T.s_NoStation.ec zz.zc ff) (by rfl) T.n_isinstance (by decide +kernel) (pa_cons (pv 0) (pa_cons (pe_glob (v := .ref A₀.c_NotThere) (by rfl) T.g_NotThere rfl) pa_nil)))) (pss_one (ps_expr (pe_bm PySem.F.plainAttrs_list PySem.F.slot_list_append PySem.F.type_list_append mt_append (pv 1) (pa_cons (pe_tup (pa_cons pe_str (pa_cons pe_no (pa_cons pe_no pa_nil)))) pa_nil)))) pss_nil)
  (pss_cons (ps_if (pt_not (pt_val (pe_callB (call_isP (a := a) (oe := oe) (D := A₀.c_NoStation) (dd := dd) (List.mem_singleton.mpr rfl) T.s_NoStation.ec zz.zc ff) (by rfl) T.n_isinstance (by decide +kernel) (pa_cons (pv 0) (pa_cons (pe_bltn (v := .ty "ValueError") (by rfl) T.n_ValueError (by decide +kernel) rfl) pa_nil))))) (pss_one (ps_expr (pe_bm PySem.F.plainAttrs_list PySem.F.slot_list_append PySem.F.type_list_append mt_append (pv 1) (pa_cons (pe_tup (pa_cons pe_str (pa_cons pe_int pa_nil))) pa_nil)))) pss_nil)
  (pss_one (ps_ret (pv 1))))))))))), fun W => (vs_seq (vs_setO 1 (vf_lst va_nil))
  (vs_seq (vs_if (vt_B (ve_isP (ve_var 0) (.own _))) (vs_drop (ve_lm 1 vm_append (va_cons (ve_tup (va_cons (ve_c fun _ => .str _) (va_cons ve_no va_nil))) va_nil))) vs_next)
  (vs_seq (vs_if (vt_B (ve_isP (ve_var 0) (.own _))) (vs_drop (ve_lm 1 vm_append (va_cons (ve_tup (va_cons (ve_c fun _ => .str _) (va_cons ve_no va_nil))) va_nil))) vs_next)
  (vs_seq (vs_if (vt_B (ve_isP (ve_var 0) (.own _))) (vs_drop (ve_lm 1 vm_append (va_cons (ve_tup (va_cons (ve_c fun _ => .str _) (va_cons ve_no va_nil))) va_nil))) vs_next)
  (vs_seq (vs_if (vt_B (ve_isP (ve_var 0) (.own _))) (vs_drop (ve_lm 1 vm_append (va_cons (ve_tup (va_cons (ve_c fun _ => .str _) (va_cons (ve_xf (ve_var 0)) va_nil))) va_nil))) vs_next)
  (vs_seq (vs_if (vt_B (ve_isP (ve_var 0) (.own _))) (vs_drop (ve_lm 1 vm_append (va_cons (ve_tup (va_cons (ve_c fun _ => .str _) (va_cons (ve_xf (ve_var 0)) va_nil))) va_nil))) vs_next)
  (vs_seq (vs_if (vt_B (ve_isP (ve_var 0) (.own _))) (vs_drop (ve_lm 1 vm_append (va_cons (ve_tup (va_cons (ve_c fun _ => .str _) (va_cons ve_no (va_cons ve_no va_nil)))) va_nil))) vs_next)
  (vs_seq (vs_if (vt_not (vt_B (ve_isP (ve_var 0) (.ty _)))) (vs_drop (ve_lm 1 vm_append (va_cons (ve_tup (va_cons (ve_c fun _ => .str _) (va_cons (ve_c fun _ => .int _) va_nil))) va_nil))) vs_next)
  (vs_retO 1))))))))), fun as X Q h => ?_⟩
    obtain ⟨rfl, q⟩ := h
    intro q1
    refine ⟨⟨rfl, rfl, rfl⟩, false, T.s_NoStation.q1, iteF ?_⟩
    refine ⟨⟨rfl, rfl, rfl⟩, false, T.s_NoStation.q2, iteF ?_⟩
    refine ⟨⟨rfl, rfl, rfl⟩, false, T.s_NoStation.q3, iteF ?_⟩
    refine ⟨⟨rfl, rfl, rfl⟩, false, T.s_NoStation.q4, iteF ?_⟩
    refine ⟨⟨rfl, rfl, rfl⟩, true, T.s_NoStation.q5, iteT ?_⟩
    refine ⟨⟨rfl, rfl, rfl⟩, _, rfl, by show 0 < 1000000; decide, ?_⟩
    refine ⟨⟨rfl, rfl, rfl⟩, false, T.s_NoStation.q6, iteF ?_⟩
    refine ⟨⟨rfl, rfl, rfl⟩, true, T.s_NoStation.q7, iteF ?_⟩
    exact ⟨_, .fz .nil, q⟩

theorem fnp_NotThere (T : Txt P w K mg base A₀) {f : Addr} {fd : FuncData} (F : Fun K "_law_told" "_law_told" s__law_told f fd) (r s : Int) : FnP P w K mg base 1 f fd ["fault"] (spVP K (fun C => C = A₀.c_NotThere) (svTold [("station", .int s), ("rope", .int r)] [.tup [.str "NotThere", .int r, .int s]])) := by
  refine hot_ofV F sc__law_told (fun a dd C as X Q h => ?_) (fun a oe C dd cdv A outer s H g zz ff hr => ?_)
  · obtain ⟨rfl, _⟩ := h
    rfl
  · subst g
    refine ⟨_, _, (pss_cons (ps_set (i := 1) sc__law_told.nd rfl (Or.inl rfl) (pe_lst pa_nil))
  (pss_cons (ps_if (pt_val (pe_callB (call_isP (a := a) (oe := oe) (D := A₀.c_NotThere) (dd := dd) (List.mem_singleton.mpr rfl) T.s_NotThere.ec zz.zc ff) (by rfl) T.n_isinstance (by decide +kernel) (pa_cons (pv 0) (pa_cons (pe_glob (v := .ref A₀.c_BadNet) (by rfl) T.g_BadNet rfl) pa_nil)))) (pss_one (ps_expr (pe_bm PySem.F.plainAttrs_list PySem.F.slot_list_append PySem.F.type_list_append mt_append (pv 1) (pa_cons (pe_tup (pa_cons pe_str (pa_cons pe_no pa_nil))) pa_nil)))) pss_nil)
  (pss_cons (ps_if (pt_val (pe_callB (call_isP (a := a) (oe := oe) (D := A₀.c_NotThere) (dd := dd) (List.mem_singleton.mpr rfl) T.s_NotThere.ec zz.zc ff) (by rfl) T.n_isinstance (by decide +kernel) (pa_cons (pv 0) (pa_cons (pe_glob (v := .ref A₀.c_TooMany) (by rfl) T.g_TooMany rfl) pa_nil)))) (pss_one (ps_expr (pe_bm PySem.F.plainAttrs_list PySem.F.slot_list_append PySem.F.type_list_append mt_append (pv 1) (pa_cons (pe_tup (pa_cons pe_str (pa_cons pe_no pa_nil))) pa_nil)))) pss_nil)
  (pss_cons (ps_if (pt_val (pe_callB (call_isP (a := a) (oe := oe) (D := A₀.c_NotThere) (dd := dd) (List.mem_singleton.mpr rfl) T.s_NotThere.ec zz.zc ff) (by rfl) T.n_isinstance (by decide +kernel) (pa_cons (pv 0) (pa_cons (pe_glob (v := .ref A₀.c_NotConnected) (by rfl) T.g_NotConnected rfl) pa_nil)))) (pss_one (ps_expr (pe_bm PySem.F.plainAttrs_list PySem.F.slot_list_append PySem.F.type_list_append mt_append (pv 1) (pa_cons (pe_tup (pa_cons pe_str (pa_cons (pe_xfP (a := a) (oe := oe) (C := A₀.c_NotThere) (cls := .ref A₀.c_NotThere) (d := some dd) (List.mem_singleton.mpr rfl) T.s_NotThere.xf (T.s_NotThere.no _ (by decide)) zz.zc ff (pv 0)) pa_nil))) pa_nil)))) pss_nil)
  (pss_cons (ps_if (pt_val (pe_callB (call_isP (a := a) (oe := oe) (D := A₀.c_NotThere) (dd := dd) (List.mem_singleton.mpr rfl) T.s_NotThere.ec zz.zc ff) (by rfl) T.n_isinstance (by decide +kernel) (pa_cons (pv 0) (pa_cons (pe_glob (v := .ref A₀.c_NoRope) (by rfl) T.g_NoRope rfl) pa_nil)))) (pss_one (ps_expr (pe_bm PySem.F.plainAttrs_list PySem.F.slot_list_append PySem.F.type_list_append mt_append (pv 1) (pa_cons (pe_tup (pa_cons pe_str (pa_cons pe_no pa_nil))) pa_nil)))) pss_nil)
  (pss_cons (ps_if (pt_val (pe_callB (call_isP (a := a) (oe := oe) (D := A₀.c_NotThere) (dd := dd) (List.mem_singleton.mpr rfl) T.s_NotThere.ec zz.zc ff) (by rfl) T.n_isinstance (by decide +kernel) (pa_cons (pv 0) (pa_cons (pe_glob (v := .ref A₀.c_NoStation) (by rfl) T.g_NoStation rfl) pa_nil)))) (pss_one (ps_expr (pe_bm PySem.F.plainAttrs_list PySem.F.slot_list_append PySem.F.type_list_append mt_append (pv 1) (pa_cons (pe_tup (pa_cons pe_str (pa_cons pe_no pa_nil))) pa_nil)))) pss_nil)
  (pss_cons (ps_if (pt_val (pe_callB (call_isP (a := a) (oe := oe) (D := A₀.c_NotThere) (dd := dd) (List.mem_singleton.mpr rfl) T.s_NotThere.ec zz.zc ff) (by rfl) T.n_isinstance (by decide +kernel) (pa_cons (pv 0) (pa_cons (pe_glob (v := .ref A₀.c_NotThere) (by rfl) T.g_NotThere rfl) pa_nil)))) (pss_one (ps_expr (pe_bm PySem.F.plainAttrs_list PySem.F.slot_list_append PySem.F.type_list_append mt_append (pv 1) (pa_cons (pe_tup (pa_cons pe_str (pa_cons (pe_xfP (a := a) (oe := oe) (C := A₀.c_NotThere) (cls := .ref A₀.c_NotThere) (d := some dd) (List.mem_singleton.mpr rfl) T.s_NotThere.xf (T.s_NotThere.no _ (by decide)) zz.zc ff (pv 0)) (pa_cons (pe_xfP (a := a) (oe := oe) (C := A₀.c_NotThere) (cls := .ref A₀.c_NotThere) (d := some dd) (List.mem_singleton.mpr rfl) T.s_NotThere.xf (T.s_NotThere.no _ (by decide)) zz.zc ff (pv 0)) pa_nil)))) pa_nil)))) pss_nil)
  (pss_cons (ps_if (pt_not (pt_val (pe_callB (call_isP (a := a) (oe := oe) (D := A₀.c_NotThere) (dd := dd) (List.mem_singleton.mpr rfl) T.s_NotThere.ec zz.zc ff) (by rfl) T.n_isinstance (by decide +kernel) (pa_cons (pv 0) (pa_cons (pe_bltn (v := .ty "ValueError") (by rfl) T.n_ValueError (by decide +kernel) rfl) pa_nil))))) (pss_one (ps_expr (pe_bm PySem.F.plainAttrs_list PySem.F.slot_list_append PySem.F.type_list_append mt_append (pv 1) (pa_cons (pe_tup (pa_cons pe_str (pa_cons pe_int pa_nil))) pa_nil)))) pss_nil)
  (pss_one (ps_ret (pv 1))))))))))), fun W => (vs_seq (vs_setO 1 (vf_lst va_nil))
  (vs_seq (vs_if (vt_B (ve_isP (ve_var 0) (.own _))) (vs_drop (ve_lm 1 vm_append (va_cons (ve_tup (va_cons (ve_c fun _ => .str _) (va_cons ve_no va_nil))) va_nil))) vs_next)
  (vs_seq (vs_if (vt_B (ve_isP (ve_var 0) (.own _))) (vs_drop (ve_lm 1 vm_append (va_cons (ve_tup (va_cons (ve_c fun _ => .str _) (va_cons ve_no va_nil))) va_nil))) vs_next)
  (vs_seq (vs_if (vt_B (ve_isP (ve_var 0) (.own _))) (vs_drop (ve_lm 1 vm_append (va_cons (ve_tup (va_cons (ve_c fun _ => .str _) (va_cons (ve_xf (ve_var 0)) va_nil))) va_nil))) vs_next)
  (vs_seq (vs_if (vt_B (ve_isP (ve_var 0) (.own _))) (vs_drop (ve_lm 1 vm_append (va_cons (ve_tup (va_cons (ve_c fun _ => .str _) (va_cons ve_no va_nil))) va_nil))) vs_next)
  (vs_seq (vs_if (vt_B (ve_isP (ve_var 0) (.own _))) (vs_drop (ve_lm 1 vm_append (va_cons (ve_tup (va_cons (ve_c fun _ => .str _) (va_cons ve_no va_nil))) va_nil))) vs_next)
  (vs_seq (vs_if (vt_B (ve_isP (ve_var 0) (.own _))) (vs_drop (ve_lm 1 vm_append (va_cons (ve_tup (va_cons (ve_c fun _ => .str _) (va_cons (ve_xf (ve_var 0)) (va_cons (ve_xf (ve_var 0)) va_nil)))) va_nil))) vs_next)
  (vs_seq (vs_if (vt_not (vt_B (ve_isP (ve_var 0) (.ty _)))) (vs_drop (ve_lm 1 vm_append (va_cons (ve_tup (va_cons (ve_c fun _ => .str _) (va_cons (ve_c fun _ => .int _) va_nil))) va_nil))) vs_next)
  (vs_retO 1))))))))), fun as X Q h => ?_⟩
    obtain ⟨rfl, q⟩ := h
    intro q1
    refine ⟨⟨rfl, rfl, rfl⟩, false, T.s_NotThere.q1, iteF ?_⟩
    refine ⟨⟨rfl, rfl, rfl⟩, false, T.s_NotThere.q2, iteF ?_⟩
    refine ⟨⟨rfl, rfl, rfl⟩, false, T.s_NotThere.q3, iteF ?_⟩
    refine ⟨⟨rfl, rfl, rfl⟩, false, T.s_NotThere.q4, iteF ?_⟩
    refine ⟨⟨rfl, rfl, rfl⟩, false, T.s_NotThere.q5, iteF ?_⟩
    refine ⟨⟨rfl, rfl, rfl⟩, true, T.s_NotThere.q6, iteT ?_⟩
    refine ⟨⟨rfl, rfl, rfl⟩, _, rfl, ⟨rfl, rfl, rfl⟩, _, rfl, by show 0 < 1000000; decide, ?_⟩
    refine ⟨⟨rfl, rfl, rfl⟩, true, T.s_NotThere.q7, iteF ?_⟩
    exact ⟨_, .fz .nil, q⟩
end
end Tw

namespace Tw
open PySem PySem.Spec PyProof.Rows L2
/-- an own exception of the program, its fields, and what the law tells of it -/
inductive Told (A₀ : Ad) : Addr → List (Str × D) → List D → Prop
  | bad (i : Int) : Told A₀ A₀.c_BadNet [("place", .int i)] [.tup [.str "BadNet", .int i]]
  | many (i : Int) : Told A₀ A₀.c_TooMany [("limit", .int i)] [.tup [.str "TooMany", .int i]]
  | con (i : Int) : Told A₀ A₀.c_NotConnected [("station", .int i)] [.tup [.str "NotConnected", .int i]]
  | rope (i : Int) : Told A₀ A₀.c_NoRope [("number", .int i)] [.tup [.str "NoRope", .int i]]
  | station (i : Int) : Told A₀ A₀.c_NoStation [("number", .int i)] [.tup [.str "NoStation", .int i]]
  | there (r s : Int) : Told A₀ A₀.c_NotThere [("station", .int s), ("rope", .int r)] [.tup [.str "NotThere", .int r, .int s]]
def svToldA (A₀ : Ad) : Addr → Addr → Addr → VSp := fun a dd C as X Q => ∃ gs out, Told A₀ C gs out ∧ svTold gs out a dd C as X Q
section
variable {P : Program} {w : World} {K : PySem.W.Frag} {mg : Str → Option Value} {base : Heap} {A₀ : Ad}
theorem FnP.any {ι : Type} {k : Nat} {f : Addr} {fd : FuncData} {ps : List Str} {sp : ι → Addr × Obj → Sp} (F : ∀ i, FnP P w K mg base k f fd ps (sp i)) : FnP P w K mg base k f fd ps (fun p vs H Q E => ∃ i, sp i p vs H Q E) :=
  ⟨fun p vs H Q E ⟨i, h⟩ => (F i).len p vs H Q E h, fun p A outer s H args us vs Q hr ho hp he hb hv ⟨i, h⟩ => (F i).run p A outer s H args us vs Q hr ho hp he hb hv h⟩
theorem fnp_told (T : Txt P w K mg base A₀) : ∃ f fd, FnP P w K mg base 1 f fd ["fault"] (spVP K (fun _ => True) (svToldA A₀)) ∧ mg "_law_told" = some (.ref f) ∧ PySem.W.keepIn K (.ref f) = true ∧ Binds K fd ["fault"] [] := by
  obtain ⟨f, fd, F, m⟩ := T.d__law_told.ex
  have G : ∀ i : { x : Addr × List (Str × D) × List D // Told A₀ x.1 x.2.1 x.2.2 }, FnP P w K mg base 1 f fd ["fault"] (spVP K (fun C => C = i.1.1) (svTold i.1.2.1 i.1.2.2)) := fun ⟨⟨C, gs, out⟩, h⟩ => by
    cases h with
    | bad i => exact fnp_BadNet T F i
    | many i => exact fnp_TooMany T F i
    | con i => exact fnp_NotConnected T F i
    | rope i => exact fnp_NoRope T F i
    | station i => exact fnp_NoStation T F i
    | there r s => exact fnp_NotThere T F r s
  refine ⟨f, fd, (FnP.any G).imp fun p vs H Q E h => ?_, m, F.kp, F.binds b__law_told⟩
  obtain ⟨C, dd, _, zn, ff, FF, as, X, Qd, c, ⟨gs, out, t, sp⟩, k, kx⟩ := h
  exact ⟨⟨⟨C, gs, out⟩, t⟩, C, dd, rfl, zn, ff, FF, as, X, Qd, c, sp, k, kx⟩
/-- the class is caught by the law's handlers -/
theorem told_ex (T : Txt P w K mg base A₀) {C : Addr} {gs : List (Str × D)} {out : List D} (h : Told A₀ C gs out) : PySem.W.exmOne K (.ref C) (.ref A₀.c_RopeError) = some true := by
  cases h with
  | bad => exact T.s_BadNet.ex
  | many => exact T.s_TooMany.ex
  | con => exact T.s_NotConnected.ex
  | rope => exact T.s_NoRope.ex
  | station => exact T.s_NoStation.ex
  | there => exact T.s_NotThere.ex
theorem mv_ends (T : Txt P w K mg base A₀) : ∃ f fd, Meth K A₀.c_Net "ends" f ∧ FnOk P w K mg base (L2N.CX P w) 5 f fd ["self", "rope"] (spV K (svEnds A₀)) ∧ Binds K fd ["self", "rope"] [] := by
  obtain ⟨f, fd, M, F⟩ := T.net_ends
  refine ⟨f, fd, M, ov_Net_ends T F, ?_⟩
  obtain ⟨oc, od, kV, doc, pm, an, cdv, ct, osl, rfl, _, _⟩ := F.ex
  exact Binds.all fun us hl => b_Net_ends kV doc pm an cdv ct us hl
theorem mv_other (T : Txt P w K mg base A₀) : ∃ f fd, Meth K A₀.c_Net "other_end" f ∧ FnOk P w K mg base (L2N.CX P w) 5 f fd ["self", "rope", "station"] (spV K (svOther A₀)) ∧ Binds K fd ["self", "rope", "station"] [] := by
  obtain ⟨f, fd, M, F⟩ := T.net_other_end
  refine ⟨f, fd, M, ov_Net_other_end T F, ?_⟩
  obtain ⟨oc, od, kV, doc, pm, an, cdv, ct, osl, rfl, _, _⟩ := F.ex
  exact Binds.all fun us hl => b_Net_other_end kV doc pm an cdv ct us hl
theorem takes0N {X : Cx} : L2N.Takes X (fun _ _ _ _ => False) := fun _ _ x => by
  obtain ⟨_, _, _, _, _, _, _, _, _, _, _, _, _, _, _, _, z⟩ := x
  exact z.elim
abbrev eN (n : Nat) (W : WX) : XK := fun cls d H => ∀ σ : L2.St, σ.length = n → W cls d σ H
theorem lets3 {W : WX} : Lets W 3 (eN 3 W) := ⟨fun _ _ _ h => h⟩
theorem lets4 {W : WX} : Lets W 4 (eN 4 W) := ⟨fun _ _ _ h => h⟩
abbrev tHand (K : PySem.W.Frag) (A₀ : Ad) (i : Nat) : Addr → Value → Option Addr → TS := fun a cls d => tRet (tTold K (fun _ => True) (svToldA A₀) (tCons (tVar i) tNil) a cls d)
abbrev t__law_pair_told (K : PySem.W.Frag) (A₀ : Ad) (W : WX) : TS := tRet (tLst (tCons (tMeth A₀.c_Net "ends" (spV K (svEnds A₀)) [] (eN 3 W) (tVar 0) (tCons (tVar 1) tNil)) tNil))
theorem pss__law_pair_told (T : Txt P w K mg base A₀) {f : Addr} {cdv : Value} {A : Around} {outer : List Env} {s : Shared} {H : Hp} {E : XK} (hr : Room 5 (A.deeper (envOfC "_law_pair_told" (defScope s__law_pair_told) s.heap.objs.size f cdv))) {W : WX} {pn : List (Addr × Obj)} {xe : Value → Shared → Prop}
    (tk : L2N.Takes ((cxOf CX0 P w K mg base ["net", "rope", "fault"] "_law_pair_told" (defScope s__law_pair_told) f cdv A outer s H E).nox.tr pn xe) W) {body : List Stmt} (hb : ∃ hs es fs pos rest, defBody s__law_pair_told = .Try body hs es fs pos :: rest) : PSs ((cxOf CX0 P w K mg base ["net", "rope", "fault"] "_law_pair_told" (defScope s__law_pair_told) f cdv A outer s H E).nox.tr pn xe) body (t__law_pair_told K A₀ W) := by
  obtain ⟨_, _, mE, RE, bE⟩ := mv_ends T
  obtain ⟨hs, es, fs, pos, rest, eb⟩ := hb
  injection eb with eb _
  injection eb with eb
  subst eb
  exact (pss_one (ps_ret (pe_lst (pa_cons (pe_meth (pv 0) T.net_cl mE RE (hr.mono (by first | exact Nat.le_refl _ | decide)) bE .nil (passes_len tk) (pa_cons (pv 1) pa_nil)) pa_nil))))

/-- what ends must tell -/
def endsD (ps : List Rope) (r : Int) : List D := if 0 ≤ r ∧ r < ps.length then (ps[r.toNat]?.map pD).toList else [.tup [.str "NoRope", .int r]]
def svPairTold (A₀ : Ad) : VSp := fun as _ Q => ∃ (r n : Int) (ps : List Rope), as = [.fz (netD A₀ n ps), .fz (.int r)] ∧ r.natAbs < 2 ^ 62 ∧ Q (.new (.lst (endsD ps r))) as
theorem vs_pair (T : Txt P w K mg base A₀) : ∃ ws : WS, (∀ W : WX, VS K W (fun D σ H => t__law_pair_told K A₀ (wAs K (.ref A₀.c_RopeError) 2 (tHand K A₀ 2) (fun _ _ _ _ => False) D) D σ H) ws) ∧ ∀ as X Q, svPairTold A₀ as X Q → ws (endsOf as Q) (fun C gs _ => X C gs) (startE 3 as) := by
  refine ⟨_, fun W => vs_tryN (c := .ref A₀.c_RopeError) (i := 2) (tb := t__law_pair_told K A₀) (ts := tHand K A₀ 2) (hb := fun W => (vs_retF (vf_lst (va_cons (VRs.ve (vrs_methX lets3 (ve_var 0) (vk_val (ve_var 1) vk_nil))) va_nil)))) (hs := fun a dd C => vs_retF (VRs.vf (vrs_told (vk_val (ve_var 2) vk_nil)))), fun as X Q h => ?_⟩
  obtain ⟨r, n, ps, rfl, rb, q⟩ := h
  refine ⟨⟨rfl, rfl⟩, r, n, ps, rfl, rb, fun p r0 hp => ?_, fun no => ?_⟩
  · have hr := (List.getElem?_eq_some_iff.mp hp).1
    unfold endsD at q
    rw [if_pos ⟨r0, by omega⟩, hp] at q
    exact ⟨_, .fz (.fz .nil), q⟩
  · unfold endsD at q
    rw [if_neg no] at q
    exact ⟨true, T.s_NoRope.ex, fun _ => ⟨trivial, fun a dd => ⟨trivial, _, _, .rope r, rfl, _, .fz (.fz .nil), q⟩⟩, fun z => by cases z⟩
theorem cv__law_pair_told (T : Txt P w K mg base A₀) : Cal P w K mg base CX0 "_law_pair_told" 6 ["net", "rope"] (spV K (svPairTold A₀)) := by
  obtain ⟨fT, fdT, FT, mT, kT, bT⟩ := fnp_told T
  obtain ⟨ws, v1, v2⟩ := vs_pair T
  refine cal_ofV T.d__law_pair_told sc__law_pair_told b__law_pair_told (fun as X Q h => ?_) (fun f cdv A outer s H E hr => ⟨_, ws, (pss_one (L2N.ps_try_as (i := 2) (c := .ref A₀.c_RopeError) (tb := t__law_pair_told K A₀) (ts := tHand K A₀ 2) (Wout := fun _ _ _ _ => False) rfl rfl sc__law_pair_told.nd rfl rfl ⟨rfl, by decide, Or.inl T.g_RopeError⟩ takes0N
      (fun W pn xe tk _ => pss__law_pair_told T hr tk ⟨_, _, _, _, _, rfl⟩)
      (fun a oe cls d pn hz hf => pss_one (ps_ret ⟨fun pins s σ H Q I h => (pe_callP (p := (a, oe)) FT ?_ ?_ List.mem_cons_self (by rfl) mT kT bT (pa_cons (pv 2) pa_nil)).run pins s σ H Q I (h oe hz hf)⟩)))), v1, v2⟩)
  · obtain ⟨r, n, ps, rfl, _⟩ := h
    rfl
  · exact L2H.RoomH.mono (k := 5) ⟨hr.dp, hr.un⟩ (by decide)
  · obtain ⟨vs, hv⟩ := hf
    exact ⟨rfl, vs, hv, hz.2.2 vs hv⟩
end
end Tw

namespace Tw
open PySem PySem.Spec PyProof.Rows L2
section
variable {P : Program} {w : World} {K : PySem.W.Frag} {mg : Str → Option Value} {base : Heap} {A₀ : Ad}
abbrev t__law_far_told (K : PySem.W.Frag) (A₀ : Ad) (W : WX) : TS := tRet (tLst (tCons (tMeth A₀.c_Net "other_end" (spV K (svOther A₀)) [] (eN 4 W) (tVar 0) (tCons (tVar 1) (tCons (tVar 2) tNil))) tNil))
theorem pss__law_far_told (T : Txt P w K mg base A₀) {f : Addr} {cdv : Value} {A : Around} {outer : List Env} {s : Shared} {H : Hp} {E : XK} (hr : Room 5 (A.deeper (envOfC "_law_far_told" (defScope s__law_far_told) s.heap.objs.size f cdv))) {W : WX} {pn : List (Addr × Obj)} {xe : Value → Shared → Prop}
    (tk : L2N.Takes ((cxOf CX0 P w K mg base ["net", "rope", "station", "fault"] "_law_far_told" (defScope s__law_far_told) f cdv A outer s H E).nox.tr pn xe) W) {body : List Stmt} (hb : ∃ hs es fs pos rest, defBody s__law_far_told = .Try body hs es fs pos :: rest) : PSs ((cxOf CX0 P w K mg base ["net", "rope", "station", "fault"] "_law_far_told" (defScope s__law_far_told) f cdv A outer s H E).nox.tr pn xe) body (t__law_far_told K A₀ W) := by
  obtain ⟨_, _, mO, RO, bO⟩ := mv_other T
  obtain ⟨hs, es, fs, pos, rest, eb⟩ := hb
  injection eb with eb _
  injection eb with eb
  subst eb
  exact (pss_one (ps_ret (pe_lst (pa_cons (pe_meth (pv 0) T.net_cl mO RO (hr.mono (by first | exact Nat.le_refl _ | decide)) bO .nil (passes_len tk) (pa_cons (pv 1) (pa_cons (pv 2) pa_nil))) pa_nil))))
def svFarTold (A₀ : Ad) : VSp := fun as _ Q => ∃ (r s n : Int) (ps : List Rope), as = [.fz (netD A₀ n ps), .fz (.int r), .fz (.int s)] ∧ r.natAbs < 2 ^ 62 ∧ s.natAbs < 2 ^ 62 ∧ Q (.new (.lst (farD n ps r s))) as
abbrev u__law_far_told (K : PySem.W.Frag) (A₀ : Ad) : TS := fun D σ H => t__law_far_told K A₀ (wAs K (.ref A₀.c_RopeError) 3 (tHand K A₀ 3) (fun _ _ _ _ => False) D) D σ H
theorem vs__law_far_told (T : Txt P w K mg base A₀) : ∃ ws : WS, (∀ W : WX, VS K W (u__law_far_told K A₀) ws) ∧ ∀ as X Q, (svFarTold A₀) as X Q → ws (endsOf as Q) (fun C gs _ => X C gs) (startE 4 as) := by
  refine ⟨_, fun W => vs_tryN (c := .ref A₀.c_RopeError) (i := 3) (tb := t__law_far_told K A₀) (ts := tHand K A₀ 3) (hb := fun W => (vs_retF (vf_lst (va_cons (VRs.ve (vrs_methX lets4 (ve_var 0) (vk_val (ve_var 1) (vk_val (ve_var 2) vk_nil)))) va_nil)))) (hs := fun a dd C => vs_retF (VRs.vf (vrs_told (vk_val (ve_var 3) vk_nil)))), fun as X Q h => ?_⟩
  obtain ⟨r, s, n, ps, rfl, rb, sb, q⟩ := h
  refine ⟨⟨rfl, rfl⟩, r, s, n, ps, rfl, rb, sb, fun no => ?_, fun ok no => ?_, fun p r0 hp so => ⟨fun e => ?_, fun n1 e => ?_, fun n1 n2 => ?_⟩⟩
  · unfold farD at q
    rw [if_pos (by omega)] at q
    exact ⟨true, T.s_NoRope.ex, fun _ => ⟨trivial, fun a dd => ⟨trivial, _, _, .rope r, rfl, _, .fz (.fz (.fz .nil)), q⟩⟩, fun z => by cases z⟩
  · unfold farD at q
    rw [if_neg (by omega), if_pos (by omega)] at q
    exact ⟨true, T.s_NoStation.ex, fun _ => ⟨trivial, fun a dd => ⟨trivial, _, _, .station s, rfl, _, .fz (.fz (.fz .nil)), q⟩⟩, fun z => by cases z⟩
  · have hr := (List.getElem?_eq_some_iff.mp hp).1
    unfold farD at q
    rw [if_neg (by omega), if_neg (by omega), hp] at q
    have he : hasEnd s p = true := by rw [← hasEnd_in]; exact decide_eq_true (by rw [e]; exact List.mem_cons_self)
    have q : Q (.new (.lst (if hasEnd s p = true then [D.int (p.1 + p.2 - s)] else [.tup [.str "NotThere", .int r, .int s]]))) [.fz (netD A₀ n ps), .fz (.int r), .fz (.int s)] := q
    rw [if_pos he, show p.1 + p.2 - s = p.2 by omega] at q
    exact ⟨_, .fz (.fz (.fz .nil)), q⟩
  · have hr := (List.getElem?_eq_some_iff.mp hp).1
    unfold farD at q
    rw [if_neg (by omega), if_neg (by omega), hp] at q
    have he : hasEnd s p = true := by rw [← hasEnd_in]; exact decide_eq_true (by rw [e]; exact List.mem_cons_of_mem _ List.mem_cons_self)
    have q : Q (.new (.lst (if hasEnd s p = true then [D.int (p.1 + p.2 - s)] else [.tup [.str "NotThere", .int r, .int s]]))) [.fz (netD A₀ n ps), .fz (.int r), .fz (.int s)] := q
    rw [if_pos he, show p.1 + p.2 - s = p.1 by omega] at q
    exact ⟨_, .fz (.fz (.fz .nil)), q⟩
  · have hr := (List.getElem?_eq_some_iff.mp hp).1
    unfold farD at q
    rw [if_neg (by omega), if_neg (by omega), hp] at q
    have he : ¬ hasEnd s p = true := by
      rw [← hasEnd_in]
      simp [n1, n2]
    have q : Q (.new (.lst (if hasEnd s p = true then [D.int (p.1 + p.2 - s)] else [.tup [.str "NotThere", .int r, .int s]]))) [.fz (netD A₀ n ps), .fz (.int r), .fz (.int s)] := q
    rw [if_neg he] at q
    exact ⟨true, T.s_NotThere.ex, fun _ => ⟨trivial, fun a dd => ⟨trivial, _, _, .there r s, rfl, _, .fz (.fz (.fz .nil)), q⟩⟩, fun z => by cases z⟩
theorem cv__law_far_told (T : Txt P w K mg base A₀) : Cal P w K mg base CX0 "_law_far_told" 6 ["net", "rope", "station"] (spV K (svFarTold A₀)) := by
  obtain ⟨fT, fdT, FT, mT, kT, bT⟩ := fnp_told T
  obtain ⟨ws, v1, v2⟩ := vs__law_far_told T
  refine cal_ofV T.d__law_far_told sc__law_far_told b__law_far_told (fun as X Q h => ?_) (fun f cdv A outer s H E hr => ⟨_, ws, (pss_one (L2N.ps_try_as (i := 3) (c := .ref A₀.c_RopeError) (tb := t__law_far_told K A₀) (ts := tHand K A₀ 3) (Wout := fun _ _ _ _ => False) rfl rfl sc__law_far_told.nd rfl rfl ⟨rfl, by decide, Or.inl T.g_RopeError⟩ takes0N
      (fun W pn xe tk _ => pss__law_far_told T hr tk ⟨_, _, _, _, _, rfl⟩)
      (fun a oe cls d pn hz hf => pss_one (ps_ret ⟨fun pins s σ H Q I h => (pe_callP (p := (a, oe)) FT ?_ ?_ List.mem_cons_self (by rfl) mT kT bT (pa_cons (pv 3) pa_nil)).run pins s σ H Q I (h oe hz hf)⟩)))), v1, v2⟩)
  · obtain ⟨r, s, n, ps, rfl, rb, sb, q⟩ := h
    rfl
  · exact L2H.RoomH.mono (k := 5) ⟨hr.dp, hr.un⟩ (by decide)
  · obtain ⟨vs, hv⟩ := hf
    exact ⟨rfl, vs, hv, hz.2.2 vs hv⟩
abbrev t__law_near_told (K : PySem.W.Frag) (A₀ : Ad) (W : WX) : TS := tRet (tLst (tCons (tMeth A₀.c_Net "ropes_at" (spV K (svRopesAt A₀)) [] (eN 3 W) (tVar 0) (tCons (tVar 1) tNil)) tNil))
theorem pss__law_near_told (T : Txt P w K mg base A₀) {f : Addr} {cdv : Value} {A : Around} {outer : List Env} {s : Shared} {H : Hp} {E : XK} (hr : Room 4 (A.deeper (envOfC "_law_near_told" (defScope s__law_near_told) s.heap.objs.size f cdv))) {W : WX} {pn : List (Addr × Obj)} {xe : Value → Shared → Prop}
    (tk : L2N.Takes ((cxOf CX0 P w K mg base ["net", "station", "fault"] "_law_near_told" (defScope s__law_near_told) f cdv A outer s H E).nox.tr pn xe) W) {body : List Stmt} (hb : ∃ hs es fs pos rest, defBody s__law_near_told = .Try body hs es fs pos :: rest) : PSs ((cxOf CX0 P w K mg base ["net", "station", "fault"] "_law_near_told" (defScope s__law_near_told) f cdv A outer s H E).nox.tr pn xe) body (t__law_near_told K A₀ W) := by
  obtain ⟨_, _, mR, RR, bR⟩ := mv_ropes_at T
  obtain ⟨hs, es, fs, pos, rest, eb⟩ := hb
  injection eb with eb _
  injection eb with eb
  subst eb
  exact (pss_one (ps_ret (pe_lst (pa_cons (pe_meth (pv 0) T.net_cl mR RR (hr.mono (by first | exact Nat.le_refl _ | decide)) bR .nil (passes_len tk) (pa_cons (pv 1) pa_nil)) pa_nil))))
def svNearTold (A₀ : Ad) : VSp := fun as _ Q => ∃ (s n : Int) (ps : List Rope), as = [.fz (netD A₀ n ps), .fz (.int s)] ∧ s.natAbs < 2 ^ 62 ∧ ps.length ≤ 1000 ∧ Q (.new (.lst (nearD n ps s))) as
abbrev u__law_near_told (K : PySem.W.Frag) (A₀ : Ad) : TS := fun D σ H => t__law_near_told K A₀ (wAs K (.ref A₀.c_RopeError) 2 (tHand K A₀ 2) (fun _ _ _ _ => False) D) D σ H
theorem vs__law_near_told (T : Txt P w K mg base A₀) : ∃ ws : WS, (∀ W : WX, VS K W (u__law_near_told K A₀) ws) ∧ ∀ as X Q, (svNearTold A₀) as X Q → ws (endsOf as Q) (fun C gs _ => X C gs) (startE 3 as) := by
  refine ⟨_, fun W => vs_tryN (c := .ref A₀.c_RopeError) (i := 2) (tb := t__law_near_told K A₀) (ts := tHand K A₀ 2) (hb := fun W => (vs_retF (vf_lst (va_cons (VF.ve (VRs.vf (vrs_methX lets3 (ve_var 0) (vk_val (ve_var 1) vk_nil)))) va_nil)))) (hs := fun a dd C => vs_retF (VRs.vf (vrs_told (vk_val (ve_var 2) vk_nil)))), fun as X Q h => ?_⟩
  obtain ⟨s, n, ps, rfl, sb, hl, q⟩ := h
  refine ⟨⟨rfl, rfl⟩, s, n, ps, rfl, by omega, hl, fun ok => ?_, fun no => ?_⟩
  · unfold nearD at q
    rw [if_neg (by omega)] at q
    exact ⟨_, .fz (.fz .nil), q⟩
  · unfold nearD at q
    rw [if_pos (by omega)] at q
    exact ⟨true, T.s_NoStation.ex, fun _ => ⟨trivial, fun a dd => ⟨trivial, _, _, .station s, rfl, _, .fz (.fz .nil), q⟩⟩, fun z => by cases z⟩
theorem cv__law_near_told (T : Txt P w K mg base A₀) : Cal P w K mg base CX0 "_law_near_told" 5 ["net", "station"] (spV K (svNearTold A₀)) := by
  obtain ⟨fT, fdT, FT, mT, kT, bT⟩ := fnp_told T
  obtain ⟨ws, v1, v2⟩ := vs__law_near_told T
  refine cal_ofV T.d__law_near_told sc__law_near_told b__law_near_told (fun as X Q h => ?_) (fun f cdv A outer s H E hr => ⟨_, ws, (pss_one (L2N.ps_try_as (i := 2) (c := .ref A₀.c_RopeError) (tb := t__law_near_told K A₀) (ts := tHand K A₀ 2) (Wout := fun _ _ _ _ => False) rfl rfl sc__law_near_told.nd rfl rfl ⟨rfl, by decide, Or.inl T.g_RopeError⟩ takes0N
      (fun W pn xe tk _ => pss__law_near_told T hr tk ⟨_, _, _, _, _, rfl⟩)
      (fun a oe cls d pn hz hf => pss_one (ps_ret ⟨fun pins s σ H Q I h => (pe_callP (p := (a, oe)) FT ?_ ?_ List.mem_cons_self (by rfl) mT kT bT (pa_cons (pv 2) pa_nil)).run pins s σ H Q I (h oe hz hf)⟩)))), v1, v2⟩)
  · obtain ⟨s, n, ps, rfl, sb, hl, q⟩ := h
    rfl
  · exact L2H.RoomH.mono (k := 4) ⟨hr.dp, hr.un⟩ (by decide)
  · obtain ⟨vs, hv⟩ := hf
    exact ⟨rfl, vs, hv, hz.2.2 vs hv⟩
abbrev t__law_refusal (K : PySem.W.Frag) (A₀ : Ad) (W : WX) : TS := tDrop (tMake A₀.c_Net (spV K (svNetI A₀)) [] (eN 3 W) (tCons (tVar 0) (tCons (tVar 1) tNil)))
theorem pss__law_refusal (T : Txt P w K mg base A₀) {f : Addr} {cdv : Value} {A : Around} {outer : List Env} {s : Shared} {H : Hp} {E : XK} (hr : Room 5 (A.deeper (envOfC "_law_refusal" (defScope s__law_refusal) s.heap.objs.size f cdv))) {W : WX} {pn : List (Addr × Obj)} {xe : Value → Shared → Prop}
    (tk : L2N.Takes ((cxOf CX0 P w K mg base ["many", "ropes", "fault"] "_law_refusal" (defScope s__law_refusal) f cdv A outer s H E).nox.tr pn xe) W) {body : List Stmt} (hb : ∃ hs es fs pos rest, defBody s__law_refusal = .Try body hs es fs pos :: rest) : PSs ((cxOf CX0 P w K mg base ["many", "ropes", "fault"] "_law_refusal" (defScope s__law_refusal) f cdv A outer s H E).nox.tr pn xe) body (t__law_refusal K A₀ W) := by
  obtain ⟨fN, fdN, MN, NI, bN⟩ := mv_Net T
  obtain ⟨hs, es, fs, pos, rest, eb⟩ := hb
  injection eb with eb _
  injection eb with eb
  subst eb
  exact (pss_one (ps_expr (pe_make MN NI (hr.mono (by first | exact Nat.le_refl _ | decide)) (by rfl) T.g_Net bN .nil (passes_len tk) (pa_cons (pv 0) (pa_cons (pv 1) pa_nil)))))
def svRefusal : VSp := fun as _ Q => ∃ (m : Int) (ps : List Rope) (ds : List D), as = [.fz (.int m), .fz (.lst (ps.map pD))] ∧ ps.length ≤ 1000 ∧ Due m ps ds ∧ Q (.new (.lst ds)) as
abbrev u__law_refusal (K : PySem.W.Frag) (A₀ : Ad) : TS := fun D σ H => t__law_refusal K A₀ (wAs K (.ref A₀.c_RopeError) 2 (tHand K A₀ 2) (fun _ _ _ _ => False) D) D σ H
theorem vs__law_refusal (T : Txt P w K mg base A₀) : ∃ ws : WS, (∀ W : WX, VS K W (tSeq (u__law_refusal K A₀) (tRet (tLst tNil))) ws) ∧ ∀ as X Q, svRefusal as X Q → ws (endsOf as Q) (fun C gs _ => X C gs) (startE 3 as) := by
  refine ⟨_, fun W => vs_seq (vs_tryN (c := .ref A₀.c_RopeError) (i := 2) (tb := t__law_refusal K A₀) (ts := tHand K A₀ 2) (hb := fun W => (vs_drop (VF.ve (vf_make lets3 (vk_val (ve_var 0) (vk_val (ve_var 1) vk_nil)))))) (hs := fun a dd C => vs_retF (VRs.vf (vrs_told (vk_val (ve_var 2) vk_nil))))) (vs_retF (vf_lst va_nil)), fun as X Q h => ?_⟩
  obtain ⟨m, ps, ds, rfl, hl, du, q⟩ := h
  refine fun x dx => atCall_of rfl nd1 ?_
  refine ⟨x, dx, m, ps, rfl, hl, fun bad => ?_, fun okS => ⟨fun l => ?_, fun k p l hk hp hj => ?_, fun l hp => ⟨fun s sm ns sj => ?_, fun hc => ?_⟩⟩⟩
  · have e := due_uniq du (.size bad)
    subst e
    exact ⟨true, told_ex T (.bad (-1)), fun _ => ⟨trivial, fun a dd => ⟨trivial, _, _, (.bad (-1)), rfl, _, .fz (.fz .nil), q⟩⟩, fun z => by cases z⟩
  · have e := due_uniq du (.many okS l)
    subst e
    exact ⟨true, told_ex T (.many 40), fun _ => ⟨trivial, fun a dd => ⟨trivial, _, _, (.many 40), rfl, _, .fz (.fz .nil), q⟩⟩, fun z => by cases z⟩
  · have e := due_uniq du (.rope k p okS l hk hp hj)
    subst e
    exact ⟨true, told_ex T (.bad (k : Int)), fun _ => ⟨trivial, fun a dd => ⟨trivial, _, _, (.bad (k : Int)), rfl, _, .fz (.fz .nil), q⟩⟩, fun z => by cases z⟩
  · have e := due_uniq du (.con s okS l hp sm ns sj)
    subst e
    exact ⟨true, told_ex T (.con (s : Int)), fun _ => ⟨trivial, fun a dd => ⟨trivial, _, _, (.con (s : Int)), rfl, _, .fz (.fz .nil), q⟩⟩, fun z => by cases z⟩
  · rw [due_uniq du (.fine okS l hp hc)] at q
    exact ⟨_, .fz (.fz .nil), q⟩
theorem cv__law_refusal (T : Txt P w K mg base A₀) : Cal P w K mg base CX0 "_law_refusal" 6 ["many", "ropes"] (spV K svRefusal) := by
  obtain ⟨fT, fdT, FT, mT, kT, bT⟩ := fnp_told T
  obtain ⟨ws, v1, v2⟩ := vs__law_refusal T
  refine cal_ofV T.d__law_refusal sc__law_refusal b__law_refusal (fun as X Q h => ?_) (fun f cdv A outer s H E hr => ⟨_, ws, (pss_cons (L2N.ps_try_as (i := 2) (c := .ref A₀.c_RopeError) (tb := t__law_refusal K A₀) (ts := tHand K A₀ 2) (Wout := fun _ _ _ _ => False) rfl rfl sc__law_refusal.nd rfl rfl ⟨rfl, by decide, Or.inl T.g_RopeError⟩ takes0N
      (fun W pn xe tk _ => pss__law_refusal T hr tk ⟨_, _, _, _, _, rfl⟩)
      (fun a oe cls d pn hz hf => pss_one (ps_ret ⟨fun pins s σ H Q I h => (pe_callP (p := (a, oe)) FT ?_ ?_ List.mem_cons_self (by rfl) mT kT bT (pa_cons (pv 2) pa_nil)).run pins s σ H Q I (h oe hz hf)⟩))) (pss_one (ps_ret (pe_lst pa_nil)))), v1, v2⟩)
  · obtain ⟨m, ps, ds, rfl, hl, du, q⟩ := h
    rfl
  · exact L2H.RoomH.mono (k := 5) ⟨hr.dp, hr.un⟩ (by decide)
  · obtain ⟨vs, hv⟩ := hf
    exact ⟨rfl, vs, hv, hz.2.2 vs hv⟩
end
end Tw

namespace Tw
open PySem PySem.Spec PyProof.Rows L2
/-! ### what repr shows of ropes -/
theorem short24 : ∀ k : Fin 24, (PyData.shown (.int (k.val : Int))).length ≤ 8 := by decide +kernel
theorem short_int {x : Int} (h0 : 0 ≤ x) (h1 : x < 24) : (PyData.shown (.int x)).length ≤ 8 := by
  obtain ⟨k, rfl⟩ := Int.eq_ofNat_of_zero_le h0
  exact short24 ⟨k, by omega⟩
theorem log_int {x : Int} (h0 : 0 ≤ x) (h1 : x < 32) : x.natAbs.log2 < 1920 := by
  by_cases z : x.natAbs = 0
  · rw [z]; decide
  · have := (Nat.log2_lt z (k := 5)).mpr (by omega)
    omega
theorem pairs_show : ∀ {ps : List Rope}, (∀ p ∈ ps, (0 ≤ p.1 ∧ p.1 < 24) ∧ 0 ≤ p.2 ∧ p.2 < 24) → PyData.showableAll (D.ps (ps.map pD)) = true ∧ PyData.hasDictAll (D.ps (ps.map pD)) = false ∧ PyData.leavesShortAll 8 (D.ps (ps.map pD)) = true ∧ PyData.bulkAll (D.ps (ps.map pD)) = 3 * ps.length ∧ PyData.depthAll (D.ps (ps.map pD)) ≤ 3
  | [], _ => ⟨rfl, rfl, rfl, rfl, by decide⟩
  | p :: ps, h => by
    obtain ⟨a1, a2, a3, a4, a5⟩ := pairs_show (ps := ps) fun q hq => h q (List.mem_cons_of_mem _ hq)
    obtain ⟨⟨p0, p1⟩, p2, p3⟩ := h p List.mem_cons_self
    have e : D.ps ((p :: ps).map pD) = .tuple [.int p.1, .int p.2] :: D.ps (ps.map pD) := rfl
    rw [e]
    refine ⟨?_, ?_, ?_, ?_, ?_⟩
    · show ((decide (p.1.natAbs.log2 < 1920) && (decide (p.2.natAbs.log2 < 1920) && true)) && _) = true
      rw [decide_eq_true (log_int p0 (by omega)), decide_eq_true (log_int p2 (by omega)), a1]; rfl
    · show ((false || (false || false)) || _) = false
      rw [a2]; rfl
    · show ((decide _ && (decide _ && true)) && _) = true
      rw [decide_eq_true (short_int p0 p1), decide_eq_true (short_int p2 p3), a3]; rfl
    · show (0 + 1 + (0 + 1 + 0)) + 1 + PyData.bulkAll _ = 3 * (ps.length + 1)
      rw [a4]; omega
    · show max (max 0 (max 0 0) + 1) (PyData.depthAll _) ≤ 3
      omega
theorem shw_pairs {m : Int} {ps : List Rope} (m24 : m ≤ 24) (l : ps.length ≤ 1000) (ok : ∀ p ∈ ps, okRope m p = true) : ∃ x, Shw (.lst (ps.map pD)) x ∧ x.length ≤ 100000 := by
  obtain ⟨a1, a2, a3, a4, a5⟩ := pairs_show (ps := ps) fun p hp => by
    obtain ⟨_, ⟨b1, b2⟩, b3, b4⟩ := okR_inv (ok p hp)
    omega
  have sl : (D.p (.lst (ps.map pD))).shown.length ≤ 100000 := by
    have h := PyData.shown_le_bulk 8 (by decide) (D.p (.lst (ps.map pD))) a3
    have e : (D.p (.lst (ps.map pD))).bulk = 3 * ps.length := a4
    rw [e] at h
    omega
  refine ⟨_, ⟨(dok_pairs ps).1, ⟨a1, a2, Nat.le_trans sl (by rw [sizeLine_eq]; decide), ?_⟩, rfl⟩, sl⟩
  show PyData.depthAll _ + 1 ≤ 8
  omega
theorem str_zero (x : Str) : Str.empty ++ x = x := PySem.Str.append_left_empty (by decide +kernel)
def netTxt (m : Int) (x : Str) : Str := "Net(" ++ Str.ofString (toString m) ++ ", " ++ x ++ ")"
section
variable {P : Program} {w : World} {K : PySem.W.Frag} {mg : Str → Option Value} {base : Heap} {A₀ : Ad}
def svNetRepr (A₀ : Ad) : VSp := fun as _ Q => ∃ (m : Int) (ps : List Rope) (x : Str), as = [.fz (netD A₀ m ps)] ∧ (1 ≤ m ∧ m ≤ 24) ∧ ps.length ≤ 1000 ∧ Shw (.lst (ps.map pD)) x ∧ x.length ≤ 1000000 ∧ Q (.val (.str (netTxt m x))) as
theorem og_Net___repr__ (T : Txt P w K mg base A₀) {f : Addr} {fd : FuncData} (F : Fun K "__repr__" "Net.__repr__" s_Net___repr__ f fd) : FnG P w K mg base 1 f fd ["self"] (spV K (svNetRepr A₀)) := by
  refine ok_ofVG F sc_Net___repr__ (fun as X Q h => ?_) (fun cdv A outer s H still hr => ⟨_, _, (pss_one (ps_ret (pe_joined (PJ.cons pe_str (PJ.cons (pe_fmt (pe_fld (pv 0) rfl)) (PJ.cons pe_str (PJ.cons (pe_fmtD still hr.units (pe_callTy call_list_of (by rfl) T.n_list (by decide +kernel) (pa_cons (pe_fld (pv 0) rfl) pa_nil))) (PJ.cons pe_str PJ.nil)))))))), fun W => (vs_ret (ve_joined (VJ.cons (ve_c fun _ => .str _) (VJ.cons (ve_fmtI (ve_fld T.net_cl T.net_s (ve_var 0))) (VJ.cons (ve_c fun _ => .str _) (VJ.cons (ve_fmtD (VF.ve (vf_list (VE.vb (ve_fld T.net_cl T.net_r (ve_var 0)))))) (VJ.cons (ve_c fun _ => .str _) VJ.nil))))))), fun as X Q h => ?_⟩)
  · obtain ⟨m, ps, x, rfl, _⟩ := h
    rfl
  · obtain ⟨m, ps, x, rfl, ⟨m1, m24⟩, hl, sh, lx, q⟩ := h
    have e0 : Str.empty ++ ("Net(" : Str) = "Net(" := str_zero _
    have il : (Str.ofString (toString m)).length ≤ 2000 := Nat.le_trans (int_text_len_1921 (log_int (by omega) (by omega) : m.natAbs.log2 < 1920)) (by decide)
    have c1 : ("Net(" : Str).length ≤ 10 := by decide +kernel
    have c2 : (", " : Str).length ≤ 10 := by decide +kernel
    have c3 : (")" : Str).length ≤ 10 := by decide +kernel
    have z0 : (Str.empty : Str).length = 0 := by decide +kernel
    have sz : sizeLine = 16777216 := sizeLine_eq
    have ap : ∀ x y : Str, (x ++ y).length = x.length + y.length := fun x y => len_cat x y
    have e : netTxt m x = Str.empty ++ "Net(" ++ Str.ofString (toString m) ++ ", " ++ x ++ ")" := by
      unfold netTxt
      rw [e0]
    rw [e] at q
    refine ⟨?_, rfl, _, rfl, log_int (by omega) (by omega), ?_, ?_, rfl, _, rfl, x, sh, ?_, ?_, _, .fz .nil, q⟩
    all_goals
      simp only [ap, z0, sz]
      omega
end
end Tw

namespace Tw
open PySem PySem.Spec PyProof.Rows L2
section
variable {P : Program} {w : World} {K : PySem.W.Frag} {mg : Str → Option Value} {base : Heap} {A₀ : Ad}
/-- == of a net with what is no net -/
def svEqO (A₀ : Ad) : VSp := fun as _ Q => ∃ (n : Int) (ps : List Rope) (d : D), as = [.fz (netD A₀ n ps), .fz d] ∧ ((∃ ds, d = .tup ds) ∨ ∃ x, d = .str x) ∧ Q (.val (.bl false)) as
theorem oe_Net___eq__ (T : Txt P w K mg base A₀) {f : Addr} {fd : FuncData} (F : Fun K "__eq__" "Net.__eq__" s_Net___eq__ f fd) : FnOk P w K mg base CX0 1 f fd ["self", "other"] (spV K (svEqO A₀)) := by
  refine ok_ofV F sc_Net___eq__ (fun as X Q h => ?_) (fun cdv A outer s H E hr => ⟨_, _, (pss_one (ps_ret (pe_and (pe_callB call_isi (by rfl) T.n_isinstance (by decide +kernel) (pa_cons (pv 1) (pa_cons (pe_glob (v := .ref A₀.c_Net) (by rfl) T.g_Net rfl) pa_nil))) (pe_and (pe_cmpR op_eq (pe_fld (pv 0) rfl) (pe_fld (pv 1) rfl) (nomark _)) (pe_one (pe_cmpR (op_eqD hr.units) (pe_fld (pv 0) rfl) (pe_fld (pv 1) rfl) (nomark _))))))), fun W => (vs_ret (ve_and (ve_isi (vb_var 1) (.own _)) (ve_and (ve_eq (ve_fld T.net_cl T.net_s (ve_var 0)) (ve_fld T.net_cl T.net_s (ve_var 1))) (ve_eqD (VE.vb (ve_fld T.net_cl T.net_r (ve_var 0))) (VE.vb (ve_fld T.net_cl T.net_r (ve_var 1))))))), fun as X Q h => ?_⟩)
  · obtain ⟨n, ps, d, rfl, _⟩ := h
    rfl
  · obtain ⟨n, ps, d, rfl, (⟨ds, rfl⟩ | ⟨x, rfl⟩), q⟩ := h
    · exact ⟨_, _, rfl, T.net_tu, _, .fz (.fz .nil), q⟩
    · exact ⟨_, _, rfl, T.net_st, _, .fz (.fz .nil), q⟩
theorem mv_eqO (T : Txt P w K mg base A₀) : ∃ f fd, PySem.W.findIn K (.ref A₀.c_Net) "__eq__" = some (some (.ref f)) ∧ PySem.W.isFn K (.ref f) = true ∧ FnOk P w K mg base CX0 1 f fd ["self", "other"] (spV K (svEqO A₀)) ∧ Binds K fd ["self", "other"] [] := by
  obtain ⟨f, fd, h1, h2, F⟩ := T.net_eq
  refine ⟨f, fd, h1, h2, oe_Net___eq__ T F, ?_⟩
  obtain ⟨oc, od, kV, doc, pm, an, cdv, ct, osl, rfl, _, _⟩ := F.ex
  exact Binds.all fun us hl => b_Net___eq__ kV doc pm an cdv ct us hl
theorem mv_repr (T : Txt P w K mg base A₀) : ∃ f fd, PySem.W.findIn K (.ref A₀.c_Net) "__repr__" = some (some (.ref f)) ∧ PySem.W.isFn K (.ref f) = true ∧ FnG P w K mg base 1 f fd ["self"] (spV K (svNetRepr A₀)) ∧ Binds K fd ["self"] [] := by
  obtain ⟨f, fd, h1, h2, F⟩ := T.net_repr
  refine ⟨f, fd, h1, h2, og_Net___repr__ T F, ?_⟩
  obtain ⟨oc, od, kV, doc, pm, an, cdv, ct, osl, rfl, _, _⟩ := F.ex
  exact Binds.all fun us hl => b_Net___repr__ kV doc pm an cdv ct us hl
theorem not_first {C : Addr} : PySem.W.notFirst K C (.type "tuple") = true ∧ PySem.W.notFirst K C (.type "str") = true := by
  have e1 : fastBuiltinMro "tuple" = some [.type "tuple", .type "object"] := by decide +kernel
  have e2 : fastBuiltinMro "str" = some [.type "str", .type "object"] := by decide +kernel
  have s1 : PySem.W.subIn K (.type "tuple") (.ref C) = some false := by
    show (fastBuiltinMro "tuple").map (·.contains (.ref C)) = some false
    rw [e1]
    first | rfl | simp
  have s2 : PySem.W.subIn K (.type "str") (.ref C) = some false := by
    show (fastBuiltinMro "str").map (·.contains (.ref C)) = some false
    rw [e2]
    first | rfl | simp
  unfold PySem.W.notFirst
  rw [s1, s2]
  simp
theorem exx_pairs (n : Nat) (ps : List Rope) (hl : ps.length ≤ 1000) : ExX (n + 2) (.tup (ps.map pD)) ∧ ExX (n + 2) (.lst (ps.map pD)) := by
  have h : (ps.map pD).length ≤ 1000001 ∧ ∀ d ∈ ps.map pD, ExX (n + 1) d := ⟨by rw [List.length_map]; omega, fun d hd => by
    obtain ⟨p, _, rfl⟩ := List.mem_map.mp hd
    refine ⟨by show 2 ≤ 1000001; decide, fun d hd => ?_⟩
    rcases List.mem_cons.mp hd with rfl | hd
    · cases n <;> exact trivial
    · rw [List.mem_singleton.mp hd]
      cases n <;> exact trivial⟩
  exact ⟨h, h⟩
/-- a net holds no list -/
theorem nol_net {n : Int} {ps : List Rope} : NoLst K (netD A₀ n ps) := fun F v h => by
  have pr : ∀ {ps : List Rope} {vs : List V}, RpL K F vs (ps.map pD) → RpL K (noL F) vs (ps.map pD) := fun {ps} => by
    induction ps with
    | nil => intro vs h; cases h; exact .nil
    | cons p ps ih =>
      intro vs h
      cases h with
      | cons a r =>
        refine .cons ?_ (ih r)
        cases a with
        | tup h r => exact .tup (noL_of h fun _ z => by cases z) (by
            cases r with
            | cons a r =>
              cases a
              cases r with
              | cons a r =>
                cases a
                cases r
                exact .cons (.int _) (.cons (.int _) .nil))
  cases h with
  | ins h r =>
    refine .ins (noL_of h fun _ z => by cases z) ?_
    cases r with
    | cons a r =>
      cases a
      cases r with
      | cons a r =>
        cases r
        cases a with
        | tup g1 g2 => exact .cons (.int _) (.cons (.tup (noL_of g1 fun _ z => by cases z) (pr g2)) .nil)
theorem nol_int {i : Int} : NoLst K (.int i) := fun F v h => by
  cases h
  exact .int i
theorem app_run {σ : L2.St} {H : Hp} {Q : L2.VK} {q r : Addr} {xs : List V} (h1 : σ[7]? = some (some (.ref q))) (h2 : H q = some (.lst [.ref r])) (h3 : H r = some (.lst xs)) (h4 : xs.length < 1000000) (h5 : Q .non (upd H r (.lst (xs ++ [.int (-1)])))) :
    tBM K "list" rAppend (tOp (rIx K) (tVar 7) (tC (.int 0))) (tCons (tUn (rU fun i => .int (-i)) (tC (.int 1))) tNil) σ H Q := by
  refine ⟨_, h1, .inl ⟨q, [.ref r], 0, .ref r, rfl, rfl, SqL.of h2, rfl, .inl ⟨rfl, xs, SqL.of h3⟩, 1, rfl, r, xs, .int (-1), rfl, rfl, h3, ?_, h5⟩⟩
  rw [sizeLine_eq]
  omega
end
end Tw

namespace Tw
open PySem PySem.Spec PyProof.Rows L2
section
variable {P : Program} {w : World} {K : PySem.W.Frag} {mg : Str → Option Value} {base : Heap} {A₀ : Ad}
theorem exx_one {d : D} (h : ExX 4 d) : ExX 5 (.lst [d]) := ⟨by show 1 ≤ 1000001; decide, fun e he => by rw [List.mem_singleton.mp he]; exact h⟩
theorem exx_tup {ds : List D} (l : ds.length ≤ 10) (h : ∀ d ∈ ds, ExX 3 d) : ExX 4 (.tup ds) := ⟨by omega, h⟩
theorem exx_near {m s : Int} {ps : List Rope} (l : ps.length ≤ 1000) : ExX 5 (.lst (nearD m ps s)) := by
  unfold nearD
  split
  · exact exx_one (exx_tup (by show 2 ≤ 10; decide) fun d hd => by
      rcases List.mem_cons.mp hd with rfl | hd
      · exact trivial
      · rw [List.mem_singleton.mp hd]; exact trivial)
  · refine exx_one ⟨?_, fun d hd => ?_⟩
    · rw [List.length_map]
      have := ropesAt_len s ps 0
      omega
    · obtain ⟨i, _, rfl⟩ := List.mem_map.mp hd
      exact trivial
theorem exx_far {m r s : Int} {ps : List Rope} : ExX 5 (.lst (farD m ps r s)) := by
  unfold farD
  split
  · exact exx_one (exx_tup (by show 2 ≤ 10; decide) fun d hd => by
      rcases List.mem_cons.mp hd with rfl | hd
      · exact trivial
      · rw [List.mem_singleton.mp hd]; exact trivial)
  · split
    · exact exx_one (exx_tup (by show 2 ≤ 10; decide) fun d hd => by
        rcases List.mem_cons.mp hd with rfl | hd
        · exact trivial
        · rw [List.mem_singleton.mp hd]; exact trivial)
    · split
      · split
        · exact exx_one trivial
        · exact exx_one (exx_tup (by show 3 ≤ 10; decide) fun d hd => by
            rcases List.mem_cons.mp hd with rfl | hd
            · exact trivial
            rcases List.mem_cons.mp hd with rfl | hd
            · exact trivial
            rw [List.mem_singleton.mp hd]; exact trivial)
      · exact ⟨by show 0 ≤ 1000001; decide, fun d hd => by cases hd⟩
theorem exx_ends {r : Int} {ps : List Rope} : ExX 5 (.lst (endsD ps r)) := by
  unfold endsD
  split
  · cases ps[r.toNat]? with
    | none => exact ⟨by show 0 ≤ 1000001; decide, fun d hd => by cases hd⟩
    | some p => exact exx_one (exx_tup (by show 2 ≤ 10; decide) fun d hd => by
        rcases List.mem_cons.mp hd with rfl | hd
        · exact trivial
        · rw [List.mem_singleton.mp hd]; exact trivial)
  · exact exx_one (exx_tup (by show 2 ≤ 10; decide) fun d hd => by
      rcases List.mem_cons.mp hd with rfl | hd
      · exact trivial
      · rw [List.mem_singleton.mp hd]; exact trivial)
def svAsked (A₀ : Ad) : VSp := fun as _ Q => ∃ (m : Int) (ps : List Rope) (ws : List Int), as = [.fz (netD A₀ m ps), .fz (.int m), .fz (.lst (ps.map pD)), .fz (.lst (ws.map D.int))] ∧ NetOk m ps ∧ ws.length ≤ 10 ∧ (∀ x ∈ ws, x.natAbs < 2 ^ 60) ∧ Q (.val (.bl true)) as
theorem cg__law_asked (T : Txt P w K mg base A₀) : CalG P w K mg base "_law_asked" 7 ["net", "many", "ropes", "wild"] (spV K (svAsked A₀)) := by
  have c__law_exact := cv__law_exact T; have c__law_near_due := cv__law_near_due T; have c__law_near_told := cv__law_near_told T; have c__law_far_due := cv__law_far_due T; have c__law_pair_told := cv__law_pair_told T; have c__law_far_told := cv__law_far_told T
  obtain ⟨fR, fdR, sR, fR', FR, bR⟩ := mv_repr T
  refine cal_ofVG T.d__law_asked sc__law_asked b__law_asked (fun as X Q h => ?_) (fun f cdv A outer s H still hr => ⟨_, _, (pss_cons (ps_if (PW.pt (pw_or (pt_not (pt_val (pe_cal c__law_exact (hr.mono (by first | exact Nat.le_refl _ | decide)) (by rfl) (pa_cons (pe_fld (pv 0) rfl) (pa_cons (pv 1) pa_nil))))) (pw_or1 (pt_not (pt_val (pe_cal c__law_exact (hr.mono (by first | exact Nat.le_refl _ | decide)) (by rfl) (pa_cons (pe_fld (pv 0) rfl) (pa_cons (pe_callTy call_tuple_of (by rfl) T.n_tuple (by decide +kernel) (pa_cons (pv 2) pa_nil)) pa_nil)))))))) (pss_one (ps_ret pe_bl)) pss_nil)
  (pss_cons (ps_if (pt_not (pt_val (pe_cal c__law_exact (hr.mono (by first | exact Nat.le_refl _ | decide)) (by rfl) (pa_cons (pe_callB (call_reprOwn FR sR fR' bR still (hr.mono (by first | exact Nat.le_refl _ | decide))) (by rfl) T.n_repr (by decide +kernel) (pa_cons (pv 0) pa_nil)) (pa_cons (pe_op op_add_str (pe_op op_add_str (pe_op op_add_str (pe_op op_add_str pe_str (pe_callTy call_str_int (by rfl) T.n_str (by decide +kernel) (pa_cons (pv 1) pa_nil))) pe_str) (pe_callB (call_reprD still hr.units) (by rfl) T.n_repr (by decide +kernel) (pa_cons (pv 2) pa_nil))) pe_str) pa_nil))))) (pss_one (ps_ret pe_bl)) pss_nil)
  (pss_cons (ps_set (i := 4) sc__law_asked.nd rfl (Or.inl rfl) (pe_op op_cat (pe_callTy (cr_listR2 rfl) (by rfl) T.n_list (by decide +kernel) (pa_cons (pe_callTy cr_range2 (by rfl) T.n_range (by decide +kernel) (pa_cons (pe_un un_neg pe_int) (pa_cons (pe_op op_add (pv 1) pe_int) pa_nil))) pa_nil)) (pv 3)))
  (pss_cons (ps_for PassesOwn.never rfl (pi_list (pv 4)) (pg_name (i := 5) sc__law_asked.nd rfl (Or.inl rfl)) (pss_cons (ps_set (i := 6) sc__law_asked.nd rfl (Or.inl rfl) (pe_cal c__law_near_due (hr.mono (by first | exact Nat.le_refl _ | decide)) (by rfl) (pa_cons (pv 1) (pa_cons (pv 2) (pa_cons (pv 5) pa_nil)))))
  (pss_cons (ps_set (i := 7) sc__law_asked.nd rfl (Or.inl rfl) (pe_cal c__law_near_told (hr.mono (by first | exact Nat.le_refl _ | decide)) (by rfl) (pa_cons (pv 0) (pa_cons (pv 5) pa_nil))))
  (pss_cons (ps_if (pt_not (pt_val (pe_cal c__law_exact (hr.mono (by first | exact Nat.le_refl _ | decide)) (by rfl) (pa_cons (pv 7) (pa_cons (pv 6) pa_nil))))) (pss_one (ps_ret pe_bl)) pss_nil)
  (pss_one (ps_if (pt_val (pe_callB call_isi (by rfl) T.n_isinstance (by decide +kernel) (pa_cons (pe_ix ix_seq (pv 7) pe_int (fun _ _ => rfl)) (pa_cons (pe_bltn (v := .ty "list") (by rfl) T.n_list (by decide +kernel) rfl) pa_nil)))) (pss_cons (ps_expr (pe_bm PySem.F.plainAttrs_list PySem.F.slot_list_append PySem.F.type_list_append mt_append (pe_ix ix_seq (pv 7) pe_int (fun _ _ => rfl)) (pa_cons (pe_un un_neg pe_int) pa_nil)))
  (pss_one (ps_if (pt_not (pt_val (pe_cal c__law_exact (hr.mono (by first | exact Nat.le_refl _ | decide)) (by rfl) (pa_cons (pe_cal c__law_near_told (hr.mono (by first | exact Nat.le_refl _ | decide)) (by rfl) (pa_cons (pv 0) (pa_cons (pv 5) pa_nil))) (pa_cons (pv 6) pa_nil))))) (pss_one (ps_ret pe_bl)) pss_nil))) pss_nil))))))
  (pss_cons (ps_for PassesOwn.never rfl (pi_list (pe_op op_cat (pe_callTy (cr_listR2 rfl) (by rfl) T.n_list (by decide +kernel) (pa_cons (pe_callTy cr_range2 (by rfl) T.n_range (by decide +kernel) (pa_cons (pe_un un_neg pe_int) (pa_cons (pe_op op_add (pe_callB call_len_seq (by rfl) T.n_len PySem.boot_len (pa_cons (pv 2) pa_nil)) pe_int) pa_nil))) pa_nil)) (pv 3))) (pg_name (i := 8) sc__law_asked.nd rfl (Or.inl rfl)) (pss_cons (ps_set (i := 6) sc__law_asked.nd rfl (Or.inl rfl) (pe_lst (pa_cons (pe_tup (pa_cons pe_str (pa_cons (pv 8) pa_nil))) pa_nil)))
  (pss_cons (ps_if (pt_cmpR op_in_rng (pv 8) (pe_callTy cr_range1 (by rfl) T.n_range (by decide +kernel) (pa_cons (pe_callB call_len_seq (by rfl) T.n_len PySem.boot_len (pa_cons (pv 2) pa_nil)) pa_nil)) (by rfl)) (pss_one (ps_set (i := 6) sc__law_asked.nd rfl (Or.inl rfl) (pe_lst (pa_cons (pe_ix ix_seq (pv 2) (pv 8) (fun _ _ => rfl)) pa_nil)))) pss_nil)
  (pss_cons (ps_if (pt_not (pt_val (pe_cal c__law_exact (hr.mono (by first | exact Nat.le_refl _ | decide)) (by rfl) (pa_cons (pe_cal c__law_pair_told (hr.mono (by first | exact Nat.le_refl _ | decide)) (by rfl) (pa_cons (pv 0) (pa_cons (pv 8) pa_nil))) (pa_cons (pv 6) pa_nil))))) (pss_one (ps_ret pe_bl)) pss_nil)
  (pss_one (ps_for PassesOwn.never rfl (pi_list (pv 4)) (pg_name (i := 5) sc__law_asked.nd rfl (Or.inl rfl)) (pss_cons (ps_set (i := 6) sc__law_asked.nd rfl (Or.inl rfl) (pe_cal c__law_far_due (hr.mono (by first | exact Nat.le_refl _ | decide)) (by rfl) (pa_cons (pv 1) (pa_cons (pv 2) (pa_cons (pv 8) (pa_cons (pv 5) pa_nil))))))
  (pss_one (ps_if (pt_not (pt_val (pe_cal c__law_exact (hr.mono (by first | exact Nat.le_refl _ | decide)) (by rfl) (pa_cons (pe_cal c__law_far_told (hr.mono (by first | exact Nat.le_refl _ | decide)) (by rfl) (pa_cons (pv 0) (pa_cons (pv 8) (pa_cons (pv 5) pa_nil)))) (pa_cons (pv 6) pa_nil))))) (pss_one (ps_ret pe_bl)) pss_nil)))))))))
  (pss_one (ps_ret pe_bl))))))), fun W => (vs_cut (vs_if (vt_or (vt_not (vt_B (VRs.ve (vrs_call (vk_val (ve_fld T.net_cl T.net_s (ve_var 0)) (vk_val (ve_var 1) vk_nil)))))) (vt_not (vt_B (VRs.ve (vrs_call (vk_val (ve_fld T.net_cl T.net_r (ve_var 0)) (vk_val (ve_tupleOf (vb_var 2)) vk_nil))))))) (vs_ret (ve_c fun _ => .bl _)) vs_next)
  (vs_cut (vs_if (vt_not (vt_B (VRs.ve (vrs_call (vk_val (ve_reprOwn (ve_var 0)) (vk_val (ve_cats (ve_cats (ve_cats (ve_cats (ve_c fun _ => .str _) (ve_strI (ve_var 1))) (ve_c fun _ => .str _)) (ve_repr (vb_var 2))) (ve_c fun _ => .str _)) vk_nil)))))) (vs_ret (ve_c fun _ => .bl _)) vs_next)
  (vs_cut (vs_asg (VF.ve (vf_cat (VE.vb (VF.ve (vf_listR2 (ve_unI (ve_c fun _ => .int _) fun _ _ => .int _) (ve_op (ve_var 1) (ve_c fun _ => .int _) (vr_I0 fun _ _ _ => .int _))))) (vb_var 3))) (vg_name 4))
  (vs_seq (vs_for (vi_list (ve_var 4)) (vg_name 5) (vs_seq (vs_asg (VF.ve (VRs.vf (vrs_call (vk_val (ve_var 1) (vk_val (ve_var 2) (vk_val (ve_var 5) vk_nil)))))) (vg_name 6))
  (vs_near (iN := 0) (iS := 5) (iT := 7) (vt_not (vt_B (VRs.ve (vrs_call (vk_val (ve_var 7) (vk_val (ve_var 6) vk_nil)))))) (vt_B (ve_isi (VE.vb (ve_ix (vb_var 7) (ve_c fun _ => .int _))) (.ty _))) (vt_not (vt_B (VRs.ve (vrs_call (vk_val (VF.ve (VRs.vf (vrs_call (vk_val (ve_var 0) (vk_val (ve_var 5) vk_nil))))) (vk_val (ve_var 6) vk_nil)))))) app_run)))
  (vs_seq (vs_for (vi_list (VF.ve (vf_cat (VE.vb (VF.ve (vf_listR2 (ve_unI (ve_c fun _ => .int _) fun _ _ => .int _) (ve_op (ve_len (vb_var 2)) (ve_c fun _ => .int _) (vr_I0 fun _ _ _ => .int _))))) (vb_var 3)))) (vg_name 8) (vs_seq (vs_asg (VF.ve (vf_lst (va_cons (ve_tup (va_cons (ve_c fun _ => .str _) (va_cons (ve_var 8) va_nil))) va_nil))) (vg_name 6))
  (vs_cut (vs_if (vt_test (ve_inR (ve_var 8) (ve_len (vb_var 2)))) (vs_asg (VF.ve (vf_lst (va_cons (ve_ix (vb_var 2) (ve_var 8)) va_nil))) (vg_name 6)) vs_next)
  (vs_seq (vs_if (vt_not (vt_B (VRs.ve (vrs_call (vk_val (VF.ve (VRs.vf (vrs_call (vk_val (ve_var 0) (vk_val (ve_var 8) vk_nil))))) (vk_val (ve_var 6) vk_nil)))))) (vs_ret (ve_c fun _ => .bl _)) vs_next)
  (vs_for (vi_list (ve_var 4)) (vg_name 5) (vs_seq (vs_asg (VF.ve (VRs.vf (vrs_call (vk_val (ve_var 1) (vk_val (ve_var 2) (vk_val (ve_var 8) (vk_val (ve_var 5) vk_nil))))))) (vg_name 6))
  (vs_if (vt_not (vt_B (VRs.ve (vrs_call (vk_val (VF.ve (VRs.vf (vrs_call (vk_val (ve_var 0) (vk_val (ve_var 8) (vk_val (ve_var 5) vk_nil)))))) (vk_val (ve_var 6) vk_nil)))))) (vs_ret (ve_c fun _ => .bl _)) vs_next)))))))
  (vs_ret (ve_c fun _ => .bl _))))))), fun as X Q h => ?_⟩)
  · obtain ⟨m, ps, ws, rfl, _⟩ := h
    rfl
  · obtain ⟨m, ps, ws, rfl, ok, lw, wb, q⟩ := h
    have R := ok
    obtain ⟨okS, l40, okp, lk⟩ := ok
    obtain ⟨m1, m24⟩ := size_nb okS
    obtain ⟨x, sh, lx⟩ := shw_pairs m24 (by omega) okp
    have logm : m.natAbs.log2 < 1920 := log_int (by omega) (by omega)
    have il : (Str.ofString (toString m)).length ≤ 2000 := Nat.le_trans (int_text_len_1921 logm) (by decide)
    have k1 : ("Net(" : Str).length ≤ 10 := by decide +kernel
    have k2 : (", " : Str).length ≤ 10 := by decide +kernel
    have k3 : (")" : Str).length ≤ 10 := by decide +kernel
    have ap : ∀ x y : Str, (x ++ y).length = x.length + y.length := fun x y => len_cat x y
    refine ⟨fun η => η = [.fz (netD A₀ m ps), .fz (.int m), .fz (.lst (ps.map pD)), .fz (.lst (ws.map D.int)), .no, .no, .no, .no, .no], ?_, ?_⟩
    · exact ⟨rfl, _, rfl, D.int m, rfl, trivial, rfl, _, rfl, D.tup (ps.map pD), rfl, (exx_pairs 3 ps (by omega)).1, rfl⟩
    rintro η rfl
    refine ⟨fun η => η = [.fz (netD A₀ m ps), .fz (.int m), .fz (.lst (ps.map pD)), .fz (.lst (ws.map D.int)), .no, .no, .no, .no, .no], ?_, ?_⟩
    · refine ⟨rfl, m, ps, x, rfl, ⟨m1, m24⟩, by omega, sh, by omega, logm, ?_, ?_, x, sh, ?_, ?_, D.str (netTxt m x), rfl, trivial, rfl⟩
      all_goals
        try simp only [ap]
        omega
    rintro η rfl
    refine ⟨fun η => ∃ zs : List Int, η = [.fz (netD A₀ m ps), .fz (.int m), .fz (.lst (ps.map pD)), .fz (.lst (ws.map D.int)), .fz (.lst (zs.map D.int)), .no, .no, .no, .no] ∧ (∀ x ∈ zs, x.natAbs < 2 ^ 61) ∧ zs.length ≤ 1000, ?_, ?_⟩
    · refine ⟨⟨by omega, by omega, by decide, by decide⟩, ?_⟩
      have e : rngD (-1) (m + 1 - -1).toNat ++ ws.map D.int = (((List.range (m + 1 - -1).toNat).map fun (k : Nat) => -1 + (k : Int)) ++ ws).map D.int := by
        rw [List.map_append, List.map_map]
        rfl
      refine ⟨by rw [rngD_len, List.length_map]; omega, ((List.range (m + 1 - -1).toNat).map fun (k : Nat) => -1 + (k : Int)) ++ ws, ?_, fun x hx => ?_, ?_⟩
      · rw [← e]
        rfl
      · rcases List.mem_append.mp hx with hx | hx
        · obtain ⟨k, hk, rfl⟩ := List.mem_map.mp hx
          have := List.mem_range.mp hk
          omega
        · have := wb x hx
          omega
      · rw [List.length_append, List.length_map, List.length_range]
        omega
    rintro η ⟨zs, rfl, zb, zl⟩
    have noS : ∀ {s5 s6 : Sl}, (∀ q o, s5 ≠ .ow q o) → (∀ q o, s6 ≠ .ow q o) → NoOwn [.fz (netD A₀ m ps), .fz (.int m), .fz (.lst (ps.map pD)), .fz (.lst (ws.map D.int)), .fz (.lst (zs.map D.int)), s5, s6, .no, .no] := fun {s5 s6} h5 h6 i q o e => by
      match i, e with
      | 0, e => cases e
      | 1, e => cases e
      | 2, e => cases e
      | 3, e => cases e
      | 4, e => cases e
      | 5, e => exact h5 q o (Option.some.inj e)
      | 6, e => exact h6 q o (Option.some.inj e)
      | 7, e => cases e
      | 8, e => cases e
    have nearX : ∀ s, ExX 5 (.lst (nearD m ps s)) := fun s => exx_near (by omega)
    have farX : ∀ r s, ExX 5 (.lst (farD m ps r s)) := fun r s => exx_far
    have endsX : ∀ r, ExX 5 (.lst (endsD ps r)) := fun r => exx_ends
    refine ⟨fun i η => ∃ s5 s6, η = [.fz (netD A₀ m ps), .fz (.int m), .fz (.lst (ps.map pD)), .fz (.lst (ws.map D.int)), .fz (.lst (zs.map D.int)), s5, s6, .no, .no] ∧ (∀ q o, s5 ≠ .ow q o) ∧ (∀ q o, s6 ≠ .ow q o), ⟨_, _, rfl, fun _ _ z => (by cases z), fun _ _ z => (by cases z)⟩, ?_, ?_⟩
    · rintro i d η e ⟨s5, s6, rfl, n5, n6⟩
      obtain ⟨z, ez, rfl⟩ := map_inv e
      have hz := zb z (List.mem_of_getElem? ez)
      refine ⟨m, z, ps, rfl, by omega, ?_⟩
      have small : ∀ ds, nearD m ps z = [.lst ds] → ds.length < 1000000 := fun ds e => by
        unfold nearD at e
        split at e
        · cases e
        · injection e with e _
          injection e with e
          rw [← e, List.length_map]
          have := ropesAt_len z ps 0
          omega
      refine ⟨netD A₀ m ps, .int z, nearD m ps z, ⟨rfl, rfl, noS (fun _ _ z => by cases z) (fun _ _ z => by cases z), by show 7 < 9; decide⟩, ⟨nol_net, nol_int, small⟩, fun Q q => ⟨z, m, ps, rfl, by omega, by omega, q⟩, ?_, ?_, ?_, ?_⟩
      · exact ⟨D.lst (nearD m ps z), rfl, nearX z, rfl, rfl⟩
      · unfold nearD
        split
        · exact ⟨_, rfl, _, _, rfl, kF, rfl, fun z => by cases z⟩
        · exact ⟨_, rfl, _, _, rfl, kT, rfl, fun _ => ⟨_, rfl⟩⟩
      · exact ⟨z, m, ps, rfl, by omega, by omega, D.lst (nearD m ps z), rfl, nearX z, rfl, rfl⟩
      · exact ⟨_, _, rfl, fun _ _ z => (by cases z), fun _ _ z => (by cases z)⟩
    · rintro η ⟨s5, s6, rfl, n5, n6⟩
      have lm : (((ps.map pD).length : Nat) : Int) = ps.length := by rw [List.length_map]
      have e2 : rngD (-1) (((ps.map pD).length : Int) + 1 - -1).toNat ++ ws.map D.int = (((List.range (((ps.map pD).length : Int) + 1 - -1).toNat).map fun (k : Nat) => -1 + (k : Int)) ++ ws).map D.int := by
        rw [List.map_append, List.map_map]
        rfl
      refine ⟨⟨by omega, by omega, by decide, by decide⟩, by simp only [rngD_len, List.length_map]; omega, fun i η => ∃ s5 s6 s8, η = [.fz (netD A₀ m ps), .fz (.int m), .fz (.lst (ps.map pD)), .fz (.lst (ws.map D.int)), .fz (.lst (zs.map D.int)), s5, s6, .no, s8], ⟨_, _, _, rfl⟩, ?_, ?_⟩
      · rintro i d η e ⟨s5, s6, s8, rfl⟩
        have e : (rngD (-1) (((ps.map pD).length : Int) + 1 - -1).toNat ++ ws.map D.int)[i]? = some d := e
        rw [e2] at e
        obtain ⟨r, er, rfl⟩ := map_inv e
        have hr : r.natAbs < 2 ^ 61 := by
          rcases List.mem_append.mp (List.mem_of_getElem? er) with hx | hx
          · obtain ⟨k, hk, rfl⟩ := List.mem_map.mp hx
            have := List.mem_range.mp hk
            omega
          · have := wb r hx
            omega
        refine ⟨fun η => η = [.fz (netD A₀ m ps), .fz (.int m), .fz (.lst (ps.map pD)), .fz (.lst (ws.map D.int)), .fz (.lst (zs.map D.int)), s5, .fz (.lst (endsD ps r)), .no, .fz (.int r)], ?_, ?_⟩
        · refine ite2 (fun c => ?_) (fun c => ?_)
          · have c := of_decide_eq_true c
            rw [lm] at c
            obtain ⟨k, rfl⟩ := Int.eq_ofNat_of_zero_le c.1
            have hk : k < ps.length := by omega
            have et : endsD ps (k : Int) = [pD ps[k]] := by
              unfold endsD
              rw [if_pos c, Int.toNat_natCast, List.getElem?_eq_getElem hk]
              rfl
            rw [et]
            exact ⟨_, atI_nat (by rw [List.getElem?_map, List.getElem?_eq_getElem hk]; rfl), rfl⟩
          · have c : ¬ (0 ≤ r ∧ r < ps.length) := fun h => c (decide_eq_true (by rw [lm]; exact h))
            have et : endsD ps r = [.tup [.str "NoRope", .int r]] := by
              unfold endsD
              rw [if_neg c]
            rw [et]
            rfl
        rintro η rfl
        refine ⟨r, m, ps, rfl, by omega, D.lst (endsD ps r), rfl, endsX r, ?_⟩
        refine ⟨fun j η => ∃ s5 s6, η = [.fz (netD A₀ m ps), .fz (.int m), .fz (.lst (ps.map pD)), .fz (.lst (ws.map D.int)), .fz (.lst (zs.map D.int)), s5, s6, .no, .fz (.int r)], ⟨_, _, rfl⟩, ?_, ?_⟩
        · rintro j d η e ⟨s5, s6, rfl⟩
          obtain ⟨z, ez, rfl⟩ := map_inv e
          have hz := zb z (List.mem_of_getElem? ez)
          exact ⟨m, r, z, ps, rfl, by omega, r, z, m, ps, rfl, by omega, by omega, D.lst (farD m ps r z), rfl, farX r z, _, _, rfl⟩
        · rintro η ⟨s5, s6, rfl⟩
          exact ⟨_, _, _, rfl⟩
      · rintro η ⟨s5, s6, s8, rfl⟩
        exact ⟨_, .fz (.fz (.fz (.fz .nil))), q⟩
end
end Tw

namespace Tw
open PySem PySem.Spec PyProof.Rows L2
section
variable {P : Program} {w : World} {K : PySem.W.Frag} {mg : Str → Option Value} {base : Heap} {A₀ : Ad}
theorem same_due (n : Int) (a b : List Rope) : ¬ (!decide ((decide (n = n) && decide (a = b)) = PyData.eqv (D.p (.lst (b.map pD))) (D.p (.lst (a.map pD))))) = true := by
  have h : (decide (n = n) && decide (a = b)) = PyData.eqv (D.p (.lst (b.map pD))) (D.p (.lst (a.map pD))) := by
    rw [eq_pairs, decide_eq_true (rfl : n = n), Bool.true_and]
    exact decide_eq_decide.mpr ⟨Eq.symm, Eq.symm⟩
  rw [decide_eq_true h]
  decide
theorem same_due2 (n : Int) (a b : List Rope) : ¬ (!decide ((decide (n = n) && decide (a = b)) = PyData.eqv (D.p (.lst (a.map pD))) (D.p (.lst (b.map pD))))) = true := by
  have h : (decide (n = n) && decide (a = b)) = PyData.eqv (D.p (.lst (a.map pD))) (D.p (.lst (b.map pD))) := by
    rw [eq_pairs, decide_eq_true (rfl : n = n), Bool.true_and]
  rw [decide_eq_true h]
  decide
theorem exx_due {m : Int} {ps : List Rope} {ds : List D} (h : Due m ps ds) : ExX 5 (.lst ds) := by
  have two : ∀ {a b : D}, ExX 3 a → ExX 3 b → ExX 5 (.lst [.tup [a, b]]) := fun {a b} ha hb => exx_one (exx_tup (by show 2 ≤ 10; decide) fun d hd => by
    rcases List.mem_cons.mp hd with rfl | hd
    · exact ha
    · rw [List.mem_singleton.mp hd]; exact hb)
  cases h with
  | size => exact two trivial trivial
  | many => exact two trivial trivial
  | rope => exact two trivial trivial
  | con => exact two trivial trivial
  | fine => exact ⟨by show 0 ≤ 1000001; decide, fun d hd => by cases hd⟩
theorem dok_two (x : Str) (i : Int) (hx : (PyData.str x).canLay0 = true) : DOk (.lst [.tup [.str x, .int i]]) := ⟨rfl, by
  show SeqAt.shaped (.list [.tuple [.str x, .int i]]) = true
  simp [SeqAt.shaped, PyData.canLay0, PyData.canLayAll0, PyData.depth, PyData.depthAll] at hx ⊢
  try exact hx⟩
theorem dok_nil : DOk (.lst []) := ⟨rfl, by
  show SeqAt.shaped (.list []) = true
  simp [SeqAt.shaped, PyData.canLay0, PyData.canLayAll0, PyData.depth, PyData.depthAll]⟩
theorem dok_due {m : Int} {ps : List Rope} {ds : List D} (h : Due m ps ds) : DOk (.lst ds) := by
  cases h with
  | size => exact dok_two _ _ (by decide +kernel)
  | many => exact dok_two _ _ (by decide +kernel)
  | rope => exact dok_two _ _ (by decide +kernel)
  | con => exact dok_two _ _ (by decide +kernel)
  | fine => exact dok_nil
theorem eqv_one (d : D) : PyData.eqv (D.p (.lst [d])) (D.p (.lst [])) = false := by
  show PyData.eqv (.list [D.p d]) (.list []) = false
  simp [PyData.eqv, PyData.eqvAll]
theorem due_nil {m : Int} {ps : List Rope} {ds : List D} (h : Due m ps ds) : PyData.eqv (D.p (.lst ds)) (D.p (.lst [])) = true → NetOk m ps := by
  cases h with
  | fine h1 h2 h3 h4 =>
    intro _
    refine ⟨h1, h2, h3, fun s hs => ?_⟩
    have m1 := (size_nb h1).1
    exact (rch_keep (ps := ps) (fun x => Lk ps 0 x) .refl (fun p hp => ⟨fun h => .step h hp (.inl rfl), fun h => .step h hp (.inr rfl)⟩) m.toNat).1 _ ((rch_con m1 h3 s).mpr (h4 s hs))
  | _ => intro z; rw [eqv_one] at z; cases z
def svLaw : VSp := fun as _ Q => ∃ ns : List Int, as = [.fz (.scr ns)] ∧ ns.length ≤ 63 ∧ Q (.val (.bl true)) as
theorem og_law (T : Txt P w K mg base A₀) {f : Addr} {fd : FuncData} (F : Fun K "law" "law" s_law f fd) : FnG P w K mg base 8 f fd ["script"] (spV K svLaw) := by
  have c__law_bag := cv__law_bag T
  have c__law_net := cv__law_net T
  have c__law_bent := cv__law_bent T
  have c__law_due := cv__law_due T
  have c__law_exact := cv__law_exact T
  have c__law_refusal := cv__law_refusal T
  have c__law_draw := cv__law_draw T
  have c__law_others := cv__law_others T
  have g__law_asked := cg__law_asked T
  obtain ⟨fN, fdN, MN, NI, bN⟩ := mv_Net T
  obtain ⟨fQ_, fdQ, sQ, fQ, FQ, bQ⟩ := mv_eq T
  obtain ⟨fO_, fdO, sO, fO, FO, bO⟩ := mv_eqO T
  obtain ⟨fR, fdR, sR, fR', FR, bR⟩ := mv_repr T
  refine ok_ofVG F sc_law (fun as X Q h => ?_) (fun cdv A outer s H still hr => ⟨_, _, (pss_cons (ps_set (i := 1) sc_law.nd rfl (Or.inl rfl) (pe_cal c__law_bag (hr.mono (by first | exact Nat.le_refl _ | decide)) (by rfl) (pa_cons (pv 0) pa_nil)))
  (pss_cons (ps_set (i := 2) sc_law.nd rfl (Or.inl rfl) (pe_cal c__law_net (hr.mono (by first | exact Nat.le_refl _ | decide)) (by rfl) (pa_cons (pv 1) pa_nil)))
  (pss_cons (ps_set (i := 3) sc_law.nd rfl (Or.inl rfl) (pe_cal c__law_bent (hr.mono (by first | exact Nat.le_refl _ | decide)) (by rfl) (pa_cons (pv 1) (pa_cons (pv 2) pa_nil))))
  (pss_cons (ps_set (i := 4) sc_law.nd rfl (Or.inl rfl) (pe_cal c__law_due (hr.mono (by first | exact Nat.le_refl _ | decide)) (by rfl) (pa_cons (pe_ix ix_seq (pv 3) pe_int (fun _ _ => rfl)) (pa_cons (pe_ix ix_seq (pv 3) pe_int (fun _ _ => rfl)) pa_nil))))
  (pss_cons (ps_set (i := 5) sc_law.nd rfl (Or.inl rfl) (pe_callTy call_list_of (by rfl) T.n_list (by decide +kernel) (pa_cons (pe_ix ix_seq (pv 3) pe_int (fun _ _ => rfl)) pa_nil)))
  (pss_cons (ps_if (PW.pt (pw_or (pt_not (pt_val (pe_cal c__law_exact (hr.mono (by first | exact Nat.le_refl _ | decide)) (by rfl) (pa_cons (pe_cal c__law_refusal (hr.mono (by first | exact Nat.le_refl _ | decide)) (by rfl) (pa_cons (pe_ix ix_seq (pv 3) pe_int (fun _ _ => rfl)) (pa_cons (pv 5) pa_nil))) (pa_cons (pv 4) pa_nil))))) (pw_or1 (pt_cmpR (op_neD hr.units) (pv 5) (pe_ix ix_seq (pv 3) pe_int (fun _ _ => rfl)) (nomark _))))) (pss_one (ps_ret pe_bl)) pss_nil)
  (pss_cons (ps_if (pt_cmpR (op_eqD hr.units) (pv 4) (pe_lst pa_nil) (nomark _)) (pss_one (ps_set (i := 2) sc_law.nd rfl (Or.inl rfl) (pv 3))) pss_nil)
  (pss_cons (ps_set (i := 6) sc_law.nd rfl (Or.inl rfl) (pe_ix ix_seq (pv 2) pe_int (fun _ _ => rfl)))
  (pss_cons (ps_set (i := 7) sc_law.nd rfl (Or.inl rfl) (pe_ix ix_seq (pv 2) pe_int (fun _ _ => rfl)))
  (pss_cons (ps_set (i := 8) sc_law.nd rfl (Or.inl rfl) (pe_lst (pa_cons (pe_op op_sub (pe_un un_neg pe_int) (pe_cal c__law_draw (hr.mono (by first | exact Nat.le_refl _ | decide)) (by rfl) (pa_cons (pv 1) (pa_cons (pe_op op_pow pe_int pe_int) pa_nil)))) (pa_cons (pe_op op_sub (pe_op op_pow pe_int pe_int) (pe_cal c__law_draw (hr.mono (by first | exact Nat.le_refl _ | decide)) (by rfl) (pa_cons (pv 1) (pa_cons (pe_op op_pow pe_int pe_int) pa_nil)))) pa_nil))))
  (pss_cons (ps_set (i := 5) sc_law.nd rfl (Or.inl rfl) (pe_callTy call_list_of (by rfl) T.n_list (by decide +kernel) (pa_cons (pv 7) pa_nil)))
  (pss_cons (ps_set (i := 9) sc_law.nd rfl (Or.inl rfl) (pe_make (E := E0) MN NI (hr.mono (by first | exact Nat.le_refl _ | decide)) (by rfl) T.g_Net bN .nil passes_not (pa_cons (pv 6) (pa_cons (pv 5) pa_nil))))
  (pss_cons (ps_expr (pe_bm0 PySem.F.plainAttrs_list PySem.F.slot_list_reverse PySem.F.type_list_reverse mt_reverse (pv 5)))
  (pss_cons (ps_expr (pe_bm PySem.F.plainAttrs_list PySem.F.slot_list_append PySem.F.type_list_append mt_append (pv 5) (pa_cons (pe_tup (pa_cons pe_int (pa_cons pe_int pa_nil))) pa_nil)))
  (pss_cons (ps_set (i := 10) sc_law.nd rfl (Or.inl rfl) (pe_make (E := E0) MN NI (hr.mono (by first | exact Nat.le_refl _ | decide)) (by rfl) T.g_Net bN .nil passes_not (pa_cons (pv 6) (pa_cons (pe_callTy call_list_of (by rfl) T.n_list (by decide +kernel) (pa_cons (pv 7) pa_nil)) pa_nil))))
  (pss_cons (ps_for PassesOwn.never rfl (pi_list (pe_cal c__law_others (hr.mono (by first | exact Nat.le_refl _ | decide)) (by rfl) (pa_cons (pv 1) (pa_cons (pv 7) pa_nil)))) (pg_name (i := 11) sc_law.nd rfl (Or.inl rfl)) (pss_cons (ps_set (i := 12) sc_law.nd rfl (Or.inl rfl) (pe_make (E := E0) MN NI (hr.mono (by first | exact Nat.le_refl _ | decide)) (by rfl) T.g_Net bN .nil passes_not (pa_cons (pv 6) (pa_cons (pe_callTy call_list_of (by rfl) T.n_list (by decide +kernel) (pa_cons (pv 11) pa_nil)) pa_nil))))
  (pss_cons (ps_set (i := 13) sc_law.nd rfl (Or.inl rfl) (pe_cmpR (op_eqD hr.units) (pv 11) (pv 7) (nomark _)))
  (pss_cons (ps_if (PW.pt (pw_or (pt_cmpR op_ne (pe_cmpR (op_eqOwn (E := E0) FQ sQ fQ bQ (fun _ _ _ _ _ _ _ z => z.elim) (hr.mono (by first | exact Nat.le_refl _ | decide))) (pv 9) (pv 12) (nomark _)) (pv 13) (nomark _)) (pw_or1 (pt_cmpR op_ne (pe_cmpR (op_eqOwn (E := E0) FQ sQ fQ bQ (fun _ _ _ _ _ _ _ z => z.elim) (hr.mono (by first | exact Nat.le_refl _ | decide))) (pv 12) (pv 9) (nomark _)) (pv 13) (nomark _))))) (pss_one (ps_ret pe_bl)) pss_nil)
  (pss_one (ps_if (pt_not (pt_val (pe_calG g__law_asked still (hr.mono (by first | exact Nat.le_refl _ | decide)) (by rfl) (pa_cons (pv 12) (pa_cons (pv 6) (pa_cons (pv 11) (pa_cons (pe_slice sl_list (pv 8) po_none (po_some pe_int)) pa_nil))))))) (pss_one (ps_ret pe_bl)) pss_nil))))))
  (pss_cons (ps_if (PW.pt (pw_or (pt_not (pt_cmpR (op_eqOwn (E := E0) FQ sQ fQ bQ (fun _ _ _ _ _ _ _ z => z.elim) (hr.mono (by first | exact Nat.le_refl _ | decide))) (pv 9) (pv 10) (nomark _))) (pw_or (pt_cmpR (op_neOwn FQ sQ fQ T.net_ne T.net_mo bQ pass0 (hr.mono (by first | exact Nat.le_refl _ | decide))) (pv 9) (pv 10) (nomark _)) (pw_or (pt_cmpR (op_eqTy (T := "tuple") FO sO fO not_first.1 bO pass0 (hr.mono (by first | exact Nat.le_refl _ | decide))) (pv 9) (pe_tup (pa_cons (pv 6) (pa_cons (pe_callTy call_tuple_of (by rfl) T.n_tuple (by decide +kernel) (pa_cons (pv 7) pa_nil)) pa_nil))) (nomark _)) (pw_or1 (pt_cmpR (op_eqTy (T := "str") FO sO fO not_first.2 bO pass0 (hr.mono (by first | exact Nat.le_refl _ | decide))) (pv 9) (pe_callB (call_reprOwn FR sR fR' bR still (hr.mono (by first | exact Nat.le_refl _ | decide))) (by rfl) T.n_repr (by decide +kernel) (pa_cons (pv 9) pa_nil)) (nomark _))))))) (pss_one (ps_ret pe_bl)) pss_nil)
  (pss_one (ps_ret (pe_calG g__law_asked still (hr.mono (by first | exact Nat.le_refl _ | decide)) (by rfl) (pa_cons (pv 9) (pa_cons (pv 6) (pa_cons (pv 7) (pa_cons (pv 8) pa_nil)))))))))))))))))))))))), fun W => (vs_seq (vs_setO 1 (VRs.vf (vrs_call (vk_val (ve_var 0) vk_nil))))
  (vs_seq (vs_asg (VF.ve (VRs.vf (vrs_call (vk_ref 1 vk_nil)))) (vg_name 2))
  (vs_seq (vs_asg (VF.ve (VRs.vf (vrs_call (vk_ref 1 (vk_val (ve_var 2) vk_nil))))) (vg_name 3))
  (vs_seq (vs_asg (VF.ve (VRs.vf (vrs_call (vk_val (ve_ix (vb_var 3) (ve_c fun _ => .int _)) (vk_val (ve_ix (vb_var 3) (ve_c fun _ => .int _)) vk_nil))))) (vg_name 4))
  (vs_seq (vs_setO 5 (vf_list (VE.vb (ve_ix (vb_var 3) (ve_c fun _ => .int _)))))
  (vs_cut (VS.frz 5 (vs_if (vt_or (vt_not (vt_B (VRs.ve (vrs_call (vk_val (VF.ve (VRs.vf (vrs_call (vk_val (ve_ix (vb_var 3) (ve_c fun _ => .int _)) (vk_val (ve_var 5) vk_nil))))) (vk_val (ve_var 4) vk_nil)))))) (vt_test (ve_neD (vb_var 5) (VE.vb (ve_ix (vb_var 3) (ve_c fun _ => .int _)))))) (vs_ret (ve_c fun _ => .bl _)) vs_next))
  (vs_cut (vs_if (vt_test (ve_eqD (vb_var 4) (VE.vb (VF.ve (vf_lst va_nil))))) (vs_asg (ve_var 3) (vg_name 2)) vs_next)
  (vs_seq (vs_asg (ve_ix (vb_var 2) (ve_c fun _ => .int _)) (vg_name 6))
  (vs_seq (vs_asg (ve_ix (vb_var 2) (ve_c fun _ => .int _)) (vg_name 7))
  (vs_cut (vs_asg (VF.ve (vf_lst (va_cons (ve_op (ve_unI (ve_c fun _ => .int _) fun _ _ => .int _) (VRs.ve (vrs_call (vk_ref 1 (vk_val (ve_op (ve_c fun _ => .int _) (ve_c fun _ => .int _) (vr_I fun _ _ _ => .int _)) vk_nil)))) (vr_I0 fun _ _ _ => .int _)) (va_cons (ve_op (ve_op (ve_c fun _ => .int _) (ve_c fun _ => .int _) (vr_I fun _ _ _ => .int _)) (VRs.ve (vrs_call (vk_ref 1 (vk_val (ve_op (ve_c fun _ => .int _) (ve_c fun _ => .int _) (vr_I fun _ _ _ => .int _)) vk_nil)))) (vr_I0 fun _ _ _ => .int _)) va_nil)))) (vg_name 8))
  (vs_cut (vs_setO 5 (vf_list (vb_var 7)))
  (vs_seq (vs_lend (i := 6) (j := 5) (m := 9) (vf_make (lets_no (n := 14)) (vk_val (ve_var 6) (vk_val (ve_var 5) vk_nil))))
  (vs_seq (vs_drop (ve_lm0 5 vm_reverse))
  (vs_cut (vs_drop (ve_lm 5 vm_append (va_cons (ve_tup (va_cons (ve_c fun _ => .int _) (va_cons (ve_c fun _ => .int _) va_nil))) va_nil)))
  (vs_seq (vs_asg (VF.ve (VF.no (vf_make (lets_no (n := 14)) (vk_val (ve_var 6) (vk_val (VF.ve (vf_list (vb_var 7))) vk_nil))))) (vg_name 10))
  (vs_cut (vs_for (vi_list (VF.ve (VRs.vf (vrs_call (vk_ref 1 (vk_val (ve_var 7) vk_nil)))))) (vg_name 11) (vs_seq (vs_asg (VF.ve (VF.no (vf_make (lets_no (n := 14)) (vk_val (ve_var 6) (vk_val (VF.ve (vf_list (vb_var 11))) vk_nil))))) (vg_name 12))
  (vs_seq (vs_asg (ve_eqD (vb_var 11) (vb_var 7)) (vg_name 13))
  (vs_seq (vs_if (vt_or (vt_test (ve_ne (VRs.ve (vrs_eqOwn (ve_var 9) (ve_var 12))) (ve_var 13))) (vt_test (ve_ne (VRs.ve (vrs_eqOwn (ve_var 12) (ve_var 9))) (ve_var 13)))) (vs_ret (ve_c fun _ => .bl _)) vs_next)
  (vs_if (vt_not (vt_B (VRs.ve (vrs_call (vk_val (ve_var 12) (vk_val (ve_var 6) (vk_val (ve_var 11) (vk_val (VF.ve (vf_slL (vb_var 8) vo_none (vo_some (ve_c fun _ => .int _)))) vk_nil)))))))) (vs_ret (ve_c fun _ => .bl _)) vs_next)))))
  (vs_seq (vs_if (vt_or (vt_not (vt_test (VRs.ve (vrs_eqOwn (ve_var 9) (ve_var 10))))) (vt_or (vt_test (ve_neOwn (ve_var 9) (ve_var 10))) (vt_or (vt_test (ve_eqTy (ve_var 9) (ve_tup (va_cons (ve_var 6) (va_cons (ve_tupleOf (vb_var 7)) va_nil))))) (vt_test (ve_eqTy (ve_var 9) (ve_reprOwn (ve_var 9))))))) (vs_ret (ve_c fun _ => .bl _)) vs_next)
  (vs_ret (VRs.ve (vrs_call (vk_val (ve_var 9) (vk_val (ve_var 6) (vk_val (ve_var 7) (vk_val (ve_var 8) vk_nil)))))))))))))))))))))))), fun as X Q h => ?_⟩)
  · obtain ⟨ns, rfl, _⟩ := h
    rfl
  · obtain ⟨ns, rfl, hl, q⟩ := h
    have p6 : (10 : Int) ^ (6 : Int).toNat = 1000000 := by decide
    have p17 : (10 : Int) ^ (17 : Int).toNat = 100000000000000000 := by decide
    have c6 : CPow 10 6 := ⟨by decide, by decide, by decide⟩
    have c17 : CPow 10 17 := ⟨by decide, by decide, by decide⟩
    refine ⟨ns, rfl, hl, fun b wf q1 => ?_⟩
    refine ⟨q1, b, rfl, wf, fun b1 m ps wf1 ok => ?_⟩
    refine ⟨q1, b1, m, ps, rfl, wf1, ok.2.1, fun b2 m' qs wf2 lq => ?_⟩
    obtain ⟨ds, du⟩ := due_ex m' qs
    refine ⟨_, rfl, _, rfl, m', qs, ds, rfl, by omega, du, ?_⟩
    refine ⟨_, rfl, fun q5 => ?_⟩
    refine ⟨fun η => η = [.fz (.scr ns), .ow q1 (.lst b2), .fz (shapeD m ps), .fz (shapeD m' qs), .fz (.lst ds), .fz (.lst (qs.map pD)), .no, .no, .no, .no, .no, .no, .no, .no], ?_, ?_⟩
    · refine ⟨_, rfl, m', qs, ds, rfl, by omega, du, D.lst ds, rfl, exx_due du, _, rfl, ⟨dok_pairs qs, dok_pairs qs⟩, ite2 (fun bad => absurd bad ?_) (fun _ => rfl)⟩
      show ¬ (!PyData.eqv (D.p (.lst (qs.map pD))) (D.p (.lst (qs.map pD)))) = true
      rw [eq_pairs, decide_eq_true rfl]
      decide
    rintro η rfl
    refine ⟨fun η => ∃ (m2 : Int) (ps2 : List Rope), η = [.fz (.scr ns), .ow q1 (.lst b2), .fz (shapeD m2 ps2), .fz (shapeD m' qs), .fz (.lst ds), .fz (.lst (qs.map pD)), .no, .no, .no, .no, .no, .no, .no, .no] ∧ NetOk m2 ps2, ?_, ?_⟩
    · refine ⟨⟨dok_due du, dok_nil⟩, ite2 (fun z => ?_) (fun z => ?_)⟩
      · exact ⟨m', qs, rfl, due_nil du z⟩
      · exact ⟨m, ps, rfl, ok⟩
    rintro η ⟨m2, ps2, rfl, R⟩
    have R2 := R
    obtain ⟨okS, l40, okp, lk⟩ := R2
    obtain ⟨m21, m224⟩ := size_nb okS
    obtain ⟨x, sh, lx⟩ := shw_pairs m224 (by omega) okp
    have con : ∀ s : Nat, (s : Int) < m2 → Con ps2 s := fun s hs => con_lk (lk s hs)
    refine ⟨_, rfl, _, rfl, ?_⟩
    refine ⟨fun η => ∃ (b3 : List D) (w1 w2 : Int), η = [.fz (.scr ns), .ow q1 (.lst b3), .fz (shapeD m2 ps2), .fz (shapeD m' qs), .fz (.lst ds), .fz (.lst (qs.map pD)), .fz (.int m2), .fz (.lst (ps2.map pD)), .fz (.lst [.int w1, .int w2]), .no, .no, .no, .no, .no] ∧ WfB b3 ∧ w1.natAbs < 2 ^ 60 ∧ w2.natAbs < 2 ^ 60, ?_, ?_⟩
    · refine ⟨c6, q1, b2, _, rfl, wf2, by rw [p6]; decide, by rw [p6]; decide, fun d1 b3 d1a d1b wf3 => ?_⟩
      refine ⟨c17, c6, q1, b3, _, rfl, wf3, by rw [p6]; decide, by rw [p6]; decide, fun d2 b4 d2a d2b wf4 => ?_⟩
      rw [p6] at d1b d2b
      exact ⟨b4, _, _, rfl, wf4, by omega, by rw [p17]; omega⟩
    rintro η ⟨b3, w1, w2, rfl, wf3, wb1, wb2⟩
    refine ⟨fun η => ∃ q5 : Addr, η = [.fz (.scr ns), .ow q1 (.lst b3), .fz (shapeD m2 ps2), .fz (shapeD m' qs), .fz (.lst ds), .ow q5 (.lst (ps2.map pD)), .fz (.int m2), .fz (.lst (ps2.map pD)), .fz (.lst [.int w1, .int w2]), .no, .no, .no, .no, .no], ?_, ?_⟩
    · exact fun q5 => ⟨q5, rfl⟩
    rintro η ⟨q5, rfl⟩
    refine ⟨.int m2, q5, ps2.map pD, ⟨rfl, rfl, by show 9 < 14; decide, by decide, nol_int⟩, ?_⟩
    refine fun x0 dx0 => atCall_of rfl nd1 (net_good okS l40 okp con ?_)
    refine ⟨rfl, nol_net, fun ys z => (by cases z), ?_⟩
    refine ⟨fun η => ∃ (o5 : OB), η = [.fz (.scr ns), .ow q1 (.lst b3), .fz (shapeD m2 ps2), .fz (shapeD m' qs), .fz (.lst ds), .ow q5 o5, .fz (.int m2), .fz (.lst (ps2.map pD)), .fz (.lst [.int w1, .int w2]), .fz (netD A₀ m2 ps2), .no, .no, .no, .no], ?_, ?_⟩
    · exact ⟨by show (ps2.map pD).reverse.length < 1000000; rw [List.length_reverse, List.length_map]; omega, _, rfl⟩
    rintro η ⟨o5, rfl⟩
    refine fun x1 dx1 => atCall_of rfl nd1 (net_good okS l40 okp con ?_)
    refine ⟨fun η => ∃ (b4 : List D) (s11 s12 s13 : Sl), η = [.fz (.scr ns), .ow q1 (.lst b4), .fz (shapeD m2 ps2), .fz (shapeD m' qs), .fz (.lst ds), .ow q5 o5, .fz (.int m2), .fz (.lst (ps2.map pD)), .fz (.lst [.int w1, .int w2]), .fz (netD A₀ m2 ps2), .fz (netD A₀ m2 ps2), s11, s12, s13], ?_, ?_⟩
    · refine ⟨q1, b3, m2, ps2, rfl, wf3, R, fun b4 fs wf4 okf l3 => ?_⟩
      refine ⟨fun i η => ∃ (s11 s12 s13 : Sl), η = [.fz (.scr ns), .ow q1 (.lst b4), .fz (shapeD m2 ps2), .fz (shapeD m' qs), .fz (.lst ds), .ow q5 o5, .fz (.int m2), .fz (.lst (ps2.map pD)), .fz (.lst [.int w1, .int w2]), .fz (netD A₀ m2 ps2), .fz (netD A₀ m2 ps2), s11, s12, s13], ⟨_, _, _, rfl⟩, ?_, ?_⟩
      · rintro i d η e ⟨s11, s12, s13, rfl⟩
        obtain ⟨g, eg, rfl⟩ : ∃ g, fs[i]? = some g ∧ d = pL g := by
          have e : (fs.map pL)[i]? = some d := e
          rw [List.getElem?_map] at e
          cases h : fs[i]? with
          | none => rw [h] at e; cases e
          | some g => rw [h] at e; cases e; exact ⟨g, rfl, rfl⟩
        have G := okf g (List.mem_of_getElem? eg)
        obtain ⟨gS, g40, gp, glk⟩ := id G
        refine fun x2 dx2 => atCall_of rfl nd1 (net_good gS g40 gp (fun s hs => con_lk (glk s hs)) ?_)
        refine ⟨⟨dok_pairs g, dok_pairs ps2⟩, ?_⟩
        refine ⟨⟨rfl, rfl⟩, m2, m2, ps2, g, rfl, ite2 (fun bad => absurd bad (same_due m2 ps2 g)) (fun _ => ?_)⟩
        refine ⟨⟨rfl, rfl⟩, m2, m2, g, ps2, rfl, ite2 (fun bad => absurd bad (same_due2 m2 g ps2)) (fun _ => ?_)⟩
        exact ⟨m2, g, [w1], rfl, G, by show 1 ≤ 10; decide, fun z hz => (by rw [List.mem_singleton.mp hz]; exact wb1), _, _, _, rfl⟩
      · rintro η ⟨s11, s12, s13, rfl⟩
        exact ⟨b4, s11, s12, s13, rfl⟩
    rintro η ⟨b4, s11, s12, s13, rfl⟩
    have wsb : ∀ z ∈ [w1, w2], z.natAbs < 2 ^ 60 := fun z hz => by
      rcases List.mem_cons.mp hz with rfl | hz
      · exact wb1
      · rw [List.mem_singleton.mp hz]; exact wb2
    have tt : (decide (m2 = m2) && decide (ps2 = ps2)) = true := by rw [decide_eq_true rfl, decide_eq_true rfl]; rfl
    refine ⟨⟨rfl, rfl⟩, m2, m2, ps2, ps2, rfl, ?_⟩
    rw [tt]
    refine iteF ⟨⟨rfl, rfl⟩, m2, m2, ps2, ps2, rfl, ?_⟩
    rw [tt]
    refine iteF ⟨⟨rfl, rfl⟩, m2, ps2, _, rfl, .inl ⟨_, rfl⟩, iteF ?_⟩
    refine ⟨rfl, m2, ps2, x, rfl, ⟨m21, m224⟩, by omega, sh, by omega, ⟨rfl, rfl⟩, m2, ps2, _, rfl, .inr ⟨_, rfl⟩, iteF ?_⟩
    exact ⟨m2, ps2, [w1, w2], rfl, R, by show 2 ≤ 10; decide, wsb, _, .fz .nil, q⟩
end
end Tw

namespace Tw
open PySem PySem.Spec PyProof.Rows L2 NdefX
abbrev s_BadNet : Stmt := inClass (top 3) 0
abbrev s_TooMany : Stmt := inClass (top 4) 0
abbrev s_NotConnected : Stmt := inClass (top 5) 0
abbrev s_NoStation : Stmt := inClass (top 7) 0
abbrev s_NoRope : Stmt := inClass (top 8) 0
abbrev s_NotThere : Stmt := inClass (top 6) 0
section
variable {P : Program} {w : World} {K : PySem.W.Frag} {mg : Str → Option Value} {base : Heap} {A₀ : Ad}
theorem ap_len (x y : Str) : (x ++ y).length = x.length + y.length := len_cat x y
theorem ini_BadNet {f C cc cda : Addr} {doc pm ct oc : Value} {od : Option Addr} {osl : Array (Option Value)} (T : OexC K C) (U : SupTxt P K C cc cda) (hn : PySem.W.findIn K (.ref C) "place" = some none)
    (lk : K.lookup f = some ⟨oc, od, .func (PySem.W.ksFn "__init__" "BadNet.__init__" (defArgs s_BadNet) (defBody s_BadNet) (defScope s_BadNet) .none .none doc pm none (.ref cda) ct cc), osl⟩) (hcd : PySem.W.codeIn K (.ref cda) "BadNet.__init__" = true) :
    FnOk P w K mg base CX0 1 f (PySem.W.ksFn "__init__" "BadNet.__init__" (defArgs s_BadNet) (defBody s_BadNet) (defScope s_BadNet) .none .none doc pm none (.ref cda) ct cc) ["self", "place"] (spIni C ["place"]) := by
  refine ini_ok (prest := []) (N := ["self", "place", "__class__"]) (ps := ["self", "place"]) lk hcd (nscope_by (by decide +kernel)) T U (by decide +kernel) rfl rfl (fun env => ⟨_, rfl⟩) (fun env => rfl) (fun env => rfl) (fun vs H Q E h => ?_) (fun A outer s H vs Q E h => ?_)
  · obtain ⟨a, ys, rfl, hl, _⟩ := h
    rw [List.length_cons, hl]
    rfl
  · obtain ⟨a, ys, rfl, hl, ha, ok, q⟩ := h
    obtain ⟨y, rfl⟩ : ∃ y, ys = [y] := by
      match ys, hl with
      | [y], _ => exact ⟨y, rfl⟩
    refine ⟨a, _, _, rfl, ha, pe_joined (PJ.cons pe_str (PJ.cons (pe_fmt (pv 1)) PJ.nil)), pss_one (ps_ost (pv 0) (pv 1)), ?_⟩
    have kz : (Str.empty : Str).length = 0 := by decide +kernel
    have hl1 : ("the net is bad at " : Str).length ≤ 100 := by decide +kernel
    obtain ⟨z, hz, hc⟩ : ∃ z : Str, z.length ≤ 100000 ∧ ((y = .str z) ∨ ∃ i : Int, y = .int i ∧ i.natAbs.log2 < 1920 ∧ z = Str.ofString (toString i)) := by
      rcases ok y List.mem_cons_self with ⟨i, rfl, h⟩ | ⟨z, rfl, h⟩
      · exact ⟨_, Nat.le_trans (int_text_len_1921 h) (by decide), .inr ⟨i, rfl, h, rfl⟩⟩
      · exact ⟨z, h, .inl rfl⟩
    have fin : ∃ x : Str, V.str z = .str x ∧ (Str.empty ++ "the net is bad at " ++ x).length ≤ sizeLine ∧ H a = some (exo a C none) ∧
        tOst K "place" (tVar 0) (tVar 1) { nx := fun x H' => Q V.non H', rt := Q } (startF ["self", "place", "__class__"] [V.ref a, y] [none]) H := by
      refine ⟨z, rfl, ?_, ha, ?_⟩
      · rw [ap_len, ap_len, sizeLine_eq]; omega
      · refine ⟨_, rfl, _, rfl, a, C, rfl, T, hn, .inl ⟨ha, fun dx nd ne => ?_⟩⟩
        refine q dx _ nd ne (fun b h1 h2 => ?_) upd_same ?_
        · rw [upd_ne h1, upd_ne h2]
        · rw [upd_ne ne, upd_same]
          rfl
    refine ⟨_, rfl, ?_, _, rfl, ?_⟩
    · rw [ap_len, sizeLine_eq]; omega
    · rcases hc with rfl | ⟨i, rfl, h, rfl⟩
      · exact .inl ⟨z, rfl, by rw [sizeLine_eq]; omega, fin⟩
      · exact .inr ⟨i, rfl, h, fin⟩
theorem ini_TooMany {f C cc cda : Addr} {doc pm ct oc : Value} {od : Option Addr} {osl : Array (Option Value)} (T : OexC K C) (U : SupTxt P K C cc cda) (hn : PySem.W.findIn K (.ref C) "limit" = some none)
    (lk : K.lookup f = some ⟨oc, od, .func (PySem.W.ksFn "__init__" "TooMany.__init__" (defArgs s_TooMany) (defBody s_TooMany) (defScope s_TooMany) .none .none doc pm none (.ref cda) ct cc), osl⟩) (hcd : PySem.W.codeIn K (.ref cda) "TooMany.__init__" = true) :
    FnOk P w K mg base CX0 1 f (PySem.W.ksFn "__init__" "TooMany.__init__" (defArgs s_TooMany) (defBody s_TooMany) (defScope s_TooMany) .none .none doc pm none (.ref cda) ct cc) ["self", "limit"] (spIni C ["limit"]) := by
  refine ini_ok (prest := []) (N := ["self", "limit", "__class__"]) (ps := ["self", "limit"]) lk hcd (nscope_by (by decide +kernel)) T U (by decide +kernel) rfl rfl (fun env => ⟨_, rfl⟩) (fun env => rfl) (fun env => rfl) (fun vs H Q E h => ?_) (fun A outer s H vs Q E h => ?_)
  · obtain ⟨a, ys, rfl, hl, _⟩ := h
    rw [List.length_cons, hl]
    rfl
  · obtain ⟨a, ys, rfl, hl, ha, ok, q⟩ := h
    obtain ⟨y, rfl⟩ : ∃ y, ys = [y] := by
      match ys, hl with
      | [y], _ => exact ⟨y, rfl⟩
    refine ⟨a, _, _, rfl, ha, pe_joined (PJ.cons pe_str (PJ.cons (pe_fmt (pv 1)) PJ.nil)), pss_one (ps_ost (pv 0) (pv 1)), ?_⟩
    have kz : (Str.empty : Str).length = 0 := by decide +kernel
    have hl1 : ("there are more than " : Str).length ≤ 100 := by decide +kernel
    obtain ⟨z, hz, hc⟩ : ∃ z : Str, z.length ≤ 100000 ∧ ((y = .str z) ∨ ∃ i : Int, y = .int i ∧ i.natAbs.log2 < 1920 ∧ z = Str.ofString (toString i)) := by
      rcases ok y List.mem_cons_self with ⟨i, rfl, h⟩ | ⟨z, rfl, h⟩
      · exact ⟨_, Nat.le_trans (int_text_len_1921 h) (by decide), .inr ⟨i, rfl, h, rfl⟩⟩
      · exact ⟨z, h, .inl rfl⟩
    have fin : ∃ x : Str, V.str z = .str x ∧ (Str.empty ++ "there are more than " ++ x).length ≤ sizeLine ∧ H a = some (exo a C none) ∧
        tOst K "limit" (tVar 0) (tVar 1) { nx := fun x H' => Q V.non H', rt := Q } (startF ["self", "limit", "__class__"] [V.ref a, y] [none]) H := by
      refine ⟨z, rfl, ?_, ha, ?_⟩
      · rw [ap_len, ap_len, sizeLine_eq]; omega
      · refine ⟨_, rfl, _, rfl, a, C, rfl, T, hn, .inl ⟨ha, fun dx nd ne => ?_⟩⟩
        refine q dx _ nd ne (fun b h1 h2 => ?_) upd_same ?_
        · rw [upd_ne h1, upd_ne h2]
        · rw [upd_ne ne, upd_same]
          rfl
    refine ⟨_, rfl, ?_, _, rfl, ?_⟩
    · rw [ap_len, sizeLine_eq]; omega
    · rcases hc with rfl | ⟨i, rfl, h, rfl⟩
      · exact .inl ⟨z, rfl, by rw [sizeLine_eq]; omega, fin⟩
      · exact .inr ⟨i, rfl, h, fin⟩
theorem ini_NotConnected {f C cc cda : Addr} {doc pm ct oc : Value} {od : Option Addr} {osl : Array (Option Value)} (T : OexC K C) (U : SupTxt P K C cc cda) (hn : PySem.W.findIn K (.ref C) "station" = some none)
    (lk : K.lookup f = some ⟨oc, od, .func (PySem.W.ksFn "__init__" "NotConnected.__init__" (defArgs s_NotConnected) (defBody s_NotConnected) (defScope s_NotConnected) .none .none doc pm none (.ref cda) ct cc), osl⟩) (hcd : PySem.W.codeIn K (.ref cda) "NotConnected.__init__" = true) :
    FnOk P w K mg base CX0 1 f (PySem.W.ksFn "__init__" "NotConnected.__init__" (defArgs s_NotConnected) (defBody s_NotConnected) (defScope s_NotConnected) .none .none doc pm none (.ref cda) ct cc) ["self", "station"] (spIni C ["station"]) := by
  refine ini_ok (prest := []) (N := ["self", "station", "__class__"]) (ps := ["self", "station"]) lk hcd (nscope_by (by decide +kernel)) T U (by decide +kernel) rfl rfl (fun env => ⟨_, rfl⟩) (fun env => rfl) (fun env => rfl) (fun vs H Q E h => ?_) (fun A outer s H vs Q E h => ?_)
  · obtain ⟨a, ys, rfl, hl, _⟩ := h
    rw [List.length_cons, hl]
    rfl
  · obtain ⟨a, ys, rfl, hl, ha, ok, q⟩ := h
    obtain ⟨y, rfl⟩ : ∃ y, ys = [y] := by
      match ys, hl with
      | [y], _ => exact ⟨y, rfl⟩
    refine ⟨a, _, _, rfl, ha, pe_joined (PJ.cons pe_str (PJ.cons (pe_fmt (pv 1)) PJ.nil)), pss_one (ps_ost (pv 0) (pv 1)), ?_⟩
    have kz : (Str.empty : Str).length = 0 := by decide +kernel
    have hl1 : ("no ropes lead from station 0 to station " : Str).length ≤ 100 := by decide +kernel
    obtain ⟨z, hz, hc⟩ : ∃ z : Str, z.length ≤ 100000 ∧ ((y = .str z) ∨ ∃ i : Int, y = .int i ∧ i.natAbs.log2 < 1920 ∧ z = Str.ofString (toString i)) := by
      rcases ok y List.mem_cons_self with ⟨i, rfl, h⟩ | ⟨z, rfl, h⟩
      · exact ⟨_, Nat.le_trans (int_text_len_1921 h) (by decide), .inr ⟨i, rfl, h, rfl⟩⟩
      · exact ⟨z, h, .inl rfl⟩
    have fin : ∃ x : Str, V.str z = .str x ∧ (Str.empty ++ "no ropes lead from station 0 to station " ++ x).length ≤ sizeLine ∧ H a = some (exo a C none) ∧
        tOst K "station" (tVar 0) (tVar 1) { nx := fun x H' => Q V.non H', rt := Q } (startF ["self", "station", "__class__"] [V.ref a, y] [none]) H := by
      refine ⟨z, rfl, ?_, ha, ?_⟩
      · rw [ap_len, ap_len, sizeLine_eq]; omega
      · refine ⟨_, rfl, _, rfl, a, C, rfl, T, hn, .inl ⟨ha, fun dx nd ne => ?_⟩⟩
        refine q dx _ nd ne (fun b h1 h2 => ?_) upd_same ?_
        · rw [upd_ne h1, upd_ne h2]
        · rw [upd_ne ne, upd_same]
          rfl
    refine ⟨_, rfl, ?_, _, rfl, ?_⟩
    · rw [ap_len, sizeLine_eq]; omega
    · rcases hc with rfl | ⟨i, rfl, h, rfl⟩
      · exact .inl ⟨z, rfl, by rw [sizeLine_eq]; omega, fin⟩
      · exact .inr ⟨i, rfl, h, fin⟩
theorem ini_NoStation {f C cc cda : Addr} {doc pm ct oc : Value} {od : Option Addr} {osl : Array (Option Value)} (T : OexC K C) (U : SupTxt P K C cc cda) (hn : PySem.W.findIn K (.ref C) "number" = some none)
    (lk : K.lookup f = some ⟨oc, od, .func (PySem.W.ksFn "__init__" "NoStation.__init__" (defArgs s_NoStation) (defBody s_NoStation) (defScope s_NoStation) .none .none doc pm none (.ref cda) ct cc), osl⟩) (hcd : PySem.W.codeIn K (.ref cda) "NoStation.__init__" = true) :
    FnOk P w K mg base CX0 1 f (PySem.W.ksFn "__init__" "NoStation.__init__" (defArgs s_NoStation) (defBody s_NoStation) (defScope s_NoStation) .none .none doc pm none (.ref cda) ct cc) ["self", "number"] (spIni C ["number"]) := by
  refine ini_ok (prest := []) (N := ["self", "number", "__class__"]) (ps := ["self", "number"]) lk hcd (nscope_by (by decide +kernel)) T U (by decide +kernel) rfl rfl (fun env => ⟨_, rfl⟩) (fun env => rfl) (fun env => rfl) (fun vs H Q E h => ?_) (fun A outer s H vs Q E h => ?_)
  · obtain ⟨a, ys, rfl, hl, _⟩ := h
    rw [List.length_cons, hl]
    rfl
  · obtain ⟨a, ys, rfl, hl, ha, ok, q⟩ := h
    obtain ⟨y, rfl⟩ : ∃ y, ys = [y] := by
      match ys, hl with
      | [y], _ => exact ⟨y, rfl⟩
    refine ⟨a, _, _, rfl, ha, pe_joined (PJ.cons pe_str (PJ.cons (pe_fmt (pv 1)) PJ.nil)), pss_one (ps_ost (pv 0) (pv 1)), ?_⟩
    have kz : (Str.empty : Str).length = 0 := by decide +kernel
    have hl1 : ("there is no station " : Str).length ≤ 100 := by decide +kernel
    obtain ⟨z, hz, hc⟩ : ∃ z : Str, z.length ≤ 100000 ∧ ((y = .str z) ∨ ∃ i : Int, y = .int i ∧ i.natAbs.log2 < 1920 ∧ z = Str.ofString (toString i)) := by
      rcases ok y List.mem_cons_self with ⟨i, rfl, h⟩ | ⟨z, rfl, h⟩
      · exact ⟨_, Nat.le_trans (int_text_len_1921 h) (by decide), .inr ⟨i, rfl, h, rfl⟩⟩
      · exact ⟨z, h, .inl rfl⟩
    have fin : ∃ x : Str, V.str z = .str x ∧ (Str.empty ++ "there is no station " ++ x).length ≤ sizeLine ∧ H a = some (exo a C none) ∧
        tOst K "number" (tVar 0) (tVar 1) { nx := fun x H' => Q V.non H', rt := Q } (startF ["self", "number", "__class__"] [V.ref a, y] [none]) H := by
      refine ⟨z, rfl, ?_, ha, ?_⟩
      · rw [ap_len, ap_len, sizeLine_eq]; omega
      · refine ⟨_, rfl, _, rfl, a, C, rfl, T, hn, .inl ⟨ha, fun dx nd ne => ?_⟩⟩
        refine q dx _ nd ne (fun b h1 h2 => ?_) upd_same ?_
        · rw [upd_ne h1, upd_ne h2]
        · rw [upd_ne ne, upd_same]
          rfl
    refine ⟨_, rfl, ?_, _, rfl, ?_⟩
    · rw [ap_len, sizeLine_eq]; omega
    · rcases hc with rfl | ⟨i, rfl, h, rfl⟩
      · exact .inl ⟨z, rfl, by rw [sizeLine_eq]; omega, fin⟩
      · exact .inr ⟨i, rfl, h, fin⟩
theorem ini_NoRope {f C cc cda : Addr} {doc pm ct oc : Value} {od : Option Addr} {osl : Array (Option Value)} (T : OexC K C) (U : SupTxt P K C cc cda) (hn : PySem.W.findIn K (.ref C) "number" = some none)
    (lk : K.lookup f = some ⟨oc, od, .func (PySem.W.ksFn "__init__" "NoRope.__init__" (defArgs s_NoRope) (defBody s_NoRope) (defScope s_NoRope) .none .none doc pm none (.ref cda) ct cc), osl⟩) (hcd : PySem.W.codeIn K (.ref cda) "NoRope.__init__" = true) :
    FnOk P w K mg base CX0 1 f (PySem.W.ksFn "__init__" "NoRope.__init__" (defArgs s_NoRope) (defBody s_NoRope) (defScope s_NoRope) .none .none doc pm none (.ref cda) ct cc) ["self", "number"] (spIni C ["number"]) := by
  refine ini_ok (prest := []) (N := ["self", "number", "__class__"]) (ps := ["self", "number"]) lk hcd (nscope_by (by decide +kernel)) T U (by decide +kernel) rfl rfl (fun env => ⟨_, rfl⟩) (fun env => rfl) (fun env => rfl) (fun vs H Q E h => ?_) (fun A outer s H vs Q E h => ?_)
  · obtain ⟨a, ys, rfl, hl, _⟩ := h
    rw [List.length_cons, hl]
    rfl
  · obtain ⟨a, ys, rfl, hl, ha, ok, q⟩ := h
    obtain ⟨y, rfl⟩ : ∃ y, ys = [y] := by
      match ys, hl with
      | [y], _ => exact ⟨y, rfl⟩
    refine ⟨a, _, _, rfl, ha, pe_joined (PJ.cons pe_str (PJ.cons (pe_fmt (pv 1)) PJ.nil)), pss_one (ps_ost (pv 0) (pv 1)), ?_⟩
    have kz : (Str.empty : Str).length = 0 := by decide +kernel
    have hl1 : ("there is no rope " : Str).length ≤ 100 := by decide +kernel
    obtain ⟨z, hz, hc⟩ : ∃ z : Str, z.length ≤ 100000 ∧ ((y = .str z) ∨ ∃ i : Int, y = .int i ∧ i.natAbs.log2 < 1920 ∧ z = Str.ofString (toString i)) := by
      rcases ok y List.mem_cons_self with ⟨i, rfl, h⟩ | ⟨z, rfl, h⟩
      · exact ⟨_, Nat.le_trans (int_text_len_1921 h) (by decide), .inr ⟨i, rfl, h, rfl⟩⟩
      · exact ⟨z, h, .inl rfl⟩
    have fin : ∃ x : Str, V.str z = .str x ∧ (Str.empty ++ "there is no rope " ++ x).length ≤ sizeLine ∧ H a = some (exo a C none) ∧
        tOst K "number" (tVar 0) (tVar 1) { nx := fun x H' => Q V.non H', rt := Q } (startF ["self", "number", "__class__"] [V.ref a, y] [none]) H := by
      refine ⟨z, rfl, ?_, ha, ?_⟩
      · rw [ap_len, ap_len, sizeLine_eq]; omega
      · refine ⟨_, rfl, _, rfl, a, C, rfl, T, hn, .inl ⟨ha, fun dx nd ne => ?_⟩⟩
        refine q dx _ nd ne (fun b h1 h2 => ?_) upd_same ?_
        · rw [upd_ne h1, upd_ne h2]
        · rw [upd_ne ne, upd_same]
          rfl
    refine ⟨_, rfl, ?_, _, rfl, ?_⟩
    · rw [ap_len, sizeLine_eq]; omega
    · rcases hc with rfl | ⟨i, rfl, h, rfl⟩
      · exact .inl ⟨z, rfl, by rw [sizeLine_eq]; omega, fin⟩
      · exact .inr ⟨i, rfl, h, fin⟩
theorem ini_NotThere {f C cc cda : Addr} {doc pm ct oc : Value} {od : Option Addr} {osl : Array (Option Value)} (T : OexC K C) (U : SupTxt P K C cc cda) (hn : PySem.W.findIn K (.ref C) "rope" = some none) (hn2 : PySem.W.findIn K (.ref C) "station" = some none)
    (lk : K.lookup f = some ⟨oc, od, .func (PySem.W.ksFn "__init__" "NotThere.__init__" (defArgs s_NotThere) (defBody s_NotThere) (defScope s_NotThere) .none .none doc pm none (.ref cda) ct cc), osl⟩) (hcd : PySem.W.codeIn K (.ref cda) "NotThere.__init__" = true) :
    FnOk P w K mg base CX0 1 f (PySem.W.ksFn "__init__" "NotThere.__init__" (defArgs s_NotThere) (defBody s_NotThere) (defScope s_NotThere) .none .none doc pm none (.ref cda) ct cc) ["self", "rope", "station"] (spIni C ["rope", "station"]) := by
  refine ini_ok (prest := []) (N := ["self", "rope", "station", "__class__"]) (ps := ["self", "rope", "station"]) lk hcd (nscope_by (by decide +kernel)) T U (by decide +kernel) rfl rfl (fun env => ⟨_, rfl⟩) (fun env => rfl) (fun env => rfl) (fun vs H Q E h => ?_) (fun A outer s H vs Q E h => ?_)
  · obtain ⟨a, ys, rfl, hl, _⟩ := h
    rw [List.length_cons, hl]
    rfl
  · obtain ⟨a, ys, rfl, hl, ha, ok, q⟩ := h
    obtain ⟨y, y2, rfl⟩ : ∃ y y2, ys = [y, y2] := by
      match ys, hl with
      | [y, y2], _ => exact ⟨y, y2, rfl⟩
    refine ⟨a, _, _, rfl, ha, pe_joined (PJ.cons pe_str (PJ.cons (pe_fmt (pv 1)) (PJ.cons pe_str (PJ.cons (pe_fmt (pv 2)) PJ.nil)))), pss_cons (ps_ost (pv 0) (pv 1)) (pss_one (ps_ost (pv 0) (pv 2))), ?_⟩
    have kz : (Str.empty : Str).length = 0 := by decide +kernel
    have hl1 : ("rope " : Str).length ≤ 100 := by decide +kernel
    have hl2 : (" does not end at station " : Str).length ≤ 100 := by decide +kernel
    have sz : sizeLine = 16777216 := sizeLine_eq
    have txt : ∀ y, okMsg y → ∃ z : Str, z.length ≤ 100000 ∧ ((y = .str z) ∨ ∃ i : Int, y = .int i ∧ i.natAbs.log2 < 1920 ∧ z = Str.ofString (toString i)) := fun y h => by
      rcases h with ⟨i, rfl, h⟩ | ⟨z, rfl, h⟩
      · exact ⟨_, Nat.le_trans (int_text_len_1921 h) (by decide), .inr ⟨i, rfl, h, rfl⟩⟩
      · exact ⟨z, h, .inl rfl⟩
    obtain ⟨z, hz, hc⟩ := txt y (ok y List.mem_cons_self)
    obtain ⟨z2, hz2, hc2⟩ := txt y2 (ok y2 (List.mem_cons_of_mem _ List.mem_cons_self))
    have fin2 : ∃ x : Str, V.str z2 = .str x ∧ (Str.empty ++ "rope " ++ z ++ " does not end at station " ++ x).length ≤ sizeLine ∧ H a = some (exo a C none) ∧
        tSeq (tOst K "rope" (tVar 0) (tVar 1)) (tOst K "station" (tVar 0) (tVar 2)) { nx := fun x H' => Q V.non H', rt := Q } (startF ["self", "rope", "station", "__class__"] [V.ref a, y, y2] [none]) H := by
      refine ⟨z2, rfl, ?_, ha, ?_⟩
      · simp only [ap_len, sz]; omega
      · refine ⟨_, rfl, _, rfl, a, C, rfl, T, hn, .inl ⟨ha, fun dx nd ne => ?_⟩⟩
        refine ⟨_, rfl, _, rfl, a, C, rfl, T, hn2, .inr ⟨dx, [("rope", y)], upd_same, by rw [upd_ne ne, upd_same], by show 1 ≤ 900; decide, ?_⟩⟩
        refine q dx _ nd ne (fun b h1 h2 => ?_) ?_ ?_
        · rw [upd_ne h2, upd_ne h1, upd_ne h2]
        · rw [upd_ne (fun z => ne z.symm), upd_same]
        · rw [upd_same]
          rfl
    have fin1 : ∃ x : Str, V.str z = .str x ∧ (Str.empty ++ "rope " ++ x).length ≤ sizeLine ∧ ∃ x2 : Str, V.str " does not end at station " = .str x2 ∧ (Str.empty ++ "rope " ++ x ++ x2).length ≤ sizeLine ∧ tFmt (tVar 2) (startF ["self", "rope", "station", "__class__"] [V.ref a, y, y2] [none]) H (fun v H1 => ∃ x3 : Str, v = .str x3 ∧ (Str.empty ++ "rope " ++ x ++ x2 ++ x3).length ≤ sizeLine ∧ H1 a = some (exo a C none) ∧
        tSeq (tOst K "rope" (tVar 0) (tVar 1)) (tOst K "station" (tVar 0) (tVar 2)) { nx := fun x H' => Q V.non H', rt := Q } (startF ["self", "rope", "station", "__class__"] [V.ref a, y, y2] [none]) H1) := by
      refine ⟨z, rfl, by simp only [ap_len, sz]; omega, _, rfl, by simp only [ap_len, sz]; omega, _, rfl, ?_⟩
      rcases hc2 with rfl | ⟨i, rfl, h, rfl⟩
      · exact .inl ⟨z2, rfl, by rw [sz]; omega, fin2⟩
      · exact .inr ⟨i, rfl, h, fin2⟩
    refine ⟨_, rfl, ?_, _, rfl, ?_⟩
    · simp only [ap_len, sz]; omega
    · rcases hc with rfl | ⟨i, rfl, h, rfl⟩
      · exact .inl ⟨z, rfl, by rw [sz]; omega, fin1⟩
      · exact .inr ⟨i, rfl, h, fin1⟩
def spLaw (K : PySem.W.Frag) : Sp := fun vs H Q _ => ∃ (a : Addr) (ns : List Int), vs = [.ref a] ∧ SqL K H a (ns.map V.int) ∧ ns.length ≤ 63 ∧ ∀ H', Q (.bl true) H'
theorem FnG.imp {k : Nat} {f : Addr} {fd : FuncData} {ps : List Str} {sp sp' : Sp} (F : FnG P w K mg base k f fd ps sp) (h : ∀ vs H Q E, sp' vs H Q E → sp vs H Q E) : FnG P w K mg base k f fd ps sp' :=
  ⟨fun vs H Q E q => F.len vs H Q E (h _ _ _ _ q), fun A outer s H args us vs Q st hr he hb hv q => F.run A outer s H args us vs Q st hr he hb hv (h _ _ _ _ q)⟩
theorem ok_law (T : Txt P w K mg base A₀) {f : Addr} {fd : FuncData} (F : Fun K "law" "law" s_law f fd) : FnG P w K mg base 8 f fd ["script"] (spLaw K) := by
  refine FnG.imp (og_law T F) fun vs H Q E h => ?_
  obtain ⟨a, ns, rfl, ha, hl, q⟩ := h
  refine ⟨H, [.fz (.scr ns)], fun _ _ => False, fun r _ => r = .val (.bl true), ⟨fun _ _ e => e, rfl, fun i d e => ?_, fun i p o e => ?_, fun i j p o u e1 e2 => ?_⟩, ⟨ns, rfl, hl, rfl⟩, fun F' H' as' v r s c ra e => ?_, fun F' H' C dd fs gs s sm e rf x => x.elim⟩
  · cases i with
    | zero => cases e; exact ⟨_, rfl, .scr ha⟩
    | succ i => cases i <;> cases e
  · cases i with
    | zero => cases e
    | succ i => cases i <;> cases e
  · cases i with
    | zero => cases e1
    | succ i => cases i <;> cases e1
  · subst e
    cases ra
    exact q H'
end
end Tw

namespace Tw
open PySem PySem.Spec PyProof.Rows L2 NdefX
theorem all_mk {P : Program} {w : World} {K : PySem.W.Frag} {h : Heap} {mg : Str → Option Value} {fa c_RopeError c_BadNet c_TooMany c_NotConnected c_NoStation c_NoRope c_NotThere c_Net : Addr} (X : K.In h) (G : h.Ns mainGlobals mg) (hfa : mg "law" = some (.ref fa))
    {f0 : Addr} {od0 an0 : Option Addr} {sl0 : Array (Option Value)} {oc0 kV0 dc0 pm0 cd0 ct0 : Value}
    {f1 : Addr} {od1 an1 : Option Addr} {sl1 : Array (Option Value)} {oc1 kV1 dc1 pm1 cd1 ct1 : Value}
    {f2 : Addr} {od2 an2 : Option Addr} {sl2 : Array (Option Value)} {oc2 kV2 dc2 pm2 cd2 ct2 : Value}
    {f3 : Addr} {od3 an3 : Option Addr} {sl3 : Array (Option Value)} {oc3 kV3 dc3 pm3 cd3 ct3 : Value}
    {f4 : Addr} {od4 an4 : Option Addr} {sl4 : Array (Option Value)} {oc4 kV4 dc4 pm4 cd4 ct4 : Value}
    {f5 : Addr} {od5 an5 : Option Addr} {sl5 : Array (Option Value)} {oc5 kV5 dc5 pm5 cd5 ct5 : Value}
    {f6 : Addr} {od6 an6 : Option Addr} {sl6 : Array (Option Value)} {oc6 kV6 dc6 pm6 cd6 ct6 : Value}
    {f7 : Addr} {od7 an7 : Option Addr} {sl7 : Array (Option Value)} {oc7 kV7 dc7 pm7 cd7 ct7 : Value}
    {f8 : Addr} {od8 an8 : Option Addr} {sl8 : Array (Option Value)} {oc8 kV8 dc8 pm8 cd8 ct8 : Value}
    {f9 : Addr} {od9 an9 : Option Addr} {sl9 : Array (Option Value)} {oc9 kV9 dc9 pm9 cd9 ct9 : Value}
    {f10 : Addr} {od10 an10 : Option Addr} {sl10 : Array (Option Value)} {oc10 kV10 dc10 pm10 cd10 ct10 : Value}
    {f11 : Addr} {od11 an11 : Option Addr} {sl11 : Array (Option Value)} {oc11 kV11 dc11 pm11 cd11 ct11 : Value}
    {f12 : Addr} {od12 an12 : Option Addr} {sl12 : Array (Option Value)} {oc12 kV12 dc12 pm12 cd12 ct12 : Value}
    {f13 : Addr} {od13 an13 : Option Addr} {sl13 : Array (Option Value)} {oc13 kV13 dc13 pm13 cd13 ct13 : Value}
    {f14 : Addr} {od14 an14 : Option Addr} {sl14 : Array (Option Value)} {oc14 kV14 dc14 pm14 cd14 ct14 : Value}
    {f15 : Addr} {od15 an15 : Option Addr} {sl15 : Array (Option Value)} {oc15 kV15 dc15 pm15 cd15 ct15 : Value}
    {f16 : Addr} {od16 an16 : Option Addr} {sl16 : Array (Option Value)} {oc16 kV16 dc16 pm16 cd16 ct16 : Value}
    {f17 : Addr} {od17 an17 : Option Addr} {sl17 : Array (Option Value)} {oc17 kV17 dc17 pm17 cd17 ct17 : Value}
    {f18 : Addr} {od18 an18 : Option Addr} {sl18 : Array (Option Value)} {oc18 kV18 dc18 pm18 cd18 ct18 : Value}
    {f19 : Addr} {od19 an19 : Option Addr} {sl19 : Array (Option Value)} {oc19 kV19 dc19 pm19 cd19 ct19 : Value}
    {f20 : Addr} {od20 an20 : Option Addr} {sl20 : Array (Option Value)} {oc20 kV20 dc20 pm20 cd20 ct20 : Value}
    {f21 : Addr} {od21 an21 : Option Addr} {sl21 : Array (Option Value)} {oc21 kV21 dc21 pm21 cd21 ct21 : Value}
    {f22 : Addr} {od22 an22 : Option Addr} {sl22 : Array (Option Value)} {oc22 kV22 dc22 pm22 cd22 ct22 : Value}
    {f23 : Addr} {od23 an23 : Option Addr} {sl23 : Array (Option Value)} {oc23 kV23 dc23 pm23 cd23 ct23 : Value}
    {f24 : Addr} {od24 an24 : Option Addr} {sl24 : Array (Option Value)} {oc24 kV24 dc24 pm24 cd24 ct24 : Value}
    {f25 : Addr} {od25 an25 : Option Addr} {sl25 : Array (Option Value)} {oc25 kV25 dc25 pm25 cd25 ct25 : Value}
    {f26 : Addr} {od26 an26 : Option Addr} {sl26 : Array (Option Value)} {oc26 kV26 dc26 pm26 cd26 ct26 : Value}
    {f27 : Addr} {od27 an27 : Option Addr} {sl27 : Array (Option Value)} {oc27 kV27 dc27 pm27 cd27 ct27 : Value}
    {f28 : Addr} {od28 an28 : Option Addr} {sl28 : Array (Option Value)} {oc28 kV28 dc28 pm28 cd28 ct28 : Value}
    {f29 : Addr} {od29 an29 : Option Addr} {sl29 : Array (Option Value)} {oc29 kV29 dc29 pm29 cd29 ct29 : Value}
    {f30 : Addr} {od30 an30 : Option Addr} {sl30 : Array (Option Value)} {oc30 kV30 dc30 pm30 cd30 ct30 : Value}
    {mf0 : Addr} {mod0 man0 : Option Addr} {msl0 : Array (Option Value)} {moc0 mkV0 mdc0 mpm0 mcd0 mct0 : Value}
    {mf1 : Addr} {mod1 man1 : Option Addr} {msl1 : Array (Option Value)} {moc1 mkV1 mdc1 mpm1 mcd1 mct1 : Value}
    {mf2 : Addr} {mod2 man2 : Option Addr} {msl2 : Array (Option Value)} {moc2 mkV2 mdc2 mpm2 mcd2 mct2 : Value}
    {mf3 : Addr} {mod3 man3 : Option Addr} {msl3 : Array (Option Value)} {moc3 mkV3 mdc3 mpm3 mcd3 mct3 : Value}
    {mf4 : Addr} {mod4 man4 : Option Addr} {msl4 : Array (Option Value)} {moc4 mkV4 mdc4 mpm4 mcd4 mct4 : Value}
    {mf5 : Addr} {mod5 man5 : Option Addr} {msl5 : Array (Option Value)} {moc5 mkV5 mdc5 mpm5 mcd5 mct5 : Value}
    {mf6 : Addr} {mod6 man6 : Option Addr} {msl6 : Array (Option Value)} {moc6 mkV6 mdc6 mpm6 mcd6 mct6 : Value}
    {mp6 : Addr} {mr6 : List Value}
    {mf7 : Addr} {mod7 man7 : Option Addr} {msl7 : Array (Option Value)} {moc7 mkV7 mdc7 mpm7 mcd7 mct7 : Value}
    {mp7 : Addr} {mr7 : List Value}
    {mf8 : Addr} {mod8 man8 : Option Addr} {msl8 : Array (Option Value)} {moc8 mkV8 mdc8 mpm8 mcd8 mct8 : Value}
    {mp8 : Addr} {mr8 : List Value}
    {mf9 : Addr} {mod9 man9 : Option Addr} {msl9 : Array (Option Value)} {moc9 mkV9 mdc9 mpm9 mcd9 mct9 : Value}
    {mp9 : Addr} {mr9 : List Value}
    {mf10 : Addr} {mod10 man10 : Option Addr} {msl10 : Array (Option Value)} {moc10 mkV10 mdc10 mpm10 mcd10 mct10 : Value}
    {mp10 : Addr} {mr10 : List Value}
    {mf11 : Addr} {mod11 man11 : Option Addr} {msl11 : Array (Option Value)} {moc11 mkV11 mdc11 mpm11 mcd11 mct11 : Value}
    {mp11 : Addr} {mr11 : List Value}
    {t24 t40 : Tok}
    {nmB qB : Str} {NB fiB ccB cdaB : Addr} {bsB bmB subB : List Value} {snB : List Str} {abB : Bool} {coB : Option Bool} {ddB : Option Addr} {m0B m1B m2B m3B m5B : Option Value} {docB pmiB ctiB ociB : Value} {odiB : Option Addr} {oslB : Array (Option Value)} {clB : Value} {cldB : Option Addr} {cslB : Array (Option Value)} {cclB : Value} {cddB : Option Addr} {ccsB : Array (Option Value)} {vsB : Array Value} {flB : Str} {tfB : Tok}
    {nmM qM : Str} {NM fiM ccM cdaM : Addr} {bsM bmM subM : List Value} {snM : List Str} {abM : Bool} {coM : Option Bool} {ddM : Option Addr} {m0M m1M m2M m3M m5M : Option Value} {docM pmiM ctiM ociM : Value} {odiM : Option Addr} {oslM : Array (Option Value)} {clM : Value} {cldM : Option Addr} {cslM : Array (Option Value)} {cclM : Value} {cddM : Option Addr} {ccsM : Array (Option Value)} {vsM : Array Value} {flM : Str} {tfM : Tok}
    {nmC qC : Str} {NC fiC ccC cdaC : Addr} {bsC bmC subC : List Value} {snC : List Str} {abC : Bool} {coC : Option Bool} {ddC : Option Addr} {m0C m1C m2C m3C m5C : Option Value} {docC pmiC ctiC ociC : Value} {odiC : Option Addr} {oslC : Array (Option Value)} {clC : Value} {cldC : Option Addr} {cslC : Array (Option Value)} {cclC : Value} {cddC : Option Addr} {ccsC : Array (Option Value)} {vsC : Array Value} {flC : Str} {tfC : Tok}
    {nmS qS : Str} {NS fiS ccS cdaS : Addr} {bsS bmS subS : List Value} {snS : List Str} {abS : Bool} {coS : Option Bool} {ddS : Option Addr} {m0S m1S m2S m3S m5S : Option Value} {docS pmiS ctiS ociS : Value} {odiS : Option Addr} {oslS : Array (Option Value)} {clS : Value} {cldS : Option Addr} {cslS : Array (Option Value)} {cclS : Value} {cddS : Option Addr} {ccsS : Array (Option Value)} {vsS : Array Value} {flS : Str} {tfS : Tok}
    {nmR qR : Str} {NR fiR ccR cdaR : Addr} {bsR bmR subR : List Value} {snR : List Str} {abR : Bool} {coR : Option Bool} {ddR : Option Addr} {m0R m1R m2R m3R m5R : Option Value} {docR pmiR ctiR ociR : Value} {odiR : Option Addr} {oslR : Array (Option Value)} {clR : Value} {cldR : Option Addr} {cslR : Array (Option Value)} {cclR : Value} {cddR : Option Addr} {ccsR : Array (Option Value)} {vsR : Array Value} {flR : Str} {tfR : Tok}
    {nmT qT : Str} {NT fiT ccT cdaT : Addr} {bsT bmT subT : List Value} {snT : List Str} {abT : Bool} {coT : Option Bool} {ddT : Option Addr} {m0T m1T m2T m3T m5T : Option Value} {docT pmiT ctiT ociT : Value} {odiT : Option Addr} {oslT : Array (Option Value)} {clT : Value} {cldT : Option Addr} {cslT : Array (Option Value)} {cclT : Value} {cddT : Option Addr} {ccsT : Array (Option Value)} {vsT : Array Value} {flT : Str} {tfT : Tok}
    (a0 : PySem.W.nsIn K mainGlobals "check_station" = some (some (.ref f0)))
    (l0 : K.lookup f0 = some ⟨oc0, od0, .func (PySem.W.fnOf "check_station" "check_station" (defArgs s_check_station) (defBody s_check_station) (defScope s_check_station) .none kV0 dc0 pm0 an0 cd0 ct0), sl0⟩)
    (c0 : PySem.W.codeIn K cd0 "check_station" = true)
    (k0 : PySem.W.keepIn K (.ref f0) = true)
    (a1 : PySem.W.nsIn K mainGlobals "check_rope" = some (some (.ref f1)))
    (l1 : K.lookup f1 = some ⟨oc1, od1, .func (PySem.W.fnOf "check_rope" "check_rope" (defArgs s_check_rope) (defBody s_check_rope) (defScope s_check_rope) .none kV1 dc1 pm1 an1 cd1 ct1), sl1⟩)
    (c1 : PySem.W.codeIn K cd1 "check_rope" = true)
    (k1 : PySem.W.keepIn K (.ref f1) = true)
    (a2 : PySem.W.nsIn K mainGlobals "check_rope_of" = some (some (.ref f2)))
    (l2 : K.lookup f2 = some ⟨oc2, od2, .func (PySem.W.fnOf "check_rope_of" "check_rope_of" (defArgs s_check_rope_of) (defBody s_check_rope_of) (defScope s_check_rope_of) .none kV2 dc2 pm2 an2 cd2 ct2), sl2⟩)
    (c2 : PySem.W.codeIn K cd2 "check_rope_of" = true)
    (k2 : PySem.W.keepIn K (.ref f2) = true)
    (a3 : PySem.W.nsIn K mainGlobals "check_size" = some (some (.ref f3)))
    (l3 : K.lookup f3 = some ⟨oc3, od3, .func (PySem.W.fnOf "check_size" "check_size" (defArgs s_check_size) (defBody s_check_size) (defScope s_check_size) .none kV3 dc3 pm3 an3 cd3 ct3), sl3⟩)
    (c3 : PySem.W.codeIn K cd3 "check_size" = true)
    (k3 : PySem.W.keepIn K (.ref f3) = true)
    (a4 : PySem.W.nsIn K mainGlobals "check_ropes" = some (some (.ref f4)))
    (l4 : K.lookup f4 = some ⟨oc4, od4, .func (PySem.W.fnOf "check_ropes" "check_ropes" (defArgs s_check_ropes) (defBody s_check_ropes) (defScope s_check_ropes) .none kV4 dc4 pm4 an4 cd4 ct4), sl4⟩)
    (c4 : PySem.W.codeIn K cd4 "check_ropes" = true)
    (k4 : PySem.W.keepIn K (.ref f4) = true)
    (a5 : PySem.W.nsIn K mainGlobals "rope_steps" = some (some (.ref f5)))
    (l5 : K.lookup f5 = some ⟨oc5, od5, .func (PySem.W.fnOf "rope_steps" "rope_steps" (defArgs s_rope_steps) (defBody s_rope_steps) (defScope s_rope_steps) .none kV5 dc5 pm5 an5 cd5 ct5), sl5⟩)
    (c5 : PySem.W.codeIn K cd5 "rope_steps" = true)
    (k5 : PySem.W.keepIn K (.ref f5) = true)
    (a6 : PySem.W.nsIn K mainGlobals "turned" = some (some (.ref f6)))
    (l6 : K.lookup f6 = some ⟨oc6, od6, .func (PySem.W.fnOf "turned" "turned" (defArgs s_turned) (defBody s_turned) (defScope s_turned) .none kV6 dc6 pm6 an6 cd6 ct6), sl6⟩)
    (c6 : PySem.W.codeIn K cd6 "turned" = true)
    (k6 : PySem.W.keepIn K (.ref f6) = true)
    (a7 : PySem.W.nsIn K mainGlobals "distances" = some (some (.ref f7)))
    (l7 : K.lookup f7 = some ⟨oc7, od7, .func (PySem.W.fnOf "distances" "distances" (defArgs s_distances) (defBody s_distances) (defScope s_distances) .none kV7 dc7 pm7 an7 cd7 ct7), sl7⟩)
    (c7 : PySem.W.codeIn K cd7 "distances" = true)
    (k7 : PySem.W.keepIn K (.ref f7) = true)
    (a8 : PySem.W.nsIn K mainGlobals "stations_reached" = some (some (.ref f8)))
    (l8 : K.lookup f8 = some ⟨oc8, od8, .func (PySem.W.fnOf "stations_reached" "stations_reached" (defArgs s_stations_reached) (defBody s_stations_reached) (defScope s_stations_reached) .none kV8 dc8 pm8 an8 cd8 ct8), sl8⟩)
    (c8 : PySem.W.codeIn K cd8 "stations_reached" = true)
    (k8 : PySem.W.keepIn K (.ref f8) = true)
    (a9 : PySem.W.nsIn K mainGlobals "_law_mixed" = some (some (.ref f9)))
    (l9 : K.lookup f9 = some ⟨oc9, od9, .func (PySem.W.fnOf "_law_mixed" "_law_mixed" (defArgs s__law_mixed) (defBody s__law_mixed) (defScope s__law_mixed) .none kV9 dc9 pm9 an9 cd9 ct9), sl9⟩)
    (c9 : PySem.W.codeIn K cd9 "_law_mixed" = true)
    (k9 : PySem.W.keepIn K (.ref f9) = true)
    (a10 : PySem.W.nsIn K mainGlobals "_law_bag" = some (some (.ref f10)))
    (l10 : K.lookup f10 = some ⟨oc10, od10, .func (PySem.W.fnOf "_law_bag" "_law_bag" (defArgs s__law_bag) (defBody s__law_bag) (defScope s__law_bag) .none kV10 dc10 pm10 an10 cd10 ct10), sl10⟩)
    (c10 : PySem.W.codeIn K cd10 "_law_bag" = true)
    (k10 : PySem.W.keepIn K (.ref f10) = true)
    (a11 : PySem.W.nsIn K mainGlobals "_law_draw" = some (some (.ref f11)))
    (l11 : K.lookup f11 = some ⟨oc11, od11, .func (PySem.W.fnOf "_law_draw" "_law_draw" (defArgs s__law_draw) (defBody s__law_draw) (defScope s__law_draw) .none kV11 dc11 pm11 an11 cd11 ct11), sl11⟩)
    (c11 : PySem.W.codeIn K cd11 "_law_draw" = true)
    (k11 : PySem.W.keepIn K (.ref f11) = true)
    (a12 : PySem.W.nsIn K mainGlobals "_law_exact" = some (some (.ref f12)))
    (l12 : K.lookup f12 = some ⟨oc12, od12, .func (PySem.W.fnOf "_law_exact" "_law_exact" (defArgs s__law_exact) (defBody s__law_exact) (defScope s__law_exact) .none kV12 dc12 pm12 an12 cd12 ct12), sl12⟩)
    (c12 : PySem.W.codeIn K cd12 "_law_exact" = true)
    (k12 : PySem.W.keepIn K (.ref f12) = true)
    (a13 : PySem.W.nsIn K mainGlobals "_law_order" = some (some (.ref f13)))
    (l13 : K.lookup f13 = some ⟨oc13, od13, .func (PySem.W.fnOf "_law_order" "_law_order" (defArgs s__law_order) (defBody s__law_order) (defScope s__law_order) .none kV13 dc13 pm13 an13 cd13 ct13), sl13⟩)
    (c13 : PySem.W.codeIn K cd13 "_law_order" = true)
    (k13 : PySem.W.keepIn K (.ref f13) = true)
    (a14 : PySem.W.nsIn K mainGlobals "_law_joined" = some (some (.ref f14)))
    (l14 : K.lookup f14 = some ⟨oc14, od14, .func (PySem.W.fnOf "_law_joined" "_law_joined" (defArgs s__law_joined) (defBody s__law_joined) (defScope s__law_joined) .none kV14 dc14 pm14 an14 cd14 ct14), sl14⟩)
    (c14 : PySem.W.codeIn K cd14 "_law_joined" = true)
    (k14 : PySem.W.keepIn K (.ref f14) = true)
    (a15 : PySem.W.nsIn K mainGlobals "_law_net" = some (some (.ref f15)))
    (l15 : K.lookup f15 = some ⟨oc15, od15, .func (PySem.W.fnOf "_law_net" "_law_net" (defArgs s__law_net) (defBody s__law_net) (defScope s__law_net) .none kV15 dc15 pm15 an15 cd15 ct15), sl15⟩)
    (c15 : PySem.W.codeIn K cd15 "_law_net" = true)
    (k15 : PySem.W.keepIn K (.ref f15) = true)
    (a16 : PySem.W.nsIn K mainGlobals "_law_wrong_rope" = some (some (.ref f16)))
    (l16 : K.lookup f16 = some ⟨oc16, od16, .func (PySem.W.fnOf "_law_wrong_rope" "_law_wrong_rope" (defArgs s__law_wrong_rope) (defBody s__law_wrong_rope) (defScope s__law_wrong_rope) .none kV16 dc16 pm16 an16 cd16 ct16), sl16⟩)
    (c16 : PySem.W.codeIn K cd16 "_law_wrong_rope" = true)
    (k16 : PySem.W.keepIn K (.ref f16) = true)
    (a17 : PySem.W.nsIn K mainGlobals "_law_stations" = some (some (.ref f17)))
    (l17 : K.lookup f17 = some ⟨oc17, od17, .func (PySem.W.fnOf "_law_stations" "_law_stations" (defArgs s__law_stations) (defBody s__law_stations) (defScope s__law_stations) .none kV17 dc17 pm17 an17 cd17 ct17), sl17⟩)
    (c17 : PySem.W.codeIn K cd17 "_law_stations" = true)
    (k17 : PySem.W.keepIn K (.ref f17) = true)
    (a18 : PySem.W.nsIn K mainGlobals "_law_bent" = some (some (.ref f18)))
    (l18 : K.lookup f18 = some ⟨oc18, od18, .func (PySem.W.fnOf "_law_bent" "_law_bent" (defArgs s__law_bent) (defBody s__law_bent) (defScope s__law_bent) .none kV18 dc18 pm18 an18 cd18 ct18), sl18⟩)
    (c18 : PySem.W.codeIn K cd18 "_law_bent" = true)
    (k18 : PySem.W.keepIn K (.ref f18) = true)
    (a19 : PySem.W.nsIn K mainGlobals "_law_reached" = some (some (.ref f19)))
    (l19 : K.lookup f19 = some ⟨oc19, od19, .func (PySem.W.fnOf "_law_reached" "_law_reached" (defArgs s__law_reached) (defBody s__law_reached) (defScope s__law_reached) .none kV19 dc19 pm19 an19 cd19 ct19), sl19⟩)
    (c19 : PySem.W.codeIn K cd19 "_law_reached" = true)
    (k19 : PySem.W.keepIn K (.ref f19) = true)
    (a20 : PySem.W.nsIn K mainGlobals "_law_due" = some (some (.ref f20)))
    (l20 : K.lookup f20 = some ⟨oc20, od20, .func (PySem.W.fnOf "_law_due" "_law_due" (defArgs s__law_due) (defBody s__law_due) (defScope s__law_due) .none kV20 dc20 pm20 an20 cd20 ct20), sl20⟩)
    (c20 : PySem.W.codeIn K cd20 "_law_due" = true)
    (k20 : PySem.W.keepIn K (.ref f20) = true)
    (a21 : PySem.W.nsIn K mainGlobals "_law_told" = some (some (.ref f21)))
    (l21 : K.lookup f21 = some ⟨oc21, od21, .func (PySem.W.fnOf "_law_told" "_law_told" (defArgs s__law_told) (defBody s__law_told) (defScope s__law_told) .none kV21 dc21 pm21 an21 cd21 ct21), sl21⟩)
    (c21 : PySem.W.codeIn K cd21 "_law_told" = true)
    (k21 : PySem.W.keepIn K (.ref f21) = true)
    (a22 : PySem.W.nsIn K mainGlobals "_law_refusal" = some (some (.ref f22)))
    (l22 : K.lookup f22 = some ⟨oc22, od22, .func (PySem.W.fnOf "_law_refusal" "_law_refusal" (defArgs s__law_refusal) (defBody s__law_refusal) (defScope s__law_refusal) .none kV22 dc22 pm22 an22 cd22 ct22), sl22⟩)
    (c22 : PySem.W.codeIn K cd22 "_law_refusal" = true)
    (k22 : PySem.W.keepIn K (.ref f22) = true)
    (a23 : PySem.W.nsIn K mainGlobals "_law_pair_told" = some (some (.ref f23)))
    (l23 : K.lookup f23 = some ⟨oc23, od23, .func (PySem.W.fnOf "_law_pair_told" "_law_pair_told" (defArgs s__law_pair_told) (defBody s__law_pair_told) (defScope s__law_pair_told) .none kV23 dc23 pm23 an23 cd23 ct23), sl23⟩)
    (c23 : PySem.W.codeIn K cd23 "_law_pair_told" = true)
    (k23 : PySem.W.keepIn K (.ref f23) = true)
    (a24 : PySem.W.nsIn K mainGlobals "_law_far_told" = some (some (.ref f24)))
    (l24 : K.lookup f24 = some ⟨oc24, od24, .func (PySem.W.fnOf "_law_far_told" "_law_far_told" (defArgs s__law_far_told) (defBody s__law_far_told) (defScope s__law_far_told) .none kV24 dc24 pm24 an24 cd24 ct24), sl24⟩)
    (c24 : PySem.W.codeIn K cd24 "_law_far_told" = true)
    (k24 : PySem.W.keepIn K (.ref f24) = true)
    (a25 : PySem.W.nsIn K mainGlobals "_law_near_told" = some (some (.ref f25)))
    (l25 : K.lookup f25 = some ⟨oc25, od25, .func (PySem.W.fnOf "_law_near_told" "_law_near_told" (defArgs s__law_near_told) (defBody s__law_near_told) (defScope s__law_near_told) .none kV25 dc25 pm25 an25 cd25 ct25), sl25⟩)
    (c25 : PySem.W.codeIn K cd25 "_law_near_told" = true)
    (k25 : PySem.W.keepIn K (.ref f25) = true)
    (a26 : PySem.W.nsIn K mainGlobals "_law_far_due" = some (some (.ref f26)))
    (l26 : K.lookup f26 = some ⟨oc26, od26, .func (PySem.W.fnOf "_law_far_due" "_law_far_due" (defArgs s__law_far_due) (defBody s__law_far_due) (defScope s__law_far_due) .none kV26 dc26 pm26 an26 cd26 ct26), sl26⟩)
    (c26 : PySem.W.codeIn K cd26 "_law_far_due" = true)
    (k26 : PySem.W.keepIn K (.ref f26) = true)
    (a27 : PySem.W.nsIn K mainGlobals "_law_near_due" = some (some (.ref f27)))
    (l27 : K.lookup f27 = some ⟨oc27, od27, .func (PySem.W.fnOf "_law_near_due" "_law_near_due" (defArgs s__law_near_due) (defBody s__law_near_due) (defScope s__law_near_due) .none kV27 dc27 pm27 an27 cd27 ct27), sl27⟩)
    (c27 : PySem.W.codeIn K cd27 "_law_near_due" = true)
    (k27 : PySem.W.keepIn K (.ref f27) = true)
    (a28 : PySem.W.nsIn K mainGlobals "_law_asked" = some (some (.ref f28)))
    (l28 : K.lookup f28 = some ⟨oc28, od28, .func (PySem.W.fnOf "_law_asked" "_law_asked" (defArgs s__law_asked) (defBody s__law_asked) (defScope s__law_asked) .none kV28 dc28 pm28 an28 cd28 ct28), sl28⟩)
    (c28 : PySem.W.codeIn K cd28 "_law_asked" = true)
    (k28 : PySem.W.keepIn K (.ref f28) = true)
    (a29 : PySem.W.nsIn K mainGlobals "_law_others" = some (some (.ref f29)))
    (l29 : K.lookup f29 = some ⟨oc29, od29, .func (PySem.W.fnOf "_law_others" "_law_others" (defArgs s__law_others) (defBody s__law_others) (defScope s__law_others) .none kV29 dc29 pm29 an29 cd29 ct29), sl29⟩)
    (c29 : PySem.W.codeIn K cd29 "_law_others" = true)
    (k29 : PySem.W.keepIn K (.ref f29) = true)
    (a30 : PySem.W.nsIn K mainGlobals "law" = some (some (.ref f30)))
    (l30 : K.lookup f30 = some ⟨oc30, od30, .func (PySem.W.fnOf "law" "law" (defArgs s_law) (defBody s_law) (defScope s_law) .none kV30 dc30 pm30 an30 cd30 ct30), sl30⟩)
    (c30 : PySem.W.codeIn K cd30 "law" = true)
    (k30 : PySem.W.keepIn K (.ref f30) = true)
    (g_BadNet : PySem.W.nsIn K mainGlobals "BadNet" = some (some (.ref c_BadNet)))
    (g_TooMany : PySem.W.nsIn K mainGlobals "TooMany" = some (some (.ref c_TooMany)))
    (g_NotConnected : PySem.W.nsIn K mainGlobals "NotConnected" = some (some (.ref c_NotConnected)))
    (g_NoStation : PySem.W.nsIn K mainGlobals "NoStation" = some (some (.ref c_NoStation)))
    (g_NoRope : PySem.W.nsIn K mainGlobals "NoRope" = some (some (.ref c_NoRope)))
    (g_NotThere : PySem.W.nsIn K mainGlobals "NotThere" = some (some (.ref c_NotThere)))
    (g_RopeError : PySem.W.nsIn K mainGlobals "RopeError" = some (some (.ref c_RopeError)))
    (g_Net : PySem.W.nsIn K mainGlobals "Net" = some (some (.ref c_Net)))
    (ma0 : PySem.W.findIn K (.ref c_Net) "__init__" = some (some (.ref mf0)))
    (mn0 : PySem.W.isFn K (.ref mf0) = true)
    (ml0 : K.lookup mf0 = some ⟨moc0, mod0, .func (PySem.W.fnOf "__init__" "Net.__init__" (defArgs s_Net___init__) (defBody s_Net___init__) (defScope s_Net___init__) .none mkV0 mdc0 mpm0 man0 mcd0 mct0), msl0⟩)
    (md0 : PySem.W.codeIn K mcd0 "Net.__init__" = true)
    (mk0 : PySem.W.keepIn K (.ref mf0) = true)
    (ma1 : PySem.W.findIn K (.ref c_Net) "ropes_at" = some (some (.ref mf1)))
    (mn1 : PySem.W.isFn K (.ref mf1) = true)
    (ml1 : K.lookup mf1 = some ⟨moc1, mod1, .func (PySem.W.fnOf "ropes_at" "Net.ropes_at" (defArgs s_Net_ropes_at) (defBody s_Net_ropes_at) (defScope s_Net_ropes_at) .none mkV1 mdc1 mpm1 man1 mcd1 mct1), msl1⟩)
    (md1 : PySem.W.codeIn K mcd1 "Net.ropes_at" = true)
    (mk1 : PySem.W.keepIn K (.ref mf1) = true)
    (ma2 : PySem.W.findIn K (.ref c_Net) "__eq__" = some (some (.ref mf2)))
    (mn2 : PySem.W.isFn K (.ref mf2) = true)
    (ml2 : K.lookup mf2 = some ⟨moc2, mod2, .func (PySem.W.fnOf "__eq__" "Net.__eq__" (defArgs s_Net___eq__) (defBody s_Net___eq__) (defScope s_Net___eq__) .none mkV2 mdc2 mpm2 man2 mcd2 mct2), msl2⟩)
    (md2 : PySem.W.codeIn K mcd2 "Net.__eq__" = true)
    (mk2 : PySem.W.keepIn K (.ref mf2) = true)
    (ma3 : PySem.W.findIn K (.ref c_Net) "ends" = some (some (.ref mf3)))
    (mn3 : PySem.W.isFn K (.ref mf3) = true)
    (ml3 : K.lookup mf3 = some ⟨moc3, mod3, .func (PySem.W.fnOf "ends" "Net.ends" (defArgs s_Net_ends) (defBody s_Net_ends) (defScope s_Net_ends) .none mkV3 mdc3 mpm3 man3 mcd3 mct3), msl3⟩)
    (md3 : PySem.W.codeIn K mcd3 "Net.ends" = true)
    (mk3 : PySem.W.keepIn K (.ref mf3) = true)
    (ma4 : PySem.W.findIn K (.ref c_Net) "other_end" = some (some (.ref mf4)))
    (mn4 : PySem.W.isFn K (.ref mf4) = true)
    (ml4 : K.lookup mf4 = some ⟨moc4, mod4, .func (PySem.W.fnOf "other_end" "Net.other_end" (defArgs s_Net_other_end) (defBody s_Net_other_end) (defScope s_Net_other_end) .none mkV4 mdc4 mpm4 man4 mcd4 mct4), msl4⟩)
    (md4 : PySem.W.codeIn K mcd4 "Net.other_end" = true)
    (mk4 : PySem.W.keepIn K (.ref mf4) = true)
    (ma5 : PySem.W.findIn K (.ref c_Net) "__repr__" = some (some (.ref mf5)))
    (mn5 : PySem.W.isFn K (.ref mf5) = true)
    (ml5 : K.lookup mf5 = some ⟨moc5, mod5, .func (PySem.W.fnOf "__repr__" "Net.__repr__" (defArgs s_Net___repr__) (defBody s_Net___repr__) (defScope s_Net___repr__) .none mkV5 mdc5 mpm5 man5 mcd5 mct5), msl5⟩)
    (md5 : PySem.W.codeIn K mcd5 "Net.__repr__" = true)
    (mk5 : PySem.W.keepIn K (.ref mf5) = true)
    (ma6 : PySem.W.findIn K (.ref c_Net) "is_tree" = some (some (.ref mp6)))
    (mg6 : PySem.W.specialIn K (.ref mp6) "__get__" = some (some (.builtin "property.__get__")))
    (mt6 : PySem.W.takesIn K (.ref mp6) = some true)
    (mc6 : PySem.W.recIn K mp6 "property" = some (.ref mf6 :: mr6))
    (ml6 : K.lookup mf6 = some ⟨moc6, mod6, .func (PySem.W.fnOf "is_tree" "Net.is_tree" (defArgs s_Net_is_tree) (defBody s_Net_is_tree) (defScope s_Net_is_tree) .none mkV6 mdc6 mpm6 man6 mcd6 mct6), msl6⟩)
    (md6 : PySem.W.codeIn K mcd6 "Net.is_tree" = true)
    (mk6 : PySem.W.keepIn K (.ref mf6) = true)
    (ma7 : PySem.W.findIn K (.ref c_Net) "is_ring" = some (some (.ref mp7)))
    (mg7 : PySem.W.specialIn K (.ref mp7) "__get__" = some (some (.builtin "property.__get__")))
    (mt7 : PySem.W.takesIn K (.ref mp7) = some true)
    (mc7 : PySem.W.recIn K mp7 "property" = some (.ref mf7 :: mr7))
    (ml7 : K.lookup mf7 = some ⟨moc7, mod7, .func (PySem.W.fnOf "is_ring" "Net.is_ring" (defArgs s_Net_is_ring) (defBody s_Net_is_ring) (defScope s_Net_is_ring) .none mkV7 mdc7 mpm7 man7 mcd7 mct7), msl7⟩)
    (md7 : PySem.W.codeIn K mcd7 "Net.is_ring" = true)
    (mk7 : PySem.W.keepIn K (.ref mf7) = true)
    (ma8 : PySem.W.findIn K (.ref c_Net) "is_row" = some (some (.ref mp8)))
    (mg8 : PySem.W.specialIn K (.ref mp8) "__get__" = some (some (.builtin "property.__get__")))
    (mt8 : PySem.W.takesIn K (.ref mp8) = some true)
    (mc8 : PySem.W.recIn K mp8 "property" = some (.ref mf8 :: mr8))
    (ml8 : K.lookup mf8 = some ⟨moc8, mod8, .func (PySem.W.fnOf "is_row" "Net.is_row" (defArgs s_Net_is_row) (defBody s_Net_is_row) (defScope s_Net_is_row) .none mkV8 mdc8 mpm8 man8 mcd8 mct8), msl8⟩)
    (md8 : PySem.W.codeIn K mcd8 "Net.is_row" = true)
    (mk8 : PySem.W.keepIn K (.ref mf8) = true)
    (ma9 : PySem.W.findCls K (.ref c_Net) (.type "type") "row" = some (.get (.builtin "classmethod.__get__") (.ref mp9) .none (.ref c_Net)))
    (mc9 : PySem.W.recIn K mp9 "classmethod" = some (.ref mf9 :: mr9))
    (mi9 : PySem.W.fnIn K mf9 = true)
    (ml9 : K.lookup mf9 = some ⟨moc9, mod9, .func (PySem.W.fnOf "row" "Net.row" (defArgs s_Net_row) (defBody s_Net_row) (defScope s_Net_row) .none mkV9 mdc9 mpm9 man9 mcd9 mct9), msl9⟩)
    (md9 : PySem.W.codeIn K mcd9 "Net.row" = true)
    (mk9 : PySem.W.keepIn K (.ref mf9) = true)
    (ma10 : PySem.W.findCls K (.ref c_Net) (.type "type") "ring" = some (.get (.builtin "classmethod.__get__") (.ref mp10) .none (.ref c_Net)))
    (mc10 : PySem.W.recIn K mp10 "classmethod" = some (.ref mf10 :: mr10))
    (mi10 : PySem.W.fnIn K mf10 = true)
    (ml10 : K.lookup mf10 = some ⟨moc10, mod10, .func (PySem.W.fnOf "ring" "Net.ring" (defArgs s_Net_ring) (defBody s_Net_ring) (defScope s_Net_ring) .none mkV10 mdc10 mpm10 man10 mcd10 mct10), msl10⟩)
    (md10 : PySem.W.codeIn K mcd10 "Net.ring" = true)
    (mk10 : PySem.W.keepIn K (.ref mf10) = true)
    (ma11 : PySem.W.findCls K (.ref c_Net) (.type "type") "star" = some (.get (.builtin "classmethod.__get__") (.ref mp11) .none (.ref c_Net)))
    (mc11 : PySem.W.recIn K mp11 "classmethod" = some (.ref mf11 :: mr11))
    (mi11 : PySem.W.fnIn K mf11 = true)
    (ml11 : K.lookup mf11 = some ⟨moc11, mod11, .func (PySem.W.fnOf "star" "Net.star" (defArgs s_Net_star) (defBody s_Net_star) (defScope s_Net_star) .none mkV11 mdc11 mpm11 man11 mcd11 mct11), msl11⟩)
    (md11 : PySem.W.codeIn K mcd11 "Net.star" = true)
    (mk11 : PySem.W.keepIn K (.ref mf11) = true)
    (z_len : PySem.W.nsIn K mainGlobals "len" = some none)
    (z_int : PySem.W.nsIn K mainGlobals "int" = some none)
    (z_list : PySem.W.nsIn K mainGlobals "list" = some none)
    (z_range : PySem.W.nsIn K mainGlobals "range" = some none)
    (z_set : PySem.W.nsIn K mainGlobals "set" = some none)
    (z_sorted : PySem.W.nsIn K mainGlobals "sorted" = some none)
    (z_all : PySem.W.nsIn K mainGlobals "all" = some none)
    (z_enumerate : PySem.W.nsIn K mainGlobals "enumerate" = some none)
    (z_isinstance : PySem.W.nsIn K mainGlobals "isinstance" = some none)
    (z_bool : PySem.W.nsIn K mainGlobals "bool" = some none)
    (z_tuple : PySem.W.nsIn K mainGlobals "tuple" = some none)
    (z_ValueError : PySem.W.nsIn K mainGlobals "ValueError" = some none)
    (z_any : PySem.W.nsIn K mainGlobals "any" = some none)
    (z_str : PySem.W.nsIn K mainGlobals "str" = some none)
    (z_max : PySem.W.nsIn K mainGlobals "max" = some none)
    (z_min : PySem.W.nsIn K mainGlobals "min" = some none)
    (z_repr : PySem.W.nsIn K mainGlobals "repr" = some none)
    (nr_rd : PySem.W.readsIn K c_Net (.type "type") = true)
    (nr_ga : PySem.W.specialIn K (.ref c_Net) "__getattribute__" = some (some (.builtin "type.__getattribute__")))
    (v24 : PySem.W.findCls K (.ref c_Net) (.type "type") "MOST_STATIONS" = some (.val (.int 24 t24)))
    (v40 : PySem.W.findCls K (.ref c_Net) (.type "type") "MOST_ROPES" = some (.val (.int 40 t40)))
    (w24 : PySem.W.findIn K (.ref c_Net) "MOST_STATIONS" = some (some (.int 24 t24)))
    (w40 : PySem.W.findIn K (.ref c_Net) "MOST_ROPES" = some (some (.int 40 t40)))
    (u24 : PySem.W.specialIn K (.int 24 t24) "__get__" = some none)
    (u40 : PySem.W.specialIn K (.int 40 t40) "__get__" = some none)
    (nmk : PySem.W.makesIn K c_Net = true)
    (nkp : PySem.W.keepIn K (.ref c_Net) = true)
    (npg : PySem.W.plainGet K c_Net Str.empty = true)
    (nhd : PySem.W.hasDictIn K c_Net = true)
    (npo : PySem.W.plainOver K c_Net = true)
    (nsa : PySem.W.findIn K (.ref c_Net) "__setattr__" = some (some (.builtin "object.__setattr__")))
    (nns : PySem.W.findIn K (.ref c_Net) "stations" = some none)
    (nnr : PySem.W.findIn K (.ref c_Net) "ropes" = some none)
    (nic : PySem.W.findIn K (.ref c_Net) "__class__" = some (some (.builtin "object.__class__")))
    (nmo : PySem.W.mroIn K c_Net (.type "object") = some true)
    (nkt : PySem.W.kitOne K (.ref c_Net) (.ref c_Net) = some true)
    (nne : PySem.W.findIn K (.ref c_Net) "__ne__" = some (some (.builtin "object.__ne__")))
    (ntu : PySem.W.kitOne K (.type "tuple") (.ref c_Net) = some false)
    (nst : PySem.W.kitOne K (.type "str") (.ref c_Net) = some false)
    (hn_ : PySem.W.specialIn K (.builtin "object.__class__") "__get__" = some (some (.builtin "getset_descriptor.__get__")))
    (ht_ : PySem.W.takesIn K (.builtin "object.__class__") = some true)
    (b_any : PySem.W.nsIn K cStatics "thirdparty.any" = some none)
    (b_sup : PySem.W.nsIn K mainGlobals "super" = some none)
    (b_top : (P.main.scope.names.lookup ("super" : Str)).isSome = false)
    (xB : K.lookup c_BadNet = some (excClassObj nmB qB c_BadNet NB bsB bmB true snB subB abB coB ddB m0B m1B m2B m3B m5B "ValueError.__new__"))
    (rfB : PySem.HandSPX.refsVE bmB = true)
    (saB : PySem.W.findIn K (.ref c_BadNet) "__setattr__" = some (some (.builtin "object.__setattr__")))
    (eCB : PySem.W.subIn K (.ref c_BadNet) (.type "BaseException") = some true)
    (tCB : PySem.W.typeIn K (.ref c_BadNet) = some (.type "type"))
    (kCB : PySem.W.keepIn K (.ref c_BadNet) = true)
    (aiB : PySem.W.findIn K (.ref c_BadNet) "__init__" = some (some (.ref fiB)))
    (tiB : PySem.W.typeIn K (.ref fiB) = some (.type "function"))
    (liB : K.lookup fiB = some ⟨ociB, odiB, .func (PySem.W.ksFn "__init__" "BadNet.__init__" (defArgs s_BadNet) (defBody s_BadNet) (defScope s_BadNet) .none .none docB pmiB none (.ref cdaB) ctiB ccB), oslB⟩)
    (ciB : PySem.W.codeIn K (.ref cdaB) "BadNet.__init__" = true)
    (suB : PySem.W.ks_superIn K c_BadNet c_BadNet "__init__" = some (some (.builtin "ValueError.__init__")))
    (sbB : PySem.W.subIn K (.ref c_BadNet) (.type "ValueError") = some true)
    (ceB : K.lookup ccB = some ⟨clB, cldB, .cell (some (.ref c_BadNet)), cslB⟩)
    (cdB : K.lookup cdaB = some ⟨cclB, cddB, .fields vsB, ccsB⟩)
    (cvB : vsB[2]? = some (.str flB tfB))
    (cfB : ((P.main.file : Str) == flB) = true)
    (mrB : PySem.W.mroIn K c_BadNet (.ref c_BadNet) = some true)
    (nfB : PySem.W.findIn K (.ref c_BadNet) "place" = some none)
    (xM : K.lookup c_TooMany = some (excClassObj nmM qM c_TooMany NM bsM bmM true snM subM abM coM ddM m0M m1M m2M m3M m5M "ValueError.__new__"))
    (rfM : PySem.HandSPX.refsVE bmM = true)
    (saM : PySem.W.findIn K (.ref c_TooMany) "__setattr__" = some (some (.builtin "object.__setattr__")))
    (eCM : PySem.W.subIn K (.ref c_TooMany) (.type "BaseException") = some true)
    (tCM : PySem.W.typeIn K (.ref c_TooMany) = some (.type "type"))
    (kCM : PySem.W.keepIn K (.ref c_TooMany) = true)
    (aiM : PySem.W.findIn K (.ref c_TooMany) "__init__" = some (some (.ref fiM)))
    (tiM : PySem.W.typeIn K (.ref fiM) = some (.type "function"))
    (liM : K.lookup fiM = some ⟨ociM, odiM, .func (PySem.W.ksFn "__init__" "TooMany.__init__" (defArgs s_TooMany) (defBody s_TooMany) (defScope s_TooMany) .none .none docM pmiM none (.ref cdaM) ctiM ccM), oslM⟩)
    (ciM : PySem.W.codeIn K (.ref cdaM) "TooMany.__init__" = true)
    (suM : PySem.W.ks_superIn K c_TooMany c_TooMany "__init__" = some (some (.builtin "ValueError.__init__")))
    (sbM : PySem.W.subIn K (.ref c_TooMany) (.type "ValueError") = some true)
    (ceM : K.lookup ccM = some ⟨clM, cldM, .cell (some (.ref c_TooMany)), cslM⟩)
    (cdM : K.lookup cdaM = some ⟨cclM, cddM, .fields vsM, ccsM⟩)
    (cvM : vsM[2]? = some (.str flM tfM))
    (cfM : ((P.main.file : Str) == flM) = true)
    (mrM : PySem.W.mroIn K c_TooMany (.ref c_TooMany) = some true)
    (nfM : PySem.W.findIn K (.ref c_TooMany) "limit" = some none)
    (xC : K.lookup c_NotConnected = some (excClassObj nmC qC c_NotConnected NC bsC bmC true snC subC abC coC ddC m0C m1C m2C m3C m5C "ValueError.__new__"))
    (rfC : PySem.HandSPX.refsVE bmC = true)
    (saC : PySem.W.findIn K (.ref c_NotConnected) "__setattr__" = some (some (.builtin "object.__setattr__")))
    (eCC : PySem.W.subIn K (.ref c_NotConnected) (.type "BaseException") = some true)
    (tCC : PySem.W.typeIn K (.ref c_NotConnected) = some (.type "type"))
    (kCC : PySem.W.keepIn K (.ref c_NotConnected) = true)
    (aiC : PySem.W.findIn K (.ref c_NotConnected) "__init__" = some (some (.ref fiC)))
    (tiC : PySem.W.typeIn K (.ref fiC) = some (.type "function"))
    (liC : K.lookup fiC = some ⟨ociC, odiC, .func (PySem.W.ksFn "__init__" "NotConnected.__init__" (defArgs s_NotConnected) (defBody s_NotConnected) (defScope s_NotConnected) .none .none docC pmiC none (.ref cdaC) ctiC ccC), oslC⟩)
    (ciC : PySem.W.codeIn K (.ref cdaC) "NotConnected.__init__" = true)
    (suC : PySem.W.ks_superIn K c_NotConnected c_NotConnected "__init__" = some (some (.builtin "ValueError.__init__")))
    (sbC : PySem.W.subIn K (.ref c_NotConnected) (.type "ValueError") = some true)
    (ceC : K.lookup ccC = some ⟨clC, cldC, .cell (some (.ref c_NotConnected)), cslC⟩)
    (cdC : K.lookup cdaC = some ⟨cclC, cddC, .fields vsC, ccsC⟩)
    (cvC : vsC[2]? = some (.str flC tfC))
    (cfC : ((P.main.file : Str) == flC) = true)
    (mrC : PySem.W.mroIn K c_NotConnected (.ref c_NotConnected) = some true)
    (nfC : PySem.W.findIn K (.ref c_NotConnected) "station" = some none)
    (xS : K.lookup c_NoStation = some (excClassObj nmS qS c_NoStation NS bsS bmS true snS subS abS coS ddS m0S m1S m2S m3S m5S "ValueError.__new__"))
    (rfS : PySem.HandSPX.refsVE bmS = true)
    (saS : PySem.W.findIn K (.ref c_NoStation) "__setattr__" = some (some (.builtin "object.__setattr__")))
    (eCS : PySem.W.subIn K (.ref c_NoStation) (.type "BaseException") = some true)
    (tCS : PySem.W.typeIn K (.ref c_NoStation) = some (.type "type"))
    (kCS : PySem.W.keepIn K (.ref c_NoStation) = true)
    (aiS : PySem.W.findIn K (.ref c_NoStation) "__init__" = some (some (.ref fiS)))
    (tiS : PySem.W.typeIn K (.ref fiS) = some (.type "function"))
    (liS : K.lookup fiS = some ⟨ociS, odiS, .func (PySem.W.ksFn "__init__" "NoStation.__init__" (defArgs s_NoStation) (defBody s_NoStation) (defScope s_NoStation) .none .none docS pmiS none (.ref cdaS) ctiS ccS), oslS⟩)
    (ciS : PySem.W.codeIn K (.ref cdaS) "NoStation.__init__" = true)
    (suS : PySem.W.ks_superIn K c_NoStation c_NoStation "__init__" = some (some (.builtin "ValueError.__init__")))
    (sbS : PySem.W.subIn K (.ref c_NoStation) (.type "ValueError") = some true)
    (ceS : K.lookup ccS = some ⟨clS, cldS, .cell (some (.ref c_NoStation)), cslS⟩)
    (cdS : K.lookup cdaS = some ⟨cclS, cddS, .fields vsS, ccsS⟩)
    (cvS : vsS[2]? = some (.str flS tfS))
    (cfS : ((P.main.file : Str) == flS) = true)
    (mrS : PySem.W.mroIn K c_NoStation (.ref c_NoStation) = some true)
    (nfS : PySem.W.findIn K (.ref c_NoStation) "number" = some none)
    (xR : K.lookup c_NoRope = some (excClassObj nmR qR c_NoRope NR bsR bmR true snR subR abR coR ddR m0R m1R m2R m3R m5R "ValueError.__new__"))
    (rfR : PySem.HandSPX.refsVE bmR = true)
    (saR : PySem.W.findIn K (.ref c_NoRope) "__setattr__" = some (some (.builtin "object.__setattr__")))
    (eCR : PySem.W.subIn K (.ref c_NoRope) (.type "BaseException") = some true)
    (tCR : PySem.W.typeIn K (.ref c_NoRope) = some (.type "type"))
    (kCR : PySem.W.keepIn K (.ref c_NoRope) = true)
    (aiR : PySem.W.findIn K (.ref c_NoRope) "__init__" = some (some (.ref fiR)))
    (tiR : PySem.W.typeIn K (.ref fiR) = some (.type "function"))
    (liR : K.lookup fiR = some ⟨ociR, odiR, .func (PySem.W.ksFn "__init__" "NoRope.__init__" (defArgs s_NoRope) (defBody s_NoRope) (defScope s_NoRope) .none .none docR pmiR none (.ref cdaR) ctiR ccR), oslR⟩)
    (ciR : PySem.W.codeIn K (.ref cdaR) "NoRope.__init__" = true)
    (suR : PySem.W.ks_superIn K c_NoRope c_NoRope "__init__" = some (some (.builtin "ValueError.__init__")))
    (sbR : PySem.W.subIn K (.ref c_NoRope) (.type "ValueError") = some true)
    (ceR : K.lookup ccR = some ⟨clR, cldR, .cell (some (.ref c_NoRope)), cslR⟩)
    (cdR : K.lookup cdaR = some ⟨cclR, cddR, .fields vsR, ccsR⟩)
    (cvR : vsR[2]? = some (.str flR tfR))
    (cfR : ((P.main.file : Str) == flR) = true)
    (mrR : PySem.W.mroIn K c_NoRope (.ref c_NoRope) = some true)
    (nfR : PySem.W.findIn K (.ref c_NoRope) "number" = some none)
    (xT : K.lookup c_NotThere = some (excClassObj nmT qT c_NotThere NT bsT bmT true snT subT abT coT ddT m0T m1T m2T m3T m5T "ValueError.__new__"))
    (rfT : PySem.HandSPX.refsVE bmT = true)
    (saT : PySem.W.findIn K (.ref c_NotThere) "__setattr__" = some (some (.builtin "object.__setattr__")))
    (eCT : PySem.W.subIn K (.ref c_NotThere) (.type "BaseException") = some true)
    (tCT : PySem.W.typeIn K (.ref c_NotThere) = some (.type "type"))
    (kCT : PySem.W.keepIn K (.ref c_NotThere) = true)
    (aiT : PySem.W.findIn K (.ref c_NotThere) "__init__" = some (some (.ref fiT)))
    (tiT : PySem.W.typeIn K (.ref fiT) = some (.type "function"))
    (liT : K.lookup fiT = some ⟨ociT, odiT, .func (PySem.W.ksFn "__init__" "NotThere.__init__" (defArgs s_NotThere) (defBody s_NotThere) (defScope s_NotThere) .none .none docT pmiT none (.ref cdaT) ctiT ccT), oslT⟩)
    (ciT : PySem.W.codeIn K (.ref cdaT) "NotThere.__init__" = true)
    (suT : PySem.W.ks_superIn K c_NotThere c_NotThere "__init__" = some (some (.builtin "ValueError.__init__")))
    (sbT : PySem.W.subIn K (.ref c_NotThere) (.type "ValueError") = some true)
    (ceT : K.lookup ccT = some ⟨clT, cldT, .cell (some (.ref c_NotThere)), cslT⟩)
    (cdT : K.lookup cdaT = some ⟨cclT, cddT, .fields vsT, ccsT⟩)
    (cvT : vsT[2]? = some (.str flT tfT))
    (cfT : ((P.main.file : Str) == flT) = true)
    (mrT : PySem.W.mroIn K c_NotThere (.ref c_NotThere) = some true)
    (nfT : PySem.W.findIn K (.ref c_NotThere) "rope" = some none)
    (nf2T : PySem.W.findIn K (.ref c_NotThere) "station" = some none)
    (gaB : PySem.W.findIn K (.ref c_BadNet) "__getattribute__" = some (some (.builtin "BaseException.__getattribute__")))
    (ggB : PySem.W.findIn K (.ref c_BadNet) "__getattr__" = some none)
    (hdB : PySem.W.hasDictIn K c_BadNet = true)
    (haB : PySem.W.findIn K (.ref c_BadNet) "__class__" = some (some (.builtin "object.__class__")))
    (moB : PySem.W.mroIn K c_BadNet (.type "object") = some true)
    (q1B : PySem.W.kitOne K (.ref c_BadNet) (.ref c_BadNet) = some true)
    (q2B : PySem.W.kitOne K (.ref c_BadNet) (.ref c_TooMany) = some false)
    (q3B : PySem.W.kitOne K (.ref c_BadNet) (.ref c_NotConnected) = some false)
    (q4B : PySem.W.kitOne K (.ref c_BadNet) (.ref c_NoRope) = some false)
    (q5B : PySem.W.kitOne K (.ref c_BadNet) (.ref c_NoStation) = some false)
    (q6B : PySem.W.kitOne K (.ref c_BadNet) (.ref c_NotThere) = some false)
    (q7B : PySem.W.kitOne K (.ref c_BadNet) (.type "ValueError") = some true)
    (exB : PySem.W.exmOne K (.ref c_BadNet) (.ref c_RopeError) = some true)
    (gaM : PySem.W.findIn K (.ref c_TooMany) "__getattribute__" = some (some (.builtin "BaseException.__getattribute__")))
    (ggM : PySem.W.findIn K (.ref c_TooMany) "__getattr__" = some none)
    (hdM : PySem.W.hasDictIn K c_TooMany = true)
    (haM : PySem.W.findIn K (.ref c_TooMany) "__class__" = some (some (.builtin "object.__class__")))
    (moM : PySem.W.mroIn K c_TooMany (.type "object") = some true)
    (q1M : PySem.W.kitOne K (.ref c_TooMany) (.ref c_BadNet) = some false)
    (q2M : PySem.W.kitOne K (.ref c_TooMany) (.ref c_TooMany) = some true)
    (q3M : PySem.W.kitOne K (.ref c_TooMany) (.ref c_NotConnected) = some false)
    (q4M : PySem.W.kitOne K (.ref c_TooMany) (.ref c_NoRope) = some false)
    (q5M : PySem.W.kitOne K (.ref c_TooMany) (.ref c_NoStation) = some false)
    (q6M : PySem.W.kitOne K (.ref c_TooMany) (.ref c_NotThere) = some false)
    (q7M : PySem.W.kitOne K (.ref c_TooMany) (.type "ValueError") = some true)
    (exM : PySem.W.exmOne K (.ref c_TooMany) (.ref c_RopeError) = some true)
    (gaC : PySem.W.findIn K (.ref c_NotConnected) "__getattribute__" = some (some (.builtin "BaseException.__getattribute__")))
    (ggC : PySem.W.findIn K (.ref c_NotConnected) "__getattr__" = some none)
    (hdC : PySem.W.hasDictIn K c_NotConnected = true)
    (haC : PySem.W.findIn K (.ref c_NotConnected) "__class__" = some (some (.builtin "object.__class__")))
    (moC : PySem.W.mroIn K c_NotConnected (.type "object") = some true)
    (q1C : PySem.W.kitOne K (.ref c_NotConnected) (.ref c_BadNet) = some false)
    (q2C : PySem.W.kitOne K (.ref c_NotConnected) (.ref c_TooMany) = some false)
    (q3C : PySem.W.kitOne K (.ref c_NotConnected) (.ref c_NotConnected) = some true)
    (q4C : PySem.W.kitOne K (.ref c_NotConnected) (.ref c_NoRope) = some false)
    (q5C : PySem.W.kitOne K (.ref c_NotConnected) (.ref c_NoStation) = some false)
    (q6C : PySem.W.kitOne K (.ref c_NotConnected) (.ref c_NotThere) = some false)
    (q7C : PySem.W.kitOne K (.ref c_NotConnected) (.type "ValueError") = some true)
    (exC : PySem.W.exmOne K (.ref c_NotConnected) (.ref c_RopeError) = some true)
    (gaS : PySem.W.findIn K (.ref c_NoStation) "__getattribute__" = some (some (.builtin "BaseException.__getattribute__")))
    (ggS : PySem.W.findIn K (.ref c_NoStation) "__getattr__" = some none)
    (hdS : PySem.W.hasDictIn K c_NoStation = true)
    (haS : PySem.W.findIn K (.ref c_NoStation) "__class__" = some (some (.builtin "object.__class__")))
    (moS : PySem.W.mroIn K c_NoStation (.type "object") = some true)
    (q1S : PySem.W.kitOne K (.ref c_NoStation) (.ref c_BadNet) = some false)
    (q2S : PySem.W.kitOne K (.ref c_NoStation) (.ref c_TooMany) = some false)
    (q3S : PySem.W.kitOne K (.ref c_NoStation) (.ref c_NotConnected) = some false)
    (q4S : PySem.W.kitOne K (.ref c_NoStation) (.ref c_NoRope) = some false)
    (q5S : PySem.W.kitOne K (.ref c_NoStation) (.ref c_NoStation) = some true)
    (q6S : PySem.W.kitOne K (.ref c_NoStation) (.ref c_NotThere) = some false)
    (q7S : PySem.W.kitOne K (.ref c_NoStation) (.type "ValueError") = some true)
    (exS : PySem.W.exmOne K (.ref c_NoStation) (.ref c_RopeError) = some true)
    (gaR : PySem.W.findIn K (.ref c_NoRope) "__getattribute__" = some (some (.builtin "BaseException.__getattribute__")))
    (ggR : PySem.W.findIn K (.ref c_NoRope) "__getattr__" = some none)
    (hdR : PySem.W.hasDictIn K c_NoRope = true)
    (haR : PySem.W.findIn K (.ref c_NoRope) "__class__" = some (some (.builtin "object.__class__")))
    (moR : PySem.W.mroIn K c_NoRope (.type "object") = some true)
    (q1R : PySem.W.kitOne K (.ref c_NoRope) (.ref c_BadNet) = some false)
    (q2R : PySem.W.kitOne K (.ref c_NoRope) (.ref c_TooMany) = some false)
    (q3R : PySem.W.kitOne K (.ref c_NoRope) (.ref c_NotConnected) = some false)
    (q4R : PySem.W.kitOne K (.ref c_NoRope) (.ref c_NoRope) = some true)
    (q5R : PySem.W.kitOne K (.ref c_NoRope) (.ref c_NoStation) = some false)
    (q6R : PySem.W.kitOne K (.ref c_NoRope) (.ref c_NotThere) = some false)
    (q7R : PySem.W.kitOne K (.ref c_NoRope) (.type "ValueError") = some true)
    (exR : PySem.W.exmOne K (.ref c_NoRope) (.ref c_RopeError) = some true)
    (gaT : PySem.W.findIn K (.ref c_NotThere) "__getattribute__" = some (some (.builtin "BaseException.__getattribute__")))
    (ggT : PySem.W.findIn K (.ref c_NotThere) "__getattr__" = some none)
    (hdT : PySem.W.hasDictIn K c_NotThere = true)
    (haT : PySem.W.findIn K (.ref c_NotThere) "__class__" = some (some (.builtin "object.__class__")))
    (moT : PySem.W.mroIn K c_NotThere (.type "object") = some true)
    (q1T : PySem.W.kitOne K (.ref c_NotThere) (.ref c_BadNet) = some false)
    (q2T : PySem.W.kitOne K (.ref c_NotThere) (.ref c_TooMany) = some false)
    (q3T : PySem.W.kitOne K (.ref c_NotThere) (.ref c_NotConnected) = some false)
    (q4T : PySem.W.kitOne K (.ref c_NotThere) (.ref c_NoRope) = some false)
    (q5T : PySem.W.kitOne K (.ref c_NotThere) (.ref c_NoStation) = some false)
    (q6T : PySem.W.kitOne K (.ref c_NotThere) (.ref c_NotThere) = some true)
    (q7T : PySem.W.kitOne K (.ref c_NotThere) (.type "ValueError") = some true)
    (exT : PySem.W.exmOne K (.ref c_NotThere) (.ref c_RopeError) = some true) :
    ∃ fd : FuncData, (∀ (s : Shared) (v : Value), BindsTo s fd ⟨[v], []⟩ [("script", v)]) ∧ ∀ base : Heap, K.In base → base.Ns mainGlobals mg → FnG P w K mg base 8 fa fd ["script"] (spLaw K) := by
  have e := hfa.symm.trans (PySem.W.mg_of X G a30)
  cases e
  have oxB : OexC K c_BadNet := ⟨⟨nmB, qB, NB, bsB, bmB, snB, subB, abB, coB, ddB, m0B, m1B, m2B, m3B, m5B, xB, rfB⟩, saB, eCB, tCB, kCB⟩
  have supB : SupTxt P K c_BadNet ccB cdaB := ⟨suB, sbB, b_any, b_sup, ⟨_, _, _, ceB⟩, ⟨_, _, _, _, _, _, cdB, cvB, cfB⟩, b_top, mrB⟩
  have oxM : OexC K c_TooMany := ⟨⟨nmM, qM, NM, bsM, bmM, snM, subM, abM, coM, ddM, m0M, m1M, m2M, m3M, m5M, xM, rfM⟩, saM, eCM, tCM, kCM⟩
  have supM : SupTxt P K c_TooMany ccM cdaM := ⟨suM, sbM, b_any, b_sup, ⟨_, _, _, ceM⟩, ⟨_, _, _, _, _, _, cdM, cvM, cfM⟩, b_top, mrM⟩
  have oxC : OexC K c_NotConnected := ⟨⟨nmC, qC, NC, bsC, bmC, snC, subC, abC, coC, ddC, m0C, m1C, m2C, m3C, m5C, xC, rfC⟩, saC, eCC, tCC, kCC⟩
  have supC : SupTxt P K c_NotConnected ccC cdaC := ⟨suC, sbC, b_any, b_sup, ⟨_, _, _, ceC⟩, ⟨_, _, _, _, _, _, cdC, cvC, cfC⟩, b_top, mrC⟩
  have oxS : OexC K c_NoStation := ⟨⟨nmS, qS, NS, bsS, bmS, snS, subS, abS, coS, ddS, m0S, m1S, m2S, m3S, m5S, xS, rfS⟩, saS, eCS, tCS, kCS⟩
  have supS : SupTxt P K c_NoStation ccS cdaS := ⟨suS, sbS, b_any, b_sup, ⟨_, _, _, ceS⟩, ⟨_, _, _, _, _, _, cdS, cvS, cfS⟩, b_top, mrS⟩
  have oxR : OexC K c_NoRope := ⟨⟨nmR, qR, NR, bsR, bmR, snR, subR, abR, coR, ddR, m0R, m1R, m2R, m3R, m5R, xR, rfR⟩, saR, eCR, tCR, kCR⟩
  have supR : SupTxt P K c_NoRope ccR cdaR := ⟨suR, sbR, b_any, b_sup, ⟨_, _, _, ceR⟩, ⟨_, _, _, _, _, _, cdR, cvR, cfR⟩, b_top, mrR⟩
  have oxT : OexC K c_NotThere := ⟨⟨nmT, qT, NT, bsT, bmT, snT, subT, abT, coT, ddT, m0T, m1T, m2T, m3T, m5T, xT, rfT⟩, saT, eCT, tCT, kCT⟩
  have supT : SupTxt P K c_NotThere ccT cdaT := ⟨suT, sbT, b_any, b_sup, ⟨_, _, _, ceT⟩, ⟨_, _, _, _, _, _, cdT, cvT, cfT⟩, b_top, mrT⟩
  have RD : ClX.CRead K c_Net (.type "type") := ⟨nr_rd, nr_ga⟩
  have T : ∀ base : Heap, Txt P w K mg base ⟨c_RopeError, c_BadNet, c_TooMany, c_NotConnected, c_NoStation, c_NoRope, c_NotThere, c_Net, .type "type"⟩ := fun base => {
    n_len := PySem.W.mg_none_of X G z_len,
    n_int := PySem.W.mg_none_of X G z_int,
    n_list := PySem.W.mg_none_of X G z_list,
    n_range := PySem.W.mg_none_of X G z_range,
    n_set := PySem.W.mg_none_of X G z_set,
    n_sorted := PySem.W.mg_none_of X G z_sorted,
    n_all := PySem.W.mg_none_of X G z_all,
    n_enumerate := PySem.W.mg_none_of X G z_enumerate,
    n_isinstance := PySem.W.mg_none_of X G z_isinstance,
    n_bool := PySem.W.mg_none_of X G z_bool,
    n_tuple := PySem.W.mg_none_of X G z_tuple,
    n_ValueError := PySem.W.mg_none_of X G z_ValueError,
    n_any := PySem.W.mg_none_of X G z_any,
    n_str := PySem.W.mg_none_of X G z_str,
    n_max := PySem.W.mg_none_of X G z_max,
    n_min := PySem.W.mg_none_of X G z_min,
    n_repr := PySem.W.mg_none_of X G z_repr,
    g_BadNet := PySem.W.mg_of X G g_BadNet,
    g_TooMany := PySem.W.mg_of X G g_TooMany,
    g_NotConnected := PySem.W.mg_of X G g_NotConnected,
    g_NoStation := PySem.W.mg_of X G g_NoStation,
    g_NoRope := PySem.W.mg_of X G g_NoRope,
    g_NotThere := PySem.W.mg_of X G g_NotThere,
    g_RopeError := PySem.W.mg_of X G g_RopeError,
    g_Net := PySem.W.mg_of X G g_Net,
    x_BadNet := ⟨oxB, PySem.W.mg_of X G g_BadNet, _, _, aiB, tiB, ini_BadNet oxB supB nfB liB ciB, fun s us _ hl => match us, hl with | [_, _], _ => .of_eq rfl⟩,
    x_TooMany := ⟨oxM, PySem.W.mg_of X G g_TooMany, _, _, aiM, tiM, ini_TooMany oxM supM nfM liM ciM, fun s us _ hl => match us, hl with | [_, _], _ => .of_eq rfl⟩,
    x_NotConnected := ⟨oxC, PySem.W.mg_of X G g_NotConnected, _, _, aiC, tiC, ini_NotConnected oxC supC nfC liC ciC, fun s us _ hl => match us, hl with | [_, _], _ => .of_eq rfl⟩,
    x_NoStation := ⟨oxS, PySem.W.mg_of X G g_NoStation, _, _, aiS, tiS, ini_NoStation oxS supS nfS liS ciS, fun s us _ hl => match us, hl with | [_, _], _ => .of_eq rfl⟩,
    x_NoRope := ⟨oxR, PySem.W.mg_of X G g_NoRope, _, _, aiR, tiR, ini_NoRope oxR supR nfR liR ciR, fun s us _ hl => match us, hl with | [_, _], _ => .of_eq rfl⟩,
    x_NotThere := ⟨oxT, PySem.W.mg_of X G g_NotThere, _, _, aiT, tiT, ini_NotThere oxT supT nfT nf2T liT ciT, fun s us _ hl => match us, hl with | [_, _, _], _ => .of_eq rfl⟩,
    d_check_station := ⟨_, _, fun_mk (st := s_check_station) l0 c0 k0, PySem.W.mg_of X G a0⟩,
    d_check_rope := ⟨_, _, fun_mk (st := s_check_rope) l1 c1 k1, PySem.W.mg_of X G a1⟩,
    d_check_rope_of := ⟨_, _, fun_mk (st := s_check_rope_of) l2 c2 k2, PySem.W.mg_of X G a2⟩,
    d_check_size := ⟨_, _, fun_mk (st := s_check_size) l3 c3 k3, PySem.W.mg_of X G a3⟩,
    d_check_ropes := ⟨_, _, fun_mk (st := s_check_ropes) l4 c4 k4, PySem.W.mg_of X G a4⟩,
    d_rope_steps := ⟨_, _, fun_mk (st := s_rope_steps) l5 c5 k5, PySem.W.mg_of X G a5⟩,
    d_turned := ⟨_, _, fun_mk (st := s_turned) l6 c6 k6, PySem.W.mg_of X G a6⟩,
    d_distances := ⟨_, _, fun_mk (st := s_distances) l7 c7 k7, PySem.W.mg_of X G a7⟩,
    d_stations_reached := ⟨_, _, fun_mk (st := s_stations_reached) l8 c8 k8, PySem.W.mg_of X G a8⟩,
    d__law_mixed := ⟨_, _, fun_mk (st := s__law_mixed) l9 c9 k9, PySem.W.mg_of X G a9⟩,
    d__law_bag := ⟨_, _, fun_mk (st := s__law_bag) l10 c10 k10, PySem.W.mg_of X G a10⟩,
    d__law_draw := ⟨_, _, fun_mk (st := s__law_draw) l11 c11 k11, PySem.W.mg_of X G a11⟩,
    d__law_exact := ⟨_, _, fun_mk (st := s__law_exact) l12 c12 k12, PySem.W.mg_of X G a12⟩,
    d__law_order := ⟨_, _, fun_mk (st := s__law_order) l13 c13 k13, PySem.W.mg_of X G a13⟩,
    d__law_joined := ⟨_, _, fun_mk (st := s__law_joined) l14 c14 k14, PySem.W.mg_of X G a14⟩,
    d__law_net := ⟨_, _, fun_mk (st := s__law_net) l15 c15 k15, PySem.W.mg_of X G a15⟩,
    d__law_wrong_rope := ⟨_, _, fun_mk (st := s__law_wrong_rope) l16 c16 k16, PySem.W.mg_of X G a16⟩,
    d__law_stations := ⟨_, _, fun_mk (st := s__law_stations) l17 c17 k17, PySem.W.mg_of X G a17⟩,
    d__law_bent := ⟨_, _, fun_mk (st := s__law_bent) l18 c18 k18, PySem.W.mg_of X G a18⟩,
    d__law_reached := ⟨_, _, fun_mk (st := s__law_reached) l19 c19 k19, PySem.W.mg_of X G a19⟩,
    d__law_due := ⟨_, _, fun_mk (st := s__law_due) l20 c20 k20, PySem.W.mg_of X G a20⟩,
    d__law_told := ⟨_, _, fun_mk (st := s__law_told) l21 c21 k21, PySem.W.mg_of X G a21⟩,
    d__law_refusal := ⟨_, _, fun_mk (st := s__law_refusal) l22 c22 k22, PySem.W.mg_of X G a22⟩,
    d__law_pair_told := ⟨_, _, fun_mk (st := s__law_pair_told) l23 c23 k23, PySem.W.mg_of X G a23⟩,
    d__law_far_told := ⟨_, _, fun_mk (st := s__law_far_told) l24 c24 k24, PySem.W.mg_of X G a24⟩,
    d__law_near_told := ⟨_, _, fun_mk (st := s__law_near_told) l25 c25 k25, PySem.W.mg_of X G a25⟩,
    d__law_far_due := ⟨_, _, fun_mk (st := s__law_far_due) l26 c26 k26, PySem.W.mg_of X G a26⟩,
    d__law_near_due := ⟨_, _, fun_mk (st := s__law_near_due) l27 c27 k27, PySem.W.mg_of X G a27⟩,
    d__law_asked := ⟨_, _, fun_mk (st := s__law_asked) l28 c28 k28, PySem.W.mg_of X G a28⟩,
    d__law_others := ⟨_, _, fun_mk (st := s__law_others) l29 c29 k29, PySem.W.mg_of X G a29⟩,
    net_mk := ⟨_, _, ⟨nmk, ma0, mn0, nkp⟩, fun_mk (st := s_Net___init__) ml0 md0 mk0⟩,
    net_ropes_at := ⟨_, _, ⟨ma1, mn1, mk1⟩, fun_mk (st := s_Net_ropes_at) ml1 md1 mk1⟩,
    net_ends := ⟨_, _, ⟨ma3, mn3, mk3⟩, fun_mk (st := s_Net_ends) ml3 md3 mk3⟩,
    net_other_end := ⟨_, _, ⟨ma4, mn4, mk4⟩, fun_mk (st := s_Net_other_end) ml4 md4 mk4⟩,
    net_repr := ⟨_, _, ma5, mn5, fun_mk (st := s_Net___repr__) ml5 md5 mk5⟩,
    net_ne := nne,
    net_tu := ntu,
    net_st := nst,
    s_BadNet := ⟨⟨gaB, ggB, eCB, hdB⟩, ⟨gaB, ggB, eCB, hdB, haB, hn_, ht_, moB⟩, fun f hf => (by rw [List.mem_singleton.mp hf]; exact nfB), q1B, q2B, q3B, q4B, q5B, q6B, q7B, exB⟩,
    s_TooMany := ⟨⟨gaM, ggM, eCM, hdM⟩, ⟨gaM, ggM, eCM, hdM, haM, hn_, ht_, moM⟩, fun f hf => (by rw [List.mem_singleton.mp hf]; exact nfM), q1M, q2M, q3M, q4M, q5M, q6M, q7M, exM⟩,
    s_NotConnected := ⟨⟨gaC, ggC, eCC, hdC⟩, ⟨gaC, ggC, eCC, hdC, haC, hn_, ht_, moC⟩, fun f hf => (by rw [List.mem_singleton.mp hf]; exact nfC), q1C, q2C, q3C, q4C, q5C, q6C, q7C, exC⟩,
    s_NoStation := ⟨⟨gaS, ggS, eCS, hdS⟩, ⟨gaS, ggS, eCS, hdS, haS, hn_, ht_, moS⟩, fun f hf => (by rw [List.mem_singleton.mp hf]; exact nfS), q1S, q2S, q3S, q4S, q5S, q6S, q7S, exS⟩,
    s_NoRope := ⟨⟨gaR, ggR, eCR, hdR⟩, ⟨gaR, ggR, eCR, hdR, haR, hn_, ht_, moR⟩, fun f hf => (by rw [List.mem_singleton.mp hf]; exact nfR), q1R, q2R, q3R, q4R, q5R, q6R, q7R, exR⟩,
    s_NotThere := ⟨⟨gaT, ggT, eCT, hdT⟩, ⟨gaT, ggT, eCT, hdT, haT, hn_, ht_, moT⟩, fun f hf => (by rcases List.mem_cons.mp hf with rfl | hf; exact nfT; rw [List.mem_singleton.mp hf]; exact nf2T), q1T, q2T, q3T, q4T, q5T, q6T, q7T, exT⟩,
    net_eq := ⟨_, _, ma2, mn2, fun_mk (st := s_Net___eq__) ml2 md2 mk2⟩,
    net_is_tree := ⟨_, _, _, ⟨ma6, mg6, mt6, _, mc6⟩, fun_mk (st := s_Net_is_tree) ml6 md6 mk6⟩,
    net_is_ring := ⟨_, _, _, ⟨ma7, mg7, mt7, _, mc7⟩, fun_mk (st := s_Net_is_ring) ml7 md7 mk7⟩,
    net_is_row := ⟨_, _, _, ⟨ma8, mg8, mt8, _, mc8⟩, fun_mk (st := s_Net_is_row) ml8 md8 mk8⟩,
    net_row := ⟨_, _, _, _, RD, ⟨ma9, ⟨_, mc9⟩, mi9⟩, fun_mk (st := s_Net_row) ml9 md9 mk9⟩,
    net_ring := ⟨_, _, _, _, RD, ⟨ma10, ⟨_, mc10⟩, mi10⟩, fun_mk (st := s_Net_ring) ml10 md10 mk10⟩,
    net_star := ⟨_, _, _, _, RD, ⟨ma11, ⟨_, mc11⟩, mi11⟩, fun_mk (st := s_Net_star) ml11 md11 mk11⟩,
    net_rd := ⟨_, RD, ⟨_, ⟨v24, ⟨_, rfl⟩⟩⟩, _, ⟨v40, ⟨_, rfl⟩⟩⟩,
    net_cl := ⟨npg, nhd, npo, nsa⟩,
    net_s := nns,
    net_r := nnr,
    net_ic := nic,
    net_gs := hn_,
    net_tk := ht_,
    net_mo := nmo,
    net_kit := nkt,
    net_c24 := ⟨_, w24, ⟨_, rfl⟩, u24, by decide +kernel⟩,
    net_c40 := ⟨_, w40, ⟨_, rfl⟩, u40, by decide +kernel⟩ }
  exact ⟨PySem.W.fnOf "law" "law" (defArgs s_law) (defBody s_law) (defScope s_law) .none kV30 dc30 pm30 an30 cd30 ct30, fun s v => .of_eq rfl, fun base _ _ => ok_law (T base) (fun_mk (st := s_law) l30 c30 k30)⟩
end Tw

namespace Tw
open PySem L2
theorem walk {l : PySem.W.OpenLaw} {q : Program} {loose : List Str} {XP : (Str → Option Value) → Heap → Prop} {YP : World → Heap → Prop} {d : DefRec} {K : Params → PySem.W.Frag} (hn : l.most = some 63) (hdf : d.params.defaults = [])
    (hY : ∀ (w : World) (h : Heap), YP w h → (K w.params).In h)
    (F : ∀ (w : World) (mg : Str → Option Value) (fa : Addr) (h : Heap), (K w.params).In h → h.Ns mainGlobals mg → mg d.name = some (.ref fa) →
      ∃ fd : FuncData, (∀ (s : Shared) (u : Value), BindsTo s fd ⟨[u], []⟩ [("script", u)]) ∧ ∀ base : Heap, (K w.params).In base → base.Ns mainGlobals mg → FnG l.prog w (K w.params) mg base 8 fa fd ["script"] (spLaw (K w.params))) :
    PySem.W.WalkO q loose XP YP l.row.toRowW d [] (fun f vs => PySem.call f vs) :=
  walkG (n := 63) (k := 8) (x := "script") (sp := fun w => spLaw (K w.params)) hn (by decide) hdf ⟨rfl, by decide, by decide⟩ hY F (fun _ _ a ns hl _ hS => ⟨a, ns, rfl, hS, hl, fun _ => rfl⟩)
end Tw
open PySem PySem.W PyProof.Rows in
set_option maxRecDepth 100000 in
set_option maxHeartbeats 0 in
theorem PySem.Challenge.cw_twinrope_k00_net_is_kept_or_refused_holds : PySem.Challenge.rw_twinrope_k00_net_is_kept_or_refused.Holds := by
  w_on; o_law; k_head; (case hw => w_witness2)
  k_fill
  refine Tw.walk (l := PySem.Challenge.rw_twinrope_k00_net_is_kept_or_refused) rfl rfl (fun w h Y => PySem.W.kIn_of Y) ?F
  case F =>
    intro w mg fa h KX G hmg
    refine' Tw.all_mk KX G hmg ?a0 ?l0 ?c0 ?k0 ?a1 ?l1 ?c1 ?k1 ?a2 ?l2 ?c2 ?k2 ?a3 ?l3 ?c3 ?k3 ?a4 ?l4 ?c4 ?k4 ?a5 ?l5 ?c5 ?k5 ?a6 ?l6 ?c6 ?k6 ?a7 ?l7 ?c7 ?k7 ?a8 ?l8 ?c8 ?k8 ?a9 ?l9 ?c9 ?k9 ?a10 ?l10 ?c10 ?k10 ?a11 ?l11 ?c11 ?k11 ?a12 ?l12 ?c12 ?k12 ?a13 ?l13 ?c13 ?k13 ?a14 ?l14 ?c14 ?k14 ?a15 ?l15 ?c15 ?k15 ?a16 ?l16 ?c16 ?k16 ?a17 ?l17 ?c17 ?k17 ?a18 ?l18 ?c18 ?k18 ?a19 ?l19 ?c19 ?k19 ?a20 ?l20 ?c20 ?k20 ?a21 ?l21 ?c21 ?k21 ?a22 ?l22 ?c22 ?k22 ?a23 ?l23 ?c23 ?k23 ?a24 ?l24 ?c24 ?k24 ?a25 ?l25 ?c25 ?k25 ?a26 ?l26 ?c26 ?k26 ?a27 ?l27 ?c27 ?k27 ?a28 ?l28 ?c28 ?k28 ?a29 ?l29 ?c29 ?k29 ?a30 ?l30 ?c30 ?k30 ?g_BadNet ?g_TooMany ?g_NotConnected ?g_NoStation ?g_NoRope ?g_NotThere ?g_RopeError ?g_Net ?ma0 ?mn0 ?ml0 ?md0 ?mk0 ?ma1 ?mn1 ?ml1 ?md1 ?mk1 ?ma2 ?mn2 ?ml2 ?md2 ?mk2 ?ma3 ?mn3 ?ml3 ?md3 ?mk3 ?ma4 ?mn4 ?ml4 ?md4 ?mk4 ?ma5 ?mn5 ?ml5 ?md5 ?mk5 ?ma6 ?mg6 ?mt6 ?mc6 ?ml6 ?md6 ?mk6 ?ma7 ?mg7 ?mt7 ?mc7 ?ml7 ?md7 ?mk7 ?ma8 ?mg8 ?mt8 ?mc8 ?ml8 ?md8 ?mk8 ?ma9 ?mc9 ?mi9 ?ml9 ?md9 ?mk9 ?ma10 ?mc10 ?mi10 ?ml10 ?md10 ?mk10 ?ma11 ?mc11 ?mi11 ?ml11 ?md11 ?mk11 ?z_len ?z_int ?z_list ?z_range ?z_set ?z_sorted ?z_all ?z_enumerate ?z_isinstance ?z_bool ?z_tuple ?z_ValueError ?z_any ?z_str ?z_max ?z_min ?z_repr ?nr_rd ?nr_ga ?v24 ?v40 ?w24 ?w40 ?u24 ?u40 ?nmk ?nkp ?npg ?nhd ?npo ?nsa ?nns ?nnr ?nic ?nmo ?nkt ?nne ?ntu ?nst ?hn_ ?ht_ ?b_any ?b_sup ?b_top ?xB ?rfB ?saB ?eCB ?tCB ?kCB ?aiB ?tiB ?liB ?ciB ?suB ?sbB ?ceB ?cdB ?cvB ?cfB ?mrB ?nfB ?xM ?rfM ?saM ?eCM ?tCM ?kCM ?aiM ?tiM ?liM ?ciM ?suM ?sbM ?ceM ?cdM ?cvM ?cfM ?mrM ?nfM ?xC ?rfC ?saC ?eCC ?tCC ?kCC ?aiC ?tiC ?liC ?ciC ?suC ?sbC ?ceC ?cdC ?cvC ?cfC ?mrC ?nfC ?xS ?rfS ?saS ?eCS ?tCS ?kCS ?aiS ?tiS ?liS ?ciS ?suS ?sbS ?ceS ?cdS ?cvS ?cfS ?mrS ?nfS ?xR ?rfR ?saR ?eCR ?tCR ?kCR ?aiR ?tiR ?liR ?ciR ?suR ?sbR ?ceR ?cdR ?cvR ?cfR ?mrR ?nfR ?xT ?rfT ?saT ?eCT ?tCT ?kCT ?aiT ?tiT ?liT ?ciT ?suT ?sbT ?ceT ?cdT ?cvT ?cfT ?mrT ?nfT ?nf2T ?gaB ?ggB ?hdB ?haB ?moB ?q1B ?q2B ?q3B ?q4B ?q5B ?q6B ?q7B ?exB ?gaM ?ggM ?hdM ?haM ?moM ?q1M ?q2M ?q3M ?q4M ?q5M ?q6M ?q7M ?exM ?gaC ?ggC ?hdC ?haC ?moC ?q1C ?q2C ?q3C ?q4C ?q5C ?q6C ?q7C ?exC ?gaS ?ggS ?hdS ?haS ?moS ?q1S ?q2S ?q3S ?q4S ?q5S ?q6S ?q7S ?exS ?gaR ?ggR ?hdR ?haR ?moR ?q1R ?q2R ?q3R ?q4R ?q5R ?q6R ?q7R ?exR ?gaT ?ggT ?hdT ?haT ?moT ?q1T ?q2T ?q3T ?q4T ?q5T ?q6T ?q7T ?exT
    (case a0 => k_is)
    (case l0 => k_is)
    (case c0 => k_is)
    (case k0 => k_is)
    (case a1 => k_is)
    (case l1 => k_is)
    (case c1 => k_is)
    (case k1 => k_is)
    (case a2 => k_is)
    (case l2 => k_is)
    (case c2 => k_is)
    (case k2 => k_is)
    (case a3 => k_is)
    (case l3 => k_is)
    (case c3 => k_is)
    (case k3 => k_is)
    (case a4 => k_is)
    (case l4 => k_is)
    (case c4 => k_is)
    (case k4 => k_is)
    (case a5 => k_is)
    (case l5 => k_is)
    (case c5 => k_is)
    (case k5 => k_is)
    (case a6 => k_is)
    (case l6 => k_is)
    (case c6 => k_is)
    (case k6 => k_is)
    (case a7 => k_is)
    (case l7 => k_is)
    (case c7 => k_is)
    (case k7 => k_is)
    (case a8 => k_is)
    (case l8 => k_is)
    (case c8 => k_is)
    (case k8 => k_is)
    (case a9 => k_is)
    (case l9 => k_is)
    (case c9 => k_is)
    (case k9 => k_is)
    (case a10 => k_is)
    (case l10 => k_is)
    (case c10 => k_is)
    (case k10 => k_is)
    (case a11 => k_is)
    (case l11 => k_is)
    (case c11 => k_is)
    (case k11 => k_is)
    (case a12 => k_is)
    (case l12 => k_is)
    (case c12 => k_is)
    (case k12 => k_is)
    (case a13 => k_is)
    (case l13 => k_is)
    (case c13 => k_is)
    (case k13 => k_is)
    (case a14 => k_is)
    (case l14 => k_is)
    (case c14 => k_is)
    (case k14 => k_is)
    (case a15 => k_is)
    (case l15 => k_is)
    (case c15 => k_is)
    (case k15 => k_is)
    (case a16 => k_is)
    (case l16 => k_is)
    (case c16 => k_is)
    (case k16 => k_is)
    (case a17 => k_is)
    (case l17 => k_is)
    (case c17 => k_is)
    (case k17 => k_is)
    (case a18 => k_is)
    (case l18 => k_is)
    (case c18 => k_is)
    (case k18 => k_is)
    (case a19 => k_is)
    (case l19 => k_is)
    (case c19 => k_is)
    (case k19 => k_is)
    (case a20 => k_is)
    (case l20 => k_is)
    (case c20 => k_is)
    (case k20 => k_is)
    (case a21 => k_is)
    (case l21 => k_is)
    (case c21 => k_is)
    (case k21 => k_is)
    (case a22 => k_is)
    (case l22 => k_is)
    (case c22 => k_is)
    (case k22 => k_is)
    (case a23 => k_is)
    (case l23 => k_is)
    (case c23 => k_is)
    (case k23 => k_is)
    (case a24 => k_is)
    (case l24 => k_is)
    (case c24 => k_is)
    (case k24 => k_is)
    (case a25 => k_is)
    (case l25 => k_is)
    (case c25 => k_is)
    (case k25 => k_is)
    (case a26 => k_is)
    (case l26 => k_is)
    (case c26 => k_is)
    (case k26 => k_is)
    (case a27 => k_is)
    (case l27 => k_is)
    (case c27 => k_is)
    (case k27 => k_is)
    (case a28 => k_is)
    (case l28 => k_is)
    (case c28 => k_is)
    (case k28 => k_is)
    (case a29 => k_is)
    (case l29 => k_is)
    (case c29 => k_is)
    (case k29 => k_is)
    (case a30 => k_is)
    (case l30 => k_is)
    (case c30 => k_is)
    (case k30 => k_is)
    (case g_BadNet => k_is)
    (case g_TooMany => k_is)
    (case g_NotConnected => k_is)
    (case g_NoStation => k_is)
    (case g_NoRope => k_is)
    (case g_NotThere => k_is)
    (case g_RopeError => k_is)
    (case g_Net => k_is)
    (case ma0 => k_is)
    (case mn0 => k_is)
    (case ml0 => k_is)
    (case md0 => k_is)
    (case mk0 => k_is)
    (case ma1 => k_is)
    (case mn1 => k_is)
    (case ml1 => k_is)
    (case md1 => k_is)
    (case mk1 => k_is)
    (case ma2 => k_is)
    (case mn2 => k_is)
    (case ml2 => k_is)
    (case md2 => k_is)
    (case mk2 => k_is)
    (case ma3 => k_is)
    (case mn3 => k_is)
    (case ml3 => k_is)
    (case md3 => k_is)
    (case mk3 => k_is)
    (case ma4 => k_is)
    (case mn4 => k_is)
    (case ml4 => k_is)
    (case md4 => k_is)
    (case mk4 => k_is)
    (case ma5 => k_is)
    (case mn5 => k_is)
    (case ml5 => k_is)
    (case md5 => k_is)
    (case mk5 => k_is)
    (case ma6 => k_is)
    (case mg6 => k_is)
    (case mt6 => k_is)
    (case mc6 => k_is)
    (case ml6 => k_is)
    (case md6 => k_is)
    (case mk6 => k_is)
    (case ma7 => k_is)
    (case mg7 => k_is)
    (case mt7 => k_is)
    (case mc7 => k_is)
    (case ml7 => k_is)
    (case md7 => k_is)
    (case mk7 => k_is)
    (case ma8 => k_is)
    (case mg8 => k_is)
    (case mt8 => k_is)
    (case mc8 => k_is)
    (case ml8 => k_is)
    (case md8 => k_is)
    (case mk8 => k_is)
    (case ma9 => k_is)
    (case mc9 => k_is)
    (case mi9 => k_is)
    (case ml9 => k_is)
    (case md9 => k_is)
    (case mk9 => k_is)
    (case ma10 => k_is)
    (case mc10 => k_is)
    (case mi10 => k_is)
    (case ml10 => k_is)
    (case md10 => k_is)
    (case mk10 => k_is)
    (case ma11 => k_is)
    (case mc11 => k_is)
    (case mi11 => k_is)
    (case ml11 => k_is)
    (case md11 => k_is)
    (case mk11 => k_is)
    (case z_len => k_is)
    (case z_int => k_is)
    (case z_list => k_is)
    (case z_range => k_is)
    (case z_set => k_is)
    (case z_sorted => k_is)
    (case z_all => k_is)
    (case z_enumerate => k_is)
    (case z_isinstance => k_is)
    (case z_bool => k_is)
    (case z_tuple => k_is)
    (case z_ValueError => k_is)
    (case z_any => k_is)
    (case z_str => k_is)
    (case z_max => k_is)
    (case z_min => k_is)
    (case z_repr => k_is)
    (case nr_rd => k_is)
    (case nr_ga => k_is)
    (case v24 => k_is)
    (case v40 => k_is)
    (case w24 => k_is)
    (case w40 => k_is)
    (case u24 => k_is)
    (case u40 => k_is)
    (case nmk => k_is)
    (case nkp => k_is)
    (case npg => k_is)
    (case nhd => k_is)
    (case npo => k_is)
    (case nsa => k_is)
    (case nns => k_is)
    (case nnr => k_is)
    (case nic => k_is)
    (case nmo => k_is)
    (case nkt => first | kit_is | k_is)
    (case nne => k_is)
    (case ntu => first | kit_is | k_is)
    (case nst => first | kit_is | k_is)
    (case hn_ => k_is)
    (case ht_ => k_is)
    (case b_any => k_is)
    (case b_sup => k_is)
    (case b_top => first | rfl | decide +kernel | k_is)
    (case xB => k_is)
    (case rfB => first | rfl | decide +kernel | k_is)
    (case saB => k_is)
    (case eCB => k_is)
    (case tCB => k_is)
    (case kCB => k_is)
    (case aiB => k_is)
    (case tiB => k_is)
    (case liB => k_is)
    (case ciB => k_is)
    (case suB => first | ks_is | k_is)
    (case sbB => k_is)
    (case ceB => k_is)
    (case cdB => k_is)
    (case cvB => first | rfl | decide +kernel | k_is)
    (case cfB => first | rfl | decide +kernel | k_is)
    (case mrB => k_is)
    (case nfB => k_is)
    (case xM => k_is)
    (case rfM => first | rfl | decide +kernel | k_is)
    (case saM => k_is)
    (case eCM => k_is)
    (case tCM => k_is)
    (case kCM => k_is)
    (case aiM => k_is)
    (case tiM => k_is)
    (case liM => k_is)
    (case ciM => k_is)
    (case suM => first | ks_is | k_is)
    (case sbM => k_is)
    (case ceM => k_is)
    (case cdM => k_is)
    (case cvM => first | rfl | decide +kernel | k_is)
    (case cfM => first | rfl | decide +kernel | k_is)
    (case mrM => k_is)
    (case nfM => k_is)
    (case xC => k_is)
    (case rfC => first | rfl | decide +kernel | k_is)
    (case saC => k_is)
    (case eCC => k_is)
    (case tCC => k_is)
    (case kCC => k_is)
    (case aiC => k_is)
    (case tiC => k_is)
    (case liC => k_is)
    (case ciC => k_is)
    (case suC => first | ks_is | k_is)
    (case sbC => k_is)
    (case ceC => k_is)
    (case cdC => k_is)
    (case cvC => first | rfl | decide +kernel | k_is)
    (case cfC => first | rfl | decide +kernel | k_is)
    (case mrC => k_is)
    (case nfC => k_is)
    (case xS => k_is)
    (case rfS => first | rfl | decide +kernel | k_is)
    (case saS => k_is)
    (case eCS => k_is)
    (case tCS => k_is)
    (case kCS => k_is)
    (case aiS => k_is)
    (case tiS => k_is)
    (case liS => k_is)
    (case ciS => k_is)
    (case suS => first | ks_is | k_is)
    (case sbS => k_is)
    (case ceS => k_is)
    (case cdS => k_is)
    (case cvS => first | rfl | decide +kernel | k_is)
    (case cfS => first | rfl | decide +kernel | k_is)
    (case mrS => k_is)
    (case nfS => k_is)
    (case xR => k_is)
    (case rfR => first | rfl | decide +kernel | k_is)
    (case saR => k_is)
    (case eCR => k_is)
    (case tCR => k_is)
    (case kCR => k_is)
    (case aiR => k_is)
    (case tiR => k_is)
    (case liR => k_is)
    (case ciR => k_is)
    (case suR => first | ks_is | k_is)
    (case sbR => k_is)
    (case ceR => k_is)
    (case cdR => k_is)
    (case cvR => first | rfl | decide +kernel | k_is)
    (case cfR => first | rfl | decide +kernel | k_is)
    (case mrR => k_is)
    (case nfR => k_is)
    (case xT => k_is)
    (case rfT => first | rfl | decide +kernel | k_is)
    (case saT => k_is)
    (case eCT => k_is)
    (case tCT => k_is)
    (case kCT => k_is)
    (case aiT => k_is)
    (case tiT => k_is)
    (case liT => k_is)
    (case ciT => k_is)
    (case suT => first | ks_is | k_is)
    (case sbT => k_is)
    (case ceT => k_is)
    (case cdT => k_is)
    (case cvT => first | rfl | decide +kernel | k_is)
    (case cfT => first | rfl | decide +kernel | k_is)
    (case mrT => k_is)
    (case nfT => k_is)
    (case nf2T => k_is)
    (case gaB => k_is)
    (case ggB => k_is)
    (case hdB => k_is)
    (case haB => k_is)
    (case moB => k_is)
    (case q1B => first | kit_is | k_is)
    (case q2B => first | kit_is | k_is)
    (case q3B => first | kit_is | k_is)
    (case q4B => first | kit_is | k_is)
    (case q5B => first | kit_is | k_is)
    (case q6B => first | kit_is | k_is)
    (case q7B => first | kit_is | k_is)
    (case exB => first | k_is | (refine exm_ref ?h1 ?h2 ?h3 ?h4; (case h1 => k_is); (case h2 => k_is); (case h3 => k_is); (case h4 => k_is)))
    (case gaM => k_is)
    (case ggM => k_is)
    (case hdM => k_is)
    (case haM => k_is)
    (case moM => k_is)
    (case q1M => first | kit_is | k_is)
    (case q2M => first | kit_is | k_is)
    (case q3M => first | kit_is | k_is)
    (case q4M => first | kit_is | k_is)
    (case q5M => first | kit_is | k_is)
    (case q6M => first | kit_is | k_is)
    (case q7M => first | kit_is | k_is)
    (case exM => first | k_is | (refine exm_ref ?h1 ?h2 ?h3 ?h4; (case h1 => k_is); (case h2 => k_is); (case h3 => k_is); (case h4 => k_is)))
    (case gaC => k_is)
    (case ggC => k_is)
    (case hdC => k_is)
    (case haC => k_is)
    (case moC => k_is)
    (case q1C => first | kit_is | k_is)
    (case q2C => first | kit_is | k_is)
    (case q3C => first | kit_is | k_is)
    (case q4C => first | kit_is | k_is)
    (case q5C => first | kit_is | k_is)
    (case q6C => first | kit_is | k_is)
    (case q7C => first | kit_is | k_is)
    (case exC => first | k_is | (refine exm_ref ?h1 ?h2 ?h3 ?h4; (case h1 => k_is); (case h2 => k_is); (case h3 => k_is); (case h4 => k_is)))
    (case gaS => k_is)
    (case ggS => k_is)
    (case hdS => k_is)
    (case haS => k_is)
    (case moS => k_is)
    (case q1S => first | kit_is | k_is)
    (case q2S => first | kit_is | k_is)
    (case q3S => first | kit_is | k_is)
    (case q4S => first | kit_is | k_is)
    (case q5S => first | kit_is | k_is)
    (case q6S => first | kit_is | k_is)
    (case q7S => first | kit_is | k_is)
    (case exS => first | k_is | (refine exm_ref ?h1 ?h2 ?h3 ?h4; (case h1 => k_is); (case h2 => k_is); (case h3 => k_is); (case h4 => k_is)))
    (case gaR => k_is)
    (case ggR => k_is)
    (case hdR => k_is)
    (case haR => k_is)
    (case moR => k_is)
    (case q1R => first | kit_is | k_is)
    (case q2R => first | kit_is | k_is)
    (case q3R => first | kit_is | k_is)
    (case q4R => first | kit_is | k_is)
    (case q5R => first | kit_is | k_is)
    (case q6R => first | kit_is | k_is)
    (case q7R => first | kit_is | k_is)
    (case exR => first | k_is | (refine exm_ref ?h1 ?h2 ?h3 ?h4; (case h1 => k_is); (case h2 => k_is); (case h3 => k_is); (case h4 => k_is)))
    (case gaT => k_is)
    (case ggT => k_is)
    (case hdT => k_is)
    (case haT => k_is)
    (case moT => k_is)
    (case q1T => first | kit_is | k_is)
    (case q2T => first | kit_is | k_is)
    (case q3T => first | kit_is | k_is)
    (case q4T => first | kit_is | k_is)
    (case q5T => first | kit_is | k_is)
    (case q6T => first | kit_is | k_is)
    (case q7T => first | kit_is | k_is)
    (case exT => first | k_is | (refine exm_ref ?h1 ?h2 ?h3 ?h4; (case h1 => k_is); (case h2 => k_is); (case h3 => k_is); (case h4 => k_is)))

