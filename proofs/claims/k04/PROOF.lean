import PyProof.Rows.All
import Wide.All
import OpenK.AllK
import Wide.FinOn
import PyProof.EqAt
import PyProof.EqKinds
import PyProof.TupleCall
import HandS.ForMost
import HandS.ExcInit
import HandS.ExcIs
import HandS.ExcField
import HandS.IsInst
import KE.KExcIs
import KE.GoesEnum
import KE.GoesMore
import HandS.DeepEq
import HandS.More
import HandS.Style
import PyProof.NeKinds
import PyProof.ListStr
import PyProof.StrOps2
import HandS.StrMore
import HandS.Walk
import HandS.Exc
import HandS.ExcOwn
import HandS.Lambda
import HandS.WordsExc
import PyProof.Rows.SortShellAny
import HandS.SetKeys
import HandS.Flow
import HandS.Replace
import HandS.WideMore
import HandS.TupLe
import HandS.EndTab
import KE.KNestM
import KE.KLam
import PySem.Challenge.RW_foretongue_k04_words_of_stocks_numbered
set_option Elab.async false
set_option linter.all false
set_option maxRecDepth 100000
set_option maxHeartbeats 2000000
namespace K0
open PySem PySem.Spec PyProof.Rows L2
open PySem.W (any_some)

/-- an error of the class at C stands at a, its own dict holds just fs -/
def ErrAt (H : Hp) (a C : Addr) (fs : List (Str × V)) : Prop := ∃ dx : Addr, H a = some (exo a C (some dx)) ∧ H dx = some (exd dx fs)
theorem ErrAt.same {H H' : Hp} {a C : Addr} {fs : List (Str × V)} (e : ErrAt H a C fs) (s : Same H H') : ErrAt H' a C fs := by
  obtain ⟨dx, h1, h2⟩ := e
  exact ⟨dx, s _ _ h1, s _ _ h2⟩

/-- C(e, ..) as a value -/
def tMkE (C : Addr) (sp : Sp) (dvs : List V) (ta : TA) : TE := fun σ H Q => ta σ H fun vs H1 => vs.length ≤ 1000 ∧ ∀ a, H1 a = none →
  sp (.ref a :: (vs ++ dvs)) (upd H1 a (exo a C none)) (fun v H2 => v = .non ∧ Q (.ref a) H2) (fun _ _ _ => False)
section
variable {X : Cx} {o e : Expr} {es : List Expr} {to te : TE} {ta : TA} {f : Str} {p p' p1 p2 pos : Pos}
theorem pe_mkE {CX : CXT} {x : Str} {C fI : Addr} {k : Nat} {fd : FuncData} {ps : List Str} {sp : Sp} {ds : List Value} {dvs : List V} (T : OexC X.K C)
    (iC : PySem.W.findIn X.K (.ref C) "__init__" = some (some (.ref fI))) (tI : PySem.W.typeIn X.K (.ref fI) = some (.type "function"))
    (F1 : FnOk X.prog X.w X.K X.mg X.base CX k fI fd ps sp) (hr : Room (k + 1) X.A) (hb : Binds X.K fd ps ds) (hd : Vals dvs ds) (hx : Passes CX X (fun _ _ _ => False))
    (hg : Gl X x) (hm : X.mg x = some (.ref C)) (ha : PA X (e :: es) ta)
    (hdb : (x == ("__debug__" : Str)) = false := by decide) (he : starEach (e :: es) X.env = (false, eval e X.env) :: starEach es X.env := by rfl)
    (hpl : (backTo pos (starEach es X.env)).any (·.1) = false := by rfl) :
    PE X (.Call (.Name x p) (e :: es) [] pos) (tMkE C sp dvs ta) := by
  refine ⟨fun pins s σ H Q I h => ?_⟩
  obtain ⟨nm, q, N, bs, bm, sn, sub, ab, col, dd, k0, k1, k2, k3, k5, hC, hbm⟩ := T.cls
  refine wpAny_Call_Name_kw (ld_glob I hg hm ?_ hdb)
  refine PySem.W.callWith_K (h₀ := X.base) I.ok.mod.kin T.kC (thn (ha.run pos pins s σ H _ I h) fun us s1 ⟨vs, H1, I1, r1, hz, q1⟩ => ⟨I1.kIn, ?_⟩) he hpl
  show wpAny _ _ (call (.ref C) us) _ _ _
  obtain ⟨hp, g, dr, tk, os⟩ := s1
  have hsz : hp.objs.size ≤ hp.objs.size + 1 := Nat.le_succ _
  have hn : H1 (hp.objs.size + 1) = none := I1.hok.fresh hsz
  have hq := q1 (hp.objs.size + 1) hn
  have keepAll : ∀ b o, hp.get? b = some o → ((hp.push (PySem.W.kdv_tup us)).push (PySem.HandSPX.excO C hp.objs.size)).get? b = some o :=
    fun b o e => Heap.get?_push_of_some _ (Heap.get?_push_of_some _ e)
  have hget : ((hp.push (PySem.W.kdv_tup us)).push (PySem.HandSPX.excO C hp.objs.size)).get? (hp.objs.size + 1) = some (PySem.HandSPX.excO C hp.objs.size) := by heap_get
  have I2 := I1.laid (t' := tk) (a := hp.objs.size + 1) (o := exo (hp.objs.size + 1) C none)
    (h' := (hp.push (PySem.W.kdv_tup us)).push (PySem.HandSPX.excO C hp.objs.size)) keepAll hsz (exo_ok hget)
  have r2 : Vals (V.ref (hp.objs.size + 1) :: (vs ++ dvs)) (Value.ref (hp.objs.size + 1) :: (us ++ ds)) := .cons rfl (r1.append hd)
  have hl : (Value.ref (hp.objs.size + 1) :: us ++ ds).length = ps.length := by
    have e := r2.length
    rw [F1.len _ _ _ _ hq] at e
    exact e.symm
  have hus : us.length ≤ sizeLine := by
    rw [← Paired.length r1, sizeLine_eq]
    omega
  refine wpAny_call (PySem.HandSPX.call_own F.excBase_ValueError (fun Y => PySem.HandSPX.refsVE_contains Y bm hbm) (I1.kIn _ _ hC)
    (PySem.W.looks_findIn I1.kIn iC) (fun self => PySem.W.bind_fn I1.kIn self tI) hus
    (codeAny_mono (F1.run _ X.stack _ _ ⟨Value.ref (hp.objs.size + 1) :: us, []⟩ (Value.ref (hp.objs.size + 1) :: (us ++ ds)) _ _ (fun _ _ _ => False)
      (hr.make C us []) (I2.env0.make C us []) (hb _ (Value.ref (hp.objs.size + 1) :: us) I2.kIn hl) r2 hq) fun r s' hq' => ?_))
  cases r with
  | error er => exact hx pins σ _ _ er s' I2 hq'
  | ok fl =>
    cases fl with
    | ret u =>
      obtain ⟨v, H2, os2, bare2, un2, hok2, rv, ev, q2⟩ := hq'
      subst ev
      refine ⟨rv, .ref (hp.objs.size + 1), H2, ?_, rfl, q2⟩
      exact I2.call' (ch := []) os2 un2 hok2 bare2 (fun b z => absurd z (by simp))
    | next => exact False.elim hq'
    | brk => exact False.elim hq'
    | cont => exact False.elim hq'

/-- e.f, e an error -/
def tErrF (K : PySem.W.Frag) (f : Str) (te : TE) : TE := fun σ H Q => te σ H fun x H1 => ∃ (a C : Addr) (fs : List (Str × V)) (v : V),
  x = .ref a ∧ XfC K C ∧ PySem.W.findIn K (.ref C) f = some none ∧ ErrAt H1 a C fs ∧ fs.lookup f = some v ∧ Q v H1
theorem pe_errF {n : Str} (he : PE X e te) (hb : attributeBase e n X.env (eval e X.env) = eval e X.env := by rfl) : PE X (.Attribute e n pos) (tErrF X.K n te) := by
  refine ⟨fun pins s σ H Q I h => ?_⟩
  refine attr_of hb (thn (he.run pins s σ H _ I h) fun u s1 hh => ?_)
  obtain ⟨x, H1, I1, rx, a, C, fs, v, ex, T, hno, ⟨dd, e1, e2⟩, l, q⟩ := hh
  subst ex
  obtain rfl : u = Value.ref a := rx
  obtain ⟨t1, ha⟩ := exo_at I1.hok e1
  obtain ⟨mA, hns, hr⟩ := exd_at I1.hok e2
  obtain ⟨od, ho, hl⟩ := lookIn_ns hns
  obtain ⟨u, hu, ru⟩ := RelO.some_of (v := v) (o := mA n) (by rw [← l]; exact hr n)
  have J : PySem.W.InstAt s1.heap a _ C (some od) := ⟨ha, rfl, rfl, ho⟩
  exact HandSPX.exc_get I1.kIn J T.ga T.gg T.exC (PySem.W.findObj_own T.hdC hno rfl (by rw [hl, hu])) (handed_of ru) ⟨v, H1, I1.tok _, ru, q⟩

/-- isinstance(e, c), isinstance(e, (c1, ..)), e an error -/
def rIsErr (K : PySem.W.Frag) : List V → Hp → VK → Prop := fun xs H Q => ∃ (a C : Addr) (fs : List (Str × V)) (c : V) (cv : Value) (b : Bool),
  xs = [.ref a, c] ∧ ErrAt H a C fs ∧ ExcC K C ∧ ClsV c cv ∧ PySem.W.kitOne K (.ref C) cv = some b ∧ Q (.bl b) H
def rIsErrT (K : PySem.W.Frag) : List V → Hp → VK → Prop := fun xs H Q => ∃ (a C : Addr) (fs : List (Str × V)) (tp : Addr) (cs : List V) (us : List Value) (b : Bool),
  xs = [.ref a, .ref tp] ∧ ErrAt H a C fs ∧ ExcC K C ∧ H tp = some (.tup cs) ∧ Paired ClsV cs us ∧ PySem.W.kitAny K (.ref C) us = some b ∧ Q (.bl b) H
theorem err_kit {pins : List (Addr × Obj)} {σ : L2.St} {H : Hp} {s : Shared} {a C : Addr} {fs : List (Str × V)} (I : Inv X pins σ H s) (E : ErrAt H a C fs) (T : ExcC X.K C) :
    ∃ P : Heap → Prop, PySem.W.KitX X.K (.ref a) (.ref C) P ∧ P s.heap := by
  obtain ⟨dd, e1, e2⟩ := E
  obtain ⟨t1, ha⟩ := exo_at I.hok e1
  obtain ⟨mA, hns, hr⟩ := exd_at I.hok e2
  obtain ⟨od, ho, hl⟩ := lookIn_ns hns
  have J : PySem.W.InstAt s.heap a _ C (some od) := ⟨ha, rfl, rfl, ho⟩
  have hcl : (PySem.W.clsIn X.K C).isSome = true := by
    obtain ⟨cd, hc, _⟩ := any_some T.hd
    rw [hc]
    rfl
  exact ⟨_, PySem.W.kitx_exc hcl T.hg T.hk T.hs T.ha T.hn T.ht T.hm, J⟩
theorem call_isErr : CallR X (.builtin "isinstance") (rIsErr X.K) := by
  intro pins s σ H xs us Q I r h
  obtain ⟨a, C, fs, c, cv, b, rfl, E, T, k, e, q⟩ := h
  obtain ⟨u1, u2, rfl, r1, r2⟩ := vals2 r
  cases (show u1 = Value.ref a from r1)
  have e2 := k.eq r2
  subst e2
  obtain ⟨P, Z, p⟩ := err_kit I E T
  exact PySem.W.kia_one Z I.kIn p e (fun z => nomatch z) fun tk => ⟨.bl b, H, I.tok tk, rfl, q⟩
theorem call_isErrT : CallR X (.builtin "isinstance") (rIsErrT X.K) := by
  intro pins s σ H xs us Q I r h
  obtain ⟨a, C, fs, tp, cs, ws, b, rfl, E, T, hT, k, e, q⟩ := h
  obtain ⟨u1, u2, rfl, r1, r2⟩ := vals2 r
  cases (show u1 = Value.ref a from r1)
  cases (show u2 = Value.ref tp from r2)
  obtain ⟨P, Z, p⟩ := err_kit I E T
  obtain ⟨_, its, rv, o, h1, h2, n, h3⟩ := (show ObjOk X.prog X.w H s.heap tp (.tup cs) from I.hok tp _ hT)
  have e3 := ClsV.all k rv
  subst e3
  obtain ⟨oc, od, dt, sl⟩ := o
  simp only at h2 h3
  subst h2 h3
  exact PySem.W.kia_tup Z I.kIn p h1 e (fun z => nomatch z) fun tk => ⟨.bl b, H, I.tok tk, rfl, q⟩
end
end K0
namespace PySem
namespace K0X
open PySem.W PySem.Calls PyProof.Rows PySem.HandSPX
section
variable {prog : Program} {w : World} {A : Around} {E : Value → Shared → Prop} {R : Result → Shared → Prop} {h : Heap} {g : Array GenState} {d : Drawn} {t : Nat} {os : OsState}
variable {nm q : Str} {C N : Addr} {bs bm bmB : List Value} {hdct : Bool} {sn : List Str} {sub : List Value} {ab : Bool} {col : Option Bool} {dd : Option Addr}
variable {k0 k1 k2 k3 k5 : Option Value} {B newId initId : String} {kw : List (Str × Value)}
theorem check_new_kw (F : ExcBaseFacts B newId initId bmB) (hT : ∀ X : String, bm.contains (.type X) = bmB.contains (.type X)) {Q : Unit → Shared → Prop}
    (hC : h.get? C = some (excClassObj nm q C N bs bm hdct sn sub ab col dd k0 k1 k2 k3 k5 newId)) (hq : Q () ⟨h, g, d, t, os⟩) :
    wpAny (model prog w) A (checkBuiltinCall newId ⟨[.ref C], kw⟩) Q E ⟨h, g, d, t, os⟩ := by
  have hcont : (Value.ref C :: bm).contains (.type B) = true := by rw [List.contains_cons, hT, F.hasB, Bool.or_true]
  have hstar := F.noStar
  simp only [checkBuiltinCall, F.newKind, F.newSplit, F.newRow]
  repeat (first | refine wpAny_loadPart_at hC ?_ | (refine wpAny_isSubtype_exc hC ?_; rw [hcont]) | refine wpAny_staticBase_exc hC ?_ |
    refine wpAny_madeBy_exc hC ?_ | simp only [bne_self_eq_false, Bool.false_eq_true, if_false] | wp_step)
  exact hq
theorem new_kw (F : ExcBaseFacts B newId initId bmB) (hT : ∀ X : String, bm.contains (.type X) = bmB.contains (.type X))
    (hC : h.get? C = some (excClassObj nm q C N bs bm hdct sn sub ab col dd k0 k1 k2 k3 k5 newId))
    (hq : R (.ok (.ret (.ref (h.objs.size + 1)))) ⟨(h.push (kdv_tup [])).push (excO C h.objs.size), g, d, t, os⟩) :
    codeAny (model prog w) A (.builtin newId ⟨[.ref C], kw⟩) R ⟨h, g, d, t, os⟩ := by
  have hends := F.ends
  have hcB : (Value.ref C :: bm).contains (.type B) = true := by rw [List.contains_cons, hT, F.hasB, Bool.or_true]
  have hcA : (Value.ref C :: bm).contains (.type "AttributeError") = false := by rw [List.contains_cons, hT, F.noAttr]; rfl
  have hcN : (Value.ref C :: bm).contains (.type "NameError") = false := by rw [List.contains_cons, hT, F.noName]; rfl
  refine codeAny_builtinAt F.entry ?_
  unfold Builtin.«BaseException.__new__»
  refine wpAt_bind ?_
  show wpAt _ _ _ (stack >>= _) _ _ _
  refine wpAt_bind (wpAt_stack fun p below => wpAt_of_wpAny ?_)
  wp_walk
  refine wpAt_of_wpAny ?_
  rw [F.owner]
  repeat (first | with_reducible refine wpAny_madeHere_exc F.canon hC ?_ | with_reducible refine wpAny_loadPart_at hC ?_ |
    (with_reducible refine wpAny_isSubtype_exc hC ?_; first | rw [hcB] | rw [hcA] | rw [hcN]) | wp_step)
  show R _ _
  rw [Heap.size_push]
  exact hq
theorem type_call_kw (F : ExcBaseFacts B newId initId bmB) (hT : ∀ X : String, bm.contains (.type X) = bmB.contains (.type X)) {fI : Addr} {Q : Fin → Shared → Prop}
    (hC : h.get? C = some (excClassObj nm q C N bs bm hdct sn sub ab col dd k0 k1 k2 k3 k5 newId))
    (hi : Looks (model prog w) h (typeLookup (.ref C) "__init__") (some (.ref fI))) (hb : ∀ self, Looks (model prog w) h (bindSpecial (.ref fI) self) (.ref fI, [self]))
    (hq : codeAny (model prog w) A (.call (.ref fI) ⟨[.ref (h.objs.size + 1)], kw⟩)
      (fun r s' => match r with | .ok (.ret v) => v = .none ∧ Q (.done (.ret (.ref (h.objs.size + 1)))) s' | .ok _ => False | .error e => E e s')
      ⟨(h.push (kdv_tup [])).push (excO C h.objs.size), g, d, t, os⟩) :
    wpAny (model prog w) A (Builtin.«type.__call__» ⟨[.ref C], kw⟩) Q E ⟨h, g, d, t, os⟩ := by
  repeat (first | with_reducible refine wpAny_loadPart_at hC ?_ | with_reducible refine wpAny_madeBy_exc hC ?_ | wp_step)
  refine codeAny_call_builtin_code (Code.quiet_builtin _ F.quiet) (check_new_kw F hT hC ?_)
  refine new_kw F hT hC ?_
  show wpAny _ _ _ _ _ _
  have k : ∀ b o, h.get? b = some o → ((h.push (kdv_tup [])).push (excO C h.objs.size)).get? b = some o := fun b o e => Heap.get?_push_of_some _ (Heap.get?_push_of_some _ e)
  have hC' := k _ _ hC
  have hget : ((h.push (kdv_tup [])).push (excO C h.objs.size)).get? (h.objs.size + 1) = some (excO C h.objs.size) := by heap_get
  have hcC : (Value.ref C :: bm).contains (.ref C) = true := by simp
  have i1 := hi.keeps k
  have b1 := (hb (.ref (h.objs.size + 1))).keeps k
  unfold isInstance
  repeat (first | with_reducible refine wpAny_loadPart_at hget ?_ | (with_reducible refine wpAny_isSubtype_exc hC' ?_; rw [hcC]) | wp_step)
  show wpAny _ _ (typeLookup (.ref C) _) _ _ _
  refine i1.at ?_
  refine wpAny_holding (wpAny_bind (b1.at ?_))
  refine wpAny_bind (wpAny_call (codeAny_mono hq fun r s' z => ?_))
  rcases r with e | (v | _ | _ | _) <;> first | exact z | exact z.elim | skip
  obtain ⟨rfl, z⟩ := z
  first
    | exact wpAny_pure (wpAny_pure z)
    | (wp_walk; exact z)
theorem call_kw (F : ExcBaseFacts B newId initId bmB) (hT : ∀ X : String, bm.contains (.type X) = bmB.contains (.type X)) {fI : Addr}
    (hC : h.get? C = some (excClassObj nm q C N bs bm hdct sn sub ab col dd k0 k1 k2 k3 k5 newId))
    (hi : Looks (model prog w) h (typeLookup (.ref C) "__init__") (some (.ref fI))) (hb : ∀ self, Looks (model prog w) h (bindSpecial (.ref fI) self) (.ref fI, [self]))
    (hq : codeAny (model prog w) (A.under (.builtin "type.__call__" ⟨[.ref C], kw⟩)) (.call (.ref fI) ⟨[.ref (h.objs.size + 1)], kw⟩) (InitBack (h.objs.size + 1) R)
      ⟨(h.push (kdv_tup [])).push (excO C h.objs.size), g, d, t, os⟩) :
    codeAny (model prog w) A (.call (.ref C) ⟨[], kw⟩) R ⟨h, g, d, t, os⟩ := by
  have f1 := tc_lookup
  have f2 := tc_bind (.ref C)
  have hTy : (⟨h, g, d, t, os⟩ : Shared).TypeIs (.ref C) "type" := ⟨_, hC, rfl⟩
  refine codeAny_of_tree ?_
  show wpAny _ _ (callAny (.ref C) _) _ _ _
  repeat (any_goals (first | assumption | with_reducible refine wpAny_loadPart_at hC ?_ | wp_step))
  refine ⟨rfl, ?_⟩
  refine codeAny_call_builtin_at (Code.quiet_builtin _ (by decide +kernel)) entry_typeCall (wpAny_check_type_call_sub hC (type_call_kw F hT hC hi hb ?_))
  refine codeAny_mono hq fun r s' z => ?_
  rcases r with e | (v | _ | _ | _) <;> exact z
end
end K0X
end PySem
namespace K0
open PySem PySem.Spec PyProof.Rows L2
/-- C(k = e, ..) as a value -/
def tMkK (C : Addr) (sp : Sp) (gV : List V → List V → List V) (n : Nat) (tk : TA) : TE := fun σ H Q => tk σ H fun zs H1 => zs.length = n ∧ ∀ a, H1 a = none →
  sp (gV [.ref a] zs) (upd H1 a (exo a C none)) (fun v H2 => v = .non ∧ Q (.ref a) H2) (fun _ _ _ => False)
section
variable {X : Cx} {tk : TA} {p pos : Pos} {kws : List Keyword} {g : List Value → List Value → List Value} {gV : List V → List V → List V}
theorem pe_mkK {CX : CXT} {x : Str} {C fI : Addr} {k : Nat} {fd : FuncData} {ps ks : List Str} {sp : Sp} (T : OexC X.K C)
    (iC : PySem.W.findIn X.K (.ref C) "__init__" = some (some (.ref fI))) (tI : PySem.W.typeIn X.K (.ref fI) = some (.type "function"))
    (F1 : FnOk X.prog X.w X.K X.mg X.base CX k fI fd ps sp) (hr : Room (k + 1) X.A) (hb : KBinds X.K fd ps ks g gV) (hx : Passes CX X (fun _ _ _ => False))
    (hg : Gl X x) (hm : X.mg x = some (.ref C)) (hkw : PK X kws tk)
    (hall : (backToKw pos (keywordEach kws X.env)).all (·.1.isSome) = true := by rfl) (hks : (backToKw pos (keywordEach kws X.env)).filterMap (·.1) = ks := by rfl)
    (hdb : (x == ("__debug__" : Str)) = false := by decide)
    (hpl : ((backTo pos (starEach [] X.env)).any (·.1) || (backToKw pos (keywordEach kws X.env)).any (·.1.isNone)) = false := by rfl) :
    PE X (.Call (.Name x p) [] kws pos) (tMkK C sp gV ks.length tk) := by
  refine ⟨fun pins s σ H Q I h => ?_⟩
  obtain ⟨nm, q, N, bs, bm, sn, sub, ab, col, dd, k0, k1, k2, k3, k5, hC, hbm⟩ := T.cls
  refine wpAny_Call_Name_kw (ld_glob I hg hm ?_ hdb)
  refine PySem.W.callWith_KW0 (h₀ := X.base) I.ok.mod.kin T.kC hall (thn (hkw.run pos pins s σ H _ I h) fun ws s1 ⟨zs, H1, I1, rz, hz, q1⟩ => ⟨I1.kIn, ?_⟩) hpl
  rw [hks]
  show wpAny _ _ (call (.ref C) [] (ks.zip ws)) _ _ _
  obtain ⟨hp, g', dr, tk, os⟩ := s1
  have hsz : hp.objs.size ≤ hp.objs.size + 1 := Nat.le_succ _
  have hn : H1 (hp.objs.size + 1) = none := I1.hok.fresh hsz
  have hq := q1 (hp.objs.size + 1) hn
  have keepAll : ∀ b o, hp.get? b = some o → ((hp.push (PySem.W.kdv_tup [])).push (PySem.HandSPX.excO C hp.objs.size)).get? b = some o :=
    fun b o e => Heap.get?_push_of_some _ (Heap.get?_push_of_some _ e)
  have hget : ((hp.push (PySem.W.kdv_tup [])).push (PySem.HandSPX.excO C hp.objs.size)).get? (hp.objs.size + 1) = some (PySem.HandSPX.excO C hp.objs.size) := by heap_get
  have I2 := I1.laid (t' := tk) (a := hp.objs.size + 1) (o := exo (hp.objs.size + 1) C none)
    (h' := (hp.push (PySem.W.kdv_tup [])).push (PySem.HandSPX.excO C hp.objs.size)) keepAll hsz (exo_ok hget)
  have r2 := hb.rel (.cons (show RelV (V.ref (hp.objs.size + 1)) (Value.ref (hp.objs.size + 1)) from rfl) .nil) rz
  have hl : (g [Value.ref (hp.objs.size + 1)] ws).length = ps.length := by
    rw [← r2.length]
    exact F1.len _ _ _ _ hq
  refine wpAny_call (PySem.K0X.call_kw F.excBase_ValueError (fun Y => PySem.HandSPX.refsVE_contains Y bm hbm) (I1.kIn _ _ hC)
    (PySem.W.looks_findIn I1.kIn iC) (fun self => PySem.W.bind_fn I1.kIn self tI)
    (codeAny_mono (F1.run _ X.stack _ _ ⟨[Value.ref (hp.objs.size + 1)], ks.zip ws⟩ (g [Value.ref (hp.objs.size + 1)] ws) _ _ (fun _ _ _ => False)
      (hr.make C [] (ks.zip ws)) (I2.env0.make C [] (ks.zip ws)) (hb.to _ [Value.ref (hp.objs.size + 1)] ws I2.kIn hl) r2 hq) fun r s' hq' => ?_))
  cases r with
  | error er => exact hx pins σ _ _ er s' I2 hq'
  | ok fl =>
    cases fl with
    | ret u =>
      obtain ⟨v, H2, os2, bare2, un2, hok2, rv, ev, q2⟩ := hq'
      subst ev
      refine ⟨rv, .ref (hp.objs.size + 1), H2, ?_, rfl, q2⟩
      exact I2.call' (ch := []) os2 un2 hok2 bare2 (fun b z => absurd z (by simp))
    | next => exact False.elim hq'
    | brk => exact False.elim hq'
    | cont => exact False.elim hq'
end
/-! ### keywords to their places -/
def kg1 {α : Type} : List α → List α → List α
  | [], [v] => [v]
  | _, _ => []
def kg2 {α : Type} : List α → List α → List α
  | [u], [v] => [u, v]
  | _, _ => []
def kg2r {α : Type} : List α → List α → List α
  | [], [a, b] => [b, a]
  | _, _ => []
def kg3 {α : Type} : List α → List α → List α
  | [], [a, b, c] => [a, b, c]
  | _, _ => []
def kg3p {α : Type} : List α → List α → List α
  | [u], [a, b] => [u, a, b]
  | _, _ => []
def kg3r {α : Type} : List α → List α → List α
  | [u], [a, b] => [u, b, a]
  | _, _ => []
section
variable {vs zs : List V} {us ws : List Value}
theorem rel1 (r : Vals vs us) (rz : Vals zs ws) : Vals (kg1 vs zs) (kg1 us ws) := by
  cases r with
  | nil =>
    cases rz with
    | nil => exact .nil
    | cons a b =>
      cases b with
      | nil => exact .cons a .nil
      | cons c d => exact .nil
  | cons x y => exact .nil
theorem rel2 (r : Vals vs us) (rz : Vals zs ws) : Vals (kg2 vs zs) (kg2 us ws) := by
  cases r with
  | nil => exact .nil
  | cons x y =>
    cases y with
    | cons x2 y2 => exact .nil
    | nil =>
      cases rz with
      | nil => exact .nil
      | cons a b =>
        cases b with
        | nil => exact .cons x (.cons a .nil)
        | cons c d => exact .nil
theorem rel2r (r : Vals vs us) (rz : Vals zs ws) : Vals (kg2r vs zs) (kg2r us ws) := by
  cases r with
  | cons x y => exact .nil
  | nil =>
    cases rz with
    | nil => exact .nil
    | cons a b =>
      cases b with
      | nil => exact .nil
      | cons c d =>
        cases d with
        | nil => exact .cons c (.cons a .nil)
        | cons e f => exact .nil
theorem rel3 (r : Vals vs us) (rz : Vals zs ws) : Vals (kg3 vs zs) (kg3 us ws) := by
  cases r with
  | cons x y => exact .nil
  | nil =>
    cases rz with
    | nil => exact .nil
    | cons a b =>
      cases b with
      | nil => exact .nil
      | cons c d =>
        cases d with
        | nil => exact .nil
        | cons e f =>
          cases f with
          | nil => exact .cons a (.cons c (.cons e .nil))
          | cons g h => exact .nil
theorem rel3p (r : Vals vs us) (rz : Vals zs ws) : Vals (kg3p vs zs) (kg3p us ws) := by
  cases r with
  | nil => exact .nil
  | cons x y =>
    cases y with
    | cons x2 y2 => exact .nil
    | nil =>
      cases rz with
      | nil => exact .nil
      | cons a b =>
        cases b with
        | nil => exact .nil
        | cons c d =>
          cases d with
          | nil => exact .cons x (.cons a (.cons c .nil))
          | cons e f => exact .nil
theorem rel3r (r : Vals vs us) (rz : Vals zs ws) : Vals (kg3r vs zs) (kg3r us ws) := by
  cases r with
  | nil => exact .nil
  | cons x y =>
    cases y with
    | cons x2 y2 => exact .nil
    | nil =>
      cases rz with
      | nil => exact .nil
      | cons a b =>
        cases b with
        | nil => exact .nil
        | cons c d =>
          cases d with
          | nil => exact .cons x (.cons c (.cons a .nil))
          | cons e f => exact .nil
end
section
variable {K : PySem.W.Frag} {x qual : Str} {st : Stmt} {f : Addr} {fd : FuncData} {p q r : Str}
abbrev fOf (x qual : Str) (st : Stmt) (kV doc pm : Value) (an : Option Addr) (cdv ct : Value) : FuncData := PySem.W.fnOf x qual (defArgs st) (defBody st) (defScope st) .none kV doc pm an cdv ct
theorem kb1 (F : Fun K x qual st f fd) (h : ∀ kV doc pm an cdv ct v, bindArgs (fOf x qual st kV doc pm an cdv ct) ⟨[], [(p, v)]⟩ = pure [(p, v)]) : KBinds K fd [p] [p] kg1 kg1 := by
  obtain ⟨oc, od, kV, doc, pm, an, cdv, ct, osl, rfl, lk, hcd⟩ := F.ex
  refine ⟨fun s us ws _ hl => ?_, rel1⟩
  match us, ws, hl with
  | [], [v], _ => exact .of_eq (h _ _ _ _ _ _ v)
theorem kb2 (F : Fun K x qual st f fd) (h : ∀ kV doc pm an cdv ct u v, bindArgs (fOf x qual st kV doc pm an cdv ct) ⟨[u], [(q, v)]⟩ = pure [(p, u), (q, v)]) : KBinds K fd [p, q] [q] kg2 kg2 := by
  obtain ⟨oc, od, kV, doc, pm, an, cdv, ct, osl, rfl, lk, hcd⟩ := F.ex
  refine ⟨fun s us ws _ hl => ?_, rel2⟩
  match us, ws, hl with
  | [u], [v], _ => exact .of_eq (h _ _ _ _ _ _ u v)
theorem kb2r (F : Fun K x qual st f fd) (h : ∀ kV doc pm an cdv ct u v, bindArgs (fOf x qual st kV doc pm an cdv ct) ⟨[], [(q, u), (p, v)]⟩ = pure [(p, v), (q, u)]) : KBinds K fd [p, q] [q, p] kg2r kg2r := by
  obtain ⟨oc, od, kV, doc, pm, an, cdv, ct, osl, rfl, lk, hcd⟩ := F.ex
  refine ⟨fun s us ws _ hl => ?_, rel2r⟩
  match us, ws, hl with
  | [], [u, v], _ => exact .of_eq (h _ _ _ _ _ _ u v)
theorem kb3 (F : Fun K x qual st f fd) (h : ∀ kV doc pm an cdv ct u v z, bindArgs (fOf x qual st kV doc pm an cdv ct) ⟨[], [(p, u), (q, v), (r, z)]⟩ = pure [(p, u), (q, v), (r, z)]) : KBinds K fd [p, q, r] [p, q, r] kg3 kg3 := by
  obtain ⟨oc, od, kV, doc, pm, an, cdv, ct, osl, rfl, lk, hcd⟩ := F.ex
  refine ⟨fun s us ws _ hl => ?_, rel3⟩
  match us, ws, hl with
  | [], [u, v, z], _ => exact .of_eq (h _ _ _ _ _ _ u v z)
theorem kb3p (F : Fun K x qual st f fd) (h : ∀ kV doc pm an cdv ct u v z, bindArgs (fOf x qual st kV doc pm an cdv ct) ⟨[u], [(q, v), (r, z)]⟩ = pure [(p, u), (q, v), (r, z)]) : KBinds K fd [p, q, r] [q, r] kg3p kg3p := by
  obtain ⟨oc, od, kV, doc, pm, an, cdv, ct, osl, rfl, lk, hcd⟩ := F.ex
  refine ⟨fun s us ws _ hl => ?_, rel3p⟩
  match us, ws, hl with
  | [u], [v, z], _ => exact .of_eq (h _ _ _ _ _ _ u v z)
theorem kb3r (F : Fun K x qual st f fd) (h : ∀ kV doc pm an cdv ct u v z, bindArgs (fOf x qual st kV doc pm an cdv ct) ⟨[u], [(r, v), (q, z)]⟩ = pure [(p, u), (q, z), (r, v)]) : KBinds K fd [p, q, r] [r, q] kg3r kg3r := by
  obtain ⟨oc, od, kV, doc, pm, an, cdv, ct, osl, rfl, lk, hcd⟩ := F.ex
  refine ⟨fun s us ws _ hl => ?_, rel3r⟩
  match us, ws, hl with
  | [u], [v, z], _ => exact .of_eq (h _ _ _ _ _ _ u v z)
end
end K0
namespace K0
open PySem PySem.Spec PyProof.Rows L2
/-- zip of two texts: new pairs of signs -/
def Itzs (x y : Str) : It :=
  ⟨fun i _ => i < x.cps.size ∧ i < y.cps.size,
    fun i H v H' => ∃ T c d, v = .ref T ∧ H T = none ∧ H' = upd H T (.tup [.str ⟨#[c]⟩, .str ⟨#[d]⟩]) ∧ x.cps[i]? = some c ∧ y.cps[i]? = some d,
    fun i _ => (i = x.cps.size ∨ i = y.cps.size) ∧ i ≤ x.cps.size ∧ i ≤ y.cps.size⟩
abbrev zfp (N : Nat) : List Addr := [N + 4, N + 2, N + 3, N, N + 1]
theorem zs_sep (N : Nat) : ZipSep2 (N + 4) (N + 2) (N + 3) N (N + 1) [N] [N + 1] := zip_sep2 (fp1 := []) (fp2 := []) (fun _ h => nomatch h) (fun _ h => nomatch h)
theorem turn_zs {P : Program} {w : World} {K : PySem.W.Frag} {elts : List Expr} {kk : Nat} {tpos : Pos} (N : Nat) (x y : Str) (t u : Tok) :
    Turn P w K (.Tuple elts kk tpos) (Itzs x y) (zfp N) (N + 4) (fun i h => IsZip h (N + 4) (N + 2) (N + 3) .none ∧ IsTupOf2 h (N + 2) (.ref N) (.ref (N + 1)) ∧ (∃ a b, IsTupOf2 h (N + 3) a b) ∧
      h.IsStrIter N (strIterType x) x t i ∧ h.IsStrIter (N + 1) (strIterType y) y u i) where
  mem := by simp
  obj := fun i h st c hc => by
    obtain ⟨hz, hTI, ⟨a, b, hTO⟩, ⟨o1, e1, _, d1⟩, ⟨o2, e2, _, d2⟩⟩ := st
    have e' : c = N + 4 ∨ c = N + 2 ∨ c = N + 3 ∨ c = N ∨ c = N + 1 := by simpa using hc
    rcases e' with q | q | q | q | q
    · rw [q]; exact ⟨_, hz, fun v q => nomatch q⟩
    · rw [q]; exact ⟨_, hTI, fun v q => nomatch q⟩
    · rw [q]; exact ⟨_, hTO, fun v q => nomatch q⟩
    · rw [q]; exact ⟨o1, e1, fun v q => by rw [d1] at q; cases q⟩
    · rw [q]; exact ⟨o2, e2, fun v q => by rw [d2] at q; cases q⟩
  keep := fun i h h' st k => by
    obtain ⟨hz, hTI, ⟨a, b, hTO⟩, ⟨o1, e1, r1⟩, ⟨o2, e2, r2⟩⟩ := st
    exact ⟨k (N + 4) (by simp) _ hz, k (N + 2) (by simp) _ hTI, ⟨a, b, k (N + 3) (by simp) _ hTO⟩, ⟨o1, k N (by simp) _ e1, r1⟩, ⟨o2, k (N + 1) (by simp) _ e2, r2⟩⟩
  item := by
    intro X hP hw hK hc i pins s σ H E I hf st hg
    subst hP hw hK
    obtain ⟨hz, hTI, ⟨a, b, hTO⟩, h1, h2⟩ := st
    have hh : X.A.in1.handled = none := I.ok.hd hc
    have hzl : N + 4 < s.heap.objs.size := Heap.lt_size hz
    refine wpAny_pyNext_zipD2_item (zs_sep N) (Draws.text hh N x t) (Draws.text hh (N + 1) y u) hz hTI hTO h1 h2 hg.1 hg.2 fun x1 x2 h' tk p1 p2 z' TO' h1' h2' hT hsz hk => ?_
    obtain ⟨c, u1, hx, rfl⟩ := p1
    obtain ⟨d, u2, hy, rfl⟩ := p2
    refine ⟨_, rfl, wpAny_letOwnedTupleGo_zip (s := { s with heap := h', toks := tk }) z' fun h'' z'' sb => ?_⟩
    have hT2 : h''.get? s.heap.objs.size = some { cls := .type "tuple", data := .seq #[.str ⟨#[c]⟩ u1, .str ⟨#[d]⟩ u2] } := (sb.2 _ (Nat.ne_of_gt hzl)).trans hT
    have new : ObjOk X.prog X.w (upd H s.heap.objs.size (.tup [.str ⟨#[c]⟩, .str ⟨#[d]⟩])) h'' s.heap.objs.size (.tup [.str ⟨#[c]⟩, .str ⟨#[d]⟩]) :=
      ⟨by show 2 ≤ sizeLine; decide, [.str ⟨#[c]⟩ u1, .str ⟨#[d]⟩ u2], .cons ⟨u1, rfl⟩ (.cons ⟨u2, rfl⟩ .nil), ⟨_, hT2, rfl, _, rfl⟩⟩
    have I1 := I.turnedNew (t' := tk) (ch := zfp N) (h' := h'') (fun c o hb q => (sb.2 c (fun q' => hb (by simp [q']))).trans
      (hk c o (fun q' => hb (by simp [q'])) (fun q' => hb (by simp [q'])) (fun q' => hb (by simp [q'])) (fun q' => hb (by simp [q'])) q)) hf (Nat.le_refl _) new
    have zne1 : N + 2 ≠ N + 4 := by omega
    have zne2 : N + 3 ≠ N + 4 := by omega
    have zne3 : N ≠ N + 4 := by omega
    have zne4 : N + 1 ≠ N + 4 := by omega
    have zne5 : N + 2 ≠ N + 3 := by omega
    have zne6 : N + 2 ≠ N := by omega
    have zne7 : N + 2 ≠ N + 1 := by omega
    refine ⟨.ref s.heap.objs.size, _, I1, rfl, ⟨_, c, d, rfl, I.hok.fresh (Nat.le_refl _), rfl, hx, hy⟩, ⟨z'', ?_, ⟨_, _, (sb.2 _ zne2).trans TO'⟩, ?_, ?_⟩, fun c' hcm => ?_⟩
    · refine (sb.2 _ zne1).trans (hk _ _ zne1 zne5 zne6 zne7 hTI)
    · obtain ⟨o, e, r⟩ := h1'
      exact ⟨o, (sb.2 _ zne3).trans e, r⟩
    · obtain ⟨o, e, r⟩ := h2'
      exact ⟨o, (sb.2 _ zne4).trans e, r⟩
    · have hlt : c' < s.heap.objs.size := by
        have e' : c' = N + 4 ∨ c' = N + 2 ∨ c' = N + 3 ∨ c' = N ∨ c' = N + 1 := by simpa using hcm
        have hz' : N + 4 < s.heap.objs.size := hzl
        have h5 : ∀ m : Nat, m = N + 4 ∨ m = N + 2 ∨ m = N + 3 ∨ m = N ∨ m = N + 1 → m < s.heap.objs.size := fun m hm => by omega
        exact h5 c' e'
      rw [upd_ne (Nat.ne_of_lt hlt)]
      exact (hf c' hcm).1
  done := by
    intro X hP hw hK hc i pins s σ H E I hf st hg
    subst hP hw hK
    obtain ⟨hz, hTI, ⟨a, b, hTO⟩, h1, h2⟩ := st
    have hh : X.A.in1.handled = none := I.ok.hd hc
    refine wpAny_pyNext_zipD2_end (zs_sep N) (Draws.text hh N x t) (Draws.text hh (N + 1) y u) hz hTI hTO h1 h2 hg.2.1 hg.2.2 hg.1 fun h' tk hk => ⟨rfl, I.turnedL (t' := tk) (ch := zfp N) (fun c o hb q =>
      hk c o (fun q' => hb (by simp [q'])) (fun q' => hb (by simp [q'])) (fun q' => hb (by simp [q'])) (fun q' => hb (by simp [q'])) q) hf⟩
  self := fun A i s Q E st h => wpAny_pyIter_zip st.1 h
def iZipS (ta : TA) : TI := fun σ H R => ta σ H fun vs H1 => ∃ x y : Str, vs = [.str x, .str y] ∧ R (Itzs x y) H1
theorem pi_zipS {X : Cx} {e e2 : Expr} {ta : TA} {p pos tpos : Pos} {elts : List Expr} {kk : Nat} (hg : Gl X "zip") (hm : X.mg "zip" = none) (ha : PA X [e, e2] ta)
    (hs : starEach [e, e2] X.env = (false, eval e X.env) :: starEach [e2] X.env := by rfl) (hpl : (backTo pos (starEach [e2] X.env)).any (·.1) = false := by rfl) :
    PI X (.Tuple elts kk tpos) (.Call (.Name "zip" p) [e, e2] [] pos) (iZipS ta) := by
  refine ⟨fun pins s σ H R I h => ?_⟩
  refine Call_ (ld_blt I hg hm PyProof.Rows.boot_zip (PyProof.Rows.callWith_type1 (thn (ha.run pos pins s σ H _ I h) fun us s1 ⟨vs, H1, I1, r1, q1⟩ => ?_) hs hpl))
  obtain ⟨x, y, ex, q⟩ := q1
  subst ex
  obtain ⟨u1, u2, rfl, r1, r2⟩ := vals2 r1
  obtain ⟨t1, rfl⟩ := (show ∃ t, u1 = Value.str x t from r1)
  obtain ⟨t2, rfl⟩ := (show ∃ t, u2 = Value.str y t from r2)
  refine zip_begins2 (begins_text x t1) (begins_text y t2) trivial trivial fun h' hz hTI hTO g1 g2 hsz hk => wpAny_pyIter_zip hz ?_
  have I2 : Inv X pins σ H1 { s1 with heap := h' } := I1.kept (t' := s1.toks) hk
  refine ⟨s1.heap.objs.size + 4, zfp s1.heap.objs.size, _, _, H1, rfl, I2, turn_zs s1.heap.objs.size x y t1 t2, ⟨hz, hTI, ⟨_, _, hTO⟩, ⟨_, g1, rfl, rfl⟩, ⟨_, g2, rfl, rfl⟩⟩, fun c hcm => ?_, q⟩
  have e' : c = s1.heap.objs.size + 4 ∨ c = s1.heap.objs.size + 2 ∨ c = s1.heap.objs.size + 3 ∨ c = s1.heap.objs.size ∨ c = s1.heap.objs.size + 1 := by simpa using hcm
  have h5 : ∀ m : Nat, m = s1.heap.objs.size + 4 ∨ m = s1.heap.objs.size + 2 ∨ m = s1.heap.objs.size + 3 ∨ m = s1.heap.objs.size ∨ m = s1.heap.objs.size + 1 → s1.heap.objs.size ≤ m := fun m hm => by omega
  exact I1.fpOk (h5 c e') (I1.hok.fresh (h5 c e'))
end K0
namespace K0
open PySem PySem.Spec PyProof.Rows L2
def sameV : V → Bool
  | .ref _ => true
  | v => flatB v
section
variable {X : Cx}
/-- xs != ys, two lists of the same values -/
def rNeSame (K : PySem.W.Frag) : R2 := fun x y H Q => ∃ (a b : Addr) (xs : List V), x = .ref a ∧ y = .ref b ∧ SqL K H a xs ∧ SqL K H b xs ∧ xs.all sameV = true ∧ Q (.bl false) H
theorem eqAt_sameV {A : Around} {s : Shared} {v : V} {u u' : Value} (r : RelV v u) (r' : RelV v u') (f : sameV v = true) : SeqAt.EqAt A s u u' true := by
  cases v with
  | ref a =>
    cases (show u = Value.ref a from r)
    cases (show u' = Value.ref a from r')
    exact SeqAt.EqAt.same _
  | non => exact eqAt_same r r' f
  | bl b => exact eqAt_same r r' f
  | int i => exact eqAt_same r r' f
  | str x => exact eqAt_same r r' f
  | byt b => exact eqAt_same r r' f
  | flt b => exact eqAt_same r r' f
  | ty n => exact eqAt_same r r' f
theorem op_neSame (hu : X.A.units + 1 < cLine) : OpR X (compareOp .NotEq) (rNeSame X.K) := by
  intro pins s σ H x y v u Q I rx ry h
  obtain ⟨a, b, xs, rfl, rfl, ha, hb, hs, q⟩ := h
  cases (show v = Value.ref a from rx)
  cases (show u = Value.ref b from ry)
  obtain ⟨us, r1, p1, _⟩ := I.list ha
  obtain ⟨ws, r2, p2, _⟩ := I.list hb
  have hsz : us.toArray.size = ws.toArray.size := by
    rw [List.size_toArray, List.size_toArray, ← r1.length, ← r2.length]
  have hall := List.all_eq_true.mp hs
  refine SeqAt.RcNeAt.lists (e := fun _ => true) p1.isList p2.isList hsz (by omega) (fun j h1 h2 => ?_) _ _ _ _ ?_
  · have hj : j < xs.length := by
      rw [r1.length]
      simpa using h1
    have e : xs[j]? = some xs[j] := by simp [hj]
    obtain ⟨u1, e1, q1⟩ := r1.get e
    obtain ⟨u2, e2, q2⟩ := r2.get e
    have z1 : us.toArray[j] = u1 := by
      have h1' : j < us.length := by simpa using h1
      rw [List.getElem?_eq_getElem h1'] at e1
      simpa using Option.some.inj e1
    have z2 : ws.toArray[j] = u2 := by
      have h2' : j < ws.length := by simpa using h2
      rw [List.getElem?_eq_getElem h2'] at e2
      simpa using Option.some.inj e2
    rw [z1, z2]
    exact eqAt_sameV q1 q2 (hall _ (List.getElem_mem hj))
  · rw [show ((List.range us.toArray.size).all fun _ => true) = true from List.all_eq_true.mpr fun _ _ => rfl]
    exact ⟨.bl false, H, I, rfl, q⟩

/-- list(text) -/
def sgn (x : Str) : List V := x.cps.toList.map fun c => .str ⟨#[c]⟩
def rListS : List V → Hp → VK → Prop := fun xs H Q => ∃ x : Str, xs = [.str x] ∧ x.length ≤ sizeLine ∧ ∀ l, H l = none → Q (.ref l) (upd H l (.lst (sgn x)))
theorem call_listS (hc : X.calm = true) : CallR X (.type "list") rListS := by
  intro pins s σ H xs us Q I r h
  obtain ⟨x, rfl, hz, q⟩ := h
  obtain ⟨u, rfl, rx⟩ := vals1 r
  obtain ⟨t, rfl⟩ := (show ∃ t, u = Value.str x t from rx)
  refine call_list_str (I.ok.hd hc) x t (hn := hz) fun h' tk acc' c' hk hS hacc => ?_
  have rv : Vals (sgn x) acc'.toList := by
    have key : ∀ (l : List Nat) (us : List Value), us.length = l.length → (∀ (j : Nat) (v : Value), us[j]? = some v → ∃ c u, l[j]? = some c ∧ v = .str ⟨#[c]⟩ u) → Vals (l.map fun c => V.str ⟨#[c]⟩) us := by
      intro l
      induction l with
      | nil =>
        intro us hl _
        cases us with
        | nil => exact .nil
        | cons _ _ => cases hl
      | cons c l ih =>
        intro us hl hu
        cases us with
        | nil => cases hl
        | cons v us =>
          obtain ⟨c', u', e1, e2⟩ := hu 0 v rfl
          have e3 : c = c' := by simpa using e1
          subst e3 e2
          refine .cons ⟨u', rfl⟩ (ih us (by simpa using hl) fun j w hw => ?_)
          simpa using hu (j + 1) w (by simpa using hw)
    refine key _ _ (by simp [hacc.1]) fun j v hv => ?_
    obtain ⟨c, u, e1, e2⟩ := hacc.2 j v (by simpa using hv)
    exact ⟨c, u, by simpa using e1, e2⟩
  refine ⟨.ref s.heap.objs.size, _, I.laid (t' := tk) (o := .lst (sgn x)) hk (Nat.le_refl _) ?_, rfl, q _ (I.hok.fresh (Nat.le_refl _))⟩
  exact ⟨by simpa [sgn, Str.length] using hz, acc'.toList, c', rv, hS⟩

/-- text * k -/
def repS (x : Str) (n : Nat) : Str := ⟨(List.replicate n x.cps).foldl (· ++ ·) #[]⟩
def rMulS : R2 := fun x y H Q => ∃ (z : Str) (k : Int), x = .str z ∧ y = .int k ∧ z.length = 1 ∧ k ≤ 1000 ∧ -1000 ≤ k ∧ Q (.str ⟨Array.replicate k.toNat (z.cps.getD 0 0)⟩) H
theorem foldl_one (c : Nat) : ∀ (n : Nat) (acc : Array Nat), (List.replicate n #[c]).foldl (· ++ ·) acc = acc ++ Array.replicate n c
  | 0, acc => by simp
  | n + 1, acc => by
    rw [List.replicate_succ, List.foldl_cons, foldl_one c n]
    apply Array.ext'
    simp [List.replicate_succ]
theorem op_mulS : OpR X (binaryOp .Mult) rMulS := by
  intro pins s σ H x y v u Q I rx ry h
  obtain ⟨z, k, rfl, rfl, hz, h1, h2, q⟩ := h
  obtain ⟨t, rfl⟩ := (show ∃ t, v = Value.str z t from rx)
  obtain ⟨t', rfl⟩ := (show ∃ t, u = Value.int k t from ry)
  have hzc : z.cps = #[z.cps.getD 0 0] := by
    obtain ⟨a⟩ := z
    obtain ⟨l⟩ := a
    match l, hz with
    | [c], _ => rfl
  refine PySem.P.mul_str ?_ ?_ ?_ ?_
  · have a1 : ¬ k < -(2 ^ 63 : Int) := by omega
    have a2 : ¬ k ≥ 2 ^ 63 := by omega
    rw [decide_eq_false a1, decide_eq_false a2]
    rfl
  · intro a b
    have : (1 : Int) ≤ k := by omega
    have hz' : (z.length : Int) = 1 := by rw [hz]; rfl
    rw [hz']
    have : (2 ^ 63 - 1) / k ≥ (2 ^ 63 - 1) / 1000 := by
      apply Int.le_ediv_of_mul_le (by omega)
      have : (2 ^ 63 - 1 : Int) / 1000 * k ≤ (2 ^ 63 - 1 : Int) / 1000 * 1000 := Int.mul_le_mul_of_nonneg_left h1 (by decide)
      omega
    omega
  · intro a b
    rw [hz, Nat.one_mul]
    have : k.toNat ≤ 1000 := by omega
    refine decide_eq_false ?_
    rw [sizeLine_eq]
    omega
  · split
    · rename_i hk
      have e : k.toNat = 0 := by omega
      rw [e] at q
      refine ⟨by decide, ?_⟩
      exact ⟨.str _, H, I.tok _, ⟨_, rfl⟩, q⟩
    · split
      · rename_i hk hb
        have e : k = 1 := by
          rw [hz] at hb
          simpa using hb
        subst e
        have e2 : (⟨Array.replicate (Int.toNat 1) (z.cps.getD 0 0)⟩ : Str) = z := by
          have e3 : Array.replicate (Int.toNat 1) (z.cps.getD 0 0) = #[z.cps.getD 0 0] := rfl
          rw [e3, ← hzc]
        rw [e2] at q
        exact ⟨.str z, H, I, ⟨_, rfl⟩, q⟩
      · refine ⟨?_, ?_⟩
        · rw [hzc, foldl_one]
          show (#[] ++ Array.replicate k.toNat (z.cps.getD 0 0)).size ≤ sizeLine
          rw [Array.size_append, Array.size_replicate, sizeLine_eq]
          show 0 + k.toNat ≤ 16777216
          omega
        · have e : (⟨(List.replicate k.toNat z.cps).foldl (· ++ ·) #[]⟩ : Str) = ⟨Array.replicate k.toNat (z.cps.getD 0 0)⟩ := by
            rw [hzc, foldl_one]
            simp
          rw [e]
          exact ⟨.str _, H, I.tok _, ⟨_, rfl⟩, q⟩
end
end K0
/-! texts as lists of code points, the letters; small words on heaps -/
namespace K0
open PySem PySem.Spec PyProof.Rows L2
def Tx (l : List Nat) : Str := ⟨l.toArray⟩
theorem tx_list (l : List Nat) : (Tx l).cps.toList = l := by simp [Tx]
theorem tx_len (l : List Nat) : (Tx l).length = l.length := by show l.toArray.size = l.length; simp
theorem tx_of (z : Str) : Tx z.cps.toList = z := by
  obtain ⟨a⟩ := z
  simp [Tx]
theorem tx_inj {l k : List Nat} (h : Tx l = Tx k) : l = k := by
  have := congrArg (fun z : Str => z.cps.toList) h
  simpa [Tx] using this
theorem tx_one (c : Nat) : (⟨#[c]⟩ : Str) = Tx [c] := rfl
theorem tx_app (l k : List Nat) : Tx l ++ Tx k = Tx (l ++ k) := by
  show (⟨l.toArray ++ k.toArray⟩ : Str) = ⟨(l ++ k).toArray⟩
  simp
theorem tx_nil : (Str.empty) = Tx [] := rfl
def isaz (c : Nat) : Bool := decide (97 ≤ c) && decide (c ≤ 122)
def is09 (c : Nat) : Bool := decide (48 ≤ c) && decide (c ≤ 57)
def lw (l : List Nat) : Bool := l.all isaz
/-- signs below 128, by trial -/
def signOk (c : Nat) : Bool :=
  (Unicode.isAlpha c == (isaz c || (decide (65 ≤ c) && decide (c ≤ 90)))) && (Unicode.isLower c == isaz c) && (Unicode.isUpper c == (decide (65 ≤ c) && decide (c ≤ 90))) && (Unicode.isTitle c == false) &&
  (Unicode.isAlnum c == (isaz c || is09 c || (decide (65 ≤ c) && decide (c ≤ 90))))
theorem signs_ok : ∀ c, c < 128 → signOk c = true := by
  have h : (List.range 128).all signOk = true := by decide +kernel
  intro c hc
  exact List.all_eq_true.mp h c (List.mem_range.mpr hc)
theorem sign_facts {c : Nat} (h : c < 128) : Unicode.isAlpha c = (isaz c || (decide (65 ≤ c) && decide (c ≤ 90))) ∧ Unicode.isLower c = isaz c ∧ Unicode.isUpper c = (decide (65 ≤ c) && decide (c ≤ 90)) ∧ Unicode.isTitle c = false ∧
    Unicode.isAlnum c = (isaz c || is09 c || (decide (65 ≤ c) && decide (c ≤ 90))) := by
  have q := signs_ok c h
  unfold signOk at q
  simp only [Bool.and_eq_true, beq_iff_eq] at q
  exact ⟨q.1.1.1.1, q.1.1.1.2, q.1.1.2, q.1.2, q.2⟩
theorem az_lt {c : Nat} (h : isaz c = true) : c < 128 := by
  unfold isaz at h
  simp only [Bool.and_eq_true, decide_eq_true_eq] at h
  omega
theorem all_arr (l : List Nat) (p : Nat → Bool) : (Tx l).cps.all p = l.all p := by simp [Tx]
theorem any_arr (l : List Nat) (p : Nat → Bool) : (Tx l).cps.any p = l.any p := by simp [Tx]
theorem lw_of {l : List Nat} (hl : l ≠ []) : lw l = (Txt.isascii (Tx l) && (Txt.isalpha (Tx l) && Txt.islower (Tx l))) := by
  unfold Txt.isascii Txt.isalpha Txt.islower lw
  rw [all_arr, all_arr, any_arr, any_arr, tx_len]
  have hp : decide (l.length > 0) = true := by
    cases l with
    | nil => exact absurd rfl hl
    | cons a r => simp
  rw [hp, Bool.true_and]
  by_cases h : l.all isaz = true
  · have h1 : ∀ c ∈ l, isaz c = true := List.all_eq_true.mp h
    rw [h]
    symm
    simp only [Bool.and_eq_true, List.all_eq_true, List.any_eq_true, Bool.not_eq_true', decide_eq_true_eq]
    refine ⟨fun c hc => az_lt (h1 c hc), fun c hc => ?_, ?_, ?_⟩
    · rw [(sign_facts (az_lt (h1 c hc))).1, h1 c hc, Bool.true_or]
    · obtain ⟨a, r, e⟩ : ∃ a r, l = a :: r := by
        cases l with
        | nil => exact absurd rfl hl
        | cons a r => exact ⟨a, r, rfl⟩
      have ha : a ∈ l := by rw [e]; exact List.mem_cons_self
      exact ⟨a, ha, by rw [(sign_facts (az_lt (h1 a ha))).2.1]; exact h1 a ha⟩
    · rw [List.any_eq_false]
      intro c hc
      rw [(sign_facts (az_lt (h1 c hc))).2.2.1, (sign_facts (az_lt (h1 c hc))).2.2.2.1]
      have := h1 c hc
      unfold isaz at this
      simp only [Bool.and_eq_true, decide_eq_true_eq] at this
      have e : decide (c ≤ 90) = false := decide_eq_false (by omega)
      rw [e]
      simp
  · have h0 : l.all isaz = false := by simpa using h
    rw [h0]
    symm
    rw [Bool.eq_false_iff]
    intro q
    apply h
    simp only [Bool.and_eq_true, List.all_eq_true, Bool.not_eq_true', decide_eq_true_eq] at q
    obtain ⟨q1, q2, q3, q4⟩ := q
    rw [List.any_eq_false] at q4
    refine List.all_eq_true.mpr fun c hc => ?_
    have k := sign_facts (q1 c hc)
    have a1 := q2 c hc
    have a2 := q4 c hc
    rw [k.1] at a1
    rw [k.2.2.1, k.2.2.2.1] at a2
    cases hz : isaz c with
    | true => rfl
    | false =>
      rw [hz, Bool.false_or] at a1
      rw [a1] at a2
      simp at a2
/-! adjacent signs rise -/
def ris : List Nat → Bool
  | [] => true
  | [_] => true
  | a :: b :: r => decide (a < b) && ris (b :: r)
theorem ris_at : ∀ l : List Nat, ris l = ((List.range (l.length - 1)).map fun i => decide (l.getD i 0 < l.getD (i + 1) 0)).all id
  | [] => rfl
  | [_] => rfl
  | a :: b :: r => by
    have ih := ris_at (b :: r)
    unfold ris
    rw [ih]
    have e : (a :: b :: r).length - 1 = ((b :: r).length - 1) + 1 := by simp
    rw [e, List.range_succ_eq_map]
    simp [List.all_map, Function.comp_def]
/-! heaps -/
theorem Sm.new {H : Hp} {p : Addr} {o : HO} (h : H p = none) : Same H (upd H p o) := fun a u e => by
  rw [upd_ne (ne_of_none e h)]
  exact e
theorem Sm.put {H1 H : Hp} {p : Addr} {o : HO} (s : Same H1 H) (h : H1 p = none) : Same H1 (upd H p o) := fun a u e => by
  rw [upd_ne (ne_of_none e h)]
  exact s a u e
theorem tyx_same {K : PySem.W.Frag} {H H' : Hp} {v : V} {t : Value} (s : Same H H') (h : TyX K H v t) : TyX K H' v t := by
  cases h with
  | base b =>
    refine .base ?_
    cases b with
    | non => exact .non
    | bl x => exact .bl x
    | int i => exact .int i
    | str x => exact .str x
    | flt x => exact .flt x
    | lst e => exact .lst (s _ _ e)
    | frz e => exact .frz (s _ _ e)
    | tup e => exact .tup (s _ _ e)
    | dK e => exact .dK (s _ _ e)
    | dT e => exact .dT (s _ _ e)
    | ins e a b c d f => exact .ins (s _ _ e) a b c d f
  | byt b => exact .byt b
  | set e => exact .set (s _ _ e)
  | kList e c => exact .kList e c
  | kTuple e c => exact .kTuple e c
  | kDict e c => exact .kDict e c
  | fTuple e => exact .fTuple (s _ _ e)
  | fDict e => exact .fDict (s _ _ e)
/-- a list that grows at D, all else of H1 as it was -/
def SPv (H1 : Hp) (D : Addr) (acc : Nat → List V) (i : Nat) (H : Hp) : Prop := Same H1 H ∧ H D = some (.lst (acc i))
theorem spv0 {H1 : Hp} {D : Addr} {acc : Nat → List V} (hD : H1 D = none) (h : acc 0 = []) : SPv H1 D acc 0 (upd H1 D (.lst [])) := ⟨Sm.new hD, by rw [upd_same, h]⟩
theorem spv_put {H1 H : Hp} {D : Addr} {acc : Nat → List V} {i : Nat} {y : V} (hD : H1 D = none) (p : Same H1 H) (q : H D = some (.lst (acc i))) (hl : (acc i).length < 100000) (e : acc (i + 1) = acc i ++ [y]) :
    ∃ a, H D = some (.lst a) ∧ a.length < sizeLine ∧ SPv H1 D acc (i + 1) (upd H D (.lst (a ++ [y]))) :=
  ⟨_, q, Nat.lt_of_lt_of_le hl (by decide), Sm.put p hD, by rw [upd_same, e]⟩
theorem map_range_succ {α : Type} (f : Nat → α) (i : Nat) : (List.range (i + 1)).map f = (List.range i).map f ++ [f i] := by
  rw [List.range_succ, List.map_append]
  rfl
theorem walk_zs {x y : Str} {n : Nat} (hn : n = min x.cps.size y.cps.size) : Walk (Itzs x y) n (fun _ => True)
    (fun i H v H' => ∃ T c d, v = .ref T ∧ H T = none ∧ H' = upd H T (.tup [.str ⟨#[c]⟩, .str ⟨#[d]⟩]) ∧ x.cps[i]? = some c ∧ y.cps[i]? = some d) := by
  subst hn
  refine ⟨fun i _ hi _ => ⟨by omega, by omega⟩, fun _ _ => ⟨?_, by omega, by omega⟩, fun _ _ _ _ _ _ y => y⟩
  omega
end K0
/-! words of a stock, their numbers: the mathematics, over lists of code points -/
namespace K4
/-- the place of c in a stock -/
def ix : List Nat → Nat → Nat
  | [], _ => 0
  | a :: r, c => if a = c then 0 else ix r c + 1
theorem ix_lt : ∀ {S : List Nat} {c : Nat}, c ∈ S → ix S c < S.length
  | a :: r, c, h => by
    unfold ix
    by_cases e : a = c
    · rw [if_pos e]; simp
    · rw [if_neg e]
      have : c ∈ r := by
        rcases List.mem_cons.mp h with z | z
        · exact absurd z.symm e
        · exact z
      have := ix_lt this
      simp; omega
theorem ix_get : ∀ {S : List Nat} {c : Nat}, c ∈ S → S[ix S c]? = some c
  | a :: r, c, h => by
    unfold ix
    by_cases e : a = c
    · rw [if_pos e, e]; rfl
    · rw [if_neg e]
      have : c ∈ r := by
        rcases List.mem_cons.mp h with z | z
        · exact absurd z.symm e
        · exact z
      have := ix_get this
      simpa using this
theorem ix_at : ∀ {S : List Nat} {i c : Nat}, S.Nodup → S[i]? = some c → ix S c = i
  | [], i, c, _, h => by simp at h
  | a :: r, 0, c, _, h => by
    have : a = c := by simpa using h
    unfold ix
    rw [if_pos this]
  | a :: r, i + 1, c, hn, h => by
    obtain ⟨h1, h2⟩ := List.nodup_cons.mp hn
    have hc : r[i]? = some c := by simpa using h
    have hm : c ∈ r := List.mem_of_getElem? hc
    unfold ix
    rw [if_neg (fun e : a = c => h1 (by rw [e]; exact hm)), ix_at h2 hc]
theorem ix_map : ∀ {S : List Nat}, S.Nodup → S.map (ix S) = List.range S.length := by
  intro S hn
  apply List.ext_getElem?
  intro i
  rw [List.getElem?_map]
  by_cases h : i < S.length
  · rw [List.getElem?_eq_getElem h, List.getElem?_range h]
    show some (ix S S[i]) = some i
    rw [ix_at hn (List.getElem?_eq_getElem h)]
  · rw [List.getElem?_eq_none (by omega), List.getElem?_eq_none (by simp; omega)]
    rfl
/-- how many are below c: its place, where the stock rises -/
theorem ix_below : ∀ {S : List Nat} {c : Nat}, S.Pairwise (· < ·) → c ∈ S → (S.filter fun d => decide (d < c)).length = ix S c
  | a :: r, c, hp, h => by
    obtain ⟨h1, h2⟩ := List.pairwise_cons.mp hp
    unfold ix
    by_cases e : a = c
    · subst e
      rw [if_pos rfl]
      have : (a :: r).filter (fun d => decide (d < a)) = [] := by
        rw [List.filter_eq_nil_iff]
        intro d hd
        rcases List.mem_cons.mp hd with z | z
        · simp [z]
        · have := h1 d z
          simp; omega
      rw [this]; rfl
    · rw [if_neg e]
      have hm : c ∈ r := by
        rcases List.mem_cons.mp h with z | z
        · exact absurd z.symm e
        · exact z
      have hl := h1 c hm
      rw [List.filter_cons_of_pos (by simpa using hl), List.length_cons, ix_below h2 hm]
/-- a word's number -/
def num (S : List Nat) (w : List Nat) : Nat := w.foldl (fun n c => n * S.length + ix S c + 1) 0
theorem num_nil (S : List Nat) : num S [] = 0 := rfl
theorem num_snoc (S w : List Nat) (c : Nat) : num S (w ++ [c]) = num S w * S.length + ix S c + 1 := by
  unfold num
  rw [List.foldl_append]
  rfl
/-- the word of a number -/
def wordOf (S : List Nat) (n : Nat) : List Nat :=
  if h : n = 0 ∨ S.length = 0 then [] else wordOf S ((n - 1) / S.length) ++ [S.getD ((n - 1) % S.length) 0]
termination_by n
decreasing_by
  have : (n - 1) / S.length ≤ n - 1 := Nat.div_le_self _ _
  omega
theorem wordOf_zero (S : List Nat) : wordOf S 0 = [] := by
  unfold wordOf
  simp
theorem wordOf_step {S : List Nat} {n : Nat} (hn : n ≠ 0) (hS : S.length ≠ 0) : wordOf S n = wordOf S ((n - 1) / S.length) ++ [S.getD ((n - 1) % S.length) 0] := by
  rw [wordOf]
  rw [dif_neg (by omega)]
theorem rev_ind {p : List Nat → Prop} (h0 : p []) (hs : ∀ l c, p l → p (l ++ [c])) : ∀ l, p l := by
  intro l
  have key : ∀ r : List Nat, p r.reverse := by
    intro r
    induction r with
    | nil => exact h0
    | cons c r ih =>
      rw [List.reverse_cons]
      exact hs _ _ ih
  have := key l.reverse
  rwa [List.reverse_reverse] at this
theorem wordOf_num {S : List Nat} : ∀ w : List Nat, (∀ c ∈ w, c ∈ S) → wordOf S (num S w) = w := by
  intro w
  refine rev_ind (p := fun w => (∀ c ∈ w, c ∈ S) → wordOf S (num S w) = w) ?_ ?_ w
  · intro _
    rw [num_nil, wordOf_zero]
  · intro w c ih h
    have hc : c ∈ S := h c (by simp)
    have hl := ix_lt hc
    have e1 : (num S w * S.length + ix S c + 1 - 1) / S.length = num S w := by
      rw [Nat.add_sub_cancel, Nat.add_comm, Nat.add_mul_div_right _ _ (by omega), Nat.div_eq_of_lt hl, Nat.zero_add]
    have e2 : (num S w * S.length + ix S c + 1 - 1) % S.length = ix S c := by
      rw [Nat.add_sub_cancel, Nat.add_comm, Nat.add_mul_mod_self_right, Nat.mod_eq_of_lt hl]
    rw [num_snoc, wordOf_step (by omega) (by omega), e1, e2, ih fun d hd => h d (by simp [hd]), List.getD_eq_getElem?_getD, ix_get hc]
    rfl
/-- how many words are shorter -/
def bel (k : Nat) : Nat → Nat
  | 0 => 0
  | i + 1 => bel k i * k + 1
theorem bel_geo (k : Nat) : ∀ i, bel k i * k + 1 = bel k i + k ^ i
  | 0 => by simp [bel]
  | i + 1 => by
    show (bel k i * k + 1) * k + 1 = bel k i * k + 1 + k ^ (i + 1)
    rw [bel_geo k i, Nat.add_mul, Nat.pow_succ]
    have := bel_geo k i
    omega
theorem bel_succ (k i : Nat) : bel k (i + 1) = bel k i + k ^ i := bel_geo k i
theorem num_bound {S : List Nat} : ∀ w : List Nat, (∀ c ∈ w, c ∈ S) → num S w + 1 ≤ bel S.length (w.length + 1) := by
  intro w
  refine rev_ind (p := fun w => (∀ c ∈ w, c ∈ S) → num S w + 1 ≤ bel S.length (w.length + 1)) ?_ ?_ w
  · intro _
    simp [num_nil, bel]
  · intro w c ih h
    have hl := ix_lt (h c (by simp))
    have := ih fun d hd => h d (by simp [hd])
    rw [num_snoc, List.length_append]
    show num S w * S.length + ix S c + 1 + 1 ≤ bel S.length (w.length + 1) * S.length + 1
    have h2 : (num S w + 1) * S.length ≤ bel S.length (w.length + 1) * S.length := Nat.mul_le_mul_right _ this
    rw [Nat.add_mul] at h2
    omega
theorem bel_mono (k : Nat) {i j : Nat} (h : i ≤ j) : bel k i ≤ bel k j := by
  induction h with
  | refl => exact Nat.le_refl _
  | step _ ih =>
    rw [bel_succ]
    omega
/-- the last word -/
theorem num_last {S : List Nat} {z : Nat} (hz : ix S z + 1 = S.length) : ∀ n, num S (List.replicate n z) + 1 = bel S.length (n + 1)
  | 0 => by simp [num_nil, bel]
  | n + 1 => by
    rw [List.replicate_succ', num_snoc]
    show num S (List.replicate n z) * S.length + ix S z + 1 + 1 = bel S.length (n + 1) * S.length + 1
    have := num_last hz n
    rw [← this, Nat.add_mul]
    omega
theorem num_le_last {S w : List Nat} {z n : Nat} (hw : ∀ c ∈ w, c ∈ S) (hz : ix S z + 1 = S.length) (hl : w.length ≤ n) : num S w ≤ num S (List.replicate n z) := by
  have h1 := num_bound w hw
  have h2 := num_last hz n
  have h3 := bel_mono S.length (show w.length + 1 ≤ n + 1 by omega)
  omega
theorem num_lt_shorter {S w u : List Nat} (hw : ∀ c ∈ w, c ∈ S) (hu : ∀ c ∈ u, c ∈ S) (h : num S w = num S u) : w = u := by
  rw [← wordOf_num w hw, h, wordOf_num u hu]
/-! ### all words -/
def lev (S : List Nat) : Nat → List (List Nat)
  | 0 => [[]]
  | i + 1 => (lev S i).flatMap fun w => S.map fun c => w ++ [c]
theorem lev_mem {S : List Nat} : ∀ {i : Nat} {w : List Nat}, w ∈ lev S i → w.length = i ∧ ∀ c ∈ w, c ∈ S
  | 0, w, h => by
    have : w = [] := by simpa [lev] using h
    subst this
    simp
  | i + 1, w, h => by
    obtain ⟨u, hu, h⟩ := List.mem_flatMap.mp h
    obtain ⟨c, hc, rfl⟩ := List.mem_map.mp h
    obtain ⟨h1, h2⟩ := lev_mem hu
    refine ⟨by simp [h1], fun d hd => ?_⟩
    rcases List.mem_append.mp hd with z | z
    · exact h2 d z
    · rw [List.mem_singleton.mp z]; exact hc
theorem lev_front (S : List Nat) : ∀ i, lev S (i + 1) = S.flatMap fun s => (lev S i).map fun w => s :: w
  | 0 => by
    show ([[]] : List (List Nat)).flatMap (fun w => S.map fun c => w ++ [c]) = S.flatMap fun s => [[s]]
    rw [List.flatMap_singleton]
    induction S with
    | nil => rfl
    | cons a r ih =>
      rw [List.map_cons, List.flatMap_cons, ih]
      rfl
  | i + 1 => by
    show (lev S (i + 1)).flatMap (fun w => S.map fun c => w ++ [c]) = _
    conv => lhs; rw [lev_front S i, List.flatMap_assoc]
    congr 1
    funext s
    rw [List.flatMap_map]
    show (lev S i).flatMap (fun w => S.map fun c => s :: w ++ [c]) = ((lev S i).flatMap fun w => S.map fun c => w ++ [c]).map fun w => s :: w
    rw [List.map_flatMap]
    congr 1
    funext w
    rw [List.map_map]
    rfl
theorem lev_length (S : List Nat) : ∀ i, (lev S i).length = S.length ^ i
  | 0 => rfl
  | i + 1 => by
    have : ∀ L : List (List Nat), (L.flatMap fun w => S.map fun c => w ++ [c]).length = L.length * S.length := by
      intro L
      induction L with
      | nil => simp
      | cons a r ih =>
        rw [List.flatMap_cons, List.length_append, ih, List.length_map, List.length_cons, Nat.succ_mul]
        omega
    show ((lev S i).flatMap fun w => S.map fun c => w ++ [c]).length = _
    rw [this, lev_length S i, Nat.pow_succ]
theorem lt_cons {a b : Nat} {u v : List Nat} (h : a < b) : (a :: u) < (b :: v) := List.cons_lt_cons_iff.mpr (.inl h)
theorem lt_tail {a : Nat} {u v : List Nat} (h : u < v) : (a :: u) < (a :: v) := List.cons_lt_cons_iff.mpr (.inr ⟨rfl, h⟩)
theorem lev_sorted {S : List Nat} (hS : S.Pairwise (· < ·)) : ∀ i, (lev S i).Pairwise (· < ·)
  | 0 => by simp [lev]
  | i + 1 => by
    rw [lev_front, List.pairwise_flatMap]
    refine ⟨fun s _ => ?_, hS.imp fun {s t} h x hx y hy => ?_⟩
    · rw [List.pairwise_map]
      exact (lev_sorted hS i).imp fun h => lt_tail h
    · obtain ⟨u, _, rfl⟩ := List.mem_map.mp hx
      obtain ⟨v, _, rfl⟩ := List.mem_map.mp hy
      exact lt_cons h
theorem range_blocks (k : Nat) : ∀ (n b : Nat), (List.range' b n).flatMap (fun x => List.range' (x * k + 1) k) = List.range' (b * k + 1) (n * k)
  | 0, b => by simp
  | n + 1, b => by
    rw [List.range'_succ, List.flatMap_cons, range_blocks k n (b + 1)]
    have e : (b + 1) * k + 1 = b * k + 1 + 1 * k := by rw [Nat.add_mul]; omega
    rw [e, List.range'_append, Nat.add_mul]
    congr 1
    omega
theorem lev_num {S : List Nat} (hn : S.Nodup) : ∀ i, (lev S i).map (num S) = List.range' (bel S.length i) (S.length ^ i)
  | 0 => by simp [lev, bel, num_nil]
  | i + 1 => by
    show ((lev S i).flatMap fun w => S.map fun c => w ++ [c]).map (num S) = _
    have e : ∀ w, (S.map fun c => w ++ [c]).map (num S) = List.range' (num S w * S.length + 1) S.length := by
      intro w
      rw [List.map_map]
      have : (num S ∘ fun c => w ++ [c]) = (fun i => (num S w * S.length + 1) + i) ∘ ix S := by
        funext c
        show num S (w ++ [c]) = _
        rw [num_snoc]
        show _ = num S w * S.length + 1 + ix S c
        omega
      rw [this, ← List.map_map, ix_map hn, List.range_eq_range', List.map_add_range']
    rw [List.map_flatMap]
    have e2 : ((lev S i).flatMap fun w => (S.map fun c => w ++ [c]).map (num S)) = ((lev S i).map (num S)).flatMap fun x => List.range' (x * S.length + 1) S.length := by
      rw [List.flatMap_map]
      congr 1
      funext w
      exact e w
    rw [e2, lev_num hn i, range_blocks, Nat.pow_succ]
    rfl
def upto (S : List Nat) : Nat → List (List Nat)
  | 0 => [[]]
  | m + 1 => upto S m ++ lev S (m + 1)
theorem upto_mem {S : List Nat} : ∀ {m : Nat} {w : List Nat}, w ∈ upto S m → w.length ≤ m ∧ ∀ c ∈ w, c ∈ S
  | 0, w, h => by
    have : w = [] := by simpa [upto] using h
    subst this
    simp
  | m + 1, w, h => by
    rcases List.mem_append.mp h with z | z
    · obtain ⟨h1, h2⟩ := upto_mem z
      exact ⟨by omega, h2⟩
    · obtain ⟨h1, h2⟩ := lev_mem z
      exact ⟨by omega, h2⟩
theorem upto_num {S : List Nat} (hn : S.Nodup) : ∀ m, (upto S m).map (num S) = List.range (bel S.length (m + 1))
  | 0 => by simp [upto, bel, num_nil, List.range_succ]
  | m + 1 => by
    show (upto S m ++ lev S (m + 1)).map (num S) = _
    rw [List.map_append, upto_num hn m, lev_num hn (m + 1), bel_succ S.length (m + 1), List.range_eq_range', List.range_eq_range']
    have := List.range'_append (s := 0) (m := bel S.length (m + 1)) (n := S.length ^ (m + 1)) (step := 1)
    rw [Nat.zero_add, Nat.one_mul] at this
    exact this
theorem upto_length {S : List Nat} (hn : S.Nodup) (m : Nat) : (upto S m).length = bel S.length (m + 1) := by
  have := congrArg List.length (upto_num hn m)
  simpa using this
theorem upto_at {S : List Nat} (hn : S.Nodup) {m i : Nat} {w : List Nat} (h : (upto S m)[i]? = some w) : num S w = i ∧ wordOf S i = w := by
  have hi : i < (upto S m).length := (List.getElem?_eq_some_iff.mp h).1
  have e := congrArg (fun l => l[i]?) (upto_num hn m)
  simp only [List.getElem?_map, h, Option.map_some] at e
  rw [List.getElem?_range (by rw [← upto_length hn]; exact hi)] at e
  have e' : num S w = i := Option.some.inj e
  refine ⟨e', ?_⟩
  rw [← e']
  exact wordOf_num w (upto_mem (List.mem_of_getElem? h)).2
/-! ### own sums: how many stand ahead -/
def ahd (S : List Nat) : List Nat → Nat × Nat × Nat
  | w => w.foldl (fun (a : Nat × Nat × Nat) c => (a.1 + a.2.2, a.2.1 * S.length + (S.filter fun d => decide (d < c)).length, a.2.2 * S.length)) (0, 0, 1)
theorem ahd_num {S : List Nat} (hS : S.Pairwise (· < ·)) : ∀ w : List Nat, (∀ c ∈ w, c ∈ S) → (ahd S w).1 + (ahd S w).2.1 = num S w ∧ (ahd S w).1 * S.length + 1 = (ahd S w).1 + (ahd S w).2.2 := by
  intro w
  refine rev_ind (p := fun w => (∀ c ∈ w, c ∈ S) → (ahd S w).1 + (ahd S w).2.1 = num S w ∧ (ahd S w).1 * S.length + 1 = (ahd S w).1 + (ahd S w).2.2) ?_ ?_ w
  · intro _
    simp [ahd, num_nil]
  · intro w c ih h
    obtain ⟨h1, h2⟩ := ih fun d hd => h d (by simp [hd])
    have hc : c ∈ S := h c (by simp)
    have e : ahd S (w ++ [c]) = ((ahd S w).1 + (ahd S w).2.2, (ahd S w).2.1 * S.length + (S.filter fun d => decide (d < c)).length, (ahd S w).2.2 * S.length) := by
      unfold ahd
      rw [List.foldl_append]
      rfl
    rw [e, num_snoc, ix_below hS hc, ← h1]
    dsimp only
    rw [← h2]
    refine ⟨?_, ?_⟩
    · rw [Nat.add_mul]; omega
    · rw [h2, Nat.add_mul]
      have := congrArg (· * S.length) h2
      omega
/-! ### the next word -/
/-- u, then a sound s that is not the last, then m last ones: the next word has the next sound, then m first ones -/
theorem next_num {S : List Nat} {a z : Nat} (ha : ix S a = 0) (hz : ix S z + 1 = S.length) {x y : List Nat} (h : num S x + 1 = num S y) : ∀ m, num S (x ++ List.replicate m z) + 1 = num S (y ++ List.replicate m a)
  | 0 => by simpa using h
  | m + 1 => by
    rw [List.replicate_succ', List.replicate_succ', ← List.append_assoc, ← List.append_assoc, num_snoc, num_snoc, ← next_num ha hz h m, Nat.add_mul, ha]
    omega
theorem next_mid {S : List Nat} {s t : Nat} (hst : ix S t = ix S s + 1) (u : List Nat) : num S (u ++ [s]) + 1 = num S (u ++ [t]) := by
  rw [num_snoc, num_snoc, hst]
  omega
theorem next_long {S : List Nat} {a z : Nat} (ha : ix S a = 0) (hz : ix S z + 1 = S.length) (n : Nat) : num S (List.replicate n z) + 1 = num S (List.replicate n a ++ [a]) := by
  have := next_num (x := []) (y := [a]) ha hz (by
    show num S [] + 1 = num S ([] ++ [a])
    rw [num_snoc, num_nil, ha]
    omega) n
  rw [List.nil_append] at this
  rw [this]
  congr 1
  rw [← List.replicate_succ', List.replicate_succ]
  rfl
end K4
/-! several except clauses, each with a name -/
namespace K4
open PySem PySem.Spec PyProof.Rows L2
abbrev Cla : Type := Value × Nat × (Addr → Value → Option Addr → TS)
/-- behind a named clause its name is gone -/
def bhd (i : Nat) (D : Ends) : Ends := { nx := fun σ' H' => D.nx (σ'.set i none) H', rt := D.rt, bk := fun σ' H' => D.bk (σ'.set i none) H', ct := fun σ' H' => D.ct (σ'.set i none) H' }
def wNamed (K : PySem.W.Frag) (D : Ends) : List Cla → WX
  | [] => fun _ _ _ _ => False
  | q :: r => fun cls d σ H => ∃ b, PySem.W.exmOne K cls q.1 = some b ∧ (b = true → ∀ a, H a = none → q.2.2 a cls d (bhd q.2.1 D) (σ.set q.2.1 (some (.ref a))) H) ∧ (b = false → wNamed K D r cls d σ H)
inductive Clauses (X : Cx) : List ExceptHandler → List Cla → Prop
  | nil : Clauses X [] []
  | cons {x n : Str} {c : Value} {i : Nat} {ts : Addr → Value → Option Addr → TS} {b₀ : Stmt} {suite : List Stmt} {np p : Pos} {hds : List ExceptHandler} {l : List Cla} (hi : X.N[i]? = some n) (hln : X.env.kindOf n = some .local) (hc : Names X x c)
      (hsu : ∀ (a : Addr) (oe : Obj) (cls : Value) (d : Option Addr) (pn : List (Addr × Obj)), Zc cls d oe → (∃ vs, oe.data = .fields vs) → PSs (X.suite a ((a, oe) :: pn)) (b₀ :: suite) (ts a cls d)) (r : Clauses X hds l) :
      Clauses X (.ExceptHandler (some (.Name x np)) (some n) (b₀ :: suite) p :: hds) ((c, i, ts) :: l)
section
variable {X : Cx} {body : List Stmt} {h₀ : ExceptHandler} {hds : List ExceptHandler} {l : List Cla} {pos : Pos} {tb : WX → TS}
/-- an error lands: one of the clauses takes it -/
theorem clauses_run {pins : List (Addr × Obj)} {D : Ends} (hs : X.stack = X.env :: X.outer) (hf : X.env.frame = some X.env.locals) (hN : X.N.Nodup) {B : Heap} {a : Addr} {cls : Value} {d : Option Addr} {σ' : L2.St} {H' : Hp} {s' : Shared} {h3 : Heap} {oe : Obj} {vs : Array Value} (ok : X.Ok)
    (J : ∀ h4 : Heap, HandSPX.FlyingZ B (X.env :: X.outer) a (Zc cls d) h4 → h3.UpToSlots h4 → Inv X pins σ' H' { s' with heap := h4 }) (fl3 : HandSPX.FlyingZ B (X.env :: X.outer) a (Zc cls d) h3) (he3 : h3.get? a = some oe) (hz3 : Zc cls d oe) (hd3 : oe.data = .fields vs)
    (na : H' a = none) (nL : a ≠ X.env.locals) (nF : a ∉ X.fs) :
    ∀ {hs : List ExceptHandler} {l : List Cla}, Clauses X hs l → wNamed X.K D l cls d σ' H' → wpAny (model X.prog X.w) X.A (handleBy (.ref a) X.env hs) (SP X pins D) X.xe { s' with heap := h3 } := by
  have J3 := J h3 fl3 (Heap.UpToSlots.refl _)
  have S3 := J3.suite he3 hd3 na nL nF
  intro hs l hk
  induction hk with
  | nil => exact fun w => w.elim
  | @cons x n c i ts b₀ suite np p hds2 l2 hi hln hc hsu r ih =>
    rintro ⟨b, hb1, yes, no⟩
    refine wpAny_handleBy_cons (codeAny_handlers_test ?_) (by intro q; cases q)
    have isIt := PySem.W.exm_one (M := model X.prog X.w) J3.kIn (fun A Q E s k q => wpAny_typeOf_ref (k _ _ he3) (by rw [hz3.1]; exact q)) hb1
    have named : ∀ {Q : Value → Shared → Prop} {E : Value → Shared → Prop}, Q c { s' with heap := h3 } → wpAny (model X.prog X.w) (X.A.mark (some (.ref a))) (eval (.Name x np) X.env) Q E { s' with heap := h3 } := fun {Q E} q => by
      obtain ⟨hg, hdbg, hm | ⟨hm, hv, hnn⟩⟩ := hc
      · exact ld_glob (X := X.suite a ((a, oe) :: (X.pn ++ pins))) S3 hg hm q hdbg
      · exact ld_blt (X := X.suite a ((a, oe) :: (X.pn ++ pins))) S3 hg hm hv q hnn hdbg
    refine named (isIt.here ?_)
    cases b with
    | false => exact ih (no rfl)
    | true =>
      refine codeAny_handlers_suite_as (HandSPX.lands_againZ fl3 fun h4 fl4 up4 => ?_)
      have J4 := J h4 fl4 up4
      obtain ⟨oe4, vs4, he4, hz4, hd4⟩ := fl4.there
      refine store_ok (X := X.suite a ((a, oe4) :: (X.pn ++ pins))) (v := .ref a) (J4.suite he4 hd4 na nL nF) hN hi (.inl hln) rfl (fun s5 S5 => ?_) (.inr hln)
      refine wpAny_mono ((hsu a oe4 cls d (X.pn ++ pins) hz4 ⟨_, hd4⟩).run [] s5 _ H' _ S5 (yes rfl a na)) (fun f s6 hsp => ?_) (fun _ _ z => False.elim z)
      cases f with
      | next =>
        obtain ⟨σ6, H6, S6, q6⟩ := hsp
        exact gone_ok (S6.unsuite ok) hN hi hln fun s7 J7 => ⟨_, _, J7, q6⟩
      | brk =>
        obtain ⟨σ6, H6, S6, q6⟩ := hsp
        exact gone_ok (S6.unsuite ok) hN hi hln fun s7 J7 => ⟨_, _, J7, q6⟩
      | cont =>
        obtain ⟨σ6, H6, S6, q6⟩ := hsp
        exact gone_ok (S6.unsuite ok) hN hi hln fun s7 J7 => ⟨_, _, J7, q6⟩
      | ret u =>
        obtain ⟨v6, σ6, H6, S6, r6, q6⟩ := hsp
        exact gone_ok (S6.unsuite ok) hN hi hln fun s7 J7 => ⟨_, _, _, J7, r6, q6⟩
theorem ps_try_named (hs : X.stack = X.env :: X.outer) (hf : X.env.frame = some X.env.locals) (hN : X.N.Nodup)
    (hb : ∀ (W : WX) (pn : List (Addr × Obj)) (xe : Value → Shared → Prop), Takes (X.tr pn xe) W → PassesOwn (model X.prog X.w) X.A X.env xe → PSs (X.tr pn xe) body (tb W))
    (hh : Clauses X (h₀ :: hds) l) : PS X (.Try body (h₀ :: hds) [] [] pos) (fun D σ H => tb (wNamed X.K D l) D σ H) := by
  refine ⟨fun pins s σ H D I h => ?_⟩
  have ok := I.ok
  have hfr : X.A.frames = some (X.env :: X.outer) := by rw [ok.frames, hs]
  refine wpAny_Try_except ?_
  refine wpAny_mono ((hb (wNamed X.K D l) (X.pn ++ pins) (fun e s₁ => wpAny (model X.prog X.w) X.A (noteFrame e X.env) (fun _ s₂ => wpAny (model X.prog X.w) X.A (setFlight e none) (fun _ s₃ =>
    wpAny (model X.prog X.w) X.A (handleBy e X.env (h₀ :: hds)) (SP X pins D) X.xe s₃) X.xe s₂) X.xe s₁) (fun u s' xx => ?_) PassesOwn.looking).run [] s σ H D (I.toTry _) h) (fun f s1 hsp => ?_) (fun e s1 he => he)
  · obtain ⟨a, B, sI, pins', σ', H', cls, d, rfl, J', nb, up, sky, na, os, ag, w⟩ := xx
    have J : Inv X pins σ' H' sI := J'.ofTry ok
    show wpAny (model X.prog X.w) X.A (noteFrame (.ref a) X.env) _ _ _
    refine Sky.land Zc.steady hfr hf (by rw [← hs]; exact sky) fun h3 fl3 up3 => ?_
    obtain ⟨oe3, vs3, he3, hz3, hd3⟩ := fl3.there
    have nfr : a ∉ frs (X.env :: X.outer) := fun hm => by
      obtain ⟨_, o', e', hnf⟩ := fl3.2.2.1.mem hm
      rw [he3] at e'
      cases e'
      exact hnf _ hd3
    have nL : a ≠ X.env.locals := fun z => nfr (List.mem_filterMap.mpr ⟨X.env, List.mem_cons_self, by rw [hf, z]⟩)
    have nF : a ∉ X.fs := fun hm => by
      obtain ⟨e, he, q⟩ := List.mem_filterMap.mp hm
      exact nfr (List.mem_filterMap.mpr ⟨e, List.mem_cons_of_mem _ he, q⟩)
    exact clauses_run hs hf hN ok (fun h4 fl4 up4 => J.landed nb fl4.1 ((up.trans up3).trans up4) os ag) fl3 he3 hz3 hd3 na nL nF hh w
  · cases f with
    | next =>
      obtain ⟨σ', H', J', q⟩ := hsp
      exact wpAny_execs_nil ⟨σ', H', J'.ofTry ok, q⟩
    | brk =>
      obtain ⟨σ', H', J', q⟩ := hsp
      exact ⟨σ', H', J'.ofTry ok, q⟩
    | cont =>
      obtain ⟨σ', H', J', q⟩ := hsp
      exact ⟨σ', H', J'.ofTry ok, q⟩
    | ret u =>
      obtain ⟨v, σ', H', J', r, q⟩ := hsp
      exact ⟨v, σ', H', J'.ofTry ok, r, q⟩
end
end K4
/-! own errors raised, what is told of them; a def that hears a lambda -/
namespace K4
open PySem PySem.Spec PyProof.Rows L2 K0
def spInit1 (K : PySem.W.Frag) (f : Str) : Sp := fun vs H Q _ => ∃ (a C : Addr) (v : V), vs = [.ref a, v] ∧ OexC K C ∧ PySem.W.findIn K (.ref C) f = some none ∧ H a = some (exo a C none) ∧
  ∀ dx, H dx = none → dx ≠ a → Q .non (upd (upd H dx (exd dx [(f, v)])) a (exo a C (some dx)))
def spInit2 (K : PySem.W.Frag) (f g : Str) : Sp := fun vs H Q _ => ∃ (a C : Addr) (u v : V), vs = [.ref a, u, v] ∧ OexC K C ∧ PySem.W.findIn K (.ref C) f = some none ∧ PySem.W.findIn K (.ref C) g = some none ∧ H a = some (exo a C none) ∧
  ∀ dx, H dx = none → dx ≠ a → Q .non (upd (upd (upd H dx (exd dx [(f, u)])) a (exo a C (some dx))) dx (exd dx [(g, v), (f, u)]))
def tMA (t : TA) : TA := fun σ H Q => ∃ Φ : List V → Hp → Prop, t σ H Φ ∧ ∀ vs H1, Φ vs H1 → Q vs H1
theorem pa_mono {X : Cx} {es : List Expr} {t : TA} (h : PA X es t) : PA X es (tMA t) :=
  ⟨fun pos pins s σ H Q I ⟨Φ, h1, h2⟩ => thn (h.run pos pins s σ H Φ I h1) fun _ _ ⟨vs, H1, I1, r1, q1⟩ => ⟨vs, H1, I1, r1, h2 vs H1 q1⟩⟩
theorem PE.imp {X : Cx} {e : Expr} {t t' : TE} (h : PE X e t) (i : ∀ σ H Q, t' σ H Q → t σ H Q) : PE X e t' := ⟨fun pins s σ H Q I q => h.run pins s σ H Q I (i σ H Q q)⟩
theorem PS.imp {X : Cx} {st : Stmt} {t t' : TS} (h : PS X st t) (i : ∀ D σ H, t' D σ H → t D σ H) : PS X st t' := ⟨fun pins s σ H D I q => h.run pins s σ H D I (i D σ H q)⟩
/-- a class of errors with one field; with two -/
structure Rs1 (P : Program) (w : World) (K : PySem.W.Frag) (mg : Str → Option Value) (base : Heap) (x : Str) (C : Addr) (f : Str) : Prop where
  gl : mg x = some (.ref C)
  o : OexC K C
  no : PySem.W.findIn K (.ref C) f = some none
  ex : ∃ (fI : Addr) (fd : FuncData), PySem.W.findIn K (.ref C) "__init__" = some (some (.ref fI)) ∧ PySem.W.typeIn K (.ref fI) = some (.type "function") ∧ FnOk P w K mg base CX0 1 fI fd ["self", f] (spInit1 K f) ∧ Binds K fd ["self", f] []
structure Rs2 (P : Program) (w : World) (K : PySem.W.Frag) (mg : Str → Option Value) (base : Heap) (x : Str) (C : Addr) (f g : Str) : Prop where
  gl : mg x = some (.ref C)
  o : OexC K C
  no1 : PySem.W.findIn K (.ref C) f = some none
  no2 : PySem.W.findIn K (.ref C) g = some none
  ex : ∃ (fI : Addr) (fd : FuncData), PySem.W.findIn K (.ref C) "__init__" = some (some (.ref fI)) ∧ PySem.W.typeIn K (.ref fI) = some (.type "function") ∧ FnOk P w K mg base CX0 1 fI fd ["self", f, g] (spInit2 K f g) ∧ Binds K fd ["self", f, g] []
abbrev XW : Type := Value → Option Addr → Hp → Prop
def cR1 (C : Addr) (f : Str) (Wo : XW) : List V → Hp → Prop
  | [v], H1 => ∀ d H', Same H1 H' → H' d = some (.xd [(f, v)]) → Wo (.ref C) (some d) H'
  | _, _ => False
def cR2 (C : Addr) (f g : Str) (Wo : XW) : List V → Hp → Prop
  | [u, v], H1 => ∀ d H', Same H1 H' → H' d = some (.xd [(g, v), (f, u)]) → Wo (.ref C) (some d) H'
  | _, _ => False
section
variable {X : Cx} {x f g : Str} {C : Addr} {p pos pos' : Pos} {e e2 : Expr} {ta : TA} {W : WX}
theorem ps_raise1 (T : Rs1 X.prog X.w X.K X.mg X.base x C f) (hr : Room 2 X.A) (hg : Gl X x) (tk : Takes X W) (hc : X.calm = true) (ha : PA X [e] ta) (hdb : (x == ("__debug__" : Str)) = false := by decide)
    (he : starEach [e] X.env = (false, eval e X.env) :: starEach [] X.env := by rfl) (hpl : (backTo pos (starEach [] X.env)).any (·.1) = false := by rfl) :
    PS X (.Raise (some (.Call (.Name x p) [e] [] pos)) none pos') (fun _ σ H => ta σ H (cR1 C f fun cls d H' => W cls d σ H')) := by
  obtain ⟨fI, fd, iC, tI, G, b⟩ := T.ex
  refine PS.imp (ps_raise hc tk (pmk_oex T.o iC tI G hr b .nil (fun _ _ _ _ _ _ _ h => h.elim) hg T.gl (pa_mono ha) hdb he hpl)) fun D σ H h => ⟨_, h, fun vs H1 q => ?_⟩
  match vs, q with
  | [v], q =>
    refine ⟨by show 1 ≤ 1000; decide, fun a hn => ⟨a, C, v, rfl, T.o, T.no, upd_same, fun dx hd ne => ⟨rfl, dx, _, upd_same, (upd_ne ne).trans upd_same, ?_, ?_⟩⟩⟩
    · rwa [upd_ne ne] at hd
    · have hd' : H1 dx = none := by rwa [upd_ne ne] at hd
      refine q dx _ (fun c o z => ?_) upd_same
      have n1 := ne_of_none z hn
      have n2 := ne_of_none z hd'
      rw [upd_ne n2, del_ne n1, upd_ne n1, upd_ne n2, upd_ne n1]
      exact z
theorem ps_raise2 (T : Rs2 X.prog X.w X.K X.mg X.base x C f g) (hr : Room 2 X.A) (hg : Gl X x) (tk : Takes X W) (hc : X.calm = true) (ha : PA X [e, e2] ta) (hdb : (x == ("__debug__" : Str)) = false := by decide)
    (he : starEach [e, e2] X.env = (false, eval e X.env) :: starEach [e2] X.env := by rfl) (hpl : (backTo pos (starEach [e2] X.env)).any (·.1) = false := by rfl) :
    PS X (.Raise (some (.Call (.Name x p) [e, e2] [] pos)) none pos') (fun _ σ H => ta σ H (cR2 C f g fun cls d H' => W cls d σ H')) := by
  obtain ⟨fI, fd, iC, tI, G, b⟩ := T.ex
  refine PS.imp (ps_raise hc tk (pmk_oex T.o iC tI G hr b .nil (fun _ _ _ _ _ _ _ h => h.elim) hg T.gl (pa_mono ha) hdb he hpl)) fun D σ H h => ⟨_, h, fun vs H1 q => ?_⟩
  match vs, q with
  | [u, v], q =>
    refine ⟨by show 2 ≤ 1000; decide, fun a hn => ⟨a, C, u, v, rfl, T.o, T.no1, T.no2, upd_same, fun dx hd ne => ⟨rfl, dx, _, (upd_ne (Ne.symm ne)).trans upd_same, upd_same, ?_, ?_⟩⟩⟩
    · rwa [upd_ne ne] at hd
    · have hd' : H1 dx = none := by rwa [upd_ne ne] at hd
      refine q dx _ (fun c o z => ?_) upd_same
      have n1 := ne_of_none z hn
      have n2 := ne_of_none z hd'
      rw [upd_ne n2, del_ne n1, upd_ne n2, upd_ne n1, upd_ne n2, upd_ne n1]
      exact z
end
theorem exm_by {K : PySem.W.Frag} {cls : Value} {C : Addr} {b : Bool} (o : OexC K C) (i : PySem.W.isClsIn K C = true) (h : PySem.W.subIn K cls (.ref C) = some b) : PySem.W.exmOne K cls (.ref C) = some b := by
  unfold PySem.W.exmOne
  rw [if_pos (by rw [o.exC]; rfl)]
  show PySem.W.kitCls K cls (.ref C) = some b
  have i' : (PySem.W.clsIn K C).isSome = true := i
  unfold PySem.W.kitCls
  dsimp only
  rw [if_pos (by rw [i', o.tyC]; rfl)]
  exact h
/-! ### the five errors -/
inductive Oops
  | word (z : Str)
  | stock (z : Str)
  | number (z : Str)
  | misfit (z : Str)
  | many (z : Str) (n : Int)
def Oops.no : Oops → Nat
  | .word _ => 0
  | .stock _ => 1
  | .number _ => 2
  | .misfit _ => 3
  | .many _ _ => 4
def Oops.fs : Oops → List (Str × V)
  | .word z => [("part", .str z)]
  | .stock z => [("part", .str z)]
  | .number z => [("part", .str z)]
  | .misfit z => [("part", .str z)]
  | .many z n => [("most", .int n), ("what", .str z)]
def Oops.told : Oops → List V
  | .word z => [.str "word", .str z]
  | .stock z => [.str "stock", .str z]
  | .number z => [.str "number", .str z]
  | .misfit z => [.str "misfit", .str z]
  | .many z n => [.str "many", .str z, .int n]
/-- an error of the kind o, known behind H -/
def Oop (cs : Nat → Addr) (o : Oops) (H : Hp) : XW := fun cls d H' => cls = .ref (cs o.no) ∧ ∃ dd, d = some dd ∧ Same H H' ∧ H' dd = some (.xd o.fs)
/-- whoever is told of errors is told of this one -/
def Rz (cs : Nat → Addr) (o : Oops) (H : Hp) (E : XW) : Prop := ∀ cls d H', Oop cs o H cls d H' → E cls d H'
theorem Rz.sm {cs : Nat → Addr} {o : Oops} {H H1 : Hp} {E : XW} (s : Same H H1) (h : Rz cs o H E) : Rz cs o H1 E := fun cls d H' ⟨e, dd, ed, s2, q⟩ => h cls d H' ⟨e, dd, ed, s.trans s2, q⟩
structure Errs (K : PySem.W.Frag) (mg : Str → Option Value) (cs : Nat → Addr) : Prop where
  g0 : mg "BadWord" = some (.ref (cs 0))
  g1 : mg "BadStock" = some (.ref (cs 1))
  g2 : mg "BadNumber" = some (.ref (cs 2))
  g3 : mg "Misfit" = some (.ref (cs 3))
  g4 : mg "TooMany" = some (.ref (cs 4))
  xf : ∀ i, i < 5 → XfC K (cs i)
  no : ∀ i, i < 4 → PySem.W.findIn K (.ref (cs i)) "part" = some none
  nw : PySem.W.findIn K (.ref (cs 4)) "what" = some none
  nm : PySem.W.findIn K (.ref (cs 4)) "most" = some none
  ex : ∀ i j, i < 5 → j < 5 → PySem.W.exmOne K (.ref (cs i)) (.ref (cs j)) = some (decide (i = j))
/-- what the hearer makes of the lambda's reading: None, or the error told as a tuple -/
def TTh (cs : Nat → Addr) : (XK → Hp → VK → Prop) → Hp → VK → Prop := fun tl H Q => ∃ Ech : XK, tl Ech H (fun _ H' => Q .non H') ∧ ∀ cls d H', Ech cls d H' → ∃ o : Oops, cls = .ref (cs o.no) ∧ ∃ dd, d = some dd ∧ H' dd = some (.xd o.fs) ∧ ∀ t, H' t = none → Q (.ref t) (upd H' t (.tup o.told))
section
variable {X : Cx} {pns : Pos}
def clB (K : PySem.W.Frag) (C : Addr) (z : Str) : Addr → Value → Option Addr → TS := fun a cls d => tRet (tTup (tCons (tC (.str z)) (tCons (tXf a cls d C "part" (tVar 1)) tNil)))
def clM (K : PySem.W.Frag) (C : Addr) (z : Str) : Addr → Value → Option Addr → TS := fun a cls d => tRet (tTup (tCons (tC (.str z)) (tCons (tXf a cls d C "what" (tVar 1)) (tCons (tXf a cls d C "most" (tVar 1)) tNil))))

end
end K4
/-! defs as their callers use them; further rules -/
namespace K4
open PySem PySem.Spec PyProof.Rows L2 K0
structure Blt (mg : Str → Option Value) : Prop where
  n_len : mg "len" = none
  n_isinstance : mg "isinstance" = none
  n_int : mg "int" = none
  n_bool : mg "bool" = none
  n_str : mg "str" = none
  n_list : mg "list" = none
  n_tuple : mg "tuple" = none
  n_all : mg "all" = none
  n_any : mg "any" = none
  n_zip : mg "zip" = none
  n_abs : mg "abs" = none
  n_range : mg "range" = none
  n_enumerate : mg "enumerate" = none
  n_sorted : mg "sorted" = none
/-- a def that raises nothing; one that may raise -/
structure Cal (P : Program) (w : World) (K : PySem.W.Frag) (mg : Str → Option Value) (base : Heap) (k : Nat) (x : Str) (st : Stmt) (ps : List Str) (sp : Sp) : Prop where
  ex : ∃ (f : Addr) (fd : FuncData), Fun K x x st f fd ∧ mg x = some (.ref f) ∧ Binds K fd ps [] ∧ FnOk P w K mg base CX0 k f fd ps sp
structure CalX (P : Program) (w : World) (K : PySem.W.Frag) (mg : Str → Option Value) (base : Heap) (k : Nat) (x : Str) (st : Stmt) (ps : List Str) (sp : Sp) : Prop where
  ex : ∃ (f : Addr) (fd : FuncData), Fun K x x st f fd ∧ mg x = some (.ref f) ∧ Binds K fd ps [] ∧ FnOk P w K mg base (L2.CX P w) k f fd ps sp
def EN : XK := fun _ _ _ => False
section
variable {X : Cx} {k k' : Nat} {x : Str} {st : Stmt} {ps ks : List Str} {sp : Sp} {p pos : Pos} {e : Expr} {es : List Expr} {t tk : TA} {kws : List Keyword} {g : List Value → List Value → List Value} {gV : List V → List V → List V} {E : XK}
/-- nothing is raised here -/
theorem px0 : Passes (L2.CX X.prog X.w) X EN := passes_call LamX.takes0 fun _ _ _ _ z => z
theorem pe_cl (C : Cal X.prog X.w X.K X.mg X.base k x st ps sp) (hr : Room k X.A) (hg : Gl X x) (ha : PA X (e :: es) t)
    (hdb : (x == ("__debug__" : Str)) = false := by decide) (he : starEach (e :: es) X.env = (false, eval e X.env) :: starEach es X.env := by rfl)
    (hpl : (backTo pos (starEach es X.env)).any (·.1) = false := by rfl) : PE X (.Call (.Name x p) (e :: es) [] pos) (tCall sp [] E0 t) := by
  obtain ⟨f, fd, F, hm, hb, G⟩ := C.ex
  exact pe_call G hr hg hm F.kp hb .nil pass0 ha hdb he hpl
theorem pe_clX (C : CalX X.prog X.w X.K X.mg X.base k x st ps sp) (hx : Passes (L2.CX X.prog X.w) X E) (hr : Room k X.A) (hg : Gl X x) (ha : PA X (e :: es) t)
    (hdb : (x == ("__debug__" : Str)) = false := by decide) (he : starEach (e :: es) X.env = (false, eval e X.env) :: starEach es X.env := by rfl)
    (hpl : (backTo pos (starEach es X.env)).any (·.1) = false := by rfl) : PE X (.Call (.Name x p) (e :: es) [] pos) (tCall sp [] E t) := by
  obtain ⟨f, fd, F, hm, hb, G⟩ := C.ex
  exact pe_call G hr hg hm F.kp hb .nil hx ha hdb he hpl
def kgA {α : Type} : List α → List α → List α
  | [], [a, b] => [a, b]
  | _, _ => []
theorem relA {vs zs : List V} {us ws : List Value} (r : Vals vs us) (rz : Vals zs ws) : Vals (kgA vs zs) (kgA us ws) := by
  cases r with
  | cons x y => exact .nil
  | nil =>
    cases rz with
    | nil => exact .nil
    | cons a b =>
      cases b with
      | nil => exact .nil
      | cons c d =>
        cases d with
        | nil => exact .cons a (.cons c .nil)
        | cons e f => exact .nil
theorem kbA {K : PySem.W.Frag} {x qual : Str} {st : Stmt} {f : Addr} {fd : FuncData} {p q : Str} (F : Fun K x qual st f fd) (h : ∀ kV doc pm an cdv ct u v, bindArgs (fOf x qual st kV doc pm an cdv ct) ⟨[], [(p, u), (q, v)]⟩ = pure [(p, u), (q, v)]) : KBinds K fd [p, q] [p, q] kgA kgA := by
  obtain ⟨oc, od, kV, doc, pm, an, cdv, ct, osl, rfl, lk, hcd⟩ := F.ex
  refine ⟨fun s us ws _ hl => ?_, relA⟩
  match us, ws, hl with
  | [], [u, v], _ => exact .of_eq (h _ _ _ _ _ _ u v)
def tCallA (sp : Sp) (E : XK) (tk : TA) : TE := fun σ H Q => tk σ H fun zs H2 => sp (kgA [] zs) H2 Q E
/-- f(p = e, q = e2), a def that may raise -/
theorem pe_clA {q r : Str} (C : CalX X.prog X.w X.K X.mg X.base k x st [q, r] sp) (kb : ∀ {f fd}, Fun X.K x x st f fd → KBinds X.K fd [q, r] [q, r] kgA kgA) (hx : Passes (L2.CX X.prog X.w) X E) (hr : Room k X.A) (hg : Gl X x) (hkw : PK X kws tk)
    (hall : (backToKw pos (keywordEach kws X.env)).all (·.1.isSome) = true := by rfl) (hks : (backToKw pos (keywordEach kws X.env)).filterMap (·.1) = [q, r] := by rfl)
    (hdb : (x == ("__debug__" : Str)) = false := by decide) (hpl : ((backTo pos (starEach [] X.env)).any (·.1) || (backToKw pos (keywordEach kws X.env)).any (·.1.isNone)) = false := by rfl) :
    PE X (.Call (.Name x p) [] kws pos) (tCallA sp E tk) := by
  obtain ⟨f, fd, F, hm, hb, G⟩ := C.ex
  refine ⟨fun pins s σ H Q I h => ?_⟩
  refine wpAny_Call_Name_kw (ld_glob I hg hm ?_ hdb)
  refine PySem.W.callWith_KW0 (h₀ := X.base) I.ok.mod.kin F.kp hall (thn (hkw.run pos pins s σ H _ I h) fun ws s1 ⟨zs, H1, I1, rz, q1⟩ => ⟨I1.kIn, ?_⟩) hpl
  rw [hks]
  exact run_fnk G hr (kb F) hx I1 .nil rz q1
end
/-! ### in place -/
section
variable {X : Cx}
theorem ip_mul : PIp X .Mult (fun x y H Q => ∃ i j, x = .int i ∧ y = .int j ∧ (-(2 ^ 62) < i ∧ i < 2 ^ 62) ∧ Q (.int (i * j)) H) := by
  intro pins s σ H x y v u Q I r1 r2 h
  obtain ⟨i, j, e1, e2, hb, q⟩ := h
  subst e1; subst e2
  obtain ⟨t, rfl⟩ := r1
  obtain ⟨t', rfl⟩ := r2
  exact PySem.P.imul_int ⟨.int _, H, I.tok _, ⟨_, rfl⟩, q⟩ (CMul.ok (.inl ⟨by omega, by omega⟩))
theorem ip_fdiv : PIp X .FloorDiv (fun x y H Q => ∃ i j, x = .int i ∧ y = .int j ∧ CDivW i j ∧ Q (.int (i / j)) H) := by
  intro pins s σ H x y v u Q I r1 r2 h
  obtain ⟨i, j, e1, e2, hb, q⟩ := h
  exact iop_fdivW pins s σ H x y v u Q I r1 r2 ⟨i, j, e1, e2, hb, q⟩
/-- stock.index(sign) -/
def tSix (to te : TE) : TE := tM1 (fun x xs H Q => ∃ (S : List Nat) (c : Nat), x = .str (Tx S) ∧ xs = [.str (Tx [c])] ∧ S.Nodup ∧ c ∈ S ∧ Q (.int (ix S c : Nat)) H) to te
theorem occ_ix {S : List Nat} {c : Nat} (hn : S.Nodup) (hc : c ∈ S) : ∃ rest, Builtin.Str.occurrences (Tx S) (Tx [c]) 0 (Tx S).length 1 = ix S c :: rest := by
  have h1 := StrLaws.found_one (Tx S) c
  rw [tx_list, decide_eq_true hc] at h1
  cases ho : Builtin.Str.occurrences (Tx S) (Tx [c]) 0 (Tx S).length 1 with
  | nil =>
    have ho' : Builtin.Str.occurrences (Tx S) ⟨#[c]⟩ 0 (Tx S).length 1 = [] := ho
    rw [ho'] at h1
    cases h1
  | cons i rest =>
    refine ⟨rest, ?_⟩
    have h2 := StrLaws.occ_spec (Tx S) (Tx [c]) 0 (Tx S).length 1 i (by rw [ho]; exact List.mem_cons_self)
    obtain ⟨hl, hs⟩ := h2
    have e : S[i]? = some c := by
      rw [tx_len, tx_len] at hl
      have hl' : i < S.length := by
        have h1 : i + 1 ≤ S.length := hl
        omega
      unfold Builtin.Str.subAt at hs
      have e2 : (Tx S).cps[i]? = some c := by
        have hs' : (Tx S).cps.extract i (i + 1) = #[c] := eq_of_beq hs
        have h0 := congrArg (fun a : Array Nat => a[0]?) hs'
        rw [Array.getElem?_extract] at h0
        have hz : i < (Tx S).cps.size := by simpa [Tx] using hl'
        simp [hz] at h0
        rw [Array.getElem?_eq_getElem hz, h0.2]
      simpa [Tx] using e2
    rw [ix_at hn e]
theorem mt_six : MtR X "str.index" (fun x xs H Q => ∃ (S : List Nat) (c : Nat), x = .str (Tx S) ∧ xs = [.str (Tx [c])] ∧ S.Nodup ∧ c ∈ S ∧ Q (.int (ix S c : Nat)) H) := by
  intro pins s σ H x xs v us Q I rx rxs h
  obtain ⟨S, c, e1, e2, hn, hc, q⟩ := h
  obtain ⟨rest, ho⟩ := occ_ix hn hc
  exact mt_sindex pins s σ H x xs v us Q I rx rxs ⟨_, _, _, rest, e1, e2, ho, q⟩
theorem pe_sidx {o e : Expr} {to te : TE} {apos pos : Pos} (ho : PE X o to) (he : PE X e te) (hs : starEach [e] X.env = [(false, eval e X.env)] := by rfl) (hbase : attributeBase o "index" X.env (eval o X.env) = eval o X.env := by rfl) (hline : (apos.endLine == pos.line) = true := by rfl) :
    PE X (.Call (.Attribute o "index" apos) [e] [] pos) (tSix to te) := pe_m1 F.slot_str_index F.type_str_index mt_six ho he hs hbase hline
/-- sorted(list of texts), any length -/
def rSortedA (K : PySem.W.Frag) : List V → Hp → VK → Prop := fun vs H Q => ∃ (a : Addr) (xs : List Str), vs = [V.ref a] ∧ SqL K H a (xs.map V.str) ∧
  ∀ (ys : List Str) (p : Addr), ys.Perm xs → sortedS ys = true → H p = none → Q (.ref p) (upd H p (.lst (ys.map V.str)))
theorem cr_sortedA : CallR X (.builtin "sorted") (rSortedA X.K) := by
  intro pins s σ H vs us Q I r h
  obtain ⟨a, xs, rfl, hs, q⟩ := h
  obtain ⟨its, rv, hl, hz⟩ := I.list hs
  rw [Vals.ref1 r]
  have hlen0 := rv.length
  rw [List.length_map] at hlen0 hz
  refine PyProof.Rows.sorted_strsAny hl.isList rv.strs (by rw [← hlen0]; exact hz) fun out ys h1 h2 h3 => ?_
  obtain ⟨ep, at_⟩ := PyProof.Rows.sortedAll_at s.heap its out
  have hlen : (ys.map V.str).length ≤ sizeLine := by rw [List.length_map, h2.length_eq]; exact hz
  exact ⟨.ref _, upd H (s.heap.objs.size + 1) (.lst (ys.map V.str)), I.laid (t' := s.toks) (fun _ _ => PyProof.Rows.sortedAll_old) (Nat.le_succ _) ⟨hlen, out.toList, ep, vals_of_strs h1, at_⟩, rfl, q ys _ h2 h3 (I.hok.fresh (Nat.le_succ _))⟩
end
end K4
/-! comprehensions of two clauses, texts in lists -/
namespace K4
open PySem PySem.Spec PyProof.Rows L2 K0
def In2 (g1 : TG) (tt1 : TT) (te : TE) (σ2 : L2.St) (vs1 : List Nat) (D : Addr) (Nx : Hp → Prop) (J1 : It) (H4 : Hp) : Prop := ∃ W1 : Nat → Nat → Hp → Prop, (∃ m, W1 0 m H4) ∧ ∀ j k H, W1 j k H →
  (J1.stop j H ∧ Nx H) ∨ (J1.go j H ∧ ∃ Nx1 : Hp → Prop, (∀ H', Nx1 H' → ∃ k', k' < k ∧ W1 (j + 1) k' H') ∧ ∀ x H', J1.yld j H x H' → g1 x (wipe σ2 vs1) H' fun σ3 H5 => wipe σ3 vs1 = wipe σ2 vs1 ∧ tt1 σ3 H5 fun b H6 =>
    if b = true then te σ3 H6 fun y H7 => ∃ acc, H7 D = some (.lst acc) ∧ acc.length < sizeLine ∧ Nx1 (upd H7 D (.lst (acc ++ [y]))) else Nx1 H6)
section
variable {J : It} {n : Nat} {G : Hp → Prop} {Y : Nat → Hp → V → Hp → Prop}
theorem in2_it (w : Walk J n G Y) {g1 : TG} {tt1 : TT} {te : TE} {σ2 : L2.St} {vs1 : List Nat} {D : Addr} {Nx : Hp → Prop} {H4 : Hp} (Pv : Nat → Hp → Prop) (h0 : Pv 0 H4) (hG : ∀ i H, i ≤ n → Pv i H → G H)
    (hs : ∀ i x H H', i < n → Pv i H → Y i H x H' → g1 x (wipe σ2 vs1) H' fun σ3 H5 => wipe σ3 vs1 = wipe σ2 vs1 ∧ tt1 σ3 H5 fun b H6 =>
      if b = true then te σ3 H6 fun y H7 => ∃ acc, H7 D = some (.lst acc) ∧ acc.length < sizeLine ∧ Pv (i + 1) (upd H7 D (.lst (acc ++ [y]))) else Pv (i + 1) H6) (hd : ∀ H, Pv n H → Nx H) : In2 g1 tt1 te σ2 vs1 D Nx J H4 := by
  refine ⟨fun i m H => m = n - i ∧ i ≤ n ∧ Pv i H, ⟨n, by simp, Nat.zero_le _, h0⟩, ?_⟩
  rintro i m H ⟨rfl, hi, p⟩
  have q := hG i H hi p
  by_cases hlt : i < n
  · exact .inr ⟨w.goes i H hlt q, Pv (i + 1), fun H' p' => ⟨n - (i + 1), by omega, rfl, hlt, p'⟩, fun x H' y => hs i x H H' hlt p (w.yields i H x H' hlt q y)⟩
  · have e : i = n := by omega
    subst e
    exact .inl ⟨w.stops H q, hd H p⟩
theorem lc2_it (w : Walk J n G Y) {g g1 : TG} {tt tt1 : TT} {wi1 : TI} {te : TE} {vs vs1 : List Nat} {σ : L2.St} {H1 : Hp} {D : Addr} {Qd : Hp → Prop} (Pv : Nat → Hp → Prop) (h0 : Pv 0 (upd H1 D (.lst []))) (hG : ∀ i H, i ≤ n → Pv i H → G H)
    (hs : ∀ i x H H', i < n → Pv i H → Y i H x H' → g x (wipe σ vs) H' fun σ2 H2 => wipe σ2 vs = wipe σ vs ∧ tt σ2 H2 fun b H3 =>
      if b = true then wi1 σ2 H3 fun J1 H4 => In2 g1 tt1 te σ2 vs1 D (Pv (i + 1)) J1 H4 else Pv (i + 1) H3) (hd : ∀ H, Pv n H → Qd H) :
    ∃ W : Nat → Nat → Hp → Prop, (∃ m, W 0 m (upd H1 D (.lst []))) ∧ ∀ i m H, W i m H →
      (J.stop i H ∧ Qd H) ∨ (J.go i H ∧ ∃ Nx : Hp → Prop, (∀ H', Nx H' → ∃ m', m' < m ∧ W (i + 1) m' H') ∧ ∀ x H', J.yld i H x H' → g x (wipe σ vs) H' fun σ2 H2 => wipe σ2 vs = wipe σ vs ∧ tt σ2 H2 fun b H3 =>
        if b = true then wi1 σ2 H3 fun J1 H4 => In2 g1 tt1 te σ2 vs1 D Nx J1 H4 else Nx H3) := by
  refine ⟨fun i m H => m = n - i ∧ i ≤ n ∧ Pv i H, ⟨n, by simp, Nat.zero_le _, h0⟩, ?_⟩
  rintro i m H ⟨rfl, hi, p⟩
  have q := hG i H hi p
  by_cases hlt : i < n
  · exact .inr ⟨w.goes i H hlt q, Pv (i + 1), fun H' p' => ⟨n - (i + 1), by omega, rfl, hlt, p'⟩, fun x H' y => hs i x H H' hlt p (w.yields i H x H' hlt q y)⟩
  · have e : i = n := by omega
    subst e
    exact .inl ⟨w.stops H q, hd H p⟩
end
/-! texts in lists -/
def tws (ws : List (List Nat)) : List V := ws.map fun w => V.str (Tx w)
theorem tws_len (ws : List (List Nat)) : (tws ws).length = ws.length := by simp [tws]
theorem tws_app (a b : List (List Nat)) : tws (a ++ b) = tws a ++ tws b := by simp [tws]
theorem tws_at {ws : List (List Nat)} {i : Nat} {v : V} (h : (tws ws)[i]? = some v) : ∃ w, ws[i]? = some w ∧ v = .str (Tx w) := by
  unfold tws at h
  rw [List.getElem?_map] at h
  cases e : ws[i]? with
  | none =>
    rw [e] at h
    cases h
  | some w =>
    rw [e] at h
    exact ⟨w, rfl, (Option.some.inj h).symm⟩
theorem tws_str (ws : List (List Nat)) : tws ws = (ws.map Tx).map V.str := by simp [tws]
theorem walk_tx {l : List Nat} : Walk (Its (Tx l)) l.length (fun _ => True) (fun i H v H' => H' = H ∧ ∃ c, l[i]? = some c ∧ v = .str (Tx [c])) := by
  have h := walk_str (z := Tx l)
  have e : (Tx l).cps.size = l.length := by simp [Tx]
  rw [e] at h
  exact h.mono (fun _ z => z) fun i H x H' _ _ ⟨a, c, b, d⟩ => ⟨a, c, by simpa [Tx] using b, d⟩
/-- one longer -/
def ext (S : List Nat) (ws : List (List Nat)) : List (List Nat) := ws.flatMap fun w => S.map fun c => w ++ [c]
theorem ext_len (S : List Nat) : ∀ ws, (ext S ws).length = ws.length * S.length
  | [] => by simp [ext]
  | a :: r => by
    have := ext_len S r
    unfold ext at this ⊢
    rw [List.flatMap_cons, List.length_append, this, List.length_map, List.length_cons, Nat.succ_mul]
    omega
theorem ext_take {S : List Nat} {ws : List (List Nat)} {i : Nat} {w : List Nat} (h : ws[i]? = some w) : ext S (ws.take (i + 1)) = ext S (ws.take i) ++ S.map fun c => w ++ [c] := by
  unfold ext
  rw [List.take_succ, h, List.flatMap_append]
  simp
theorem small_line {n : Nat} (h : n ≤ 1000000) : n ≤ sizeLine := Nat.le_trans h (by decide)
theorem small_lt {n : Nat} (h : n ≤ 1000000) : n < sizeLine := Nat.lt_of_le_of_lt h (by decide)
end K4
namespace K4
open PySem PySem.Spec PyProof.Rows L2 K0
theorem bel_le {k : Nat} (hk : 1 ≤ k) : ∀ m, bel k (m + 1) ≤ (m + 1) * k ^ m
  | 0 => by simp [bel]
  | m + 1 => by
    rw [bel_succ k (m + 1), Nat.add_mul (m + 1) 1, Nat.one_mul]
    have h1 := bel_le hk m
    have h2 : (m + 1) * k ^ m ≤ (m + 1) * k ^ (m + 1) := Nat.mul_le_mul_left _ (Nat.pow_le_pow_right hk (Nat.le_succ m))
    omega
theorem bel_k {k j : Nat} (h : k ≤ j) : ∀ i, bel k i ≤ bel j i
  | 0 => Nat.le_refl _
  | i + 1 => Nat.succ_le_succ (Nat.mul_le_mul (bel_k h i) h)
theorem num_small {S w : List Nat} (hw : ∀ c ∈ w, c ∈ S) (hS : S.length ≤ 5) (hl : w.length ≤ 12) : num S w < 400000000 := by
  have h1 := num_bound w hw
  have h2 := bel_mono S.length (show w.length + 1 ≤ 13 by omega)
  have h3 := bel_k hS 13
  have h4 : bel 5 13 = 305175781 := by decide
  omega
theorem Kd_same {K : PySem.W.Frag} {H H' : Hp} {v : V} {t : Value} (s : Same H H') (h : TyX K H v t) : TyX K H' v t := tyx_same s h
theorem stOk_facts {S : List Nat} (h : ((decide (1 ≤ S.length) && decide (S.length ≤ 5)) && ris S) = true) : 1 ≤ S.length ∧ S.length ≤ 5 ∧ S.Pairwise (· < ·) := by
  rw [Bool.and_eq_true, Bool.and_eq_true, decide_eq_true_eq, decide_eq_true_eq] at h
  refine ⟨h.1.1, h.1.2, ?_⟩
  have key : ∀ S : List Nat, ris S = true → S.Pairwise (· < ·) := by
    intro S
    induction S with
    | nil => intro _; exact .nil
    | cons a r ih =>
      intro hr
      cases r with
      | nil => simp
      | cons b t =>
        unfold ris at hr
        rw [Bool.and_eq_true, decide_eq_true_eq] at hr
        have hp := ih hr.2
        refine List.pairwise_cons.mpr ⟨fun c hc => ?_, hp⟩
        rcases List.mem_cons.mp hc with e | e
        · rw [e]; exact hr.1
        · exact Nat.lt_trans hr.1 ((List.pairwise_cons.mp hp).1 c e)
  exact key S h.2
theorem nodup_of_lt {S : List Nat} (h : S.Pairwise (· < ·)) : S.Nodup := h.imp fun h => Nat.ne_of_lt h
theorem ris_of_lt : ∀ {S : List Nat}, S.Pairwise (· < ·) → ris S = true
  | [], _ => rfl
  | [_], _ => rfl
  | a :: b :: r, h => by
    obtain ⟨h1, h2⟩ := List.pairwise_cons.mp h
    unfold ris
    rw [Bool.and_eq_true, decide_eq_true_eq]
    exact ⟨h1 b (by simp), ris_of_lt h2⟩
theorem nodup_lt {α : Type} {l : List α} {i j : Nat} {x : α} (h : l.Nodup) (hi : l[i]? = some x) (hj : l[j]? = some x) : i = j := by
  obtain ⟨a, e1⟩ := List.getElem?_eq_some_iff.mp hi
  obtain ⟨b, e2⟩ := List.getElem?_eq_some_iff.mp hj
  rcases Nat.lt_trichotomy i j with c | c | c
  · exact absurd (e1.trans e2.symm) (List.pairwise_iff_getElem.mp h i j a b c)
  · exact c
  · exact absurd (e2.trans e1.symm) (List.pairwise_iff_getElem.mp h j i b a c)
end K4
namespace K4
open PySem PySem.Spec PyProof.Rows L2 K0
def top (i : Nat) : Stmt := PySem.Challenge.pw_foretongue_k04_words_of_stocks_numbered.main.body.getD i (.Pass ⟨0, 0, 0, 0⟩)
/-! ### kinds of values -/
/-- v is a plain value of the type named n -/
def Kd (K : PySem.W.Frag) (H : Hp) (v : V) (n : String) : Prop := TyX K H v (.type n) ∧ n ∈ ["NoneType", "bool", "int", "str", "list", "tuple", "dict"]
theorem kd_kit {K : PySem.W.Frag} {n : String} (h : n ∈ ["NoneType", "bool", "int", "str", "list", "tuple", "dict"]) :
    PySem.W.kitOne K (.type n) (.type "int") = some (n == "int" || n == "bool") ∧ PySem.W.kitOne K (.type n) (.type "bool") = some (n == "bool") ∧
    PySem.W.kitOne K (.type n) (.type "str") = some (n == "str") ∧ PySem.W.kitOne K (.type n) (.type "list") = some (n == "list") ∧ PySem.W.kitOne K (.type n) (.type "tuple") = some (n == "tuple") := by
  simp only [List.mem_cons, List.not_mem_nil, or_false] at h
  rcases h with rfl | rfl | rfl | rfl | rfl | rfl | rfl <;> exact ⟨kit_ty (by decide +kernel), kit_ty (by decide +kernel), kit_ty (by decide +kernel), kit_ty (by decide +kernel), kit_ty (by decide +kernel)⟩
section
variable {P : Program} {w : World} {K : PySem.W.Frag} {mg : Str → Option Value} {base : Heap}
/-! ### is_integer -/
abbrev st_is_integer : Stmt := top 1
abbrev nm_is_integer : List Str := ["value"]
theorem sc_is_integer : FnScope nm_is_integer ["value"] (defScope st_is_integer) := ⟨rfl, rfl, rfl, by decide +kernel, rfl, by decide +kernel, by decide +kernel⟩
def spIsInteger (K : PySem.W.Frag) : Sp := fun vs H Q _ => ∃ (v : V) (n : String), vs = [v] ∧ Kd K H v n ∧ Q (.bl (n == "int")) H
theorem ok_is_integer {f : Addr} {fd : FuncData} (F : Fun K "is_integer" "is_integer" st_is_integer f fd) (T : Blt mg) : FnOk P w K mg base CX0 1 f fd ["value"] (spIsInteger K) := by
  refine F.ok sc_is_integer (fun vs H Q E h => ?_) (fun cdv A outer s H vs Q E hr h => ?_)
  · obtain ⟨v, n, rfl, _⟩ := h
    rfl
  · obtain ⟨v, n, rfl, ⟨ty, hn⟩, q⟩ := h
    obtain ⟨k1, k2, _⟩ := kd_kit (K := K) hn
    refine ⟨_, (pss_one (ps_ret (pe_and (pe_callB call_isi (by rfl) T.n_isinstance (by decide +kernel) (pa_cons (pv 0) (pa_cons (pe_bltn (v := .ty "int") (by rfl) T.n_int (by decide +kernel) rfl) pa_nil))) (pe_one (pe_not (pe_callB call_isi (by rfl) T.n_isinstance (by decide +kernel) (pa_cons (pv 0) (pa_cons (pe_bltn (v := .ty "bool") (by rfl) T.n_bool (by decide +kernel) rfl) pa_nil)))))))), ?_⟩
    refine ⟨_, rfl, v, _, _, _, _, rfl, .ty "int", ty, k1, _, rfl, ?_⟩
    by_cases c : (n == "int" || n == "bool") = true
    · rw [if_pos c]
      refine ⟨_, rfl, v, _, _, _, _, rfl, .ty "bool", ty, k2, _, rfl, ?_⟩
      have e : (!(n == "bool")) = (n == "int") := by
        simp only [List.mem_cons, List.not_mem_nil, or_false] at hn
        rcases hn with rfl | rfl | rfl | rfl | rfl | rfl | rfl <;> first | rfl | (revert c; decide)
      rw [e]
      exact q
    · rw [if_neg c]
      have e : (n == "int") = false := by
        simp only [List.mem_cons, List.not_mem_nil, or_false] at hn
        rcases hn with rfl | rfl | rfl | rfl | rfl | rfl | rfl <;> first | rfl | (revert c; decide)
      rw [e] at q
      exact q
/-! ### is_within -/
def okLo : V → Int → Bool
  | .int l, i => decide (l ≤ i)
  | _, _ => true
def okHi : V → Int → Bool
  | .int l, i => decide (i ≤ l)
  | _, _ => true
def Bnd (v : V) : Prop := v = .non ∨ ∃ l, v = .int l
theorem kd_int {H : Hp} {i : Int} : Kd K H (.int i) "int" := ⟨.base (.int i), by decide⟩
theorem kd_str {H : Hp} {z : Str} : Kd K H (.str z) "str" := ⟨.base (.str z), by decide⟩
abbrev st_is_within : Stmt := top 2
abbrev nm_is_within : List Str := ["value", "least", "most"]
theorem sc_is_within : FnScope nm_is_within ["value", "least", "most"] (defScope st_is_within) := ⟨rfl, rfl, rfl, by decide +kernel, rfl, by decide +kernel, by decide +kernel⟩
def spIsWithin (K : PySem.W.Frag) : Sp := fun vs H Q _ => ∃ (v lo hi : V), vs = [v, lo, hi] ∧ ((∃ n, Kd K H v n ∧ (n == "int") = false ∧ Q (.bl false) H) ∨
  ∃ i, v = .int i ∧ Bnd lo ∧ Bnd hi ∧ Q (.bl (okLo lo i && okHi hi i)) H)
theorem ok_is_within {f : Addr} {fd : FuncData} (F : Fun K "is_within" "is_within" st_is_within f fd) (T : Blt mg)
    (C_is_integer : Cal P w K mg base 1 "is_integer" st_is_integer ["value"] (spIsInteger K)) : FnOk P w K mg base CX0 2 f fd ["value", "least", "most"] (spIsWithin K) := by
  refine F.ok sc_is_within (fun vs H Q E h => ?_) (fun cdv A outer s H vs Q E hr h => ?_)
  · obtain ⟨v, lo, hi, rfl, _⟩ := h
    rfl
  · refine ⟨_, (pss_cons (ps_if (pt_not (pt_val (pe_cl C_is_integer (hr.mono (by decide)) rfl (pa_cons (pv 0) pa_nil)))) (pss_one (ps_ret pe_bl)) pss_nil)
  (pss_one (ps_ret (pe_and (pe_or (pe_cmpR op_isN (pv 1) pe_non (nomark _)) (pe_one (pe_cmpR op_le (pv 1) (pv 0) (nomark _)))) (pe_one (pe_or (pe_cmpR op_isN (pv 2) pe_non (nomark _)) (pe_one (pe_cmpR op_le (pv 0) (pv 2) (nomark _))))))))), ?_⟩
    obtain ⟨v, lo, hi, rfl, h⟩ := h
    rcases h with ⟨n, kd, hn, q⟩ | ⟨i, rfl, b1, b2, q⟩
    · refine ⟨_, rfl, v, n, rfl, kd, _, rfl, ?_⟩
      rw [hn]
      exact q
    · refine ⟨_, rfl, _, _, rfl, kd_int, _, rfl, ?_⟩
      have last : ∀ Q' : VK, Q' (.bl (okHi hi i)) H → (tOrV (tOp (fun x y H Q => y = .non ∧ Q (.bl (decide (x = .non))) H) (tVar 2) (tC .non)) (tOp (rI0 fun i j => .bl (decide (i ≤ j))) (tVar 0) (tVar 2))) [some (.int i), some lo, some hi] H Q' := by
        intro Q' q'
        rcases b2 with rfl | ⟨m, rfl⟩
        · exact ⟨_, rfl, rfl, _, rfl, q'⟩
        · exact ⟨_, rfl, rfl, _, rfl, _, rfl, _, rfl, _, _, rfl, rfl, q'⟩
      rcases b1 with rfl | ⟨m, rfl⟩
      · refine ⟨_, rfl, rfl, _, rfl, ?_⟩
        exact ⟨_, rfl, last _ (by simpa [okLo] using q)⟩
      · refine ⟨_, rfl, rfl, _, rfl, _, rfl, _, rfl, _, _, rfl, rfl, ?_⟩
        refine ⟨decide (m ≤ i), rfl, ite2 (fun c => ?_) (fun c => ?_)⟩
        · exact last _ (by simpa [okLo, of_decide_eq_true c] using q)
        · exact (by simpa [okLo, show ¬ m ≤ i from fun z => c (decide_eq_true z)] using q)
/-! ### is_long_word -/
abbrev st_is_long_word : Stmt := top 3
abbrev nm_is_long_word : List Str := ["value"]
theorem sc_is_long_word : FnScope nm_is_long_word ["value"] (defScope st_is_long_word) := ⟨rfl, rfl, rfl, by decide +kernel, rfl, by decide +kernel, by decide +kernel⟩
/-- a text by its signs, or a value of another kind -/
def Sov (K : PySem.W.Frag) (H : Hp) (v : V) (q : List Nat → Prop) (r : Prop) : Prop := (∃ l, v = .str (Tx l) ∧ l.length ≤ 1000 ∧ q l) ∨ (∃ n, Kd K H v n ∧ (n == "str") = false ∧ r)
def spIsLongWord (K : PySem.W.Frag) : Sp := fun vs H Q _ => ∃ v, vs = [v] ∧ Sov K H v (fun l => Q (.bl (lw l)) H) (Q (.bl false) H)
theorem ok_is_long_word {f : Addr} {fd : FuncData} (F : Fun K "is_long_word" "is_long_word" st_is_long_word f fd) (T : Blt mg) : FnOk P w K mg base CX0 1 f fd ["value"] (spIsLongWord K) := by
  refine F.ok sc_is_long_word (fun vs H Q E h => ?_) (fun cdv A outer s H vs Q E hr h => ?_)
  · obtain ⟨v, rfl, _⟩ := h
    rfl
  · refine ⟨_, (pss_cons (ps_if (pt_not (pt_val (pe_callB call_isi (by rfl) T.n_isinstance (by decide +kernel) (pa_cons (pv 0) (pa_cons (pe_bltn (v := .ty "str") (by rfl) T.n_str (by decide +kernel) rfl) pa_nil))))) (pss_one (ps_ret pe_bl)) pss_nil)
  (pss_one (ps_ret (pe_or (pe_cmpR op_eq (pv 0) pe_str (nomark _)) (pe_one (pe_and (pe_m0 PySem.F.slot_str_isascii PySem.F.type_str_isascii mt_isascii (pv 0)) (pe_and (pe_m0 PySem.F.slot_str_isalpha PySem.F.type_str_isalpha mt_isalpha (pv 0)) (pe_one (pe_m0 PySem.F.slot_str_islower PySem.F.type_str_islower mt_islower (pv 0)))))))))), ?_⟩
    obtain ⟨v, rfl, ⟨l, rfl, hl, q⟩ | ⟨n, ⟨ty, hn⟩, e, q⟩⟩ := h
    · refine ⟨_, rfl, _, _, _, _, _, rfl, .ty "str", .base (.str _), kit_ty (b := "str") (r := true) (by decide +kernel), _, rfl, ?_⟩
      refine iteF ?_
      refine ⟨_, rfl, rfl, _, rfl, ?_⟩
      by_cases c : l = []
      · subst c
        exact q
      · have e1 : decide (V.str (Tx l) = V.str (Str.ofString "")) = false := decide_eq_false fun z => c (tx_inj (V.str.inj z))
        refine (congrArg (fun b : Bool => if b = true then Q (V.bl true) H else _) e1).mpr ?_
        refine iteF ?_
        rw [lw_of c] at q
        refine ⟨_, rfl, ⟨_, rfl⟩, _, rfl, rfl, trivial, _, rfl, ?_⟩
        cases h1 : Txt.isascii (Tx l)
        · rw [h1] at q
          exact q
        · rw [h1] at q
          refine ⟨_, rfl, ⟨_, rfl⟩, _, rfl, rfl, trivial, _, rfl, ?_⟩
          cases h2 : Txt.isalpha (Tx l)
          · rw [h2] at q
            exact q
          · rw [h2] at q
            exact ⟨_, rfl, ⟨_, rfl⟩, _, rfl, rfl, trivial, q⟩
    · obtain ⟨_, _, k3, _, _⟩ := kd_kit (K := K) hn
      refine ⟨_, rfl, v, _, _, _, _, rfl, .ty "str", ty, k3, _, rfl, ?_⟩
      rw [e]
      exact q
end
theorem cut_from (l : List Nat) (a : Nat) : cutS (Tx l) (some (a : Int)) none = Tx (l.drop a) := by
  unfold cutS
  rw [tx_list, tx_len, HT.sIx_nat, HT.sIx_none]
  show (⟨((l.drop (min a l.length)).take (l.length - min a l.length)).toArray⟩ : Str) = ⟨(l.drop a).toArray⟩
  have e : (l.drop (min a l.length)).take (l.length - min a l.length) = l.drop a := by
    rw [List.take_of_length_le (by rw [List.length_drop]; exact Nat.le_refl _)]
    by_cases h : a ≤ l.length
    · rw [Nat.min_eq_left h]
    · rw [Nat.min_eq_right (by omega), List.drop_of_length_le (Nat.le_refl _), List.drop_of_length_le (by omega)]
  rw [e]
theorem cut_to (l : List Nat) (b : Nat) : cutS (Tx l) none (some (b : Int)) = Tx (l.take b) := by
  unfold cutS
  rw [tx_list, tx_len, HT.sIx_nat, HT.sIx_none]
  show (⟨((l.drop 0).take (min b l.length - 0)).toArray⟩ : Str) = ⟨(l.take b).toArray⟩
  have e : (l.drop 0).take (min b l.length - 0) = l.take b := by
    rw [List.drop_zero, Nat.sub_zero]
    by_cases h : b ≤ l.length
    · rw [Nat.min_eq_left h]
    · rw [Nat.min_eq_right (by omega), List.take_of_length_le (Nat.le_refl _), List.take_of_length_le (by omega)]
  rw [e]
theorem getD_of {l : List Nat} {i c : Nat} (h : l[i]? = some c) : l.getD i 0 = c := by
  rw [List.getD_eq_getElem?_getD, h]
  rfl
theorem tx_at {l : List Nat} {i c : Nat} (h : (Tx l).cps[i]? = some c) : l[i]? = some c := by simpa [Tx] using h
theorem tx_size (l : List Nat) : (Tx l).cps.size = l.length := by simp [Tx]
theorem one_lt (a b : Nat) : decide (([a] : List Nat) < [b]) = decide (a < b) := by
  by_cases h : a < b
  · rw [decide_eq_true h, decide_eq_true (List.cons_lt_cons_iff.mpr (.inl h))]
  · rw [decide_eq_false h]
    apply decide_eq_false
    intro z
    rcases List.cons_lt_cons_iff.mp z with z | ⟨_, z⟩
    · exact h z
    · exact absurd z (by simp)
section
variable {P : Program} {w : World} {K : PySem.W.Frag} {mg : Str → Option Value} {base : Heap}
abbrev st_is_rising : Stmt := top 4
abbrev nm_is_rising : List Str := ["signs", "one", "other"]
theorem sc_is_rising : FnScope nm_is_rising ["signs"] (defScope st_is_rising) := ⟨rfl, rfl, rfl, by decide +kernel, rfl, by decide +kernel, by decide +kernel⟩
def spIsRising : Sp := fun vs H Q _ => ∃ l, vs = [.str (Tx l)] ∧ l.length ≤ 1000 ∧ ∀ H', Same H H' → Q (.bl (ris l)) H'
theorem ok_is_rising {f : Addr} {fd : FuncData} (F : Fun K "is_rising" "is_rising" st_is_rising f fd) (T : Blt mg) : FnOk P w K mg base CX0 1 f fd ["signs"] spIsRising := by
  refine F.ok sc_is_rising (fun vs H Q E h => ?_) (fun cdv A outer s H vs Q E hr h => ?_)
  · obtain ⟨l, rfl, _⟩ := h
    rfl
  · obtain ⟨l, rfl, hl, q⟩ := h
    refine ⟨_, (pss_one (ps_ret (pe_callB (cr_all rfl) (by rfl) T.n_all (by decide +kernel) (pa_cons (pe_lc (own := [("one", 1), ("other", 2)]) (g := (gTup K 2 (gCons (gName 1) (gCons (gName 2) gNil)))) (tt := tYes) rfl sc_is_rising.nd (pi_zipS (by rfl) T.n_zip (pa_cons (pv 0) (pa_cons (pe_slice sl_str (pv 0) (po_some pe_int) po_none) pa_nil))) (blkOk_by (N := nm_is_rising) (sc := defScope st_is_rising) (own := [("one", 1), ("other", 2)]) (by decide +kernel)) (fun _ _ _ _ _ => by exact pg_tup rfl (pgs_cons (pg_name (i := 1) sc_is_rising.nd rfl (Or.inl rfl)) (pgs_cons (pg_name (i := 2) sc_is_rising.nd rfl (Or.inl rfl)) pgs_nil))) (fun _ _ _ _ _ => pts_nil) (fun _ _ _ _ _ => (pe_cmpR op_lt_str (pv 1) (pv 2) (nomark _)))) pa_nil)))), ?_⟩
    refine ⟨_, rfl, _, rfl, _, rfl, _, rfl, Nat.le_of_lt (Nat.lt_of_le_of_lt (by rw [tx_len]; exact hl) (by decide : 1000 < sizeLine)), _, _, rfl, fun D hD => ?_⟩
    have e1 : cutS (Tx l) (some 1) none = Tx (l.drop 1) := cut_from l 1
    rw [e1]
    refine lc_it (n := l.length - 1) (walk_zs (by rw [tx_size, tx_size, List.length_drop]; omega)) (SPv H D fun i => ((List.range i).map fun i => decide (l.getD i 0 < l.getD (i + 1) 0)).map V.bl) (spv0 hD rfl) (fun _ _ _ _ => trivial) ?_ ?_
    · rintro i x H2 H3 hi ⟨p1, p2⟩ ⟨Tt, c, d, rfl, hT, rfl, g1, g2⟩
      refine ⟨Tt, _, rfl, SqT.of upd_same, rfl, _, _, rfl, _, _, rfl, rfl, rfl, ?_⟩
      refine ⟨_, rfl, _, rfl, _, _, rfl, rfl, ?_⟩
      have d2 : (l.drop 1)[i]? = some d := tx_at g2
      rw [List.getElem?_drop, Nat.add_comm] at d2
      have ec : l.getD i 0 = c := getD_of (tx_at g1)
      have ed : l.getD (i + 1) 0 = d := getD_of d2
      have e2 : decide ((⟨#[c]⟩ : Str).cps.toList < (⟨#[d]⟩ : Str).cps.toList) = decide (l.getD i 0 < l.getD (i + 1) 0) := by
        rw [ec, ed]
        exact one_lt c d
      rw [e2]
      refine spv_put hD (Same.trans p1 (Sm.new hT)) ((upd_ne (ne_of_none p2 hT)).trans p2) ?_ ?_
      · simp only [List.length_map, List.length_range]
        omega
      · rw [map_range_succ]
        simp
    · rintro H2 ⟨p1, p2⟩
      refine ⟨D, _, rfl, SqL.of p2, ?_⟩
      rw [← ris_at]
      exact q _ p1
end
theorem sm_l {K : PySem.W.Frag} {H H' : Hp} {a : Addr} {xs : List V} (s : Same H H') (h : SqL K H a xs) : SqL K H' a xs := s.seq h
theorem sm_t {K : PySem.W.Frag} {H H' : Hp} {a : Addr} {xs : List V} (s : Same H H') (h : SqT K H a xs) : SqT K H' a xs := by
  rcases h with (h | ⟨o, h⟩) | h
  · exact .inl (.inl (s _ _ h))
  · exact .inl (.inr ⟨o, s _ _ h⟩)
  · exact .inr h
section
variable {P : Program} {w : World} {K : PySem.W.Frag} {mg : Str → Option Value} {base : Heap}
abbrev CLW (P : Program) (w : World) (K : PySem.W.Frag) (mg : Str → Option Value) (base : Heap) : Prop := Cal P w K mg base 1 "is_long_word" st_is_long_word ["value"] (spIsLongWord K)
theorem int_eq (n : Nat) (k : Nat) : decide (V.int (n : Int) = V.int (k : Int)) = decide (n = k) := by
  by_cases h : n = k
  · subst h
    rw [decide_eq_true rfl, decide_eq_true rfl]
  · rw [decide_eq_false h]
    apply decide_eq_false
    intro z
    have := V.int.inj z
    omega
abbrev st_is_word : Stmt := top 5
abbrev nm_is_word : List Str := ["value"]
theorem sc_is_word : FnScope nm_is_word ["value"] (defScope st_is_word) := ⟨rfl, rfl, rfl, by decide +kernel, rfl, by decide +kernel, by decide +kernel⟩
def spIsWord (K : PySem.W.Frag) : Sp := fun vs H Q _ => ∃ v, vs = [v] ∧ Sov K H v (fun l => Q (.bl (lw l && decide (l.length ≤ 12))) H) (Q (.bl false) H)
theorem int_le (n k : Nat) : decide ((n : Int) ≤ (k : Int)) = decide (n ≤ k) := by
  by_cases h : n ≤ k
  · rw [decide_eq_true h]
    exact decide_eq_true (by omega)
  · rw [decide_eq_false h]
    exact decide_eq_false (by omega)
theorem ok_is_word {f : Addr} {fd : FuncData} (F : Fun K "is_word" "is_word" st_is_word f fd) (T : Blt mg) (C_is_long_word : CLW P w K mg base) : FnOk P w K mg base CX0 2 f fd ["value"] (spIsWord K) := by
  refine F.ok sc_is_word (fun vs H Q E h => ?_) (fun cdv A outer s H vs Q E hr h => ?_)
  · obtain ⟨v, rfl, _⟩ := h
    rfl
  · refine ⟨_, (pss_one (ps_ret (pe_and (pe_cl C_is_long_word (hr.mono (by decide)) rfl (pa_cons (pv 0) pa_nil)) (pe_one (pe_cmpR op_le (pe_callB call_len_str (by rfl) T.n_len (by decide +kernel) (pa_cons (pv 0) pa_nil)) pe_int (nomark _)))))), ?_⟩
    obtain ⟨v, rfl, ⟨l, rfl, hl, q⟩ | ⟨n, kd, hn, q⟩⟩ := h
    · refine ⟨_, rfl, _, rfl, .inl ⟨l, rfl, hl, _, rfl, ?_⟩⟩
      cases h1 : lw l
      · rw [h1] at q
        exact q
      · rw [h1] at q
        refine ⟨_, rfl, _, rfl, (by rw [tx_len]; exact Nat.le_trans hl (by decide)), _, _, rfl, rfl, ?_⟩
        rw [tx_len]
        show Q (V.bl (decide ((l.length : Int) ≤ 12))) H
        rw [show decide ((l.length : Int) ≤ 12) = decide (l.length ≤ 12) from int_le l.length 12]
        exact q
    · exact ⟨_, rfl, _, rfl, .inr ⟨n, kd, hn, _, rfl, q⟩⟩
/-! ### is_stock -/
abbrev st_is_stock : Stmt := top 6
abbrev nm_is_stock : List Str := ["value"]
theorem sc_is_stock : FnScope nm_is_stock ["value"] (defScope st_is_stock) := ⟨rfl, rfl, rfl, by decide +kernel, rfl, by decide +kernel, by decide +kernel⟩
def stOk (l : List Nat) : Bool := lw l && ((decide (1 ≤ l.length) && decide (l.length ≤ 5)) && ris l)
def spIsStock (K : PySem.W.Frag) : Sp := fun vs H Q _ => ∃ v, vs = [v] ∧ Sov K H v (fun l => ∀ H', Same H H' → Q (.bl (stOk l)) H') (Q (.bl false) H)
theorem ok_is_stock {f : Addr} {fd : FuncData} (F : Fun K "is_stock" "is_stock" st_is_stock f fd) (T : Blt mg) (C_is_long_word : CLW P w K mg base)
    (C_is_rising : Cal P w K mg base 1 "is_rising" st_is_rising ["signs"] spIsRising) : FnOk P w K mg base CX0 2 f fd ["value"] (spIsStock K) := by
  refine F.ok sc_is_stock (fun vs H Q E h => ?_) (fun cdv A outer s H vs Q E hr h => ?_)
  · obtain ⟨v, rfl, _⟩ := h
    rfl
  · refine ⟨_, (pss_one (ps_ret (pe_and (pe_cl C_is_long_word (hr.mono (by decide)) rfl (pa_cons (pv 0) pa_nil)) (pe_and (pe_chain op_le op_le pe_int (pe_callB call_len_str (by rfl) T.n_len (by decide +kernel) (pa_cons (pv 0) pa_nil)) pe_int) (pe_one (pe_cl C_is_rising (hr.mono (by decide)) rfl (pa_cons (pv 0) pa_nil))))))), ?_⟩
    obtain ⟨v, rfl, ⟨l, rfl, hl, q⟩ | ⟨n, kd, hn, q⟩⟩ := h
    · refine ⟨_, rfl, _, rfl, .inl ⟨l, rfl, hl, _, rfl, ?_⟩⟩
      unfold stOk at q
      cases h1 : lw l
      · rw [h1] at q
        exact q H (Same.refl H)
      · rw [h1, Bool.true_and] at q
        refine ⟨_, rfl, _, rfl, (by rw [tx_len]; exact Nat.le_trans hl (by decide)), _, _, rfl, rfl, _, rfl, ?_⟩
        rw [tx_len]
        show if decide ((1 : Int) ≤ (l.length : Int)) = true then _ else _
        rw [show decide ((1 : Int) ≤ (l.length : Int)) = decide (1 ≤ l.length) from int_le 1 l.length]
        cases h2 : decide (1 ≤ l.length)
        · rw [h2] at q
          exact ⟨_, rfl, q H (Same.refl H)⟩
        · rw [h2, Bool.true_and] at q
          refine ⟨_, _, rfl, rfl, decide ((l.length : Int) ≤ 5), rfl, ?_⟩
          rw [show decide ((l.length : Int) ≤ 5) = decide (l.length ≤ 5) from int_le l.length 5]
          cases h3 : decide (l.length ≤ 5)
          · rw [h3] at q
            exact q H (Same.refl H)
          · rw [h3, Bool.true_and] at q
            exact ⟨_, rfl, l, rfl, hl, q⟩
    · exact ⟨_, rfl, _, rfl, .inr ⟨n, kd, hn, _, rfl, q⟩⟩
/-! ### of_stock -/
abbrev st_of_stock : Stmt := top 7
abbrev nm_of_stock : List Str := ["word", "stock", "sound"]
theorem sc_of_stock : FnScope nm_of_stock ["word", "stock"] (defScope st_of_stock) := ⟨rfl, rfl, rfl, by decide +kernel, rfl, by decide +kernel, by decide +kernel⟩
def ofOk (l k : List Nat) : Bool := lw l && l.all fun c => decide (c ∈ k)
def spOfStock : Sp := fun vs H Q _ => ∃ l k, vs = [.str (Tx l), .str (Tx k)] ∧ l.length ≤ 1000 ∧ ∀ H', Same H H' → Q (.bl (ofOk l k)) H'
theorem ok_of_stock {f : Addr} {fd : FuncData} (F : Fun K "of_stock" "of_stock" st_of_stock f fd) (T : Blt mg) (C_is_long_word : CLW P w K mg base) : FnOk P w K mg base CX0 2 f fd ["word", "stock"] spOfStock := by
  refine F.ok sc_of_stock (fun vs H Q E h => ?_) (fun cdv A outer s H vs Q E hr h => ?_)
  · obtain ⟨l, k, rfl, _⟩ := h
    rfl
  · refine ⟨_, (pss_one (ps_ret (pe_and (pe_cl C_is_long_word (hr.mono (by decide)) rfl (pa_cons (pv 0) pa_nil)) (pe_and (pe_callB call_isi (by rfl) T.n_isinstance (by decide +kernel) (pa_cons (pv 1) (pa_cons (pe_bltn (v := .ty "str") (by rfl) T.n_str (by decide +kernel) rfl) pa_nil))) (pe_one (pe_callB (cr_all rfl) (by rfl) T.n_all (by decide +kernel) (pa_cons (pe_lc (own := [("sound", 2)]) (g := (gName 2)) (tt := tYes) rfl sc_of_stock.nd (pi_str (pv 0)) (blkOk_by (N := nm_of_stock) (sc := defScope st_of_stock) (own := [("sound", 2)]) (by decide +kernel)) (fun _ _ _ _ _ => by exact pg_name (i := 2) sc_of_stock.nd rfl (Or.inl rfl)) (fun _ _ _ _ _ => pts_nil) (fun _ _ _ _ _ => (pe_cmpR op_in_sign (pv 2) (pv 1) rfl))) pa_nil))))))), ?_⟩
    obtain ⟨l, k, rfl, hl, q⟩ := h
    refine ⟨_, rfl, _, rfl, .inl ⟨l, rfl, hl, _, rfl, ?_⟩⟩
    unfold ofOk at q
    cases h1 : lw l
    · rw [h1] at q
      exact q H (Same.refl H)
    · rw [h1, Bool.true_and] at q
      refine ⟨_, rfl, _, _, _, _, _, rfl, .ty "str", .base (.str _), kit_ty (b := "str") (r := true) (by decide +kernel), _, rfl, ?_⟩
      refine ⟨_, rfl, _, rfl, fun D hD => ?_⟩
      refine lc_it (n := l.length) (by have h := walk_str (z := Tx l); rw [tx_size] at h; exact h) (SPv H D fun i => (l.take i).map fun c => V.bl (decide (c ∈ k))) (spv0 hD rfl) (fun _ _ _ _ => trivial) ?_ ?_
      · rintro i x H2 H3 hi ⟨p1, p2⟩ ⟨rfl, c, g, rfl⟩
        have hc := tx_at g
        refine ⟨rfl, ?_⟩
        refine ⟨_, rfl, _, rfl, c, _, rfl, rfl, ?_⟩
        rw [tx_list]
        refine spv_put hD p1 p2 ?_ ?_
        · rw [List.length_map, List.length_take]
          omega
        · rw [List.take_succ, List.map_append, hc]
          rfl
      · rintro H2 ⟨p1, p2⟩
        refine ⟨D, l.map fun c => decide (c ∈ k), rfl, SqL.of ?_, ?_⟩
        · rw [p2]
          dsimp only
          rw [List.take_length, List.map_map]
          rfl
        · have e : (l.map fun c => decide (c ∈ k)).all id = l.all fun c => decide (c ∈ k) := by
            rw [List.all_map]
            rfl
          rw [e]
          exact q _ p1
end
end K4
namespace K4
open PySem PySem.Spec PyProof.Rows L2 K0
section
variable {P : Program} {w : World} {K : PySem.W.Frag} {mg : Str → Option Value} {base : Heap}
abbrev st_i_BadWord : Stmt := inClass (top 10) 0
theorem sc_i_BadWord : FnScope ["self", "part"] ["self", "part"] (defScope st_i_BadWord) := ⟨rfl, rfl, rfl, by decide +kernel, rfl, by decide +kernel, by decide +kernel⟩
theorem ok_i_BadWord {f : Addr} {fd : FuncData} (F : Fun K "__init__" "BadWord.__init__" st_i_BadWord f fd) : FnOk P w K mg base CX0 1 f fd ["self", "part"] (spInit1 K "part") := by
  refine F.ok sc_i_BadWord (fun vs H Q E h => ?_) (fun cdv A outer s H vs Q E hr h => ?_)
  · obtain ⟨a, C, v, rfl, _⟩ := h
    rfl
  · obtain ⟨a, C, v, rfl, T, hno, ha, k⟩ := h
    exact ⟨_, pss_one (ps_ost (pv 0) (pv 1)), _, rfl, _, rfl, a, C, rfl, T, hno, .inl ⟨ha, fun dx n ne => k dx n ne⟩⟩
abbrev st_i_BadStock : Stmt := inClass (top 11) 0
theorem sc_i_BadStock : FnScope ["self", "part"] ["self", "part"] (defScope st_i_BadStock) := ⟨rfl, rfl, rfl, by decide +kernel, rfl, by decide +kernel, by decide +kernel⟩
theorem ok_i_BadStock {f : Addr} {fd : FuncData} (F : Fun K "__init__" "BadStock.__init__" st_i_BadStock f fd) : FnOk P w K mg base CX0 1 f fd ["self", "part"] (spInit1 K "part") := by
  refine F.ok sc_i_BadStock (fun vs H Q E h => ?_) (fun cdv A outer s H vs Q E hr h => ?_)
  · obtain ⟨a, C, v, rfl, _⟩ := h
    rfl
  · obtain ⟨a, C, v, rfl, T, hno, ha, k⟩ := h
    exact ⟨_, pss_one (ps_ost (pv 0) (pv 1)), _, rfl, _, rfl, a, C, rfl, T, hno, .inl ⟨ha, fun dx n ne => k dx n ne⟩⟩
abbrev st_i_BadNumber : Stmt := inClass (top 12) 0
theorem sc_i_BadNumber : FnScope ["self", "part"] ["self", "part"] (defScope st_i_BadNumber) := ⟨rfl, rfl, rfl, by decide +kernel, rfl, by decide +kernel, by decide +kernel⟩
theorem ok_i_BadNumber {f : Addr} {fd : FuncData} (F : Fun K "__init__" "BadNumber.__init__" st_i_BadNumber f fd) : FnOk P w K mg base CX0 1 f fd ["self", "part"] (spInit1 K "part") := by
  refine F.ok sc_i_BadNumber (fun vs H Q E h => ?_) (fun cdv A outer s H vs Q E hr h => ?_)
  · obtain ⟨a, C, v, rfl, _⟩ := h
    rfl
  · obtain ⟨a, C, v, rfl, T, hno, ha, k⟩ := h
    exact ⟨_, pss_one (ps_ost (pv 0) (pv 1)), _, rfl, _, rfl, a, C, rfl, T, hno, .inl ⟨ha, fun dx n ne => k dx n ne⟩⟩
abbrev st_i_Misfit : Stmt := inClass (top 13) 0
theorem sc_i_Misfit : FnScope ["self", "part"] ["self", "part"] (defScope st_i_Misfit) := ⟨rfl, rfl, rfl, by decide +kernel, rfl, by decide +kernel, by decide +kernel⟩
theorem ok_i_Misfit {f : Addr} {fd : FuncData} (F : Fun K "__init__" "Misfit.__init__" st_i_Misfit f fd) : FnOk P w K mg base CX0 1 f fd ["self", "part"] (spInit1 K "part") := by
  refine F.ok sc_i_Misfit (fun vs H Q E h => ?_) (fun cdv A outer s H vs Q E hr h => ?_)
  · obtain ⟨a, C, v, rfl, _⟩ := h
    rfl
  · obtain ⟨a, C, v, rfl, T, hno, ha, k⟩ := h
    exact ⟨_, pss_one (ps_ost (pv 0) (pv 1)), _, rfl, _, rfl, a, C, rfl, T, hno, .inl ⟨ha, fun dx n ne => k dx n ne⟩⟩
abbrev st_i_TooMany : Stmt := inClass (top 14) 0
theorem sc_i_TooMany : FnScope ["self", "what", "most"] ["self", "what", "most"] (defScope st_i_TooMany) := ⟨rfl, rfl, rfl, by decide +kernel, rfl, by decide +kernel, by decide +kernel⟩
theorem ok_i_TooMany {f : Addr} {fd : FuncData} (F : Fun K "__init__" "TooMany.__init__" st_i_TooMany f fd) : FnOk P w K mg base CX0 1 f fd ["self", "what", "most"] (spInit2 K "what" "most") := by
  refine F.ok sc_i_TooMany (fun vs H Q E h => ?_) (fun cdv A outer s H vs Q E hr h => ?_)
  · obtain ⟨a, C, u, v, rfl, _⟩ := h
    rfl
  · obtain ⟨a, C, u, v, rfl, T, h1, h2, ha, k⟩ := h
    exact ⟨_, pss_cons (ps_ost (pv 0) (pv 1)) (pss_one (ps_ost (pv 0) (pv 2))), _, rfl, _, rfl, a, C, rfl, T, h1, .inl ⟨ha, fun dx n ne =>
      ⟨_, rfl, _, rfl, a, C, rfl, T, h2, .inr ⟨dx, _, upd_same, (upd_ne ne).trans upd_same, (by show 1 ≤ 900; decide), k dx n ne⟩⟩⟩⟩

/-! ### need_word, need_stock, need_number -/
def wdOk (l : List Nat) : Bool := lw l && decide (l.length ≤ 12)
theorem iteBr {α : Prop} {b : Bool} {p q : α → Prop} : True := trivial
abbrev st_need_word : Stmt := top 16
abbrev nm_need_word : List Str := ["value", "part"]
theorem sc_need_word : FnScope nm_need_word ["value", "part"] (defScope st_need_word) := ⟨rfl, rfl, rfl, by decide +kernel, rfl, by decide +kernel, by decide +kernel⟩
def spNeedWord (K : PySem.W.Frag) (cs : Nat → Addr) : Sp := fun vs H Q E => ∃ (v : V) (z : Str), vs = [v, .str z] ∧ Sov K H v (fun l => (wdOk l = true → Q .non H) ∧ (wdOk l = false → Rz cs (.word z) H E)) (Rz cs (.word z) H E)
theorem ok_need_word {f : Addr} {fd : FuncData} {cs : Nat → Addr} (F : Fun K "need_word" "need_word" st_need_word f fd) (E_BadWord : Rs1 P w K mg base "BadWord" (cs 0) "part")
    (C_is_word : Cal P w K mg base 2 "is_word" st_is_word ["value"] (spIsWord K)) : FnOk P w K mg base (L2.CX P w) 3 f fd ["value", "part"] (spNeedWord K cs) := by
  refine F.okX sc_need_word (fun vs H Q E h => ?_) (fun cdv A outer s H vs Q E hr h => ?_)
  · obtain ⟨v, z, rfl, _⟩ := h
    rfl
  · refine ⟨_, (pss_one (ps_if (pt_not (pt_val (pe_cl C_is_word (hr.mono (by decide)) rfl (pa_cons (pv 0) pa_nil)))) (pss_one (ps_raise1 E_BadWord (hr.mono (by decide)) rfl (takes_of rfl rfl rfl rfl) rfl (pa_cons (pv 1) pa_nil))) pss_nil)), ?_⟩
    obtain ⟨v, z, rfl, h⟩ := h
    have bad : Rz cs (.word z) H E → ∀ d H', Same H H' → H' d = some (.xd [("part", .str z)]) → E (.ref (cs 0)) (some d) H' := fun r d H' s q => r _ _ _ ⟨rfl, d, rfl, s, q⟩
    rcases h with ⟨l, rfl, hl, q1, q2⟩ | ⟨n, kd, hn, q⟩
    · refine ⟨_, rfl, _, rfl, .inl ⟨l, rfl, hl, _, rfl, ?_⟩⟩
      cases c : wdOk l
      · unfold wdOk at c
        rw [c]
        exact ⟨_, rfl, bad (q2 c)⟩
      · have c' := c
        unfold wdOk at c'
        rw [c']
        exact q1 c
    · exact ⟨_, rfl, _, rfl, .inr ⟨n, kd, hn, _, rfl, _, rfl, bad q⟩⟩
abbrev st_need_stock : Stmt := top 17
abbrev nm_need_stock : List Str := ["value", "part"]
theorem sc_need_stock : FnScope nm_need_stock ["value", "part"] (defScope st_need_stock) := ⟨rfl, rfl, rfl, by decide +kernel, rfl, by decide +kernel, by decide +kernel⟩
def spNeedStock (K : PySem.W.Frag) (cs : Nat → Addr) : Sp := fun vs H Q E => ∃ (v : V) (z : Str), vs = [v, .str z] ∧ Sov K H v (fun l => (stOk l = true → ∀ H', Same H H' → Q .non H') ∧ (stOk l = false → Rz cs (.stock z) H E)) (Rz cs (.stock z) H E)
theorem ok_need_stock {f : Addr} {fd : FuncData} {cs : Nat → Addr} (F : Fun K "need_stock" "need_stock" st_need_stock f fd) (E_BadStock : Rs1 P w K mg base "BadStock" (cs 1) "part")
    (C_is_stock : Cal P w K mg base 2 "is_stock" st_is_stock ["value"] (spIsStock K)) : FnOk P w K mg base (L2.CX P w) 3 f fd ["value", "part"] (spNeedStock K cs) := by
  refine F.okX sc_need_stock (fun vs H Q E h => ?_) (fun cdv A outer s H vs Q E hr h => ?_)
  · obtain ⟨v, z, rfl, _⟩ := h
    rfl
  · refine ⟨_, (pss_one (ps_if (pt_not (pt_val (pe_cl C_is_stock (hr.mono (by decide)) rfl (pa_cons (pv 0) pa_nil)))) (pss_one (ps_raise1 E_BadStock (hr.mono (by decide)) rfl (takes_of rfl rfl rfl rfl) rfl (pa_cons (pv 1) pa_nil))) pss_nil)), ?_⟩
    obtain ⟨v, z, rfl, h⟩ := h
    have bad : ∀ {H1}, Same H H1 → Rz cs (.stock z) H E → ∀ d H', Same H1 H' → H' d = some (.xd [("part", .str z)]) → E (.ref (cs 1)) (some d) H' := fun s1 r d H' s q => r _ _ _ ⟨rfl, d, rfl, s1.trans s, q⟩
    rcases h with ⟨l, rfl, hl, q1, q2⟩ | ⟨n, kd, hn, q⟩
    · refine ⟨_, rfl, _, rfl, .inl ⟨l, rfl, hl, fun H1 s1 => ⟨_, rfl, ?_⟩⟩⟩
      cases c : stOk l
      · exact ⟨_, rfl, bad s1 (q2 c)⟩
      · exact q1 c H1 s1
    · exact ⟨_, rfl, _, rfl, .inr ⟨n, kd, hn, _, rfl, _, rfl, bad (Same.refl H) q⟩⟩
abbrev st_need_number : Stmt := top 18
abbrev nm_need_number : List Str := ["value", "part", "least", "most"]
theorem sc_need_number : FnScope nm_need_number ["value", "part", "least", "most"] (defScope st_need_number) := ⟨rfl, rfl, rfl, by decide +kernel, rfl, by decide +kernel, by decide +kernel⟩
def spNeedNumber (K : PySem.W.Frag) (cs : Nat → Addr) : Sp := fun vs H Q E => ∃ (v lo hi : V) (z : Str), vs = [v, .str z, lo, hi] ∧ ((∃ n, Kd K H v n ∧ (n == "int") = false ∧ Rz cs (.number z) H E) ∨
  ∃ i, v = .int i ∧ Bnd lo ∧ Bnd hi ∧ ((okLo lo i && okHi hi i) = true → Q .non H) ∧ ((okLo lo i && okHi hi i) = false → Rz cs (.number z) H E))
theorem ok_need_number {f : Addr} {fd : FuncData} {cs : Nat → Addr} (F : Fun K "need_number" "need_number" st_need_number f fd) (E_BadNumber : Rs1 P w K mg base "BadNumber" (cs 2) "part")
    (C_is_within : Cal P w K mg base 2 "is_within" st_is_within ["value", "least", "most"] (spIsWithin K)) : FnOk P w K mg base (L2.CX P w) 3 f fd ["value", "part", "least", "most"] (spNeedNumber K cs) := by
  refine F.okX sc_need_number (fun vs H Q E h => ?_) (fun cdv A outer s H vs Q E hr h => ?_)
  · obtain ⟨v, lo, hi, z, rfl, _⟩ := h
    rfl
  · refine ⟨_, (pss_one (ps_if (pt_not (pt_val (pe_cl C_is_within (hr.mono (by decide)) rfl (pa_cons (pv 0) (pa_cons (pv 2) (pa_cons (pv 3) pa_nil)))))) (pss_one (ps_raise1 E_BadNumber (hr.mono (by decide)) rfl (takes_of rfl rfl rfl rfl) rfl (pa_cons (pv 1) pa_nil))) pss_nil)), ?_⟩
    obtain ⟨v, lo, hi, z, rfl, h⟩ := h
    have bad : Rz cs (.number z) H E → ∀ d H', Same H H' → H' d = some (.xd [("part", .str z)]) → E (.ref (cs 2)) (some d) H' := fun r d H' s q => r _ _ _ ⟨rfl, d, rfl, s, q⟩
    rcases h with ⟨n, kd, hn, q⟩ | ⟨i, rfl, b1, b2, q1, q2⟩
    · exact ⟨_, rfl, _, rfl, _, rfl, _, _, _, rfl, .inl ⟨n, kd, hn, _, rfl, _, rfl, bad q⟩⟩
    · refine ⟨_, rfl, _, rfl, _, rfl, _, _, _, rfl, .inr ⟨i, rfl, b1, b2, _, rfl, ?_⟩⟩
      cases c : (okLo lo i && okHi hi i)
      · exact ⟨_, rfl, bad (q2 c)⟩
      · exact q1 c
end
end K4
namespace K4
open PySem PySem.Spec PyProof.Rows L2 K0
section
variable {P : Program} {w : World} {K : PySem.W.Frag} {mg : Str → Option Value} {base : Heap}

/-! ### longer_words -/
abbrev st_longer_words : Stmt := top 22
abbrev nm_longer_words : List Str := ["words", "stock", "word", "sound"]
theorem sc_longer_words : FnScope nm_longer_words ["words", "stock"] (defScope st_longer_words) := ⟨rfl, rfl, rfl, by decide +kernel, rfl, by decide +kernel, by decide +kernel⟩
def spLonger (K : PySem.W.Frag) : Sp := fun vs H Q _ => ∃ (a : Addr) (ws : List (List Nat)) (S : List Nat), vs = [.ref a, .str (Tx S)] ∧ SqL K H a (tws ws) ∧ ws.length * S.length ≤ 100000 ∧ (∀ w ∈ ws, w.length ≤ 1000) ∧
  ∀ H' p, Same H H' → H p = none → H' p = some (.lst (tws (ext S ws))) → Q (.ref p) H'
theorem ok_longer_words {f : Addr} {fd : FuncData} (F : Fun K "longer_words" "longer_words" st_longer_words f fd) : FnOk P w K mg base CX0 1 f fd ["words", "stock"] (spLonger K) := by
  refine F.ok sc_longer_words (fun vs H Q E h => ?_) (fun cdv A outer s H vs Q E hr h => ?_)
  · obtain ⟨a, ws, S, rfl, _⟩ := h
    rfl
  · refine ⟨_, (pss_one (ps_ret (pe_lc2 (own := [("word", 2), ("sound", 3)]) (vs1 := [3]) (g := (gName 2)) (tt := tYes) (g1 := (gName 3)) (tt1 := tYes) rfl sc_longer_words.nd (pi_list (pv 0)) (blkOk_by (N := nm_longer_words) (sc := defScope st_longer_words) (own := [("word", 2), ("sound", 3)]) (by decide +kernel)) (by decide) (fun _ _ _ _ _ => by exact pg_name (i := 2) sc_longer_words.nd rfl (Or.inl rfl)) (fun _ _ _ _ _ => pts_nil) (fun _ _ _ _ _ => (pi_str (pv 1))) (fun _ _ _ _ _ => by exact pg_name (i := 3) sc_longer_words.nd rfl (Or.inl rfl)) (fun _ _ _ _ _ => pts_nil) (fun _ _ _ _ _ => (pe_op op_add_str (pv 2) (pv 3)))))), ?_⟩
    obtain ⟨a, ws, S, rfl, hS, hz, hw, q⟩ := h
    refine ⟨_, rfl, a, rfl, ⟨_, hS⟩, fun D hD => ?_⟩
    have wl := walk_list (K := K) (a := a) (xs := tws ws)
    rw [tws_len] at wl
    refine lc2_it (n := ws.length) wl (SPv H D fun i => tws (ext S (ws.take i))) (spv0 hD rfl) (fun i H2 _ p => p.1.seq hS) ?_ ?_
    · rintro i x H2 H3 hi ⟨p1, p2⟩ ⟨rfl, hx⟩
      obtain ⟨u, hu, rfl⟩ := tws_at hx
      refine ⟨rfl, _, rfl, _, rfl, ?_⟩
      refine in2_it (n := S.length) walk_tx (fun j H4 => Same H H4 ∧ H4 D = some (.lst (tws (ext S (ws.take i) ++ (S.take j).map fun c => u ++ [c])))) ⟨p1, by rw [p2]; simp⟩ (fun _ _ _ _ => trivial) ?_ ?_
      · rintro j y H4 H5 hj ⟨p3, p4⟩ ⟨rfl, c, hc, rfl⟩
        refine ⟨rfl, _, rfl, _, rfl, _, _, rfl, rfl, ?_, _, p4, ?_, ?_, ?_⟩
        · have := hw u (List.mem_of_getElem? hu)
          rw [tx_len, tx_len]
          exact small_line (by show u.length + 1 ≤ 1000000; omega)
        · rw [tws_len, List.length_append, ext_len, List.length_map, List.length_take, List.length_take]
          have h1 : (i + 1) * S.length ≤ ws.length * S.length := Nat.mul_le_mul_right _ hi
          have h2 : min i ws.length * S.length ≤ i * S.length := Nat.mul_le_mul_right _ (Nat.min_le_left _ _)
          rw [Nat.succ_mul] at h1
          exact small_lt (by omega)
        · exact Sm.put p3 hD
        · rw [upd_same, List.take_succ, hc, tx_app]
          simp [tws]
      · rintro H4 ⟨p3, p4⟩
        refine ⟨p3, ?_⟩
        rw [p4, List.take_length]
        dsimp only
        rw [ext_take hu]
    · rintro H2 ⟨p1, p2⟩
      dsimp only at p2
      rw [List.take_length] at p2
      exact q H2 D p1 hD p2
/-! ### many_of_length -/
abbrev st_many_of_length : Stmt := top 23
abbrev nm_many_of_length : List Str := ["stock", "length", "many", "_"]
theorem sc_many_of_length : FnScope nm_many_of_length ["stock", "length"] (defScope st_many_of_length) := ⟨rfl, rfl, rfl, by decide +kernel, rfl, by decide +kernel, by decide +kernel⟩
def spManyOf : Sp := fun vs H Q _ => ∃ (S : List Nat) (m : Nat), vs = [.str (Tx S), .int (m : Int)] ∧ S.length ≤ 5 ∧ m ≤ 12 ∧ Q (.int ((S.length ^ m : Nat) : Int)) H
theorem pow_small {k m : Nat} (hk : k ≤ 5) (hm : m ≤ 12) : k ^ m ≤ 244140625 := by
  have h1 : k ^ m ≤ 5 ^ m := Nat.pow_le_pow_left hk m
  have h2 : 5 ^ m ≤ 5 ^ 12 := Nat.pow_le_pow_right (by decide) hm
  exact Nat.le_trans (Nat.le_trans h1 h2) (by decide)
theorem ok_many_of_length {f : Addr} {fd : FuncData} (F : Fun K "many_of_length" "many_of_length" st_many_of_length f fd) (T : Blt mg) : FnOk P w K mg base CX0 1 f fd ["stock", "length"] spManyOf := by
  refine F.ok sc_many_of_length (fun vs H Q E h => ?_) (fun cdv A outer s H vs Q E hr h => ?_)
  · obtain ⟨S, m, rfl, _⟩ := h
    rfl
  · refine ⟨_, (pss_cons (ps_set (i := 2) sc_many_of_length.nd rfl (Or.inl rfl) pe_int)
  (pss_cons (ps_for PassesOwn.never rfl (pi_range1 rfl T.n_range (pa_cons (pv 1) pa_nil)) (pg_name (i := 3) sc_many_of_length.nd rfl (Or.inl rfl)) (pss_one (ps_aug (i := 2) sc_many_of_length.nd rfl (Or.inl rfl) (pe_callB call_len_str (by rfl) T.n_len (by decide +kernel) (pa_cons (pv 0) pa_nil)) ip_mul)))
  (pss_one (ps_ret (pv 2))))), ?_⟩
    obtain ⟨S, m, rfl, hk, hm, q⟩ := h
    refine ⟨_, rfl, (m : Int), rfl, by omega, by omega, ?_⟩
    refine for_it (n := (m : Int).toNat) walk_range (fun i σ H' => H' = H ∧ ∃ v, σ = [some (.str (Tx S)), some (.int (m : Int)), some (.int ((S.length ^ i : Nat) : Int)), v]) ⟨rfl, none, rfl⟩ (fun _ _ _ _ _ => trivial) ?_ ?_
    · rintro i x σ H2 H3 hi ⟨rfl, v, rfl⟩ ⟨rfl, rfl⟩
      have hi' : i ≤ 12 := by omega
      have hb := pow_small hk hi'
      refine ⟨_, rfl, _, rfl, _, rfl, (by rw [tx_len]; exact small_line (by omega)), _, _, rfl, rfl, ⟨by omega, by omega⟩, rfl, some (.int (0 + (i : Int))), ?_⟩
      have e : ((S.length ^ i : Nat) : Int) * ((Tx S).length : Int) = ((S.length ^ (i + 1) : Nat) : Int) := by rw [tx_len, ← Int.natCast_mul, ← Nat.pow_succ]
      rw [← e]
      rfl
    · rintro σ H2 ⟨rfl, v, rfl⟩
      rw [Int.toNat_natCast]
      exact ⟨_, rfl, q⟩
/-! ### list_words -/
abbrev st_list_words : Stmt := top 24
abbrev nm_list_words : List Str := ["stock", "most", "words", "found", "_"]
theorem sc_list_words : FnScope nm_list_words ["stock", "most"] (defScope st_list_words) := ⟨rfl, rfl, rfl, by decide +kernel, rfl, by decide +kernel, by decide +kernel⟩
def spListWords (K : PySem.W.Frag) : Sp := fun vs H Q _ => ∃ (S : List Nat) (m : Nat), vs = [.str (Tx S), .int (m : Int)] ∧ S.length ≤ 5 ∧ m ≤ 12 ∧ bel S.length (m + 1) ≤ 300000 ∧ S.length ^ m ≤ 20000 ∧ S.length ≠ 0 ∧ S.Nodup ∧
  ∀ H' p, Same H H' → H p = none → H' p = some (.lst (tws (upto S m))) → Q (.ref p) H'
theorem ext_one (S : List Nat) (i : Nat) : ext S (lev S i) = lev S (i + 1) := rfl
theorem lev_small {S : List Nat} (hS : S.length ≤ 5) {i m : Nat} (h1 : S.length ≠ 0) (h : i ≤ m) (hm : S.length ^ m ≤ 20000) : S.length ^ i ≤ 20000 :=
  Nat.le_trans (Nat.pow_le_pow_right (by omega) h) hm
theorem ok_list_words {f : Addr} {fd : FuncData} (F : Fun K "list_words" "list_words" st_list_words f fd) (T : Blt mg)
    (C_longer_words : Cal P w K mg base 1 "longer_words" st_longer_words ["words", "stock"] (spLonger K)) : FnOk P w K mg base CX0 2 f fd ["stock", "most"] (spListWords K) := by
  refine F.ok sc_list_words (fun vs H Q E h => ?_) (fun cdv A outer s H vs Q E hr h => ?_)
  · obtain ⟨S, m, rfl, _⟩ := h
    rfl
  · refine ⟨_, (pss_cons (ps_set (i := 2) sc_list_words.nd rfl (Or.inl rfl) (pe_lst (pa_cons pe_str pa_nil)))
  (pss_cons (ps_set (i := 3) sc_list_words.nd rfl (Or.inl rfl) (pe_lst (pa_cons pe_str pa_nil)))
  (pss_cons (ps_for PassesOwn.never rfl (pi_range1 rfl T.n_range (pa_cons (pv 1) pa_nil)) (pg_name (i := 4) sc_list_words.nd rfl (Or.inl rfl)) (pss_cons (ps_set (i := 2) sc_list_words.nd rfl (Or.inl rfl) (pe_cl C_longer_words (hr.mono (by decide)) rfl (pa_cons (pv 2) (pa_cons (pv 0) pa_nil))))
  (pss_one (ps_expr (pe_bm PySem.F.plainAttrs_list PySem.F.slot_list_extend PySem.F.type_list_extend mt_extend (pv 3) (pa_cons (pv 2) pa_nil))))))
  (pss_one (ps_ret (pv 3)))))), ?_⟩
    obtain ⟨S, m, rfl, hk, hm, hb, hp, h0, hn, q⟩ := h
    refine ⟨small_line (by decide), fun a ha => ⟨small_line (by decide), fun b hb0 => ?_⟩⟩
    have nab : a ≠ b := ne_of_none upd_same hb0
    have hbn : H b = none := by rwa [upd_ne nab.symm] at hb0
    refine ⟨_, rfl, (m : Int), rfl, by omega, by omega, ?_⟩
    refine for_it (n := (m : Int).toNat) walk_range (fun i σ H' => ∃ (c : Addr) (v : Option V), σ = [some (.str (Tx S)), some (.int (m : Int)), some (.ref c), some (.ref b), v] ∧ (∀ x o, H x = some o → H' x = some o) ∧ c ≠ b ∧ H' c = some (.lst (tws (lev S i))) ∧ H' b = some (.lst (tws (upto S i))))
      ⟨a, none, rfl, fun x o e => ?_, nab, (upd_ne nab).trans upd_same, upd_same⟩ (fun _ _ _ _ _ => trivial) ?_ ?_
    · have n1 := ne_of_none e ha
      have n2 := ne_of_none e hbn
      rw [upd_ne n2, upd_ne n1]
      exact e
    · rintro i x σ H2 H3 hi ⟨c, v, rfl, kp, ncb, hc, hbb⟩ ⟨rfl, rfl⟩
      have him : i < m := by omega
      have hs1 := lev_small hk h0 (show i + 1 ≤ m by omega) hp
      refine ⟨_, rfl, _, rfl, c, lev S i, S, rfl, SqL.of hc, ?_, fun w hw => ?_, fun H4 p s4 hpn hp4 => ?_⟩
      · rw [lev_length, ← Nat.pow_succ]
        exact Nat.le_trans hs1 (by decide)
      · have := (lev_mem hw).1
        omega
      · have npb : p ≠ b := fun z => by
          rw [z, hbb] at hpn
          cases hpn
        refine ⟨_, rfl, .inl ⟨rfl, _, SqL.of (s4 _ _ hbb)⟩, _, rfl, b, p, _, _, rfl, rfl, s4 _ _ hbb, hp4, ?_, ?_⟩
        · rw [tws_len, tws_len, ext_one, lev_length, upto_length hn]
          have h1 := bel_mono S.length (show i + 1 + 1 ≤ m + 1 by omega)
          rw [bel_succ S.length (i + 1)] at h1
          exact small_line (by omega)
        · refine ⟨p, some (.int (0 + (i : Int))), rfl, fun y o e => ?_, npb, (upd_ne npb).trans hp4, ?_⟩
          · rw [upd_ne (ne_of_none e hbn)]
            exact s4 _ _ (kp _ _ e)
          · rw [upd_same, ← tws_app]
            rfl
    · rintro σ H2 ⟨c, v, rfl, kp, ncb, hc, hbb⟩
      rw [Int.toNat_natCast] at hbb
      exact ⟨_, rfl, q H2 b kp hbn hbb⟩
end
end K4
namespace K4
open PySem PySem.Spec PyProof.Rows L2 K0

/-- the module's numbers -/
structure Cst (mg : Str → Option Value) : Prop where
  g1 : ∃ t, mg "LONGEST" = some (.int 12 t)
  g2 : ∃ t, mg "MOST_OF_ONE_LENGTH" = some (.int 20000 t)
section
variable {P : Program} {w : World} {K : PySem.W.Frag} {mg : Str → Option Value} {base : Heap}

variable {cs : Nat → Addr}
abbrev CNS (P : Program) (w : World) (K : PySem.W.Frag) (mg : Str → Option Value) (base : Heap) (cs : Nat → Addr) : Prop := CalX P w K mg base 3 "need_stock" st_need_stock ["value", "part"] (spNeedStock K cs)
abbrev CNW (P : Program) (w : World) (K : PySem.W.Frag) (mg : Str → Option Value) (base : Heap) (cs : Nat → Addr) : Prop := CalX P w K mg base 3 "need_word" st_need_word ["value", "part"] (spNeedWord K cs)
abbrev CNN (P : Program) (w : World) (K : PySem.W.Frag) (mg : Str → Option Value) (base : Heap) (cs : Nat → Addr) : Prop := CalX P w K mg base 3 "need_number" st_need_number ["value", "part", "least", "most"] (spNeedNumber K cs)
theorem Sov.sm {H H' : Hp} {v : V} {q q' : List Nat → Prop} {r r' : Prop} (s : Same H H') (h : Sov K H v q r) (i : ∀ l, q l → q' l) (j : r → r') : Sov K H' v q' r' := by
  rcases h with ⟨l, e, hl, z⟩ | ⟨n, kd, hn, z⟩
  · exact .inl ⟨l, e, hl, i l z⟩
  · exact .inr ⟨n, ⟨tyx_same s kd.1, kd.2⟩, hn, j z⟩
/-- a number's place: no number, within, or beyond -/
def Nov (K : PySem.W.Frag) (H : Hp) (v : V) (q : Int → Prop) (r : Prop) : Prop := (∃ n, Kd K H v n ∧ (n == "int") = false ∧ r) ∨ ∃ i, v = .int i ∧ q i
/-! ### words_of -/
abbrev st_words_of : Stmt := top 25
abbrev nm_words_of : List Str := ["stock", "most"]
theorem sc_words_of : FnScope nm_words_of ["stock", "most"] (defScope st_words_of) := ⟨rfl, rfl, rfl, by decide +kernel, rfl, by decide +kernel, by decide +kernel⟩
def spWordsOf (K : PySem.W.Frag) (cs : Nat → Addr) : Sp := fun vs H Q E => ∃ (v u : V), vs = [v, u] ∧ Sov K H v (fun S => (stOk S = false → Rz cs (.stock "stock") H E) ∧ (stOk S = true →
  Nov K H u (fun i => (¬ (0 ≤ i ∧ i ≤ 12) → Rz cs (.number "most") H E) ∧ ((0 ≤ i ∧ i ≤ 12) → (20000 < S.length ^ i.toNat → Rz cs (.many "words" 20000) H E) ∧
    (S.length ^ i.toNat ≤ 20000 → ∀ H' p, Same H H' → H p = none → H' p = some (.tup (tws (upto S i.toNat))) → Q (.ref p) H'))) (Rz cs (.number "most") H E))) (Rz cs (.stock "stock") H E)
theorem ok_words_of {f : Addr} {fd : FuncData} (F : Fun K "words_of" "words_of" st_words_of f fd) (T : Blt mg) (TC : Cst mg) (C_need_stock : CNS P w K mg base cs) (C_need_number : CNN P w K mg base cs) (E_TooMany : Rs2 P w K mg base "TooMany" (cs 4) "what" "most")
    (C_many_of_length : Cal P w K mg base 1 "many_of_length" st_many_of_length ["stock", "length"] spManyOf) (C_list_words : Cal P w K mg base 2 "list_words" st_list_words ["stock", "most"] (spListWords K)) :
    FnOk P w K mg base (L2.CX P w) 4 f fd ["stock", "most"] (spWordsOf K cs) := by
  obtain ⟨t1, g_LONGEST⟩ := TC.g1
  obtain ⟨t2, g_MOST_OF_ONE_LENGTH⟩ := TC.g2
  refine F.okX sc_words_of (fun vs H Q E h => ?_) (fun cdv A outer s H vs Q E hr h => ?_)
  · obtain ⟨v, u, rfl, _⟩ := h
    rfl
  · refine ⟨_, (pss_cons (ps_expr (pe_clX C_need_stock (passes_call (takes_of rfl rfl rfl rfl) fun _ _ _ _ z => z) (hr.mono (by decide)) rfl (pa_cons (pv 0) (pa_cons pe_str pa_nil))))
  (pss_cons (ps_expr (pe_clX C_need_number (passes_call (takes_of rfl rfl rfl rfl) fun _ _ _ _ z => z) (hr.mono (by decide)) rfl (pa_cons (pv 1) (pa_cons pe_str (pa_cons pe_int (pa_cons (pe_glob (v := .int 12) rfl g_LONGEST ⟨_, rfl⟩) pa_nil))))))
  (pss_cons (ps_if (pt_cmpR op_gt (pe_cl C_many_of_length (hr.mono (by decide)) rfl (pa_cons (pv 0) (pa_cons (pv 1) pa_nil))) (pe_glob (v := .int 20000) rfl g_MOST_OF_ONE_LENGTH ⟨_, rfl⟩) (nomark _)) (pss_one (ps_raise2 E_TooMany (hr.mono (by decide)) rfl (takes_of rfl rfl rfl rfl) rfl (pa_cons pe_str (pa_cons (pe_glob (v := .int 20000) rfl g_MOST_OF_ONE_LENGTH ⟨_, rfl⟩) pa_nil)))) pss_nil)
  (pss_one (ps_ret (pe_callTy call_tuple_of (by rfl) T.n_tuple (by decide +kernel) (pa_cons (pe_cl C_list_words (hr.mono (by decide)) rfl (pa_cons (pv 0) (pa_cons (pv 1) pa_nil))) pa_nil))))))), ?_⟩
    obtain ⟨v, u, rfl, h⟩ := h
    refine ⟨_, rfl, v, _, rfl, ?_⟩
    rcases h with ⟨S, rfl, hl, q1, q2⟩ | ⟨n, kd, hn, q⟩
    · refine .inl ⟨S, rfl, hl, fun ok H1 s1 => ?_, q1⟩
      have st := ok
      unfold stOk at st
      rw [Bool.and_eq_true] at st
      obtain ⟨k1, k2, k3⟩ := stOk_facts st.2
      refine ⟨_, rfl, u, _, _, _, rfl, ?_⟩
      rcases q2 ok with ⟨n, kd, hn, q⟩ | ⟨i, rfl, b1, b2⟩
      · exact .inl ⟨n, ⟨tyx_same s1 kd.1, kd.2⟩, hn, q.sm s1⟩
      · refine .inr ⟨i, rfl, .inr ⟨0, rfl⟩, .inr ⟨12, rfl⟩, fun c => ?_, fun c => ?_⟩
        · have hi : 0 ≤ i ∧ i ≤ 12 := by
            have c' : (decide ((0 : Int) ≤ i) && decide (i ≤ 12)) = true := c
            simpa using c'
          obtain ⟨m, rfl⟩ := Int.eq_ofNat_of_zero_le hi.1
          obtain ⟨d1, d2⟩ := b2 hi
          rw [Int.toNat_natCast] at d1 d2
          refine ⟨_, rfl, _, rfl, S, m, rfl, k2, by omega, _, _, rfl, rfl, _, rfl, ite2 (fun e => ?_) (fun e => ?_)⟩
          · have e' : (20000 : Int) < ((S.length ^ m : Nat) : Int) := by simpa using e
            exact fun d H' s q => (d1 (by omega)) _ _ _ ⟨rfl, d, rfl, s1.trans s, q⟩
          · have e' : S.length ^ m ≤ 20000 := by
              have : ¬ (20000 : Int) < ((S.length ^ m : Nat) : Int) := by simpa using e
              omega
            have hb := bel_le k1 m
            have hb2 : (m + 1) * S.length ^ m ≤ 13 * 20000 := Nat.mul_le_mul (by omega) e'
            refine ⟨_, rfl, _, rfl, S, m, rfl, k2, by omega, by omega, e', by omega, nodup_of_lt k3, fun H2 p s2 hp e2 => ?_⟩
            refine ⟨p, _, rfl, .inl ⟨SqL.of e2, fun t ht => ?_⟩⟩
            refine d2 e' _ t (fun b o z => ?_) ?_ upd_same
            · have z2 := s2 _ _ (s1 _ _ z)
              rw [upd_ne (ne_of_none z2 ht)]
              exact z2
            · cases z : H t with
              | none => rfl
              | some o =>
                have z2 := s2 _ _ (s1 _ _ z)
                rw [ht] at z2
                cases z2
        · refine (b1 fun z => ?_).sm s1
          have c' : (decide ((0 : Int) ≤ i) && decide (i ≤ 12)) = false := c
          rw [decide_eq_true z.1, decide_eq_true z.2] at c'
          cases c'
    · exact .inr ⟨n, kd, hn, q⟩
/-! ### need_word_of -/
abbrev st_need_word_of : Stmt := top 26
abbrev nm_need_word_of : List Str := ["word", "stock"]
theorem sc_need_word_of : FnScope nm_need_word_of ["word", "stock"] (defScope st_need_word_of) := ⟨rfl, rfl, rfl, by decide +kernel, rfl, by decide +kernel, by decide +kernel⟩
def Wof (K : PySem.W.Frag) (cs : Nat → Addr) (v u : V) (H : Hp) (E : XK) (q : List Nat → List Nat → Prop) : Prop := Sov K H v (fun l => (wdOk l = false → Rz cs (.word "word") H E) ∧ (wdOk l = true → Sov K H u (fun S => (stOk S = false → Rz cs (.stock "stock") H E) ∧
  (stOk S = true → (ofOk l S = false → Rz cs (.misfit "stock") H E) ∧ (ofOk l S = true → q l S))) (Rz cs (.stock "stock") H E))) (Rz cs (.word "word") H E)
def spNeedWordOf (K : PySem.W.Frag) (cs : Nat → Addr) : Sp := fun vs H Q E => ∃ (v u : V), vs = [v, u] ∧ Wof K cs v u H E fun _ _ => ∀ H', Same H H' → Q .non H'
theorem ok_need_word_of {f : Addr} {fd : FuncData} (F : Fun K "need_word_of" "need_word_of" st_need_word_of f fd) (C_need_stock : CNS P w K mg base cs) (C_need_word : CNW P w K mg base cs) (E_Misfit : Rs1 P w K mg base "Misfit" (cs 3) "part")
    (C_of_stock : Cal P w K mg base 2 "of_stock" st_of_stock ["word", "stock"] spOfStock) : FnOk P w K mg base (L2.CX P w) 4 f fd ["word", "stock"] (spNeedWordOf K cs) := by
  refine F.okX sc_need_word_of (fun vs H Q E h => ?_) (fun cdv A outer s H vs Q E hr h => ?_)
  · obtain ⟨v, u, rfl, _⟩ := h
    rfl
  · refine ⟨_, (pss_cons (ps_expr (pe_clX C_need_word (passes_call (takes_of rfl rfl rfl rfl) fun _ _ _ _ z => z) (hr.mono (by decide)) rfl (pa_cons (pv 0) (pa_cons pe_str pa_nil))))
  (pss_cons (ps_expr (pe_clX C_need_stock (passes_call (takes_of rfl rfl rfl rfl) fun _ _ _ _ z => z) (hr.mono (by decide)) rfl (pa_cons (pv 1) (pa_cons pe_str pa_nil))))
  (pss_one (ps_if (pt_not (pt_val (pe_cl C_of_stock (hr.mono (by decide)) rfl (pa_cons (pv 0) (pa_cons (pv 1) pa_nil))))) (pss_one (ps_raise1 E_Misfit (hr.mono (by decide)) rfl (takes_of rfl rfl rfl rfl) rfl (pa_cons pe_str pa_nil))) pss_nil)))), ?_⟩
    obtain ⟨v, u, rfl, h⟩ := h
    refine ⟨_, rfl, v, _, rfl, ?_⟩
    rcases h with ⟨l, rfl, hl, q1, q2⟩ | ⟨n, kd, hn, q⟩
    · refine .inl ⟨l, rfl, hl, fun ok => ?_, q1⟩
      refine ⟨_, rfl, u, _, rfl, ?_⟩
      rcases q2 ok with ⟨S, rfl, hS, r1, r2⟩ | ⟨n, kd, hn, q⟩
      · refine .inl ⟨S, rfl, hS, fun okS H1 s1 => ?_, r1⟩
        obtain ⟨a1, a2⟩ := r2 okS
        refine ⟨_, rfl, _, rfl, l, S, rfl, hl, fun H2 s2 => ⟨_, rfl, ?_⟩⟩
        cases c : ofOk l S
        · exact fun d H' s q => (a1 c) _ _ _ ⟨rfl, d, rfl, (s1.trans s2).trans s, q⟩
        · exact a2 c H2 (s1.trans s2)
      · exact .inr ⟨n, kd, hn, q⟩
    · exact .inr ⟨n, kd, hn, q⟩
end
end K4
namespace K4
open PySem PySem.Spec PyProof.Rows L2 K0
section
variable {P : Program} {w : World} {K : PySem.W.Frag} {mg : Str → Option Value} {base : Heap}

variable {cs : Nat → Addr}
theorem last_of {S : List Nat} (h : S ≠ []) : ∃ T z, S = T ++ [z] := by
  rcases List.eq_nil_or_concat S with e | ⟨T, z, e⟩
  · exact absurd e h
  · exact ⟨T, z, by simpa using e⟩
theorem last_ix {S T : List Nat} {z : Nat} (e : S = T ++ [z]) (hn : S.Nodup) : ix S z + 1 = S.length := by
  have h : S[T.length]? = some z := by rw [e]; simp
  rw [ix_at hn h, e]
  simp
theorem at_last {S T : List Nat} {z : Nat} (e : S = T ++ [z]) : atI (Tx S).cps.toList (-1) = some z := by
  rw [tx_list, e]
  exact atI_last T z
/-! ### number_of_word -/
abbrev st_number_of_word : Stmt := top 27
abbrev nm_number_of_word : List Str := ["word", "stock", "number", "sound"]
theorem sc_number_of_word : FnScope nm_number_of_word ["word", "stock"] (defScope st_number_of_word) := ⟨rfl, rfl, rfl, by decide +kernel, rfl, by decide +kernel, by decide +kernel⟩
def spNumOf : Sp := fun vs H Q _ => ∃ (l S : List Nat), vs = [.str (Tx l), .str (Tx S)] ∧ S.length ≤ 5 ∧ l.length ≤ 12 ∧ S.Nodup ∧ (∀ c ∈ l, c ∈ S) ∧ Q (.int (num S l : Nat)) H
theorem ok_number_of_word {f : Addr} {fd : FuncData} (F : Fun K "number_of_word" "number_of_word" st_number_of_word f fd) (T : Blt mg) : FnOk P w K mg base CX0 1 f fd ["word", "stock"] spNumOf := by
  refine F.ok sc_number_of_word (fun vs H Q E h => ?_) (fun cdv A outer s H vs Q E hr h => ?_)
  · obtain ⟨l, S, rfl, _⟩ := h
    rfl
  · refine ⟨_, (pss_cons (ps_set (i := 2) sc_number_of_word.nd rfl (Or.inl rfl) pe_int)
  (pss_cons (ps_for PassesOwn.never rfl (pi_str (pv 0)) (pg_name (i := 3) sc_number_of_word.nd rfl (Or.inl rfl)) (pss_one (ps_set (i := 2) sc_number_of_word.nd rfl (Or.inl rfl) (pe_op op_add (pe_op op_add (pe_op op_mul (pv 2) (pe_callB call_len_str (by rfl) T.n_len (by decide +kernel) (pa_cons (pv 1) pa_nil))) (pe_sidx (pv 1) (pv 3))) pe_int))))
  (pss_one (ps_ret (pv 2))))), ?_⟩
    obtain ⟨l, S, rfl, hS, hl, hn, hm, q⟩ := h
    refine ⟨_, rfl, _, rfl, ?_⟩
    refine for_it (n := l.length) walk_tx (fun i σ H' => H' = H ∧ ∃ v, σ = [some (.str (Tx l)), some (.str (Tx S)), some (.int (num S (l.take i) : Nat)), v]) ⟨rfl, none, rfl⟩ (fun _ _ _ _ _ => trivial) ?_ ?_
    · rintro i x σ H2 H3 hi ⟨rfl, v, rfl⟩ ⟨rfl, c, hc, rfl⟩
      have hcS : c ∈ S := hm c (List.mem_of_getElem? hc)
      have hb := num_small (S := S) (w := l.take i) (fun d hd => hm d (List.mem_of_mem_take hd)) hS (by rw [List.length_take]; omega)
      refine ⟨_, rfl, _, rfl, _, rfl, (by rw [tx_len]; exact small_line (by omega)), _, _, rfl, rfl, .inl ⟨by omega, by omega⟩, _, rfl, ⟨_, rfl⟩, _, rfl, S, c, rfl, rfl, hn, hcS, _, _, rfl, rfl, _, _, rfl, rfl, rfl, some (.str (Tx [c])), ?_⟩
      have e : num S (l.take (i + 1)) = num S (l.take i) * S.length + ix S c + 1 := by
        rw [List.take_succ, hc]
        exact num_snoc S _ c
      have e2 : ((num S (l.take i) : Nat) : Int) * ((Tx S).length : Int) + ((ix S c : Nat) : Int) + 1 = ((num S (l.take (i + 1)) : Nat) : Int) := by
        rw [e, tx_len]
        simp
      rw [← e2]
      rfl
    · rintro σ H2 ⟨rfl, v, rfl⟩
      rw [List.take_length]
      exact ⟨_, rfl, q⟩
/-! ### word_of_number -/
abbrev st_word_of_number : Stmt := top 28
abbrev nm_word_of_number : List Str := ["number", "stock", "word", "left"]
theorem sc_word_of_number : FnScope nm_word_of_number ["number", "stock"] (defScope st_word_of_number) := ⟨rfl, rfl, rfl, by decide +kernel, rfl, by decide +kernel, by decide +kernel⟩
def spWordOf : Sp := fun vs H Q _ => ∃ (n : Nat) (S : List Nat), vs = [.int (n : Int), .str (Tx S)] ∧ n < 1000000000 ∧ 1 ≤ S.length ∧ S.length ≤ 5 ∧ (wordOf S n).length ≤ 1000 ∧ Q (.str (Tx (wordOf S n))) H
theorem ok_word_of_number {f : Addr} {fd : FuncData} (F : Fun K "word_of_number" "word_of_number" st_word_of_number f fd) (T : Blt mg) : FnOk P w K mg base CX0 1 f fd ["number", "stock"] spWordOf := by
  refine F.ok sc_word_of_number (fun vs H Q E h => ?_) (fun cdv A outer s H vs Q E hr h => ?_)
  · obtain ⟨n, S, rfl, _⟩ := h
    rfl
  · refine ⟨_, (pss_cons (ps_set (i := 2) sc_word_of_number.nd rfl (Or.inl rfl) pe_str)
  (pss_cons (ps_set (i := 3) sc_word_of_number.nd rfl (Or.inl rfl) (pv 0))
  (pss_cons (ps_while PassesOwn.never (pt_cmpR op_gt (pv 3) pe_int (nomark _)) (pss_cons (ps_aug (i := 3) sc_word_of_number.nd rfl (Or.inl rfl) pe_int ip_sub)
  (pss_cons (ps_set (i := 2) sc_word_of_number.nd rfl (Or.inl rfl) (pe_op op_add_str (pe_ix ix_str (pv 1) (pe_op op_mod (pv 3) (pe_callB call_len_str (by rfl) T.n_len (by decide +kernel) (pa_cons (pv 1) pa_nil))) (fun _ _ => rfl)) (pv 2)))
  (pss_one (ps_aug (i := 3) sc_word_of_number.nd rfl (Or.inl rfl) (pe_callB call_len_str (by rfl) T.n_len (by decide +kernel) (pa_cons (pv 1) pa_nil)) ip_fdiv)))))
  (pss_one (ps_ret (pv 2)))))), ?_⟩
    obtain ⟨n, S, rfl, hn, h1, h5, hl, q⟩ := h
    refine ⟨_, rfl, ?_⟩
    refine while_by (fun σ H' => H' = H ∧ ∃ (m : Nat) (u : List Nat), m ≤ n ∧ σ = [some (.int (n : Int)), some (.str (Tx S)), some (.str (Tx u)), some (.int (m : Int))] ∧ wordOf S n = wordOf S m ++ u) (fun σ _ => match σ with
      | [_, _, _, some (.int m)] => m.toNat
      | _ => 0) ⟨rfl, n, [], Nat.le_refl _, rfl, by simp⟩ ?_ ?_
    · rintro σ H2 ⟨rfl, m, u, hm, rfl, e⟩
      refine ⟨_, rfl, _, _, rfl, rfl, _, rfl, ite2 (fun c => ?_) (fun c => ?_)⟩
      · have hm0 : m ≠ 0 := by
          have : (0 : Int) < (m : Int) := by simpa using c
          omega
        obtain ⟨k, rfl⟩ : ∃ k, m = k + 1 := ⟨m - 1, by omega⟩
        have hk : (((k + 1 : Nat) : Int) - 1) % ((Tx S).length : Int) = ((k % S.length : Nat) : Int) := by rw [tx_len, show ((k + 1 : Nat) : Int) - 1 = (k : Int) by omega]; omega
        have hlt : k % S.length < S.length := Nat.mod_lt _ (by omega)
        have hg : S[k % S.length]? = some (S.getD (k % S.length) 0) := by
          rw [List.getD_eq_getElem?_getD, List.getElem?_eq_getElem hlt]
          rfl
        have es : wordOf S (k + 1) = wordOf S (k / S.length) ++ [S.getD (k % S.length) 0] := wordOf_step (by omega) (by omega)
        have hul : u.length + 1 ≤ 1000 := by
          rw [e, es] at hl
          simp at hl
          omega
        have hd : (((k + 1 : Nat) : Int) - 1) / ((Tx S).length : Int) = ((k / S.length : Nat) : Int) := by rw [tx_len, show ((k + 1 : Nat) : Int) - 1 = (k : Int) by omega]; omega
        have e3 : (⟨#[S.getD (k % S.length) 0]⟩ : Str) ++ Tx u = Tx (S.getD (k % S.length) 0 :: u) := tx_app [_] u
        have hlog : S.length.log2 < 9000 := by
          have := Nat.log2_self_le (show S.length ≠ 0 by omega)
          rcases Nat.lt_or_ge S.length.log2 9000 with z | z
          · exact z
          · have := Nat.pow_le_pow_right (show 0 < 2 by decide) (show 6 ≤ S.length.log2 by omega)
            omega
        refine ⟨_, rfl, _, _, rfl, rfl, _, rfl, _, rfl, _, rfl, _, rfl, (by rw [tx_len]; exact small_line (by omega)), _, _, rfl, rfl, (by show (0 : Int) < ((Tx S).length : Int); rw [tx_len]; omega),
          _, _, S.getD (k % S.length) 0, rfl, rfl, (by rw [tx_len]; exact small_line (by omega)), (by show atI _ ((((k + 1 : Nat) : Int) - 1) % ((Tx S).length : Int)) = _; rw [hk, tx_list]; exact atI_nat hg), _, rfl, _, _, rfl, rfl,
          (by rw [tx_one, tx_len, tx_len]; exact small_line (by show 1 + u.length ≤ 1000000; omega)), _, rfl, _, rfl, _, rfl, (by rw [tx_len]; exact small_line (by omega)), _, _, rfl, rfl, ⟨by show (0 : Int) < ((Tx S).length : Int); rw [tx_len]; omega, by rw [tx_len, Int.natAbs_natCast]; exact hlog⟩,
          ⟨rfl, k / S.length, S.getD (k % S.length) 0 :: u, Nat.le_trans (Nat.div_le_self k _) (by omega), ?_, ?_⟩, ?_⟩
        · rw [← hd, ← e3]
          rfl
        · rw [e, es, List.append_assoc]
          rfl
        · show ((((k + 1 : Nat) : Int) - 1) / ((Tx S).length : Int)).toNat < (((k + 1 : Nat) : Int)).toNat
          rw [hd]
          have := Nat.div_le_self k S.length
          omega
      · have hm0 : m = 0 := by
          have : ¬ (0 : Int) < (m : Int) := by simpa using c
          omega
        subst hm0
        rw [wordOf_zero, List.nil_append] at e
        rw [e] at q
        exact ⟨_, rfl, q⟩
    · intro σ H Q Q' hq ⟨v, e, i, j, e1, e2, k, ek, z⟩
      exact ⟨v, e, i, j, e1, e2, k, ek, by revert z; cases k <;> exact fun z => hq _ _ z⟩
/-! ### last_number -/
abbrev st_last_number : Stmt := top 29
abbrev nm_last_number : List Str := ["stock"]
theorem sc_last_number : FnScope nm_last_number ["stock"] (defScope st_last_number) := ⟨rfl, rfl, rfl, by decide +kernel, rfl, by decide +kernel, by decide +kernel⟩
def lastN (S : List Nat) : Nat := num S (List.replicate 12 (S.getLastD 0))
def spLast : Sp := fun vs H Q _ => ∃ (S : List Nat), vs = [.str (Tx S)] ∧ S.length ≤ 5 ∧ S ≠ [] ∧ S.Nodup ∧ Q (.int (lastN S : Nat)) H
theorem ok_last_number {f : Addr} {fd : FuncData} (F : Fun K "last_number" "last_number" st_last_number f fd) (TC : Cst mg) (C_number_of_word : Cal P w K mg base 1 "number_of_word" st_number_of_word ["word", "stock"] spNumOf) :
    FnOk P w K mg base CX0 2 f fd ["stock"] spLast := by
  obtain ⟨t1, g_LONGEST⟩ := TC.g1
  refine F.ok sc_last_number (fun vs H Q E h => ?_) (fun cdv A outer s H vs Q E hr h => ?_)
  · obtain ⟨S, rfl, _⟩ := h
    rfl
  · refine ⟨_, (pss_one (ps_ret (pe_cl C_number_of_word (hr.mono (by decide)) rfl (pa_cons (pe_op op_mulS (pe_ix ix_str (pv 0) (pe_un un_neg pe_int) (fun _ _ => rfl)) (pe_glob (v := .int 12) rfl g_LONGEST ⟨_, rfl⟩)) (pa_cons (pv 0) pa_nil))))), ?_⟩
    obtain ⟨S, rfl, h5, h0, hn, q⟩ := h
    obtain ⟨T, z, e⟩ := last_of h0
    have ez : S.getLastD 0 = z := by rw [e]; simp
    unfold lastN at q
    rw [ez] at q
    refine ⟨_, rfl, _, rfl, _, _, z, rfl, rfl, (by rw [tx_len]; exact small_line (by omega)), at_last e, _, _, rfl, rfl, rfl, (by decide), (by decide), _, rfl, List.replicate 12 z, S, ?_, h5, by simp, hn, fun c hc => ?_, q⟩
    · rfl
    · rw [(List.mem_replicate.mp hc).2, e]
      simp
end
end K4
namespace K4
open PySem PySem.Spec PyProof.Rows L2 K0

theorem bel_ge {k : Nat} (hk : 1 ≤ k) : ∀ i, i ≤ bel k i
  | 0 => Nat.zero_le _
  | i + 1 => by
    have := bel_ge hk i
    have h2 : bel k i * 1 ≤ bel k i * k := Nat.mul_le_mul_left _ hk
    show i + 1 ≤ bel k i * k + 1
    omega
theorem wordOf_len {S : List Nat} (hk : 1 ≤ S.length) (n : Nat) : bel S.length (wordOf S n).length ≤ n := by
  induction n using Nat.strongRecOn with
  | _ n ih =>
    by_cases h0 : n = 0
    · subst h0
      rw [wordOf_zero]
      exact Nat.le_refl _
    · rw [wordOf_step h0 (by omega), List.length_append]
      have hlt : (n - 1) / S.length < n := by
        have := Nat.div_le_self (n - 1) S.length
        omega
      have := ih _ hlt
      show bel S.length (wordOf S ((n - 1) / S.length)).length * S.length + 1 ≤ n
      have h1 : bel S.length (wordOf S ((n - 1) / S.length)).length * S.length ≤ (n - 1) / S.length * S.length := Nat.mul_le_mul_right _ this
      have h2 := Nat.div_mul_le_self (n - 1) S.length
      omega
theorem lastN_eq {S : List Nat} (h0 : S ≠ []) (hn : S.Nodup) : lastN S + 1 = bel S.length 13 := by
  obtain ⟨T, z, e⟩ := last_of h0
  have ez : S.getLastD 0 = z := by rw [e]; simp
  unfold lastN
  rw [ez]
  exact num_last (last_ix e hn) 12
theorem ne_nil {S : List Nat} (h : 1 ≤ S.length) : S ≠ [] := fun e => by
  rw [e] at h
  exact absurd h (by decide)
theorem lastN_small {S : List Nat} (h1 : 1 ≤ S.length) (h5 : S.length ≤ 5) (hn : S.Nodup) : lastN S < 400000000 := by
  have a := lastN_eq (ne_nil h1) hn
  have b := bel_k h5 13
  have c : bel 5 13 = 305175781 := by decide
  omega
theorem wordOf_short {S : List Nat} (h1 : 1 ≤ S.length) (hn : S.Nodup) {n : Nat} (h : n ≤ lastN S) : (wordOf S n).length ≤ 12 := by
  have a := lastN_eq (ne_nil h1) hn
  have b := wordOf_len h1 n
  rcases Nat.lt_or_ge 12 (wordOf S n).length with c | c
  · have := bel_mono S.length (show 13 ≤ (wordOf S n).length from c)
    omega
  · exact c
theorem num_le_lastN {S l : List Nat} (h1 : 1 ≤ S.length) (hn : S.Nodup) (hm : ∀ c ∈ l, c ∈ S) (hl : l.length ≤ 12) : num S l ≤ lastN S := by
  obtain ⟨T, z, e⟩ := last_of (ne_nil h1)
  have ez : S.getLastD 0 = z := by rw [e]; simp
  unfold lastN
  rw [ez]
  exact num_le_last hm (last_ix e hn) hl
theorem of_facts {l S : List Nat} (h : ofOk l S = true) : ∀ c ∈ l, c ∈ S := by
  unfold ofOk at h
  rw [Bool.and_eq_true] at h
  intro c hc
  simpa using List.all_eq_true.mp h.2 c hc
theorem wd_facts {l : List Nat} (h : wdOk l = true) : lw l = true ∧ l.length ≤ 12 := by
  unfold wdOk at h
  rw [Bool.and_eq_true, decide_eq_true_eq] at h
  exact h
theorem st_facts {S : List Nat} (h : stOk S = true) : 1 ≤ S.length ∧ S.length ≤ 5 ∧ S.Pairwise (· < ·) := by
  unfold stOk at h
  rw [Bool.and_eq_true] at h
  exact stOk_facts h.2
section
variable {P : Program} {w : World} {K : PySem.W.Frag} {mg : Str → Option Value} {base : Heap}

variable {cs : Nat → Addr}
abbrev CWO (P : Program) (w : World) (K : PySem.W.Frag) (mg : Str → Option Value) (base : Heap) (cs : Nat → Addr) : Prop := CalX P w K mg base 4 "need_word_of" st_need_word_of ["word", "stock"] (spNeedWordOf K cs)
abbrev CNO (P : Program) (w : World) (K : PySem.W.Frag) (mg : Str → Option Value) (base : Heap) : Prop := Cal P w K mg base 1 "number_of_word" st_number_of_word ["word", "stock"] spNumOf
abbrev CLN (P : Program) (w : World) (K : PySem.W.Frag) (mg : Str → Option Value) (base : Heap) : Prop := Cal P w K mg base 2 "last_number" st_last_number ["stock"] spLast
abbrev CWF (P : Program) (w : World) (K : PySem.W.Frag) (mg : Str → Option Value) (base : Heap) : Prop := Cal P w K mg base 1 "word_of_number" st_word_of_number ["number", "stock"] spWordOf
theorem Sov.good {H : Hp} {v : V} {q q' : List Nat → Prop} {r r' : Prop} (h : Sov K H v q r) (i : ∀ l, v = .str (Tx l) → l.length ≤ 1000 → q l → q' l) (j : r → r') : Sov K H v q' r' := by
  rcases h with ⟨l, e, hl, z⟩ | ⟨n, kd, hn, z⟩
  · exact .inl ⟨l, e, hl, i l e hl z⟩
  · exact .inr ⟨n, kd, hn, j z⟩
theorem Wof.imp {v u : V} {H : Hp} {E : XK} {q q' : List Nat → List Nat → Prop} (h : Wof K cs v u H E q) (i : ∀ l S, v = .str (Tx l) → u = .str (Tx S) → wdOk l = true → stOk S = true → ofOk l S = true → q l S → q' l S) : Wof K cs v u H E q' :=
  Sov.good h (fun l e hl ⟨a, b⟩ => ⟨a, fun ok => Sov.good (b ok) (fun S e2 hS ⟨c, d⟩ => ⟨c, fun okS => ⟨(d okS).1, fun okO => i l S e e2 ok okS okO ((d okS).2 okO)⟩⟩) id⟩) id
/-! ### word_number -/
abbrev st_word_number : Stmt := top 30
abbrev nm_word_number : List Str := ["word", "stock"]
theorem sc_word_number : FnScope nm_word_number ["word", "stock"] (defScope st_word_number) := ⟨rfl, rfl, rfl, by decide +kernel, rfl, by decide +kernel, by decide +kernel⟩
def spWordNumber (K : PySem.W.Frag) (cs : Nat → Addr) : Sp := fun vs H Q E => ∃ (v u : V), vs = [v, u] ∧ Wof K cs v u H E fun l S => ∀ H', Same H H' → Q (.int (num S l : Nat)) H'
theorem ok_word_number {f : Addr} {fd : FuncData} (F : Fun K "word_number" "word_number" st_word_number f fd) (C_need_word_of : CWO P w K mg base cs) (C_number_of_word : CNO P w K mg base) :
    FnOk P w K mg base (L2.CX P w) 5 f fd ["word", "stock"] (spWordNumber K cs) := by
  refine F.okX sc_word_number (fun vs H Q E h => ?_) (fun cdv A outer s H vs Q E hr h => ?_)
  · obtain ⟨v, u, rfl, _⟩ := h
    rfl
  · refine ⟨_, (pss_cons (ps_expr (pe_clX C_need_word_of (passes_call (takes_of rfl rfl rfl rfl) fun _ _ _ _ z => z) (hr.mono (by decide)) rfl (pa_cons (pv 0) (pa_cons (pv 1) pa_nil))))
  (pss_one (ps_ret (pe_cl C_number_of_word (hr.mono (by decide)) rfl (pa_cons (pv 0) (pa_cons (pv 1) pa_nil)))))), ?_⟩
    obtain ⟨v, u, rfl, h⟩ := h
    refine ⟨_, rfl, _, rfl, v, u, rfl, h.imp fun l S ev eu ok okS okO q H1 s1 => ?_⟩
    subst ev eu
    obtain ⟨h1, h5, hp⟩ := st_facts okS
    exact ⟨_, rfl, _, rfl, l, S, rfl, h5, (wd_facts ok).2, nodup_of_lt hp, of_facts okO, q H1 s1⟩
/-! ### word_at -/
abbrev st_word_at : Stmt := top 31
abbrev nm_word_at : List Str := ["stock", "number"]
theorem sc_word_at : FnScope nm_word_at ["stock", "number"] (defScope st_word_at) := ⟨rfl, rfl, rfl, by decide +kernel, rfl, by decide +kernel, by decide +kernel⟩
def spWordAt (K : PySem.W.Frag) (cs : Nat → Addr) : Sp := fun vs H Q E => ∃ (v u : V), vs = [v, u] ∧ Sov K H v (fun S => (stOk S = false → Rz cs (.stock "stock") H E) ∧ (stOk S = true →
  Nov K H u (fun i => (¬ (0 ≤ i ∧ i ≤ (lastN S : Nat)) → Rz cs (.number "number") H E) ∧ ((0 ≤ i ∧ i ≤ (lastN S : Nat)) → ∀ H', Same H H' → Q (.str (Tx (wordOf S i.toNat))) H')) (Rz cs (.number "number") H E))) (Rz cs (.stock "stock") H E)
theorem ok_word_at {f : Addr} {fd : FuncData} (F : Fun K "word_at" "word_at" st_word_at f fd) (C_need_stock : CNS P w K mg base cs) (C_need_number : CNN P w K mg base cs) (C_last_number : CLN P w K mg base) (C_word_of_number : CWF P w K mg base) :
    FnOk P w K mg base (L2.CX P w) 4 f fd ["stock", "number"] (spWordAt K cs) := by
  refine F.okX sc_word_at (fun vs H Q E h => ?_) (fun cdv A outer s H vs Q E hr h => ?_)
  · obtain ⟨v, u, rfl, _⟩ := h
    rfl
  · refine ⟨_, (pss_cons (ps_expr (pe_clX C_need_stock (passes_call (takes_of rfl rfl rfl rfl) fun _ _ _ _ z => z) (hr.mono (by decide)) rfl (pa_cons (pv 0) (pa_cons pe_str pa_nil))))
  (pss_cons (ps_expr (pe_clX C_need_number (passes_call (takes_of rfl rfl rfl rfl) fun _ _ _ _ z => z) (hr.mono (by decide)) rfl (pa_cons (pv 1) (pa_cons pe_str (pa_cons pe_int (pa_cons (pe_cl C_last_number (hr.mono (by decide)) rfl (pa_cons (pv 0) pa_nil)) pa_nil))))))
  (pss_one (ps_ret (pe_cl C_word_of_number (hr.mono (by decide)) rfl (pa_cons (pv 1) (pa_cons (pv 0) pa_nil))))))), ?_⟩
    obtain ⟨v, u, rfl, h⟩ := h
    refine ⟨_, rfl, v, _, rfl, h.good (fun S ev hS ⟨q1, q2⟩ => ⟨fun ok H1 s1 => ?_, q1⟩) id⟩
    subst ev
    obtain ⟨h1, h5, hp⟩ := st_facts ok
    have hn := nodup_of_lt hp
    refine ⟨_, rfl, _, rfl, S, rfl, h5, ne_nil h1, hn, u, _, _, _, rfl, ?_⟩
    rcases q2 ok with ⟨n, kd, hk, q⟩ | ⟨i, rfl, b1, b2⟩
    · exact .inl ⟨n, ⟨tyx_same s1 kd.1, kd.2⟩, hk, q.sm s1⟩
    · refine .inr ⟨i, rfl, .inr ⟨0, rfl⟩, .inr ⟨_, rfl⟩, fun c => ?_, fun c => ?_⟩
      · have hi : 0 ≤ i ∧ i ≤ (lastN S : Nat) := by
          have c' : (decide ((0 : Int) ≤ i) && decide (i ≤ ((lastN S : Nat) : Int))) = true := c
          simpa using c'
        obtain ⟨m, rfl⟩ := Int.eq_ofNat_of_zero_le hi.1
        have q := b2 hi H1 s1
        rw [Int.toNat_natCast] at q
        have hs := lastN_small h1 h5 hn
        have hw := wordOf_short h1 hn (show m ≤ lastN S by omega)
        exact ⟨_, rfl, _, rfl, m, S, rfl, by omega, h1, h5, by omega, q⟩
      · refine (b1 fun z => ?_).sm s1
        have c' : (decide ((0 : Int) ≤ i) && decide (i ≤ ((lastN S : Nat) : Int))) = false := c
        rw [decide_eq_true z.1, decide_eq_true z.2] at c'
        cases c'
/-! ### next_word -/
abbrev st_next_word : Stmt := top 32
abbrev nm_next_word : List Str := ["word", "stock", "number"]
theorem sc_next_word : FnScope nm_next_word ["word", "stock"] (defScope st_next_word) := ⟨rfl, rfl, rfl, by decide +kernel, rfl, by decide +kernel, by decide +kernel⟩
def spNextWord (K : PySem.W.Frag) (cs : Nat → Addr) : Sp := fun vs H Q E => ∃ (v u : V), vs = [v, u] ∧ Wof K cs v u H E fun l S => (num S l = lastN S → ∀ H', Same H H' → Q .non H') ∧ (num S l < lastN S → ∀ H', Same H H' → Q (.str (Tx (wordOf S (num S l + 1)))) H')
theorem ok_next_word {f : Addr} {fd : FuncData} (F : Fun K "next_word" "next_word" st_next_word f fd) (C_need_word_of : CWO P w K mg base cs) (C_number_of_word : CNO P w K mg base) (C_last_number : CLN P w K mg base) (C_word_of_number : CWF P w K mg base) :
    FnOk P w K mg base (L2.CX P w) 5 f fd ["word", "stock"] (spNextWord K cs) := by
  refine F.okX sc_next_word (fun vs H Q E h => ?_) (fun cdv A outer s H vs Q E hr h => ?_)
  · obtain ⟨v, u, rfl, _⟩ := h
    rfl
  · refine ⟨_, (pss_cons (ps_expr (pe_clX C_need_word_of (passes_call (takes_of rfl rfl rfl rfl) fun _ _ _ _ z => z) (hr.mono (by decide)) rfl (pa_cons (pv 0) (pa_cons (pv 1) pa_nil))))
  (pss_cons (ps_set (i := 2) sc_next_word.nd rfl (Or.inl rfl) (pe_cl C_number_of_word (hr.mono (by decide)) rfl (pa_cons (pv 0) (pa_cons (pv 1) pa_nil))))
  (pss_cons (ps_if (pt_cmpR op_eq (pv 2) (pe_cl C_last_number (hr.mono (by decide)) rfl (pa_cons (pv 1) pa_nil)) (nomark _)) (pss_one (ps_ret pe_non)) pss_nil)
  (pss_one (ps_ret (pe_cl C_word_of_number (hr.mono (by decide)) rfl (pa_cons (pe_op op_add (pv 2) pe_int) (pa_cons (pv 1) pa_nil)))))))), ?_⟩
    obtain ⟨v, u, rfl, h⟩ := h
    refine ⟨_, rfl, _, rfl, v, u, rfl, h.imp fun l S ev eu ok okS okO q H1 s1 => ?_⟩
    subst ev eu
    obtain ⟨h1, h5, hp⟩ := st_facts okS
    have hn := nodup_of_lt hp
    have hle := num_le_lastN h1 hn (of_facts okO) (wd_facts ok).2
    refine ⟨_, rfl, _, rfl, l, S, rfl, h5, (wd_facts ok).2, hn, of_facts okO, _, rfl, _, rfl, S, rfl, h5, ne_nil h1, hn, rfl, _, rfl, ite2 (fun c => ?_) (fun c => ?_)⟩
    · have e : num S l = lastN S := by
        have e' := V.int.inj (of_decide_eq_true c)
        omega
      exact q.1 e H1 s1
    · have e : num S l ≠ lastN S := fun e => c (by rw [e]; exact decide_eq_true rfl)
      have hs := lastN_small h1 h5 hn
      have hw := wordOf_short h1 hn (show num S l + 1 ≤ lastN S by omega)
      exact ⟨_, rfl, _, _, rfl, rfl, _, rfl, num S l + 1, S, rfl, by omega, h1, h5, by omega, q.2 (by omega) H1 s1⟩
end
end K4
namespace K4
open PySem PySem.Spec PyProof.Rows L2 K0
/-- all but what stands at p is as it was -/
structure KB (p : Addr) (H H' : Hp) : Prop where
  kb : ∀ b o, b ≠ p → H b = some o → H' b = some o
  kp : ∀ l x y, H p = some (.lst [.ref l, x, y]) → ∃ x' y', H' p = some (.lst [.ref l, x', y'])
theorem KB.refl (p : Addr) (H : Hp) : KB p H H := ⟨fun _ _ _ e => e, fun _ x y e => ⟨x, y, e⟩⟩
theorem KB.trans {p : Addr} {H H1 H2 : Hp} (a : KB p H H1) (b : KB p H1 H2) : KB p H H2 := ⟨fun c o n e => b.kb c o n (a.kb c o n e), fun l x y e => by
  obtain ⟨x', y', e'⟩ := a.kp l x y e
  exact b.kp l x' y' e'⟩
theorem KB.sm {p : Addr} {H H' : Hp} (s : Same H H') : KB p H H' := ⟨fun b o _ e => s b o e, fun l x y e => ⟨x, y, s _ _ e⟩⟩
theorem KB.put {p l : Addr} {H : Hp} {x y x' y' : V} (h : H p = some (.lst [.ref l, x, y])) : KB p H (upd H p (.lst [.ref l, x', y'])) := ⟨fun b u n e => by rw [upd_ne n]; exact e, fun l2 x2 y2 e => by
  rw [h] at e
  cases e
  exact ⟨x', y', upd_same⟩⟩
theorem KB.l {K : PySem.W.Frag} {p a : Addr} {H H' : Hp} {xs : List V} (s : KB p H H') (n : a ≠ p) (h : SqL K H a xs) : SqL K H' a xs := by
  rcases h with (h | ⟨o, h⟩) | h
  · exact .inl (.inl (s.kb _ _ n h))
  · exact .inl (.inr ⟨o, s.kb _ _ n h⟩)
  · exact .inr h
/-- the pen at p: its numbers, how often it was dipped (at most T times), what is left of a great number -/
def PenAt (H : Hp) (p : Addr) (T : Nat) : Prop := ∃ (l : Addr) (ns : List Int) (t r : Int), H p = some (.lst [.ref l, .int t, .int r]) ∧ H l = some (.lst (ns.map V.int)) ∧ l ≠ p ∧ ns.length ≤ 60 ∧ 0 ≤ t ∧ t ≤ T ∧ 0 ≤ r
theorem PenAt.mono {H : Hp} {p : Addr} {T T' : Nat} (h : PenAt H p T) (ht : T ≤ T') : PenAt H p T' := by
  obtain ⟨l, ns, t, r, a, b, c, d, e, f, g⟩ := h
  exact ⟨l, ns, t, r, a, b, c, d, e, by omega, g⟩
theorem PenAt.sm {H H' : Hp} {p : Addr} {T : Nat} (h : PenAt H p T) (s : Same H H') : PenAt H' p T := by
  obtain ⟨l, ns, t, r, a, b, c, d, e, f, g⟩ := h
  exact ⟨l, ns, t, r, s _ _ a, s _ _ b, c, d, e, f, g⟩
theorem PenAt.some {H : Hp} {p : Addr} {T : Nat} (h : PenAt H p T) : ∃ xs, H p = some (.lst xs) := by
  obtain ⟨l, ns, t, r, a, _⟩ := h
  exact ⟨_, a⟩
theorem PenAt.ne {H : Hp} {p q : Addr} {T : Nat} (h : PenAt H p T) (n : H q = none) : q ≠ p := fun e => by
  obtain ⟨xs, a⟩ := h.some
  rw [e, a] at n
  cases n
/-! flat data -/
def datV : V → PyData
  | .bl b => .bool b
  | .int i => .int i
  | .str x => .str x
  | _ => .none
def datOk : V → Bool
  | .bl _ => true
  | .int _ => true
  | .str x => (PyData.str x).canLay0
  | .non => true
  | _ => false
theorem dp_one {K : PySem.W.Frag} {H : Hp} {v : V} (h : datOk v = true) : Dp K H v (datV v) := by
  cases v with
  | non => exact .non
  | bl b => exact .bl b
  | int i => exact .int i
  | str x => exact .str x
  | byt b => cases h
  | flt b => cases h
  | ref a => cases h
  | ty n => cases h
theorem dp_all {K : PySem.W.Frag} {H : Hp} : ∀ {xs : List V}, xs.all datOk = true → DpAll K H xs (xs.map datV)
  | [], _ => .nil
  | x :: r, h => by
    rw [List.all_cons, Bool.and_eq_true] at h
    exact .cons (dp_one h.1) (dp_all h.2)
theorem lay_one {v : V} (h : datOk v = true) : (datV v).canLay0 = true := by
  cases v with
  | non => rfl
  | bl b => rfl
  | int i => rfl
  | str x => exact h
  | byt b => cases h
  | flt b => cases h
  | ref a => cases h
  | ty n => cases h
theorem dep_one (v : V) : (datV v).depth = 0 := by
  cases v <;> rfl
theorem lay_all : ∀ {xs : List V}, xs.all datOk = true → PyData.canLayAll0 (xs.map datV) = true
  | [], _ => rfl
  | x :: r, h => by
    rw [List.all_cons, Bool.and_eq_true] at h
    show (PyData.canLay0 (datV x) && PyData.canLayAll0 (r.map datV)) = true
    rw [lay_one h.1, lay_all h.2]
    rfl
theorem dep_all : ∀ xs : List V, PyData.depthAll (xs.map datV) = 0
  | [] => rfl
  | x :: r => by
    show max (PyData.depth (datV x)) (PyData.depthAll (r.map datV)) = 0
    rw [dep_one, dep_all r]
    rfl
theorem dat_shaped {xs : List V} (h : xs.all datOk = true) : SeqAt.shaped (.list (xs.map datV)) = true := by
  unfold SeqAt.shaped
  rw [show (PyData.list (xs.map datV)).canLay0 = PyData.canLayAll0 (xs.map datV) from rfl, lay_all h, Bool.true_and]
  apply decide_eq_true
  show PyData.depthAll (xs.map datV) + 1 ≤ 64
  rw [dep_all]
  decide
section
variable {P : Program} {w : World} {K : PySem.W.Frag} {mg : Str → Option Value} {base : Heap}
abbrev st_l_well : Stmt := top 34
abbrev nm_l_well : List Str := ["_law_script", "_law_cell"]
theorem sc_l_well : FnScope nm_l_well ["_law_script"] (defScope st_l_well) := ⟨rfl, rfl, rfl, by decide +kernel, rfl, by decide +kernel, by decide +kernel⟩
def spPen (K : PySem.W.Frag) : Sp := fun vs H Q _ => ∃ (a : Addr) (ns : List Int), vs = [.ref a] ∧ SqL K H a (ns.map V.int) ∧ ns.length ≤ 63 ∧ ∀ H' p, Same H H' → PenAt H' p 0 → Q (.ref p) H'
theorem ok_pen {f : Addr} {fd : FuncData} (F : Fun K "_law_well" "_law_well" st_l_well f fd) (T : Blt mg) : FnOk P w K mg base CX0 1 f fd ["_law_script"] (spPen K) := by
  refine F.ok sc_l_well (fun vs H Q E h => ?_) (fun cdv A outer s H vs Q E hr h => ?_)
  · obtain ⟨a, ns, rfl, _⟩ := h
    rfl
  · refine ⟨_, (pss_one (ps_ret (pe_lst (pa_cons (pe_lc (own := [("_law_cell", 1)]) (g := (gName 1)) (tt := tYes) rfl sc_l_well.nd (pi_list (pe_slice sl_list (pv 0) po_none (po_some pe_int))) (blkOk_by (N := nm_l_well) (sc := defScope st_l_well) (own := [("_law_cell", 1)]) (by decide +kernel)) (fun _ _ _ _ _ => by exact pg_name (i := 1) sc_l_well.nd rfl (Or.inl rfl)) (fun _ _ _ _ _ => pts_nil) (fun _ _ _ _ _ => (pe_callTy call_int1 (by rfl) T.n_int (by decide +kernel) (pa_cons (pv 1) pa_nil)))) (pa_cons pe_int (pa_cons pe_int pa_nil)))))), ?_⟩
    obtain ⟨a, ns, rfl, hS, hl, q⟩ := h
    have e0 : cutV (ns.map V.int) none (some 60) = (ns.take 60).map V.int := by
      unfold cutV
      rw [HT.sIx_none, show ((60 : Int)) = ((60 : Nat) : Int) from rfl, HT.sIx_nat, List.length_map, List.drop_zero, Nat.sub_zero, List.map_take]
      by_cases c : 60 ≤ ns.length
      · rw [Nat.min_eq_left c]
      · rw [Nat.min_eq_right (by omega), List.take_of_length_le (by simp), List.take_of_length_le (by rw [List.length_map]; omega)]
    refine ⟨_, rfl, _, rfl, a, _, rfl, hS, fun c hc => ?_⟩
    rw [e0]
    refine ⟨c, rfl, ⟨_, SqL.of upd_same⟩, fun D hD => ?_⟩
    have ncD : c ≠ D := fun z => by
      rw [z, upd_same] at hD
      cases hD
    refine lc_it (n := ((ns.take 60).map V.int).length) walk_list (SPv (upd H c (.lst ((ns.take 60).map V.int))) D fun i => ((ns.take 60).map V.int).take i) (spv0 hD rfl) (fun i H2 _ p => SqL.of (p.1 _ _ upd_same)) ?_ ?_
    · rintro i x H2 H3 hi ⟨p1, p2⟩ ⟨rfl, hx⟩
      refine ⟨rfl, ?_⟩
      obtain ⟨z, rfl⟩ : ∃ z, x = V.int z := by
        rw [List.getElem?_map] at hx
        cases e : (ns.take 60)[i]? with
        | none =>
          rw [e] at hx
          cases hx
        | some z =>
          rw [e] at hx
          exact ⟨z, (Option.some.inj hx).symm⟩
      refine ⟨_, rfl, .inl ⟨z, rfl, ?_⟩⟩
      refine spv_put hD p1 p2 ?_ ?_
      · rw [List.length_take, List.length_map, List.length_take]
        omega
      · rw [List.take_succ, hx]
        rfl
    · rintro H2 ⟨p1, p2⟩
      dsimp only at p2
      rw [List.take_length] at p2
      refine ⟨by show 3 ≤ sizeLine; decide, fun p hp => ?_⟩
      have npD : D ≠ p := ne_of_none p2 hp
      refine q _ p (fun b o e => ?_) ⟨D, ns.take 60, 0, 0, upd_same, (upd_ne npD).trans p2, npD, ?_, by omega, by omega, by omega⟩
      · rw [upd_ne]
        · exact p1 b o (by rw [upd_ne (ne_of_none e hc)]; exact e)
        · exact ne_of_none (p1 b o (by rw [upd_ne (ne_of_none e hc)]; exact e)) hp
      · rw [List.length_take]
        omega
end
theorem bnd2 {m t : Int} (h1 : 0 ≤ m) (h2 : m < 2147483549) (h3 : 0 ≤ t) (h4 : t < 1000000) : (m * (2 * t + 2699) + 62039 * t * t + 90173).natAbs < 2 ^ 64 := by
  have a1 : 0 ≤ m * (2 * t + 2699) := Int.mul_nonneg h1 (by omega)
  have a2 : m * (2 * t + 2699) ≤ 2147483549 * 2002699 := Int.mul_le_mul (by omega) (by omega) (by omega) (by decide)
  have a3 : 0 ≤ 62039 * t * t := Int.mul_nonneg (by omega) h3
  have a4 : 62039 * t * t ≤ 62039000000 * 1000000 := Int.mul_le_mul (by omega) (by omega) h3 (by decide)
  generalize m * (2 * t + 2699) = x at a1 a2
  generalize 62039 * t * t = y at a3 a4
  omega
theorem bnd1 {x t : Int} (h1 : 0 ≤ x) (h2 : x < 2147483579) (h3 : 0 ≤ t) (h4 : t < 1000000) : (x + 73459 * t + 4657).natAbs < 2 ^ 64 := by omega
theorem cutP {B A : Prop} (f : B → A) (b : B) : A := f b
theorem at_in {α : Type} {xs : List α} {i : Int} (h0 : 0 ≤ i) (h1 : i < xs.length) : ∃ v, v ∈ xs ∧ atI xs i = some v ∧ xs[i.toNat]? = some v := by
  have hlt : i.toNat < xs.length := by omega
  refine ⟨xs[i.toNat], List.getElem_mem hlt, ?_, List.getElem?_eq_getElem hlt⟩
  have q := atI_nat (xs := xs) (j := i.toNat) (v := xs[i.toNat]) (List.getElem?_eq_getElem hlt)
  rw [Int.toNat_of_nonneg h0] at q
  exact q
section
variable {P : Program} {w : World} {K : PySem.W.Frag} {mg : Str → Option Value} {base : Heap}
abbrev st_l_dip : Stmt := top 35
abbrev nm_l_dip : List Str := ["_law_well_here", "_law_many", "_law_at", "_law_cell", "_law_mixed", "_law_rest"]
theorem sc_l_dip : FnScope nm_l_dip ["_law_well_here", "_law_many"] (defScope st_l_dip) := ⟨rfl, rfl, rfl, by decide +kernel, rfl, by decide +kernel, by decide +kernel⟩
def spDraw (K : PySem.W.Frag) : Sp := fun vs H Q _ => ∃ (p : Addr) (many : Int) (T : Nat), vs = [.ref p, .int many] ∧ PenAt H p T ∧ T < 1000000 ∧ 1 ≤ many ∧ many ≤ 1000 ∧
  ∀ H' v, KB p H H' → PenAt H' p (T + 1) → 0 ≤ v → v < many → Q (.int v) H'
theorem ok_draw {f : Addr} {fd : FuncData} (F : Fun K "_law_dip" "_law_dip" st_l_dip f fd) (T : Blt mg) : FnOk P w K mg base CX0 1 f fd ["_law_well_here", "_law_many"] (spDraw K) := by
  refine F.ok sc_l_dip (fun vs H Q E h => ?_) (fun cdv A outer s H vs Q E hr h => ?_)
  · obtain ⟨p, many, T, rfl, _⟩ := h
    rfl
  · refine ⟨_, (pss_cons (ps_if (pt_cmpR op_gt (pe_ix ix_list (pv 0) pe_int (fun _ _ => rfl)) pe_int (nomark _)) (pss_cons (ps_set (i := 5) sc_l_dip.nd rfl (Or.inl rfl) (pe_callTy call_int1 (by rfl) T.n_int (by decide +kernel) (pa_cons (pe_ix ix_list (pv 0) pe_int (fun _ _ => rfl)) pa_nil)))
  (pss_cons (ps_asg (pe_op op_fdiv (pv 5) (pv 1)) (pg_sub (pv 0) pe_int set_list))
  (pss_one (ps_ret (pe_op op_mod (pe_callTy call_int1 (by rfl) T.n_int (by decide +kernel) (pa_cons (pv 5) pa_nil)) (pv 1)))))) pss_nil)
  (pss_cons (ps_set (i := 2) sc_l_dip.nd rfl (Or.inl rfl) (pe_ix ix_list (pv 0) pe_int (fun _ _ => rfl)))
  (pss_cons (ps_asg (pe_op op_add (pv 2) pe_int) (pg_sub (pv 0) pe_int set_list))
  (pss_cons (ps_set (i := 3) sc_l_dip.nd rfl (Or.inl rfl) (pe_op op_add (pe_op op_mul pe_int (pv 2)) pe_int))
  (pss_cons (ps_if (pt_cmpR (op_neD hr.units) (pe_ix ix_list (pv 0) pe_int (fun _ _ => rfl)) (pe_lst pa_nil) (nomark _)) (pss_one (ps_set (i := 3) sc_l_dip.nd rfl (Or.inl rfl) (pe_ix ix_list (pe_ix ix_list (pv 0) pe_int (fun _ _ => rfl)) (pe_op op_mod (pe_callTy call_int1 (by rfl) T.n_int (by decide +kernel) (pa_cons (pv 2) pa_nil)) (pe_callB call_len_seq (by rfl) T.n_len (by decide +kernel) (pa_cons (pe_ix ix_list (pv 0) pe_int (fun _ _ => rfl)) pa_nil))) (fun _ _ => rfl)))) pss_nil)
  (pss_cons (ps_if (PW.pt (pw_and (pt_cmpR op_lt (pv 2) (pe_callB call_len_seq (by rfl) T.n_len (by decide +kernel) (pa_cons (pe_ix ix_list (pv 0) pe_int (fun _ _ => rfl)) pa_nil)) (nomark _)) (pw_and1 (pt_cmpR op_ge (pe_callB call_abs (by rfl) T.n_abs (by decide +kernel) (pa_cons (pv 3) pa_nil)) (pe_op op_pow pe_int pe_int) (nomark _))))) (pss_cons (ps_set (i := 5) sc_l_dip.nd rfl (Or.inl rfl) (pe_op op_sub (pe_callB call_abs (by rfl) T.n_abs (by decide +kernel) (pa_cons (pv 3) pa_nil)) (pe_op op_pow pe_int pe_int)))
  (pss_cons (ps_asg (pe_op op_fdiv (pe_callTy call_int1 (by rfl) T.n_int (by decide +kernel) (pa_cons (pv 5) pa_nil)) (pv 1)) (pg_sub (pv 0) pe_int set_list))
  (pss_one (ps_ret (pe_op op_mod (pe_callTy call_int1 (by rfl) T.n_int (by decide +kernel) (pa_cons (pv 5) pa_nil)) (pv 1)))))) pss_nil)
  (pss_cons (ps_set (i := 4) sc_l_dip.nd rfl (Or.inl rfl) (pe_op op_mod (pe_callTy call_int1 (by rfl) T.n_int (by decide +kernel) (pa_cons (pe_op op_pow (pe_op op_add (pe_op op_add (pe_op op_mod (pe_callTy call_int1 (by rfl) T.n_int (by decide +kernel) (pa_cons (pv 3) pa_nil)) pe_int) (pe_op op_mul pe_int (pv 2))) pe_int) pe_int) pa_nil)) pe_int))
  (pss_cons (ps_set (i := 4) sc_l_dip.nd rfl (Or.inl rfl) (pe_op op_mod (pe_callTy call_int1 (by rfl) T.n_int (by decide +kernel) (pa_cons (pe_op op_pow (pe_op op_add (pe_op op_add (pe_op op_mul (pv 4) (pe_op op_add (pe_op op_mul pe_int (pv 2)) pe_int)) (pe_op op_mul (pe_op op_mul pe_int (pv 2)) (pv 2))) pe_int) pe_int) pa_nil)) pe_int))
  (pss_one (ps_ret (pe_op op_mod (pe_callTy call_int1 (by rfl) T.n_int (by decide +kernel) (pa_cons (pe_op op_fdiv (pv 4) pe_int) pa_nil)) (pv 1)))))))))))), ?_⟩
    obtain ⟨p, many, T, rfl, ⟨l, ns, t, r, hp, hl, hlp, hn, ht0, htT, hr0⟩, hT, hm1, hm2, q⟩ := h
    have done1 : ∀ (t' r' : Int), 0 ≤ t' → t' ≤ T + 1 → 0 ≤ r' → ∀ v, 0 ≤ v → v < many → Q (.int v) (upd H p (.lst [.ref l, .int t', .int r'])) := fun t' r' a b c v d e =>
      q _ v (KB.put hp) ⟨l, ns, t', r', upd_same, (upd_ne hlp).trans hl, hlp, hn, a, by omega, c⟩ d e
    -- if the rest is above 0
    refine ⟨_, rfl, p, _, 2, .int r, rfl, rfl, SqL.of hp, rfl, _, _, rfl, rfl, _, rfl, ?_⟩
    refine ite2 (fun c => ?_) (fun c => ?_)
    · refine ⟨_, rfl, p, _, 2, .int r, rfl, rfl, SqL.of hp, rfl, .inl ⟨_, rfl, _, rfl, _, rfl, _, _, rfl, rfl, ⟨by omega, by omega⟩, _, rfl, p, _, 2, 2, rfl, rfl, hp, rfl, ?_⟩⟩
      refine ⟨_, rfl, .inl ⟨_, rfl, _, rfl, _, _, rfl, rfl, (by show 0 < many; omega), ?_⟩⟩
      exact done1 t (r / many) ht0 (by omega) (Int.ediv_nonneg hr0 (by omega)) _ (Int.emod_nonneg _ (by omega)) (Int.emod_lt_of_pos _ (by omega))
    · refine ⟨_, rfl, p, _, 1, .int t, rfl, rfl, SqL.of hp, rfl, ?_⟩
      refine ⟨_, rfl, _, _, rfl, rfl, ?_⟩
      refine ⟨_, rfl, p, _, 1, 1, rfl, rfl, hp, rfl, ?_⟩
      have hT' : (T : Int) < 1000000 := by omega
      have hp2 : (upd H p (.lst [.ref l, .int (t + 1), .int r])) p = some (.lst [.ref l, .int (t + 1), .int r]) := upd_same
      have hl2 : (upd H p (.lst [.ref l, .int (t + 1), .int r])) l = some (.lst (ns.map V.int)) := (upd_ne hlp).trans hl
      -- the cell, when the pen has no numbers
      refine ⟨_, rfl, _, _, rfl, rfl, .inl ⟨by decide, by decide⟩, _, _, rfl, rfl, ?_⟩
      -- if the pen has numbers
      refine ⟨_, rfl, p, _, 0, .ref l, rfl, rfl, SqL.of hp2, rfl, ?_⟩
      refine ⟨Nat.zero_le _, fun e he => ?_⟩
      have he : (upd H p (.lst [.ref l, .int (t + 1), .int r])) e = none := he
      have hep : e ≠ p := fun z => by
        rw [z, hp2] at he
        cases he
      have hel : e ≠ l := fun z => by
        rw [z, hl2] at he
        cases he
      have hal : (ns.map V.int).all datOk = true := List.all_eq_true.mpr fun v hv => by
        obtain ⟨i, _, rfl⟩ := List.mem_map.mp hv
        rfl
      refine ⟨.list ((ns.map V.int).map datV), .list ([].map datV), .lst (SqL.of ((upd_ne hel.symm).trans hl2)) (dp_all hal), .lst (SqL.of upd_same) .nil, dat_shaped hal, dat_shaped (xs := []) rfl, _, rfl, ?_⟩
      have hp3 : (upd (upd H p (.lst [.ref l, .int (t + 1), .int r])) e (.lst [])) p = some (.lst [.ref l, .int (t + 1), .int r]) := (upd_ne hep.symm).trans hp2
      have hl3 : (upd (upd H p (.lst [.ref l, .int (t + 1), .int r])) e (.lst [])) l = some (.lst (ns.map V.int)) := (upd_ne hel.symm).trans hl2
      have kb3 : KB p H (upd (upd H p (.lst [.ref l, .int (t + 1), .int r])) e (.lst [])) := KB.trans (KB.put hp) (KB.sm (Sm.new he))
      have kb3' : ∀ x y, KB p H (upd (upd (upd H p (.lst [.ref l, .int (t + 1), .int r])) e (.lst [])) p (.lst [.ref l, x, y])) := fun x y => KB.trans kb3 (KB.put hp3)
      have c10 : CPow 10 18 := ⟨by decide, by decide, by decide⟩
      refine ite2 (fun c1 => ?g1) (fun c1 => ?g2)
      case' g1 =>
        have hns : 0 < ns.length := by
          cases ns with
          | nil => exact absurd c1 (by decide)
          | cons x r => exact Nat.succ_pos _
        have hlen : (0 : Int) < ((ns.map V.int).length : Int) := by
          rw [List.length_map]
          omega
        obtain ⟨v, hv, hat, _⟩ := at_in (xs := ns.map V.int) (i := t % ((ns.map V.int).length : Int)) (Int.emod_nonneg _ (by omega)) (Int.emod_lt_of_pos _ hlen)
        obtain ⟨cell, _, rfl⟩ := List.mem_map.mp hv
        refine ⟨_, rfl, p, _, 0, .ref l, rfl, rfl, SqL.of hp3, rfl, _, rfl, .inl ⟨t, rfl, _, rfl, p, _, 0, .ref l, rfl, rfl, SqL.of hp3, rfl, l, _, rfl, .inl (SqL.of hl3), _, _, rfl, rfl,
          hlen, l, _, _, .int cell, rfl, rfl, SqL.of hl3, hat, ?_⟩⟩
      case' g2 =>
        let cell : Int := 62039 * t + 4657
      all_goals
        apply cutP
        · intro last
          refine ⟨_, rfl, _, rfl, p, _, 0, .ref l, rfl, rfl, SqL.of hp3, rfl, l, _, rfl, .inl (SqL.of hl3), _, _, rfl, rfl, _, rfl, ite2 (fun c2 => ?_) (fun c2 => ?_)⟩
          · refine ⟨_, rfl, _, rfl, _, _, rfl, rfl, c10, _, _, rfl, rfl, _, rfl, ite2 (fun c3 => ?_) (fun c3 => ?_)⟩
            · clear last
              have c4 : (10 : Int) ^ (Int.toNat 18) ≤ if cell < 0 then -cell else cell := of_decide_eq_true c3
              refine ⟨_, rfl, _, rfl, _, _, rfl, rfl, c10, _, _, rfl, rfl, ?_⟩
              have hr : 0 ≤ (if cell < 0 then -cell else cell) - 10 ^ (Int.toNat 18) := by
                generalize (10 : Int) ^ (Int.toNat 18) = ten at c4
                generalize (if cell < 0 then -cell else cell) = ab at c4
                omega
              refine ⟨_, rfl, .inl ⟨_, rfl, _, rfl, _, _, rfl, rfl, ⟨by omega, by omega⟩, _, rfl, p, _, 2, 2, rfl, rfl, hp3, rfl, ?_⟩⟩
              refine ⟨_, rfl, .inl ⟨_, rfl, _, rfl, _, _, rfl, rfl, (by show 0 < many; omega), ?_⟩⟩
              exact q _ _ (kb3' _ _) ⟨l, ns, t + 1, _, upd_same, (upd_ne hlp).trans hl3, hlp, hn, by omega, by omega, Int.ediv_nonneg hr (by omega)⟩ (Int.emod_nonneg _ (by omega)) (Int.emod_lt_of_pos _ (by omega))
            · exact last
          · exact iteF last
        · have b1 : 0 ≤ cell % 2147483579 := Int.emod_nonneg _ (by decide)
          have b2 : cell % 2147483579 < 2147483579 := Int.emod_lt_of_pos _ (by decide)
          have b3 : 0 ≤ (cell % 2147483579 + 73459 * t + 4657) ^ (Int.toNat 5) % 2147483549 := Int.emod_nonneg _ (by decide)
          have b4 : (cell % 2147483579 + 73459 * t + 4657) ^ (Int.toNat 5) % 2147483549 < 2147483549 := Int.emod_lt_of_pos _ (by decide)
          have b5 : -(2 ^ 64) < 62039 * t := by omega
          have b6 : 62039 * t < 2 ^ 64 := by omega
          refine ⟨_, rfl, .inl ⟨_, rfl, _, _, rfl, rfl, (by show (0 : Int) < 2147483579; decide), _, rfl, _, _, rfl, rfl, .inl ⟨by decide, by decide⟩, _, _, rfl, rfl, _, _, rfl, rfl, _, _, rfl, rfl, ⟨by decide, by decide, bnd1 b1 b2 ht0 (by omega)⟩, .inl ⟨_, rfl, _, _, rfl, rfl, (by show (0 : Int) < 2147483549; decide), ?_⟩⟩⟩
          refine ⟨_, rfl, _, rfl, _, _, rfl, rfl, .inl ⟨by decide, by decide⟩, _, _, rfl, rfl, _, _, rfl, rfl, .inl ⟨Int.lt_of_lt_of_le (by decide) b3, Int.lt_trans b4 (by decide)⟩, _, rfl, _, _, rfl, rfl, .inl ⟨by decide, by decide⟩, _, rfl, _, _, rfl, rfl, .inl ⟨b5, b6⟩,
            _, _, rfl, rfl, _, _, rfl, rfl, _, _, rfl, rfl, ⟨by decide, by decide, bnd2 b3 b4 ht0 (by omega)⟩, .inl ⟨_, rfl, _, _, rfl, rfl, (by show (0 : Int) < 2147483629; decide), ?_⟩⟩
          refine ⟨_, rfl, _, _, rfl, rfl, ⟨by decide, by decide⟩, .inl ⟨_, rfl, _, rfl, _, _, rfl, rfl, (by show 0 < many; omega), ?_⟩⟩
          exact q _ _ kb3 ⟨l, ns, t + 1, r, hp3, hl3, hlp, hn, by omega, by omega, hr0⟩ (Int.emod_nonneg _ (by omega)) (Int.emod_lt_of_pos _ (by omega))
end
end K4
namespace K4
open PySem PySem.Spec PyProof.Rows L2 K0

/-! ### sorted texts -/
theorem ltc : ∀ a b : List Nat, Spec.ltCps a b = decide (a < b)
  | [], [] => rfl
  | [], _ :: _ => rfl
  | _ :: _, [] => rfl
  | a :: r, b :: t => by
    show (decide (a < b) || (a == b && Spec.ltCps r t)) = _
    rw [ltc r t, Bool.eq_iff_iff]
    simp [List.cons_lt_cons_iff]
theorem rising_pw : ∀ (r : List Str) (x : Str), risingS x r = true → (x :: r).Pairwise fun a b => a.cps.toList ≤ b.cps.toList
  | [], x, _ => by simp
  | y :: r, x, h => by
    have h : (!Spec.ltCps y.cps.toList x.cps.toList && risingS y r) = true := h
    rw [Bool.and_eq_true, ltc] at h
    have h1 : x.cps.toList ≤ y.cps.toList := by simpa using h.1
    have ih := rising_pw r y h.2
    refine List.pairwise_cons.mpr ⟨fun z hz => ?_, ih⟩
    rcases List.mem_cons.mp hz with rfl | hz
    · exact h1
    · exact List.le_trans h1 ((List.pairwise_cons.mp ih).1 z hz)
theorem sorted_pw {ys : List Str} (h : sortedS ys = true) : ys.Pairwise fun a b => a.cps.toList ≤ b.cps.toList := by
  cases ys with
  | nil => exact .nil
  | cons x r => exact rising_pw r x h
theorem sorted_to {l : List (List Nat)} {ys : List Str} (hp : ys.Perm (l.map Tx)) (hs : sortedS ys = true) (hn : l.Nodup) : ∃ ks : List (List Nat), ys = ks.map Tx ∧ ks.Perm l ∧ ks.Pairwise (· < ·) := by
  have h1 : (ys.map fun z => z.cps.toList).Perm l := by
    have := hp.map fun z => z.cps.toList
    rw [List.map_map] at this
    have e : (fun z : Str => z.cps.toList) ∘ Tx = id := by
      funext x
      exact tx_list x
    rwa [e, List.map_id] at this
  refine ⟨ys.map fun z => z.cps.toList, ?_, h1, ?_⟩
  · rw [List.map_map]
    have e : Tx ∘ (fun z : Str => z.cps.toList) = id := by
      funext x
      exact tx_of x
    rw [e, List.map_id]
  · have h2 : (ys.map fun z => z.cps.toList).Nodup := h1.nodup_iff.mpr hn
    have h3 : (ys.map fun z => z.cps.toList).Pairwise (· ≤ ·) := List.pairwise_map.mpr (sorted_pw hs)
    exact (h3.and h2).imp fun {a b} ⟨p, q⟩ => by
      rcases List.le_iff_lt_or_eq.mp p with h | h
      · exact h
      · exact absurd h q
theorem sorted_same {ws : List (List Nat)} (hw : ws.Pairwise (· < ·)) {ys : List Str} (hp : ys.Perm (ws.map Tx)) (hs : sortedS ys = true) : ys = ws.map Tx := by
  obtain ⟨ks, rfl, h1, h2⟩ := sorted_to hp hs (List.Pairwise.imp (fun {a b} (h : a < b) (e : a = b) => List.lt_irrefl b (e ▸ h)) hw)
  rw [List.Perm.eq_of_pairwise (fun a b _ _ p q => absurd (List.lt_trans p q) (List.lt_irrefl _)) h2 hw h1]
theorem sorted_signs {l : List Nat} {ys : List Str} (hp : ys.Perm (l.map fun c => Tx [c])) (hs : sortedS ys = true) (hn : l.Nodup) : ∃ S : List Nat, ys = S.map (fun c => Tx [c]) ∧ S.Perm l ∧ S.Pairwise (· < ·) := by
  have hp' : ys.Perm ((l.map fun c => [c]).map Tx) := by
    rw [List.map_map]
    exact hp
  obtain ⟨ks, rfl, h1, h2⟩ := sorted_to hp' hs (List.pairwise_map.mpr (hn.imp fun h e => h (by simpa using e)))
  have h3 : ∀ k ∈ ks, ∃ c, k = [c] := fun k hk => by
    obtain ⟨c, _, rfl⟩ := List.mem_map.mp (h1.mem_iff.mp hk)
    exact ⟨c, rfl⟩
  have h4 : ks = (ks.map fun k => k.headD 0).map fun c => [c] := by
    rw [List.map_map]
    refine (List.map_id ks).symm.trans (List.map_congr_left fun k hk => ?_)
    obtain ⟨c, rfl⟩ := h3 k hk
    rfl
  refine ⟨ks.map fun k => k.headD 0, ?_, ?_, ?_⟩
  · conv => lhs; rw [h4]
    rw [List.map_map]
    rfl
  · have := h1.map fun k => k.headD 0
    rw [List.map_map] at this
    have e : ((fun k : List Nat => k.headD 0) ∘ fun c => [c]) = id := rfl
    rwa [e, List.map_id] at this
  · rw [h4, List.pairwise_map] at h2
    exact h2.imp fun {a b} h => by
      rcases List.cons_lt_cons_iff.mp h with h | ⟨_, h⟩
      · exact h
      · exact absurd h (List.lt_irrefl _)
theorem join_tx (l : List Nat) : Txt.join (Str.ofString "") (l.map fun c => Tx [c]) = Tx l := by
  have go : ∀ (l : List Nat) (acc : Array Nat), (l.map fun c => Tx [c]).foldl (fun acc p => acc ++ (Str.ofString "").cps ++ p.cps) acc = acc ++ l.toArray := by
    intro l
    induction l with
    | nil => intro acc; simp
    | cons c r ih =>
      intro acc
      rw [List.map_cons, List.foldl_cons, ih]
      apply Array.ext'
      have e : (Str.ofString "").cps.toList = [] := rfl
      simp [Tx, e]
  unfold Txt.join
  cases l with
  | nil => rfl
  | cons c r =>
    show (⟨((r.map fun c => Tx [c])).foldl (fun acc p => acc ++ (Str.ofString "").cps ++ p.cps) (Tx [c]).cps⟩ : Str) = _
    rw [go]
    simp [Tx]
theorem join_len (l : List Nat) (h : l.length ≤ 1000) : ((l.map fun c => Tx [c]).map (·.length)).sum + (l.map fun c => Tx [c]).length * (Str.ofString "").length ≤ 16777216 := by
  have e : ((l.map fun c => Tx [c]).map (·.length)).sum = l.length := by
    clear h
    induction l with
    | nil => rfl
    | cons c r ih =>
      rw [List.map_cons, List.map_cons, List.sum_cons, ih]
      show 1 + r.length = r.length + 1
      omega
  have e2 : (Str.ofString "").length = 0 := rfl
  rw [e, e2, Nat.mul_zero]
  omega
section
variable {P : Program} {w : World} {K : PySem.W.Frag} {mg : Str → Option Value} {base : Heap}

abbrev CDip (P : Program) (w : World) (K : PySem.W.Frag) (mg : Str → Option Value) (base : Heap) : Prop := Cal P w K mg base 1 "_law_dip" st_l_dip ["_law_well_here", "_law_many"] (spDraw K)
/-! ### one of some -/
abbrev st_l_pick : Stmt := top 36
abbrev nm_l_pick : List Str := ["_law_well_here", "_law_some"]
theorem sc_l_pick : FnScope nm_l_pick ["_law_well_here", "_law_some"] (defScope st_l_pick) := ⟨rfl, rfl, rfl, by decide +kernel, rfl, by decide +kernel, by decide +kernel⟩
def spPick (K : PySem.W.Frag) : Sp := fun vs H Q _ => ∃ (p : Addr) (s : V) (T : Nat), vs = [.ref p, s] ∧ PenAt H p T ∧ T < 1000000 ∧
  ((∃ a xs, s = .ref a ∧ SqL K H a xs ∧ a ≠ p ∧ 1 ≤ xs.length ∧ xs.length ≤ 1000 ∧ ∀ H' v, KB p H H' → PenAt H' p (T + 1) → v ∈ xs → Q v H') ∨
   ∃ l : List Nat, s = .str (Tx l) ∧ 1 ≤ l.length ∧ l.length ≤ 1000 ∧ ∀ H' c, KB p H H' → PenAt H' p (T + 1) → c ∈ l → Q (.str (Tx [c])) H')
theorem ok_pick {f : Addr} {fd : FuncData} (F : Fun K "_law_pick" "_law_pick" st_l_pick f fd) (T : Blt mg) (C__law_dip : CDip P w K mg base) : FnOk P w K mg base CX0 2 f fd ["_law_well_here", "_law_some"] (spPick K) := by
  refine F.ok sc_l_pick (fun vs H Q E h => ?_) (fun cdv A outer s H vs Q E hr h => ?_)
  · obtain ⟨p, a, T, rfl, _⟩ := h
    rfl
  · refine ⟨_, (pss_one (ps_ret (pe_ix ix_seq (pv 1) (pe_cl C__law_dip (hr.mono (by decide)) rfl (pa_cons (pv 0) (pa_cons (pe_callB call_len (by rfl) T.n_len (by decide +kernel) (pa_cons (pv 1) pa_nil)) pa_nil))) (fun _ _ => rfl)))), ?_⟩
    obtain ⟨p, s, T, rfl, hp, hT, ⟨a, xs, rfl, ha, hap, h1, h2, q⟩ | ⟨l, rfl, h1, h2, q⟩⟩ := h
    · refine ⟨_, rfl, _, rfl, _, rfl, _, _, rfl, .inl ⟨xs, ha, rfl⟩, p, xs.length, T, rfl, hp, hT, by omega, by omega, fun H' v kb hp' v0 v1 => ?_⟩
      obtain ⟨u, hu, hat, _⟩ := at_in v0 v1
      exact .inl ⟨a, xs, v, u, rfl, rfl, kb.l hap ha, hat, q H' u kb hp' hu⟩
    · refine ⟨_, rfl, _, rfl, _, rfl, _, _, rfl, ⟨by rw [tx_len]; exact small_line (by omega), rfl⟩, p, l.length, T, (by rw [tx_len]; rfl), hp, hT, by omega, by omega, fun H' v kb hp' v0 v1 => ?_⟩
      obtain ⟨u, hu, hat, _⟩ := at_in v0 v1
      exact .inr (.inr ⟨_, v, u, rfl, rfl, by rw [tx_len]; exact small_line (by omega), by rw [tx_list]; exact hat, q H' u kb hp' hu⟩)
/-! ### a stock -/
def lets (b s n : Nat) : List Nat := (List.range n).map fun i => 97 + (b + s * i) % 26
theorem lets_nodup5 : ∀ b < 26, ∀ s ∈ [1, 3, 5, 7, 9, 11, 15], (lets b s 5).Nodup := by decide +kernel
theorem lets_nodup {b s n : Nat} (hb : b < 26) (hs : s ∈ [1, 3, 5, 7, 9, 11, 15]) (hn : n ≤ 5) : (lets b s n).Nodup := by
  have h : (lets b s n).Sublist (lets b s 5) := (List.range_sublist.mpr hn).map _
  exact h.nodup (lets_nodup5 b hb s hs)
theorem letter_at : ∀ k : Nat, k < 26 → atI (Str.ofString "abcdefghijklmnopqrstuvwxyz").cps.toList ((k : Nat) : Int) = some (97 + k : Nat) := by decide +kernel
theorem lets_low {b s n c : Nat} (h : c ∈ lets b s n) : 97 ≤ c ∧ c ≤ 122 := by
  obtain ⟨i, _, rfl⟩ := List.mem_map.mp h
  omega
theorem stock_ok {S : List Nat} {b s n : Nat} (hb : b < 26) (hs : s ∈ [1, 3, 5, 7, 9, 11, 15]) (h1 : 1 ≤ n) (hn : n ≤ 5) (hp : S.Perm (lets b s n)) (hr : S.Pairwise (· < ·)) : stOk S = true ∧ S.length = n := by
  have hl : S.length = n := by
    rw [hp.length_eq]
    simp [lets]
  refine ⟨?_, hl⟩
  unfold stOk
  rw [ris_of_lt hr, hl, decide_eq_true h1, decide_eq_true hn]
  have : lw S = true := List.all_eq_true.mpr fun c hc => by
    have := lets_low (hp.mem_iff.mp hc)
    unfold isaz
    rw [decide_eq_true this.1, decide_eq_true this.2]
    rfl
  rw [this]
  rfl
abbrev st_l_stock : Stmt := top 37
abbrev nm_l_stock : List Str := ["_law_well_here", "_law_many", "_law_letters", "_law_begin", "_law_stride", "_law_at"]
theorem sc_l_stock : FnScope nm_l_stock ["_law_well_here", "_law_many"] (defScope st_l_stock) := ⟨rfl, rfl, rfl, by decide +kernel, rfl, by decide +kernel, by decide +kernel⟩
def spStock (K : PySem.W.Frag) : Sp := fun vs H Q _ => ∃ (p : Addr) (n T : Nat), vs = [.ref p, .int (n : Int)] ∧ PenAt H p T ∧ T < 999990 ∧ 1 ≤ n ∧ n ≤ 5 ∧ ∀ H' S, KB p H H' → PenAt H' p (T + 2) → stOk S = true → S.length = n → Q (.str (Tx S)) H'
theorem ok_stock {f : Addr} {fd : FuncData} (F : Fun K "_law_stock" "_law_stock" st_l_stock f fd) (T : Blt mg) (C__law_dip : CDip P w K mg base) (C__law_pick : Cal P w K mg base 2 "_law_pick" st_l_pick ["_law_well_here", "_law_some"] (spPick K)) :
    FnOk P w K mg base CX0 3 f fd ["_law_well_here", "_law_many"] (spStock K) := by
  refine F.ok sc_l_stock (fun vs H Q E h => ?_) (fun cdv A outer s H vs Q E hr h => ?_)
  · obtain ⟨p, n, T, rfl, _⟩ := h
    rfl
  · refine ⟨_, (pss_cons (ps_asg (pe_tup (pa_cons pe_str (pa_cons (pe_cl C__law_dip (hr.mono (by decide)) rfl (pa_cons (pv 0) (pa_cons pe_int pa_nil))) (pa_cons (pe_cl C__law_pick (hr.mono (by decide)) rfl (pa_cons (pv 0) (pa_cons (pe_lst (pa_cons pe_int (pa_cons pe_int (pa_cons pe_int (pa_cons pe_int (pa_cons pe_int (pa_cons pe_int (pa_cons pe_int pa_nil)))))))) pa_nil))) pa_nil)))) (pg_tup rfl (pgs_cons (pg_name (i := 2) sc_l_stock.nd rfl (Or.inr rfl)) (pgs_cons (pg_name (i := 3) sc_l_stock.nd rfl (Or.inr rfl)) (pgs_cons (pg_name (i := 4) sc_l_stock.nd rfl (Or.inr rfl)) pgs_nil)))))
  (pss_one (ps_ret (pe_join pe_str (pe_callB cr_sortedA (by rfl) T.n_sorted (by decide +kernel) (pa_cons (pe_lc (own := [("_law_at", 5)]) (g := (gName 5)) (tt := tYes) rfl sc_l_stock.nd (pi_range1 rfl T.n_range (pa_cons (pv 1) pa_nil)) (blkOk_by (N := nm_l_stock) (sc := defScope st_l_stock) (own := [("_law_at", 5)]) (by decide +kernel)) (fun _ _ _ _ _ => by exact pg_name (i := 5) sc_l_stock.nd rfl (Or.inl rfl)) (fun _ _ _ _ _ => pts_nil) (fun _ _ _ _ _ => (pe_ix ix_str (pv 2) (pe_op op_mod (pe_op op_add (pv 3) (pe_op op_mul (pv 4) (pv 5))) pe_int) (fun _ _ => rfl)))) pa_nil)))))), ?_⟩
    obtain ⟨p, n, T, rfl, hp, hT, h1, h5, q⟩ := h
    refine ⟨_, rfl, p, 26, T, rfl, hp, by omega, by decide, by decide, fun H1 b kb1 hp1 b0 b1 => ?_⟩
    refine ⟨_, rfl, small_line (by decide), fun l hl => ?_⟩
    refine ⟨p, _, T + 1, rfl, hp1.sm (Sm.new hl), by omega, .inl ⟨l, _, rfl, SqL.of upd_same, hp1.ne hl, by decide, by decide, fun H2 v kb2 hp2 hv => ?_⟩⟩
    obtain ⟨s, hs, rfl⟩ : ∃ s : Nat, s ∈ [1, 3, 5, 7, 9, 11, 15] ∧ v = .int (s : Int) := by
      simp only [List.mem_cons, List.not_mem_nil, or_false] at hv
      rcases hv with rfl | rfl | rfl | rfl | rfl | rfl | rfl
      · exact ⟨1, by decide, rfl⟩
      · exact ⟨3, by decide, rfl⟩
      · exact ⟨5, by decide, rfl⟩
      · exact ⟨7, by decide, rfl⟩
      · exact ⟨9, by decide, rfl⟩
      · exact ⟨11, by decide, rfl⟩
      · exact ⟨15, by decide, rfl⟩
    obtain ⟨b, rfl⟩ : ∃ k : Nat, b = (k : Int) := ⟨b.toNat, by omega⟩
    have hb : b < 26 := by omega
    have hs15 : s ≤ 15 := by
      simp only [List.mem_cons, List.not_mem_nil, or_false] at hs
      omega
    have kbs : KB p H H2 := KB.trans (KB.trans kb1 (KB.sm (Sm.new hl))) kb2
    refine ⟨small_line (by show 3 ≤ 1000000; decide), fun t ht => ⟨t, _, rfl, SqT.of upd_same, rfl, _, _, rfl, _, _, rfl, _, _, rfl, rfl, ?_⟩⟩
    have hp3 := hp2.sm (Sm.new (o := .tup [V.str (Str.ofString "abcdefghijklmnopqrstuvwxyz"), V.int (b : Int), V.int (s : Int)]) ht)
    have kbs := KB.trans kbs (KB.sm (Sm.new (o := .tup [V.str (Str.ofString "abcdefghijklmnopqrstuvwxyz"), V.int (b : Int), V.int (s : Int)]) ht))
    refine ⟨⟨_, rfl⟩, _, rfl, (n : Int), rfl, by omega, by omega, fun D hD => ?_⟩
    refine lc_it (n := (n : Int).toNat) walk_range (SPv _ D fun i => (lets b s i).map fun c => V.str (Tx [c])) (spv0 hD rfl) (fun _ _ _ _ => trivial) ?_ ?_
    · rintro i x H3 H4 hi ⟨p1, p2⟩ ⟨rfl, rfl⟩
      have hi5 : i < 5 := by omega
      have hm : s * i ≤ 15 * 5 := Nat.mul_le_mul hs15 (by omega)
      have hk : ((b : Int) + (s : Int) * (0 + (i : Int))) % 26 = (((b + s * i) % 26 : Nat) : Int) := by
        rw [show (0 + (i : Int)) = (i : Int) by omega, ← Int.natCast_mul]
        omega
      refine ⟨rfl, _, rfl, _, rfl, _, rfl, _, rfl, _, _, rfl, rfl, .inl ⟨by omega, by omega⟩, _, _, rfl, rfl, _, _, rfl, rfl, (by show (0 : Int) < 26; decide), _, _, 97 + (b + s * i) % 26, rfl, rfl, small_line (by decide), ?_, ?_⟩
      · show atI _ (((b : Int) + (s : Int) * (0 + (i : Int))) % 26) = _
        rw [hk]
        exact letter_at _ (Nat.mod_lt _ (by decide))
      · refine spv_put hD p1 p2 ?_ ?_
        · simp only [lets, List.length_map, List.length_range]
          omega
        · simp [lets, List.range_succ, tx_one]
    · rintro H3 ⟨p1, p2⟩
      refine ⟨D, (lets b s n).map (fun c => Tx [c]), rfl, SqL.of (by rw [p2]; simp), fun ys r hys hso hr0 => ?_⟩
      obtain ⟨S, rfl, e1, e2⟩ := sorted_signs hys hso (lets_nodup hb hs h5)
      obtain ⟨k1, k2⟩ := stock_ok hb hs h1 h5 e1 e2
      refine ⟨_, r, _, rfl, rfl, .inl (SqL.of upd_same), join_len S (by omega), ?_⟩
      rw [join_tx]
      exact q _ S (KB.trans kbs (KB.sm (p1.trans (Sm.new hr0)))) ((hp3.sm p1).sm (Sm.new hr0)) k1 k2
end
end K4
namespace K4
open PySem PySem.Spec PyProof.Rows L2 K0
section
variable {P : Program} {w : World} {K : PySem.W.Frag} {mg : Str → Option Value} {base : Heap}

/-! ### own words -/
abbrev st_l_listed : Stmt := top 38
abbrev nm_l_listed : List Str := ["_law_stock_here", "_law_most", "_law_turn", "_law_found", "_law_longest", "_law_wider", "_law_sound", "_law_word"]
theorem sc_l_listed : FnScope nm_l_listed ["_law_stock_here", "_law_most"] (defScope st_l_listed) := ⟨rfl, rfl, rfl, by decide +kernel, rfl, by decide +kernel, by decide +kernel⟩
theorem front_take {S : List Nat} {ws : List (List Nat)} {j c : Nat} (h : S[j]? = some c) : ((S.take (j + 1)).flatMap fun s => ws.map fun w => s :: w) = ((S.take j).flatMap fun s => ws.map fun w => s :: w) ++ ws.map fun w => c :: w := by
  rw [List.take_succ, h]
  simp
def spListed (K : PySem.W.Frag) : Sp := fun vs H Q _ => ∃ (S : List Nat) (m : Nat), vs = [.str (Tx S), .int (m : Int)] ∧ S.length ≤ 5 ∧ 1 ≤ S.length ∧ m ≤ 12 ∧ bel S.length (m + 1) ≤ 1000 ∧ S.Pairwise (· < ·) ∧
  ∀ H' p, Same H H' → H p = none → H' p = some (.lst (tws (upto S m))) → Q (.ref p) H'
theorem ok_listed {f : Addr} {fd : FuncData} (F : Fun K "_law_listed" "_law_listed" st_l_listed f fd) (T : Blt mg) : FnOk P w K mg base CX0 1 f fd ["_law_stock_here", "_law_most"] (spListed K) := by
  refine F.ok sc_l_listed (fun vs H Q E h => ?_) (fun cdv A outer s H vs Q E hr h => ?_)
  · obtain ⟨S, m, rfl, _⟩ := h
    rfl
  · refine ⟨_, (pss_cons (ps_par (i := 3) (j := 4) rfl sc_l_listed.nd rfl rfl (by decide) rfl rfl (pa_cons (pe_lst (pa_cons pe_str pa_nil)) (pa_cons (pe_lst (pa_cons pe_str pa_nil)) pa_nil)) rfl)
  (pss_cons (ps_for PassesOwn.never rfl (pi_range1 rfl T.n_range (pa_cons (pv 1) pa_nil)) (pg_name (i := 2) sc_l_listed.nd rfl (Or.inl rfl)) (pss_cons (ps_set (i := 5) sc_l_listed.nd rfl (Or.inl rfl) (pe_lst pa_nil))
  (pss_cons (ps_for PassesOwn.never rfl (pi_str (pv 0)) (pg_name (i := 6) sc_l_listed.nd rfl (Or.inr rfl)) (pss_one (ps_expr (pe_bm PySem.F.plainAttrs_list PySem.F.slot_list_extend PySem.F.type_list_extend mt_extend (pv 5) (pa_cons (pe_lc (own := [("_law_word", 7)]) (g := (gName 7)) (tt := tYes) rfl sc_l_listed.nd (pi_list (pv 4)) (blkOk_by (N := nm_l_listed) (sc := defScope st_l_listed) (own := [("_law_word", 7)]) (by decide +kernel)) (fun _ _ _ _ _ => by exact pg_name (i := 7) sc_l_listed.nd rfl (Or.inl rfl)) (fun _ _ _ _ _ => pts_nil) (fun _ _ _ _ _ => (pe_op op_add_str (pv 6) (pv 7)))) pa_nil)))))
  (pss_cons (ps_set (i := 4) sc_l_listed.nd rfl (Or.inl rfl) (pe_callB cr_sortedA (by rfl) T.n_sorted (by decide +kernel) (pa_cons (pv 5) pa_nil)))
  (pss_one (ps_set (i := 3) sc_l_listed.nd rfl (Or.inl rfl) (pe_op op_cat (pv 3) (pv 4))))))))
  (pss_one (ps_ret (pv 3))))), ?_⟩
    obtain ⟨S, m, rfl, h5, h1, hm, hb, hs, q⟩ := h
    have hn := nodup_of_lt hs
    refine ⟨small_line (by decide), fun a ha => ⟨small_line (by decide), fun b hb0 => ?_⟩⟩
    have nab : a ≠ b := ne_of_none upd_same hb0
    have hbn : H b = none := by rwa [upd_ne nab.symm] at hb0
    refine ⟨_, _, rfl, ?_⟩
    refine ⟨_, rfl, (m : Int), rfl, by omega, by omega, ?_⟩
    refine for_it (n := (m : Int).toNat) walk_range (fun i σ H' => ∃ (c d : Addr) (u v y z : Option V), σ = [some (.str (Tx S)), some (.int (m : Int)), u, some (.ref c), some (.ref d), v, y, z] ∧ Same H H' ∧ H c = none ∧ H' c = some (.lst (tws (upto S i))) ∧ H' d = some (.lst (tws (lev S i))))
      ⟨a, b, none, none, none, none, rfl, (Sm.new ha).trans (Sm.new hb0), ha, (upd_ne nab).trans upd_same, upd_same⟩ (fun _ _ _ _ _ => trivial) ?_ ?_
    · rintro i x σ H2 H3 hi ⟨c, d, u, v, y, z, rfl, sm, hcn, hc, hd⟩ ⟨rfl, rfl⟩
      have him : i < m := by omega
      have hbi := bel_mono S.length (show i + 1 + 1 ≤ m + 1 by omega)
      rw [bel_succ S.length (i + 1)] at hbi
      have hli : S.length ^ (i + 1) ≤ 1000 := by omega
      have hwi : ∀ w ∈ lev S i, w.length ≤ 12 := fun w hw => by
        have := (lev_mem hw).1
        omega
      refine ⟨small_line (by decide), fun e he => ?_⟩
      have nce : c ≠ e := ne_of_none hc he
      have nde : d ≠ e := ne_of_none hd he
      refine ⟨_, rfl, _, rfl, ?_⟩
      refine for_it (n := S.length) walk_tx (fun j σ H' => ∃ (y : Option V) (z : Option V), σ = [some (.str (Tx S)), some (.int (m : Int)), some (.int (0 + (i : Int))), some (.ref c), some (.ref d), some (.ref e), y, z] ∧ (∀ x o, x ≠ e → H3 x = some o → H' x = some o) ∧ H' e = some (.lst (tws ((S.take j).flatMap fun s => (lev S i).map fun w => s :: w))))
        ⟨_, _, rfl, fun x o n h => (upd_ne n).trans h, upd_same⟩ (fun _ _ _ _ _ => trivial) ?_ ?_
      · rintro j x σ H4 H5 hj ⟨y, z, rfl, kp, h4⟩ ⟨rfl, s, hs1, rfl⟩
        have hd4 := kp d _ nde hd
        refine ⟨_, rfl, .inl ⟨rfl, _, SqL.of h4⟩, _, rfl, d, rfl, ⟨_, SqL.of hd4⟩, fun D hD => ?_⟩
        have neD : e ≠ D := ne_of_none h4 hD
        have wl := walk_list (K := K) (a := d) (xs := tws (lev S i))
        rw [tws_len] at wl
        refine lc_it (n := (lev S i).length) wl (SPv _ D fun k => tws (((lev S i).take k).map fun w => s :: w)) (spv0 hD rfl) (fun k H6 _ p => p.1.seq (SqL.of hd4)) ?_ ?_
        · rintro k x H6 H7 hk ⟨p1, p2⟩ ⟨rfl, hx⟩
          obtain ⟨u, hu, rfl⟩ := tws_at hx
          refine ⟨rfl, _, rfl, _, rfl, _, _, rfl, rfl, ?_, ?_⟩
          · have := hwi u (List.mem_of_getElem? hu)
            rw [tx_len, tx_len]
            exact small_line (by show 1 + u.length ≤ 1000000; omega)
          · refine spv_put hD p1 p2 ?_ ?_
            · rw [tws_len, List.length_map, List.length_take, lev_length]
              have : S.length ^ i ≤ S.length ^ (i + 1) := Nat.pow_le_pow_right (by omega) (Nat.le_succ i)
              omega
            · rw [List.take_succ, hu, tx_app]
              simp [tws]
        · rintro H6 ⟨p1, p2⟩
          dsimp only at p2
          rw [List.take_length] at p2
          refine ⟨e, D, _, _, rfl, rfl, p1 _ _ h4, p2, ?_, ?_⟩
          · rw [tws_len, tws_len, List.length_map, lev_length]
            have e1 : ((S.take j).flatMap fun s => (lev S i).map fun w => s :: w).length = j * S.length ^ i := by
              rw [List.length_flatMap]
              have : (S.take j).map (fun s => ((lev S i).map fun w => s :: w).length) = (S.take j).map fun _ => S.length ^ i := List.map_congr_left fun s _ => by rw [List.length_map, lev_length]
              rw [this, List.map_const', List.sum_replicate_nat, List.length_take, Nat.min_eq_left (by omega)]
            rw [e1]
            have e2 : (j + 1) * S.length ^ i ≤ S.length * S.length ^ i := Nat.mul_le_mul_right _ hj
            have e3 : S.length * S.length ^ i = S.length ^ (i + 1) := (Nat.pow_succ').symm
            rw [Nat.succ_mul, e3] at e2
            exact small_line (by omega)
          · refine ⟨_, z, rfl, fun x o n h => ?_, ?_⟩
            · rw [upd_ne n]
              exact p1 _ _ (kp x o n h)
            · rw [upd_same, ← tws_app, front_take hs1]
      · rintro σ H4 ⟨y, z, rfl, kp, h4⟩
        rw [List.take_length, ← lev_front] at h4
        refine ⟨_, rfl, e, (lev S (i + 1)).map Tx, rfl, SqL.of (by rw [h4, tws_str]), fun ys r hys hso hr => ?_⟩
        have e1 := sorted_same (lev_sorted hs (i + 1)) hys hso
        subst e1
        have ncr : c ≠ r := ne_of_none (kp c _ nce hc) hr
        have hc4 := (upd_ne (o := .lst (((lev S (i + 1)).map Tx).map V.str)) ncr).trans (kp c _ nce hc)
        refine ⟨_, rfl, _, rfl, c, r, _, _, rfl, rfl, hc4, upd_same, ?_, fun g hg => ?_⟩
        · rw [← tws_str, tws_len, tws_len, upto_length hn, lev_length]
          exact small_line (by omega)
        · have nrg : r ≠ g := ne_of_none upd_same hg
          have hgn : H4 g = none := by rwa [upd_ne nrg.symm] at hg
          have hen : H e = none := by
            cases z : H e with
            | none => rfl
            | some o =>
              have := sm _ _ z
              rw [he] at this
              cases this
          have sm4 : Same H H4 := fun x o z => kp x o (ne_of_none z hen) (sm x o z)
          refine ⟨g, r, _, _, _, _, rfl, (sm4.trans (Sm.new hr)).trans (Sm.new hg), ?_, ?_, ?_⟩
          · cases z : H g with
            | none => rfl
            | some o =>
              have := sm4 _ _ z
              rw [hgn] at this
              cases this
          · rw [upd_same, ← tws_str, ← tws_app]
            rfl
          · rw [upd_ne nrg, upd_same, ← tws_str]
    · rintro σ H2 ⟨c, d, u, v, y, z, rfl, sm, hcn, hc, hd⟩
      rw [Int.toNat_natCast] at hc
      exact ⟨_, rfl, q H2 c sm hcn hc⟩
/-! ### how many stand ahead -/
abbrev st_l_ahead : Stmt := top 39
abbrev nm_l_ahead : List Str := ["_law_word", "_law_stock_here", "_law_sound", "_law_shorter", "_law_place", "_law_many", "_law_one"]
theorem sc_l_ahead : FnScope nm_l_ahead ["_law_word", "_law_stock_here"] (defScope st_l_ahead) := ⟨rfl, rfl, rfl, by decide +kernel, rfl, by decide +kernel, by decide +kernel⟩
def spAhead : Sp := fun vs H Q _ => ∃ (l S : List Nat), vs = [.str (Tx l), .str (Tx S)] ∧ S.length ≤ 5 ∧ l.length ≤ 12 ∧ S.Pairwise (· < ·) ∧ (∀ c ∈ l, c ∈ S) ∧ ∀ H', Same H H' → Q (.int (num S l : Nat)) H'
theorem lt_one {c d : Nat} (h : ([d] : List Nat) < [c]) : d < c := by
  rcases List.cons_lt_cons_iff.mp h with h | ⟨_, h⟩
  · exact h
  · exact absurd h (List.lt_irrefl _)
theorem ahd_snoc (S w : List Nat) (c : Nat) : ahd S (w ++ [c]) = ((ahd S w).1 + (ahd S w).2.2, (ahd S w).2.1 * S.length + (S.filter fun d => decide (d < c)).length, (ahd S w).2.2 * S.length) := by
  unfold ahd
  rw [List.foldl_append]
  rfl
theorem ahd_many (S w : List Nat) : (ahd S w).2.2 = S.length ^ w.length := by
  refine rev_ind (p := fun w => (ahd S w).2.2 = S.length ^ w.length) rfl (fun l c h => ?_) w
  rw [ahd_snoc, List.length_append]
  show (ahd S l).2.2 * S.length = S.length ^ (l.length + 1)
  rw [h, Nat.pow_succ]
theorem ok_ahead {f : Addr} {fd : FuncData} (F : Fun K "_law_ahead" "_law_ahead" st_l_ahead f fd) (T : Blt mg) : FnOk P w K mg base CX0 1 f fd ["_law_word", "_law_stock_here"] spAhead := by
  refine F.ok sc_l_ahead (fun vs H Q E h => ?_) (fun cdv A outer s H vs Q E hr h => ?_)
  · obtain ⟨l, S, rfl, _⟩ := h
    rfl
  · refine ⟨_, (pss_cons (ps_asg (pe_tup (pa_cons pe_int (pa_cons pe_int (pa_cons pe_int pa_nil)))) (pg_tup rfl (pgs_cons (pg_name (i := 3) sc_l_ahead.nd rfl (Or.inl rfl)) (pgs_cons (pg_name (i := 4) sc_l_ahead.nd rfl (Or.inl rfl)) (pgs_cons (pg_name (i := 5) sc_l_ahead.nd rfl (Or.inl rfl)) pgs_nil)))))
  (pss_cons (ps_for PassesOwn.never rfl (pi_str (pv 0)) (pg_name (i := 2) sc_l_ahead.nd rfl (Or.inr rfl)) (pss_cons (ps_par (i := 3) (j := 5) rfl sc_l_ahead.nd rfl rfl (by decide) rfl rfl (pa_cons (pe_op op_add (pv 3) (pv 5)) (pa_cons (pe_op op_mul (pv 5) (pe_callB call_len_str (by rfl) T.n_len (by decide +kernel) (pa_cons (pv 1) pa_nil))) pa_nil)) rfl)
  (pss_one (ps_set (i := 4) sc_l_ahead.nd rfl (Or.inl rfl) (pe_op op_add (pe_op op_mul (pv 4) (pe_callB call_len_str (by rfl) T.n_len (by decide +kernel) (pa_cons (pv 1) pa_nil))) (pe_callB call_len_seq (by rfl) T.n_len (by decide +kernel) (pa_cons (pe_lc (own := [("_law_one", 6)]) (g := (gName 6)) rfl sc_l_ahead.nd (pi_str (pv 1)) (blkOk_by (N := nm_l_ahead) (sc := defScope st_l_ahead) (own := [("_law_one", 6)]) (by decide +kernel)) (fun _ _ _ _ _ => by exact pg_name (i := 6) sc_l_ahead.nd rfl (Or.inl rfl)) (fun _ _ _ _ _ => pts_one (pt_cmpR op_lt_str (pv 6) (pv 2) (nomark _))) (fun _ _ _ _ _ => (pv 6))) pa_nil)))))))
  (pss_one (ps_ret (pe_op op_add (pv 3) (pv 4)))))), ?_⟩
    obtain ⟨l, S, rfl, h5, hl, hs, hm, q⟩ := h
    refine ⟨small_line (by decide), fun t ht => ⟨t, _, rfl, SqT.of upd_same, rfl, _, _, rfl, _, _, rfl, _, _, rfl, rfl, ?_⟩⟩
    refine ⟨_, rfl, _, rfl, ?_⟩
    refine for_it (n := l.length) walk_tx (fun i σ H' => ∃ (v z : Option V), σ = [some (.str (Tx l)), some (.str (Tx S)), v, some (.int ((ahd S (l.take i)).1 : Nat)), some (.int ((ahd S (l.take i)).2.1 : Nat)), some (.int ((ahd S (l.take i)).2.2 : Nat)), z] ∧ Same H H') ⟨none, none, rfl, Sm.new ht⟩ (fun _ _ _ _ _ => trivial) ?_ ?_
    · rintro i x σ H2 H3 hi ⟨v, z, rfl, sm⟩ ⟨rfl, c, hc, rfl⟩
      have e0 : l.take (i + 1) = l.take i ++ [c] := by
        rw [List.take_succ, hc]
        rfl
      have hin : ∀ d ∈ l.take i, d ∈ S := fun d hd => hm d (List.mem_of_mem_take hd)
      have hnum := num_small hin h5 (by rw [List.length_take]; omega)
      have hah := (ahd_num hs (l.take i) hin).1
      have hmany : (ahd S (l.take i)).2.2 ≤ 244140625 := by
        rw [ahd_many]
        exact pow_small h5 (by rw [List.length_take]; omega)
      rw [e0, ahd_snoc]
      generalize (ahd S (l.take i)).1 = n1 at *
      generalize (ahd S (l.take i)).2.1 = n2 at *
      generalize (ahd S (l.take i)).2.2 = n3 at *
      refine ⟨_, rfl, _, rfl, _, _, rfl, rfl, _, rfl, _, rfl, _, rfl, (by rw [tx_len]; exact small_line (by omega)), _, _, rfl, rfl, .inl ⟨by omega, by omega⟩, _, _, rfl, ?_⟩
      refine ⟨_, rfl, _, rfl, _, rfl, (by rw [tx_len]; exact small_line (by omega)), _, _, rfl, rfl, .inl ⟨by omega, by omega⟩, ?_⟩
      refine ⟨_, rfl, _, rfl, fun D hD => ?_⟩
      refine lc_it (n := S.length) walk_tx (SPv _ D fun i => ((S.take i).filter fun d => decide (d < c)).map fun d => V.str (Tx [d])) (spv0 hD rfl) (fun _ _ _ _ => trivial) ?_ ?_
      · rintro j x H4 H5 hj ⟨p1, p2⟩ ⟨rfl, d, hd, rfl⟩
        have key : ((S.take (j + 1)).filter fun d => decide (d < c)) = ((S.take j).filter fun d => decide (d < c)) ++ if d < c then [d] else [] := by
          rw [List.take_succ, hd, List.filter_append]
          by_cases k : d < c
          · simp [k]
          · simp [k]
        refine ⟨rfl, _, rfl, _, rfl, _, _, rfl, rfl, _, rfl, ite2 (fun k => ?_) (fun k => ?_)⟩
        · have k' : d < c := lt_one (of_decide_eq_true k)
          refine ⟨_, rfl, spv_put hD p1 p2 ?_ ?_⟩
          · rw [List.length_map]
            have := List.length_filter_le (fun d => decide (d < c)) (S.take j)
            rw [List.length_take] at this
            omega
          · rw [key, if_pos k', List.map_append]
            rfl
        · have k' : ¬ d < c := fun z => by
            have := of_decide_eq_false (Bool.eq_false_iff.mpr k)
            exact this (List.cons_lt_cons_iff.mpr (.inl z))
          refine ⟨p1, ?_⟩
          rw [p2]
          dsimp only
          rw [key, if_neg k', List.append_nil]
      · rintro H4 ⟨p1, p2⟩
        dsimp only at p2
        rw [List.take_length] at p2
        refine ⟨D, _, rfl, .inl (SqL.of p2), _, _, rfl, rfl, ?_⟩
        refine ⟨some (.str (Tx [c])), z, ?_, sm.trans p1⟩
        show [_, _, _, some (V.int ((n1 : Int) + (n3 : Int))), some (V.int ((n2 : Int) * ((Tx S).length : Int) + ((((S.filter fun d => decide (d < c)).map fun d => V.str (Tx [d])).length : Nat) : Int))), some (V.int ((n3 : Int) * ((Tx S).length : Int))), z] = _
        rw [List.length_map, tx_len]
        simp only [Int.natCast_add, Int.natCast_mul]
    · rintro σ H2 ⟨v, z, rfl, sm⟩
      rw [List.take_length]
      have e := (ahd_num hs l hm).1
      refine ⟨_, rfl, _, rfl, _, _, rfl, rfl, ?_⟩
      have e2 : (((ahd S l).1 : Nat) : Int) + (((ahd S l).2.1 : Nat) : Int) = ((num S l : Nat) : Int) := by
        rw [← e]
        simp
      show Q (.int (((ahd S l).1 : Nat) + ((ahd S l).2.1 : Nat))) _
      rw [e2]
      exact q _ sm
end
end K4
namespace K4
open PySem PySem.Spec PyProof.Rows L2 K0
section
variable {P : Program} {w : World} {K : PySem.W.Frag} {mg : Str → Option Value} {base : Heap}

def sg (l : List Nat) : List V := l.map fun c => V.str (Tx [c])
theorem sgn_sg (l : List Nat) : sgn (Tx l) = sg l := by
  unfold sgn sg
  rw [tx_list]
  rfl
theorem sg_at {l : List Nat} {j c : Nat} (h : l[j]? = some c) : (sg l)[j]? = some (.str (Tx [c])) := by
  unfold sg
  rw [List.getElem?_map, h]
  rfl
theorem sg_len (l : List Nat) : (sg l).length = l.length := by simp [sg]
theorem sg_set (l : List Nat) (j c : Nat) : (sg l).set j (.str (Tx [c])) = sg (l.set j c) := by
  unfold sg
  rw [List.map_set]
theorem sg_strs (l : List Nat) : sg l = (l.map fun c => Tx [c]).map V.str := by
  unfold sg
  rw [List.map_map]
  rfl
theorem set_mid (u v : List Nat) (s c : Nat) : (u ++ [s] ++ v).set u.length c = u ++ [c] ++ v := by
  simp [List.set_append]
theorem at_first {α : Type} {a : α} {R : List α} : atI (a :: R) (0 : Int) = some a := atI_nat (j := 0) rfl
theorem ixN_at {n j : Nat} (h : j < n) : ixN n (j : Int) = some j := by
  unfold ixN
  rw [if_pos (by omega), if_pos (by omega)]
  simp
/-! ### the word behind -/
abbrev st_l_behind : Stmt := top 40
abbrev nm_l_behind : List Str := ["_law_word", "_law_stock_here", "_law_sounds", "_law_at"]
theorem sc_l_behind : FnScope nm_l_behind ["_law_word", "_law_stock_here"] (defScope st_l_behind) := ⟨rfl, rfl, rfl, by decide +kernel, rfl, by decide +kernel, by decide +kernel⟩
def spBehind (_ : PySem.W.Frag) : Sp := fun vs H Q _ => ∃ (l S : List Nat), vs = [.str (Tx l), .str (Tx S)] ∧ stOk S = true ∧ l.length ≤ 12 ∧ (∀ c ∈ l, c ∈ S) ∧
  (num S l = lastN S → ∀ H', Same H H' → Q .non H') ∧ (num S l < lastN S → ∀ H', Same H H' → Q (.str (Tx (wordOf S (num S l + 1)))) H')
theorem ok_behind {f : Addr} {fd : FuncData} (F : Fun K "_law_behind" "_law_behind" st_l_behind f fd) (T : Blt mg) : FnOk P w K mg base CX0 1 f fd ["_law_word", "_law_stock_here"] (spBehind K) := by
  refine F.ok sc_l_behind (fun vs H Q E h => ?_) (fun cdv A outer s H vs Q E hr h => ?_)
  · obtain ⟨l, S, rfl, _⟩ := h
    rfl
  · refine ⟨_, (pss_cons (ps_par (i := 2) (j := 3) rfl sc_l_behind.nd rfl rfl (by decide) rfl rfl (pa_cons (pe_callTy (call_listS rfl) (by rfl) T.n_list (by decide +kernel) (pa_cons (pv 0) pa_nil)) (pa_cons (pe_op op_sub (pe_callB call_len_str (by rfl) T.n_len (by decide +kernel) (pa_cons (pv 0) pa_nil)) pe_int) pa_nil)) rfl)
  (pss_cons (ps_while PassesOwn.never (PW.pt (pw_and (pt_cmpR op_ge (pv 3) pe_int (nomark _)) (pw_and1 (pt_cmpR op_eq (pe_ix ix_list (pv 2) (pv 3) (fun _ _ => rfl)) (pe_ix ix_str (pv 1) (pe_un un_neg pe_int) (fun _ _ => rfl)) (nomark _))))) (pss_cons (ps_asg (pe_ix ix_str (pv 1) pe_int (fun _ _ => rfl)) (pg_sub (pv 2) (pv 3) set_list))
  (pss_one (ps_set (i := 3) sc_l_behind.nd rfl (Or.inl rfl) (pe_op op_sub (pv 3) pe_int)))))
  (pss_cons (ps_if (pt_cmpR op_ge (pv 3) pe_int (nomark _)) (pss_cons (ps_asg (pe_ix ix_str (pv 1) (pe_op op_add (pe_sidx (pv 1) (pe_ix ix_list (pv 2) (pv 3) (fun _ _ => rfl))) pe_int) (fun _ _ => rfl)) (pg_sub (pv 2) (pv 3) set_list))
  (pss_one (ps_ret (pe_join pe_str (pv 2))))) pss_nil)
  (pss_one (ps_ret (pe_ifExp (pt_cmpR op_lt (pe_callB call_len_str (by rfl) T.n_len (by decide +kernel) (pa_cons (pv 0) pa_nil)) pe_int (nomark _)) (pe_op op_add_str (pe_join pe_str (pv 2)) (pe_ix ix_str (pv 1) pe_int (fun _ _ => rfl))) pe_non)))))), ?_⟩
    obtain ⟨l, S, rfl, ok, hl, hm, q1, q2⟩ := h
    obtain ⟨h1, h5, hp⟩ := st_facts ok
    have hn := nodup_of_lt hp
    obtain ⟨T', z, eS⟩ := last_of (ne_nil h1)
    have hz := last_ix eS hn
    obtain ⟨a, R, eR⟩ : ∃ a R, S = a :: R := by
      cases S with
      | nil => exact absurd h1 (by decide)
      | cons a R => exact ⟨a, R, rfl⟩
    have ha : ix S a = 0 := ix_at hn (by rw [eR]; rfl)
    have hzS : z ∈ S := by rw [eS]; simp
    have haS : a ∈ S := by rw [eR]; simp
    refine ⟨_, rfl, Tx l, rfl, (by rw [tx_len]; exact small_line (by omega)), fun L hL => ⟨_, rfl, Tx l, rfl, (by rw [tx_len]; exact small_line (by omega)), _, _, rfl, rfl, _, _, rfl, ?_⟩⟩
    refine while_by (fun σ H' => ∃ (u : List Nat) (j : Nat), l = u ++ List.replicate j z ∧ σ = [some (.str (Tx l)), some (.str (Tx S)), some (.ref L), some (.int ((u.length : Int) - 1))] ∧ Same H H' ∧ H' L = some (.lst (sg (u ++ List.replicate j a)))) (fun σ _ => match σ with
      | [_, _, _, some (.int m)] => (m + 1).toNat
      | _ => 0) ⟨l, 0, by simp, ?_, Sm.new hL, by rw [upd_same, sgn_sg]; simp⟩ ?_ ?_
    · show [_, _, _, some (V.int (((Tx l).length : Int) - 1))] = _
      rw [tx_len]
    · rintro σ H2 ⟨u, j, el, rfl, sm, hL2⟩
      rcases List.eq_nil_or_concat u with rfl | ⟨u, s, eu⟩
      · have el : l = List.replicate j z := by rw [el]; rfl
        have hlj : l.length = j := by rw [el, List.length_replicate]
        refine ⟨_, rfl, _, _, rfl, rfl, _, rfl, ite2 (fun c => absurd c (by decide)) (fun _ => ?_)⟩
        refine iteF ?_
        refine ⟨_, rfl, _, _, rfl, rfl, _, rfl, ite2 (fun c => absurd c (by decide)) (fun _ => ?_)⟩
        refine ⟨_, rfl, _, rfl, (by rw [tx_len]; exact small_line (by omega)), _, _, rfl, rfl, _, rfl, ite2 (fun c => ?_) (fun c => ?_)⟩
        · have c' : ((Tx l).length : Int) < 12 := of_decide_eq_true c
          rw [tx_len] at c'
          have e1 : num S l + 1 = num S (List.replicate j a ++ [a]) := by
            rw [el]
            exact next_long ha hz j
          have e2 : num S (List.replicate j a ++ [a]) ≤ lastN S := num_le_lastN h1 hn (fun c hc => by
            rcases List.mem_append.mp hc with hc | hc
            · rw [(List.mem_replicate.mp hc).2]
              exact haS
            · rw [List.mem_singleton.mp hc]
              exact haS) (by simp; omega)
          refine ⟨⟨_, rfl⟩, _, rfl, _, L, (List.replicate j a).map (fun c => Tx [c]), rfl, rfl, .inl (SqL.of (by rw [hL2, sg_strs]; rfl)), join_len _ (by simp; omega), _, rfl, _, _, a, rfl, rfl, (by rw [tx_len]; exact small_line (by omega)), (by rw [tx_list, eR]; exact at_first), _, _, rfl, rfl, ?_, ?_⟩
          · rw [join_tx, tx_one, tx_len, tx_len, List.length_replicate]
            exact small_line (by show j + 1 ≤ 1000000; omega)
          · rw [join_tx, tx_one, tx_app]
            have e3 := q2 (by omega) H2 sm
            rw [e1, wordOf_num _ (fun c hc => by
              rcases List.mem_append.mp hc with hc | hc
              · rw [(List.mem_replicate.mp hc).2]
                exact haS
              · rw [List.mem_singleton.mp hc]
                exact haS)] at e3
            exact e3
        · have c' : ¬ ((Tx l).length : Int) < 12 := fun z => c (decide_eq_true z)
          rw [tx_len] at c'
          have hj : j = 12 := by omega
          refine q1 ?_ H2 sm
          unfold lastN
          rw [el, hj, eS]
          simp
      · rw [List.concat_eq_append] at eu
        subst eu
        have hsS : s ∈ S := hm s (by rw [el]; simp)
        have hul : u.length + 1 + j = l.length := by
          rw [el]
          simp
          omega
        have hat : (((u ++ [s]).length : Int) - 1) = (u.length : Int) := by simp
        rw [hat]
        have hget : (u ++ [s] ++ List.replicate j a)[u.length]? = some s := by simp
        have hgt := atI_nat (sg_at hget)
        have hlt : u.length < (sg (u ++ [s] ++ List.replicate j a)).length := by
          rw [sg_len]
          simp
        refine ⟨_, rfl, _, _, rfl, rfl, _, rfl, ite2 (fun _ => ?_) (fun c => absurd (decide_eq_true (by omega)) c)⟩
        refine ⟨_, rfl, _, rfl, L, _, (u.length : Int), _, rfl, rfl, SqL.of hL2, hgt, _, rfl, _, rfl, _, _, z, rfl, rfl, (by rw [tx_len]; exact small_line (by omega)), at_last eS, rfl, _, rfl, ite2 (fun c => ?_) (fun c => ?_)⟩
        · have hsz : s = z := by
            have e := V.str.inj (of_decide_eq_true c)
            have e := tx_inj (show Tx [s] = Tx [z] from e)
            exact (List.cons.inj e).1
          subst hsz
          refine ⟨_, rfl, _, _, a, rfl, rfl, (by rw [tx_len]; exact small_line (by omega)), (by rw [tx_list, eR]; exact at_first), _, rfl, _, rfl, L, _, _, u.length, rfl, rfl, hL2, ixN_at hlt, ?_⟩
          refine ⟨_, rfl, _, _, rfl, rfl, ⟨u, j + 1, ?_, rfl, fun x o e => ?_, ?_⟩, ?_⟩
          · rw [el, List.replicate_succ]
            simp
          · rw [upd_ne (ne_of_none e hL)]
            exact sm x o e
          · rw [upd_same, tx_one, sg_set, set_mid, List.replicate_succ]
            simp
          · show ((u.length : Int) - 1 + 1).toNat < ((u.length : Int) + 1).toNat
            omega
        · have hsz : s ≠ z := fun e => c (by rw [e]; exact decide_eq_true rfl)
          have i1 := ix_get hsS
          have i2 := ix_lt hsS
          have i3 : ix S s + 1 < S.length := by
            rcases Nat.lt_or_ge (ix S s + 1) S.length with h | h
            · exact h
            · have e : ix S s = ix S z := by omega
              have i4 := ix_get hzS
              rw [← e, i1] at i4
              exact absurd (Option.some.inj i4) hsz
          obtain ⟨t, ht⟩ : ∃ t, S[ix S s + 1]? = some t := ⟨_, List.getElem?_eq_getElem i3⟩
          have ht2 : ix S t = ix S s + 1 := ix_at hn ht
          have htS : t ∈ S := List.mem_of_getElem? ht
          have e1 : num S l + 1 = num S (u ++ [t] ++ List.replicate j a) := by
            rw [el]
            exact next_num ha hz (next_mid ht2 u) j
          have hin : ∀ c ∈ u ++ [t] ++ List.replicate j a, c ∈ S := fun c hc => by
            rcases List.mem_append.mp hc with hc | hc
            · rcases List.mem_append.mp hc with hc | hc
              · exact hm c (by rw [el]; simp [hc])
              · rw [List.mem_singleton.mp hc]
                exact htS
            · rw [(List.mem_replicate.mp hc).2]
              exact haS
          have e2 : num S (u ++ [t] ++ List.replicate j a) ≤ lastN S := num_le_lastN h1 hn hin (by simp; omega)
          refine ⟨_, rfl, _, _, rfl, rfl, _, rfl, ite2 (fun _ => ?_) (fun c => absurd (decide_eq_true (by omega)) c)⟩
          refine ⟨_, rfl, _, rfl, ⟨_, rfl⟩, _, rfl, _, rfl, L, _, _, _, rfl, rfl, SqL.of hL2, hgt, S, s, rfl, rfl, hn, hsS, _, _, rfl, rfl, _, _, t, rfl, rfl, (by rw [tx_len]; exact small_line (by omega)), (by rw [tx_list]; exact atI_nat ht), _, rfl, _, rfl, L, _, _, u.length, rfl, rfl, hL2, ixN_at hlt, ?_⟩
          refine ⟨⟨_, rfl⟩, _, rfl, _, L, (u ++ [t] ++ List.replicate j a).map (fun c => Tx [c]), rfl, rfl, .inl (SqL.of (by rw [upd_same, tx_one, sg_set, set_mid, sg_strs])), join_len _ (by simp; omega), ?_⟩
          rw [join_tx]
          have e3 := q2 (by omega) (upd H2 L (.lst ((sg (u ++ [s] ++ List.replicate j a)).set u.length (.str (Tx [t]))))) fun x o e => by
            rw [upd_ne (ne_of_none e hL)]
            exact sm x o e
          rw [e1, wordOf_num _ hin] at e3
          exact e3
    · intro σ H Q Q' hq ⟨v, e, i, j, e1, e2, k, ek, z⟩
      refine ⟨v, e, i, j, e1, e2, k, ek, ?_⟩
      revert z
      cases k with
      | false => exact fun z => hq _ _ z
      | true => exact fun ⟨v2, w2, v3, w3, p, xs, i, v, a1, a2, a3, a4, v1, w1, i5, e5, zz, ii, c, b1, b2, b3, b4, sc, k2, ek2, q⟩ => ⟨v2, w2, v3, w3, p, xs, i, v, a1, a2, a3, a4, v1, w1, i5, e5, zz, ii, c, b1, b2, b3, b4, sc, k2, ek2, hq _ _ q⟩
end
end K4
namespace K4
open PySem PySem.Spec PyProof.Rows L2 K0
section
variable {P : Program} {w : World} {K : PySem.W.Frag} {mg : Str → Option Value} {base : Heap}

variable {cs : Nat → Addr}
theorem wd_of {l S : List Nat} (hS : stOk S = true) (hl : l.length ≤ 12) (hm : ∀ c ∈ l, c ∈ S) : wdOk l = true ∧ ofOk l S = true := by
  have h1 : lw S = true := by
    unfold stOk at hS
    exact (Bool.and_eq_true_iff.mp hS).1
  have h2 : lw l = true := List.all_eq_true.mpr fun c hc => List.all_eq_true.mp h1 c (hm c hc)
  refine ⟨?_, ?_⟩
  · unfold wdOk
    rw [h2, decide_eq_true hl]
    rfl
  · unfold ofOk
    rw [h2]
    exact List.all_eq_true.mpr fun c hc => decide_eq_true (hm c hc)
theorem wof_good {l S : List Nat} {H : Hp} {E : XK} {q : List Nat → List Nat → Prop} (hS : stOk S = true) (hl : l.length ≤ 12) (hm : ∀ c ∈ l, c ∈ S) (k : q l S) : Wof K cs (.str (Tx l)) (.str (Tx S)) H E q := by
  obtain ⟨h1, h2⟩ := wd_of hS hl hm
  have h3 := (st_facts hS).2.1
  refine .inl ⟨l, rfl, by omega, fun z => ?_, fun _ => .inl ⟨S, rfl, by omega, fun z => ?_, fun _ => ⟨fun z => ?_, fun _ => k⟩⟩⟩
  · rw [h1] at z
    cases z
  · rw [hS] at z
    cases z
  · rw [h2] at z
    cases z
theorem kit_int {K : PySem.W.Frag} : PySem.W.kitOne K (.type "int") (.type "int") = some true ∧ PySem.W.kitOne K (.type "int") (.type "bool") = some false := by
  obtain ⟨k1, k2, _⟩ := kd_kit (K := K) (n := "int") (by decide)
  exact ⟨k1.trans (by decide), k2.trans (by decide)⟩
theorem iteT {p q : Prop} (h : p) : if true = true then p else q := by
  rw [if_pos rfl]
  exact h
theorem ite_bt {b : Bool} {p q : Prop} (hb : b = true) (h : p) : if b = true then p else q := by
  rw [if_pos hb]
  exact h
theorem ite_bf {b : Bool} {p q : Prop} (hb : b = false) (h : q) : if b = true then p else q := by
  rw [hb]
  exact iteF h
theorem ne_self (v : V) : (!decide (v = v)) = false := by simp
theorem Cal.to {k : Nat} {x : Str} {st : Stmt} {ps : List Str} {sp sp' : Sp} (C : Cal P w K mg base k x st ps sp) (e : sp' = sp) : Cal P w K mg base k x st ps sp' := by
  rw [e]
  exact C
theorem CalX.to {k : Nat} {x : Str} {st : Stmt} {ps : List Str} {sp sp' : Sp} (C : CalX P w K mg base k x st ps sp) (e : sp' = sp) : CalX P w K mg base k x st ps sp' := by
  rw [e]
  exact C
@[irreducible] def hWordNumber (K : PySem.W.Frag) (cs : Nat → Addr) : Sp := spWordNumber K cs
theorem hWordNumber_eq {K : PySem.W.Frag} {cs : Nat → Addr} : hWordNumber K cs = spWordNumber K cs := by
  unfold hWordNumber
  rfl
@[irreducible] def hNextWord (K : PySem.W.Frag) (cs : Nat → Addr) : Sp := spNextWord K cs
theorem hNextWord_eq {K : PySem.W.Frag} {cs : Nat → Addr} : hNextWord K cs = spNextWord K cs := by
  unfold hNextWord
  rfl
@[irreducible] def hWordAt (K : PySem.W.Frag) (cs : Nat → Addr) : Sp := spWordAt K cs
theorem hWordAt_eq {K : PySem.W.Frag} {cs : Nat → Addr} : hWordAt K cs = spWordAt K cs := by
  unfold hWordAt
  rfl
@[irreducible] def hBehind (K : PySem.W.Frag) : Sp := spBehind K
theorem hBehind_eq {K : PySem.W.Frag} : hBehind K = spBehind K := by
  unfold hBehind
  rfl
/-- what follows a word: None, or the next one -/
def nextV (S l : List Nat) : V := if num S l = lastN S then .non else .str (Tx (wordOf S (num S l + 1)))
theorem nextV_scal (S l : List Nat) : scal (nextV S l) (nextV S l) = true := by
  unfold nextV
  by_cases h : num S l = lastN S
  · rw [if_pos h]
    rfl
  · rw [if_neg h]
    rfl
theorem nx_good {l S : List Nat} {H : Hp} {Q : VK} {E : XK} (hS : stOk S = true) (hl : l.length ≤ 12) (hm : ∀ c ∈ l, c ∈ S) (k : ∀ H', Same H H' → Q (nextV S l) H') : hNextWord K cs [.str (Tx l), .str (Tx S)] H Q E := by
  rw [hNextWord_eq]
  refine ⟨_, _, rfl, wof_good hS hl hm ⟨fun e H' s => ?_, fun e H' s => ?_⟩⟩
  · have := k H' s
    unfold nextV at this
    rwa [if_pos e] at this
  · have := k H' s
    unfold nextV at this
    rwa [if_neg (by omega)] at this
theorem bh_good {l S : List Nat} {H : Hp} {Q : VK} {E : XK} (hS : stOk S = true) (hl : l.length ≤ 12) (hm : ∀ c ∈ l, c ∈ S) (k : ∀ H', Same H H' → Q (nextV S l) H') : hBehind K [.str (Tx l), .str (Tx S)] H Q E := by
  rw [hBehind_eq]
  refine ⟨l, S, rfl, hS, hl, hm, fun e H' s => ?_, fun e H' s => ?_⟩
  · have := k H' s
    unfold nextV at this
    rwa [if_pos e] at this
  · have := k H' s
    unfold nextV at this
    rwa [if_neg (by omega)] at this
theorem wn_good {l S : List Nat} {H : Hp} {Q : VK} {E : XK} (hS : stOk S = true) (hl : l.length ≤ 12) (hm : ∀ c ∈ l, c ∈ S) (k : ∀ H', Same H H' → Q (.int (num S l : Nat)) H') : hWordNumber K cs [.str (Tx l), .str (Tx S)] H Q E := by
  rw [hWordNumber_eq]
  exact ⟨_, _, rfl, wof_good hS hl hm k⟩
theorem wa_good {S : List Nat} {n : Nat} {H : Hp} {Q : VK} {E : XK} (hS : stOk S = true) (hn : n ≤ lastN S) (k : ∀ H', Same H H' → Q (.str (Tx (wordOf S n))) H') : hWordAt K cs [.str (Tx S), .int (n : Int)] H Q E := by
  rw [hWordAt_eq]
  have h3 := (st_facts hS).2.1
  refine ⟨_, _, rfl, .inl ⟨S, rfl, by omega, fun z => ?_, fun _ => .inr ⟨_, rfl, fun z => absurd ⟨by omega, by omega⟩ z, fun _ H' s => k H' s⟩⟩⟩
  rw [hS] at z
  cases z
abbrev CWN (P : Program) (w : World) (K : PySem.W.Frag) (mg : Str → Option Value) (base : Heap) (cs : Nat → Addr) : Prop := CalX P w K mg base 5 "word_number" st_word_number ["word", "stock"] (spWordNumber K cs)
abbrev CWA (P : Program) (w : World) (K : PySem.W.Frag) (mg : Str → Option Value) (base : Heap) (cs : Nat → Addr) : Prop := CalX P w K mg base 4 "word_at" st_word_at ["stock", "number"] (spWordAt K cs)
abbrev CNX (P : Program) (w : World) (K : PySem.W.Frag) (mg : Str → Option Value) (base : Heap) (cs : Nat → Addr) : Prop := CalX P w K mg base 5 "next_word" st_next_word ["word", "stock"] (spNextWord K cs)
abbrev CIW (P : Program) (w : World) (K : PySem.W.Frag) (mg : Str → Option Value) (base : Heap) : Prop := Cal P w K mg base 2 "is_word" st_is_word ["value"] (spIsWord K)
abbrev CIS (P : Program) (w : World) (K : PySem.W.Frag) (mg : Str → Option Value) (base : Heap) : Prop := Cal P w K mg base 2 "is_stock" st_is_stock ["value"] (spIsStock K)
abbrev COS (P : Program) (w : World) (K : PySem.W.Frag) (mg : Str → Option Value) (base : Heap) : Prop := Cal P w K mg base 2 "of_stock" st_of_stock ["word", "stock"] spOfStock
/-! ### one word -/
abbrev st_l_word_right : Stmt := top 41
abbrev nm_l_word_right : List Str := ["_law_word", "_law_stock_here", "_law_number"]
theorem sc_l_word_right : FnScope nm_l_word_right ["_law_word", "_law_stock_here"] (defScope st_l_word_right) := ⟨rfl, rfl, rfl, by decide +kernel, rfl, by decide +kernel, by decide +kernel⟩
def spWordRight : Sp := fun vs H Q _ => ∃ (l S : List Nat), vs = [.str (Tx l), .str (Tx S)] ∧ stOk S = true ∧ l.length ≤ 12 ∧ (∀ c ∈ l, c ∈ S) ∧ ∀ H', Same H H' → Q (.bl true) H'
theorem ok_word_right {f : Addr} {fd : FuncData} (F : Fun K "_law_word_right" "_law_word_right" st_l_word_right f fd) (T : Blt mg) (C_word_number : CWN P w K mg base cs) (C_word_at : CWA P w K mg base cs) (C_next_word : CNX P w K mg base cs)
    (C_is_word : CIW P w K mg base) (C_of_stock : COS P w K mg base) (C_is_stock : CIS P w K mg base) (C__law_ahead : Cal P w K mg base 1 "_law_ahead" st_l_ahead ["_law_word", "_law_stock_here"] spAhead)
    (C__law_behind : Cal P w K mg base 1 "_law_behind" st_l_behind ["_law_word", "_law_stock_here"] (spBehind K)) : FnOk P w K mg base CX0 6 f fd ["_law_word", "_law_stock_here"] spWordRight := by
  have C_word_number := C_word_number.to hWordNumber_eq
  have C_word_at := C_word_at.to hWordAt_eq
  have C_next_word := C_next_word.to hNextWord_eq
  have C__law_behind := C__law_behind.to hBehind_eq
  refine F.ok sc_l_word_right (fun vs H Q E h => ?_) (fun cdv A outer s H vs Q E hr h => ?_)
  · obtain ⟨l, S, rfl, _⟩ := h
    rfl
  · refine ⟨_, (pss_cons (ps_set (i := 2) sc_l_word_right.nd rfl (Or.inl rfl) (pe_clA C_word_number (fun F => kbA F fun _ _ _ _ _ _ _ _ => rfl) px0 (hr.mono (by decide)) rfl (pk_cons (pv 0) (pk_cons (pv 1) pk_nil))))
  (pss_cons (ps_if (PW.pt (pw_or (pt_val (pe_callB call_isi (by rfl) T.n_isinstance (by decide +kernel) (pa_cons (pv 2) (pa_cons (pe_bltn (v := .ty "bool") (by rfl) T.n_bool (by decide +kernel) rfl) pa_nil)))) (pw_or (pt_not (pt_val (pe_callB call_isi (by rfl) T.n_isinstance (by decide +kernel) (pa_cons (pv 2) (pa_cons (pe_bltn (v := .ty "int") (by rfl) T.n_int (by decide +kernel) rfl) pa_nil))))) (pw_or1 (pt_cmpR op_ne (pv 2) (pe_cl C__law_ahead (hr.mono (by decide)) rfl (pa_cons (pv 0) (pa_cons (pv 1) pa_nil))) (nomark _)))))) (pss_one (ps_ret pe_bl)) pss_nil)
  (pss_cons (ps_if (PW.pt (pw_or (pt_cmpR op_ne (pe_clA C_word_at (fun F => kbA F fun _ _ _ _ _ _ _ _ => rfl) px0 (hr.mono (by decide)) rfl (pk_cons (pv 1) (pk_cons (pv 2) pk_nil))) (pv 0) (nomark _)) (pw_or1 (pt_cmpR op_ne (pe_clA C_next_word (fun F => kbA F fun _ _ _ _ _ _ _ _ => rfl) px0 (hr.mono (by decide)) rfl (pk_cons (pv 0) (pk_cons (pv 1) pk_nil))) (pe_cl C__law_behind (hr.mono (by decide)) rfl (pa_cons (pv 0) (pa_cons (pv 1) pa_nil))) (nomark _))))) (pss_one (ps_ret pe_bl)) pss_nil)
  (pss_one (ps_ret (pe_and (pe_cl C_is_word (hr.mono (by decide)) rfl (pa_cons (pv 0) pa_nil)) (pe_and (pe_cl C_of_stock (hr.mono (by decide)) rfl (pa_cons (pv 0) (pa_cons (pv 1) pa_nil))) (pe_one (pe_cl C_is_stock (hr.mono (by decide)) rfl (pa_cons (pv 1) pa_nil)))))))))), ?_⟩
    obtain ⟨l, S, rfl, ok, hl, hm, q⟩ := h
    obtain ⟨h1, h5, hp⟩ := st_facts ok
    obtain ⟨wk, wo⟩ := wd_of ok hl hm
    have hn := nodup_of_lt hp
    have hle := num_le_lastN h1 hn hm hl
    obtain ⟨ki, kb⟩ := kit_int (K := K)
    have ty : ∀ H i, TyX K H (.int i) (.type "int") := fun H i => (kd_int (K := K) (H := H) (i := i)).1
    refine ⟨_, rfl, _, rfl, ?_⟩
    refine wn_good (K := K) (cs := cs) ok hl hm fun H1 s1 => ?_
    refine ⟨_, rfl, .int _, _, _, _, _, rfl, .ty "bool", ty _ _, kb, _, rfl, iteF ?_⟩
    refine ⟨_, rfl, .int _, _, _, _, _, rfl, .ty "int", ty _ _, ki, _, rfl, iteF ?_⟩
    refine ⟨_, rfl, _, rfl, _, rfl, l, S, rfl, h5, hl, hp, hm, fun H2 s2 => ⟨rfl, _, rfl, ite_bf (ne_self _) ?_⟩⟩
    refine ⟨_, rfl, _, rfl, wa_good ok hle fun H3 s3 => ⟨_, rfl, rfl, _, rfl, ite_bf (by rw [wordOf_num l hm]; exact ne_self _) ?_⟩⟩
    refine ⟨_, rfl, _, rfl, nx_good ok hl hm fun H4 s4 => ⟨_, rfl, _, rfl, bh_good ok hl hm fun H5 s5 => ⟨nextV_scal S l, _, rfl, ite_bf (ne_self _) ?_⟩⟩⟩
    refine ⟨_, rfl, _, rfl, .inl ⟨l, rfl, by omega, _, rfl, ite_bt wk ?_⟩⟩
    refine ⟨_, rfl, _, rfl, l, S, rfl, by omega, fun H6 s6 => ⟨_, rfl, ite_bt wo ?_⟩⟩
    refine ⟨_, rfl, _, rfl, .inl ⟨S, rfl, by omega, fun H7 s7 => ?_⟩⟩
    rw [ok]
    exact q _ (((((s1.trans s2).trans s3).trans s4).trans s5).trans (s6.trans s7))
end
end K4
namespace K4
open PySem PySem.Spec PyProof.Rows L2 K0
section
variable {P : Program} {w : World} {K : PySem.W.Frag} {mg : Str → Option Value} {base : Heap}

variable {cs : Nat → Addr}
theorem walk_en {a : Addr} {xs : List V} : Walk (Ite K a) xs.length (fun H => SqL K H a xs) (fun i H v H' => ∃ T x, v = .ref T ∧ H T = none ∧ H' = upd H T (.tup [.int (i : Nat), x]) ∧ xs[i]? = some x) :=
  ⟨fun i _ hi q => ⟨xs, xs[i], q, by simp [hi]⟩, fun _ q => ⟨xs, q, Nat.le_refl _⟩, fun _ _ _ _ _ q y => by
    obtain ⟨T, x, e1, e2, e3, e4⟩ := y
    exact ⟨T, x, e1, e2, e3, e4 xs q⟩⟩
theorem walk_zl {a b : Addr} {xs ys : List V} {n : Nat} (hn : n = min xs.length ys.length) : Walk (Itz K a b) n (fun H => SqL K H a xs ∧ SqL K H b ys) (fun i H v H' => ∃ T x y, v = .ref T ∧ H T = none ∧ H' = upd H T (.tup [x, y]) ∧ xs[i]? = some x ∧ ys[i]? = some y) :=
  ⟨fun i _ hi q => by
    have h1 : i < xs.length := by omega
    have h2 : i < ys.length := by omega
    exact ⟨xs, ys, xs[i], ys[i], q.1, q.2, by simp [h1], by simp [h2]⟩, fun _ q => ⟨xs, ys, q.1, q.2, by omega⟩, fun _ _ _ _ _ q y => by
    obtain ⟨T, x, z, e1, e2, e3, e4, e5⟩ := y
    exact ⟨T, x, z, e1, e2, e3, e4 xs q.1, e5 ys q.2⟩⟩
theorem cutV_from (xs : List V) (a : Nat) : cutV xs (some (a : Int)) none = xs.drop a := by
  unfold cutV
  rw [HT.sIx_nat, HT.sIx_none]
  have e : (xs.drop (min a xs.length)).take (xs.length - min a xs.length) = xs.drop a := by
    rcases Nat.le_total a xs.length with h | h
    · rw [Nat.min_eq_left h, List.take_of_length_le (by simp)]
    · rw [Nat.min_eq_right h, List.drop_of_length_le h, List.drop_of_length_le (Nat.le_refl _)]
      simp
  exact e
@[irreducible] def hWordsOf (K : PySem.W.Frag) (cs : Nat → Addr) : Sp := spWordsOf K cs
theorem hWordsOf_eq {K : PySem.W.Frag} {cs : Nat → Addr} : hWordsOf K cs = spWordsOf K cs := by
  unfold hWordsOf
  rfl
@[irreducible] def hListed (K : PySem.W.Frag) : Sp := spListed K
theorem hListed_eq {K : PySem.W.Frag} : hListed K = spListed K := by
  unfold hListed
  rfl
theorem wo_good {S : List Nat} {m : Nat} {H : Hp} {Q : VK} {E : XK} (hS : stOk S = true) (hm : m ≤ 12) (hp : S.length ^ m ≤ 20000) (k : ∀ H' p, Same H H' → H p = none → H' p = some (.tup (tws (upto S m))) → Q (.ref p) H') : hWordsOf K cs [.str (Tx S), .int (m : Int)] H Q E := by
  rw [hWordsOf_eq]
  have h3 := (st_facts hS).2.1
  refine ⟨_, _, rfl, .inl ⟨S, rfl, by omega, fun z => ?_, fun _ => .inr ⟨_, rfl, fun z => absurd ⟨by omega, by omega⟩ z, fun _ => ⟨fun z => ?_, fun _ => k⟩⟩⟩⟩
  · rw [hS] at z
    cases z
  · rw [Int.toNat_natCast] at z
    omega
theorem tws_same (ws : List (List Nat)) : (tws ws).all sameV = true := List.all_eq_true.mpr fun v hv => by
  obtain ⟨w, _, rfl⟩ := List.mem_map.mp hv
  rfl
abbrev CWS (P : Program) (w : World) (K : PySem.W.Frag) (mg : Str → Option Value) (base : Heap) (cs : Nat → Addr) : Prop := CalX P w K mg base 4 "words_of" st_words_of ["stock", "most"] (spWordsOf K cs)
/-! ### all words -/
abbrev st_l_all_right : Stmt := top 42
abbrev nm_l_all_right : List Str := ["_law_stock_here", "_law_most", "_law_told", "_law_own", "_law_at", "_law_word", "_law_one", "_law_other"]
theorem sc_l_all_right : FnScope nm_l_all_right ["_law_stock_here", "_law_most"] (defScope st_l_all_right) := ⟨rfl, rfl, rfl, by decide +kernel, rfl, by decide +kernel, by decide +kernel⟩
def spAllRight : Sp := fun vs H Q _ => ∃ (S : List Nat) (m : Nat), vs = [.str (Tx S), .int (m : Int)] ∧ stOk S = true ∧ m ≤ 12 ∧ bel S.length (m + 1) ≤ 1000 ∧ ∀ H', Same H H' → Q (.bl true) H'
theorem li_good {S : List Nat} {m : Nat} {H : Hp} {Q : VK} {E : XK} (hS : stOk S = true) (hm : m ≤ 12) (hb : bel S.length (m + 1) ≤ 1000) (k : ∀ H' p, Same H H' → H p = none → H' p = some (.lst (tws (upto S m))) → Q (.ref p) H') : hListed K [.str (Tx S), .int (m : Int)] H Q E := by
  rw [hListed_eq]
  exact ⟨S, m, rfl, (st_facts hS).2.1, (st_facts hS).1, hm, hb, (st_facts hS).2.2, k⟩
theorem ok_all_right {f : Addr} {fd : FuncData} (F : Fun K "_law_all_right" "_law_all_right" st_l_all_right f fd) (T : Blt mg) (C_words_of : CWS P w K mg base cs) (C_word_number : CWN P w K mg base cs) (C_word_at : CWA P w K mg base cs) (C_next_word : CNX P w K mg base cs)
    (C__law_listed : Cal P w K mg base 1 "_law_listed" st_l_listed ["_law_stock_here", "_law_most"] (spListed K)) : FnOk P w K mg base CX0 6 f fd ["_law_stock_here", "_law_most"] spAllRight := by
  have C_words_of := C_words_of.to hWordsOf_eq
  have C_word_number := C_word_number.to hWordNumber_eq
  have C_word_at := C_word_at.to hWordAt_eq
  have C_next_word := C_next_word.to hNextWord_eq
  have C__law_listed := C__law_listed.to hListed_eq
  refine F.ok sc_l_all_right (fun vs H Q E h => ?_) (fun cdv A outer s H vs Q E hr h => ?_)
  · obtain ⟨S, m, rfl, _⟩ := h
    rfl
  · refine ⟨_, (pss_cons (ps_par (i := 2) (j := 3) rfl sc_l_all_right.nd rfl rfl (by decide) rfl rfl (pa_cons (pe_clA C_words_of (fun F => kbA F fun _ _ _ _ _ _ _ _ => rfl) px0 (hr.mono (by decide)) rfl (pk_cons (pv 0) (pk_cons (pv 1) pk_nil))) (pa_cons (pe_cl C__law_listed (hr.mono (by decide)) rfl (pa_cons (pv 0) (pa_cons (pv 1) pa_nil))) pa_nil)) rfl)
  (pss_cons (ps_if (PW.pt (pw_or (pt_not (pt_val (pe_callB call_isi (by rfl) T.n_isinstance (by decide +kernel) (pa_cons (pv 2) (pa_cons (pe_bltn (v := .ty "tuple") (by rfl) T.n_tuple (by decide +kernel) rfl) pa_nil))))) (pw_or1 (pt_cmpR (op_neSame (Nat.lt_of_le_of_lt (Nat.add_le_add_left (by decide) _) hr.units)) (pe_callTy call_list_of (by rfl) T.n_list (by decide +kernel) (pa_cons (pv 2) pa_nil)) (pv 3) (nomark _))))) (pss_one (ps_ret pe_bl)) pss_nil)
  (pss_cons (ps_if (pt_cmpR (op_neD hr.units) (pe_lc (own := [("_law_at", 4), ("_law_word", 5)]) (g := (gTup K 2 (gCons (gName 4) (gCons (gName 5) gNil)))) rfl sc_l_all_right.nd (pi_enum (by rfl) T.n_enumerate (pa_cons (pv 3) pa_nil)) (blkOk_by (N := nm_l_all_right) (sc := defScope st_l_all_right) (own := [("_law_at", 4), ("_law_word", 5)]) (by decide +kernel)) (fun _ _ _ _ _ => by exact pg_tup rfl (pgs_cons (pg_name (i := 4) sc_l_all_right.nd rfl (Or.inl rfl)) (pgs_cons (pg_name (i := 5) sc_l_all_right.nd rfl (Or.inl rfl)) pgs_nil))) (fun _ _ _ _ _ => pts_one (PW.pt (pw_or (pt_cmpR op_ne (pe_clX C_word_number px0 (hr.mono (by decide)) rfl (pa_cons (pv 5) (pa_cons (pv 0) pa_nil))) (pv 4) (nomark _)) (pw_or1 (pt_cmpR op_ne (pe_clX C_word_at px0 (hr.mono (by decide)) rfl (pa_cons (pv 0) (pa_cons (pv 4) pa_nil))) (pv 5) (nomark _)))))) (fun _ _ _ _ _ => (pv 4))) (pe_lst pa_nil) (nomark _)) (pss_one (ps_ret pe_bl)) pss_nil)
  (pss_one (ps_ret (pe_cmpR (op_eqD hr.units) (pe_lc (own := [("_law_one", 6), ("_law_other", 7)]) (g := (gTup K 2 (gCons (gName 6) (gCons (gName 7) gNil)))) rfl sc_l_all_right.nd (pi_zip (by rfl) T.n_zip (pa_cons (pv 3) (pa_cons (pe_slice sl_list (pv 3) (po_some pe_int) po_none) pa_nil))) (blkOk_by (N := nm_l_all_right) (sc := defScope st_l_all_right) (own := [("_law_one", 6), ("_law_other", 7)]) (by decide +kernel)) (fun _ _ _ _ _ => by exact pg_tup rfl (pgs_cons (pg_name (i := 6) sc_l_all_right.nd rfl (Or.inl rfl)) (pgs_cons (pg_name (i := 7) sc_l_all_right.nd rfl (Or.inl rfl)) pgs_nil))) (fun _ _ _ _ _ => pts_one (pt_cmpR op_ne (pe_clX C_next_word px0 (hr.mono (by decide)) rfl (pa_cons (pv 6) (pa_cons (pv 0) pa_nil))) (pv 7) (nomark _))) (fun _ _ _ _ _ => (pv 6))) (pe_lst pa_nil) (nomark _))))))), ?_⟩
    obtain ⟨S, m, rfl, ok, hm, hb, q⟩ := h
    obtain ⟨h1, h5, hp⟩ := st_facts ok
    have hn := nodup_of_lt hp
    have hbs := bel_succ S.length m
    have hul := upto_length hn m
    refine ⟨_, rfl, _, rfl, ?_⟩
    refine wo_good ok hm (by omega) fun H1 p s1 pn hp1 => ?_
    refine ⟨_, rfl, _, rfl, ?_⟩
    refine li_good ok hm hb fun H2 o s2 on ho => ?_
    refine ⟨_, _, rfl, ?_⟩
    have kt : PySem.W.kitOne K (.type "tuple") (.type "tuple") = some true := (kd_kit (K := K) (n := "tuple") (by decide)).2.2.2.2.trans (by decide)
    refine ⟨_, rfl, .ref p, _, _, _, _, rfl, .ty "tuple", .base (.tup (s2 _ _ hp1)), kt, _, rfl, iteF ?_⟩
    refine ⟨_, rfl, p, _, rfl, .inr (SqT.of (s2 _ _ hp1)), fun l hl => ?_⟩
    have nol : o ≠ l := ne_of_none ho hl
    refine ⟨_, rfl, l, o, _, rfl, rfl, SqL.of upd_same, SqL.of ((upd_ne nol).trans ho), tws_same _, _, rfl, iteF ?_⟩
    have s3 := (s1.trans s2).trans (Sm.new (o := .lst (tws (upto S m))) hl)
    have ho3 : (upd H2 l (.lst (tws (upto S m)))) o = some (.lst (tws (upto S m))) := (upd_ne nol).trans ho
    generalize (upd H2 l (.lst (tws (upto S m)))) = H3 at s3 ho3
    -- each has its number
    refine ⟨_, rfl, o, _, rfl, SqL.of ho3, fun D hD => ?_⟩
    have noD : o ≠ D := ne_of_none ho3 hD
    have wl := walk_en (K := K) (a := o) (xs := tws (upto S m))
    rw [tws_len] at wl
    refine lc_it (n := (upto S m).length) wl (SPv H3 D fun _ => []) (spv0 hD rfl) (fun k H6 _ p => p.1.seq (SqL.of ho3)) ?_ ?_
    · rintro i x H6 H7 hi ⟨p1, p2⟩ ⟨t, y, rfl, ht, rfl, hy⟩
      obtain ⟨u, hu, rfl⟩ := tws_at hy
      obtain ⟨e1, e2⟩ := upto_at hn hu
      obtain ⟨g1, g2⟩ := upto_mem (List.mem_of_getElem? hu)
      have hle := num_le_lastN h1 hn g2 (by omega)
      rw [e1] at hle
      refine ⟨t, _, rfl, SqT.of upd_same, rfl, _, _, rfl, _, _, rfl, rfl, rfl, ?_⟩
      have sa := p1.trans (Sm.new (o := .tup [.int (i : Nat), .str (Tx u)]) ht)
      refine ⟨_, rfl, _, rfl, ?_⟩
      refine wn_good ok (by omega) g2 fun H8 s8 => ?_
      refine ⟨_, rfl, rfl, _, rfl, ite_bf (by rw [e1]; exact ne_self _) ?_⟩
      refine ⟨_, rfl, _, rfl, ?_⟩
      refine wa_good ok hle fun H9 s9 => ?_
      refine ⟨_, rfl, rfl, _, rfl, ite_bf (by rw [e2]; exact ne_self _) ⟨(sa.trans s8).trans s9, ?_⟩⟩
      exact s9 _ _ (s8 _ _ ((upd_ne (ne_of_none p2 ht)).trans p2))
    · rintro H6 ⟨p1, p2⟩
      refine ⟨small_line (by decide), fun e he => ?_⟩
      have nDe : D ≠ e := ne_of_none p2 he
      refine ⟨.list [], .list [], .lst (SqL.of ((upd_ne nDe).trans p2)) .nil, .lst (SqL.of upd_same) .nil, rfl, rfl, _, rfl, iteF ?_⟩
      have s7 := (s3.trans p1).trans (Sm.new (o := .lst []) he)
      have ho7 : (upd H6 e (.lst [])) o = some (.lst (tws (upto S m))) := Sm.new he _ _ (p1 _ _ ho3)
      generalize (upd H6 e (.lst [])) = H7 at s7 ho7
      -- each is followed by the next
      refine ⟨_, rfl, _, rfl, _, rfl, o, _, rfl, SqL.of ho7, fun c hc => ?_⟩
      have noc : o ≠ c := ne_of_none ho7 hc
      have ec : cutV (tws (upto S m)) (some 1) none = (tws (upto S m)).drop 1 := cutV_from _ 1
      rw [ec]
      have ho8 := (upd_ne (o := .lst ((tws (upto S m)).drop 1)) noc).trans ho7
      refine ⟨o, c, _, _, rfl, SqL.of ho8, SqL.of upd_same, fun D2 hD2 => ?_⟩
      have wz := walk_zl (K := K) (a := o) (b := c) (xs := tws (upto S m)) (ys := (tws (upto S m)).drop 1) rfl
      refine lc_it wz (SPv _ D2 fun _ => []) (spv0 hD2 rfl) (fun k H6 _ p => ⟨p.1.seq (SqL.of ho8), p.1.seq (SqL.of upd_same)⟩) ?_ ?_
      · rintro i x H8 H9 hi ⟨p1, p2⟩ ⟨t, y, y2, rfl, ht, rfl, hy, hy2⟩
        obtain ⟨u, hu, rfl⟩ := tws_at hy
        rw [List.getElem?_drop, Nat.add_comm] at hy2
        obtain ⟨v, hv, rfl⟩ := tws_at hy2
        obtain ⟨e1, e2⟩ := upto_at hn hu
        obtain ⟨e3, e4⟩ := upto_at hn hv
        obtain ⟨g1, g2⟩ := upto_mem (List.mem_of_getElem? hu)
        obtain ⟨g3, g4⟩ := upto_mem (List.mem_of_getElem? hv)
        have hle := num_le_lastN h1 hn g4 (by omega)
        refine ⟨t, _, rfl, SqT.of upd_same, rfl, _, _, rfl, _, _, rfl, rfl, rfl, ?_⟩
        have sa := p1.trans (Sm.new (o := .tup [.str (Tx u), .str (Tx v)]) ht)
        have en : nextV S u = .str (Tx v) := by
          unfold nextV
          rw [if_neg (by omega), e1, e4]
        refine ⟨_, rfl, _, rfl, ?_⟩
        refine nx_good ok (by omega) g2 fun H10 s10 => ?_
        refine ⟨_, rfl, ?_, _, rfl, ite_bf (by rw [en]; exact ne_self _) ⟨sa.trans s10, ?_⟩⟩
        · rw [en]
          rfl
        · exact s10 _ _ ((upd_ne (ne_of_none p2 ht)).trans p2)
      · rintro H8 ⟨p3, p4⟩
        refine ⟨small_line (by decide), fun e2 he2 => ?_⟩
        have nDe2 : D2 ≠ e2 := ne_of_none p4 he2
        refine ⟨.list [], .list [], .lst (SqL.of ((upd_ne nDe2).trans p4)) .nil, .lst (SqL.of upd_same) .nil, rfl, rfl, ?_⟩
        exact q _ (((s7.trans (Sm.new hc)).trans p3).trans (Sm.new he2))
end
end K4
namespace K4
open PySem PySem.Spec PyProof.Rows L2 K0
section
variable {P : Program} {w : World} {K : PySem.W.Frag} {mg : Str → Option Value} {base : Heap}

variable {cs : Nat → Addr}
/-! ### what is heard of a call -/
abbrev st_l_heard : Stmt := top 43
abbrev nm_l_heard : List Str := ["_law_ask", "error"]
theorem sc_l_heard : FnScope nm_l_heard ["_law_ask"] (defScope st_l_heard) := ⟨rfl, rfl, rfl, by decide +kernel, rfl, by decide +kernel, by decide +kernel⟩
theorem takes_len {X : Cx} {W : WX} (t : Takes X W) : Takes X (fun cls d σ H => σ.length = X.N.length → W cls d σ H) := fun u s' ⟨a, B, sI, pins, σ, H, cls, d, e, I, nb, up, sky, na, os, ag, w⟩ =>
  t u s' ⟨a, B, sI, pins, σ, H, cls, d, e, I, nb, up, sky, na, os, ag, w I.len⟩
theorem heard_tells {X : Cx} {g : Addr} {cdg : Value} {q : Str} (T : Errs X.K X.mg cs) : LamX.GivesTo X nm_l_heard "_law_heard" (defScope st_l_heard) g cdg (defBody st_l_heard) "_law_ask" q (TTh cs) := by
  intro f c' s H Q tl act hc h
  refine ⟨_, pss_cons (ps_try_named (X := (cxOf C8.CX0 X.prog X.w X.K X.mg X.base nm_l_heard "_law_heard" (defScope st_l_heard) g cdg X.A X.stack s H C8.E0).nox)
      (tb := fun W D σ H => ∃ Ech : XK, (∀ cls d σ' H', Ech cls d H' → σ'.length = 2 → W cls d σ' H') ∧ σ[0]? = some (some (.ref f)) ∧ H c' = some (LamX.CodeO c' q) ∧ tl Ech H (fun _ H' => D.nx σ H'))
      rfl rfl sc_l_heard.nd (fun W pn xe tk _ => ?_)
      (.cons (i := 1) rfl rfl ⟨by rfl, by decide, .inl T.g0⟩ (fun a oe cls d pn hz hf => pss_one (ps_ret (pe_tup (pa_cons pe_str (pa_cons (pe_xf (T.xf 0 (by decide)) (T.no 0 (by decide)) hz hf (pv 1)) pa_nil)))))
      (.cons (i := 1) rfl rfl ⟨by rfl, by decide, .inl T.g1⟩ (fun a oe cls d pn hz hf => pss_one (ps_ret (pe_tup (pa_cons pe_str (pa_cons (pe_xf (T.xf 1 (by decide)) (T.no 1 (by decide)) hz hf (pv 1)) pa_nil)))))
      (.cons (i := 1) rfl rfl ⟨by rfl, by decide, .inl T.g2⟩ (fun a oe cls d pn hz hf => pss_one (ps_ret (pe_tup (pa_cons pe_str (pa_cons (pe_xf (T.xf 2 (by decide)) (T.no 2 (by decide)) hz hf (pv 1)) pa_nil)))))
      (.cons (i := 1) rfl rfl ⟨by rfl, by decide, .inl T.g3⟩ (fun a oe cls d pn hz hf => pss_one (ps_ret (pe_tup (pa_cons pe_str (pa_cons (pe_xf (T.xf 3 (by decide)) (T.no 3 (by decide)) hz hf (pv 1)) pa_nil)))))
      (.cons (i := 1) rfl rfl ⟨by rfl, by decide, .inl T.g4⟩ (fun a oe cls d pn hz hf => pss_one (ps_ret (pe_tup (pa_cons pe_str (pa_cons (pe_xf (T.xf 4 (by decide)) T.nw hz hf (pv 1)) (pa_cons (pe_xf (T.xf 4 (by decide)) T.nm hz hf (pv 1)) pa_nil))))))
      .nil)))))) (pss_one (ps_ret pe_non)), ?_⟩
  · refine ⟨fun pins s' σ H' D I h' => ?_⟩
    obtain ⟨Ech, hW, h1, h2, h3⟩ := h'
    exact (pss_one (ps_expr (act _ pn xe Ech _ _ (takes_len tk) hW))).run pins s' σ H' D I ⟨h1, h2, h3⟩
  · obtain ⟨Ech, h1, h2⟩ := h
    refine ⟨Ech, fun cls d σ' H' he hl => ?_, rfl, hc, h1⟩
    obtain ⟨x, y, rfl⟩ : ∃ x y, σ' = [x, y] := by
      match σ', hl with
      | [x, y], _ => exact ⟨x, y, rfl⟩
    obtain ⟨o, rfl, dd, rfl, hd, k⟩ := h2 cls d H' he
    cases o with
    | word z =>
      exact ⟨true, T.ex 0 0 (by decide) (by decide), ⟨fun _ a na => ⟨_, rfl, rfl, rfl, dd, _, _, rfl, hd, rfl, small_line (by show 2 ≤ 1000000; decide), fun t ht => k t ht⟩, fun e => (by cases e)⟩⟩
    | stock z =>
      refine ⟨false, T.ex 1 0 (by decide) (by decide), ⟨fun e => (by cases e), fun _ => ?_⟩⟩
      exact ⟨true, T.ex 1 1 (by decide) (by decide), ⟨fun _ a na => ⟨_, rfl, rfl, rfl, dd, _, _, rfl, hd, rfl, small_line (by show 2 ≤ 1000000; decide), fun t ht => k t ht⟩, fun e => (by cases e)⟩⟩
    | number z =>
      refine ⟨false, T.ex 2 0 (by decide) (by decide), ⟨fun e => (by cases e), fun _ => ?_⟩⟩
      refine ⟨false, T.ex 2 1 (by decide) (by decide), ⟨fun e => (by cases e), fun _ => ?_⟩⟩
      exact ⟨true, T.ex 2 2 (by decide) (by decide), ⟨fun _ a na => ⟨_, rfl, rfl, rfl, dd, _, _, rfl, hd, rfl, small_line (by show 2 ≤ 1000000; decide), fun t ht => k t ht⟩, fun e => (by cases e)⟩⟩
    | misfit z =>
      refine ⟨false, T.ex 3 0 (by decide) (by decide), ⟨fun e => (by cases e), fun _ => ?_⟩⟩
      refine ⟨false, T.ex 3 1 (by decide) (by decide), ⟨fun e => (by cases e), fun _ => ?_⟩⟩
      refine ⟨false, T.ex 3 2 (by decide) (by decide), ⟨fun e => (by cases e), fun _ => ?_⟩⟩
      exact ⟨true, T.ex 3 3 (by decide) (by decide), ⟨fun _ a na => ⟨_, rfl, rfl, rfl, dd, _, _, rfl, hd, rfl, small_line (by show 2 ≤ 1000000; decide), fun t ht => k t ht⟩, fun e => (by cases e)⟩⟩
    | many z n =>
      refine ⟨false, T.ex 4 0 (by decide) (by decide), ⟨fun e => (by cases e), fun _ => ?_⟩⟩
      refine ⟨false, T.ex 4 1 (by decide) (by decide), ⟨fun e => (by cases e), fun _ => ?_⟩⟩
      refine ⟨false, T.ex 4 2 (by decide) (by decide), ⟨fun e => (by cases e), fun _ => ?_⟩⟩
      refine ⟨false, T.ex 4 3 (by decide) (by decide), ⟨fun e => (by cases e), fun _ => ?_⟩⟩
      exact ⟨true, T.ex 4 4 (by decide) (by decide), ⟨fun _ a na => ⟨_, rfl, rfl, rfl, dd, _, _, rfl, hd, rfl, _, rfl, rfl, rfl, dd, _, _, rfl, hd, rfl, small_line (by show 3 ≤ 1000000; decide), fun t ht => k t ht⟩, fun e => (by cases e)⟩⟩
end
end K4
namespace K4
open PySem PySem.Spec PyProof.Rows L2 K0
section
variable {P : Program} {w : World} {K : PySem.W.Frag} {mg : Str → Option Value} {base : Heap}

variable {cs : Nat → Addr}
/-! ### a def whose code object is known -/
theorem code_of {x : Str} {f c T : Addr} {oc : Value} {od : Option Addr} {fd : FuncData} {osl : Array (Option Value)} (hn : PySem.W.nsIn K mainGlobals x = some (some (.ref f))) (lk : K.lookup f = some ⟨oc, od, .func fd, osl⟩) (ht : PySem.W.tabIn K x = some (c, T)) : fd.code = .ref c := by
  unfold PySem.W.tabIn at ht
  rw [hn] at ht
  dsimp only at ht
  rw [lk] at ht
  dsimp only at ht
  split at ht
  · rename_i c2 hc
    split at ht
    · split at ht
      · cases ht
        exact hc
      · cases ht
    · cases ht
  · cases ht
theorem okC {x : Str} {st : Stmt} {f c T : Addr} {fd : FuncData} {N ps : List Str} {k : Nat} {sp : Sp} (F : Fun K x x st f fd) (hn : PySem.W.nsIn K mainGlobals x = some (some (.ref f))) (ht : PySem.W.tabIn K x = some (c, T)) (S : FnScope N ps (defScope st)) (len : ∀ vs H Q E, sp vs H Q E → vs.length = ps.length)
    (hbody : ∀ (A : Around) (outer : List Env) (s : Shared) (H : Hp) (vs : List V) (Q : VK) (E : XK), Room k (A.deeper (envOfC x (defScope st) s.heap.objs.size f (.ref c))) → sp vs H Q E →
      ∃ t, PSs (cxOf CX0 P w K mg base N x (defScope st) f (.ref c) A outer s H E).nox (defBody st) t ∧ t { nx := fun _ H' => Q .non H', rt := Q } (L2.start N vs) H) : FnOk P w K mg base CX0 (k + 1) f fd ps sp := by
  obtain ⟨oc, od, kV, doc, pm, an, cdv, ct, osl, rfl, lk, hcd⟩ := F.ex
  have e : cdv = .ref c := code_of hn lk ht
  subst e
  refine fn_of lk hcd S len fun A outer s H vs Q E hr hsp => ?_
  obtain ⟨t, h, q⟩ := hbody A outer s H vs Q E hr hsp
  exact ⟨t, h.nox, q⟩
/-! ### _law_heard(lambda: ..) -/
theorem tth_of {tl : XK → Hp → VK → Prop} {o : Oops} {H : Hp} {Q : VK} (h : tl (Oop cs o H) H (fun _ H' => Q .non H')) (k : ∀ H' t, Same H H' → H' t = none → Q (.ref t) (upd H' t (.tup o.told))) : TTh cs tl H Q :=
  ⟨Oop cs o H, h, fun cls d H' ⟨e, dd, ed, s, hd⟩ => ⟨o, e, dd, ed, hd, fun t ht => k H' t s ht⟩⟩
theorem rz_self {o : Oops} {H : Hp} : Rz cs o H (Oop cs o H) := fun _ _ _ h => h
theorem pe_heard {X : Cx} {TL : List (Addr × Str)} {c T g : Addr} {fd : FuncData} {params : Arguments} {body : Expr} {scope : Scope} {t : XK → TE} {p lpos pos : Pos} (Fh : Fun X.K "_law_heard" "_law_heard" st_l_heard g fd) (TE : Errs X.K X.mg cs) (hg : Gl X "_law_heard") (hm : X.mg "_law_heard" = some (.ref g))
    (TB : LamX.TabB X.base X.mg c T) (hcode : X.env.code = .ref c) (hmT : (T, X.env.qual ++ "<lambda>") ∈ TL) (hu : ∀ p ∈ TL, p.1 = T → p.2 = X.env.qual ++ "<lambda>") (hr : Room 7 X.A) (L : LamX.LamS X.env.scope scope) (hdef : defaultsOf params X.env = ([], []))
    (hbind : ∀ (q : Str) (cl : List (Str × Addr)) (pm cv ctv : Value), bindArgs (PySem.W.kla_fn "<lambda>" q params body scope cl pm cv ctv) ⟨[], []⟩ = pure [])
    (hbody : ∀ (A : Around) (outer : List Env) (s : Shared) (H : Hp) (E : XK) (f c' : Addr), Room 5 (A.deeper (LamX.lamEnv X scope s.heap.objs.size f c')) → PE (LamX.lamCx X A outer s H E scope f c') body (t E)) :
    PE X (.Call (.Name "_law_heard" p) [.Lambda params body scope lpos] [] pos) (LamX.tLam TL (TTh cs) t) := by
  have hb0 := Fh.binds (ps := ["_law_ask"]) fun _ _ _ _ _ _ us hl => match us, hl with | [_], _ => rfl
  have kp := Fh.kp
  obtain ⟨oc, od, kV, doc, pm, an, cdv, ct, osl, rfl, lk, hcd⟩ := Fh.ex
  exact LamX.pe_lamcall (a := "_law_ask") hg hm kp lk hcd hb0 sc_l_heard rfl (Or.inl rfl) (heard_tells TE) TB hcode hmT hu hr L hdef hbind hbody

theorem wo_many {S : List Nat} {m : Nat} {H : Hp} {Q : VK} {E : XK} (hS : stOk S = true) (hm : m ≤ 12) (hp : 20000 < S.length ^ m) (k : Rz cs (.many "words" 20000) H E) : hWordsOf K cs [.str (Tx S), .int (m : Int)] H Q E := by
  rw [hWordsOf_eq]
  have h3 := (st_facts hS).2.1
  refine ⟨_, _, rfl, .inl ⟨S, rfl, by omega, fun z => ?_, fun _ => .inr ⟨_, rfl, fun z => absurd ⟨by omega, by omega⟩ z, fun _ => ⟨fun _ => k, fun z => ?_⟩⟩⟩⟩
  · rw [hS] at z
    cases z
  · rw [Int.toNat_natCast] at z
    omega
/-! ### too many -/
abbrev st_l_many_right : Stmt := top 45
abbrev nm_l_many_right : List Str := ["_law_stock_here", "_law_least"]
theorem sc_l_many_right : FnScope nm_l_many_right ["_law_stock_here"] (defScope st_l_many_right) := ⟨rfl, rfl, rfl, by decide +kernel, rfl, by decide +kernel, by decide +kernel⟩
def TLs (T1 T2 : Addr) : List (Addr × Str) := [(T1, "_law_refused_right.<locals>.<lambda>"), (T2, "_law_many_right.<locals>.<lambda>")]
def spManyRight (T1 T2 : Addr) : Sp := fun vs H Q _ => ∃ (S : List Nat), vs = [.str (Tx S)] ∧ stOk S = true ∧ 3 ≤ S.length ∧ LamX.Tabs (TLs T1 T2) H ∧ ∀ H', Q (.bl true) H'
theorem ok_many_right {T1 T2 c f gh : Addr} {fd fdh : FuncData} (F : Fun K "_law_many_right" "_law_many_right" st_l_many_right f fd) (hn : PySem.W.nsIn K mainGlobals "_law_many_right" = some (some (.ref f))) (ht : PySem.W.tabIn K "_law_many_right" = some (c, T2)) (T : Blt mg)
    (TE : Errs K mg cs) (F_heard : Fun K "_law_heard" "_law_heard" st_l_heard gh fdh) (m_heard : mg "_law_heard" = some (.ref gh)) (TB : LamX.TabB base mg c T2) (n12 : T1 ≠ T2) (C_words_of : CWS P w K mg base cs) : FnOk P w K mg base CX0 9 f fd ["_law_stock_here"] (spManyRight T1 T2) := by
  have C_words_of := C_words_of.to hWordsOf_eq
  refine okC F hn ht sc_l_many_right (fun vs H Q E h => ?_) (fun A outer s H vs Q E hr h => ?_)
  · obtain ⟨S, rfl, _⟩ := h
    rfl
  · have hmT : (T2, Str.ofString "_law_many_right.<locals>.<lambda>") ∈ TLs T1 T2 := List.mem_cons_of_mem _ List.mem_cons_self
    have hu : ∀ p ∈ TLs T1 T2, p.1 = T2 → p.2 = Str.ofString "_law_many_right.<locals>.<lambda>" := fun p hp e => by
      rcases List.mem_cons.mp hp with rfl | hp
      · exact absurd e n12
      · rw [List.mem_singleton.mp hp]
    refine ⟨_, (pss_cons (ps_set (i := 1) sc_l_many_right.nd rfl (Or.inr rfl) (pe_ix ix_list (pe_lst (pa_cons pe_non (pa_cons pe_non (pa_cons pe_non (pa_cons pe_int (pa_cons pe_int (pa_cons pe_int pa_nil))))))) (pe_callB call_len_str (by rfl) T.n_len (by decide +kernel) (pa_cons (pv 0) pa_nil)) (fun _ _ => rfl)))
  (pss_cons (ps_if (PW.pt (pw_and (pt_cmpR op_notN (pv 1) pe_non (nomark _)) (pw_and1 (pt_cmpR (op_neD hr.units) (pe_heard F_heard TE (by rfl) m_heard TB rfl hmT hu (hr.mono (by decide)) (LamX.lamS_by (by rfl)) rfl (fun _ _ _ _ _ => rfl) (fun A outer s H E f c' hr => (pe_clX C_words_of (passes_call (takes_of rfl rfl rfl rfl) fun _ _ _ _ z => z) (hr.mono (by decide)) rfl (pa_cons (pv 0) (pa_cons (pv 1) pa_nil))))) (pe_tup (pa_cons pe_str (pa_cons pe_str (pa_cons pe_int pa_nil)))) (nomark _))))) (pss_one (ps_ret pe_bl)) pss_nil)
  (pss_one (ps_ret (pe_or (pe_cmpR op_ne (pe_callB call_len_str (by rfl) T.n_len (by decide +kernel) (pa_cons (pv 0) pa_nil)) pe_int (nomark _)) (pe_one (pe_cmpR op_eq (pe_callB call_len_seq (by rfl) T.n_len (by decide +kernel) (pa_cons (pe_clX C_words_of px0 (hr.mono (by decide)) rfl (pa_cons (pv 0) (pa_cons pe_int pa_nil))) pa_nil)) pe_int (nomark _)))))))), ?_⟩
    obtain ⟨S, rfl, ok, h3, hT, q⟩ := h
    obtain ⟨h1, h5, hp⟩ := st_facts ok
    obtain ⟨m, hm12, hpow, hat⟩ : ∃ m : Nat, m ≤ 12 ∧ 20000 < S.length ^ m ∧ atI [V.non, V.non, V.non, V.int 10, V.int 8, V.int 7] ((Tx S).length : Int) = some (.int (m : Int)) := by
      rw [tx_len]
      have h : S.length = 3 ∨ S.length = 4 ∨ S.length = 5 := by omega
      rcases h with h | h | h <;> rw [h]
      · exact ⟨10, by decide, by decide, atI_nat (j := 3) rfl⟩
      · exact ⟨8, by decide, by decide, atI_nat (j := 4) rfl⟩
      · exact ⟨7, by decide, by decide, atI_nat (j := 5) rfl⟩
    refine ⟨small_line (by decide), fun l hl => ⟨_, rfl, Tx S, rfl, (by rw [tx_len]; exact small_line (by omega)), l, _, _, .int (m : Int), rfl, rfl, SqL.of upd_same, hat, ?_⟩⟩
    refine ⟨_, rfl, rfl, _, rfl, ite_bt rfl ?_⟩
    refine ⟨hT.ext (Sm.new hl), fun H1 eN T1' => tth_of (o := .many "words" 20000) ?_ fun H2 t s2 ht => ?_⟩
    · refine ⟨_, rfl, _, rfl, ?_⟩
      exact wo_many ok hm12 hpow rz_self
    · refine ⟨small_line (by decide), fun t2 ht2 => ?_⟩
      have ntt : t ≠ t2 := ne_of_none upd_same ht2
      refine ⟨.tuple [.str "many", .str "words", .int 20000], .tuple [.str "many", .str "words", .int 20000], .tup (SqT.of ((upd_ne ntt).trans upd_same)) (.cons (.str _) (.cons (.str _) (.cons (.int _) .nil))), .tup (SqT.of upd_same) (.cons (.str _) (.cons (.str _) (.cons (.int _) .nil))), by decide +kernel, by decide +kernel, _, rfl, ite_bf (by decide +kernel) ?_⟩
      refine ⟨_, rfl, Tx S, rfl, (by rw [tx_len]; exact small_line (by omega)), rfl, ?_⟩
      by_cases h4 : S.length = 4
      · refine ⟨_, rfl, ite_bf (by rw [tx_len, h4]; decide) ?_⟩
        refine ⟨_, rfl, ?_⟩
        refine wo_good (m := 7) ok (by decide) (by rw [h4]; decide) fun H3 r s3 rn hr3 => ?_
        refine ⟨r, _, rfl, .inr (SqT.of hr3), rfl, ?_⟩
        have e : ((tws (upto S 7)).length : Int) = 21845 := by
          rw [tws_len, upto_length (nodup_of_lt hp), h4]
          decide
        rw [e]
        exact q _
      · refine ⟨_, rfl, ite_bt ?_ (q _)⟩
        rw [tx_len]
        have : decide (V.int (S.length : Int) = V.int 4) = false := decide_eq_false fun z => by
          have := V.int.inj z
          omega
        rw [this]
        rfl
end
end K4
namespace K4
open PySem PySem.Spec PyProof.Rows L2 K0
section
variable {P : Program} {w : World} {K : PySem.W.Frag} {mg : Str → Option Value} {base : Heap}

variable {cs : Nat → Addr}
/-! ### what is no word, no stock, no number -/
def Ob (p : Addr) (H : Hp) (v : V) : Prop := ∃ a xs, v = .ref a ∧ a ≠ p ∧ (H a = some (.lst xs) ∨ H a = some (.tup xs))
theorem Ob.ext {p : Addr} {H H' : Hp} {v : V} (h : Ob p H v) (e : LamX.ExtN H H') : Ob p H' v := by
  obtain ⟨a, xs, ev, n, h | h⟩ := h
  · exact ⟨a, xs, ev, n, .inl (e _ _ h fun ps z => by cases z)⟩
  · exact ⟨a, xs, ev, n, .inr (e _ _ h fun ps z => by cases z)⟩
theorem Ob.kb {p : Addr} {H H' : Hp} {v : V} (h : Ob p H v) (e : KB p H H') : Ob p H' v := by
  obtain ⟨a, xs, ev, n, h | h⟩ := h
  · exact ⟨a, xs, ev, n, .inl (e.kb _ _ n h)⟩
  · exact ⟨a, xs, ev, n, .inr (e.kb _ _ n h)⟩
def Odd (p : Addr) (H : Hp) (v : V) : Prop := v = .non ∨ (∃ i, v = .int i) ∨ Ob p H v
theorem Odd.kd {p : Addr} {H : Hp} {v : V} (h : Odd p H v) : ∃ n, Kd K H v n ∧ (n == "str") = false := by
  rcases h with rfl | ⟨i, rfl⟩ | ⟨a, xs, rfl, _, h | h⟩
  · exact ⟨"NoneType", ⟨.base .non, by decide⟩, by decide⟩
  · exact ⟨"int", ⟨.base (.int i), by decide⟩, by decide⟩
  · exact ⟨"list", ⟨.base (.lst h), by decide⟩, by decide⟩
  · exact ⟨"tuple", ⟨.base (.tup h), by decide⟩, by decide⟩
/-- a text that fails f, or what is no text -/
def Bad (f : List Nat → Bool) (p : Addr) (H : Hp) (v : V) : Prop := Odd p H v ∨ ∃ l, v = .str (Tx l) ∧ l.length ≤ 1000 ∧ f l = false
theorem Bad.ext {f : List Nat → Bool} {p : Addr} {H H' : Hp} {v : V} (h : Bad f p H v) (e : LamX.ExtN H H') : Bad f p H' v := by
  rcases h with (h | h | h) | h
  · exact .inl (.inl h)
  · exact .inl (.inr (.inl h))
  · exact .inl (.inr (.inr (h.ext e)))
  · exact .inr h
theorem Bad.kb {f : List Nat → Bool} {p : Addr} {H H' : Hp} {v : V} (h : Bad f p H v) (e : KB p H H') : Bad f p H' v := by
  rcases h with (h | h | h) | h
  · exact .inl (.inl h)
  · exact .inl (.inr (.inl h))
  · exact .inl (.inr (.inr (h.kb e)))
  · exact .inr h
theorem bad_str {f : List Nat → Bool} {p : Addr} {H : Hp} {z : Str} (h : (decide (z.cps.toList.length ≤ 1000) && !f z.cps.toList) = true) : Bad f p H (.str z) := by
  obtain ⟨h1, h2⟩ := Bool.and_eq_true_iff.mp h
  exact .inr ⟨z.cps.toList, by rw [tx_of], of_decide_eq_true h1, by simpa using h2⟩
theorem bad_sov {f : List Nat → Bool} {p : Addr} {H : Hp} {v : V} {q : List Nat → Prop} {r : Prop} (h : Bad f p H v) (h1 : ∀ l, f l = false → q l) (h2 : r) : Sov K H v q r := by
  rcases h with h | ⟨l, e, hl, hf⟩
  · obtain ⟨n, k, ne⟩ := Odd.kd (K := K) h
    exact .inr ⟨n, k, ne, h2⟩
  · exact .inl ⟨l, e, hl, h1 l hf⟩
/-- no number of this range -/
def BadN (p : Addr) (H : Hp) (v : V) : Prop := v = .int (-1) ∨ v = .non ∨ v = .bl true ∨ (∃ z, v = .str z) ∨ Ob p H v
theorem BadN.ext {p : Addr} {H H' : Hp} {v : V} (h : BadN p H v) (e : LamX.ExtN H H') : BadN p H' v := by
  rcases h with h | h | h | h | h
  · exact .inl h
  · exact .inr (.inl h)
  · exact .inr (.inr (.inl h))
  · exact .inr (.inr (.inr (.inl h)))
  · exact .inr (.inr (.inr (.inr (h.ext e))))
theorem BadN.kb {p : Addr} {H H' : Hp} {v : V} (h : BadN p H v) (e : KB p H H') : BadN p H' v := by
  rcases h with h | h | h | h | h
  · exact .inl h
  · exact .inr (.inl h)
  · exact .inr (.inr (.inl h))
  · exact .inr (.inr (.inr (.inl h)))
  · exact .inr (.inr (.inr (.inr (h.kb e))))
theorem bad_nov {p : Addr} {H : Hp} {v : V} {q : Int → Prop} {r : Prop} (h : BadN p H v) (h1 : q (-1)) (h2 : r) : Nov K H v q r := by
  rcases h with rfl | rfl | rfl | ⟨z, rfl⟩ | ⟨a, xs, rfl, _, h | h⟩
  · exact .inr ⟨_, rfl, h1⟩
  · exact .inl ⟨"NoneType", ⟨.base .non, by decide⟩, by decide, h2⟩
  · exact .inl ⟨"bool", ⟨.base (.bl true), by decide⟩, by decide, h2⟩
  · exact .inl ⟨"str", ⟨.base (.str z), by decide⟩, by decide, h2⟩
  · exact .inl ⟨"list", ⟨.base (.lst h), by decide⟩, by decide, h2⟩
  · exact .inl ⟨"tuple", ⟨.base (.tup h), by decide⟩, by decide, h2⟩
@[irreducible] def hIsWord (K : PySem.W.Frag) : Sp := spIsWord K
theorem hIsWord_eq {K : PySem.W.Frag} : hIsWord K = spIsWord K := by
  unfold hIsWord
  rfl
@[irreducible] def hIsStock (K : PySem.W.Frag) : Sp := spIsStock K
theorem hIsStock_eq {K : PySem.W.Frag} : hIsStock K = spIsStock K := by
  unfold hIsStock
  rfl
/-! ### the calls that are refused -/
section
variable {p : Addr} {H : Hp} {Q : VK} {E : XK} {v u : V} {l S : List Nat}
theorem tf {b : Bool} {A : Prop} (h : b = true) (z : b = false) : A := by
  rw [h] at z
  cases z
theorem ft {b : Bool} {A : Prop} (h : b = false) (z : b = true) : A := by
  rw [h] at z
  cases z
theorem wo_badS (h : Bad stOk p H v) (k : Rz cs (.stock "stock") H E) : hWordsOf K cs [v, u] H Q E := by
  rw [hWordsOf_eq]
  exact ⟨_, _, rfl, bad_sov h (fun l f => ⟨fun _ => k, fun z => ft f z⟩) k⟩
theorem wo_badN (hS : stOk S = true) (h : BadN p H u) (k : Rz cs (.number "most") H E) : hWordsOf K cs [.str (Tx S), u] H Q E := by
  rw [hWordsOf_eq]
  have h3 := (st_facts hS).2.1
  exact ⟨_, _, rfl, .inl ⟨S, rfl, by omega, fun z => tf hS z, fun _ => bad_nov h ⟨fun _ => k, fun z => absurd z (by omega)⟩ k⟩⟩
theorem wo_badI {i : Int} (hS : stOk S = true) (h : ¬ (0 ≤ i ∧ i ≤ 12)) (k : Rz cs (.number "most") H E) : hWordsOf K cs [.str (Tx S), .int i] H Q E := by
  rw [hWordsOf_eq]
  have h3 := (st_facts hS).2.1
  exact ⟨_, _, rfl, .inl ⟨S, rfl, by omega, fun z => tf hS z, fun _ => .inr ⟨_, rfl, fun _ => k, fun z => absurd z h⟩⟩⟩
theorem wa_badS (h : Bad stOk p H v) (k : Rz cs (.stock "stock") H E) : hWordAt K cs [v, u] H Q E := by
  rw [hWordAt_eq]
  exact ⟨_, _, rfl, bad_sov h (fun l f => ⟨fun _ => k, fun z => ft f z⟩) k⟩
theorem wa_badN (hS : stOk S = true) (h : BadN p H u) (k : Rz cs (.number "number") H E) : hWordAt K cs [.str (Tx S), u] H Q E := by
  rw [hWordAt_eq]
  have h3 := (st_facts hS).2.1
  exact ⟨_, _, rfl, .inl ⟨S, rfl, by omega, fun z => tf hS z, fun _ => bad_nov h ⟨fun _ => k, fun z => absurd z (by omega)⟩ k⟩⟩
theorem wa_badI {i : Int} (hS : stOk S = true) (h : ¬ (0 ≤ i ∧ i ≤ (lastN S : Nat))) (k : Rz cs (.number "number") H E) : hWordAt K cs [.str (Tx S), .int i] H Q E := by
  rw [hWordAt_eq]
  have h3 := (st_facts hS).2.1
  exact ⟨_, _, rfl, .inl ⟨S, rfl, by omega, fun z => tf hS z, fun _ => .inr ⟨_, rfl, fun _ => k, fun z => absurd z h⟩⟩⟩
variable {q : List Nat → List Nat → Prop}
theorem wof_badW (h : Bad wdOk p H v) (k : Rz cs (.word "word") H E) : Wof K cs v u H E q := bad_sov h (fun l f => ⟨fun _ => k, fun z => ft f z⟩) k
theorem wof_badS (hl : wdOk l = true) (h : Bad stOk p H u) (k : Rz cs (.stock "stock") H E) : Wof K cs (.str (Tx l)) u H E q := by
  have := (wd_facts hl).2
  exact .inl ⟨l, rfl, by omega, fun z => tf hl z, fun _ => bad_sov h (fun l f => ⟨fun _ => k, fun z => ft f z⟩) k⟩
theorem wof_misfit (hl : wdOk l = true) (hS : stOk S = true) (h : ofOk l S = false) (k : Rz cs (.misfit "stock") H E) : Wof K cs (.str (Tx l)) (.str (Tx S)) H E q := by
  have := (wd_facts hl).2
  have h3 := (st_facts hS).2.1
  exact .inl ⟨l, rfl, by omega, fun z => tf hl z, fun _ => .inl ⟨S, rfl, by omega, fun z => tf hS z, fun _ => ⟨fun _ => k, fun z => ft h z⟩⟩⟩
theorem wn_badW (h : Bad wdOk p H v) (k : Rz cs (.word "word") H E) : hWordNumber K cs [v, u] H Q E := by
  rw [hWordNumber_eq]
  exact ⟨_, _, rfl, wof_badW h k⟩
theorem wn_badS (hl : wdOk l = true) (h : Bad stOk p H u) (k : Rz cs (.stock "stock") H E) : hWordNumber K cs [.str (Tx l), u] H Q E := by
  rw [hWordNumber_eq]
  exact ⟨_, _, rfl, wof_badS hl h k⟩
theorem wn_misfit (hl : wdOk l = true) (hS : stOk S = true) (h : ofOk l S = false) (k : Rz cs (.misfit "stock") H E) : hWordNumber K cs [.str (Tx l), .str (Tx S)] H Q E := by
  rw [hWordNumber_eq]
  exact ⟨_, _, rfl, wof_misfit hl hS h k⟩
theorem nx_badW (h : Bad wdOk p H v) (k : Rz cs (.word "word") H E) : hNextWord K cs [v, u] H Q E := by
  rw [hNextWord_eq]
  exact ⟨_, _, rfl, wof_badW h k⟩
theorem nx_badS (hl : wdOk l = true) (h : Bad stOk p H u) (k : Rz cs (.stock "stock") H E) : hNextWord K cs [.str (Tx l), u] H Q E := by
  rw [hNextWord_eq]
  exact ⟨_, _, rfl, wof_badS hl h k⟩
theorem nx_misfit (hl : wdOk l = true) (hS : stOk S = true) (h : ofOk l S = false) (k : Rz cs (.misfit "stock") H E) : hNextWord K cs [.str (Tx l), .str (Tx S)] H Q E := by
  rw [hNextWord_eq]
  exact ⟨_, _, rfl, wof_misfit hl hS h k⟩
theorem iw_bad (h : Bad wdOk p H v) (k : Q (.bl false) H) : hIsWord K [v] H Q E := by
  rw [hIsWord_eq]
  exact ⟨_, rfl, bad_sov h (fun l f => by
    show Q (.bl (wdOk l)) H
    rw [f]
    exact k) k⟩
theorem is_bad (h : Bad stOk p H v) (k : ∀ H', Same H H' → Q (.bl false) H') : hIsStock K [v] H Q E := by
  rw [hIsStock_eq]
  exact ⟨_, rfl, bad_sov h (fun l f H' s => by
    rw [f]
    exact k H' s) (k H fun _ _ e => e)⟩
end
/-! ### heaps -/
theorem ext_sm {H H' : Hp} (s : Same H H') : LamX.ExtN H H' := LamX.ExtN.of s
theorem ext_upd {H H' : Hp} {L : Addr} {o : HO} (e : LamX.ExtN H H') (n : H L = none) : LamX.ExtN H (upd H' L o) := fun b u h t => by
  rw [upd_ne (ne_of_none h n)]
  exact e b u h t
theorem pen_ext {H H' : Hp} {p : Addr} {T : Nat} (h : PenAt H p T) (e : LamX.ExtN H H') : PenAt H' p T := by
  obtain ⟨l, ns, t, r, h1, h2, k⟩ := h
  exact ⟨l, ns, t, r, e _ _ h1 fun ps z => (by cases z), e _ _ h2 fun ps z => (by cases z), k⟩
theorem tabs_upd {TL : List (Addr × Str)} {H : Hp} {L : Addr} {xs ys : List V} (h : LamX.Tabs TL H) (e : H L = some (.lst xs)) : LamX.Tabs TL (upd H L (.lst ys)) := fun q hq => by
  obtain ⟨ps, h1, h2, h3⟩ := h q hq
  have n1 : q.1 ≠ L := fun z => by
    rw [z, e] at h1
    cases h1
  refine ⟨ps, by rw [upd_ne n1]; exact h1, h2, fun pos cv hc => ?_⟩
  obtain ⟨c, e1, e2⟩ := h3 pos cv hc
  have n2 : c ≠ L := fun z => by
    rw [z, e] at e2
    unfold LamX.CodeO at e2
    cases e2
  exact ⟨c, e1, by rw [upd_ne n2]; exact e2⟩
theorem tabs_kb {TL : List (Addr × Str)} {H H' : Hp} {p : Addr} {T : Nat} (h : LamX.Tabs TL H) (hp : PenAt H p T) (k : KB p H H') : LamX.Tabs TL H' := fun q hq => by
  obtain ⟨ps, h1, h2, h3⟩ := h q hq
  obtain ⟨xs, e⟩ := hp.some
  have n1 : q.1 ≠ p := fun z => by
    rw [z, e] at h1
    cases h1
  refine ⟨ps, k.kb _ _ n1 h1, h2, fun pos cv hc => ?_⟩
  obtain ⟨c, e1, e2⟩ := h3 pos cv hc
  have n2 : c ≠ p := fun z => by
    rw [z, e] at e2
    unfold LamX.CodeO at e2
    cases e2
  exact ⟨c, e1, k.kb _ _ n2 e2⟩
/-! ### what was heard so far -/
def HeardAll (H : Hp) : List Addr → List Oops → Prop
  | [], [] => True
  | t :: ts, o :: os => H t = some (.tup o.told) ∧ HeardAll H ts os
  | _, _ => False
theorem HeardAll.ext {H H' : Hp} (e : LamX.ExtN H H') : ∀ {ts : List Addr} {os : List Oops}, HeardAll H ts os → HeardAll H' ts os
  | [], [], _ => trivial
  | t :: ts, o :: os, ⟨h1, h2⟩ => ⟨e _ _ h1 fun ps z => (by cases z), HeardAll.ext e h2⟩
  | [], _ :: _, h => h.elim
  | _ :: _, [], h => h.elim
theorem HeardAll.snoc {H : Hp} {t : Addr} {o : Oops} (ht : H t = some (.tup o.told)) : ∀ {ts : List Addr} {os : List Oops}, HeardAll H ts os → HeardAll H (ts ++ [t]) (os ++ [o])
  | [], [], _ => ⟨ht, trivial⟩
  | _ :: _, _ :: _, ⟨h1, h2⟩ => ⟨h1, HeardAll.snoc ht h2⟩
  | [], _ :: _, h => h.elim
  | _ :: _, [], h => h.elim
theorem HeardAll.upd {H : Hp} {L : Addr} {xs ys : List V} (e : H L = some (.lst xs)) : ∀ {ts : List Addr} {os : List Oops}, HeardAll H ts os → HeardAll (L2.upd H L (.lst ys)) ts os
  | [], [], _ => trivial
  | t :: ts, o :: os, ⟨h1, h2⟩ => ⟨by
      have n : t ≠ L := fun z => by
        rw [z, e] at h1
        cases h1
      rw [upd_ne n]
      exact h1, HeardAll.upd e h2⟩
  | [], _ :: _, h => h.elim
  | _ :: _, [], h => h.elim
/-- L holds what was heard; all but the tables of H5 stays -/
structure RSt (TL : List (Addr × Str)) (H5 : Hp) (L : Addr) (os : List Oops) (H : Hp) : Prop where
  ext : LamX.ExtN H5 H
  tabs : LamX.Tabs TL H
  lst : ∃ ts : List Addr, H L = some (.lst (ts.map V.ref)) ∧ HeardAll H ts os
/-- one more call is heard, and appended -/
theorem RSt.more {TL : List (Addr × Str)} {H5 H H1 H2 : Hp} {L t : Addr} {os : List Oops} {o : Oops} (n5 : H5 L = none) (h : RSt TL H5 L os H) (e1 : LamX.ExtN H H1) (t1 : LamX.Tabs TL H1) (s2 : Same H1 H2) (ht : H2 t = none) (hz : os.length ≤ 100) :
    ∃ ts : List Addr, (upd H2 t (.tup o.told)) L = some (.lst (ts.map V.ref)) ∧ ts.length < 1000 ∧ RSt TL H5 L (os ++ [o]) (upd (upd H2 t (.tup o.told)) L (.lst (ts.map V.ref ++ [V.ref t]))) := by
  obtain ⟨a, b, ts, hL, hA⟩ := h
  have e2 : LamX.ExtN H (upd H2 t (.tup o.told)) := e1.trans ((ext_sm s2).trans (ext_sm (Sm.new ht)))
  have hL2 := e2 _ _ hL fun ps z => (by cases z)
  have hlen : ∀ {ts : List Addr} {os : List Oops} {H : Hp}, HeardAll H ts os → ts.length = os.length := by
    intro ts
    induction ts with
    | nil =>
      intro os H h
      cases os with
      | nil => rfl
      | cons _ _ => exact h.elim
    | cons t ts ih =>
      intro os H h
      cases os with
      | nil => exact h.elim
      | cons o os => rw [List.length_cons, List.length_cons, ih h.2]
  have hl := hlen hA
  refine ⟨ts, hL2, by omega, ext_upd (a.trans e2) n5, tabs_upd ((t1.ext s2).ext (Sm.new ht)) hL2, ts ++ [t], by rw [upd_same]; simp, ?_⟩
  exact (HeardAll.upd hL2 (HeardAll.snoc upd_same (hA.ext e2)))
theorem nodup_sub : ∀ {l S : List Nat}, l.Nodup → (∀ x ∈ l, x ∈ S) → l.length ≤ S.length
  | [], _, _, _ => Nat.zero_le _
  | a :: l, S, hn, h => by
    obtain ⟨h1, h2⟩ := List.nodup_cons.mp hn
    have ha := h a List.mem_cons_self
    have := nodup_sub (S := S.erase a) h2 fun x hx => by
      have hxa : x ≠ a := fun e => h1 (by rw [← e]; exact hx)
      exact (List.mem_erase_of_ne hxa).mpr (h x (List.mem_cons_of_mem _ hx))
    rw [List.length_erase_of_mem ha] at this
    have hp : 0 < S.length := List.length_pos_of_mem ha
    rw [List.length_cons]
    omega
end
end K4
namespace K4
open PySem PySem.Spec PyProof.Rows L2 K0
section
variable {P : Program} {w : World} {K : PySem.W.Frag} {mg : Str → Option Value} {base : Heap}

variable {cs : Nat → Addr}
@[irreducible] def hPick (K : PySem.W.Frag) : Sp := spPick K
theorem hPick_eq {K : PySem.W.Frag} : hPick K = spPick K := by
  unfold hPick
  rfl
@[irreducible] def hAhead : Sp := spAhead 
theorem hAhead_eq : hAhead = spAhead := by
  unfold hAhead
  rfl
theorem pk_list {p a : Addr} {T : Nat} {xs : List V} {H : Hp} {Q : VK} {E : XK} (hp : PenAt H p T) (hT : T < 1000000) (ha : H a = some (.lst xs)) (hap : a ≠ p) (h1 : 1 ≤ xs.length) (h2 : xs.length ≤ 1000) (k : ∀ H' v, KB p H H' → PenAt H' p (T + 1) → v ∈ xs → Q v H') : hPick K [.ref p, .ref a] H Q E := by
  rw [hPick_eq]
  exact ⟨p, _, T, rfl, hp, hT, .inl ⟨a, xs, rfl, SqL.of ha, hap, h1, h2, k⟩⟩
theorem aw_good {l S : List Nat} {H : Hp} {Q : VK} {E : XK} (hS : stOk S = true) (hl : l.length ≤ 12) (hm : ∀ c ∈ l, c ∈ S) (k : ∀ H', Same H H' → Q (.int (num S l : Nat)) H') : hAhead [.str (Tx l), .str (Tx S)] H Q E := by
  rw [hAhead_eq]
  exact ⟨l, S, rfl, (st_facts hS).2.1, hl, (st_facts hS).2.2, hm, k⟩
theorem app_step {TL : List (Addr × Str)} {t : XK → TE} {rest : TS} {D : Ends} {σ : L2.St} {G H : Hp} {L : Addr} {os : List Oops} (hσ : σ[6]? = some (some (.ref L))) (n5 : G L = none) (R : RSt TL G L os H) (hz : os.length ≤ 100) (o : Oops)
    (h : ∀ H1 Q', LamX.ExtN G H1 → t (Oop cs o H1) σ H1 Q') (k : ∀ H', RSt TL G L (os ++ [o]) H' → rest D σ H') : tSeq (tDrop (tBM K "list" rAppend (tVar 6) (tCons (LamX.tLam TL (TTh cs) t) tNil))) rest D σ H := by
  obtain ⟨ts, hL, _⟩ := R.lst
  refine ⟨_, hσ, .inl ⟨rfl, _, SqL.of hL⟩, R.tabs, fun H1 e1 t1 => tth_of (o := o) (h H1 _ (R.ext.trans e1)) fun H2 t2 s2 ht => ?_⟩
  obtain ⟨ts2, a, b, c⟩ := R.more (o := o) n5 e1 t1 s2 ht hz
  exact ⟨L, _, _, rfl, rfl, a, by rw [List.length_map]; exact small_lt (by omega), k _ c⟩
theorem empty_text : Str.ofString "" = Tx [] := by decide +kernel
theorem wdOk_of {l : List Nat} (h : ∀ c ∈ l, 97 ≤ c ∧ c ≤ 122) (hl : l.length ≤ 12) : wdOk l = true := by
  unfold wdOk
  rw [decide_eq_true hl, Bool.and_true]
  refine List.all_eq_true.mpr fun c hc => ?_
  unfold isaz
  rw [decide_eq_true (h c hc).1, decide_eq_true (h c hc).2]
  rfl
theorem ofOk_not {l S : List Nat} {c : Nat} (hc : c ∈ l) (hS : c ∉ S) : ofOk l S = false := by
  unfold ofOk
  have : (l.all fun c => decide (c ∈ S)) = false := List.all_eq_false.mpr ⟨c, hc, by simpa using hS⟩
  rw [this, Bool.and_false]
theorem st_low {S : List Nat} (hS : stOk S = true) {c : Nat} (h : c ∈ S) : 97 ≤ c ∧ c ≤ 122 := by
  unfold stOk at hS
  have := List.all_eq_true.mp (Bool.and_eq_true_iff.mp hS).1 c h
  unfold isaz at this
  obtain ⟨a, b⟩ := Bool.and_eq_true_iff.mp this
  exact ⟨of_decide_eq_true a, of_decide_eq_true b⟩
def tellD (o : Oops) : PyData := .tuple (o.told.map datV)
theorem tell_dp {H : Hp} {t : Addr} (o : Oops) (h : H t = some (.tup o.told)) : Dp K H (.ref t) (tellD o) := by
  refine .tup (SqT.of h) ?_
  cases o with
  | word z => exact .cons (.str _) (.cons (.str _) .nil)
  | stock z => exact .cons (.str _) (.cons (.str _) .nil)
  | number z => exact .cons (.str _) (.cons (.str _) .nil)
  | misfit z => exact .cons (.str _) (.cons (.str _) .nil)
  | many z n => exact .cons (.str _) (.cons (.str _) (.cons (.int _) .nil))
theorem heard_dp {H : Hp} : ∀ {ts : List Addr} {os : List Oops}, HeardAll H ts os → DpAll K H (ts.map V.ref) (os.map tellD)
  | [], [], _ => .nil
  | _ :: _, o :: _, ⟨h1, h2⟩ => .cons (tell_dp o h1) (heard_dp h2)
  | [], _ :: _, h => h.elim
  | _ :: _, [], h => h.elim
theorem two_dp {H : Hp} {t : Addr} {x y : Str} (h : H t = some (.tup [.str x, .str y])) : Dp K H (.ref t) (.tuple [.str x, .str y]) := .tup (SqT.of h) (.cons (.str _) (.cons (.str _) .nil))
def Lett : List Nat := [97, 98, 99, 100, 101, 102, 103]
theorem lett_text : Str.ofString "abcdefg" = Tx Lett := by decide +kernel
theorem some_strange {S : List Nat} (h : S.length ≤ 5) : 1 ≤ (Lett.filter fun c => !decide (c ∈ S)).length := by
  rcases Nat.eq_zero_or_pos (Lett.filter fun c => !decide (c ∈ S)).length with e | e
  · have e := List.length_eq_zero_iff.mp e
    have hs : ∀ x ∈ Lett, x ∈ S := fun x hx => by
      have := List.filter_eq_nil_iff.mp e x hx
      simpa using this
    have := nodup_sub (by decide : Lett.Nodup) hs
    have h7 : Lett.length = 7 := rfl
    omega
  · exact e
/-! ### what is refused -/
abbrev st_l_refused_right : Stmt := top 44
abbrev nm_l_refused_right : List Str := ["_law_well_here", "_law_stock_here", "_law_odd", "_law_bad", "_law_none", "_law_last", "_law_heard_here", "_law_due", "_law_beyond", "_law_strange", "_law_one"]
theorem sc_l_refused_right : FnScope nm_l_refused_right ["_law_well_here", "_law_stock_here"] (defScope st_l_refused_right) := ⟨rfl, rfl, rfl, by decide +kernel, rfl, by decide +kernel, by decide +kernel⟩
def spRefused (T1 T2 : Addr) : Sp := fun vs H Q _ => ∃ (p : Addr) (S : List Nat) (T : Nat), vs = [.ref p, .str (Tx S)] ∧ PenAt H p T ∧ T < 999900 ∧ stOk S = true ∧ LamX.Tabs (TLs T1 T2) H ∧ ∀ H', PenAt H' p (T + 5) → LamX.Tabs (TLs T1 T2) H' → Q (.bl true) H'
theorem ok_refused_right {T1 T2 c f gh : Addr} {fd fdh : FuncData} (F : Fun K "_law_refused_right" "_law_refused_right" st_l_refused_right f fd) (hn : PySem.W.nsIn K mainGlobals "_law_refused_right" = some (some (.ref f))) (ht : PySem.W.tabIn K "_law_refused_right" = some (c, T1)) (T : Blt mg)
    (TE : Errs K mg cs) (F_heard : Fun K "_law_heard" "_law_heard" st_l_heard gh fdh) (m_heard : mg "_law_heard" = some (.ref gh)) (TB : LamX.TabB base mg c T1) (n12 : T1 ≠ T2) (C_words_of : CWS P w K mg base cs) (C_word_number : CWN P w K mg base cs) (C_word_at : CWA P w K mg base cs) (C_next_word : CNX P w K mg base cs)
    (C_is_word : CIW P w K mg base) (C_is_stock : CIS P w K mg base) (C__law_ahead : Cal P w K mg base 1 "_law_ahead" st_l_ahead ["_law_word", "_law_stock_here"] spAhead) (C__law_pick : Cal P w K mg base 2 "_law_pick" st_l_pick ["_law_well_here", "_law_some"] (spPick K)) :
    FnOk P w K mg base CX0 9 f fd ["_law_well_here", "_law_stock_here"] (spRefused T1 T2) := by
  have C_words_of := C_words_of.to hWordsOf_eq
  have C_word_number := C_word_number.to hWordNumber_eq
  have C_word_at := C_word_at.to hWordAt_eq
  have C_next_word := C_next_word.to hNextWord_eq
  have C_is_word := C_is_word.to hIsWord_eq
  have C_is_stock := C_is_stock.to hIsStock_eq
  have C__law_ahead := C__law_ahead.to hAhead_eq
  have C__law_pick := C__law_pick.to hPick_eq
  refine okC F hn ht sc_l_refused_right (fun vs H Q E h => ?_) (fun A outer s H vs Q E hr h => ?_)
  · obtain ⟨p, S, T, rfl, _⟩ := h
    rfl
  · have hmT : (T1, Str.ofString "_law_refused_right.<locals>.<lambda>") ∈ TLs T1 T2 := List.mem_cons_self
    have hu : ∀ p ∈ TLs T1 T2, p.1 = T1 → p.2 = Str.ofString "_law_refused_right.<locals>.<lambda>" := fun p hp e => by
      rcases List.mem_cons.mp hp with rfl | hp
      · rfl
      · rw [List.mem_singleton.mp hp] at e
        exact absurd e.symm n12
    refine ⟨_, (pss_cons (ps_set (i := 2) sc_l_refused_right.nd rfl (Or.inr rfl) (pe_cl C__law_pick (hr.mono (by decide)) rfl (pa_cons (pv 0) (pa_cons (pe_lst (pa_cons pe_non (pa_cons pe_int (pa_cons pe_str (pa_cons pe_str (pa_cons (pe_op op_mulS pe_str pe_int) (pa_cons (pe_lst (pa_cons pe_str pa_nil)) (pa_cons pe_str (pa_cons pe_str (pa_cons (pe_tup (pa_cons pe_str pa_nil)) (pa_cons pe_str pa_nil))))))))))) pa_nil))))
  (pss_cons (ps_set (i := 3) sc_l_refused_right.nd rfl (Or.inr rfl) (pe_cl C__law_pick (hr.mono (by decide)) rfl (pa_cons (pv 0) (pa_cons (pe_lst (pa_cons pe_str (pa_cons pe_str (pa_cons pe_str (pa_cons pe_str (pa_cons pe_non (pa_cons pe_int (pa_cons (pe_lst (pa_cons pe_str (pa_cons pe_str pa_nil))) (pa_cons pe_str (pa_cons pe_str (pa_cons pe_str pa_nil))))))))))) pa_nil))))
  (pss_cons (ps_set (i := 4) sc_l_refused_right.nd rfl (Or.inr rfl) (pe_cl C__law_pick (hr.mono (by decide)) rfl (pa_cons (pv 0) (pa_cons (pe_lst (pa_cons pe_non (pa_cons pe_bl (pa_cons (pe_un un_neg pe_int) (pa_cons pe_str (pa_cons (pe_lst (pa_cons pe_int pa_nil)) (pa_cons (pe_tup (pa_cons pe_int pa_nil)) pa_nil))))))) pa_nil))))
  (pss_cons (ps_set (i := 5) sc_l_refused_right.nd rfl (Or.inl rfl) (pe_cl C__law_ahead (hr.mono (by decide)) rfl (pa_cons (pe_op op_mulS (pe_ix ix_str (pv 1) (pe_un un_neg pe_int) (fun _ _ => rfl)) pe_int) (pa_cons (pv 1) pa_nil))))
  (pss_cons (ps_asg (pe_tup (pa_cons (pe_cl C__law_pick (hr.mono (by decide)) rfl (pa_cons (pv 0) (pa_cons (pe_lst (pa_cons (pe_op op_add (pv 5) pe_int) (pa_cons (pe_op op_pow pe_int pe_int) (pa_cons (pe_un un_neg pe_int) (pa_cons (pe_op op_mul (pv 5) pe_int) pa_nil))))) pa_nil))) (pa_cons (pe_cl C__law_pick (hr.mono (by decide)) rfl (pa_cons (pv 0) (pa_cons (pe_lc (own := [("_law_one", 10)]) (g := (gName 10)) rfl sc_l_refused_right.nd (pi_str pe_str) (blkOk_by (N := nm_l_refused_right) (sc := defScope st_l_refused_right) (own := [("_law_one", 10)]) (by decide +kernel)) (fun _ _ _ _ _ => by exact pg_name (i := 10) sc_l_refused_right.nd rfl (Or.inl rfl)) (fun _ _ _ _ _ => pts_one (pt_cmpR op_notIn_sign (pv 10) (pv 1) rfl)) (fun _ _ _ _ _ => (pv 10))) pa_nil))) pa_nil))) (pg_tup rfl (pgs_cons (pg_name (i := 8) sc_l_refused_right.nd rfl (Or.inr rfl)) (pgs_cons (pg_name (i := 9) sc_l_refused_right.nd rfl (Or.inr rfl)) pgs_nil))))
  (pss_cons (ps_if (PW.pt (pw_or (pt_val (pe_cl C_is_word (hr.mono (by decide)) rfl (pa_cons (pv 2) pa_nil))) (pw_or1 (pt_val (pe_cl C_is_stock (hr.mono (by decide)) rfl (pa_cons (pv 3) pa_nil)))))) (pss_one (ps_ret pe_bl)) pss_nil)
  (pss_cons (ps_set (i := 6) sc_l_refused_right.nd rfl (Or.inl rfl) (pe_lst (pa_cons (pe_heard F_heard TE (by rfl) m_heard TB rfl hmT hu (hr.mono (by decide)) (LamX.lamS_by (by rfl)) rfl (fun _ _ _ _ _ => rfl) (fun A outer s H E f c' hr => (pe_clX C_words_of (passes_call (takes_of rfl rfl rfl rfl) fun _ _ _ _ z => z) (hr.mono (by decide)) rfl (pa_cons (pv 3) (pa_cons (pv 4) pa_nil))))) pa_nil)))
  (pss_cons (ps_expr (pe_bm PySem.F.plainAttrs_list PySem.F.slot_list_append PySem.F.type_list_append mt_append (pv 6) (pa_cons (pe_heard F_heard TE (by rfl) m_heard TB rfl hmT hu (hr.mono (by decide)) (LamX.lamS_by (by rfl)) rfl (fun _ _ _ _ _ => rfl) (fun A outer s H E f c' hr => (pe_clX C_words_of (passes_call (takes_of rfl rfl rfl rfl) fun _ _ _ _ z => z) (hr.mono (by decide)) rfl (pa_cons (pv 1) (pa_cons (pv 4) pa_nil))))) pa_nil)))
  (pss_cons (ps_expr (pe_bm PySem.F.plainAttrs_list PySem.F.slot_list_append PySem.F.type_list_append mt_append (pv 6) (pa_cons (pe_heard F_heard TE (by rfl) m_heard TB rfl hmT hu (hr.mono (by decide)) (LamX.lamS_by (by rfl)) rfl (fun _ _ _ _ _ => rfl) (fun A outer s H E f c' hr => (pe_clX C_words_of (passes_call (takes_of rfl rfl rfl rfl) fun _ _ _ _ z => z) (hr.mono (by decide)) rfl (pa_cons (pv 1) (pa_cons pe_int pa_nil))))) pa_nil)))
  (pss_cons (ps_expr (pe_bm PySem.F.plainAttrs_list PySem.F.slot_list_append PySem.F.type_list_append mt_append (pv 6) (pa_cons (pe_heard F_heard TE (by rfl) m_heard TB rfl hmT hu (hr.mono (by decide)) (LamX.lamS_by (by rfl)) rfl (fun _ _ _ _ _ => rfl) (fun A outer s H E f c' hr => (pe_clX C_word_number (passes_call (takes_of rfl rfl rfl rfl) fun _ _ _ _ z => z) (hr.mono (by decide)) rfl (pa_cons (pv 2) (pa_cons (pv 3) pa_nil))))) pa_nil)))
  (pss_cons (ps_expr (pe_bm PySem.F.plainAttrs_list PySem.F.slot_list_append PySem.F.type_list_append mt_append (pv 6) (pa_cons (pe_heard F_heard TE (by rfl) m_heard TB rfl hmT hu (hr.mono (by decide)) (LamX.lamS_by (by rfl)) rfl (fun _ _ _ _ _ => rfl) (fun A outer s H E f c' hr => (pe_clX C_word_number (passes_call (takes_of rfl rfl rfl rfl) fun _ _ _ _ z => z) (hr.mono (by decide)) rfl (pa_cons pe_str (pa_cons (pv 3) pa_nil))))) pa_nil)))
  (pss_cons (ps_expr (pe_bm PySem.F.plainAttrs_list PySem.F.slot_list_append PySem.F.type_list_append mt_append (pv 6) (pa_cons (pe_heard F_heard TE (by rfl) m_heard TB rfl hmT hu (hr.mono (by decide)) (LamX.lamS_by (by rfl)) rfl (fun _ _ _ _ _ => rfl) (fun A outer s H E f c' hr => (pe_clX C_word_number (passes_call (takes_of rfl rfl rfl rfl) fun _ _ _ _ z => z) (hr.mono (by decide)) rfl (pa_cons (pv 9) (pa_cons (pv 1) pa_nil))))) pa_nil)))
  (pss_cons (ps_expr (pe_bm PySem.F.plainAttrs_list PySem.F.slot_list_append PySem.F.type_list_append mt_append (pv 6) (pa_cons (pe_heard F_heard TE (by rfl) m_heard TB rfl hmT hu (hr.mono (by decide)) (LamX.lamS_by (by rfl)) rfl (fun _ _ _ _ _ => rfl) (fun A outer s H E f c' hr => (pe_clX C_next_word (passes_call (takes_of rfl rfl rfl rfl) fun _ _ _ _ z => z) (hr.mono (by decide)) rfl (pa_cons (pv 2) (pa_cons (pv 3) pa_nil))))) pa_nil)))
  (pss_cons (ps_expr (pe_bm PySem.F.plainAttrs_list PySem.F.slot_list_append PySem.F.type_list_append mt_append (pv 6) (pa_cons (pe_heard F_heard TE (by rfl) m_heard TB rfl hmT hu (hr.mono (by decide)) (LamX.lamS_by (by rfl)) rfl (fun _ _ _ _ _ => rfl) (fun A outer s H E f c' hr => (pe_clX C_next_word (passes_call (takes_of rfl rfl rfl rfl) fun _ _ _ _ z => z) (hr.mono (by decide)) rfl (pa_cons pe_str (pa_cons (pv 3) pa_nil))))) pa_nil)))
  (pss_cons (ps_expr (pe_bm PySem.F.plainAttrs_list PySem.F.slot_list_append PySem.F.type_list_append mt_append (pv 6) (pa_cons (pe_heard F_heard TE (by rfl) m_heard TB rfl hmT hu (hr.mono (by decide)) (LamX.lamS_by (by rfl)) rfl (fun _ _ _ _ _ => rfl) (fun A outer s H E f c' hr => (pe_clX C_next_word (passes_call (takes_of rfl rfl rfl rfl) fun _ _ _ _ z => z) (hr.mono (by decide)) rfl (pa_cons (pe_op op_add_str (pe_ix ix_str (pv 1) pe_int (fun _ _ => rfl)) (pv 9)) (pa_cons (pv 1) pa_nil))))) pa_nil)))
  (pss_cons (ps_expr (pe_bm PySem.F.plainAttrs_list PySem.F.slot_list_append PySem.F.type_list_append mt_append (pv 6) (pa_cons (pe_heard F_heard TE (by rfl) m_heard TB rfl hmT hu (hr.mono (by decide)) (LamX.lamS_by (by rfl)) rfl (fun _ _ _ _ _ => rfl) (fun A outer s H E f c' hr => (pe_clX C_word_at (passes_call (takes_of rfl rfl rfl rfl) fun _ _ _ _ z => z) (hr.mono (by decide)) rfl (pa_cons (pv 3) (pa_cons (pv 4) pa_nil))))) pa_nil)))
  (pss_cons (ps_expr (pe_bm PySem.F.plainAttrs_list PySem.F.slot_list_append PySem.F.type_list_append mt_append (pv 6) (pa_cons (pe_heard F_heard TE (by rfl) m_heard TB rfl hmT hu (hr.mono (by decide)) (LamX.lamS_by (by rfl)) rfl (fun _ _ _ _ _ => rfl) (fun A outer s H E f c' hr => (pe_clX C_word_at (passes_call (takes_of rfl rfl rfl rfl) fun _ _ _ _ z => z) (hr.mono (by decide)) rfl (pa_cons (pv 1) (pa_cons (pv 4) pa_nil))))) pa_nil)))
  (pss_cons (ps_expr (pe_bm PySem.F.plainAttrs_list PySem.F.slot_list_append PySem.F.type_list_append mt_append (pv 6) (pa_cons (pe_heard F_heard TE (by rfl) m_heard TB rfl hmT hu (hr.mono (by decide)) (LamX.lamS_by (by rfl)) rfl (fun _ _ _ _ _ => rfl) (fun A outer s H E f c' hr => (pe_clX C_word_at (passes_call (takes_of rfl rfl rfl rfl) fun _ _ _ _ z => z) (hr.mono (by decide)) rfl (pa_cons (pv 1) (pa_cons (pv 8) pa_nil))))) pa_nil)))
  (pss_cons (ps_set (i := 7) sc_l_refused_right.nd rfl (Or.inl rfl) (pe_lst (pa_cons (pe_tup (pa_cons pe_str (pa_cons pe_str pa_nil))) (pa_cons (pe_tup (pa_cons pe_str (pa_cons pe_str pa_nil))) (pa_cons (pe_tup (pa_cons pe_str (pa_cons pe_str pa_nil))) (pa_cons (pe_tup (pa_cons pe_str (pa_cons pe_str pa_nil))) (pa_cons (pe_tup (pa_cons pe_str (pa_cons pe_str pa_nil))) (pa_cons (pe_tup (pa_cons pe_str (pa_cons pe_str pa_nil))) pa_nil))))))))
  (pss_cons (ps_set (i := 7) sc_l_refused_right.nd rfl (Or.inl rfl) (pe_op op_cat (pe_op op_cat (pv 7) (pe_slice sl_list (pv 7) (po_some pe_int) po_none)) (pe_lst (pa_cons (pe_tup (pa_cons pe_str (pa_cons pe_str pa_nil))) (pa_cons (pe_tup (pa_cons pe_str (pa_cons pe_str pa_nil))) (pa_cons (pe_tup (pa_cons pe_str (pa_cons pe_str pa_nil))) pa_nil))))))
  (pss_one (ps_ret (pe_and (pe_cmpR (op_eqD hr.units) (pv 6) (pv 7) (nomark _)) (pe_and (pe_cmpR op_eq (pe_clX C_word_at px0 (hr.mono (by decide)) rfl (pa_cons (pv 1) (pa_cons (pv 5) pa_nil))) (pe_op op_mulS (pe_ix ix_str (pv 1) (pe_un un_neg pe_int) (fun _ _ => rfl)) pe_int) (nomark _)) (pe_one (pe_cmpR op_isN (pe_clX C_next_word px0 (hr.mono (by decide)) rfl (pa_cons (pe_op op_mulS (pe_ix ix_str (pv 1) (pe_un un_neg pe_int) (fun _ _ => rfl)) pe_int) (pa_cons (pv 1) pa_nil))) pe_non (nomark _))))))))))))))))))))))))))), ?_⟩
    obtain ⟨p, S, T, rfl, hp, hT, ok, tb, q⟩ := h
    obtain ⟨h1, h5, hpw⟩ := st_facts ok
    have hnd := nodup_of_lt hpw
    obtain ⟨T', z, eS⟩ := last_of (ne_nil h1)
    have hzS : z ∈ S := by rw [eS]; simp
    have hlast : num S (List.replicate 12 z) = lastN S := by
      unfold lastN
      rw [eS]
      simp
    have hl1 : 12 ≤ lastN S := by
      have e := lastN_eq (ne_nil h1) hnd
      have := bel_ge h1 13
      omega
    have hl2 := lastN_small h1 h5 hnd
    -- what is no word
    refine ⟨_, rfl, _, _, rfl, rfl, rfl, by decide, by decide, small_line (by decide), fun l1 n1 => ⟨small_line (by decide), fun t1 n2 => ⟨small_line (by show 10 ≤ 1000000; decide), fun l2 n3 => ?_⟩⟩⟩
    have pn1 := hp.sm (Sm.new (o := .lst [V.str (Str.ofString "a")]) n1)
    have pn2 := pn1.sm (Sm.new (o := .tup [V.str (Str.ofString "a")]) n2)
    have pn3 := fun o => pn2.sm (Sm.new (o := o) n3)
    refine pk_list (pn3 _) (by omega) upd_same (pn2.ne n3) (by show 1 ≤ 10; decide) (by show 10 ≤ 1000; decide) fun H1 odd kb1 hp1 hv => ?_
    have wb : Bad wdOk p H1 odd := by
      simp only [List.mem_cons, List.not_mem_nil, or_false] at hv
      rcases hv with rfl | rfl | rfl | rfl | rfl | rfl | rfl | rfl | rfl | rfl
      · exact .inl (.inl rfl)
      · exact .inl (.inr (.inl ⟨_, rfl⟩))
      · exact bad_str (by decide +kernel)
      · exact bad_str (by decide +kernel)
      · exact bad_str (by decide +kernel)
      · exact .inl (.inr (.inr ⟨l1, _, rfl, hp.ne n1, .inl (kb1.kb _ _ (hp.ne n1) (Sm.new n3 _ _ (Sm.new n2 _ _ upd_same)))⟩))
      · exact bad_str (by decide +kernel)
      · exact bad_str (by decide +kernel)
      · exact .inl (.inr (.inr ⟨t1, _, rfl, pn1.ne n2, .inr (kb1.kb _ _ (pn1.ne n2) (Sm.new n3 _ _ upd_same))⟩))
      · exact bad_str (by decide +kernel)
    have tb1 := tabs_kb (((tb.ext (Sm.new (o := .lst [V.str (Str.ofString "a")]) n1)).ext (Sm.new (o := .tup [V.str (Str.ofString "a")]) n2)).ext (Sm.new n3)) (pn3 _) kb1
    clear kb1 hv pn3 pn2 pn1 n1 n2 n3 tb hp
    -- what is no stock
    refine ⟨_, rfl, small_line (by decide), fun l3 n4 => ⟨small_line (by show 10 ≤ 1000000; decide), fun l4 n5 => ?_⟩⟩
    have pn1 := hp1.sm (Sm.new (o := .lst [V.str (Str.ofString "a"), V.str (Str.ofString "b")]) n4)
    have pn2 := fun o => pn1.sm (Sm.new (o := o) n5)
    refine pk_list (pn2 _) (by omega) upd_same (pn1.ne n5) (by show 1 ≤ 10; decide) (by show 10 ≤ 1000; decide) fun H2 bad kb2 hp2 hv => ?_
    have s45 := fun o => Same.trans (Sm.new (o := .lst [V.str (Str.ofString "a"), V.str (Str.ofString "b")]) n4) (Sm.new (o := o) n5)
    have wb2 := (wb.kb (KB.sm (s45 _))).kb kb2
    have sb : Bad stOk p H2 bad := by
      simp only [List.mem_cons, List.not_mem_nil, or_false] at hv
      rcases hv with rfl | rfl | rfl | rfl | rfl | rfl | rfl | rfl | rfl | rfl
      · exact bad_str (by decide +kernel)
      · exact bad_str (by decide +kernel)
      · exact bad_str (by decide +kernel)
      · exact bad_str (by decide +kernel)
      · exact .inl (.inl rfl)
      · exact .inl (.inr (.inl ⟨_, rfl⟩))
      · exact .inl (.inr (.inr ⟨l3, _, rfl, hp1.ne n4, .inl (kb2.kb _ _ (hp1.ne n4) (Sm.new n5 _ _ upd_same))⟩))
      · exact bad_str (by decide +kernel)
      · exact bad_str (by decide +kernel)
      · exact bad_str (by decide +kernel)
    have tb2 := tabs_kb (tb1.ext (s45 _)) (pn2 _) kb2
    clear kb2 hv pn2 pn1 n4 n5 tb1 hp1 wb s45
    -- what is no number
    refine ⟨_, rfl, _, rfl, small_line (by decide), fun l5 n6 => ⟨small_line (by decide), fun t2 n7 => ⟨small_line (by show 6 ≤ 1000000; decide), fun l6 n8 => ?_⟩⟩⟩
    have pn1 := hp2.sm (Sm.new (o := .lst [V.int 1]) n6)
    have pn2 := pn1.sm (Sm.new (o := .tup [V.int 0]) n7)
    have pn3 := fun o => pn2.sm (Sm.new (o := o) n8)
    refine pk_list (pn3 _) (by omega) upd_same (pn2.ne n8) (by show 1 ≤ 6; decide) (by show 6 ≤ 1000; decide) fun H3 none3 kb3 hp3 hv => ?_
    have s678 := fun o => Same.trans (Sm.new (o := .lst [V.int 1]) n6) (Same.trans (Sm.new (o := .tup [V.int 0]) n7) (Sm.new (o := o) n8))
    have wb3 := (wb2.kb (KB.sm (s678 _))).kb kb3
    have sb3 := (sb.kb (KB.sm (s678 _))).kb kb3
    have nb : BadN p H3 none3 := by
      simp only [List.mem_cons, List.not_mem_nil, or_false] at hv
      rcases hv with rfl | rfl | rfl | rfl | rfl | rfl
      · exact .inr (.inl rfl)
      · exact .inr (.inr (.inl rfl))
      · exact .inl rfl
      · exact .inr (.inr (.inr (.inl ⟨_, rfl⟩)))
      · exact .inr (.inr (.inr (.inr ⟨l5, _, rfl, hp2.ne n6, .inl (kb3.kb _ _ (hp2.ne n6) (Sm.new n8 _ _ (Sm.new n7 _ _ upd_same)))⟩)))
      · exact .inr (.inr (.inr (.inr ⟨t2, _, rfl, pn1.ne n7, .inr (kb3.kb _ _ (pn1.ne n7) (Sm.new n8 _ _ upd_same))⟩)))
    have tb3 := tabs_kb (tb2.ext (s678 _)) (pn3 _) kb3
    clear kb3 hv pn3 pn2 pn1 n6 n7 n8 tb2 hp2 wb2 sb s678
    -- the last number
    refine ⟨_, rfl, _, rfl, _, _, z, rfl, rfl, (by rw [tx_len]; exact small_line (by omega)), at_last eS, _, _, rfl, rfl, rfl, by decide, by decide, _, rfl, ?_⟩
    refine aw_good (l := List.replicate 12 z) ok (by simp) (fun c hc => by rw [(List.mem_replicate.mp hc).2]; exact hzS) fun H4 s4 => ?_
    rw [hlast]
    have wb4 := wb3.kb (KB.sm s4)
    have sb4 := sb3.kb (KB.sm s4)
    have nb4 := nb.kb (KB.sm s4)
    have tb4 := tb3.ext s4
    have hp4 := hp3.sm s4
    clear s4 hp3 tb3 nb sb3 wb3
    -- numbers beyond
    refine ⟨_, rfl, _, rfl, _, _, rfl, rfl, _, _, rfl, rfl, ⟨by decide, by decide, by decide⟩, _, rfl, _, rfl, _, _, rfl, rfl, .inl ⟨by omega, by omega⟩, small_line (by show 4 ≤ 1000000; decide), fun l7 n9 => ?_⟩
    have pn9 := fun o => hp4.sm (Sm.new (o := o) n9)
    refine pk_list (pn9 _) (by omega) upd_same (hp4.ne n9) (by show 1 ≤ 4; decide) (by show 4 ≤ 1000; decide) fun H5 bey kb5 hp5 hv => ?_
    have s9 := fun o => Sm.new (o := o) n9
    have wb5 := (wb4.kb (KB.sm (s9 _))).kb kb5
    have sb5 := (sb4.kb (KB.sm (s9 _))).kb kb5
    have nb5 := (nb4.kb (KB.sm (s9 _))).kb kb5
    have tb5 := tabs_kb (tb4.ext (s9 _)) (pn9 _) kb5
    obtain ⟨bi, rfl, hbi⟩ : ∃ i : Int, bey = .int i ∧ ¬ (0 ≤ i ∧ i ≤ (lastN S : Nat)) := by
      simp only [List.mem_cons, List.not_mem_nil, or_false] at hv
      rcases hv with rfl | rfl | rfl | rfl
      · exact ⟨_, rfl, fun h => by
          have := h.2
          omega⟩
      · exact ⟨_, rfl, fun h => by
          have h40 : (400000000 : Int) ≤ 10 ^ (Int.toNat 40) := by decide +kernel
          exact absurd (Int.le_trans h40 h.2) (by omega)⟩
      · exact ⟨_, rfl, fun h => absurd h.1 (by decide)⟩
      · exact ⟨_, rfl, fun h => by
          have := h.2
          omega⟩
    clear kb5 hv pn9 s9 n9 hp4 tb4 nb4 sb4 wb4
    -- a strange sound
    refine ⟨_, rfl, Tx Lett, congrArg V.str lett_text, fun D hD => ?_⟩
    refine lc_it (n := Lett.length) walk_tx (SPv H5 D fun i => ((Lett.take i).filter fun c => !decide (c ∈ S)).map fun c => V.str (Tx [c])) (spv0 hD rfl) (fun _ _ _ _ => trivial) ?_ ?_
    · rintro i x H6 H7 hi ⟨p1, p2⟩ ⟨rfl, d, hd, rfl⟩
      have key : ((Lett.take (i + 1)).filter fun c => !decide (c ∈ S)) = ((Lett.take i).filter fun c => !decide (c ∈ S)) ++ if d ∈ S then [] else [d] := by
        rw [List.take_succ, hd, List.filter_append]
        by_cases k : d ∈ S
        · simp [k]
        · simp [k]
      refine ⟨rfl, _, rfl, _, rfl, d, Tx S, rfl, rfl, _, rfl, ite2 (fun k => ?_) (fun k => ?_)⟩
      · have k' : d ∉ S := by
          rw [tx_list] at k
          simpa using k
        refine ⟨_, rfl, spv_put hD p1 p2 ?_ ?_⟩
        · rw [List.length_map]
          have h7 := List.length_filter_le (fun c => !decide (c ∈ S)) (Lett.take i)
          rw [List.length_take] at h7
          have h8 : Lett.length = 7 := rfl
          omega
        · rw [key, if_neg k', List.map_append]
          rfl
      · have k' : d ∈ S := by
          rw [tx_list] at k
          simpa using k
        refine ⟨p1, ?_⟩
        rw [p2]
        dsimp only
        rw [key, if_pos k', List.append_nil]
    · rintro H6 ⟨p1, p2⟩
      dsimp only at p2
      rw [List.take_length] at p2
      refine pk_list (hp5.sm p1) (by omega) p2 (hp5.ne hD) (by rw [List.length_map]; exact some_strange h5) ?_ fun H7 str7 kb7 hp7 hv => ?_
      · rw [List.length_map]
        have h7 := List.length_filter_le (fun c => !decide (c ∈ S)) Lett
        have h8 : Lett.length = 7 := rfl
        omega
      obtain ⟨d, hd, rfl⟩ := List.mem_map.mp hv
      obtain ⟨hd1, hd2⟩ := List.mem_filter.mp hd
      have hdS : d ∉ S := by simpa using hd2
      have hdl : 97 ≤ d ∧ d ≤ 122 := by
        unfold Lett at hd1
        simp only [List.mem_cons, List.not_mem_nil, or_false] at hd1
        omega
      have wb7 := (wb5.kb (KB.sm p1)).kb kb7
      have sb7 := (sb5.kb (KB.sm p1)).kb kb7
      have nb7 := (nb5.kb (KB.sm p1)).kb kb7
      have tb7 := tabs_kb (tb5.ext p1) (hp5.sm p1) kb7
      clear kb7 hv hd p1 p2 hD hp5 tb5 nb5 sb5 wb5
      refine ⟨small_line (by show 2 ≤ 1000000; decide), fun t3 n10 => ⟨t3, _, rfl, SqT.of upd_same, rfl, _, _, rfl, _, _, rfl, rfl, ?_⟩⟩
      have s10 := fun o => Sm.new (o := o) n10
      have e10 := fun o => ext_sm (s10 o)
      -- neither a word nor a stock
      refine ⟨_, rfl, ?_⟩
      refine iw_bad (wb7.ext (e10 _)) ⟨_, rfl, iteF ?_⟩
      refine ⟨_, rfl, ?_⟩
      refine is_bad (sb7.ext (e10 _)) fun H8 s8 => ⟨_, rfl, iteF ?_⟩
      have e8 := (e10 _).trans (ext_sm s8)
      have wb8 := wb7.ext e8
      have sb8 := sb7.ext e8
      have nb8 := nb7.ext e8
      have tb8 := (tb7.ext (s10 _)).ext s8
      have hp8 := pen_ext hp7 e8
      clear s8 s10 e10 e8 n10 wb7 sb7 nb7 tb7 hp7
      have low1 : wdOk [d] = true := wdOk_of (fun c hc => by rw [List.mem_singleton.mp hc]; exact hdl) (by show 1 ≤ 12; decide)
      have mis1 : ofOk [d] S = false := ofOk_not List.mem_cons_self hdS
      obtain ⟨a0, R0, eR⟩ : ∃ a R, S = a :: R := by
        cases S with
        | nil => exact absurd h1 (by decide)
        | cons a R => exact ⟨a, R, rfl⟩
      have ha0 : a0 ∈ S := by rw [eR]; simp
      have low2 : wdOk [a0, d] = true := wdOk_of (fun c hc => by
        rcases List.mem_cons.mp hc with rfl | hc
        · exact st_low ok ha0
        · rw [List.mem_singleton.mp hc]
          exact hdl) (by show 2 ≤ 12; decide)
      have mis2 : ofOk [a0, d] S = false := ofOk_not (List.mem_cons_of_mem _ List.mem_cons_self) hdS
      -- the first call
      refine ⟨tb8, fun H9 e9 t9 => tth_of (o := .stock "stock") ?_ fun H10 tt s10 ht10 => ?_⟩
      · refine ⟨_, rfl, _, rfl, ?_⟩
        exact wo_badS (sb8.ext e9) rz_self
      refine ⟨small_line (by show 1 ≤ 1000000; decide), fun L hL => ?_⟩
      have eG := e9.trans ((ext_sm s10).trans (ext_sm (Sm.new (o := .tup (Oops.told (.stock "stock"))) ht10)))
      have wbG := wb8.ext eG
      have sbG := sb8.ext eG
      have nbG := nb8.ext eG
      have hpG := pen_ext hp8 eG
      have tbG := (t9.ext s10).ext (Sm.new (o := .tup (Oops.told (.stock "stock"))) ht10)
      have R1 : RSt (TLs T1 T2) _ L [.stock "stock"] (upd _ L (.lst [V.ref tt])) := ⟨ext_upd (LamX.ExtN.refl _) hL, tbG.ext (Sm.new hL), [tt], upd_same, (upd_ne (ne_of_none upd_same hL)).trans upd_same, trivial⟩
      refine app_step (cs := cs) (L := L) rfl hL R1 (by decide) (.number "most") (fun H1 Q' e => ?_) fun G2 R2 => ?_
      · refine ⟨_, rfl, _, rfl, ?_⟩
        exact wo_badN ok (nbG.ext e) rz_self
      refine app_step (cs := cs) (L := L) rfl hL R2 (by decide) (.number "most") (fun H1 Q' e => ?_) fun G3 R3 => ?_
      · refine ⟨_, rfl, ?_⟩
        exact wo_badI ok (by decide) rz_self
      refine app_step (cs := cs) (L := L) rfl hL R3 (by decide) (.word "word") (fun H1 Q' e => ?_) fun G4 R4 => ?_
      · refine ⟨_, rfl, _, rfl, ?_⟩
        exact wn_badW (wbG.ext e) rz_self
      refine app_step (cs := cs) (L := L) rfl hL R4 (by decide) (.stock "stock") (fun H1 Q' e => ?_) fun G5 R5 => ?_
      · refine ⟨_, rfl, ?_⟩
        show hWordNumber K cs [.str (Str.ofString ""), bad] H1 _ _
        rw [empty_text]
        exact wn_badS (l := []) (by decide) (sbG.ext e) rz_self
      refine app_step (cs := cs) (L := L) rfl hL R5 (by decide) (.misfit "stock") (fun H1 Q' e => ?_) fun G6 R6 => ?_
      · refine ⟨_, rfl, _, rfl, ?_⟩
        exact wn_misfit low1 ok mis1 rz_self
      refine app_step (cs := cs) (L := L) rfl hL R6 (by decide) (.word "word") (fun H1 Q' e => ?_) fun G7 R7 => ?_
      · refine ⟨_, rfl, _, rfl, ?_⟩
        exact nx_badW (wbG.ext e) rz_self
      refine app_step (cs := cs) (L := L) rfl hL R7 (by decide) (.stock "stock") (fun H1 Q' e => ?_) fun G8 R8 => ?_
      · refine ⟨_, rfl, ?_⟩
        show hNextWord K cs [.str (Str.ofString ""), bad] H1 _ _
        rw [empty_text]
        exact nx_badS (l := []) (by decide) (sbG.ext e) rz_self
      refine app_step (cs := cs) (L := L) rfl hL R8 (by decide) (.misfit "stock") (fun H1 Q' e => ?_) fun G9 R9 => ?_
      · refine ⟨_, rfl, _, _, a0, rfl, rfl, (by rw [tx_len]; exact small_line (by omega)), (by rw [tx_list, eR]; exact at_first), _, rfl, _, _, rfl, rfl, (by rw [tx_one, tx_len, tx_len]; exact small_line (by show 1 + 1 ≤ 1000000; decide)), _, rfl, ?_⟩
        show hNextWord K cs [.str ((⟨#[a0]⟩ : Str) ++ Tx [d]), .str (Tx S)] H1 _ _
        rw [tx_one, tx_app]
        exact nx_misfit low2 ok mis2 rz_self
      refine app_step (cs := cs) (L := L) rfl hL R9 (by decide) (.stock "stock") (fun H1 Q' e => ?_) fun G10 R10 => ?_
      · refine ⟨_, rfl, _, rfl, ?_⟩
        exact wa_badS (sbG.ext e) rz_self
      refine app_step (cs := cs) (L := L) rfl hL R10 (by decide) (.number "number") (fun H1 Q' e => ?_) fun G11 R11 => ?_
      · refine ⟨_, rfl, _, rfl, ?_⟩
        exact wa_badN ok (nbG.ext e) rz_self
      refine app_step (cs := cs) (L := L) rfl hL R11 (by decide) (.number "number") (fun H1 Q' e => ?_) fun G12 R12 => ?_
      · refine ⟨_, rfl, _, rfl, ?_⟩
        exact wa_badI ok hbi rz_self
      obtain ⟨ts, hL12, hA12⟩ := R12.lst
      have tb12 := R12.tabs
      have hp12 := pen_ext hpG R12.ext
      clear R1 R2 R3 R4 R5 R6 R7 R8 R9 R10 R11 R12
      -- what is due
      refine ⟨small_line (by decide), fun a1 m1 => ⟨small_line (by decide), fun a2 m2 => ⟨small_line (by decide), fun a3 m3 => ⟨small_line (by decide), fun a4 m4 => ⟨small_line (by decide), fun a5 m5 => ⟨small_line (by decide), fun a6 m6 => ⟨small_line (by show 6 ≤ 1000000; decide), fun d7 md => ?_⟩⟩⟩⟩⟩⟩⟩
      refine ⟨_, rfl, _, rfl, _, rfl, d7, _, rfl, SqL.of upd_same, fun e me => ?_⟩
      rw [show cutV [V.ref a1, V.ref a2, V.ref a3, V.ref a4, V.ref a5, V.ref a6] (some 3) none = [V.ref a4, V.ref a5, V.ref a6] from cutV_from _ 3]
      refine ⟨d7, e, _, _, rfl, rfl, (upd_ne (ne_of_none upd_same me)).trans upd_same, upd_same, small_line (by show 6 + 3 ≤ 1000000; decide), fun g mg' => ?_⟩
      refine ⟨small_line (by decide), fun a7 m7 => ⟨small_line (by decide), fun a8 m8 => ⟨small_line (by decide), fun a9 m9 => ⟨small_line (by show 3 ≤ 1000000; decide), fun h mh => ?_⟩⟩⟩⟩
      have ngh : g ≠ h := ne_of_none (Sm.new m9 _ _ (Sm.new m8 _ _ (Sm.new m7 _ _ upd_same))) mh
      refine ⟨g, h, _, _, rfl, rfl, (upd_ne ngh).trans (Sm.new m9 _ _ (Sm.new m8 _ _ (Sm.new m7 _ _ upd_same))), upd_same, small_line (by show 9 + 3 ≤ 1000000; decide), fun k mk => ?_⟩
      have sa := Same.trans (Sm.new m7) (Same.trans (Sm.new m8) (Same.trans (Sm.new m9) (Same.trans (Sm.new mh) (Sm.new (o := .lst ([V.ref a1, V.ref a2, V.ref a3, V.ref a4, V.ref a5, V.ref a6] ++ [V.ref a4, V.ref a5, V.ref a6] ++ [V.ref a7, V.ref a8, V.ref a9])) mk))))
      have sb' := Same.trans (Sm.new md) (Same.trans (Sm.new me) (Same.trans (Sm.new mg') sa))
      have s12 := Same.trans (Sm.new m1) (Same.trans (Sm.new m2) (Same.trans (Sm.new m3) (Same.trans (Sm.new m4) (Same.trans (Sm.new m5) (Same.trans (Sm.new m6) sb')))))
      have g6 := sb' _ _ upd_same
      have g5 := sb' _ _ (Sm.new m6 _ _ upd_same)
      have g4 := sb' _ _ (Sm.new m6 _ _ (Sm.new m5 _ _ upd_same))
      have g3 := sb' _ _ (Sm.new m6 _ _ (Sm.new m5 _ _ (Sm.new m4 _ _ upd_same)))
      have g2 := sb' _ _ (Sm.new m6 _ _ (Sm.new m5 _ _ (Sm.new m4 _ _ (Sm.new m3 _ _ upd_same))))
      have g1 := sb' _ _ (Sm.new m6 _ _ (Sm.new m5 _ _ (Sm.new m4 _ _ (Sm.new m3 _ _ (Sm.new m2 _ _ upd_same)))))
      have g9 := Sm.new (o := .lst ([V.ref a1, V.ref a2, V.ref a3, V.ref a4, V.ref a5, V.ref a6] ++ [V.ref a4, V.ref a5, V.ref a6] ++ [V.ref a7, V.ref a8, V.ref a9])) mk _ _ (Sm.new mh _ _ upd_same)
      have g8 := Sm.new (o := .lst ([V.ref a1, V.ref a2, V.ref a3, V.ref a4, V.ref a5, V.ref a6] ++ [V.ref a4, V.ref a5, V.ref a6] ++ [V.ref a7, V.ref a8, V.ref a9])) mk _ _ (Sm.new mh _ _ (Sm.new m9 _ _ upd_same))
      have g7 := Sm.new (o := .lst ([V.ref a1, V.ref a2, V.ref a3, V.ref a4, V.ref a5, V.ref a6] ++ [V.ref a4, V.ref a5, V.ref a6] ++ [V.ref a7, V.ref a8, V.ref a9])) mk _ _ (Sm.new mh _ _ (Sm.new m9 _ _ (Sm.new m8 _ _ upd_same)))
      have hLf := s12 _ _ hL12
      have hAf := hA12.ext (ext_sm s12)
      have hpf := pen_ext hp12 (ext_sm s12)
      have tbf := tb12.ext s12
      refine ⟨_, rfl, _, rfl, _, _, .lst (SqL.of hLf) (heard_dp hAf), .lst (SqL.of upd_same) (.cons (two_dp g1) (.cons (two_dp g2) (.cons (two_dp g3) (.cons (two_dp g4) (.cons (two_dp g5) (.cons (two_dp g6) (.cons (two_dp g4) (.cons (two_dp g5) (.cons (two_dp g6) (.cons (two_dp g7) (.cons (two_dp g8) (.cons (two_dp g9) .nil)))))))))))), by decide +kernel, by decide +kernel, _, rfl, ite_bt (by decide +kernel) ?_⟩
      refine ⟨_, rfl, _, rfl, ?_⟩
      refine wa_good ok (Nat.le_refl _) fun J1 j1 => ?_
      refine ⟨_, rfl, _, rfl, _, _, z, rfl, rfl, (by rw [tx_len]; exact small_line (by omega)), at_last eS, _, _, rfl, rfl, rfl, by decide, by decide, rfl, _, rfl, ite_bt ?_ ?_⟩
      · rw [← hlast, wordOf_num _ (fun c hc => by rw [(List.mem_replicate.mp hc).2]; exact hzS)]
        exact decide_eq_true rfl
      refine ⟨_, rfl, _, rfl, _, _, z, rfl, rfl, (by rw [tx_len]; exact small_line (by omega)), at_last eS, _, _, rfl, rfl, rfl, by decide, by decide, _, rfl, ?_⟩
      refine nx_good (l := List.replicate 12 z) ok (by simp) (fun c hc => by rw [(List.mem_replicate.mp hc).2]; exact hzS) fun J2 j2 => ?_
      refine ⟨rfl, ?_⟩
      have en : nextV S (List.replicate 12 z) = .non := if_pos hlast
      rw [en]
      exact q _ (pen_ext hpf (ext_sm (j1.trans j2))) (tbf.ext (j1.trans j2))
end
end K4
namespace K4
open PySem PySem.Spec PyProof.Rows L2 K0
section
variable {P : Program} {w : World} {K : PySem.W.Frag} {mg : Str → Option Value} {base : Heap}

variable {cs : Nat → Addr}
/-! ### lists made turn by turn while the pen is dipped -/
def LPv (p : Addr) (H1 : Hp) (D : Addr) (T : Nat) (G : V → Prop) (i : Nat) (H : Hp) : Prop := KB p H1 H ∧ PenAt H p (T + i) ∧ ∃ acc, H D = some (.lst acc) ∧ acc.length = i ∧ ∀ v ∈ acc, G v
theorem PenAt.upd {p D : Addr} {H1 H : Hp} {T0 T : Nat} {o : HO} (h0 : PenAt H1 p T0) (hD : H1 D = none) (k : KB p H1 H) (h : PenAt H p T) : PenAt (upd H D o) p T := by
  have hDp := h0.ne hD
  obtain ⟨l, ns, t, r, a, b, c, d, e, f, g⟩ := h
  obtain ⟨l0, ns0, t0, r0, a0, b0, _⟩ := h0
  obtain ⟨x', y', a1⟩ := k.kp _ _ _ a0
  rw [a] at a1
  have el : l = l0 := by injection a1 with a1; injection a1 with a1; injection a1 with a1 _; injection a1
  have hlD : l ≠ D := fun z => by
    rw [← el, z, hD] at b0
    cases b0
  exact ⟨l, ns, t, r, (upd_ne hDp.symm).trans a, (upd_ne hlD).trans b, c, d, e, f, g⟩
theorem KB.upd {p D : Addr} {H1 H : Hp} {o : HO} (hDp : D ≠ p) (hD : H1 D = none) (k : KB p H1 H) : KB p H1 (upd H D o) :=
  ⟨fun b u n e => (upd_ne (ne_of_none e hD)).trans (k.kb b u n e), fun l x y e => by
    obtain ⟨x', y', e'⟩ := k.kp l x y e
    exact ⟨x', y', (upd_ne hDp.symm).trans e'⟩⟩
theorem lpv0 {p D : Addr} {H1 : Hp} {T : Nat} {G : V → Prop} (hp : PenAt H1 p T) (hD : H1 D = none) : LPv p H1 D T G 0 (upd H1 D (.lst [])) :=
  ⟨KB.sm (Sm.new hD), hp.sm (Sm.new hD), [], upd_same, rfl, fun v hv => by simp at hv⟩
theorem lpv_put {p D : Addr} {H1 H H' : Hp} {T T0 i : Nat} {G : V → Prop} {y : V} (hp : PenAt H1 p T0) (hD : H1 D = none) (h : LPv p H1 D T G i H) (k : KB p H H') (h' : PenAt H' p (T + i + 1)) (hi : i < 100000) (g : G y) :
    ∃ acc, H' D = some (.lst acc) ∧ acc.length < sizeLine ∧ LPv p H1 D T G (i + 1) (L2.upd H' D (.lst (acc ++ [y]))) := by
  obtain ⟨k0, _, acc, e, hl, ha⟩ := h
  have hDp := hp.ne hD
  have kk := KB.trans k0 k
  refine ⟨acc, k.kb _ _ hDp e, ?_, kk.upd hDp hD, hp.upd hD kk h', acc ++ [y], upd_same, by rw [List.length_append, hl]; rfl, fun v hv => ?_⟩
  · rw [hl, sizeLine_eq]
    omega
  · rcases List.mem_append.mp hv with hv | hv
    · exact ha v hv
    · rw [List.mem_singleton.mp hv]
      exact g
theorem strs_of {G : Nat → Prop} : ∀ (acc : List V), (∀ v ∈ acc, ∃ c : Nat, v = .str (Tx [c]) ∧ G c) → ∃ l : List Nat, acc = (l.map fun c => Tx [c]).map V.str ∧ ∀ c ∈ l, G c
  | [], _ => ⟨[], rfl, fun c hc => by simp at hc⟩
  | v :: r, h => by
    obtain ⟨z, rfl, hz⟩ := h v List.mem_cons_self
    obtain ⟨l, e, hl⟩ := strs_of r fun v hv => h v (List.mem_cons_of_mem _ hv)
    refine ⟨z :: l, by rw [e]; rfl, fun c hc => ?_⟩
    rcases List.mem_cons.mp hc with rfl | hc
    · exact hz
    · exact hl c hc

theorem pk_text {p : Addr} {T : Nat} {l : List Nat} {H : Hp} {Q : VK} {E : XK} (hp : PenAt H p T) (hT : T < 1000000) (h1 : 1 ≤ l.length) (h2 : l.length ≤ 1000) (k : ∀ H' c, KB p H H' → PenAt H' p (T + 1) → c ∈ l → Q (.str (Tx [c])) H') : hPick K [.ref p, .str (Tx l)] H Q E := by
  rw [hPick_eq]
  exact ⟨p, _, T, rfl, hp, hT, .inr ⟨l, rfl, h1, h2, k⟩⟩
theorem rep_tx (n c : Nat) : (⟨Array.replicate n c⟩ : Str) = Tx (List.replicate n c) := by simp [Tx]
/-! ### the law -/
abbrev st_law : Stmt := top 46
abbrev nm_law : List Str := ["_law_script", "_law_well_here", "_law_lap", "_law_stock_here", "_law_turn", "_law_word", "_law_sound"]
theorem sc_law : FnScope nm_law ["_law_script"] (defScope st_law) := ⟨rfl, rfl, rfl, by decide +kernel, rfl, by decide +kernel, by decide +kernel⟩
def spLaw (K : PySem.W.Frag) (T1 T2 : Addr) : Sp := fun vs H Q _ => ∃ (a : Addr) (ns : List Int), vs = [.ref a] ∧ SqL K H a (ns.map V.int) ∧ ns.length ≤ 63 ∧ LamX.Tabs (TLs T1 T2) H ∧ ∀ H', Q (.bl true) H'
theorem most_at {n : Nat} (h1 : 1 ≤ n) (h5 : n ≤ 5) : ∃ m : Nat, atI [V.int 0, V.int 13, V.int 7, V.int 5, V.int 4, V.int 4] (n : Int) = some (.int (m : Int)) ∧ 1 ≤ m ∧ m ≤ 13 ∧ ∀ k, k < m → bel n (k + 1) ≤ 1000 := by
  have h : n = 1 ∨ n = 2 ∨ n = 3 ∨ n = 4 ∨ n = 5 := by omega
  rcases h with rfl | rfl | rfl | rfl | rfl
  · exact ⟨13, atI_nat (j := 1) rfl, by decide, by decide, by decide⟩
  · exact ⟨7, atI_nat (j := 2) rfl, by decide, by decide, by decide⟩
  · exact ⟨5, atI_nat (j := 3) rfl, by decide, by decide, by decide⟩
  · exact ⟨4, atI_nat (j := 4) rfl, by decide, by decide, by decide⟩
  · exact ⟨4, atI_nat (j := 5) rfl, by decide, by decide, by decide⟩
theorem ok_law {T1 T2 f : Addr} {fd : FuncData} (F : Fun K "law" "law" st_law f fd) (T : Blt mg) (C__law_well : Cal P w K mg base 1 "_law_well" st_l_well ["_law_script"] (spPen K)) (C__law_dip : CDip P w K mg base)
    (C__law_pick : Cal P w K mg base 2 "_law_pick" st_l_pick ["_law_well_here", "_law_some"] (spPick K)) (C__law_stock : Cal P w K mg base 3 "_law_stock" st_l_stock ["_law_well_here", "_law_many"] (spStock K))
    (C__law_all_right : Cal P w K mg base 6 "_law_all_right" st_l_all_right ["_law_stock_here", "_law_most"] spAllRight) (C__law_word_right : Cal P w K mg base 6 "_law_word_right" st_l_word_right ["_law_word", "_law_stock_here"] spWordRight)
    (C__law_refused_right : Cal P w K mg base 9 "_law_refused_right" st_l_refused_right ["_law_well_here", "_law_stock_here"] (spRefused T1 T2)) (C__law_many_right : Cal P w K mg base 9 "_law_many_right" st_l_many_right ["_law_stock_here"] (spManyRight T1 T2)) :
    FnOk P w K mg base CX0 10 f fd ["_law_script"] (spLaw K T1 T2) := by
  have C__law_pick := C__law_pick.to hPick_eq
  refine F.ok sc_law (fun vs H Q E h => ?_) (fun cdv A outer s H vs Q E hr h => ?_)
  · obtain ⟨a, ns, rfl, _⟩ := h
    rfl
  · refine ⟨_, (pss_cons (ps_set (i := 1) sc_law.nd rfl (Or.inr rfl) (pe_cl C__law_well (hr.mono (by decide)) rfl (pa_cons (pv 0) pa_nil)))
  (pss_cons (ps_for PassesOwn.never rfl (pi_range1 rfl T.n_range (pa_cons pe_int pa_nil)) (pg_name (i := 2) sc_law.nd rfl (Or.inl rfl)) (pss_cons (ps_set (i := 3) sc_law.nd rfl (Or.inr rfl) (pe_cl C__law_stock (hr.mono (by decide)) rfl (pa_cons (pv 1) (pa_cons (pe_op op_add pe_int (pe_cl C__law_dip (hr.mono (by decide)) rfl (pa_cons (pv 1) (pa_cons pe_int pa_nil)))) pa_nil))))
  (pss_cons (ps_if (pt_not (pt_val (pe_cl C__law_all_right (hr.mono (by decide)) rfl (pa_cons (pv 3) (pa_cons (pe_cl C__law_dip (hr.mono (by decide)) rfl (pa_cons (pv 1) (pa_cons (pe_ix ix_list (pe_lst (pa_cons pe_int (pa_cons pe_int (pa_cons pe_int (pa_cons pe_int (pa_cons pe_int (pa_cons pe_int pa_nil))))))) (pe_callB call_len_str (by rfl) T.n_len (by decide +kernel) (pa_cons (pv 3) pa_nil)) (fun _ _ => rfl)) pa_nil))) pa_nil))))) (pss_one (ps_ret pe_bl)) pss_nil)
  (pss_cons (ps_for PassesOwn.never rfl (pi_range1 rfl T.n_range (pa_cons pe_int pa_nil)) (pg_name (i := 4) sc_law.nd rfl (Or.inl rfl)) (pss_cons (ps_set (i := 5) sc_law.nd rfl (Or.inl rfl) (pe_join pe_str (pe_lc (own := [("_law_sound", 6)]) (g := (gName 6)) (tt := tYes) rfl sc_law.nd (pi_range1 rfl T.n_range (pa_cons (pe_cl C__law_dip (hr.mono (by decide)) rfl (pa_cons (pv 1) (pa_cons pe_int pa_nil))) pa_nil)) (blkOk_by (N := nm_law) (sc := defScope st_law) (own := [("_law_sound", 6)]) (by decide +kernel)) (fun _ _ _ _ _ => by exact pg_name (i := 6) sc_law.nd rfl (Or.inl rfl)) (fun _ _ _ _ _ => pts_nil) (fun _ _ _ _ _ => (pe_cl C__law_pick (hr.mono (by decide)) rfl (pa_cons (pv 1) (pa_cons (pv 3) pa_nil)))))))
  (pss_one (ps_if (PW.pt (pw_or (pt_not (pt_val (pe_cl C__law_word_right (hr.mono (by decide)) rfl (pa_cons (pv 5) (pa_cons (pv 3) pa_nil))))) (pw_or1 (pt_not (pt_val (pe_cl C__law_word_right (hr.mono (by decide)) rfl (pa_cons (pe_op op_add_str (pe_slice sl_str (pv 5) po_none (po_some pe_int)) (pe_op op_mulS (pe_ix ix_str (pv 3) (pe_un un_neg pe_int) (fun _ _ => rfl)) (pe_callB call_len_str (by rfl) T.n_len (by decide +kernel) (pa_cons (pe_slice sl_str (pv 5) (po_some pe_int) po_none) pa_nil)))) (pa_cons (pv 3) pa_nil)))))))) (pss_one (ps_ret pe_bl)) pss_nil))))
  (pss_one (ps_if (pt_not (pt_val (pe_cl C__law_refused_right (hr.mono (by decide)) rfl (pa_cons (pv 1) (pa_cons (pv 3) pa_nil))))) (pss_one (ps_ret pe_bl)) pss_nil))))))
  (pss_one (ps_ret (pe_or (pe_cmpR op_gt (pe_cl C__law_dip (hr.mono (by decide)) rfl (pa_cons (pv 1) (pa_cons pe_int pa_nil))) pe_int (nomark _)) (pe_one (pe_cl C__law_many_right (hr.mono (by decide)) rfl (pa_cons (pe_cl C__law_stock (hr.mono (by decide)) rfl (pa_cons (pv 1) (pa_cons (pe_op op_add pe_int (pe_cl C__law_dip (hr.mono (by decide)) rfl (pa_cons (pv 1) (pa_cons pe_int pa_nil)))) pa_nil))) pa_nil)))))))), ?_⟩
    obtain ⟨a, ns, rfl, hs, hl, tb, q⟩ := h
    refine ⟨_, rfl, a, ns, rfl, hs, hl, fun H1 p s1 hp1 => ?_⟩
    have tb1 := tb.ext s1
    refine ⟨(3 : Int), rfl, by decide, by decide, ?_⟩
    refine for_it (n := (3 : Int).toNat) walk_range (fun i σ H' => ∃ (u v x y z : Option V), σ = [some (.ref a), some (.ref p), u, v, x, y, z] ∧ PenAt H' p (1000 * i) ∧ LamX.Tabs (TLs T1 T2) H') ⟨_, _, _, _, _, rfl, hp1, tb1⟩ (fun _ _ _ _ _ => trivial) ?_ ?_
    · rintro i x σ H2 H2' hi ⟨u, v, x2, y, z, rfl, hp2, tb2⟩ ⟨rfl, rfl⟩
      have hi3 : i < 3 := hi
      -- a stock
      refine ⟨_, rfl, _, rfl, p, 5, _, rfl, hp2, by omega, by decide, by decide, fun H3 n kb3 hp3 n0 n1 => ⟨_, _, rfl, rfl, ?_⟩⟩
      have tb3 := tabs_kb tb2 hp2 kb3
      obtain ⟨n, rfl⟩ : ∃ k : Nat, n = (k : Int) := ⟨n.toNat, by omega⟩
      refine ⟨p, 1 + n, _, (by rw [Int.natCast_add]; rfl), hp3, by omega, by omega, by omega, fun H4 S kb4 hp4 ok hS => ?_⟩
      have tb4 := tabs_kb tb3 hp3 kb4
      obtain ⟨h1, h5, hpw⟩ := st_facts ok
      obtain ⟨T', zz, eS⟩ := last_of (ne_nil h1)
      have hzS : zz ∈ S := by rw [eS]; simp
      clear kb3 kb4 hp2 hp3 tb2 tb3
      -- all words
      obtain ⟨m, hat, m1, m13, hbel⟩ := most_at h1 h5
      refine ⟨_, rfl, _, rfl, small_line (by decide), fun l0 hl0 => ⟨_, rfl, Tx S, rfl, (by rw [tx_len]; exact small_line (by omega)), l0, _, _, .int (m : Int), rfl, rfl, SqL.of upd_same, (by rw [tx_len]; exact hat), ?_⟩⟩
      refine ⟨p, (m : Int), _, rfl, hp4.sm (Sm.new hl0), by omega, by omega, by omega, fun H5 k kb5 hp5 k0 k1 => ?_⟩
      have tb5 := tabs_kb (tb4.ext (Sm.new hl0)) (hp4.sm (Sm.new hl0)) kb5
      obtain ⟨k, rfl⟩ : ∃ j : Nat, k = (j : Int) := ⟨k.toNat, by omega⟩
      refine ⟨S, k, rfl, ok, by omega, hbel k (by omega), fun H6 s6 => ⟨_, rfl, iteF ?_⟩⟩
      have hp6 := (hp5.sm s6).mono (T' := 1000 * i + 50 + 50 * 0) (by omega)
      have tb6 := tb5.ext s6
      clear kb5 hp5 hp4 tb4 tb5 hl0 s6
      -- four words
      refine ⟨(4 : Int), rfl, by decide, by decide, ?_⟩
      refine for_it (n := (4 : Int).toNat) walk_range (fun j σ H' => ∃ (v x y : Option V), σ = [some (.ref a), some (.ref p), some (.int (0 + (i : Int))), some (.str (Tx S)), v, x, y] ∧ PenAt H' p (1000 * i + 50 + 50 * j) ∧ LamX.Tabs (TLs T1 T2) H') ⟨_, _, _, rfl, hp6, tb6⟩ (fun _ _ _ _ _ => trivial) ?_ ?_
      · rintro j x σ H7 H7' hj ⟨v2, x3, y3, rfl, hp7, tb7⟩ ⟨rfl, rfl⟩
        have hj4 : j < 4 := hj
        refine ⟨⟨_, rfl⟩, _, rfl, p, 13, _, rfl, hp7, by omega, by decide, by decide, fun H8 n8 kb8 hp8 n80 n81 => ⟨n8, rfl, by omega, by omega, fun D hD => ?_⟩⟩
        have tb8 := tabs_kb tb7 hp7 kb8
        refine lc_it (n := n8.toNat) walk_range (LPv p H8 D (1000 * i + 50 + 50 * j + 1) (fun v => ∃ c : Nat, v = .str (Tx [c]) ∧ c ∈ S)) (lpv0 hp8 hD) (fun _ _ _ _ => trivial) ?_ ?_
        · rintro t x H9 H9' ht hL ⟨rfl, rfl⟩
          refine ⟨rfl, _, rfl, _, rfl, ?_⟩
          refine pk_text hL.2.1 (by omega) h1 (by omega) fun H10 c kb10 hp10 hc => ?_
          exact lpv_put hp8 hD hL kb10 hp10 (by omega) ⟨c, rfl, hc⟩
        · rintro H9 ⟨kbL, hpL, acc, eD, hlen, hG⟩
          obtain ⟨wl, rfl, hw⟩ := strs_of acc hG
          rw [List.length_map, List.length_map] at hlen
          have tb9 := tabs_kb tb8 hp8 kbL
          have hw12 : wl.length ≤ 12 := by omega
          refine ⟨_, D, _, rfl, rfl, .inl (SqL.of eD), join_len wl (by omega), ?_⟩
          rw [join_tx]
          refine ⟨_, rfl, _, rfl, wl, S, rfl, ok, hw12, hw, fun H10 s10 => ⟨_, rfl, iteF ?_⟩⟩
          refine ⟨_, rfl, _, rfl, Tx wl, rfl, (by rw [tx_len]; exact small_line (by omega)), ?_⟩
          rw [show cutS (Tx wl) none (some 1) = Tx (wl.take 1) from cut_to wl 1]
          refine ⟨_, rfl, _, rfl, _, _, zz, rfl, rfl, (by rw [tx_len]; exact small_line (by omega)), at_last eS, _, rfl, _, rfl, Tx wl, rfl, (by rw [tx_len]; exact small_line (by omega)), ?_⟩
          rw [show cutS (Tx wl) (some 1) none = Tx (wl.drop 1) from cut_from wl 1]
          refine ⟨_, rfl, (by rw [tx_len, List.length_drop]; exact small_line (by omega)), _, _, rfl, rfl, rfl, (by rw [tx_len, List.length_drop]; omega), (by rw [tx_len]; omega), _, _, rfl, rfl, ?_, _, rfl, ?_⟩
          · rw [rep_tx, tx_len, tx_len, tx_len, List.length_replicate, List.length_take, List.length_drop]
            exact small_line (by omega)
          · refine ⟨wl.take 1 ++ List.replicate (wl.drop 1).length zz, S, ?_, ok, ?_, fun c hc => ?_, fun H11 s11 => ⟨_, rfl, iteF ?_⟩⟩
            · rw [rep_tx, tx_len, tx_app]
              rfl
            · rw [List.length_append, List.length_take, List.length_replicate, List.length_drop]
              omega
            · rcases List.mem_append.mp hc with hc | hc
              · exact hw c (List.mem_of_mem_take hc)
              · rw [(List.mem_replicate.mp hc).2]
                exact hzS
            · exact ⟨_, _, _, rfl, ((hpL.sm s10).sm s11).mono (by omega), (tb9.ext s10).ext s11⟩
      · rintro σ H7 ⟨v2, x3, y3, rfl, hp7, tb7⟩
        have e4 : (4 : Int).toNat = 4 := rfl
        rw [e4] at hp7
        refine ⟨_, rfl, _, rfl, p, S, _, rfl, hp7, by omega, ok, tb7, fun H8 hp8 tb8 => ⟨_, rfl, iteF ?_⟩⟩
        exact ⟨_, _, _, _, _, rfl, hp8.mono (by omega), tb8⟩
    · rintro σ H2 ⟨u, v, x2, y, z, rfl, hp2, tb2⟩
      have e3 : (3 : Int).toNat = 3 := rfl
      rw [e3] at hp2
      refine ⟨_, rfl, p, 4, _, rfl, hp2, by omega, by decide, by decide, fun H3 k kb3 hp3 k0 k1 => ⟨_, _, rfl, rfl, _, rfl, ?_⟩⟩
      have tb3 := tabs_kb tb2 hp2 kb3
      refine ite2 (fun c => ?_) (fun c => ?_)
      · exact q _
      · refine ⟨_, rfl, _, rfl, p, 3, _, rfl, hp3, by omega, by decide, by decide, fun H4 n kb4 hp4 n0 n1 => ⟨_, _, rfl, rfl, ?_⟩⟩
        have tb4 := tabs_kb tb3 hp3 kb4
        obtain ⟨n, rfl⟩ : ∃ k : Nat, n = (k : Int) := ⟨n.toNat, by omega⟩
        refine ⟨p, 3 + n, _, (by rw [Int.natCast_add]; rfl), hp4, by omega, by omega, by omega, fun H5 S kb5 hp5 ok hS => ?_⟩
        exact ⟨S, rfl, ok, by omega, tabs_kb tb4 hp4 kb5, fun H' => q H'⟩
end
end K4
namespace K4
open PySem PySem.Spec PyProof.Rows L2 K0
def csF (a b c d e : Addr) : Nat → Addr
  | 0 => a
  | 1 => b
  | 2 => c
  | 3 => d
  | _ => e
set_option maxHeartbeats 4000000 in
theorem all_mk {l : PySem.W.OpenLaw} {w : World} {K : PySem.W.Frag} {h : Heap} {mg : Str → Option Value} {fa : Addr} {u__law_refused_right v__law_refused_right u__law_many_right v__law_many_right c_TongueError c_BadWord f_BadWord c_BadStock f_BadStock c_BadNumber f_BadNumber c_Misfit f_Misfit c_TooMany f_TooMany a_is_integer a_is_within a_is_long_word a_is_rising a_is_word a_is_stock a_of_stock a_need_word a_need_stock a_need_number a_longer_words a_many_of_length a_list_words a_words_of a_need_word_of a_number_of_word a_word_of_number a_last_number a_word_number a_word_at a_next_word a__law_well a__law_dip a__law_pick a__law_stock a__law_listed a__law_ahead a__law_behind a__law_word_right a__law_all_right a__law_heard a__law_refused_right a__law_many_right a_law : Addr} {t_LONGEST t_MOST_OF_ONE_LENGTH : Tok} (X : K.In h) (G : h.Ns mainGlobals mg) (hfa : mg "law" = some (.ref fa))
    (z_len : PySem.W.nsIn K mainGlobals "len" = some none)
    (z_isinstance : PySem.W.nsIn K mainGlobals "isinstance" = some none)
    (z_int : PySem.W.nsIn K mainGlobals "int" = some none)
    (z_bool : PySem.W.nsIn K mainGlobals "bool" = some none)
    (z_str : PySem.W.nsIn K mainGlobals "str" = some none)
    (z_list : PySem.W.nsIn K mainGlobals "list" = some none)
    (z_tuple : PySem.W.nsIn K mainGlobals "tuple" = some none)
    (z_all : PySem.W.nsIn K mainGlobals "all" = some none)
    (z_any : PySem.W.nsIn K mainGlobals "any" = some none)
    (z_zip : PySem.W.nsIn K mainGlobals "zip" = some none)
    (z_abs : PySem.W.nsIn K mainGlobals "abs" = some none)
    (z_range : PySem.W.nsIn K mainGlobals "range" = some none)
    (z_enumerate : PySem.W.nsIn K mainGlobals "enumerate" = some none)
    (z_sorted : PySem.W.nsIn K mainGlobals "sorted" = some none)
    (n_TongueError : PySem.W.nsIn K mainGlobals "TongueError" = some (some (.ref c_TongueError)))
    (k_LONGEST : PySem.W.nsIn K mainGlobals "LONGEST" = some (some (.int 12 t_LONGEST)))
    (k_MOST_OF_ONE_LENGTH : PySem.W.nsIn K mainGlobals "MOST_OF_ONE_LENGTH" = some (some (.int 20000 t_MOST_OF_ONE_LENGTH)))
    (n_BadWord : PySem.W.nsIn K mainGlobals "BadWord" = some (some (.ref c_BadWord)))
    (o_BadWord : OexC K c_BadWord)
    (i_BadWord : PySem.W.findIn K (.ref c_BadWord) "__init__" = some (some (.ref f_BadWord)))
    (t_BadWord : PySem.W.typeIn K (.ref f_BadWord) = some (.type "function"))
    (G_BadWord : ∃ fd : FuncData, Fun K "__init__" "BadWord.__init__" st_i_BadWord f_BadWord fd)
    (j_BadWord : PySem.W.isClsIn K c_BadWord = true)
    (x_BadWord : XfC K c_BadWord)
    (p_BadWord_part : PySem.W.findIn K (.ref c_BadWord) "part" = some none)
    (n_BadStock : PySem.W.nsIn K mainGlobals "BadStock" = some (some (.ref c_BadStock)))
    (o_BadStock : OexC K c_BadStock)
    (i_BadStock : PySem.W.findIn K (.ref c_BadStock) "__init__" = some (some (.ref f_BadStock)))
    (t_BadStock : PySem.W.typeIn K (.ref f_BadStock) = some (.type "function"))
    (G_BadStock : ∃ fd : FuncData, Fun K "__init__" "BadStock.__init__" st_i_BadStock f_BadStock fd)
    (j_BadStock : PySem.W.isClsIn K c_BadStock = true)
    (x_BadStock : XfC K c_BadStock)
    (p_BadStock_part : PySem.W.findIn K (.ref c_BadStock) "part" = some none)
    (n_BadNumber : PySem.W.nsIn K mainGlobals "BadNumber" = some (some (.ref c_BadNumber)))
    (o_BadNumber : OexC K c_BadNumber)
    (i_BadNumber : PySem.W.findIn K (.ref c_BadNumber) "__init__" = some (some (.ref f_BadNumber)))
    (t_BadNumber : PySem.W.typeIn K (.ref f_BadNumber) = some (.type "function"))
    (G_BadNumber : ∃ fd : FuncData, Fun K "__init__" "BadNumber.__init__" st_i_BadNumber f_BadNumber fd)
    (j_BadNumber : PySem.W.isClsIn K c_BadNumber = true)
    (x_BadNumber : XfC K c_BadNumber)
    (p_BadNumber_part : PySem.W.findIn K (.ref c_BadNumber) "part" = some none)
    (n_Misfit : PySem.W.nsIn K mainGlobals "Misfit" = some (some (.ref c_Misfit)))
    (o_Misfit : OexC K c_Misfit)
    (i_Misfit : PySem.W.findIn K (.ref c_Misfit) "__init__" = some (some (.ref f_Misfit)))
    (t_Misfit : PySem.W.typeIn K (.ref f_Misfit) = some (.type "function"))
    (G_Misfit : ∃ fd : FuncData, Fun K "__init__" "Misfit.__init__" st_i_Misfit f_Misfit fd)
    (j_Misfit : PySem.W.isClsIn K c_Misfit = true)
    (x_Misfit : XfC K c_Misfit)
    (p_Misfit_part : PySem.W.findIn K (.ref c_Misfit) "part" = some none)
    (n_TooMany : PySem.W.nsIn K mainGlobals "TooMany" = some (some (.ref c_TooMany)))
    (o_TooMany : OexC K c_TooMany)
    (i_TooMany : PySem.W.findIn K (.ref c_TooMany) "__init__" = some (some (.ref f_TooMany)))
    (t_TooMany : PySem.W.typeIn K (.ref f_TooMany) = some (.type "function"))
    (G_TooMany : ∃ fd : FuncData, Fun K "__init__" "TooMany.__init__" st_i_TooMany f_TooMany fd)
    (j_TooMany : PySem.W.isClsIn K c_TooMany = true)
    (x_TooMany : XfC K c_TooMany)
    (p_TooMany_what : PySem.W.findIn K (.ref c_TooMany) "what" = some none)
    (p_TooMany_most : PySem.W.findIn K (.ref c_TooMany) "most" = some none)
    (m_BadWord_BadWord : PySem.W.subIn K (.ref c_BadWord) (.ref c_BadWord) = some true)
    (m_BadWord_BadStock : PySem.W.subIn K (.ref c_BadWord) (.ref c_BadStock) = some false)
    (m_BadWord_BadNumber : PySem.W.subIn K (.ref c_BadWord) (.ref c_BadNumber) = some false)
    (m_BadWord_Misfit : PySem.W.subIn K (.ref c_BadWord) (.ref c_Misfit) = some false)
    (m_BadWord_TooMany : PySem.W.subIn K (.ref c_BadWord) (.ref c_TooMany) = some false)
    (m_BadStock_BadWord : PySem.W.subIn K (.ref c_BadStock) (.ref c_BadWord) = some false)
    (m_BadStock_BadStock : PySem.W.subIn K (.ref c_BadStock) (.ref c_BadStock) = some true)
    (m_BadStock_BadNumber : PySem.W.subIn K (.ref c_BadStock) (.ref c_BadNumber) = some false)
    (m_BadStock_Misfit : PySem.W.subIn K (.ref c_BadStock) (.ref c_Misfit) = some false)
    (m_BadStock_TooMany : PySem.W.subIn K (.ref c_BadStock) (.ref c_TooMany) = some false)
    (m_BadNumber_BadWord : PySem.W.subIn K (.ref c_BadNumber) (.ref c_BadWord) = some false)
    (m_BadNumber_BadStock : PySem.W.subIn K (.ref c_BadNumber) (.ref c_BadStock) = some false)
    (m_BadNumber_BadNumber : PySem.W.subIn K (.ref c_BadNumber) (.ref c_BadNumber) = some true)
    (m_BadNumber_Misfit : PySem.W.subIn K (.ref c_BadNumber) (.ref c_Misfit) = some false)
    (m_BadNumber_TooMany : PySem.W.subIn K (.ref c_BadNumber) (.ref c_TooMany) = some false)
    (m_Misfit_BadWord : PySem.W.subIn K (.ref c_Misfit) (.ref c_BadWord) = some false)
    (m_Misfit_BadStock : PySem.W.subIn K (.ref c_Misfit) (.ref c_BadStock) = some false)
    (m_Misfit_BadNumber : PySem.W.subIn K (.ref c_Misfit) (.ref c_BadNumber) = some false)
    (m_Misfit_Misfit : PySem.W.subIn K (.ref c_Misfit) (.ref c_Misfit) = some true)
    (m_Misfit_TooMany : PySem.W.subIn K (.ref c_Misfit) (.ref c_TooMany) = some false)
    (m_TooMany_BadWord : PySem.W.subIn K (.ref c_TooMany) (.ref c_BadWord) = some false)
    (m_TooMany_BadStock : PySem.W.subIn K (.ref c_TooMany) (.ref c_BadStock) = some false)
    (m_TooMany_BadNumber : PySem.W.subIn K (.ref c_TooMany) (.ref c_BadNumber) = some false)
    (m_TooMany_Misfit : PySem.W.subIn K (.ref c_TooMany) (.ref c_Misfit) = some false)
    (m_TooMany_TooMany : PySem.W.subIn K (.ref c_TooMany) (.ref c_TooMany) = some true)
    (tb__law_refused_right : PySem.W.tabIn K "_law_refused_right" = some (u__law_refused_right, v__law_refused_right))
    (tc__law_refused_right : PySem.W.codeHdIn K u__law_refused_right v__law_refused_right = true)
    (tn__law_refused_right : (K.lookup v__law_refused_right).isNone = true)
    (tb__law_many_right : PySem.W.tabIn K "_law_many_right" = some (u__law_many_right, v__law_many_right))
    (tc__law_many_right : PySem.W.codeHdIn K u__law_many_right v__law_many_right = true)
    (tn__law_many_right : (K.lookup v__law_many_right).isNone = true)
    (d_is_integer : PySem.W.nsIn K mainGlobals "is_integer" = some (some (.ref a_is_integer)))
    (d_is_within : PySem.W.nsIn K mainGlobals "is_within" = some (some (.ref a_is_within)))
    (d_is_long_word : PySem.W.nsIn K mainGlobals "is_long_word" = some (some (.ref a_is_long_word)))
    (d_is_rising : PySem.W.nsIn K mainGlobals "is_rising" = some (some (.ref a_is_rising)))
    (d_is_word : PySem.W.nsIn K mainGlobals "is_word" = some (some (.ref a_is_word)))
    (d_is_stock : PySem.W.nsIn K mainGlobals "is_stock" = some (some (.ref a_is_stock)))
    (d_of_stock : PySem.W.nsIn K mainGlobals "of_stock" = some (some (.ref a_of_stock)))
    (d_need_word : PySem.W.nsIn K mainGlobals "need_word" = some (some (.ref a_need_word)))
    (d_need_stock : PySem.W.nsIn K mainGlobals "need_stock" = some (some (.ref a_need_stock)))
    (d_need_number : PySem.W.nsIn K mainGlobals "need_number" = some (some (.ref a_need_number)))
    (d_longer_words : PySem.W.nsIn K mainGlobals "longer_words" = some (some (.ref a_longer_words)))
    (d_many_of_length : PySem.W.nsIn K mainGlobals "many_of_length" = some (some (.ref a_many_of_length)))
    (d_list_words : PySem.W.nsIn K mainGlobals "list_words" = some (some (.ref a_list_words)))
    (d_words_of : PySem.W.nsIn K mainGlobals "words_of" = some (some (.ref a_words_of)))
    (d_need_word_of : PySem.W.nsIn K mainGlobals "need_word_of" = some (some (.ref a_need_word_of)))
    (d_number_of_word : PySem.W.nsIn K mainGlobals "number_of_word" = some (some (.ref a_number_of_word)))
    (d_word_of_number : PySem.W.nsIn K mainGlobals "word_of_number" = some (some (.ref a_word_of_number)))
    (d_last_number : PySem.W.nsIn K mainGlobals "last_number" = some (some (.ref a_last_number)))
    (d_word_number : PySem.W.nsIn K mainGlobals "word_number" = some (some (.ref a_word_number)))
    (d_word_at : PySem.W.nsIn K mainGlobals "word_at" = some (some (.ref a_word_at)))
    (d_next_word : PySem.W.nsIn K mainGlobals "next_word" = some (some (.ref a_next_word)))
    (d__law_well : PySem.W.nsIn K mainGlobals "_law_well" = some (some (.ref a__law_well)))
    (d__law_dip : PySem.W.nsIn K mainGlobals "_law_dip" = some (some (.ref a__law_dip)))
    (d__law_pick : PySem.W.nsIn K mainGlobals "_law_pick" = some (some (.ref a__law_pick)))
    (d__law_stock : PySem.W.nsIn K mainGlobals "_law_stock" = some (some (.ref a__law_stock)))
    (d__law_listed : PySem.W.nsIn K mainGlobals "_law_listed" = some (some (.ref a__law_listed)))
    (d__law_ahead : PySem.W.nsIn K mainGlobals "_law_ahead" = some (some (.ref a__law_ahead)))
    (d__law_behind : PySem.W.nsIn K mainGlobals "_law_behind" = some (some (.ref a__law_behind)))
    (d__law_word_right : PySem.W.nsIn K mainGlobals "_law_word_right" = some (some (.ref a__law_word_right)))
    (d__law_all_right : PySem.W.nsIn K mainGlobals "_law_all_right" = some (some (.ref a__law_all_right)))
    (d__law_heard : PySem.W.nsIn K mainGlobals "_law_heard" = some (some (.ref a__law_heard)))
    (d__law_refused_right : PySem.W.nsIn K mainGlobals "_law_refused_right" = some (some (.ref a__law_refused_right)))
    (d__law_many_right : PySem.W.nsIn K mainGlobals "_law_many_right" = some (some (.ref a__law_many_right)))
    (d_law : PySem.W.nsIn K mainGlobals "law" = some (some (.ref a_law)))
    (F_is_integer : ∃ fd : FuncData, Fun K "is_integer" "is_integer" st_is_integer a_is_integer fd)
    (F_is_within : ∃ fd : FuncData, Fun K "is_within" "is_within" st_is_within a_is_within fd)
    (F_is_long_word : ∃ fd : FuncData, Fun K "is_long_word" "is_long_word" st_is_long_word a_is_long_word fd)
    (F_is_rising : ∃ fd : FuncData, Fun K "is_rising" "is_rising" st_is_rising a_is_rising fd)
    (F_is_word : ∃ fd : FuncData, Fun K "is_word" "is_word" st_is_word a_is_word fd)
    (F_is_stock : ∃ fd : FuncData, Fun K "is_stock" "is_stock" st_is_stock a_is_stock fd)
    (F_of_stock : ∃ fd : FuncData, Fun K "of_stock" "of_stock" st_of_stock a_of_stock fd)
    (F_need_word : ∃ fd : FuncData, Fun K "need_word" "need_word" st_need_word a_need_word fd)
    (F_need_stock : ∃ fd : FuncData, Fun K "need_stock" "need_stock" st_need_stock a_need_stock fd)
    (F_need_number : ∃ fd : FuncData, Fun K "need_number" "need_number" st_need_number a_need_number fd)
    (F_longer_words : ∃ fd : FuncData, Fun K "longer_words" "longer_words" st_longer_words a_longer_words fd)
    (F_many_of_length : ∃ fd : FuncData, Fun K "many_of_length" "many_of_length" st_many_of_length a_many_of_length fd)
    (F_list_words : ∃ fd : FuncData, Fun K "list_words" "list_words" st_list_words a_list_words fd)
    (F_words_of : ∃ fd : FuncData, Fun K "words_of" "words_of" st_words_of a_words_of fd)
    (F_need_word_of : ∃ fd : FuncData, Fun K "need_word_of" "need_word_of" st_need_word_of a_need_word_of fd)
    (F_number_of_word : ∃ fd : FuncData, Fun K "number_of_word" "number_of_word" st_number_of_word a_number_of_word fd)
    (F_word_of_number : ∃ fd : FuncData, Fun K "word_of_number" "word_of_number" st_word_of_number a_word_of_number fd)
    (F_last_number : ∃ fd : FuncData, Fun K "last_number" "last_number" st_last_number a_last_number fd)
    (F_word_number : ∃ fd : FuncData, Fun K "word_number" "word_number" st_word_number a_word_number fd)
    (F_word_at : ∃ fd : FuncData, Fun K "word_at" "word_at" st_word_at a_word_at fd)
    (F_next_word : ∃ fd : FuncData, Fun K "next_word" "next_word" st_next_word a_next_word fd)
    (F__law_well : ∃ fd : FuncData, Fun K "_law_well" "_law_well" st_l_well a__law_well fd)
    (F__law_dip : ∃ fd : FuncData, Fun K "_law_dip" "_law_dip" st_l_dip a__law_dip fd)
    (F__law_pick : ∃ fd : FuncData, Fun K "_law_pick" "_law_pick" st_l_pick a__law_pick fd)
    (F__law_stock : ∃ fd : FuncData, Fun K "_law_stock" "_law_stock" st_l_stock a__law_stock fd)
    (F__law_listed : ∃ fd : FuncData, Fun K "_law_listed" "_law_listed" st_l_listed a__law_listed fd)
    (F__law_ahead : ∃ fd : FuncData, Fun K "_law_ahead" "_law_ahead" st_l_ahead a__law_ahead fd)
    (F__law_behind : ∃ fd : FuncData, Fun K "_law_behind" "_law_behind" st_l_behind a__law_behind fd)
    (F__law_word_right : ∃ fd : FuncData, Fun K "_law_word_right" "_law_word_right" st_l_word_right a__law_word_right fd)
    (F__law_all_right : ∃ fd : FuncData, Fun K "_law_all_right" "_law_all_right" st_l_all_right a__law_all_right fd)
    (F__law_heard : ∃ fd : FuncData, Fun K "_law_heard" "_law_heard" st_l_heard a__law_heard fd)
    (F__law_refused_right : ∃ fd : FuncData, Fun K "_law_refused_right" "_law_refused_right" st_l_refused_right a__law_refused_right fd)
    (F__law_many_right : ∃ fd : FuncData, Fun K "_law_many_right" "_law_many_right" st_l_many_right a__law_many_right fd)
    (F_law : ∃ fd : FuncData, Fun K "law" "law" st_law a_law fd)
    (h1 : h.get? v__law_refused_right = some (PySem.W.tabObj #[])) (h2 : h.get? v__law_many_right = some (PySem.W.tabObj #[])) (n12 : v__law_refused_right ≠ v__law_many_right)
    : LamX.LawAtS l w K CX0 10 63 "_law_script" mg fa h := by
  have ehfa := hfa.symm.trans (PySem.W.mg_of X G d_law)
  cases ehfa
  obtain ⟨fi_BadWord, G_BadWord⟩ := G_BadWord
  obtain ⟨fi_BadStock, G_BadStock⟩ := G_BadStock
  obtain ⟨fi_BadNumber, G_BadNumber⟩ := G_BadNumber
  obtain ⟨fi_Misfit, G_Misfit⟩ := G_Misfit
  obtain ⟨fi_TooMany, G_TooMany⟩ := G_TooMany
  obtain ⟨fd_is_integer, F_is_integer⟩ := F_is_integer
  obtain ⟨fd_is_within, F_is_within⟩ := F_is_within
  obtain ⟨fd_is_long_word, F_is_long_word⟩ := F_is_long_word
  obtain ⟨fd_is_rising, F_is_rising⟩ := F_is_rising
  obtain ⟨fd_is_word, F_is_word⟩ := F_is_word
  obtain ⟨fd_is_stock, F_is_stock⟩ := F_is_stock
  obtain ⟨fd_of_stock, F_of_stock⟩ := F_of_stock
  obtain ⟨fd_need_word, F_need_word⟩ := F_need_word
  obtain ⟨fd_need_stock, F_need_stock⟩ := F_need_stock
  obtain ⟨fd_need_number, F_need_number⟩ := F_need_number
  obtain ⟨fd_longer_words, F_longer_words⟩ := F_longer_words
  obtain ⟨fd_many_of_length, F_many_of_length⟩ := F_many_of_length
  obtain ⟨fd_list_words, F_list_words⟩ := F_list_words
  obtain ⟨fd_words_of, F_words_of⟩ := F_words_of
  obtain ⟨fd_need_word_of, F_need_word_of⟩ := F_need_word_of
  obtain ⟨fd_number_of_word, F_number_of_word⟩ := F_number_of_word
  obtain ⟨fd_word_of_number, F_word_of_number⟩ := F_word_of_number
  obtain ⟨fd_last_number, F_last_number⟩ := F_last_number
  obtain ⟨fd_word_number, F_word_number⟩ := F_word_number
  obtain ⟨fd_word_at, F_word_at⟩ := F_word_at
  obtain ⟨fd_next_word, F_next_word⟩ := F_next_word
  obtain ⟨fd__law_well, F__law_well⟩ := F__law_well
  obtain ⟨fd__law_dip, F__law_dip⟩ := F__law_dip
  obtain ⟨fd__law_pick, F__law_pick⟩ := F__law_pick
  obtain ⟨fd__law_stock, F__law_stock⟩ := F__law_stock
  obtain ⟨fd__law_listed, F__law_listed⟩ := F__law_listed
  obtain ⟨fd__law_ahead, F__law_ahead⟩ := F__law_ahead
  obtain ⟨fd__law_behind, F__law_behind⟩ := F__law_behind
  obtain ⟨fd__law_word_right, F__law_word_right⟩ := F__law_word_right
  obtain ⟨fd__law_all_right, F__law_all_right⟩ := F__law_all_right
  obtain ⟨fd__law_heard, F__law_heard⟩ := F__law_heard
  obtain ⟨fd__law_refused_right, F__law_refused_right⟩ := F__law_refused_right
  obtain ⟨fd__law_many_right, F__law_many_right⟩ := F__law_many_right
  obtain ⟨fd_law, F_law⟩ := F_law
  let cs : Nat → Addr := csF c_BadWord c_BadStock c_BadNumber c_Misfit c_TooMany
  have T : Blt mg := ⟨PySem.W.mg_none_of X G z_len, PySem.W.mg_none_of X G z_isinstance, PySem.W.mg_none_of X G z_int, PySem.W.mg_none_of X G z_bool, PySem.W.mg_none_of X G z_str, PySem.W.mg_none_of X G z_list, PySem.W.mg_none_of X G z_tuple, PySem.W.mg_none_of X G z_all, PySem.W.mg_none_of X G z_any, PySem.W.mg_none_of X G z_zip, PySem.W.mg_none_of X G z_abs, PySem.W.mg_none_of X G z_range, PySem.W.mg_none_of X G z_enumerate, PySem.W.mg_none_of X G z_sorted⟩
  have TC : Cst mg := ⟨⟨_, PySem.W.mg_of X G k_LONGEST⟩, ⟨_, PySem.W.mg_of X G k_MOST_OF_ONE_LENGTH⟩⟩
  have TE : Errs K mg cs := by
    refine ⟨PySem.W.mg_of X G n_BadWord, PySem.W.mg_of X G n_BadStock, PySem.W.mg_of X G n_BadNumber, PySem.W.mg_of X G n_Misfit, PySem.W.mg_of X G n_TooMany, fun i hi => ?_, fun i hi => ?_, p_TooMany_what, p_TooMany_most, fun i j hi hj => ?_⟩
    · match i, hi with
      | 0, _ => exact x_BadWord
      | 1, _ => exact x_BadStock
      | 2, _ => exact x_BadNumber
      | 3, _ => exact x_Misfit
      | 4, _ => exact x_TooMany
      | i + 5, hi => exact absurd hi (by omega)
    · match i, hi with
      | 0, _ => exact p_BadWord_part
      | 1, _ => exact p_BadStock_part
      | 2, _ => exact p_BadNumber_part
      | 3, _ => exact p_Misfit_part
      | i + 4, hi => exact absurd hi (by omega)
    · match i, j, hi, hj with
      | 0, 0, _, _ => exact exm_by o_BadWord j_BadWord m_BadWord_BadWord
      | 0, 1, _, _ => exact exm_by o_BadStock j_BadStock m_BadWord_BadStock
      | 0, 2, _, _ => exact exm_by o_BadNumber j_BadNumber m_BadWord_BadNumber
      | 0, 3, _, _ => exact exm_by o_Misfit j_Misfit m_BadWord_Misfit
      | 0, 4, _, _ => exact exm_by o_TooMany j_TooMany m_BadWord_TooMany
      | 1, 0, _, _ => exact exm_by o_BadWord j_BadWord m_BadStock_BadWord
      | 1, 1, _, _ => exact exm_by o_BadStock j_BadStock m_BadStock_BadStock
      | 1, 2, _, _ => exact exm_by o_BadNumber j_BadNumber m_BadStock_BadNumber
      | 1, 3, _, _ => exact exm_by o_Misfit j_Misfit m_BadStock_Misfit
      | 1, 4, _, _ => exact exm_by o_TooMany j_TooMany m_BadStock_TooMany
      | 2, 0, _, _ => exact exm_by o_BadWord j_BadWord m_BadNumber_BadWord
      | 2, 1, _, _ => exact exm_by o_BadStock j_BadStock m_BadNumber_BadStock
      | 2, 2, _, _ => exact exm_by o_BadNumber j_BadNumber m_BadNumber_BadNumber
      | 2, 3, _, _ => exact exm_by o_Misfit j_Misfit m_BadNumber_Misfit
      | 2, 4, _, _ => exact exm_by o_TooMany j_TooMany m_BadNumber_TooMany
      | 3, 0, _, _ => exact exm_by o_BadWord j_BadWord m_Misfit_BadWord
      | 3, 1, _, _ => exact exm_by o_BadStock j_BadStock m_Misfit_BadStock
      | 3, 2, _, _ => exact exm_by o_BadNumber j_BadNumber m_Misfit_BadNumber
      | 3, 3, _, _ => exact exm_by o_Misfit j_Misfit m_Misfit_Misfit
      | 3, 4, _, _ => exact exm_by o_TooMany j_TooMany m_Misfit_TooMany
      | 4, 0, _, _ => exact exm_by o_BadWord j_BadWord m_TooMany_BadWord
      | 4, 1, _, _ => exact exm_by o_BadStock j_BadStock m_TooMany_BadStock
      | 4, 2, _, _ => exact exm_by o_BadNumber j_BadNumber m_TooMany_BadNumber
      | 4, 3, _, _ => exact exm_by o_Misfit j_Misfit m_TooMany_Misfit
      | 4, 4, _, _ => exact exm_by o_TooMany j_TooMany m_TooMany_TooMany
      | i + 5, _, hi, _ => exact absurd hi (by omega)
      | _, j + 5, _, hj => exact absurd hj (by omega)
  have b_BadWord : Binds K fi_BadWord ["self", "part"] [] := (G_BadWord.binds (ps := ["self", "part"]) fun _ _ _ _ _ _ us hl => match us, hl with | [_, _], _ => rfl)
  have b_BadStock : Binds K fi_BadStock ["self", "part"] [] := (G_BadStock.binds (ps := ["self", "part"]) fun _ _ _ _ _ _ us hl => match us, hl with | [_, _], _ => rfl)
  have b_BadNumber : Binds K fi_BadNumber ["self", "part"] [] := (G_BadNumber.binds (ps := ["self", "part"]) fun _ _ _ _ _ _ us hl => match us, hl with | [_, _], _ => rfl)
  have b_Misfit : Binds K fi_Misfit ["self", "part"] [] := (G_Misfit.binds (ps := ["self", "part"]) fun _ _ _ _ _ _ us hl => match us, hl with | [_, _], _ => rfl)
  have b_TooMany : Binds K fi_TooMany ["self", "what", "most"] [] := (G_TooMany.binds (ps := ["self", "what", "most"]) fun _ _ _ _ _ _ us hl => match us, hl with | [_, _, _], _ => rfl)
  have b_is_integer : Binds K fd_is_integer ["value"] [] := (F_is_integer.binds (ps := ["value"]) fun _ _ _ _ _ _ us hl => match us, hl with | [_], _ => rfl)
  have b_is_within : Binds K fd_is_within ["value", "least", "most"] [] := (F_is_within.binds (ps := ["value", "least", "most"]) fun _ _ _ _ _ _ us hl => match us, hl with | [_, _, _], _ => rfl)
  have b_is_long_word : Binds K fd_is_long_word ["value"] [] := (F_is_long_word.binds (ps := ["value"]) fun _ _ _ _ _ _ us hl => match us, hl with | [_], _ => rfl)
  have b_is_rising : Binds K fd_is_rising ["signs"] [] := (F_is_rising.binds (ps := ["signs"]) fun _ _ _ _ _ _ us hl => match us, hl with | [_], _ => rfl)
  have b_is_word : Binds K fd_is_word ["value"] [] := (F_is_word.binds (ps := ["value"]) fun _ _ _ _ _ _ us hl => match us, hl with | [_], _ => rfl)
  have b_is_stock : Binds K fd_is_stock ["value"] [] := (F_is_stock.binds (ps := ["value"]) fun _ _ _ _ _ _ us hl => match us, hl with | [_], _ => rfl)
  have b_of_stock : Binds K fd_of_stock ["word", "stock"] [] := (F_of_stock.binds (ps := ["word", "stock"]) fun _ _ _ _ _ _ us hl => match us, hl with | [_, _], _ => rfl)
  have b_need_word : Binds K fd_need_word ["value", "part"] [] := (F_need_word.binds (ps := ["value", "part"]) fun _ _ _ _ _ _ us hl => match us, hl with | [_, _], _ => rfl)
  have b_need_stock : Binds K fd_need_stock ["value", "part"] [] := (F_need_stock.binds (ps := ["value", "part"]) fun _ _ _ _ _ _ us hl => match us, hl with | [_, _], _ => rfl)
  have b_need_number : Binds K fd_need_number ["value", "part", "least", "most"] [] := (F_need_number.binds (ps := ["value", "part", "least", "most"]) fun _ _ _ _ _ _ us hl => match us, hl with | [_, _, _, _], _ => rfl)
  have b_longer_words : Binds K fd_longer_words ["words", "stock"] [] := (F_longer_words.binds (ps := ["words", "stock"]) fun _ _ _ _ _ _ us hl => match us, hl with | [_, _], _ => rfl)
  have b_many_of_length : Binds K fd_many_of_length ["stock", "length"] [] := (F_many_of_length.binds (ps := ["stock", "length"]) fun _ _ _ _ _ _ us hl => match us, hl with | [_, _], _ => rfl)
  have b_list_words : Binds K fd_list_words ["stock", "most"] [] := (F_list_words.binds (ps := ["stock", "most"]) fun _ _ _ _ _ _ us hl => match us, hl with | [_, _], _ => rfl)
  have b_words_of : Binds K fd_words_of ["stock", "most"] [] := (F_words_of.binds (ps := ["stock", "most"]) fun _ _ _ _ _ _ us hl => match us, hl with | [_, _], _ => rfl)
  have b_need_word_of : Binds K fd_need_word_of ["word", "stock"] [] := (F_need_word_of.binds (ps := ["word", "stock"]) fun _ _ _ _ _ _ us hl => match us, hl with | [_, _], _ => rfl)
  have b_number_of_word : Binds K fd_number_of_word ["word", "stock"] [] := (F_number_of_word.binds (ps := ["word", "stock"]) fun _ _ _ _ _ _ us hl => match us, hl with | [_, _], _ => rfl)
  have b_word_of_number : Binds K fd_word_of_number ["number", "stock"] [] := (F_word_of_number.binds (ps := ["number", "stock"]) fun _ _ _ _ _ _ us hl => match us, hl with | [_, _], _ => rfl)
  have b_last_number : Binds K fd_last_number ["stock"] [] := (F_last_number.binds (ps := ["stock"]) fun _ _ _ _ _ _ us hl => match us, hl with | [_], _ => rfl)
  have b_word_number : Binds K fd_word_number ["word", "stock"] [] := (F_word_number.binds (ps := ["word", "stock"]) fun _ _ _ _ _ _ us hl => match us, hl with | [_, _], _ => rfl)
  have b_word_at : Binds K fd_word_at ["stock", "number"] [] := (F_word_at.binds (ps := ["stock", "number"]) fun _ _ _ _ _ _ us hl => match us, hl with | [_, _], _ => rfl)
  have b_next_word : Binds K fd_next_word ["word", "stock"] [] := (F_next_word.binds (ps := ["word", "stock"]) fun _ _ _ _ _ _ us hl => match us, hl with | [_, _], _ => rfl)
  have b__law_well : Binds K fd__law_well ["_law_script"] [] := (F__law_well.binds (ps := ["_law_script"]) fun _ _ _ _ _ _ us hl => match us, hl with | [_], _ => rfl)
  have b__law_dip : Binds K fd__law_dip ["_law_well_here", "_law_many"] [] := (F__law_dip.binds (ps := ["_law_well_here", "_law_many"]) fun _ _ _ _ _ _ us hl => match us, hl with | [_, _], _ => rfl)
  have b__law_pick : Binds K fd__law_pick ["_law_well_here", "_law_some"] [] := (F__law_pick.binds (ps := ["_law_well_here", "_law_some"]) fun _ _ _ _ _ _ us hl => match us, hl with | [_, _], _ => rfl)
  have b__law_stock : Binds K fd__law_stock ["_law_well_here", "_law_many"] [] := (F__law_stock.binds (ps := ["_law_well_here", "_law_many"]) fun _ _ _ _ _ _ us hl => match us, hl with | [_, _], _ => rfl)
  have b__law_listed : Binds K fd__law_listed ["_law_stock_here", "_law_most"] [] := (F__law_listed.binds (ps := ["_law_stock_here", "_law_most"]) fun _ _ _ _ _ _ us hl => match us, hl with | [_, _], _ => rfl)
  have b__law_ahead : Binds K fd__law_ahead ["_law_word", "_law_stock_here"] [] := (F__law_ahead.binds (ps := ["_law_word", "_law_stock_here"]) fun _ _ _ _ _ _ us hl => match us, hl with | [_, _], _ => rfl)
  have b__law_behind : Binds K fd__law_behind ["_law_word", "_law_stock_here"] [] := (F__law_behind.binds (ps := ["_law_word", "_law_stock_here"]) fun _ _ _ _ _ _ us hl => match us, hl with | [_, _], _ => rfl)
  have b__law_word_right : Binds K fd__law_word_right ["_law_word", "_law_stock_here"] [] := (F__law_word_right.binds (ps := ["_law_word", "_law_stock_here"]) fun _ _ _ _ _ _ us hl => match us, hl with | [_, _], _ => rfl)
  have b__law_all_right : Binds K fd__law_all_right ["_law_stock_here", "_law_most"] [] := (F__law_all_right.binds (ps := ["_law_stock_here", "_law_most"]) fun _ _ _ _ _ _ us hl => match us, hl with | [_, _], _ => rfl)
  have b__law_heard : Binds K fd__law_heard ["_law_ask"] [] := (F__law_heard.binds (ps := ["_law_ask"]) fun _ _ _ _ _ _ us hl => match us, hl with | [_], _ => rfl)
  have b__law_refused_right : Binds K fd__law_refused_right ["_law_well_here", "_law_stock_here"] [] := (F__law_refused_right.binds (ps := ["_law_well_here", "_law_stock_here"]) fun _ _ _ _ _ _ us hl => match us, hl with | [_, _], _ => rfl)
  have b__law_many_right : Binds K fd__law_many_right ["_law_stock_here"] [] := (F__law_many_right.binds (ps := ["_law_stock_here"]) fun _ _ _ _ _ _ us hl => match us, hl with | [_], _ => rfl)
  have m_heard := PySem.W.mg_of X G d__law_heard
  refine ⟨fd_law, [(u__law_refused_right, v__law_refused_right), (u__law_many_right, v__law_many_right)], spLaw K v__law_refused_right v__law_many_right, fun p hp => ?_, fun p hp => ?_, fun p hp => ?_, ?_, ?_, fun base KB0 GB TB => ?_⟩
  · rcases List.mem_cons.mp hp with rfl | hp
    · exact h1
    · rw [List.mem_singleton.mp hp]
      exact h2
  · rcases List.mem_cons.mp hp with rfl | hp
    · exact Option.isNone_iff_eq_none.mp tn__law_refused_right
    · rw [List.mem_singleton.mp hp]
      exact Option.isNone_iff_eq_none.mp tn__law_many_right
  · rcases List.mem_cons.mp hp with rfl | hp
    · exact PySem.W.codeHd_of_K X tc__law_refused_right
    · rw [List.mem_singleton.mp hp]
      exact PySem.W.codeHd_of_K X tc__law_many_right
  · obtain ⟨oc, od, kV, doc, pm, an, cdv, ct, osl, rfl, lk, hcd⟩ := F_law.ex
    exact fun s v => .of_eq rfl
  · intro H a ns hl _ hT hS
    refine ⟨a, ns, rfl, hS, hl, fun p hp => ?_, fun _ => rfl⟩
    rcases List.mem_cons.mp hp with rfl | hp
    · exact .nil (hT _ List.mem_cons_self)
    · rw [List.mem_singleton.mp hp]
      exact .nil (hT _ (List.mem_cons_of_mem _ List.mem_cons_self))
  have E1_BadWord : Rs1 l.prog w K mg base "BadWord" (cs 0) "part" := ⟨PySem.W.mg_of X G n_BadWord, o_BadWord, p_BadWord_part, f_BadWord, fi_BadWord, i_BadWord, t_BadWord, ok_i_BadWord G_BadWord, b_BadWord⟩
  have E1_BadStock : Rs1 l.prog w K mg base "BadStock" (cs 1) "part" := ⟨PySem.W.mg_of X G n_BadStock, o_BadStock, p_BadStock_part, f_BadStock, fi_BadStock, i_BadStock, t_BadStock, ok_i_BadStock G_BadStock, b_BadStock⟩
  have E1_BadNumber : Rs1 l.prog w K mg base "BadNumber" (cs 2) "part" := ⟨PySem.W.mg_of X G n_BadNumber, o_BadNumber, p_BadNumber_part, f_BadNumber, fi_BadNumber, i_BadNumber, t_BadNumber, ok_i_BadNumber G_BadNumber, b_BadNumber⟩
  have E1_Misfit : Rs1 l.prog w K mg base "Misfit" (cs 3) "part" := ⟨PySem.W.mg_of X G n_Misfit, o_Misfit, p_Misfit_part, f_Misfit, fi_Misfit, i_Misfit, t_Misfit, ok_i_Misfit G_Misfit, b_Misfit⟩
  have E1_TooMany : Rs2 l.prog w K mg base "TooMany" (cs 4) "what" "most" := ⟨PySem.W.mg_of X G n_TooMany, o_TooMany, p_TooMany_what, p_TooMany_most, f_TooMany, fi_TooMany, i_TooMany, t_TooMany, ok_i_TooMany G_TooMany, b_TooMany⟩
  have C_is_integer : Cal l.prog w K mg base 1 "is_integer" st_is_integer ["value"] (spIsInteger K) := ⟨a_is_integer, fd_is_integer, F_is_integer, PySem.W.mg_of X G d_is_integer, b_is_integer, ok_is_integer F_is_integer T⟩
  have C_is_within : Cal l.prog w K mg base 2 "is_within" st_is_within ["value", "least", "most"] (spIsWithin K) := ⟨a_is_within, fd_is_within, F_is_within, PySem.W.mg_of X G d_is_within, b_is_within, ok_is_within F_is_within T C_is_integer⟩
  have C_is_long_word : Cal l.prog w K mg base 1 "is_long_word" st_is_long_word ["value"] (spIsLongWord K) := ⟨a_is_long_word, fd_is_long_word, F_is_long_word, PySem.W.mg_of X G d_is_long_word, b_is_long_word, ok_is_long_word F_is_long_word T⟩
  have C_is_rising : Cal l.prog w K mg base 1 "is_rising" st_is_rising ["signs"] (spIsRising) := ⟨a_is_rising, fd_is_rising, F_is_rising, PySem.W.mg_of X G d_is_rising, b_is_rising, ok_is_rising F_is_rising T⟩
  have C_is_word : Cal l.prog w K mg base 2 "is_word" st_is_word ["value"] (spIsWord K) := ⟨a_is_word, fd_is_word, F_is_word, PySem.W.mg_of X G d_is_word, b_is_word, ok_is_word F_is_word T C_is_long_word⟩
  have C_is_stock : Cal l.prog w K mg base 2 "is_stock" st_is_stock ["value"] (spIsStock K) := ⟨a_is_stock, fd_is_stock, F_is_stock, PySem.W.mg_of X G d_is_stock, b_is_stock, ok_is_stock F_is_stock T C_is_long_word C_is_rising⟩
  have C_of_stock : Cal l.prog w K mg base 2 "of_stock" st_of_stock ["word", "stock"] (spOfStock) := ⟨a_of_stock, fd_of_stock, F_of_stock, PySem.W.mg_of X G d_of_stock, b_of_stock, ok_of_stock F_of_stock T C_is_long_word⟩
  have C_need_word : CalX l.prog w K mg base 3 "need_word" st_need_word ["value", "part"] (spNeedWord K cs) := ⟨a_need_word, fd_need_word, F_need_word, PySem.W.mg_of X G d_need_word, b_need_word, ok_need_word F_need_word E1_BadWord C_is_word⟩
  have C_need_stock : CalX l.prog w K mg base 3 "need_stock" st_need_stock ["value", "part"] (spNeedStock K cs) := ⟨a_need_stock, fd_need_stock, F_need_stock, PySem.W.mg_of X G d_need_stock, b_need_stock, ok_need_stock F_need_stock E1_BadStock C_is_stock⟩
  have C_need_number : CalX l.prog w K mg base 3 "need_number" st_need_number ["value", "part", "least", "most"] (spNeedNumber K cs) := ⟨a_need_number, fd_need_number, F_need_number, PySem.W.mg_of X G d_need_number, b_need_number, ok_need_number F_need_number E1_BadNumber C_is_within⟩
  have C_longer_words : Cal l.prog w K mg base 1 "longer_words" st_longer_words ["words", "stock"] (spLonger K) := ⟨a_longer_words, fd_longer_words, F_longer_words, PySem.W.mg_of X G d_longer_words, b_longer_words, ok_longer_words F_longer_words ⟩
  have C_many_of_length : Cal l.prog w K mg base 1 "many_of_length" st_many_of_length ["stock", "length"] (spManyOf) := ⟨a_many_of_length, fd_many_of_length, F_many_of_length, PySem.W.mg_of X G d_many_of_length, b_many_of_length, ok_many_of_length F_many_of_length T⟩
  have C_list_words : Cal l.prog w K mg base 2 "list_words" st_list_words ["stock", "most"] (spListWords K) := ⟨a_list_words, fd_list_words, F_list_words, PySem.W.mg_of X G d_list_words, b_list_words, ok_list_words F_list_words T C_longer_words⟩
  have C_words_of : CalX l.prog w K mg base 4 "words_of" st_words_of ["stock", "most"] (spWordsOf K cs) := ⟨a_words_of, fd_words_of, F_words_of, PySem.W.mg_of X G d_words_of, b_words_of, ok_words_of F_words_of T TC C_need_stock C_need_number E1_TooMany C_many_of_length C_list_words⟩
  have C_need_word_of : CalX l.prog w K mg base 4 "need_word_of" st_need_word_of ["word", "stock"] (spNeedWordOf K cs) := ⟨a_need_word_of, fd_need_word_of, F_need_word_of, PySem.W.mg_of X G d_need_word_of, b_need_word_of, ok_need_word_of F_need_word_of C_need_stock C_need_word E1_Misfit C_of_stock⟩
  have C_number_of_word : Cal l.prog w K mg base 1 "number_of_word" st_number_of_word ["word", "stock"] (spNumOf) := ⟨a_number_of_word, fd_number_of_word, F_number_of_word, PySem.W.mg_of X G d_number_of_word, b_number_of_word, ok_number_of_word F_number_of_word T⟩
  have C_word_of_number : Cal l.prog w K mg base 1 "word_of_number" st_word_of_number ["number", "stock"] (spWordOf) := ⟨a_word_of_number, fd_word_of_number, F_word_of_number, PySem.W.mg_of X G d_word_of_number, b_word_of_number, ok_word_of_number F_word_of_number T⟩
  have C_last_number : Cal l.prog w K mg base 2 "last_number" st_last_number ["stock"] (spLast) := ⟨a_last_number, fd_last_number, F_last_number, PySem.W.mg_of X G d_last_number, b_last_number, ok_last_number F_last_number TC C_number_of_word⟩
  have C_word_number : CalX l.prog w K mg base 5 "word_number" st_word_number ["word", "stock"] (spWordNumber K cs) := ⟨a_word_number, fd_word_number, F_word_number, PySem.W.mg_of X G d_word_number, b_word_number, ok_word_number F_word_number C_need_word_of C_number_of_word⟩
  have C_word_at : CalX l.prog w K mg base 4 "word_at" st_word_at ["stock", "number"] (spWordAt K cs) := ⟨a_word_at, fd_word_at, F_word_at, PySem.W.mg_of X G d_word_at, b_word_at, ok_word_at F_word_at C_need_stock C_need_number C_last_number C_word_of_number⟩
  have C_next_word : CalX l.prog w K mg base 5 "next_word" st_next_word ["word", "stock"] (spNextWord K cs) := ⟨a_next_word, fd_next_word, F_next_word, PySem.W.mg_of X G d_next_word, b_next_word, ok_next_word F_next_word C_need_word_of C_number_of_word C_last_number C_word_of_number⟩
  have C__law_well : Cal l.prog w K mg base 1 "_law_well" st_l_well ["_law_script"] (spPen K) := ⟨a__law_well, fd__law_well, F__law_well, PySem.W.mg_of X G d__law_well, b__law_well, ok_pen F__law_well T⟩
  have C__law_dip : Cal l.prog w K mg base 1 "_law_dip" st_l_dip ["_law_well_here", "_law_many"] (spDraw K) := ⟨a__law_dip, fd__law_dip, F__law_dip, PySem.W.mg_of X G d__law_dip, b__law_dip, ok_draw F__law_dip T⟩
  have C__law_pick : Cal l.prog w K mg base 2 "_law_pick" st_l_pick ["_law_well_here", "_law_some"] (spPick K) := ⟨a__law_pick, fd__law_pick, F__law_pick, PySem.W.mg_of X G d__law_pick, b__law_pick, ok_pick F__law_pick T C__law_dip⟩
  have C__law_stock : Cal l.prog w K mg base 3 "_law_stock" st_l_stock ["_law_well_here", "_law_many"] (spStock K) := ⟨a__law_stock, fd__law_stock, F__law_stock, PySem.W.mg_of X G d__law_stock, b__law_stock, ok_stock F__law_stock T C__law_dip C__law_pick⟩
  have C__law_listed : Cal l.prog w K mg base 1 "_law_listed" st_l_listed ["_law_stock_here", "_law_most"] (spListed K) := ⟨a__law_listed, fd__law_listed, F__law_listed, PySem.W.mg_of X G d__law_listed, b__law_listed, ok_listed F__law_listed T⟩
  have C__law_ahead : Cal l.prog w K mg base 1 "_law_ahead" st_l_ahead ["_law_word", "_law_stock_here"] (spAhead) := ⟨a__law_ahead, fd__law_ahead, F__law_ahead, PySem.W.mg_of X G d__law_ahead, b__law_ahead, ok_ahead F__law_ahead T⟩
  have C__law_behind : Cal l.prog w K mg base 1 "_law_behind" st_l_behind ["_law_word", "_law_stock_here"] (spBehind K) := ⟨a__law_behind, fd__law_behind, F__law_behind, PySem.W.mg_of X G d__law_behind, b__law_behind, ok_behind F__law_behind T⟩
  have C__law_word_right : Cal l.prog w K mg base 6 "_law_word_right" st_l_word_right ["_law_word", "_law_stock_here"] (spWordRight) := ⟨a__law_word_right, fd__law_word_right, F__law_word_right, PySem.W.mg_of X G d__law_word_right, b__law_word_right, ok_word_right F__law_word_right T C_word_number C_word_at C_next_word C_is_word C_of_stock C_is_stock C__law_ahead C__law_behind⟩
  have C__law_all_right : Cal l.prog w K mg base 6 "_law_all_right" st_l_all_right ["_law_stock_here", "_law_most"] (spAllRight) := ⟨a__law_all_right, fd__law_all_right, F__law_all_right, PySem.W.mg_of X G d__law_all_right, b__law_all_right, ok_all_right F__law_all_right T C_words_of C_word_number C_word_at C_next_word C__law_listed⟩
  have C__law_refused_right : Cal l.prog w K mg base 9 "_law_refused_right" st_l_refused_right ["_law_well_here", "_law_stock_here"] (spRefused v__law_refused_right v__law_many_right) := ⟨a__law_refused_right, fd__law_refused_right, F__law_refused_right, PySem.W.mg_of X G d__law_refused_right, b__law_refused_right, ok_refused_right F__law_refused_right d__law_refused_right tb__law_refused_right T TE F__law_heard m_heard (TB _ List.mem_cons_self) n12 C_words_of C_word_number C_word_at C_next_word C_is_word C_is_stock C__law_ahead C__law_pick⟩
  have C__law_many_right : Cal l.prog w K mg base 9 "_law_many_right" st_l_many_right ["_law_stock_here"] (spManyRight v__law_refused_right v__law_many_right) := ⟨a__law_many_right, fd__law_many_right, F__law_many_right, PySem.W.mg_of X G d__law_many_right, b__law_many_right, ok_many_right F__law_many_right d__law_many_right tb__law_many_right T TE F__law_heard m_heard (TB _ (List.mem_cons_of_mem _ List.mem_cons_self)) n12 C_words_of⟩
  exact ok_law F_law T C__law_well C__law_dip C__law_pick C__law_stock C__law_all_right C__law_word_right C__law_refused_right C__law_many_right
end K4
open PySem PySem.W PyProof.Rows
set_option maxHeartbeats 0 in
theorem PySem.Challenge.cw_foretongue_k04_words_of_stocks_numbered_holds : PySem.Challenge.rw_foretongue_k04_words_of_stocks_numbered.Holds := by
  w_on; o_law; k_head; (case hw => w_witness2)
  k_fill
  refine LamX.walk_ofTs (n := 63) (k := 10) (x := "_law_script") (CX := fun _ => L2.CX0) rfl (by decide) rfl ⟨rfl, by decide, by decide⟩ (fun w h Y => PySem.W.km_in_of Y) ?F fun _ _ _ _ _ z => z
  case F =>
    intro w mg fa h Y KX G hmg
    have hT := PySem.W.km_tabs_of Y
    refine' K4.all_mk (u__law_refused_right := 327) (v__law_refused_right := 325) (u__law_many_right := 334) (v__law_many_right := 330) KX G hmg ?z_len ?z_isinstance ?z_int ?z_bool ?z_str ?z_list ?z_tuple ?z_all ?z_any ?z_zip ?z_abs ?z_range ?z_enumerate ?z_sorted ?n_TongueError ?k_LONGEST ?k_MOST_OF_ONE_LENGTH ?n_BadWord ?o_BadWord ?i_BadWord ?t_BadWord ?G_BadWord ?j_BadWord ?x_BadWord ?p_BadWord_part ?n_BadStock ?o_BadStock ?i_BadStock ?t_BadStock ?G_BadStock ?j_BadStock ?x_BadStock ?p_BadStock_part ?n_BadNumber ?o_BadNumber ?i_BadNumber ?t_BadNumber ?G_BadNumber ?j_BadNumber ?x_BadNumber ?p_BadNumber_part ?n_Misfit ?o_Misfit ?i_Misfit ?t_Misfit ?G_Misfit ?j_Misfit ?x_Misfit ?p_Misfit_part ?n_TooMany ?o_TooMany ?i_TooMany ?t_TooMany ?G_TooMany ?j_TooMany ?x_TooMany ?p_TooMany_what ?p_TooMany_most ?m_BadWord_BadWord ?m_BadWord_BadStock ?m_BadWord_BadNumber ?m_BadWord_Misfit ?m_BadWord_TooMany ?m_BadStock_BadWord ?m_BadStock_BadStock ?m_BadStock_BadNumber ?m_BadStock_Misfit ?m_BadStock_TooMany ?m_BadNumber_BadWord ?m_BadNumber_BadStock ?m_BadNumber_BadNumber ?m_BadNumber_Misfit ?m_BadNumber_TooMany ?m_Misfit_BadWord ?m_Misfit_BadStock ?m_Misfit_BadNumber ?m_Misfit_Misfit ?m_Misfit_TooMany ?m_TooMany_BadWord ?m_TooMany_BadStock ?m_TooMany_BadNumber ?m_TooMany_Misfit ?m_TooMany_TooMany ?tb__law_refused_right ?tc__law_refused_right ?tn__law_refused_right ?tb__law_many_right ?tc__law_many_right ?tn__law_many_right ?d_is_integer ?d_is_within ?d_is_long_word ?d_is_rising ?d_is_word ?d_is_stock ?d_of_stock ?d_need_word ?d_need_stock ?d_need_number ?d_longer_words ?d_many_of_length ?d_list_words ?d_words_of ?d_need_word_of ?d_number_of_word ?d_word_of_number ?d_last_number ?d_word_number ?d_word_at ?d_next_word ?d__law_well ?d__law_dip ?d__law_pick ?d__law_stock ?d__law_listed ?d__law_ahead ?d__law_behind ?d__law_word_right ?d__law_all_right ?d__law_heard ?d__law_refused_right ?d__law_many_right ?d_law ?F_is_integer ?F_is_within ?F_is_long_word ?F_is_rising ?F_is_word ?F_is_stock ?F_of_stock ?F_need_word ?F_need_stock ?F_need_number ?F_longer_words ?F_many_of_length ?F_list_words ?F_words_of ?F_need_word_of ?F_number_of_word ?F_word_of_number ?F_last_number ?F_word_number ?F_word_at ?F_next_word ?F__law_well ?F__law_dip ?F__law_pick ?F__law_stock ?F__law_listed ?F__law_ahead ?F__law_behind ?F__law_word_right ?F__law_all_right ?F__law_heard ?F__law_refused_right ?F__law_many_right ?F_law (hT 325 (by decide)) (hT 330 (by decide)) (by decide)
    (case z_len => k_is)
    (case z_isinstance => k_is)
    (case z_int => k_is)
    (case z_bool => k_is)
    (case z_str => k_is)
    (case z_list => k_is)
    (case z_tuple => k_is)
    (case z_all => k_is)
    (case z_any => k_is)
    (case z_zip => k_is)
    (case z_abs => k_is)
    (case z_range => k_is)
    (case z_enumerate => k_is)
    (case z_sorted => k_is)
    (case n_TongueError => k_is)
    (case k_LONGEST => k_is)
    (case k_MOST_OF_ONE_LENGTH => k_is)
    (case n_BadWord => k_is)
    (case o_BadWord => refine' ⟨⟨_, _, _, _, [.ref _, .type "ValueError", .type "Exception", .type "BaseException", .type "object"], _, _, _, _, _, _, _, _, _, _, ?x_o_BadWord, ?r_o_BadWord⟩, ?s_o_BadWord, ?e_o_BadWord, ?t_o_BadWord, ?k_o_BadWord⟩; (case x_o_BadWord => exact rfl); (case r_o_BadWord => decide +kernel); (case s_o_BadWord => k_is); (case e_o_BadWord => k_is); (case t_o_BadWord => k_is); (case k_o_BadWord => k_is))
    (case i_BadWord => k_is)
    (case t_BadWord => k_is)
    (case G_BadWord => refine' ⟨_, L2.fun_mk ?l_G_BadWord ?c_G_BadWord ?k_G_BadWord⟩; (case l_G_BadWord => k_is); (case c_G_BadWord => k_is); (case k_G_BadWord => k_is))
    (case j_BadWord => k_is)
    (case x_BadWord => refine' ⟨?a_x_BadWord, ?b_x_BadWord, ?d_x_BadWord, ?e_x_BadWord⟩; (case a_x_BadWord => k_is); (case b_x_BadWord => k_is); (case d_x_BadWord => k_is); (case e_x_BadWord => k_is))
    (case p_BadWord_part => k_is)
    (case n_BadStock => k_is)
    (case o_BadStock => refine' ⟨⟨_, _, _, _, [.ref _, .type "ValueError", .type "Exception", .type "BaseException", .type "object"], _, _, _, _, _, _, _, _, _, _, ?x_o_BadStock, ?r_o_BadStock⟩, ?s_o_BadStock, ?e_o_BadStock, ?t_o_BadStock, ?k_o_BadStock⟩; (case x_o_BadStock => exact rfl); (case r_o_BadStock => decide +kernel); (case s_o_BadStock => k_is); (case e_o_BadStock => k_is); (case t_o_BadStock => k_is); (case k_o_BadStock => k_is))
    (case i_BadStock => k_is)
    (case t_BadStock => k_is)
    (case G_BadStock => refine' ⟨_, L2.fun_mk ?l_G_BadStock ?c_G_BadStock ?k_G_BadStock⟩; (case l_G_BadStock => k_is); (case c_G_BadStock => k_is); (case k_G_BadStock => k_is))
    (case j_BadStock => k_is)
    (case x_BadStock => refine' ⟨?a_x_BadStock, ?b_x_BadStock, ?d_x_BadStock, ?e_x_BadStock⟩; (case a_x_BadStock => k_is); (case b_x_BadStock => k_is); (case d_x_BadStock => k_is); (case e_x_BadStock => k_is))
    (case p_BadStock_part => k_is)
    (case n_BadNumber => k_is)
    (case o_BadNumber => refine' ⟨⟨_, _, _, _, [.ref _, .type "ValueError", .type "Exception", .type "BaseException", .type "object"], _, _, _, _, _, _, _, _, _, _, ?x_o_BadNumber, ?r_o_BadNumber⟩, ?s_o_BadNumber, ?e_o_BadNumber, ?t_o_BadNumber, ?k_o_BadNumber⟩; (case x_o_BadNumber => exact rfl); (case r_o_BadNumber => decide +kernel); (case s_o_BadNumber => k_is); (case e_o_BadNumber => k_is); (case t_o_BadNumber => k_is); (case k_o_BadNumber => k_is))
    (case i_BadNumber => k_is)
    (case t_BadNumber => k_is)
    (case G_BadNumber => refine' ⟨_, L2.fun_mk ?l_G_BadNumber ?c_G_BadNumber ?k_G_BadNumber⟩; (case l_G_BadNumber => k_is); (case c_G_BadNumber => k_is); (case k_G_BadNumber => k_is))
    (case j_BadNumber => k_is)
    (case x_BadNumber => refine' ⟨?a_x_BadNumber, ?b_x_BadNumber, ?d_x_BadNumber, ?e_x_BadNumber⟩; (case a_x_BadNumber => k_is); (case b_x_BadNumber => k_is); (case d_x_BadNumber => k_is); (case e_x_BadNumber => k_is))
    (case p_BadNumber_part => k_is)
    (case n_Misfit => k_is)
    (case o_Misfit => refine' ⟨⟨_, _, _, _, [.ref _, .type "ValueError", .type "Exception", .type "BaseException", .type "object"], _, _, _, _, _, _, _, _, _, _, ?x_o_Misfit, ?r_o_Misfit⟩, ?s_o_Misfit, ?e_o_Misfit, ?t_o_Misfit, ?k_o_Misfit⟩; (case x_o_Misfit => exact rfl); (case r_o_Misfit => decide +kernel); (case s_o_Misfit => k_is); (case e_o_Misfit => k_is); (case t_o_Misfit => k_is); (case k_o_Misfit => k_is))
    (case i_Misfit => k_is)
    (case t_Misfit => k_is)
    (case G_Misfit => refine' ⟨_, L2.fun_mk ?l_G_Misfit ?c_G_Misfit ?k_G_Misfit⟩; (case l_G_Misfit => k_is); (case c_G_Misfit => k_is); (case k_G_Misfit => k_is))
    (case j_Misfit => k_is)
    (case x_Misfit => refine' ⟨?a_x_Misfit, ?b_x_Misfit, ?d_x_Misfit, ?e_x_Misfit⟩; (case a_x_Misfit => k_is); (case b_x_Misfit => k_is); (case d_x_Misfit => k_is); (case e_x_Misfit => k_is))
    (case p_Misfit_part => k_is)
    (case n_TooMany => k_is)
    (case o_TooMany => refine' ⟨⟨_, _, _, _, [.ref _, .type "ValueError", .type "Exception", .type "BaseException", .type "object"], _, _, _, _, _, _, _, _, _, _, ?x_o_TooMany, ?r_o_TooMany⟩, ?s_o_TooMany, ?e_o_TooMany, ?t_o_TooMany, ?k_o_TooMany⟩; (case x_o_TooMany => exact rfl); (case r_o_TooMany => decide +kernel); (case s_o_TooMany => k_is); (case e_o_TooMany => k_is); (case t_o_TooMany => k_is); (case k_o_TooMany => k_is))
    (case i_TooMany => k_is)
    (case t_TooMany => k_is)
    (case G_TooMany => refine' ⟨_, L2.fun_mk ?l_G_TooMany ?c_G_TooMany ?k_G_TooMany⟩; (case l_G_TooMany => k_is); (case c_G_TooMany => k_is); (case k_G_TooMany => k_is))
    (case j_TooMany => k_is)
    (case x_TooMany => refine' ⟨?a_x_TooMany, ?b_x_TooMany, ?d_x_TooMany, ?e_x_TooMany⟩; (case a_x_TooMany => k_is); (case b_x_TooMany => k_is); (case d_x_TooMany => k_is); (case e_x_TooMany => k_is))
    (case p_TooMany_what => k_is)
    (case p_TooMany_most => k_is)
    (case m_BadWord_BadWord => k_is)
    (case m_BadWord_BadStock => k_is)
    (case m_BadWord_BadNumber => k_is)
    (case m_BadWord_Misfit => k_is)
    (case m_BadWord_TooMany => k_is)
    (case m_BadStock_BadWord => k_is)
    (case m_BadStock_BadStock => k_is)
    (case m_BadStock_BadNumber => k_is)
    (case m_BadStock_Misfit => k_is)
    (case m_BadStock_TooMany => k_is)
    (case m_BadNumber_BadWord => k_is)
    (case m_BadNumber_BadStock => k_is)
    (case m_BadNumber_BadNumber => k_is)
    (case m_BadNumber_Misfit => k_is)
    (case m_BadNumber_TooMany => k_is)
    (case m_Misfit_BadWord => k_is)
    (case m_Misfit_BadStock => k_is)
    (case m_Misfit_BadNumber => k_is)
    (case m_Misfit_Misfit => k_is)
    (case m_Misfit_TooMany => k_is)
    (case m_TooMany_BadWord => k_is)
    (case m_TooMany_BadStock => k_is)
    (case m_TooMany_BadNumber => k_is)
    (case m_TooMany_Misfit => k_is)
    (case m_TooMany_TooMany => k_is)
    (case tb__law_refused_right => kernel_rfl)
    (case tc__law_refused_right => kernel_rfl)
    (case tn__law_refused_right => kernel_rfl)
    (case tb__law_many_right => kernel_rfl)
    (case tc__law_many_right => kernel_rfl)
    (case tn__law_many_right => kernel_rfl)
    (case d_is_integer => k_is)
    (case d_is_within => k_is)
    (case d_is_long_word => k_is)
    (case d_is_rising => k_is)
    (case d_is_word => k_is)
    (case d_is_stock => k_is)
    (case d_of_stock => k_is)
    (case d_need_word => k_is)
    (case d_need_stock => k_is)
    (case d_need_number => k_is)
    (case d_longer_words => k_is)
    (case d_many_of_length => k_is)
    (case d_list_words => k_is)
    (case d_words_of => k_is)
    (case d_need_word_of => k_is)
    (case d_number_of_word => k_is)
    (case d_word_of_number => k_is)
    (case d_last_number => k_is)
    (case d_word_number => k_is)
    (case d_word_at => k_is)
    (case d_next_word => k_is)
    (case d__law_well => k_is)
    (case d__law_dip => k_is)
    (case d__law_pick => k_is)
    (case d__law_stock => k_is)
    (case d__law_listed => k_is)
    (case d__law_ahead => k_is)
    (case d__law_behind => k_is)
    (case d__law_word_right => k_is)
    (case d__law_all_right => k_is)
    (case d__law_heard => k_is)
    (case d__law_refused_right => k_is)
    (case d__law_many_right => k_is)
    (case d_law => k_is)
    (case F_is_integer => refine' ⟨_, L2.fun_mk ?l_F_is_integer ?c_F_is_integer ?k_F_is_integer⟩; (case l_F_is_integer => k_is); (case c_F_is_integer => k_is); (case k_F_is_integer => k_is))
    (case F_is_within => refine' ⟨_, L2.fun_mk ?l_F_is_within ?c_F_is_within ?k_F_is_within⟩; (case l_F_is_within => k_is); (case c_F_is_within => k_is); (case k_F_is_within => k_is))
    (case F_is_long_word => refine' ⟨_, L2.fun_mk ?l_F_is_long_word ?c_F_is_long_word ?k_F_is_long_word⟩; (case l_F_is_long_word => k_is); (case c_F_is_long_word => k_is); (case k_F_is_long_word => k_is))
    (case F_is_rising => refine' ⟨_, L2.fun_mk ?l_F_is_rising ?c_F_is_rising ?k_F_is_rising⟩; (case l_F_is_rising => k_is); (case c_F_is_rising => k_is); (case k_F_is_rising => k_is))
    (case F_is_word => refine' ⟨_, L2.fun_mk ?l_F_is_word ?c_F_is_word ?k_F_is_word⟩; (case l_F_is_word => k_is); (case c_F_is_word => k_is); (case k_F_is_word => k_is))
    (case F_is_stock => refine' ⟨_, L2.fun_mk ?l_F_is_stock ?c_F_is_stock ?k_F_is_stock⟩; (case l_F_is_stock => k_is); (case c_F_is_stock => k_is); (case k_F_is_stock => k_is))
    (case F_of_stock => refine' ⟨_, L2.fun_mk ?l_F_of_stock ?c_F_of_stock ?k_F_of_stock⟩; (case l_F_of_stock => k_is); (case c_F_of_stock => k_is); (case k_F_of_stock => k_is))
    (case F_need_word => refine' ⟨_, L2.fun_mk ?l_F_need_word ?c_F_need_word ?k_F_need_word⟩; (case l_F_need_word => k_is); (case c_F_need_word => k_is); (case k_F_need_word => k_is))
    (case F_need_stock => refine' ⟨_, L2.fun_mk ?l_F_need_stock ?c_F_need_stock ?k_F_need_stock⟩; (case l_F_need_stock => k_is); (case c_F_need_stock => k_is); (case k_F_need_stock => k_is))
    (case F_need_number => refine' ⟨_, L2.fun_mk ?l_F_need_number ?c_F_need_number ?k_F_need_number⟩; (case l_F_need_number => k_is); (case c_F_need_number => k_is); (case k_F_need_number => k_is))
    (case F_longer_words => refine' ⟨_, L2.fun_mk ?l_F_longer_words ?c_F_longer_words ?k_F_longer_words⟩; (case l_F_longer_words => k_is); (case c_F_longer_words => k_is); (case k_F_longer_words => k_is))
    (case F_many_of_length => refine' ⟨_, L2.fun_mk ?l_F_many_of_length ?c_F_many_of_length ?k_F_many_of_length⟩; (case l_F_many_of_length => k_is); (case c_F_many_of_length => k_is); (case k_F_many_of_length => k_is))
    (case F_list_words => refine' ⟨_, L2.fun_mk ?l_F_list_words ?c_F_list_words ?k_F_list_words⟩; (case l_F_list_words => k_is); (case c_F_list_words => k_is); (case k_F_list_words => k_is))
    (case F_words_of => refine' ⟨_, L2.fun_mk ?l_F_words_of ?c_F_words_of ?k_F_words_of⟩; (case l_F_words_of => k_is); (case c_F_words_of => k_is); (case k_F_words_of => k_is))
    (case F_need_word_of => refine' ⟨_, L2.fun_mk ?l_F_need_word_of ?c_F_need_word_of ?k_F_need_word_of⟩; (case l_F_need_word_of => k_is); (case c_F_need_word_of => k_is); (case k_F_need_word_of => k_is))
    (case F_number_of_word => refine' ⟨_, L2.fun_mk ?l_F_number_of_word ?c_F_number_of_word ?k_F_number_of_word⟩; (case l_F_number_of_word => k_is); (case c_F_number_of_word => k_is); (case k_F_number_of_word => k_is))
    (case F_word_of_number => refine' ⟨_, L2.fun_mk ?l_F_word_of_number ?c_F_word_of_number ?k_F_word_of_number⟩; (case l_F_word_of_number => k_is); (case c_F_word_of_number => k_is); (case k_F_word_of_number => k_is))
    (case F_last_number => refine' ⟨_, L2.fun_mk ?l_F_last_number ?c_F_last_number ?k_F_last_number⟩; (case l_F_last_number => k_is); (case c_F_last_number => k_is); (case k_F_last_number => k_is))
    (case F_word_number => refine' ⟨_, L2.fun_mk ?l_F_word_number ?c_F_word_number ?k_F_word_number⟩; (case l_F_word_number => k_is); (case c_F_word_number => k_is); (case k_F_word_number => k_is))
    (case F_word_at => refine' ⟨_, L2.fun_mk ?l_F_word_at ?c_F_word_at ?k_F_word_at⟩; (case l_F_word_at => k_is); (case c_F_word_at => k_is); (case k_F_word_at => k_is))
    (case F_next_word => refine' ⟨_, L2.fun_mk ?l_F_next_word ?c_F_next_word ?k_F_next_word⟩; (case l_F_next_word => k_is); (case c_F_next_word => k_is); (case k_F_next_word => k_is))
    (case F__law_well => refine' ⟨_, L2.fun_mk ?l_F__law_well ?c_F__law_well ?k_F__law_well⟩; (case l_F__law_well => k_is); (case c_F__law_well => k_is); (case k_F__law_well => k_is))
    (case F__law_dip => refine' ⟨_, L2.fun_mk ?l_F__law_dip ?c_F__law_dip ?k_F__law_dip⟩; (case l_F__law_dip => k_is); (case c_F__law_dip => k_is); (case k_F__law_dip => k_is))
    (case F__law_pick => refine' ⟨_, L2.fun_mk ?l_F__law_pick ?c_F__law_pick ?k_F__law_pick⟩; (case l_F__law_pick => k_is); (case c_F__law_pick => k_is); (case k_F__law_pick => k_is))
    (case F__law_stock => refine' ⟨_, L2.fun_mk ?l_F__law_stock ?c_F__law_stock ?k_F__law_stock⟩; (case l_F__law_stock => k_is); (case c_F__law_stock => k_is); (case k_F__law_stock => k_is))
    (case F__law_listed => refine' ⟨_, L2.fun_mk ?l_F__law_listed ?c_F__law_listed ?k_F__law_listed⟩; (case l_F__law_listed => k_is); (case c_F__law_listed => k_is); (case k_F__law_listed => k_is))
    (case F__law_ahead => refine' ⟨_, L2.fun_mk ?l_F__law_ahead ?c_F__law_ahead ?k_F__law_ahead⟩; (case l_F__law_ahead => k_is); (case c_F__law_ahead => k_is); (case k_F__law_ahead => k_is))
    (case F__law_behind => refine' ⟨_, L2.fun_mk ?l_F__law_behind ?c_F__law_behind ?k_F__law_behind⟩; (case l_F__law_behind => k_is); (case c_F__law_behind => k_is); (case k_F__law_behind => k_is))
    (case F__law_word_right => refine' ⟨_, L2.fun_mk ?l_F__law_word_right ?c_F__law_word_right ?k_F__law_word_right⟩; (case l_F__law_word_right => k_is); (case c_F__law_word_right => k_is); (case k_F__law_word_right => k_is))
    (case F__law_all_right => refine' ⟨_, L2.fun_mk ?l_F__law_all_right ?c_F__law_all_right ?k_F__law_all_right⟩; (case l_F__law_all_right => k_is); (case c_F__law_all_right => k_is); (case k_F__law_all_right => k_is))
    (case F__law_heard => refine' ⟨_, L2.fun_mk ?l_F__law_heard ?c_F__law_heard ?k_F__law_heard⟩; (case l_F__law_heard => k_is); (case c_F__law_heard => k_is); (case k_F__law_heard => k_is))
    (case F__law_refused_right => refine' ⟨_, L2.fun_mk ?l_F__law_refused_right ?c_F__law_refused_right ?k_F__law_refused_right⟩; (case l_F__law_refused_right => k_is); (case c_F__law_refused_right => k_is); (case k_F__law_refused_right => k_is))
    (case F__law_many_right => refine' ⟨_, L2.fun_mk ?l_F__law_many_right ?c_F__law_many_right ?k_F__law_many_right⟩; (case l_F__law_many_right => k_is); (case c_F__law_many_right => k_is); (case k_F__law_many_right => k_is))
    (case F_law => refine' ⟨_, L2.fun_mk ?l_F_law ?c_F_law ?k_F_law⟩; (case l_F_law => k_is); (case c_F_law => k_is); (case k_F_law => k_is))
