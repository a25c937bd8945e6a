import PyProof.Rows.All
import Wide.All
import OpenK.AllK
import Wide.FinOn
import PyProof.EqAt
import PyProof.EqKinds
import PyProof.TupleCall
import HandS.ForMost
import HandS.ExcInit
import HandS.ExcIs
import HandS.ExcField
import HandS.IsInst
import KE.KExcIs
import KE.GoesEnum
import KE.GoesMore
import HandS.DeepEq
import HandS.More
import HandS.Style
import PyProof.NeKinds
import PyProof.ListStr
import PyProof.StrOps2
import HandS.StrMore
import HandS.Walk
import HandS.SetKeys
import HandS.Flow
import HandS.TupLe
import HandS.DictComp
import HandS.ExcValue
import KE.KRevSl
import PyProof.Rows.StrRev
import PySem.Challenge.RW_foretongue_k00_errors_and_checks
set_option Elab.async false
set_option linter.all false
set_option maxRecDepth 100000
set_option maxHeartbeats 2000000
namespace K0
open PySem PySem.Spec PyProof.Rows L2
open PySem.W (any_some)

/-- an error of the class at C stands at a, its own dict holds just fs -/
def ErrAt (H : Hp) (a C : Addr) (fs : List (Str × V)) : Prop := ∃ dx : Addr, H a = some (exo a C (some dx)) ∧ H dx = some (exd dx fs)
theorem ErrAt.same {H H' : Hp} {a C : Addr} {fs : List (Str × V)} (e : ErrAt H a C fs) (s : Same H H') : ErrAt H' a C fs := by
  obtain ⟨dx, h1, h2⟩ := e
  exact ⟨dx, s _ _ h1, s _ _ h2⟩

/-- C(e, ..) as a value -/
def tMkE (C : Addr) (sp : Sp) (dvs : List V) (ta : TA) : TE := fun σ H Q => ta σ H fun vs H1 => vs.length ≤ 1000 ∧ ∀ a, H1 a = none →
  sp (.ref a :: (vs ++ dvs)) (upd H1 a (exo a C none)) (fun v H2 => v = .non ∧ Q (.ref a) H2) (fun _ _ _ => False)
section
variable {X : Cx} {o e : Expr} {es : List Expr} {to te : TE} {ta : TA} {f : Str} {p p' p1 p2 pos : Pos}
theorem pe_mkE {CX : CXT} {x : Str} {C fI : Addr} {k : Nat} {fd : FuncData} {ps : List Str} {sp : Sp} {ds : List Value} {dvs : List V} (T : OexC X.K C)
    (iC : PySem.W.findIn X.K (.ref C) "__init__" = some (some (.ref fI))) (tI : PySem.W.typeIn X.K (.ref fI) = some (.type "function"))
    (F1 : FnOk X.prog X.w X.K X.mg X.base CX k fI fd ps sp) (hr : Room (k + 1) X.A) (hb : Binds X.K fd ps ds) (hd : Vals dvs ds) (hx : Passes CX X (fun _ _ _ => False))
    (hg : Gl X x) (hm : X.mg x = some (.ref C)) (ha : PA X (e :: es) ta)
    (hdb : (x == ("__debug__" : Str)) = false := by decide) (he : starEach (e :: es) X.env = (false, eval e X.env) :: starEach es X.env := by rfl)
    (hpl : (backTo pos (starEach es X.env)).any (·.1) = false := by rfl) :
    PE X (.Call (.Name x p) (e :: es) [] pos) (tMkE C sp dvs ta) := by
  refine ⟨fun pins s σ H Q I h => ?_⟩
  obtain ⟨nm, q, N, bs, bm, sn, sub, ab, col, dd, k0, k1, k2, k3, k5, hC, hbm⟩ := T.cls
  refine wpAny_Call_Name_kw (ld_glob I hg hm ?_ hdb)
  refine PySem.W.callWith_K (h₀ := X.base) I.ok.mod.kin T.kC (thn (ha.run pos pins s σ H _ I h) fun us s1 ⟨vs, H1, I1, r1, hz, q1⟩ => ⟨I1.kIn, ?_⟩) he hpl
  show wpAny _ _ (call (.ref C) us) _ _ _
  obtain ⟨hp, g, dr, tk, os⟩ := s1
  have hsz : hp.objs.size ≤ hp.objs.size + 1 := Nat.le_succ _
  have hn : H1 (hp.objs.size + 1) = none := I1.hok.fresh hsz
  have hq := q1 (hp.objs.size + 1) hn
  have keepAll : ∀ b o, hp.get? b = some o → ((hp.push (PySem.W.kdv_tup us)).push (PySem.HandSPX.excO C hp.objs.size)).get? b = some o :=
    fun b o e => Heap.get?_push_of_some _ (Heap.get?_push_of_some _ e)
  have hget : ((hp.push (PySem.W.kdv_tup us)).push (PySem.HandSPX.excO C hp.objs.size)).get? (hp.objs.size + 1) = some (PySem.HandSPX.excO C hp.objs.size) := by heap_get
  have I2 := I1.laid (t' := tk) (a := hp.objs.size + 1) (o := exo (hp.objs.size + 1) C none)
    (h' := (hp.push (PySem.W.kdv_tup us)).push (PySem.HandSPX.excO C hp.objs.size)) keepAll hsz (exo_ok hget)
  have r2 : Vals (V.ref (hp.objs.size + 1) :: (vs ++ dvs)) (Value.ref (hp.objs.size + 1) :: (us ++ ds)) := .cons rfl (r1.append hd)
  have hl : (Value.ref (hp.objs.size + 1) :: us ++ ds).length = ps.length := by
    have e := r2.length
    rw [F1.len _ _ _ _ hq] at e
    exact e.symm
  have hus : us.length ≤ sizeLine := by
    rw [← Paired.length r1, sizeLine_eq]
    omega
  refine wpAny_call (PySem.HandSPX.call_own F.excBase_ValueError (fun Y => PySem.HandSPX.refsVE_contains Y bm hbm) (I1.kIn _ _ hC)
    (PySem.W.looks_findIn I1.kIn iC) (fun self => PySem.W.bind_fn I1.kIn self tI) hus
    (codeAny_mono (F1.run _ X.stack _ _ ⟨Value.ref (hp.objs.size + 1) :: us, []⟩ (Value.ref (hp.objs.size + 1) :: (us ++ ds)) _ _ (fun _ _ _ => False)
      (hr.make C us []) (I2.env0.make C us []) (hb _ (Value.ref (hp.objs.size + 1) :: us) I2.kIn hl) r2 hq) fun r s' hq' => ?_))
  cases r with
  | error er => exact hx pins σ _ _ er s' I2 hq'
  | ok fl =>
    cases fl with
    | ret u =>
      obtain ⟨v, H2, os2, bare2, un2, hok2, rv, ev, q2⟩ := hq'
      subst ev
      refine ⟨rv, .ref (hp.objs.size + 1), H2, ?_, rfl, q2⟩
      exact I2.call' (ch := []) os2 un2 hok2 bare2 (fun b z => absurd z (by simp))
    | next => exact False.elim hq'
    | brk => exact False.elim hq'
    | cont => exact False.elim hq'

/-- e.f, e an error -/
def tErrF (K : PySem.W.Frag) (f : Str) (te : TE) : TE := fun σ H Q => te σ H fun x H1 => ∃ (a C : Addr) (fs : List (Str × V)) (v : V),
  x = .ref a ∧ XfC K C ∧ PySem.W.findIn K (.ref C) f = some none ∧ ErrAt H1 a C fs ∧ fs.lookup f = some v ∧ Q v H1
theorem pe_errF {n : Str} (he : PE X e te) (hb : attributeBase e n X.env (eval e X.env) = eval e X.env := by rfl) : PE X (.Attribute e n pos) (tErrF X.K n te) := by
  refine ⟨fun pins s σ H Q I h => ?_⟩
  refine attr_of hb (thn (he.run pins s σ H _ I h) fun u s1 hh => ?_)
  obtain ⟨x, H1, I1, rx, a, C, fs, v, ex, T, hno, ⟨dd, e1, e2⟩, l, q⟩ := hh
  subst ex
  obtain rfl : u = Value.ref a := rx
  obtain ⟨t1, ha⟩ := exo_at I1.hok e1
  obtain ⟨mA, hns, hr⟩ := exd_at I1.hok e2
  obtain ⟨od, ho, hl⟩ := lookIn_ns hns
  obtain ⟨u, hu, ru⟩ := RelO.some_of (v := v) (o := mA n) (by rw [← l]; exact hr n)
  have J : PySem.W.InstAt s1.heap a _ C (some od) := ⟨ha, rfl, rfl, ho⟩
  exact HandSPX.exc_get I1.kIn J T.ga T.gg T.exC (PySem.W.findObj_own T.hdC hno rfl (by rw [hl, hu])) (handed_of ru) ⟨v, H1, I1.tok _, ru, q⟩

/-- isinstance(e, c), isinstance(e, (c1, ..)), e an error -/
def rIsErr (K : PySem.W.Frag) : List V → Hp → VK → Prop := fun xs H Q => ∃ (a C : Addr) (fs : List (Str × V)) (c : V) (cv : Value) (b : Bool),
  xs = [.ref a, c] ∧ ErrAt H a C fs ∧ ExcC K C ∧ ClsV c cv ∧ PySem.W.kitOne K (.ref C) cv = some b ∧ Q (.bl b) H
def rIsErrT (K : PySem.W.Frag) : List V → Hp → VK → Prop := fun xs H Q => ∃ (a C : Addr) (fs : List (Str × V)) (tp : Addr) (cs : List V) (us : List Value) (b : Bool),
  xs = [.ref a, .ref tp] ∧ ErrAt H a C fs ∧ ExcC K C ∧ H tp = some (.tup cs) ∧ Paired ClsV cs us ∧ PySem.W.kitAny K (.ref C) us = some b ∧ Q (.bl b) H
theorem err_kit {pins : List (Addr × Obj)} {σ : L2.St} {H : Hp} {s : Shared} {a C : Addr} {fs : List (Str × V)} (I : Inv X pins σ H s) (E : ErrAt H a C fs) (T : ExcC X.K C) :
    ∃ P : Heap → Prop, PySem.W.KitX X.K (.ref a) (.ref C) P ∧ P s.heap := by
  obtain ⟨dd, e1, e2⟩ := E
  obtain ⟨t1, ha⟩ := exo_at I.hok e1
  obtain ⟨mA, hns, hr⟩ := exd_at I.hok e2
  obtain ⟨od, ho, hl⟩ := lookIn_ns hns
  have J : PySem.W.InstAt s.heap a _ C (some od) := ⟨ha, rfl, rfl, ho⟩
  have hcl : (PySem.W.clsIn X.K C).isSome = true := by
    obtain ⟨cd, hc, _⟩ := any_some T.hd
    rw [hc]
    rfl
  exact ⟨_, PySem.W.kitx_exc hcl T.hg T.hk T.hs T.ha T.hn T.ht T.hm, J⟩
theorem call_isErr : CallR X (.builtin "isinstance") (rIsErr X.K) := by
  intro pins s σ H xs us Q I r h
  obtain ⟨a, C, fs, c, cv, b, rfl, E, T, k, e, q⟩ := h
  obtain ⟨u1, u2, rfl, r1, r2⟩ := vals2 r
  cases (show u1 = Value.ref a from r1)
  have e2 := k.eq r2
  subst e2
  obtain ⟨P, Z, p⟩ := err_kit I E T
  exact PySem.W.kia_one Z I.kIn p e (fun z => nomatch z) fun tk => ⟨.bl b, H, I.tok tk, rfl, q⟩
theorem call_isErrT : CallR X (.builtin "isinstance") (rIsErrT X.K) := by
  intro pins s σ H xs us Q I r h
  obtain ⟨a, C, fs, tp, cs, ws, b, rfl, E, T, hT, k, e, q⟩ := h
  obtain ⟨u1, u2, rfl, r1, r2⟩ := vals2 r
  cases (show u1 = Value.ref a from r1)
  cases (show u2 = Value.ref tp from r2)
  obtain ⟨P, Z, p⟩ := err_kit I E T
  obtain ⟨_, its, rv, o, h1, h2, n, h3⟩ := (show ObjOk X.prog X.w H s.heap tp (.tup cs) from I.hok tp _ hT)
  have e3 := ClsV.all k rv
  subst e3
  obtain ⟨oc, od, dt, sl⟩ := o
  simp only at h2 h3
  subst h2 h3
  exact PySem.W.kia_tup Z I.kIn p h1 e (fun z => nomatch z) fun tk => ⟨.bl b, H, I.tok tk, rfl, q⟩
end
end K0
namespace PySem
namespace K0X
open PySem.W PySem.Calls PyProof.Rows PySem.HandSPX
section
variable {prog : Program} {w : World} {A : Around} {E : Value → Shared → Prop} {R : Result → Shared → Prop} {h : Heap} {g : Array GenState} {d : Drawn} {t : Nat} {os : OsState}
variable {nm q : Str} {C N : Addr} {bs bm bmB : List Value} {hdct : Bool} {sn : List Str} {sub : List Value} {ab : Bool} {col : Option Bool} {dd : Option Addr}
variable {k0 k1 k2 k3 k5 : Option Value} {B newId initId : String} {kw : List (Str × Value)}
theorem check_new_kw (F : ExcBaseFacts B newId initId bmB) (hT : ∀ X : String, bm.contains (.type X) = bmB.contains (.type X)) {Q : Unit → Shared → Prop}
    (hC : h.get? C = some (excClassObj nm q C N bs bm hdct sn sub ab col dd k0 k1 k2 k3 k5 newId)) (hq : Q () ⟨h, g, d, t, os⟩) :
    wpAny (model prog w) A (checkBuiltinCall newId ⟨[.ref C], kw⟩) Q E ⟨h, g, d, t, os⟩ := by
  have hcont : (Value.ref C :: bm).contains (.type B) = true := by rw [List.contains_cons, hT, F.hasB, Bool.or_true]
  have hstar := F.noStar
  simp only [checkBuiltinCall, F.newKind, F.newSplit, F.newRow]
  repeat (first | refine wpAny_loadPart_at hC ?_ | (refine wpAny_isSubtype_exc hC ?_; rw [hcont]) | refine wpAny_staticBase_exc hC ?_ |
    refine wpAny_madeBy_exc hC ?_ | simp only [bne_self_eq_false, Bool.false_eq_true, if_false] | wp_step)
  exact hq
theorem new_kw (F : ExcBaseFacts B newId initId bmB) (hT : ∀ X : String, bm.contains (.type X) = bmB.contains (.type X))
    (hC : h.get? C = some (excClassObj nm q C N bs bm hdct sn sub ab col dd k0 k1 k2 k3 k5 newId))
    (hq : R (.ok (.ret (.ref (h.objs.size + 1)))) ⟨(h.push (kdv_tup [])).push (excO C h.objs.size), g, d, t, os⟩) :
    codeAny (model prog w) A (.builtin newId ⟨[.ref C], kw⟩) R ⟨h, g, d, t, os⟩ := by
  have hends := F.ends
  have hcB : (Value.ref C :: bm).contains (.type B) = true := by rw [List.contains_cons, hT, F.hasB, Bool.or_true]
  have hcA : (Value.ref C :: bm).contains (.type "AttributeError") = false := by rw [List.contains_cons, hT, F.noAttr]; rfl
  have hcN : (Value.ref C :: bm).contains (.type "NameError") = false := by rw [List.contains_cons, hT, F.noName]; rfl
  refine codeAny_builtinAt F.entry ?_
  unfold Builtin.«BaseException.__new__»
  refine wpAt_bind ?_
  show wpAt _ _ _ (stack >>= _) _ _ _
  refine wpAt_bind (wpAt_stack fun p below => wpAt_of_wpAny ?_)
  wp_walk
  refine wpAt_of_wpAny ?_
  rw [F.owner]
  repeat (first | with_reducible refine wpAny_madeHere_exc F.canon hC ?_ | with_reducible refine wpAny_loadPart_at hC ?_ |
    (with_reducible refine wpAny_isSubtype_exc hC ?_; first | rw [hcB] | rw [hcA] | rw [hcN]) | wp_step)
  show R _ _
  rw [Heap.size_push]
  exact hq
theorem type_call_kw (F : ExcBaseFacts B newId initId bmB) (hT : ∀ X : String, bm.contains (.type X) = bmB.contains (.type X)) {fI : Addr} {Q : Fin → Shared → Prop}
    (hC : h.get? C = some (excClassObj nm q C N bs bm hdct sn sub ab col dd k0 k1 k2 k3 k5 newId))
    (hi : Looks (model prog w) h (typeLookup (.ref C) "__init__") (some (.ref fI))) (hb : ∀ self, Looks (model prog w) h (bindSpecial (.ref fI) self) (.ref fI, [self]))
    (hq : codeAny (model prog w) A (.call (.ref fI) ⟨[.ref (h.objs.size + 1)], kw⟩)
      (fun r s' => match r with | .ok (.ret v) => v = .none ∧ Q (.done (.ret (.ref (h.objs.size + 1)))) s' | .ok _ => False | .error e => E e s')
      ⟨(h.push (kdv_tup [])).push (excO C h.objs.size), g, d, t, os⟩) :
    wpAny (model prog w) A (Builtin.«type.__call__» ⟨[.ref C], kw⟩) Q E ⟨h, g, d, t, os⟩ := by
  repeat (first | with_reducible refine wpAny_loadPart_at hC ?_ | with_reducible refine wpAny_madeBy_exc hC ?_ | wp_step)
  refine codeAny_call_builtin_code (Code.quiet_builtin _ F.quiet) (check_new_kw F hT hC ?_)
  refine new_kw F hT hC ?_
  show wpAny _ _ _ _ _ _
  have k : ∀ b o, h.get? b = some o → ((h.push (kdv_tup [])).push (excO C h.objs.size)).get? b = some o := fun b o e => Heap.get?_push_of_some _ (Heap.get?_push_of_some _ e)
  have hC' := k _ _ hC
  have hget : ((h.push (kdv_tup [])).push (excO C h.objs.size)).get? (h.objs.size + 1) = some (excO C h.objs.size) := by heap_get
  have hcC : (Value.ref C :: bm).contains (.ref C) = true := by simp
  have i1 := hi.keeps k
  have b1 := (hb (.ref (h.objs.size + 1))).keeps k
  unfold isInstance
  repeat (first | with_reducible refine wpAny_loadPart_at hget ?_ | (with_reducible refine wpAny_isSubtype_exc hC' ?_; rw [hcC]) | wp_step)
  show wpAny _ _ (typeLookup (.ref C) _) _ _ _
  refine i1.at ?_
  refine wpAny_holding (wpAny_bind (b1.at ?_))
  refine wpAny_bind (wpAny_call (codeAny_mono hq fun r s' z => ?_))
  rcases r with e | (v | _ | _ | _) <;> first | exact z | exact z.elim | skip
  obtain ⟨rfl, z⟩ := z
  first
    | exact wpAny_pure (wpAny_pure z)
    | (wp_walk; exact z)
theorem call_kw (F : ExcBaseFacts B newId initId bmB) (hT : ∀ X : String, bm.contains (.type X) = bmB.contains (.type X)) {fI : Addr}
    (hC : h.get? C = some (excClassObj nm q C N bs bm hdct sn sub ab col dd k0 k1 k2 k3 k5 newId))
    (hi : Looks (model prog w) h (typeLookup (.ref C) "__init__") (some (.ref fI))) (hb : ∀ self, Looks (model prog w) h (bindSpecial (.ref fI) self) (.ref fI, [self]))
    (hq : codeAny (model prog w) (A.under (.builtin "type.__call__" ⟨[.ref C], kw⟩)) (.call (.ref fI) ⟨[.ref (h.objs.size + 1)], kw⟩) (InitBack (h.objs.size + 1) R)
      ⟨(h.push (kdv_tup [])).push (excO C h.objs.size), g, d, t, os⟩) :
    codeAny (model prog w) A (.call (.ref C) ⟨[], kw⟩) R ⟨h, g, d, t, os⟩ := by
  have f1 := tc_lookup
  have f2 := tc_bind (.ref C)
  have hTy : (⟨h, g, d, t, os⟩ : Shared).TypeIs (.ref C) "type" := ⟨_, hC, rfl⟩
  refine codeAny_of_tree ?_
  show wpAny _ _ (callAny (.ref C) _) _ _ _
  repeat (any_goals (first | assumption | with_reducible refine wpAny_loadPart_at hC ?_ | wp_step))
  refine ⟨rfl, ?_⟩
  refine codeAny_call_builtin_at (Code.quiet_builtin _ (by decide +kernel)) entry_typeCall (wpAny_check_type_call_sub hC (type_call_kw F hT hC hi hb ?_))
  refine codeAny_mono hq fun r s' z => ?_
  rcases r with e | (v | _ | _ | _) <;> exact z
end
end K0X
end PySem
namespace K0
open PySem PySem.Spec PyProof.Rows L2
/-- C(k = e, ..) as a value -/
def tMkK (C : Addr) (sp : Sp) (gV : List V → List V → List V) (n : Nat) (tk : TA) : TE := fun σ H Q => tk σ H fun zs H1 => zs.length = n ∧ ∀ a, H1 a = none →
  sp (gV [.ref a] zs) (upd H1 a (exo a C none)) (fun v H2 => v = .non ∧ Q (.ref a) H2) (fun _ _ _ => False)
section
variable {X : Cx} {tk : TA} {p pos : Pos} {kws : List Keyword} {g : List Value → List Value → List Value} {gV : List V → List V → List V}
theorem pe_mkK {CX : CXT} {x : Str} {C fI : Addr} {k : Nat} {fd : FuncData} {ps ks : List Str} {sp : Sp} (T : OexC X.K C)
    (iC : PySem.W.findIn X.K (.ref C) "__init__" = some (some (.ref fI))) (tI : PySem.W.typeIn X.K (.ref fI) = some (.type "function"))
    (F1 : FnOk X.prog X.w X.K X.mg X.base CX k fI fd ps sp) (hr : Room (k + 1) X.A) (hb : KBinds X.K fd ps ks g gV) (hx : Passes CX X (fun _ _ _ => False))
    (hg : Gl X x) (hm : X.mg x = some (.ref C)) (hkw : PK X kws tk)
    (hall : (backToKw pos (keywordEach kws X.env)).all (·.1.isSome) = true := by rfl) (hks : (backToKw pos (keywordEach kws X.env)).filterMap (·.1) = ks := by rfl)
    (hdb : (x == ("__debug__" : Str)) = false := by decide)
    (hpl : ((backTo pos (starEach [] X.env)).any (·.1) || (backToKw pos (keywordEach kws X.env)).any (·.1.isNone)) = false := by rfl) :
    PE X (.Call (.Name x p) [] kws pos) (tMkK C sp gV ks.length tk) := by
  refine ⟨fun pins s σ H Q I h => ?_⟩
  obtain ⟨nm, q, N, bs, bm, sn, sub, ab, col, dd, k0, k1, k2, k3, k5, hC, hbm⟩ := T.cls
  refine wpAny_Call_Name_kw (ld_glob I hg hm ?_ hdb)
  refine PySem.W.callWith_KW0 (h₀ := X.base) I.ok.mod.kin T.kC hall (thn (hkw.run pos pins s σ H _ I h) fun ws s1 ⟨zs, H1, I1, rz, hz, q1⟩ => ⟨I1.kIn, ?_⟩) hpl
  rw [hks]
  show wpAny _ _ (call (.ref C) [] (ks.zip ws)) _ _ _
  obtain ⟨hp, g', dr, tk, os⟩ := s1
  have hsz : hp.objs.size ≤ hp.objs.size + 1 := Nat.le_succ _
  have hn : H1 (hp.objs.size + 1) = none := I1.hok.fresh hsz
  have hq := q1 (hp.objs.size + 1) hn
  have keepAll : ∀ b o, hp.get? b = some o → ((hp.push (PySem.W.kdv_tup [])).push (PySem.HandSPX.excO C hp.objs.size)).get? b = some o :=
    fun b o e => Heap.get?_push_of_some _ (Heap.get?_push_of_some _ e)
  have hget : ((hp.push (PySem.W.kdv_tup [])).push (PySem.HandSPX.excO C hp.objs.size)).get? (hp.objs.size + 1) = some (PySem.HandSPX.excO C hp.objs.size) := by heap_get
  have I2 := I1.laid (t' := tk) (a := hp.objs.size + 1) (o := exo (hp.objs.size + 1) C none)
    (h' := (hp.push (PySem.W.kdv_tup [])).push (PySem.HandSPX.excO C hp.objs.size)) keepAll hsz (exo_ok hget)
  have r2 := hb.rel (.cons (show RelV (V.ref (hp.objs.size + 1)) (Value.ref (hp.objs.size + 1)) from rfl) .nil) rz
  have hl : (g [Value.ref (hp.objs.size + 1)] ws).length = ps.length := by
    rw [← r2.length]
    exact F1.len _ _ _ _ hq
  refine wpAny_call (PySem.K0X.call_kw F.excBase_ValueError (fun Y => PySem.HandSPX.refsVE_contains Y bm hbm) (I1.kIn _ _ hC)
    (PySem.W.looks_findIn I1.kIn iC) (fun self => PySem.W.bind_fn I1.kIn self tI)
    (codeAny_mono (F1.run _ X.stack _ _ ⟨[Value.ref (hp.objs.size + 1)], ks.zip ws⟩ (g [Value.ref (hp.objs.size + 1)] ws) _ _ (fun _ _ _ => False)
      (hr.make C [] (ks.zip ws)) (I2.env0.make C [] (ks.zip ws)) (hb.to _ [Value.ref (hp.objs.size + 1)] ws I2.kIn hl) r2 hq) fun r s' hq' => ?_))
  cases r with
  | error er => exact hx pins σ _ _ er s' I2 hq'
  | ok fl =>
    cases fl with
    | ret u =>
      obtain ⟨v, H2, os2, bare2, un2, hok2, rv, ev, q2⟩ := hq'
      subst ev
      refine ⟨rv, .ref (hp.objs.size + 1), H2, ?_, rfl, q2⟩
      exact I2.call' (ch := []) os2 un2 hok2 bare2 (fun b z => absurd z (by simp))
    | next => exact False.elim hq'
    | brk => exact False.elim hq'
    | cont => exact False.elim hq'
end
/-! ### keywords to their places -/
def kg1 {α : Type} : List α → List α → List α
  | [], [v] => [v]
  | _, _ => []
def kg2 {α : Type} : List α → List α → List α
  | [u], [v] => [u, v]
  | _, _ => []
def kg2r {α : Type} : List α → List α → List α
  | [], [a, b] => [b, a]
  | _, _ => []
def kg3 {α : Type} : List α → List α → List α
  | [], [a, b, c] => [a, b, c]
  | _, _ => []
def kg3p {α : Type} : List α → List α → List α
  | [u], [a, b] => [u, a, b]
  | _, _ => []
def kg3r {α : Type} : List α → List α → List α
  | [u], [a, b] => [u, b, a]
  | _, _ => []
section
variable {vs zs : List V} {us ws : List Value}
theorem rel1 (r : Vals vs us) (rz : Vals zs ws) : Vals (kg1 vs zs) (kg1 us ws) := by
  cases r with
  | nil =>
    cases rz with
    | nil => exact .nil
    | cons a b =>
      cases b with
      | nil => exact .cons a .nil
      | cons c d => exact .nil
  | cons x y => exact .nil
theorem rel2 (r : Vals vs us) (rz : Vals zs ws) : Vals (kg2 vs zs) (kg2 us ws) := by
  cases r with
  | nil => exact .nil
  | cons x y =>
    cases y with
    | cons x2 y2 => exact .nil
    | nil =>
      cases rz with
      | nil => exact .nil
      | cons a b =>
        cases b with
        | nil => exact .cons x (.cons a .nil)
        | cons c d => exact .nil
theorem rel2r (r : Vals vs us) (rz : Vals zs ws) : Vals (kg2r vs zs) (kg2r us ws) := by
  cases r with
  | cons x y => exact .nil
  | nil =>
    cases rz with
    | nil => exact .nil
    | cons a b =>
      cases b with
      | nil => exact .nil
      | cons c d =>
        cases d with
        | nil => exact .cons c (.cons a .nil)
        | cons e f => exact .nil
theorem rel3 (r : Vals vs us) (rz : Vals zs ws) : Vals (kg3 vs zs) (kg3 us ws) := by
  cases r with
  | cons x y => exact .nil
  | nil =>
    cases rz with
    | nil => exact .nil
    | cons a b =>
      cases b with
      | nil => exact .nil
      | cons c d =>
        cases d with
        | nil => exact .nil
        | cons e f =>
          cases f with
          | nil => exact .cons a (.cons c (.cons e .nil))
          | cons g h => exact .nil
theorem rel3p (r : Vals vs us) (rz : Vals zs ws) : Vals (kg3p vs zs) (kg3p us ws) := by
  cases r with
  | nil => exact .nil
  | cons x y =>
    cases y with
    | cons x2 y2 => exact .nil
    | nil =>
      cases rz with
      | nil => exact .nil
      | cons a b =>
        cases b with
        | nil => exact .nil
        | cons c d =>
          cases d with
          | nil => exact .cons x (.cons a (.cons c .nil))
          | cons e f => exact .nil
theorem rel3r (r : Vals vs us) (rz : Vals zs ws) : Vals (kg3r vs zs) (kg3r us ws) := by
  cases r with
  | nil => exact .nil
  | cons x y =>
    cases y with
    | cons x2 y2 => exact .nil
    | nil =>
      cases rz with
      | nil => exact .nil
      | cons a b =>
        cases b with
        | nil => exact .nil
        | cons c d =>
          cases d with
          | nil => exact .cons x (.cons c (.cons a .nil))
          | cons e f => exact .nil
end
section
variable {K : PySem.W.Frag} {x qual : Str} {st : Stmt} {f : Addr} {fd : FuncData} {p q r : Str}
abbrev fOf (x qual : Str) (st : Stmt) (kV doc pm : Value) (an : Option Addr) (cdv ct : Value) : FuncData := PySem.W.fnOf x qual (defArgs st) (defBody st) (defScope st) .none kV doc pm an cdv ct
theorem kb1 (F : Fun K x qual st f fd) (h : ∀ kV doc pm an cdv ct v, bindArgs (fOf x qual st kV doc pm an cdv ct) ⟨[], [(p, v)]⟩ = pure [(p, v)]) : KBinds K fd [p] [p] kg1 kg1 := by
  obtain ⟨oc, od, kV, doc, pm, an, cdv, ct, osl, rfl, lk, hcd⟩ := F.ex
  refine ⟨fun s us ws _ hl => ?_, rel1⟩
  match us, ws, hl with
  | [], [v], _ => exact .of_eq (h _ _ _ _ _ _ v)
theorem kb2 (F : Fun K x qual st f fd) (h : ∀ kV doc pm an cdv ct u v, bindArgs (fOf x qual st kV doc pm an cdv ct) ⟨[u], [(q, v)]⟩ = pure [(p, u), (q, v)]) : KBinds K fd [p, q] [q] kg2 kg2 := by
  obtain ⟨oc, od, kV, doc, pm, an, cdv, ct, osl, rfl, lk, hcd⟩ := F.ex
  refine ⟨fun s us ws _ hl => ?_, rel2⟩
  match us, ws, hl with
  | [u], [v], _ => exact .of_eq (h _ _ _ _ _ _ u v)
theorem kb2r (F : Fun K x qual st f fd) (h : ∀ kV doc pm an cdv ct u v, bindArgs (fOf x qual st kV doc pm an cdv ct) ⟨[], [(q, u), (p, v)]⟩ = pure [(p, v), (q, u)]) : KBinds K fd [p, q] [q, p] kg2r kg2r := by
  obtain ⟨oc, od, kV, doc, pm, an, cdv, ct, osl, rfl, lk, hcd⟩ := F.ex
  refine ⟨fun s us ws _ hl => ?_, rel2r⟩
  match us, ws, hl with
  | [], [u, v], _ => exact .of_eq (h _ _ _ _ _ _ u v)
theorem kb3 (F : Fun K x qual st f fd) (h : ∀ kV doc pm an cdv ct u v z, bindArgs (fOf x qual st kV doc pm an cdv ct) ⟨[], [(p, u), (q, v), (r, z)]⟩ = pure [(p, u), (q, v), (r, z)]) : KBinds K fd [p, q, r] [p, q, r] kg3 kg3 := by
  obtain ⟨oc, od, kV, doc, pm, an, cdv, ct, osl, rfl, lk, hcd⟩ := F.ex
  refine ⟨fun s us ws _ hl => ?_, rel3⟩
  match us, ws, hl with
  | [], [u, v, z], _ => exact .of_eq (h _ _ _ _ _ _ u v z)
theorem kb3p (F : Fun K x qual st f fd) (h : ∀ kV doc pm an cdv ct u v z, bindArgs (fOf x qual st kV doc pm an cdv ct) ⟨[u], [(q, v), (r, z)]⟩ = pure [(p, u), (q, v), (r, z)]) : KBinds K fd [p, q, r] [q, r] kg3p kg3p := by
  obtain ⟨oc, od, kV, doc, pm, an, cdv, ct, osl, rfl, lk, hcd⟩ := F.ex
  refine ⟨fun s us ws _ hl => ?_, rel3p⟩
  match us, ws, hl with
  | [u], [v, z], _ => exact .of_eq (h _ _ _ _ _ _ u v z)
theorem kb3r (F : Fun K x qual st f fd) (h : ∀ kV doc pm an cdv ct u v z, bindArgs (fOf x qual st kV doc pm an cdv ct) ⟨[u], [(r, v), (q, z)]⟩ = pure [(p, u), (q, z), (r, v)]) : KBinds K fd [p, q, r] [r, q] kg3r kg3r := by
  obtain ⟨oc, od, kV, doc, pm, an, cdv, ct, osl, rfl, lk, hcd⟩ := F.ex
  refine ⟨fun s us ws _ hl => ?_, rel3r⟩
  match us, ws, hl with
  | [u], [v, z], _ => exact .of_eq (h _ _ _ _ _ _ u v z)
end
end K0
namespace K0
open PySem PySem.Spec PyProof.Rows L2
/-- zip of two texts: new pairs of signs -/
def Itzs (x y : Str) : It :=
  ⟨fun i _ => i < x.cps.size ∧ i < y.cps.size,
    fun i H v H' => ∃ T c d, v = .ref T ∧ H T = none ∧ H' = upd H T (.tup [.str ⟨#[c]⟩, .str ⟨#[d]⟩]) ∧ x.cps[i]? = some c ∧ y.cps[i]? = some d,
    fun i _ => (i = x.cps.size ∨ i = y.cps.size) ∧ i ≤ x.cps.size ∧ i ≤ y.cps.size⟩
abbrev zfp (N : Nat) : List Addr := [N + 4, N + 2, N + 3, N, N + 1]
theorem zs_sep (N : Nat) : ZipSep2 (N + 4) (N + 2) (N + 3) N (N + 1) [N] [N + 1] := zip_sep2 (fp1 := []) (fp2 := []) (fun _ h => nomatch h) (fun _ h => nomatch h)
theorem turn_zs {P : Program} {w : World} {K : PySem.W.Frag} {elts : List Expr} {kk : Nat} {tpos : Pos} (N : Nat) (x y : Str) (t u : Tok) :
    Turn P w K (.Tuple elts kk tpos) (Itzs x y) (zfp N) (N + 4) (fun i h => IsZip h (N + 4) (N + 2) (N + 3) .none ∧ IsTupOf2 h (N + 2) (.ref N) (.ref (N + 1)) ∧ (∃ a b, IsTupOf2 h (N + 3) a b) ∧
      h.IsStrIter N (strIterType x) x t i ∧ h.IsStrIter (N + 1) (strIterType y) y u i) where
  mem := by simp
  obj := fun i h st c hc => by
    obtain ⟨hz, hTI, ⟨a, b, hTO⟩, ⟨o1, e1, _, d1⟩, ⟨o2, e2, _, d2⟩⟩ := st
    have e' : c = N + 4 ∨ c = N + 2 ∨ c = N + 3 ∨ c = N ∨ c = N + 1 := by simpa using hc
    rcases e' with q | q | q | q | q
    · rw [q]; exact ⟨_, hz, fun v q => nomatch q⟩
    · rw [q]; exact ⟨_, hTI, fun v q => nomatch q⟩
    · rw [q]; exact ⟨_, hTO, fun v q => nomatch q⟩
    · rw [q]; exact ⟨o1, e1, fun v q => by rw [d1] at q; cases q⟩
    · rw [q]; exact ⟨o2, e2, fun v q => by rw [d2] at q; cases q⟩
  keep := fun i h h' st k => by
    obtain ⟨hz, hTI, ⟨a, b, hTO⟩, ⟨o1, e1, r1⟩, ⟨o2, e2, r2⟩⟩ := st
    exact ⟨k (N + 4) (by simp) _ hz, k (N + 2) (by simp) _ hTI, ⟨a, b, k (N + 3) (by simp) _ hTO⟩, ⟨o1, k N (by simp) _ e1, r1⟩, ⟨o2, k (N + 1) (by simp) _ e2, r2⟩⟩
  item := by
    intro X hP hw hK hc i pins s σ H E I hf st hg
    subst hP hw hK
    obtain ⟨hz, hTI, ⟨a, b, hTO⟩, h1, h2⟩ := st
    have hh : X.A.in1.handled = none := I.ok.hd hc
    have hzl : N + 4 < s.heap.objs.size := Heap.lt_size hz
    refine wpAny_pyNext_zipD2_item (zs_sep N) (Draws.text hh N x t) (Draws.text hh (N + 1) y u) hz hTI hTO h1 h2 hg.1 hg.2 fun x1 x2 h' tk p1 p2 z' TO' h1' h2' hT hsz hk => ?_
    obtain ⟨c, u1, hx, rfl⟩ := p1
    obtain ⟨d, u2, hy, rfl⟩ := p2
    refine ⟨_, rfl, wpAny_letOwnedTupleGo_zip (s := { s with heap := h', toks := tk }) z' fun h'' z'' sb => ?_⟩
    have hT2 : h''.get? s.heap.objs.size = some { cls := .type "tuple", data := .seq #[.str ⟨#[c]⟩ u1, .str ⟨#[d]⟩ u2] } := (sb.2 _ (Nat.ne_of_gt hzl)).trans hT
    have new : ObjOk X.prog X.w (upd H s.heap.objs.size (.tup [.str ⟨#[c]⟩, .str ⟨#[d]⟩])) h'' s.heap.objs.size (.tup [.str ⟨#[c]⟩, .str ⟨#[d]⟩]) :=
      ⟨by show 2 ≤ sizeLine; decide, [.str ⟨#[c]⟩ u1, .str ⟨#[d]⟩ u2], .cons ⟨u1, rfl⟩ (.cons ⟨u2, rfl⟩ .nil), ⟨_, hT2, rfl, _, rfl⟩⟩
    have I1 := I.turnedNew (t' := tk) (ch := zfp N) (h' := h'') (fun c o hb q => (sb.2 c (fun q' => hb (by simp [q']))).trans
      (hk c o (fun q' => hb (by simp [q'])) (fun q' => hb (by simp [q'])) (fun q' => hb (by simp [q'])) (fun q' => hb (by simp [q'])) q)) hf (Nat.le_refl _) new
    have zne1 : N + 2 ≠ N + 4 := by omega
    have zne2 : N + 3 ≠ N + 4 := by omega
    have zne3 : N ≠ N + 4 := by omega
    have zne4 : N + 1 ≠ N + 4 := by omega
    have zne5 : N + 2 ≠ N + 3 := by omega
    have zne6 : N + 2 ≠ N := by omega
    have zne7 : N + 2 ≠ N + 1 := by omega
    refine ⟨.ref s.heap.objs.size, _, I1, rfl, ⟨_, c, d, rfl, I.hok.fresh (Nat.le_refl _), rfl, hx, hy⟩, ⟨z'', ?_, ⟨_, _, (sb.2 _ zne2).trans TO'⟩, ?_, ?_⟩, fun c' hcm => ?_⟩
    · refine (sb.2 _ zne1).trans (hk _ _ zne1 zne5 zne6 zne7 hTI)
    · obtain ⟨o, e, r⟩ := h1'
      exact ⟨o, (sb.2 _ zne3).trans e, r⟩
    · obtain ⟨o, e, r⟩ := h2'
      exact ⟨o, (sb.2 _ zne4).trans e, r⟩
    · have hlt : c' < s.heap.objs.size := by
        have e' : c' = N + 4 ∨ c' = N + 2 ∨ c' = N + 3 ∨ c' = N ∨ c' = N + 1 := by simpa using hcm
        have hz' : N + 4 < s.heap.objs.size := hzl
        have h5 : ∀ m : Nat, m = N + 4 ∨ m = N + 2 ∨ m = N + 3 ∨ m = N ∨ m = N + 1 → m < s.heap.objs.size := fun m hm => by omega
        exact h5 c' e'
      rw [upd_ne (Nat.ne_of_lt hlt)]
      exact (hf c' hcm).1
  done := by
    intro X hP hw hK hc i pins s σ H E I hf st hg
    subst hP hw hK
    obtain ⟨hz, hTI, ⟨a, b, hTO⟩, h1, h2⟩ := st
    have hh : X.A.in1.handled = none := I.ok.hd hc
    refine wpAny_pyNext_zipD2_end (zs_sep N) (Draws.text hh N x t) (Draws.text hh (N + 1) y u) hz hTI hTO h1 h2 hg.2.1 hg.2.2 hg.1 fun h' tk hk => ⟨rfl, I.turnedL (t' := tk) (ch := zfp N) (fun c o hb q =>
      hk c o (fun q' => hb (by simp [q'])) (fun q' => hb (by simp [q'])) (fun q' => hb (by simp [q'])) (fun q' => hb (by simp [q'])) q) hf⟩
  self := fun A i s Q E st h => wpAny_pyIter_zip st.1 h
def iZipS (ta : TA) : TI := fun σ H R => ta σ H fun vs H1 => ∃ x y : Str, vs = [.str x, .str y] ∧ R (Itzs x y) H1
theorem pi_zipS {X : Cx} {e e2 : Expr} {ta : TA} {p pos tpos : Pos} {elts : List Expr} {kk : Nat} (hg : Gl X "zip") (hm : X.mg "zip" = none) (ha : PA X [e, e2] ta)
    (hs : starEach [e, e2] X.env = (false, eval e X.env) :: starEach [e2] X.env := by rfl) (hpl : (backTo pos (starEach [e2] X.env)).any (·.1) = false := by rfl) :
    PI X (.Tuple elts kk tpos) (.Call (.Name "zip" p) [e, e2] [] pos) (iZipS ta) := by
  refine ⟨fun pins s σ H R I h => ?_⟩
  refine Call_ (ld_blt I hg hm PyProof.Rows.boot_zip (PyProof.Rows.callWith_type1 (thn (ha.run pos pins s σ H _ I h) fun us s1 ⟨vs, H1, I1, r1, q1⟩ => ?_) hs hpl))
  obtain ⟨x, y, ex, q⟩ := q1
  subst ex
  obtain ⟨u1, u2, rfl, r1, r2⟩ := vals2 r1
  obtain ⟨t1, rfl⟩ := (show ∃ t, u1 = Value.str x t from r1)
  obtain ⟨t2, rfl⟩ := (show ∃ t, u2 = Value.str y t from r2)
  refine zip_begins2 (begins_text x t1) (begins_text y t2) trivial trivial fun h' hz hTI hTO g1 g2 hsz hk => wpAny_pyIter_zip hz ?_
  have I2 : Inv X pins σ H1 { s1 with heap := h' } := I1.kept (t' := s1.toks) hk
  refine ⟨s1.heap.objs.size + 4, zfp s1.heap.objs.size, _, _, H1, rfl, I2, turn_zs s1.heap.objs.size x y t1 t2, ⟨hz, hTI, ⟨_, _, hTO⟩, ⟨_, g1, rfl, rfl⟩, ⟨_, g2, rfl, rfl⟩⟩, fun c hcm => ?_, q⟩
  have e' : c = s1.heap.objs.size + 4 ∨ c = s1.heap.objs.size + 2 ∨ c = s1.heap.objs.size + 3 ∨ c = s1.heap.objs.size ∨ c = s1.heap.objs.size + 1 := by simpa using hcm
  have h5 : ∀ m : Nat, m = s1.heap.objs.size + 4 ∨ m = s1.heap.objs.size + 2 ∨ m = s1.heap.objs.size + 3 ∨ m = s1.heap.objs.size ∨ m = s1.heap.objs.size + 1 → s1.heap.objs.size ≤ m := fun m hm => by omega
  exact I1.fpOk (h5 c e') (I1.hok.fresh (h5 c e'))
end K0
namespace K0
open PySem PySem.Spec PyProof.Rows L2
def sameV : V → Bool
  | .ref _ => true
  | v => flatB v
section
variable {X : Cx}
/-- xs != ys, two lists of the same values -/
def rNeSame (K : PySem.W.Frag) : R2 := fun x y H Q => ∃ (a b : Addr) (xs : List V), x = .ref a ∧ y = .ref b ∧ SqL K H a xs ∧ SqL K H b xs ∧ xs.all sameV = true ∧ Q (.bl false) H
theorem eqAt_sameV {A : Around} {s : Shared} {v : V} {u u' : Value} (r : RelV v u) (r' : RelV v u') (f : sameV v = true) : SeqAt.EqAt A s u u' true := by
  cases v with
  | ref a =>
    cases (show u = Value.ref a from r)
    cases (show u' = Value.ref a from r')
    exact SeqAt.EqAt.same _
  | non => exact eqAt_same r r' f
  | bl b => exact eqAt_same r r' f
  | int i => exact eqAt_same r r' f
  | str x => exact eqAt_same r r' f
  | byt b => exact eqAt_same r r' f
  | flt b => exact eqAt_same r r' f
  | ty n => exact eqAt_same r r' f
theorem op_neSame (hu : X.A.units + 1 < cLine) : OpR X (compareOp .NotEq) (rNeSame X.K) := by
  intro pins s σ H x y v u Q I rx ry h
  obtain ⟨a, b, xs, rfl, rfl, ha, hb, hs, q⟩ := h
  cases (show v = Value.ref a from rx)
  cases (show u = Value.ref b from ry)
  obtain ⟨us, r1, p1, _⟩ := I.list ha
  obtain ⟨ws, r2, p2, _⟩ := I.list hb
  have hsz : us.toArray.size = ws.toArray.size := by
    rw [List.size_toArray, List.size_toArray, ← r1.length, ← r2.length]
  have hall := List.all_eq_true.mp hs
  refine SeqAt.RcNeAt.lists (e := fun _ => true) p1.isList p2.isList hsz (by omega) (fun j h1 h2 => ?_) _ _ _ _ ?_
  · have hj : j < xs.length := by
      rw [r1.length]
      simpa using h1
    have e : xs[j]? = some xs[j] := by simp [hj]
    obtain ⟨u1, e1, q1⟩ := r1.get e
    obtain ⟨u2, e2, q2⟩ := r2.get e
    have z1 : us.toArray[j] = u1 := by
      have h1' : j < us.length := by simpa using h1
      rw [List.getElem?_eq_getElem h1'] at e1
      simpa using Option.some.inj e1
    have z2 : ws.toArray[j] = u2 := by
      have h2' : j < ws.length := by simpa using h2
      rw [List.getElem?_eq_getElem h2'] at e2
      simpa using Option.some.inj e2
    rw [z1, z2]
    exact eqAt_sameV q1 q2 (hall _ (List.getElem_mem hj))
  · rw [show ((List.range us.toArray.size).all fun _ => true) = true from List.all_eq_true.mpr fun _ _ => rfl]
    exact ⟨.bl false, H, I, rfl, q⟩

/-- list(text) -/
def sgn (x : Str) : List V := x.cps.toList.map fun c => .str ⟨#[c]⟩
def rListS : List V → Hp → VK → Prop := fun xs H Q => ∃ x : Str, xs = [.str x] ∧ x.length ≤ sizeLine ∧ ∀ l, H l = none → Q (.ref l) (upd H l (.lst (sgn x)))
theorem call_listS (hc : X.calm = true) : CallR X (.type "list") rListS := by
  intro pins s σ H xs us Q I r h
  obtain ⟨x, rfl, hz, q⟩ := h
  obtain ⟨u, rfl, rx⟩ := vals1 r
  obtain ⟨t, rfl⟩ := (show ∃ t, u = Value.str x t from rx)
  refine call_list_str (I.ok.hd hc) x t (hn := hz) fun h' tk acc' c' hk hS hacc => ?_
  have rv : Vals (sgn x) acc'.toList := by
    have key : ∀ (l : List Nat) (us : List Value), us.length = l.length → (∀ (j : Nat) (v : Value), us[j]? = some v → ∃ c u, l[j]? = some c ∧ v = .str ⟨#[c]⟩ u) → Vals (l.map fun c => V.str ⟨#[c]⟩) us := by
      intro l
      induction l with
      | nil =>
        intro us hl _
        cases us with
        | nil => exact .nil
        | cons _ _ => cases hl
      | cons c l ih =>
        intro us hl hu
        cases us with
        | nil => cases hl
        | cons v us =>
          obtain ⟨c', u', e1, e2⟩ := hu 0 v rfl
          have e3 : c = c' := by simpa using e1
          subst e3 e2
          refine .cons ⟨u', rfl⟩ (ih us (by simpa using hl) fun j w hw => ?_)
          simpa using hu (j + 1) w (by simpa using hw)
    refine key _ _ (by simp [hacc.1]) fun j v hv => ?_
    obtain ⟨c, u, e1, e2⟩ := hacc.2 j v (by simpa using hv)
    exact ⟨c, u, by simpa using e1, e2⟩
  refine ⟨.ref s.heap.objs.size, _, I.laid (t' := tk) (o := .lst (sgn x)) hk (Nat.le_refl _) ?_, rfl, q _ (I.hok.fresh (Nat.le_refl _))⟩
  exact ⟨by simpa [sgn, Str.length] using hz, acc'.toList, c', rv, hS⟩

/-- text * k -/
def repS (x : Str) (n : Nat) : Str := ⟨(List.replicate n x.cps).foldl (· ++ ·) #[]⟩
def rMulS : R2 := fun x y H Q => ∃ (z : Str) (k : Int), x = .str z ∧ y = .int k ∧ z.length = 1 ∧ k ≤ 1000 ∧ -1000 ≤ k ∧ Q (.str ⟨Array.replicate k.toNat (z.cps.getD 0 0)⟩) H
theorem foldl_one (c : Nat) : ∀ (n : Nat) (acc : Array Nat), (List.replicate n #[c]).foldl (· ++ ·) acc = acc ++ Array.replicate n c
  | 0, acc => by simp
  | n + 1, acc => by
    rw [List.replicate_succ, List.foldl_cons, foldl_one c n]
    apply Array.ext'
    simp [List.replicate_succ]
theorem op_mulS : OpR X (binaryOp .Mult) rMulS := by
  intro pins s σ H x y v u Q I rx ry h
  obtain ⟨z, k, rfl, rfl, hz, h1, h2, q⟩ := h
  obtain ⟨t, rfl⟩ := (show ∃ t, v = Value.str z t from rx)
  obtain ⟨t', rfl⟩ := (show ∃ t, u = Value.int k t from ry)
  have hzc : z.cps = #[z.cps.getD 0 0] := by
    obtain ⟨a⟩ := z
    obtain ⟨l⟩ := a
    match l, hz with
    | [c], _ => rfl
  refine PySem.P.mul_str ?_ ?_ ?_ ?_
  · have a1 : ¬ k < -(2 ^ 63 : Int) := by omega
    have a2 : ¬ k ≥ 2 ^ 63 := by omega
    rw [decide_eq_false a1, decide_eq_false a2]
    rfl
  · intro a b
    have : (1 : Int) ≤ k := by omega
    have hz' : (z.length : Int) = 1 := by rw [hz]; rfl
    rw [hz']
    have : (2 ^ 63 - 1) / k ≥ (2 ^ 63 - 1) / 1000 := by
      apply Int.le_ediv_of_mul_le (by omega)
      have : (2 ^ 63 - 1 : Int) / 1000 * k ≤ (2 ^ 63 - 1 : Int) / 1000 * 1000 := Int.mul_le_mul_of_nonneg_left h1 (by decide)
      omega
    omega
  · intro a b
    rw [hz, Nat.one_mul]
    have : k.toNat ≤ 1000 := by omega
    refine decide_eq_false ?_
    rw [sizeLine_eq]
    omega
  · split
    · rename_i hk
      have e : k.toNat = 0 := by omega
      rw [e] at q
      refine ⟨by decide, ?_⟩
      exact ⟨.str _, H, I.tok _, ⟨_, rfl⟩, q⟩
    · split
      · rename_i hk hb
        have e : k = 1 := by
          rw [hz] at hb
          simpa using hb
        subst e
        have e2 : (⟨Array.replicate (Int.toNat 1) (z.cps.getD 0 0)⟩ : Str) = z := by
          have e3 : Array.replicate (Int.toNat 1) (z.cps.getD 0 0) = #[z.cps.getD 0 0] := rfl
          rw [e3, ← hzc]
        rw [e2] at q
        exact ⟨.str z, H, I, ⟨_, rfl⟩, q⟩
      · refine ⟨?_, ?_⟩
        · rw [hzc, foldl_one]
          show (#[] ++ Array.replicate k.toNat (z.cps.getD 0 0)).size ≤ sizeLine
          rw [Array.size_append, Array.size_replicate, sizeLine_eq]
          show 0 + k.toNat ≤ 16777216
          omega
        · have e : (⟨(List.replicate k.toNat z.cps).foldl (· ++ ·) #[]⟩ : Str) = ⟨Array.replicate k.toNat (z.cps.getD 0 0)⟩ := by
            rw [hzc, foldl_one]
            simp
          rw [e]
          exact ⟨.str _, H, I.tok _, ⟨_, rfl⟩, q⟩
end
end K0
/-! texts as lists of code points, the letters; small words on heaps -/
namespace K0
open PySem PySem.Spec PyProof.Rows L2
def Tx (l : List Nat) : Str := ⟨l.toArray⟩
theorem tx_list (l : List Nat) : (Tx l).cps.toList = l := by simp [Tx]
theorem tx_len (l : List Nat) : (Tx l).length = l.length := by show l.toArray.size = l.length; simp
theorem tx_of (z : Str) : Tx z.cps.toList = z := by
  obtain ⟨a⟩ := z
  simp [Tx]
theorem tx_inj {l k : List Nat} (h : Tx l = Tx k) : l = k := by
  have := congrArg (fun z : Str => z.cps.toList) h
  simpa [Tx] using this
theorem tx_one (c : Nat) : (⟨#[c]⟩ : Str) = Tx [c] := rfl
theorem tx_app (l k : List Nat) : Tx l ++ Tx k = Tx (l ++ k) := by
  show (⟨l.toArray ++ k.toArray⟩ : Str) = ⟨(l ++ k).toArray⟩
  simp
theorem tx_nil : (Str.empty) = Tx [] := rfl
def isaz (c : Nat) : Bool := decide (97 ≤ c) && decide (c ≤ 122)
def is09 (c : Nat) : Bool := decide (48 ≤ c) && decide (c ≤ 57)
def lw (l : List Nat) : Bool := l.all isaz
/-- signs below 128, by trial -/
def signOk (c : Nat) : Bool :=
  (Unicode.isAlpha c == (isaz c || (decide (65 ≤ c) && decide (c ≤ 90)))) && (Unicode.isLower c == isaz c) && (Unicode.isUpper c == (decide (65 ≤ c) && decide (c ≤ 90))) && (Unicode.isTitle c == false) &&
  (Unicode.isAlnum c == (isaz c || is09 c || (decide (65 ≤ c) && decide (c ≤ 90))))
theorem signs_ok : ∀ c, c < 128 → signOk c = true := by
  have h : (List.range 128).all signOk = true := by decide +kernel
  intro c hc
  exact List.all_eq_true.mp h c (List.mem_range.mpr hc)
theorem sign_facts {c : Nat} (h : c < 128) : Unicode.isAlpha c = (isaz c || (decide (65 ≤ c) && decide (c ≤ 90))) ∧ Unicode.isLower c = isaz c ∧ Unicode.isUpper c = (decide (65 ≤ c) && decide (c ≤ 90)) ∧ Unicode.isTitle c = false ∧
    Unicode.isAlnum c = (isaz c || is09 c || (decide (65 ≤ c) && decide (c ≤ 90))) := by
  have q := signs_ok c h
  unfold signOk at q
  simp only [Bool.and_eq_true, beq_iff_eq] at q
  exact ⟨q.1.1.1.1, q.1.1.1.2, q.1.1.2, q.1.2, q.2⟩
theorem az_lt {c : Nat} (h : isaz c = true) : c < 128 := by
  unfold isaz at h
  simp only [Bool.and_eq_true, decide_eq_true_eq] at h
  omega
theorem all_arr (l : List Nat) (p : Nat → Bool) : (Tx l).cps.all p = l.all p := by simp [Tx]
theorem any_arr (l : List Nat) (p : Nat → Bool) : (Tx l).cps.any p = l.any p := by simp [Tx]
theorem lw_of {l : List Nat} (hl : l ≠ []) : lw l = (Txt.isascii (Tx l) && (Txt.isalpha (Tx l) && Txt.islower (Tx l))) := by
  unfold Txt.isascii Txt.isalpha Txt.islower lw
  rw [all_arr, all_arr, any_arr, any_arr, tx_len]
  have hp : decide (l.length > 0) = true := by
    cases l with
    | nil => exact absurd rfl hl
    | cons a r => simp
  rw [hp, Bool.true_and]
  by_cases h : l.all isaz = true
  · have h1 : ∀ c ∈ l, isaz c = true := List.all_eq_true.mp h
    rw [h]
    symm
    simp only [Bool.and_eq_true, List.all_eq_true, List.any_eq_true, Bool.not_eq_true', decide_eq_true_eq]
    refine ⟨fun c hc => az_lt (h1 c hc), fun c hc => ?_, ?_, ?_⟩
    · rw [(sign_facts (az_lt (h1 c hc))).1, h1 c hc, Bool.true_or]
    · obtain ⟨a, r, e⟩ : ∃ a r, l = a :: r := by
        cases l with
        | nil => exact absurd rfl hl
        | cons a r => exact ⟨a, r, rfl⟩
      have ha : a ∈ l := by rw [e]; exact List.mem_cons_self
      exact ⟨a, ha, by rw [(sign_facts (az_lt (h1 a ha))).2.1]; exact h1 a ha⟩
    · rw [List.any_eq_false]
      intro c hc
      rw [(sign_facts (az_lt (h1 c hc))).2.2.1, (sign_facts (az_lt (h1 c hc))).2.2.2.1]
      have := h1 c hc
      unfold isaz at this
      simp only [Bool.and_eq_true, decide_eq_true_eq] at this
      have e : decide (c ≤ 90) = false := decide_eq_false (by omega)
      rw [e]
      simp
  · have h0 : l.all isaz = false := by simpa using h
    rw [h0]
    symm
    rw [Bool.eq_false_iff]
    intro q
    apply h
    simp only [Bool.and_eq_true, List.all_eq_true, Bool.not_eq_true', decide_eq_true_eq] at q
    obtain ⟨q1, q2, q3, q4⟩ := q
    rw [List.any_eq_false] at q4
    refine List.all_eq_true.mpr fun c hc => ?_
    have k := sign_facts (q1 c hc)
    have a1 := q2 c hc
    have a2 := q4 c hc
    rw [k.1] at a1
    rw [k.2.2.1, k.2.2.2.1] at a2
    cases hz : isaz c with
    | true => rfl
    | false =>
      rw [hz, Bool.false_or] at a1
      rw [a1] at a2
      simp at a2
/-! adjacent signs rise -/
def ris : List Nat → Bool
  | [] => true
  | [_] => true
  | a :: b :: r => decide (a < b) && ris (b :: r)
theorem ris_at : ∀ l : List Nat, ris l = ((List.range (l.length - 1)).map fun i => decide (l.getD i 0 < l.getD (i + 1) 0)).all id
  | [] => rfl
  | [_] => rfl
  | a :: b :: r => by
    have ih := ris_at (b :: r)
    unfold ris
    rw [ih]
    have e : (a :: b :: r).length - 1 = ((b :: r).length - 1) + 1 := by simp
    rw [e, List.range_succ_eq_map]
    simp [List.all_map, Function.comp_def]
/-! heaps -/
theorem Sm.new {H : Hp} {p : Addr} {o : HO} (h : H p = none) : Same H (upd H p o) := fun a u e => by
  rw [upd_ne (ne_of_none e h)]
  exact e
theorem Sm.put {H1 H : Hp} {p : Addr} {o : HO} (s : Same H1 H) (h : H1 p = none) : Same H1 (upd H p o) := fun a u e => by
  rw [upd_ne (ne_of_none e h)]
  exact s a u e
theorem tyx_same {K : PySem.W.Frag} {H H' : Hp} {v : V} {t : Value} (s : Same H H') (h : TyX K H v t) : TyX K H' v t := by
  cases h with
  | base b =>
    refine .base ?_
    cases b with
    | non => exact .non
    | bl x => exact .bl x
    | int i => exact .int i
    | str x => exact .str x
    | flt x => exact .flt x
    | lst e => exact .lst (s _ _ e)
    | frz e => exact .frz (s _ _ e)
    | tup e => exact .tup (s _ _ e)
    | dK e => exact .dK (s _ _ e)
    | dT e => exact .dT (s _ _ e)
    | ins e a b c d f => exact .ins (s _ _ e) a b c d f
  | byt b => exact .byt b
  | set e => exact .set (s _ _ e)
  | kList e c => exact .kList e c
  | kTuple e c => exact .kTuple e c
  | kDict e c => exact .kDict e c
  | fTuple e => exact .fTuple (s _ _ e)
  | fDict e => exact .fDict (s _ _ e)
/-- a list that grows at D, all else of H1 as it was -/
def SPv (H1 : Hp) (D : Addr) (acc : Nat → List V) (i : Nat) (H : Hp) : Prop := Same H1 H ∧ H D = some (.lst (acc i))
theorem spv0 {H1 : Hp} {D : Addr} {acc : Nat → List V} (hD : H1 D = none) (h : acc 0 = []) : SPv H1 D acc 0 (upd H1 D (.lst [])) := ⟨Sm.new hD, by rw [upd_same, h]⟩
theorem spv_put {H1 H : Hp} {D : Addr} {acc : Nat → List V} {i : Nat} {y : V} (hD : H1 D = none) (p : Same H1 H) (q : H D = some (.lst (acc i))) (hl : (acc i).length < 100000) (e : acc (i + 1) = acc i ++ [y]) :
    ∃ a, H D = some (.lst a) ∧ a.length < sizeLine ∧ SPv H1 D acc (i + 1) (upd H D (.lst (a ++ [y]))) :=
  ⟨_, q, Nat.lt_of_lt_of_le hl (by decide), Sm.put p hD, by rw [upd_same, e]⟩
theorem map_range_succ {α : Type} (f : Nat → α) (i : Nat) : (List.range (i + 1)).map f = (List.range i).map f ++ [f i] := by
  rw [List.range_succ, List.map_append]
  rfl
theorem walk_zs {x y : Str} {n : Nat} (hn : n = min x.cps.size y.cps.size) : Walk (Itzs x y) n (fun _ => True)
    (fun i H v H' => ∃ T c d, v = .ref T ∧ H T = none ∧ H' = upd H T (.tup [.str ⟨#[c]⟩, .str ⟨#[d]⟩]) ∧ x.cps[i]? = some c ∧ y.cps[i]? = some d) := by
  subst hn
  refine ⟨fun i _ hi _ => ⟨by omega, by omega⟩, fun _ _ => ⟨?_, by omega, by omega⟩, fun _ _ _ _ _ _ y => y⟩
  omega
end K0
namespace K0
open PySem PySem.Spec PyProof.Rows L2
def top (i : Nat) : Stmt := PySem.Challenge.pw_foretongue_k00_errors_and_checks.main.body.getD i (.Pass ⟨0, 0, 0, 0⟩)
/-- the built-in names that no def hides -/
structure Blt (mg : Str → Option Value) : Prop where
  n_len : mg "len" = none
  n_isinstance : mg "isinstance" = none
  n_int : mg "int" = none
  n_bool : mg "bool" = none
  n_str : mg "str" = none
  n_list : mg "list" = none
  n_tuple : mg "tuple" = none
  n_all : mg "all" = none
  n_zip : mg "zip" = none
  n_set : mg "set" = none
  n_abs : mg "abs" = none
  n_range : mg "range" = none
  n_enumerate : mg "enumerate" = none
  n_sorted : mg "sorted" = none
/-- a def of the text that keeps its promise, as its callers use it -/
structure Cal (P : Program) (w : World) (K : PySem.W.Frag) (mg : Str → Option Value) (base : Heap) (k : Nat) (x : Str) (st : Stmt) (ps : List Str) (sp : Sp) : Prop where
  ex : ∃ (f : Addr) (fd : FuncData), Fun K x x st f fd ∧ mg x = some (.ref f) ∧ Binds K fd ps [] ∧ FnOk P w K mg base CX0 k f fd ps sp
section
variable {X : Cx} {k k' : Nat} {x : Str} {st : Stmt} {ps : List Str} {sp : Sp} {p pos : Pos} {e : Expr} {es : List Expr} {t : TA}
theorem pe_cl (C : Cal X.prog X.w X.K X.mg X.base k x st ps sp) (hr : Room k X.A) (hg : Gl X x) (ha : PA X (e :: es) t)
    (hdb : (x == ("__debug__" : Str)) = false := by decide) (he : starEach (e :: es) X.env = (false, eval e X.env) :: starEach es X.env := by rfl)
    (hpl : (backTo pos (starEach es X.env)).any (·.1) = false := by rfl) : PE X (.Call (.Name x p) (e :: es) [] pos) (tCall sp [] E0 t) := by
  obtain ⟨f, fd, F, hm, hb, G⟩ := C.ex
  exact pe_call G hr hg hm F.kp hb .nil pass0 ha hdb he hpl
end
/-! ### kinds of values -/
/-- v is a plain value of the type named n -/
def Kd (K : PySem.W.Frag) (H : Hp) (v : V) (n : String) : Prop := TyX K H v (.type n) ∧ n ∈ ["NoneType", "bool", "int", "str", "list", "tuple", "dict"]
theorem kd_kit {K : PySem.W.Frag} {n : String} (h : n ∈ ["NoneType", "bool", "int", "str", "list", "tuple", "dict"]) :
    PySem.W.kitOne K (.type n) (.type "int") = some (n == "int" || n == "bool") ∧ PySem.W.kitOne K (.type n) (.type "bool") = some (n == "bool") ∧
    PySem.W.kitOne K (.type n) (.type "str") = some (n == "str") ∧ PySem.W.kitOne K (.type n) (.type "list") = some (n == "list") ∧ PySem.W.kitOne K (.type n) (.type "tuple") = some (n == "tuple") := by
  simp only [List.mem_cons, List.not_mem_nil, or_false] at h
  rcases h with rfl | rfl | rfl | rfl | rfl | rfl | rfl <;> exact ⟨kit_ty (by decide +kernel), kit_ty (by decide +kernel), kit_ty (by decide +kernel), kit_ty (by decide +kernel), kit_ty (by decide +kernel)⟩
section
variable {P : Program} {w : World} {K : PySem.W.Frag} {mg : Str → Option Value} {base : Heap}
/-! ### is_integer -/
abbrev st_is_integer : Stmt := top 1
abbrev nm_is_integer : List Str := ["value"]
theorem sc_is_integer : FnScope nm_is_integer ["value"] (defScope st_is_integer) := ⟨rfl, rfl, rfl, by decide +kernel, rfl, by decide +kernel, by decide +kernel⟩
def spIsInteger (K : PySem.W.Frag) : Sp := fun vs H Q _ => ∃ (v : V) (n : String), vs = [v] ∧ Kd K H v n ∧ Q (.bl (n == "int")) H
theorem ok_is_integer {f : Addr} {fd : FuncData} (F : Fun K "is_integer" "is_integer" st_is_integer f fd) (T : Blt mg) : FnOk P w K mg base CX0 1 f fd ["value"] (spIsInteger K) := by
  refine F.ok sc_is_integer (fun vs H Q E h => ?_) (fun cdv A outer s H vs Q E hr h => ?_)
  · obtain ⟨v, n, rfl, _⟩ := h
    rfl
  · obtain ⟨v, n, rfl, ⟨ty, hn⟩, q⟩ := h
    obtain ⟨k1, k2, _⟩ := kd_kit (K := K) hn
    refine ⟨_, (pss_one (ps_ret (pe_and (pe_callB call_isi (by rfl) T.n_isinstance (by decide +kernel) (pa_cons (pv 0) (pa_cons (pe_bltn (v := .ty "int") (by rfl) T.n_int (by decide +kernel) rfl) pa_nil))) (pe_one (pe_not (pe_callB call_isi (by rfl) T.n_isinstance (by decide +kernel) (pa_cons (pv 0) (pa_cons (pe_bltn (v := .ty "bool") (by rfl) T.n_bool (by decide +kernel) rfl) pa_nil)))))))), ?_⟩
    refine ⟨_, rfl, v, _, _, _, _, rfl, .ty "int", ty, k1, _, rfl, ?_⟩
    by_cases c : (n == "int" || n == "bool") = true
    · rw [if_pos c]
      refine ⟨_, rfl, v, _, _, _, _, rfl, .ty "bool", ty, k2, _, rfl, ?_⟩
      have e : (!(n == "bool")) = (n == "int") := by
        simp only [List.mem_cons, List.not_mem_nil, or_false] at hn
        rcases hn with rfl | rfl | rfl | rfl | rfl | rfl | rfl <;> first | rfl | (revert c; decide)
      rw [e]
      exact q
    · rw [if_neg c]
      have e : (n == "int") = false := by
        simp only [List.mem_cons, List.not_mem_nil, or_false] at hn
        rcases hn with rfl | rfl | rfl | rfl | rfl | rfl | rfl <;> first | rfl | (revert c; decide)
      rw [e] at q
      exact q
/-! ### is_within -/
def okLo : V → Int → Bool
  | .int l, i => decide (l ≤ i)
  | _, _ => true
def okHi : V → Int → Bool
  | .int l, i => decide (i ≤ l)
  | _, _ => true
def Bnd (v : V) : Prop := v = .non ∨ ∃ l, v = .int l
theorem kd_int {H : Hp} {i : Int} : Kd K H (.int i) "int" := ⟨.base (.int i), by decide⟩
theorem kd_str {H : Hp} {z : Str} : Kd K H (.str z) "str" := ⟨.base (.str z), by decide⟩
abbrev st_is_within : Stmt := top 2
abbrev nm_is_within : List Str := ["value", "least", "most"]
theorem sc_is_within : FnScope nm_is_within ["value", "least", "most"] (defScope st_is_within) := ⟨rfl, rfl, rfl, by decide +kernel, rfl, by decide +kernel, by decide +kernel⟩
def spIsWithin (K : PySem.W.Frag) : Sp := fun vs H Q _ => ∃ (v lo hi : V), vs = [v, lo, hi] ∧ ((∃ n, Kd K H v n ∧ (n == "int") = false ∧ Q (.bl false) H) ∨
  ∃ i, v = .int i ∧ Bnd lo ∧ Bnd hi ∧ Q (.bl (okLo lo i && okHi hi i)) H)
theorem ok_is_within {f : Addr} {fd : FuncData} (F : Fun K "is_within" "is_within" st_is_within f fd) (T : Blt mg)
    (C_is_integer : Cal P w K mg base 1 "is_integer" st_is_integer ["value"] (spIsInteger K)) : FnOk P w K mg base CX0 2 f fd ["value", "least", "most"] (spIsWithin K) := by
  refine F.ok sc_is_within (fun vs H Q E h => ?_) (fun cdv A outer s H vs Q E hr h => ?_)
  · obtain ⟨v, lo, hi, rfl, _⟩ := h
    rfl
  · refine ⟨_, (pss_cons (ps_if (pt_not (pt_val (pe_cl C_is_integer (hr.mono (by decide)) rfl (pa_cons (pv 0) pa_nil)))) (pss_one (ps_ret pe_bl)) pss_nil)
  (pss_one (ps_ret (pe_and (pe_or (pe_cmpR op_isN (pv 1) pe_non (nomark _)) (pe_one (pe_cmpR op_le (pv 1) (pv 0) (nomark _)))) (pe_one (pe_or (pe_cmpR op_isN (pv 2) pe_non (nomark _)) (pe_one (pe_cmpR op_le (pv 0) (pv 2) (nomark _))))))))), ?_⟩
    obtain ⟨v, lo, hi, rfl, h⟩ := h
    rcases h with ⟨n, kd, hn, q⟩ | ⟨i, rfl, b1, b2, q⟩
    · refine ⟨_, rfl, v, n, rfl, kd, _, rfl, ?_⟩
      rw [hn]
      exact q
    · refine ⟨_, rfl, _, _, rfl, kd_int, _, rfl, ?_⟩
      have last : ∀ Q' : VK, Q' (.bl (okHi hi i)) H → (tOrV (tOp (fun x y H Q => y = .non ∧ Q (.bl (decide (x = .non))) H) (tVar 2) (tC .non)) (tOp (rI0 fun i j => .bl (decide (i ≤ j))) (tVar 0) (tVar 2))) [some (.int i), some lo, some hi] H Q' := by
        intro Q' q'
        rcases b2 with rfl | ⟨m, rfl⟩
        · exact ⟨_, rfl, rfl, _, rfl, q'⟩
        · exact ⟨_, rfl, rfl, _, rfl, _, rfl, _, rfl, _, _, rfl, rfl, q'⟩
      rcases b1 with rfl | ⟨m, rfl⟩
      · refine ⟨_, rfl, rfl, _, rfl, ?_⟩
        exact ⟨_, rfl, last _ (by simpa [okLo] using q)⟩
      · refine ⟨_, rfl, rfl, _, rfl, _, rfl, _, rfl, _, _, rfl, rfl, ?_⟩
        refine ⟨decide (m ≤ i), rfl, ite2 (fun c => ?_) (fun c => ?_)⟩
        · exact last _ (by simpa [okLo, of_decide_eq_true c] using q)
        · exact (by simpa [okLo, show ¬ m ≤ i from fun z => c (decide_eq_true z)] using q)
/-! ### is_list -/
abbrev st_is_list : Stmt := top 3
abbrev nm_is_list : List Str := ["value"]
theorem sc_is_list : FnScope nm_is_list ["value"] (defScope st_is_list) := ⟨rfl, rfl, rfl, by decide +kernel, rfl, by decide +kernel, by decide +kernel⟩
def spIsList (K : PySem.W.Frag) : Sp := fun vs H Q _ => ∃ (v : V) (n : String), vs = [v] ∧ Kd K H v n ∧ ∀ H', Same H H' → Q (.bl (n == "list" || n == "tuple")) H'
theorem ok_is_list {f : Addr} {fd : FuncData} (F : Fun K "is_list" "is_list" st_is_list f fd) (T : Blt mg) : FnOk P w K mg base CX0 1 f fd ["value"] (spIsList K) := by
  refine F.ok sc_is_list (fun vs H Q E h => ?_) (fun cdv A outer s H vs Q E hr h => ?_)
  · obtain ⟨v, n, rfl, _⟩ := h
    rfl
  · obtain ⟨v, n, rfl, ⟨ty, hn⟩, q⟩ := h
    obtain ⟨_, _, _, k4, k5⟩ := kd_kit (K := K) hn
    refine ⟨_, (pss_one (ps_ret (pe_callB call_isiT (by rfl) T.n_isinstance (by decide +kernel) (pa_cons (pv 0) (pa_cons (pe_tup (pa_cons (pe_bltn (v := .ty "list") (by rfl) T.n_list (by decide +kernel) rfl) (pa_cons (pe_bltn (v := .ty "tuple") (by rfl) T.n_tuple (by decide +kernel) rfl) pa_nil))) pa_nil))))), ?_⟩
    refine ⟨_, rfl, (by show 2 ≤ sizeLine; decide), fun p hp => ?_⟩
    refine ⟨v, p, _, _, _, (n == "list" || n == "tuple"), rfl, upd_same, .cons (.ty "list") (.cons (.ty "tuple") .nil), tyx_same (Sm.new hp) ty, ?_, q _ (Sm.new hp)⟩
    refine kitAny_cons k4 (fun e => ?_) (fun e => by rw [e]; rfl)
    rw [e, Bool.false_or]
    exact kitAny_cons k5 (fun e2 => by rw [e2]; exact kitAny_nil) (fun e2 => e2)
/-! ### is_long_word -/
abbrev st_is_long_word : Stmt := top 4
abbrev nm_is_long_word : List Str := ["value"]
theorem sc_is_long_word : FnScope nm_is_long_word ["value"] (defScope st_is_long_word) := ⟨rfl, rfl, rfl, by decide +kernel, rfl, by decide +kernel, by decide +kernel⟩
/-- a text by its signs, or a value of another kind -/
def Sov (K : PySem.W.Frag) (H : Hp) (v : V) (q : List Nat → Prop) (r : Prop) : Prop := (∃ l, v = .str (Tx l) ∧ l.length ≤ 1000 ∧ q l) ∨ (∃ n, Kd K H v n ∧ (n == "str") = false ∧ r)
def spIsLongWord (K : PySem.W.Frag) : Sp := fun vs H Q _ => ∃ v, vs = [v] ∧ Sov K H v (fun l => Q (.bl (lw l)) H) (Q (.bl false) H)
theorem ok_is_long_word {f : Addr} {fd : FuncData} (F : Fun K "is_long_word" "is_long_word" st_is_long_word f fd) (T : Blt mg) : FnOk P w K mg base CX0 1 f fd ["value"] (spIsLongWord K) := by
  refine F.ok sc_is_long_word (fun vs H Q E h => ?_) (fun cdv A outer s H vs Q E hr h => ?_)
  · obtain ⟨v, rfl, _⟩ := h
    rfl
  · refine ⟨_, (pss_cons (ps_if (pt_not (pt_val (pe_callB call_isi (by rfl) T.n_isinstance (by decide +kernel) (pa_cons (pv 0) (pa_cons (pe_bltn (v := .ty "str") (by rfl) T.n_str (by decide +kernel) rfl) pa_nil))))) (pss_one (ps_ret pe_bl)) pss_nil)
  (pss_one (ps_ret (pe_or (pe_cmpR op_eq (pv 0) pe_str (nomark _)) (pe_one (pe_and (pe_m0 PySem.F.slot_str_isascii PySem.F.type_str_isascii mt_isascii (pv 0)) (pe_and (pe_m0 PySem.F.slot_str_isalpha PySem.F.type_str_isalpha mt_isalpha (pv 0)) (pe_one (pe_m0 PySem.F.slot_str_islower PySem.F.type_str_islower mt_islower (pv 0)))))))))), ?_⟩
    obtain ⟨v, rfl, ⟨l, rfl, hl, q⟩ | ⟨n, ⟨ty, hn⟩, e, q⟩⟩ := h
    · refine ⟨_, rfl, _, _, _, _, _, rfl, .ty "str", .base (.str _), kit_ty (b := "str") (r := true) (by decide +kernel), _, rfl, ?_⟩
      refine iteF ?_
      refine ⟨_, rfl, rfl, _, rfl, ?_⟩
      by_cases c : l = []
      · subst c
        exact q
      · have e1 : decide (V.str (Tx l) = V.str (Str.ofString "")) = false := decide_eq_false fun z => c (tx_inj (V.str.inj z))
        refine (congrArg (fun b : Bool => if b = true then Q (V.bl true) H else _) e1).mpr ?_
        refine iteF ?_
        rw [lw_of c] at q
        refine ⟨_, rfl, ⟨_, rfl⟩, _, rfl, rfl, trivial, _, rfl, ?_⟩
        cases h1 : Txt.isascii (Tx l)
        · rw [h1] at q
          exact q
        · rw [h1] at q
          refine ⟨_, rfl, ⟨_, rfl⟩, _, rfl, rfl, trivial, _, rfl, ?_⟩
          cases h2 : Txt.isalpha (Tx l)
          · rw [h2] at q
            exact q
          · rw [h2] at q
            exact ⟨_, rfl, ⟨_, rfl⟩, _, rfl, rfl, trivial, q⟩
    · obtain ⟨_, _, k3, _, _⟩ := kd_kit (K := K) hn
      refine ⟨_, rfl, v, _, _, _, _, rfl, .ty "str", ty, k3, _, rfl, ?_⟩
      rw [e]
      exact q
end
end K0
namespace K0
open PySem PySem.Spec PyProof.Rows L2
theorem cut_from (l : List Nat) (a : Nat) : cutS (Tx l) (some (a : Int)) none = Tx (l.drop a) := by
  unfold cutS
  rw [tx_list, tx_len, HT.sIx_nat, HT.sIx_none]
  show (⟨((l.drop (min a l.length)).take (l.length - min a l.length)).toArray⟩ : Str) = ⟨(l.drop a).toArray⟩
  have e : (l.drop (min a l.length)).take (l.length - min a l.length) = l.drop a := by
    rw [List.take_of_length_le (by rw [List.length_drop]; exact Nat.le_refl _)]
    by_cases h : a ≤ l.length
    · rw [Nat.min_eq_left h]
    · rw [Nat.min_eq_right (by omega), List.drop_of_length_le (Nat.le_refl _), List.drop_of_length_le (by omega)]
  rw [e]
theorem cut_to (l : List Nat) (b : Nat) : cutS (Tx l) none (some (b : Int)) = Tx (l.take b) := by
  unfold cutS
  rw [tx_list, tx_len, HT.sIx_nat, HT.sIx_none]
  show (⟨((l.drop 0).take (min b l.length - 0)).toArray⟩ : Str) = ⟨(l.take b).toArray⟩
  have e : (l.drop 0).take (min b l.length - 0) = l.take b := by
    rw [List.drop_zero, Nat.sub_zero]
    by_cases h : b ≤ l.length
    · rw [Nat.min_eq_left h]
    · rw [Nat.min_eq_right (by omega), List.take_of_length_le (Nat.le_refl _), List.take_of_length_le (by omega)]
  rw [e]
theorem getD_of {l : List Nat} {i c : Nat} (h : l[i]? = some c) : l.getD i 0 = c := by
  rw [List.getD_eq_getElem?_getD, h]
  rfl
theorem tx_at {l : List Nat} {i c : Nat} (h : (Tx l).cps[i]? = some c) : l[i]? = some c := by simpa [Tx] using h
theorem tx_size (l : List Nat) : (Tx l).cps.size = l.length := by simp [Tx]
theorem one_lt (a b : Nat) : decide (([a] : List Nat) < [b]) = decide (a < b) := by
  by_cases h : a < b
  · rw [decide_eq_true h, decide_eq_true (List.cons_lt_cons_iff.mpr (.inl h))]
  · rw [decide_eq_false h]
    apply decide_eq_false
    intro z
    rcases List.cons_lt_cons_iff.mp z with z | ⟨_, z⟩
    · exact h z
    · exact absurd z (by simp)
section
variable {P : Program} {w : World} {K : PySem.W.Frag} {mg : Str → Option Value} {base : Heap}
abbrev st_is_rising : Stmt := top 5
abbrev nm_is_rising : List Str := ["signs", "one", "other"]
theorem sc_is_rising : FnScope nm_is_rising ["signs"] (defScope st_is_rising) := ⟨rfl, rfl, rfl, by decide +kernel, rfl, by decide +kernel, by decide +kernel⟩
def spIsRising : Sp := fun vs H Q _ => ∃ l, vs = [.str (Tx l)] ∧ l.length ≤ 1000 ∧ ∀ H', Same H H' → Q (.bl (ris l)) H'
theorem ok_is_rising {f : Addr} {fd : FuncData} (F : Fun K "is_rising" "is_rising" st_is_rising f fd) (T : Blt mg) : FnOk P w K mg base CX0 1 f fd ["signs"] spIsRising := by
  refine F.ok sc_is_rising (fun vs H Q E h => ?_) (fun cdv A outer s H vs Q E hr h => ?_)
  · obtain ⟨l, rfl, _⟩ := h
    rfl
  · obtain ⟨l, rfl, hl, q⟩ := h
    refine ⟨_, (pss_one (ps_ret (pe_callB (cr_all rfl) (by rfl) T.n_all (by decide +kernel) (pa_cons (pe_lc (own := [("one", 1), ("other", 2)]) (g := (gTup K 2 (gCons (gName 1) (gCons (gName 2) gNil)))) (tt := tYes) rfl sc_is_rising.nd (pi_zipS (by rfl) T.n_zip (pa_cons (pv 0) (pa_cons (pe_slice sl_str (pv 0) (po_some pe_int) po_none) pa_nil))) (blkOk_by (N := nm_is_rising) (sc := defScope st_is_rising) (own := [("one", 1), ("other", 2)]) (by decide +kernel)) (fun _ _ _ _ _ => by exact pg_tup rfl (pgs_cons (pg_name (i := 1) sc_is_rising.nd rfl (Or.inl rfl)) (pgs_cons (pg_name (i := 2) sc_is_rising.nd rfl (Or.inl rfl)) pgs_nil))) (fun _ _ _ _ _ => pts_nil) (fun _ _ _ _ _ => (pe_cmpR op_lt_str (pv 1) (pv 2) (nomark _)))) pa_nil)))), ?_⟩
    refine ⟨_, rfl, _, rfl, _, rfl, _, rfl, Nat.le_of_lt (Nat.lt_of_le_of_lt (by rw [tx_len]; exact hl) (by decide : 1000 < sizeLine)), _, _, rfl, fun D hD => ?_⟩
    have e1 : cutS (Tx l) (some 1) none = Tx (l.drop 1) := cut_from l 1
    rw [e1]
    refine lc_it (n := l.length - 1) (walk_zs (by rw [tx_size, tx_size, List.length_drop]; omega)) (SPv H D fun i => ((List.range i).map fun i => decide (l.getD i 0 < l.getD (i + 1) 0)).map V.bl) (spv0 hD rfl) (fun _ _ _ _ => trivial) ?_ ?_
    · rintro i x H2 H3 hi ⟨p1, p2⟩ ⟨Tt, c, d, rfl, hT, rfl, g1, g2⟩
      refine ⟨Tt, _, rfl, SqT.of upd_same, rfl, _, _, rfl, _, _, rfl, rfl, rfl, ?_⟩
      refine ⟨_, rfl, _, rfl, _, _, rfl, rfl, ?_⟩
      have d2 : (l.drop 1)[i]? = some d := tx_at g2
      rw [List.getElem?_drop, Nat.add_comm] at d2
      have ec : l.getD i 0 = c := getD_of (tx_at g1)
      have ed : l.getD (i + 1) 0 = d := getD_of d2
      have e2 : decide ((⟨#[c]⟩ : Str).cps.toList < (⟨#[d]⟩ : Str).cps.toList) = decide (l.getD i 0 < l.getD (i + 1) 0) := by
        rw [ec, ed]
        exact one_lt c d
      rw [e2]
      refine spv_put hD (Same.trans p1 (Sm.new hT)) ((upd_ne (ne_of_none p2 hT)).trans p2) ?_ ?_
      · simp only [List.length_map, List.length_range]
        omega
      · rw [map_range_succ]
        simp
    · rintro H2 ⟨p1, p2⟩
      refine ⟨D, _, rfl, SqL.of p2, ?_⟩
      rw [← ris_at]
      exact q _ p1
/-! ### is_name -/
def nmOk (l : List Nat) : Bool := (decide (1 ≤ l.length) && decide (l.length ≤ 12)) && (l.all fun c => isaz c || is09 c) && isaz (l.getD 0 0)
theorem lo1_eq {c : Nat} (h : c < 128) : (decide (lo1 c = c)) = !(decide (65 ≤ c) && decide (c ≤ 90)) := by
  unfold lo1
  by_cases q : 65 ≤ c ∧ c ≤ 90
  · rw [if_pos q, decide_eq_true q.1, decide_eq_true q.2]
    exact decide_eq_false (by omega)
  · rw [if_neg q, decide_eq_true rfl]
    by_cases q1 : 65 ≤ c
    · rw [decide_eq_true q1, decide_eq_false (show ¬ c ≤ 90 by omega)]
      rfl
    · rw [decide_eq_false q1]
      rfl
theorem low_eq {l : List Nat} (h : Txt.isascii (Tx l) = true) : decide (V.str (Tx l) = V.str (Txt.lower (Tx l))) = l.all fun c => !(decide (65 ≤ c) && decide (c ≤ 90)) := by
  have h1 : ∀ c ∈ l, c < 128 := by
    unfold Txt.isascii at h
    rw [all_arr] at h
    simpa using h
  have e : Txt.lower (Tx l) = Tx (l.map lo1) := by
    rw [lower_ascii (x := Tx l) (by rw [tx_list]; exact h1)]
    simp [Tx]
  rw [e]
  have key : ∀ k : List Nat, (∀ c ∈ k, c < 128) → decide (k = k.map lo1) = k.all fun c => !(decide (65 ≤ c) && decide (c ≤ 90)) := by
    intro k
    induction k with
    | nil => intro _; rfl
    | cons c r ih =>
      intro hk
      rw [List.all_cons, ← ih fun d hd => hk d (List.mem_cons_of_mem _ hd), ← lo1_eq (hk c List.mem_cons_self)]
      by_cases q1 : lo1 c = c
      · by_cases q2 : r = r.map lo1
        · rw [decide_eq_true q1, decide_eq_true q2]
          apply decide_eq_true
          rw [List.map_cons, q1, ← q2]
        · rw [decide_eq_true q1, decide_eq_false q2]
          apply decide_eq_false
          intro z
          rw [List.map_cons] at z
          exact q2 (List.cons.inj z).2
      · rw [decide_eq_false q1]
        apply decide_eq_false
        intro z
        rw [List.map_cons] at z
        exact q1 (List.cons.inj z).1.symm
  rw [← key l h1]
  by_cases q : l = l.map lo1
  · rw [decide_eq_true q, ← q]
    exact decide_eq_true rfl
  · rw [decide_eq_false q]
    apply decide_eq_false
    intro z
    exact q (tx_inj (V.str.inj z))
theorem alpha_one {c : Nat} (h : c < 128) : Txt.isalpha (Tx [c]) = (isaz c || (decide (65 ≤ c) && decide (c ≤ 90))) := by
  unfold Txt.isalpha
  rw [all_arr, tx_len, ← (sign_facts h).1]
  simp
theorem name_of {c : Nat} {r : List Nat} : ((c :: r).all (fun c => isaz c || is09 c) && isaz c) =
    (Txt.isascii (Tx (c :: r)) && (Txt.isalnum (Tx (c :: r)) && (Txt.isalpha (Tx [c]) && decide (V.str (Tx (c :: r)) = V.str (Txt.lower (Tx (c :: r))))))) := by
  cases h : Txt.isascii (Tx (c :: r)) with
  | false =>
    rw [Bool.false_and, Bool.and_eq_false_iff]
    refine .inl ?_
    rw [Bool.eq_false_iff]
    intro q
    have q1 := List.all_eq_true.mp q
    have : Txt.isascii (Tx (c :: r)) = true := by
      unfold Txt.isascii
      rw [all_arr]
      refine List.all_eq_true.mpr fun d hd => ?_
      have := q1 d hd
      simp only [isaz, is09, Bool.or_eq_true, Bool.and_eq_true, decide_eq_true_eq] at this
      exact decide_eq_true (by omega)
    rw [h] at this
    cases this
  | true =>
    rw [Bool.true_and, low_eq h]
    have h1 : ∀ d ∈ c :: r, d < 128 := by
      unfold Txt.isascii at h
      rw [all_arr] at h
      exact fun d hd => of_decide_eq_true (List.all_eq_true.mp h d hd)
    rw [alpha_one (h1 c List.mem_cons_self)]
    have e : Txt.isalnum (Tx (c :: r)) = (c :: r).all fun c => isaz c || is09 c || (decide (65 ≤ c) && decide (c ≤ 90)) := by
      unfold Txt.isalnum
      rw [all_arr, tx_len, List.length_cons, decide_eq_true (Nat.succ_pos _), Bool.true_and]
      rw [Bool.eq_iff_iff, List.all_eq_true, List.all_eq_true]
      constructor
      · intro q d hd
        rw [← (sign_facts (h1 d hd)).2.2.2.2]
        exact q d hd
      · intro q d hd
        rw [(sign_facts (h1 d hd)).2.2.2.2]
        exact q d hd
    rw [e, Bool.eq_iff_iff]
    simp only [Bool.and_eq_true, List.all_eq_true, Bool.not_eq_true']
    constructor
    · rintro ⟨q1, q2⟩
      refine ⟨fun d hd => by rw [q1 d hd]; rfl, by rw [q2]; rfl, fun d hd => ?_⟩
      have := q1 d hd
      simp only [isaz, is09, Bool.or_eq_true, Bool.and_eq_true, decide_eq_true_eq] at this
      by_cases z : 65 ≤ d
      · rw [decide_eq_false (show ¬ d ≤ 90 by omega), Bool.and_false]
      · rw [decide_eq_false z, Bool.false_and]
    · rintro ⟨q1, q2, q3⟩
      refine ⟨fun d hd => ?_, ?_⟩
      · have := q1 d hd
        rw [q3 d hd, Bool.or_false] at this
        exact this
      · rw [q3 c List.mem_cons_self, Bool.or_false] at q2
        exact q2
abbrev st_is_name : Stmt := top 6
abbrev nm_is_name : List Str := ["value"]
theorem sc_is_name : FnScope nm_is_name ["value"] (defScope st_is_name) := ⟨rfl, rfl, rfl, by decide +kernel, rfl, by decide +kernel, by decide +kernel⟩
def spIsName (K : PySem.W.Frag) : Sp := fun vs H Q _ => ∃ v, vs = [v] ∧ Sov K H v (fun l => Q (.bl (nmOk l)) H) (Q (.bl false) H)
theorem ok_is_name {f : Addr} {fd : FuncData} (F : Fun K "is_name" "is_name" st_is_name f fd) (T : Blt mg) : FnOk P w K mg base CX0 1 f fd ["value"] (spIsName K) := by
  refine F.ok sc_is_name (fun vs H Q E h => ?_) (fun cdv A outer s H vs Q E hr h => ?_)
  · obtain ⟨v, rfl, _⟩ := h
    rfl
  · refine ⟨_, (pss_cons (ps_if (PW.pt (pw_or (pt_not (pt_val (pe_callB call_isi (by rfl) T.n_isinstance (by decide +kernel) (pa_cons (pv 0) (pa_cons (pe_bltn (v := .ty "str") (by rfl) T.n_str (by decide +kernel) rfl) pa_nil))))) (pw_or1 (pt_not (pt_chain op_le op_le pe_int (pe_callB call_len_str (by rfl) T.n_len (by decide +kernel) (pa_cons (pv 0) pa_nil)) pe_int))))) (pss_one (ps_ret pe_bl)) pss_nil)
  (pss_one (ps_ret (pe_and (pe_m0 PySem.F.slot_str_isascii PySem.F.type_str_isascii mt_isascii (pv 0)) (pe_and (pe_m0 PySem.F.slot_str_isalnum PySem.F.type_str_isalnum mt_isalnum (pv 0)) (pe_and (pe_m0 PySem.F.slot_str_isalpha PySem.F.type_str_isalpha mt_isalpha (pe_ix ix_str (pv 0) pe_int (fun _ _ => rfl))) (pe_one (pe_cmpR op_eq (pv 0) (pe_lower (pv 0)) (nomark _))))))))), ?_⟩
    obtain ⟨v, rfl, ⟨l, rfl, hl, q⟩ | ⟨n, ⟨ty, hn⟩, e, q⟩⟩ := h
    · have hz : (Tx l).length ≤ sizeLine := by
        rw [tx_len]
        exact Nat.le_trans hl (by decide)
      refine ⟨_, rfl, _, _, _, _, _, rfl, .ty "str", .base (.str _), kit_ty (b := "str") (r := true) (by decide +kernel), _, rfl, ?_⟩
      refine ⟨_, rfl, _, rfl, hz, _, _, rfl, rfl, _, rfl, ?_⟩
      rw [tx_len]
      by_cases c1 : (1 : Int) ≤ (l.length : Int)
      · rw [decide_eq_true c1]
        refine ⟨_, _, rfl, rfl, _, rfl, ?_⟩
        by_cases c2 : (l.length : Int) ≤ 12
        · have e2 : decide ((l.length : Int) ≤ 12) = true := decide_eq_true c2
          show if (!decide ((l.length : Int) ≤ 12)) = true then _ else _
          rw [e2]
          obtain ⟨c, r, rfl⟩ : ∃ c r, l = c :: r := by
            cases l with
            | nil => exact absurd c1 (by simp)
            | cons c r => exact ⟨c, r, rfl⟩
          have eq : nmOk (c :: r) = ((c :: r).all (fun c => isaz c || is09 c) && isaz c) := by
            unfold nmOk
            rw [decide_eq_true (show 1 ≤ (c :: r).length by simp), decide_eq_true (show (c :: r).length ≤ 12 by omega), Bool.true_and, Bool.true_and]
            rfl
          rw [eq, name_of] at q
          refine ⟨_, rfl, ⟨_, rfl⟩, _, rfl, rfl, trivial, _, rfl, ?_⟩
          cases h1 : Txt.isascii (Tx (c :: r))
          · rw [h1] at q
            exact q
          · rw [h1] at q
            refine ⟨_, rfl, ⟨_, rfl⟩, _, rfl, rfl, trivial, _, rfl, ?_⟩
            cases h2 : Txt.isalnum (Tx (c :: r))
            · rw [h2] at q
              exact q
            · rw [h2] at q
              refine ⟨_, rfl, _, 0, c, rfl, rfl, hz, (by rw [tx_list]; exact atI_nat (xs := c :: r) (j := 0) (v := c) rfl), ⟨_, rfl⟩, _, rfl, rfl, trivial, _, rfl, ?_⟩
              rw [tx_one]
              cases h3 : Txt.isalpha (Tx [c])
              · rw [h3] at q
                exact q
              · rw [h3] at q
                refine ⟨_, rfl, _, rfl, ⟨_, rfl⟩, _, rfl, rfl, (by rw [tx_len]; omega), rfl, ?_⟩
                exact q
        · have e2 : decide ((l.length : Int) ≤ 12) = false := decide_eq_false c2
          show if (!decide ((l.length : Int) ≤ 12)) = true then _ else _
          rw [e2]
          have eq : nmOk l = false := by
            unfold nmOk
            rw [decide_eq_false (show ¬ l.length ≤ 12 by omega), Bool.and_false, Bool.false_and, Bool.false_and]
          rw [eq] at q
          exact q
      · rw [decide_eq_false c1]
        have eq : nmOk l = false := by
          unfold nmOk
          rw [decide_eq_false (show ¬ 1 ≤ l.length by omega), Bool.false_and, Bool.false_and, Bool.false_and]
        rw [eq] at q
        exact ⟨_, rfl, q⟩
    · obtain ⟨_, _, k3, _, _⟩ := kd_kit (K := K) hn
      refine ⟨_, rfl, v, _, _, _, _, rfl, .ty "str", ty, k3, _, rfl, ?_⟩
      rw [e]
      exact q
end
end K0
namespace K0
open PySem PySem.Spec PyProof.Rows L2
/-- a walk over a list or a tuple -/
def iLT (K : PySem.W.Frag) (te : TE) : TI := fun σ H R => iList K te σ H R ∨ iTup K te σ H R
theorem pi_lt {X : Cx} {tg e : Expr} {te : TE} (h : PE X e te) : PI X tg e (iLT X.K te) :=
  ⟨fun pins s σ H R I q => q.elim (fun q => (pi_list h).run pins s σ H R I q) fun q => (pi_tup h).run pins s σ H R I q⟩
def SqLT (K : PySem.W.Frag) (H : Hp) (a : Addr) (xs : List V) : Prop := SqL K H a xs ∨ SqT K H a xs
theorem sm_l {K : PySem.W.Frag} {H H' : Hp} {a : Addr} {xs : List V} (s : Same H H') (h : SqL K H a xs) : SqL K H' a xs := s.seq h
theorem sm_t {K : PySem.W.Frag} {H H' : Hp} {a : Addr} {xs : List V} (s : Same H H') (h : SqT K H a xs) : SqT K H' a xs := by
  rcases h with (h | ⟨o, h⟩) | h
  · exact .inl (.inl (s _ _ h))
  · exact .inl (.inr ⟨o, s _ _ h⟩)
  · exact .inr h
section
variable {P : Program} {w : World} {K : PySem.W.Frag} {mg : Str → Option Value} {base : Heap}
abbrev CLW (P : Program) (w : World) (K : PySem.W.Frag) (mg : Str → Option Value) (base : Heap) : Prop := Cal P w K mg base 1 "is_long_word" st_is_long_word ["value"] (spIsLongWord K)
/-! ### is_sound, is_word -/
abbrev st_is_sound : Stmt := top 7
abbrev nm_is_sound : List Str := ["value"]
theorem sc_is_sound : FnScope nm_is_sound ["value"] (defScope st_is_sound) := ⟨rfl, rfl, rfl, by decide +kernel, rfl, by decide +kernel, by decide +kernel⟩
def spIsSound (K : PySem.W.Frag) : Sp := fun vs H Q _ => ∃ v, vs = [v] ∧ Sov K H v (fun l => Q (.bl (lw l && decide (l.length = 1))) H) (Q (.bl false) H)
theorem int_eq (n : Nat) (k : Nat) : decide (V.int (n : Int) = V.int (k : Int)) = decide (n = k) := by
  by_cases h : n = k
  · subst h
    rw [decide_eq_true rfl, decide_eq_true rfl]
  · rw [decide_eq_false h]
    apply decide_eq_false
    intro z
    have := V.int.inj z
    omega
theorem ok_is_sound {f : Addr} {fd : FuncData} (F : Fun K "is_sound" "is_sound" st_is_sound f fd) (T : Blt mg) (C_is_long_word : CLW P w K mg base) : FnOk P w K mg base CX0 2 f fd ["value"] (spIsSound K) := by
  refine F.ok sc_is_sound (fun vs H Q E h => ?_) (fun cdv A outer s H vs Q E hr h => ?_)
  · obtain ⟨v, rfl, _⟩ := h
    rfl
  · refine ⟨_, (pss_one (ps_ret (pe_and (pe_cl C_is_long_word (hr.mono (by decide)) rfl (pa_cons (pv 0) pa_nil)) (pe_one (pe_cmpR op_eq (pe_callB call_len_str (by rfl) T.n_len (by decide +kernel) (pa_cons (pv 0) pa_nil)) pe_int (nomark _)))))), ?_⟩
    obtain ⟨v, rfl, ⟨l, rfl, hl, q⟩ | ⟨n, kd, hn, q⟩⟩ := h
    · refine ⟨_, rfl, _, rfl, .inl ⟨l, rfl, hl, _, rfl, ?_⟩⟩
      cases h1 : lw l
      · rw [h1] at q
        exact q
      · rw [h1] at q
        refine ⟨_, rfl, _, rfl, (by rw [tx_len]; exact Nat.le_trans hl (by decide)), rfl, ?_⟩
        rw [tx_len]
        rw [show decide (V.int (l.length : Int) = V.int 1) = decide (l.length = 1) from int_eq l.length 1]
        exact q
    · exact ⟨_, rfl, _, rfl, .inr ⟨n, kd, hn, _, rfl, q⟩⟩
abbrev st_is_word : Stmt := top 8
abbrev nm_is_word : List Str := ["value"]
theorem sc_is_word : FnScope nm_is_word ["value"] (defScope st_is_word) := ⟨rfl, rfl, rfl, by decide +kernel, rfl, by decide +kernel, by decide +kernel⟩
def spIsWord (K : PySem.W.Frag) : Sp := fun vs H Q _ => ∃ v, vs = [v] ∧ Sov K H v (fun l => Q (.bl (lw l && decide (l.length ≤ 12))) H) (Q (.bl false) H)
theorem int_le (n k : Nat) : decide ((n : Int) ≤ (k : Int)) = decide (n ≤ k) := by
  by_cases h : n ≤ k
  · rw [decide_eq_true h]
    exact decide_eq_true (by omega)
  · rw [decide_eq_false h]
    exact decide_eq_false (by omega)
theorem ok_is_word {f : Addr} {fd : FuncData} (F : Fun K "is_word" "is_word" st_is_word f fd) (T : Blt mg) (C_is_long_word : CLW P w K mg base) : FnOk P w K mg base CX0 2 f fd ["value"] (spIsWord K) := by
  refine F.ok sc_is_word (fun vs H Q E h => ?_) (fun cdv A outer s H vs Q E hr h => ?_)
  · obtain ⟨v, rfl, _⟩ := h
    rfl
  · refine ⟨_, (pss_one (ps_ret (pe_and (pe_cl C_is_long_word (hr.mono (by decide)) rfl (pa_cons (pv 0) pa_nil)) (pe_one (pe_cmpR op_le (pe_callB call_len_str (by rfl) T.n_len (by decide +kernel) (pa_cons (pv 0) pa_nil)) pe_int (nomark _)))))), ?_⟩
    obtain ⟨v, rfl, ⟨l, rfl, hl, q⟩ | ⟨n, kd, hn, q⟩⟩ := h
    · refine ⟨_, rfl, _, rfl, .inl ⟨l, rfl, hl, _, rfl, ?_⟩⟩
      cases h1 : lw l
      · rw [h1] at q
        exact q
      · rw [h1] at q
        refine ⟨_, rfl, _, rfl, (by rw [tx_len]; exact Nat.le_trans hl (by decide)), _, _, rfl, rfl, ?_⟩
        rw [tx_len]
        show Q (V.bl (decide ((l.length : Int) ≤ 12))) H
        rw [show decide ((l.length : Int) ≤ 12) = decide (l.length ≤ 12) from int_le l.length 12]
        exact q
    · exact ⟨_, rfl, _, rfl, .inr ⟨n, kd, hn, _, rfl, q⟩⟩
/-! ### is_stock -/
abbrev st_is_stock : Stmt := top 9
abbrev nm_is_stock : List Str := ["value"]
theorem sc_is_stock : FnScope nm_is_stock ["value"] (defScope st_is_stock) := ⟨rfl, rfl, rfl, by decide +kernel, rfl, by decide +kernel, by decide +kernel⟩
def stOk (l : List Nat) : Bool := lw l && ((decide (1 ≤ l.length) && decide (l.length ≤ 5)) && ris l)
def spIsStock (K : PySem.W.Frag) : Sp := fun vs H Q _ => ∃ v, vs = [v] ∧ Sov K H v (fun l => ∀ H', Same H H' → Q (.bl (stOk l)) H') (Q (.bl false) H)
theorem ok_is_stock {f : Addr} {fd : FuncData} (F : Fun K "is_stock" "is_stock" st_is_stock f fd) (T : Blt mg) (C_is_long_word : CLW P w K mg base)
    (C_is_rising : Cal P w K mg base 1 "is_rising" st_is_rising ["signs"] spIsRising) : FnOk P w K mg base CX0 2 f fd ["value"] (spIsStock K) := by
  refine F.ok sc_is_stock (fun vs H Q E h => ?_) (fun cdv A outer s H vs Q E hr h => ?_)
  · obtain ⟨v, rfl, _⟩ := h
    rfl
  · refine ⟨_, (pss_one (ps_ret (pe_and (pe_cl C_is_long_word (hr.mono (by decide)) rfl (pa_cons (pv 0) pa_nil)) (pe_and (pe_chain op_le op_le pe_int (pe_callB call_len_str (by rfl) T.n_len (by decide +kernel) (pa_cons (pv 0) pa_nil)) pe_int) (pe_one (pe_cl C_is_rising (hr.mono (by decide)) rfl (pa_cons (pv 0) pa_nil))))))), ?_⟩
    obtain ⟨v, rfl, ⟨l, rfl, hl, q⟩ | ⟨n, kd, hn, q⟩⟩ := h
    · refine ⟨_, rfl, _, rfl, .inl ⟨l, rfl, hl, _, rfl, ?_⟩⟩
      unfold stOk at q
      cases h1 : lw l
      · rw [h1] at q
        exact q H (Same.refl H)
      · rw [h1, Bool.true_and] at q
        refine ⟨_, rfl, _, rfl, (by rw [tx_len]; exact Nat.le_trans hl (by decide)), _, _, rfl, rfl, _, rfl, ?_⟩
        rw [tx_len]
        show if decide ((1 : Int) ≤ (l.length : Int)) = true then _ else _
        rw [show decide ((1 : Int) ≤ (l.length : Int)) = decide (1 ≤ l.length) from int_le 1 l.length]
        cases h2 : decide (1 ≤ l.length)
        · rw [h2] at q
          exact ⟨_, rfl, q H (Same.refl H)⟩
        · rw [h2, Bool.true_and] at q
          refine ⟨_, _, rfl, rfl, decide ((l.length : Int) ≤ 5), rfl, ?_⟩
          rw [show decide ((l.length : Int) ≤ 5) = decide (l.length ≤ 5) from int_le l.length 5]
          cases h3 : decide (l.length ≤ 5)
          · rw [h3] at q
            exact q H (Same.refl H)
          · rw [h3, Bool.true_and] at q
            exact ⟨_, rfl, l, rfl, hl, q⟩
    · exact ⟨_, rfl, _, rfl, .inr ⟨n, kd, hn, _, rfl, q⟩⟩
/-! ### is_numbers -/
abbrev st_is_numbers : Stmt := top 10
abbrev nm_is_numbers : List Str := ["value", "item"]
theorem sc_is_numbers : FnScope nm_is_numbers ["value"] (defScope st_is_numbers) := ⟨rfl, rfl, rfl, by decide +kernel, rfl, by decide +kernel, by decide +kernel⟩
/-- the kinds of some values -/
def Kds (K : PySem.W.Frag) (H : Hp) (xs : List V) (ks : List String) : Prop := xs.length = ks.length ∧ ∀ (i : Nat) x, xs[i]? = some x → Kd K H x (ks.getD i "")
theorem kd_same {H H' : Hp} {v : V} {n : String} (s : Same H H') (h : Kd K H v n) : Kd K H' v n := ⟨tyx_same s h.1, h.2⟩
theorem kds_same {H H' : Hp} {xs : List V} {ks : List String} (s : Same H H') (h : Kds K H xs ks) : Kds K H' xs ks := ⟨h.1, fun i x e => kd_same s (h.2 i x e)⟩
def spIsNumbers (K : PySem.W.Frag) : Sp := fun vs H Q _ => ∃ v n, vs = [v] ∧ Kd K H v n ∧ (((n == "list" || n == "tuple") = false ∧ ∀ H', Same H H' → Q (.bl false) H') ∨
  ((n == "list" || n == "tuple") = true ∧ ∃ a xs ks, v = .ref a ∧ SqLT K H a xs ∧ xs.length ≤ 1000 ∧ Kds K H xs ks ∧ ∀ H', Same H H' → Q (.bl (ks.all (· == "int"))) H'))
theorem ok_is_numbers {f : Addr} {fd : FuncData} (F : Fun K "is_numbers" "is_numbers" st_is_numbers f fd) (T : Blt mg) (C_is_list : Cal P w K mg base 1 "is_list" st_is_list ["value"] (spIsList K))
    (C_is_integer : Cal P w K mg base 1 "is_integer" st_is_integer ["value"] (spIsInteger K)) : FnOk P w K mg base CX0 2 f fd ["value"] (spIsNumbers K) := by
  refine F.ok sc_is_numbers (fun vs H Q E h => ?_) (fun cdv A outer s H vs Q E hr h => ?_)
  · obtain ⟨v, n, rfl, _⟩ := h
    rfl
  · refine ⟨_, (pss_one (ps_ret (pe_and (pe_cl C_is_list (hr.mono (by decide)) rfl (pa_cons (pv 0) pa_nil)) (pe_one (pe_callB (cr_all rfl) (by rfl) T.n_all (by decide +kernel) (pa_cons (pe_lc (own := [("item", 1)]) (g := (gName 1)) (tt := tYes) rfl sc_is_numbers.nd (pi_lt (pv 0)) (blkOk_by (N := nm_is_numbers) (sc := defScope st_is_numbers) (own := [("item", 1)]) (by decide +kernel)) (fun _ _ _ _ _ => by exact pg_name (i := 1) sc_is_numbers.nd rfl (Or.inl rfl)) (fun _ _ _ _ _ => pts_nil) (fun _ _ _ _ _ => (pe_cl C_is_integer (hr.mono (by decide)) rfl (pa_cons (pv 1) pa_nil)))) pa_nil)))))), ?_⟩
    obtain ⟨v, n, rfl, kd, ⟨hn, q⟩ | ⟨hn, a, xs, ks, rfl, hS, hl, hk, q⟩⟩ := h
    · refine ⟨_, rfl, v, n, rfl, kd, fun H' s' => ⟨_, rfl, ?_⟩⟩
      rw [hn]
      exact q H' s'
    · refine ⟨_, rfl, _, n, rfl, kd, fun H1 s1 => ⟨_, rfl, ?_⟩⟩
      rw [hn]
      have body : ∀ (J : It) (G : Hp → Prop), Walk J xs.length G (YAt xs) → (∀ H2, Same H1 H2 → G H2) → ∀ D, H1 D = none → ∃ W : Nat → Nat → Hp → Prop, (∃ m, W 0 m (upd H1 D (.lst []))) ∧ ∀ i m H, W i m H →
          (J.stop i H ∧ (fun x H1 => tNil [some (V.ref a), none] H1 fun xs H2 => rAll K (x :: xs) H2 Q) (.ref D) H) ∨ (J.go i H ∧ ∃ Nx : Hp → Prop, (∀ H', Nx H' → ∃ m', m' < m ∧ W (i + 1) m' H') ∧ ∀ x H', J.yld i H x H' →
            gName 1 x (wipe [some (V.ref a), none] [1]) H' fun σ2 H2 => wipe σ2 [1] = wipe [some (V.ref a), none] [1] ∧ tYes σ2 H2 fun b H3 =>
              if b = true then (tCall (spIsInteger K) [] E0 (tCons (tVar 1) tNil)) σ2 H3 fun y H4 => ∃ acc, H4 D = some (.lst acc) ∧ acc.length < sizeLine ∧ Nx (upd H4 D (.lst (acc ++ [y]))) else Nx H3) := by
        intro J G wk hG D hD
        refine lc_it wk (SPv H1 D fun i => ((ks.take i).map fun k => V.bl (k == "int"))) (spv0 hD rfl) (fun i H2 _ p => hG _ p.1) ?_ ?_
        · rintro i x H2 H3 hi ⟨p1, p2⟩ ⟨rfl, hx⟩
          refine ⟨rfl, ?_⟩
          refine ⟨_, rfl, x, ks.getD i "", rfl, kd_same (Same.trans s1 p1) (hk.2 i x hx), ?_⟩
          have hik : i < ks.length := by
            rw [← hk.1]
            exact hi
          refine spv_put hD p1 p2 ?_ ?_
          · rw [List.length_map, List.length_take]
            omega
          · rw [List.take_succ, List.map_append, List.getElem?_eq_getElem hik]
            simp [hik]
        · rintro H2 ⟨p1, p2⟩
          refine ⟨D, ks.map (· == "int"), rfl, SqL.of ?_, ?_⟩
          · rw [p2, hk.1]
            dsimp only
            rw [List.take_length, List.map_map]
            rfl
          · have e : (ks.map (· == "int")).all id = ks.all (· == "int") := by
              rw [List.all_map]
              rfl
            rw [e]
            exact q _ (Same.trans s1 p1)
      rcases hS with h | h
      · exact .inl ⟨_, rfl, a, rfl, ⟨_, sm_l s1 h⟩, fun D hD => body _ _ walk_list (fun H2 z => sm_l (Same.trans s1 z) h) D hD⟩
      · exact .inr ⟨_, rfl, a, rfl, ⟨_, sm_t s1 h⟩, fun D hD => body _ _ walk_tup (fun H2 z => sm_t (Same.trans s1 z) h) D hD⟩
/-! ### first_twice -/
abbrev st_first_twice : Stmt := top 11
abbrev nm_first_twice : List Str := ["values", "seen", "value"]
theorem sc_first_twice : FnScope nm_first_twice ["values"] (defScope st_first_twice) := ⟨rfl, rfl, rfl, by decide +kernel, rfl, by decide +kernel, by decide +kernel⟩
/-- the first key that stands ahead, too -/
def ft : List Key → List Key → V
  | _, [] => .non
  | seen, k :: r => if (seen.any fun j => decide (j = k)) = true then kV k else ft (seen ++ [k]) r
def spFirstTwice (K : PySem.W.Frag) : Sp := fun vs H Q _ => ∃ a ks, vs = [.ref a] ∧ SqLT K H a (ks.map kV) ∧ ks.length ≤ 100 ∧ ∀ H', Same H H' → Q (ft [] ks) H'
theorem ok_first_twice {f : Addr} {fd : FuncData} (F : Fun K "first_twice" "first_twice" st_first_twice f fd) (T : Blt mg) : FnOk P w K mg base CX0 1 f fd ["values"] (spFirstTwice K) := by
  refine F.ok sc_first_twice (fun vs H Q E h => ?_) (fun cdv A outer s H vs Q E hr h => ?_)
  · obtain ⟨a, ks, rfl, _⟩ := h
    rfl
  · refine ⟨_, (pss_cons (ps_set (i := 1) sc_first_twice.nd rfl (Or.inl rfl) (pe_callTy0 cr_set0K (by rfl) T.n_set (by decide +kernel)))
  (pss_cons (ps_for PassesOwn.never rfl (pi_lt (pv 0)) (pg_name (i := 2) sc_first_twice.nd rfl (Or.inl rfl)) (pss_cons (ps_if (pt_cmpR or_sinK (pv 2) (pv 1) rfl) (pss_one (ps_ret (pv 2))) pss_nil)
  (pss_one (ps_expr (pe_saddK (pv 1) (pa_cons (pv 2) pa_nil))))))
  (pss_one (ps_ret pe_non)))), ?_⟩
    obtain ⟨a, ks, rfl, hS, hl, q⟩ := h
    refine ⟨rfl, fun p hp => ?_⟩
    -- behind i values: seen holds those ahead, nothing stood twice
    have step : ∀ (xs : List Key) (i : Nat) k, xs[i]? = some k → ∀ seen, ft seen (xs.drop i) = if (seen.any fun j => decide (j = k)) = true then kV k else ft (seen ++ [k]) (xs.drop (i + 1)) := by
      intro xs i k hk seen
      obtain ⟨h1, h2⟩ := List.getElem?_eq_some_iff.mp hk
      rw [List.drop_eq_getElem_cons h1, h2]
      rfl
    have body : ∀ (J : It) (G : Hp → Prop), Walk J (ks.map kV).length G (YAt (ks.map kV)) → (∀ H2, Same H H2 → G H2) → ∃ W : Nat → Nat → L2.St → Hp → Prop, (∃ m, W 0 m ((L2.start nm_first_twice [V.ref a]).set 1 (some (.ref p))) (upd H p (SetK P w p (fun _ => false) 0))) ∧ ∀ i m σ H, W i m σ H →
        (J.stop i H ∧ (tRet (tC .non)) { nx := fun _ H' => Q .non H', rt := Q } σ H) ∨ (J.go i H ∧ ∃ N : L2.St → Hp → Prop, (∀ σ' H', N σ' H' → ∃ m', m' < m ∧ W (i + 1) m' σ' H') ∧ ∀ x H', J.yld i H x H' → gName 2 x σ H' fun σ2 H2 =>
          (tSeq (tIfS (tTest (tOp (rSInK P w false) (tVar 2) (tVar 1))) (tRet (tVar 2)) tNext) (tDrop (tSAddK P w (tVar 1) (tCons (tVar 2) tNil)))) { nx := N, ct := N, bk := (tRet (tC .non)) { nx := fun _ H' => Q .non H', rt := Q }, rt := Q } σ2 H2) := by
      intro J G wk hG
      refine for_it (g := gName 2) (tb := tSeq (tIfS (tTest (tOp (rSInK P w false) (tVar 2) (tVar 1))) (tRet (tVar 2)) tNext) (tDrop (tSAddK P w (tVar 1) (tCons (tVar 2) tNil))))
        (D := { nx := (tRet (tC .non)) { nx := fun _ H' => Q .non H', rt := Q }, rt := Q }) wk (fun i σ H' => ∃ v, σ = [some (.ref a), some (.ref p), v] ∧ Same H H' ∧ ∃ n, n ≤ i ∧ H' p = some (SetK P w p (fun j => (ks.take i).any fun z => decide (z = j)) n) ∧ ft [] ks = ft (ks.take i) (ks.drop i))
        ⟨none, rfl, Sm.new hp, 0, Nat.le_refl _, upd_same, rfl⟩ (fun i σ H2 _ ⟨_, _, s, _⟩ => hG _ s) ?_ ?_
      · rintro i x σ H2 H3 hi ⟨v, rfl, s2, n, hn, h2, e⟩ ⟨rfl, hx⟩
        rw [List.getElem?_map] at hx
        cases hk : ks[i]? with
        | none =>
          rw [hk] at hx
          cases hx
        | some k =>
          rw [hk] at hx
          obtain rfl : kV k = x := Option.some.inj hx
          rw [step ks i k hk] at e
          refine ⟨_, rfl, _, rfl, k, p, _, n, rfl, rfl, h2, _, rfl, ?_⟩
          have hik : i < ks.length := (List.getElem?_eq_some_iff.mp hk).1
          refine ite2 (fun c => ?_) (fun c => ?_)
          · rw [if_pos (by simpa using c)] at e
            refine ⟨_, rfl, ?_⟩
            rw [← e]
            exact q _ s2
          · rw [if_neg (by simpa using c)] at e
            refine ⟨_, rfl, ⟨p, _, n, rfl, h2⟩, _, rfl, p, k, _, n, rfl, rfl, h2, ?_, ?_⟩
            · exact Nat.lt_of_le_of_lt (show n + 1 ≤ 101 by omega) (by decide)
            refine ⟨_, rfl, Sm.put s2 hp, n + 1, ?_, ?_, ?_⟩
            · omega
            · rw [upd_same]
              have c' : ((ks.take i).any fun z => decide (z = k)) = false := by
                cases z : ((ks.take i).any fun z => decide (z = k)) with
                | false => rfl
                | true => exact absurd (show (if false = true then _ else ((ks.take i).any fun z => decide (z = k))) = true by rw [z]; rfl) c
              rw [c', if_neg Bool.false_ne_true]
              congr 2
              funext j
              rw [List.take_succ, hk, List.any_append]
              simp [eq_comm]
            · rw [e, List.take_succ, hk]
              rfl
      · rintro σ H2 ⟨v, rfl, s2, n, hn, h2, e⟩
        rw [List.length_map, List.drop_length] at e
        have e2 : ft [] ks = .non := e
        rw [e2] at q
        exact q _ s2
    rcases hS with h | h
    · exact .inl ⟨_, rfl, a, rfl, ⟨_, sm_l (Sm.new hp) h⟩, body _ _ walk_list (fun H2 z => sm_l z h)⟩
    · exact .inr ⟨_, rfl, a, rfl, ⟨_, sm_t (Sm.new hp) h⟩, body _ _ walk_tup (fun H2 z => sm_t z h)⟩
/-! ### of_stock -/
abbrev st_of_stock : Stmt := top 12
abbrev nm_of_stock : List Str := ["word", "stock", "sound"]
theorem sc_of_stock : FnScope nm_of_stock ["word", "stock"] (defScope st_of_stock) := ⟨rfl, rfl, rfl, by decide +kernel, rfl, by decide +kernel, by decide +kernel⟩
def ofOk (l k : List Nat) : Bool := lw l && l.all fun c => decide (c ∈ k)
def spOfStock : Sp := fun vs H Q _ => ∃ l k, vs = [.str (Tx l), .str (Tx k)] ∧ l.length ≤ 1000 ∧ ∀ H', Same H H' → Q (.bl (ofOk l k)) H'
theorem ok_of_stock {f : Addr} {fd : FuncData} (F : Fun K "of_stock" "of_stock" st_of_stock f fd) (T : Blt mg) (C_is_long_word : CLW P w K mg base) : FnOk P w K mg base CX0 2 f fd ["word", "stock"] spOfStock := by
  refine F.ok sc_of_stock (fun vs H Q E h => ?_) (fun cdv A outer s H vs Q E hr h => ?_)
  · obtain ⟨l, k, rfl, _⟩ := h
    rfl
  · refine ⟨_, (pss_one (ps_ret (pe_and (pe_cl C_is_long_word (hr.mono (by decide)) rfl (pa_cons (pv 0) pa_nil)) (pe_and (pe_callB call_isi (by rfl) T.n_isinstance (by decide +kernel) (pa_cons (pv 1) (pa_cons (pe_bltn (v := .ty "str") (by rfl) T.n_str (by decide +kernel) rfl) pa_nil))) (pe_one (pe_callB (cr_all rfl) (by rfl) T.n_all (by decide +kernel) (pa_cons (pe_lc (own := [("sound", 2)]) (g := (gName 2)) (tt := tYes) rfl sc_of_stock.nd (pi_str (pv 0)) (blkOk_by (N := nm_of_stock) (sc := defScope st_of_stock) (own := [("sound", 2)]) (by decide +kernel)) (fun _ _ _ _ _ => by exact pg_name (i := 2) sc_of_stock.nd rfl (Or.inl rfl)) (fun _ _ _ _ _ => pts_nil) (fun _ _ _ _ _ => (pe_cmpR op_in_sign (pv 2) (pv 1) rfl))) pa_nil))))))), ?_⟩
    obtain ⟨l, k, rfl, hl, q⟩ := h
    refine ⟨_, rfl, _, rfl, .inl ⟨l, rfl, hl, _, rfl, ?_⟩⟩
    unfold ofOk at q
    cases h1 : lw l
    · rw [h1] at q
      exact q H (Same.refl H)
    · rw [h1, Bool.true_and] at q
      refine ⟨_, rfl, _, _, _, _, _, rfl, .ty "str", .base (.str _), kit_ty (b := "str") (r := true) (by decide +kernel), _, rfl, ?_⟩
      refine ⟨_, rfl, _, rfl, fun D hD => ?_⟩
      refine lc_it (n := l.length) (by have h := walk_str (z := Tx l); rw [tx_size] at h; exact h) (SPv H D fun i => (l.take i).map fun c => V.bl (decide (c ∈ k))) (spv0 hD rfl) (fun _ _ _ _ => trivial) ?_ ?_
      · rintro i x H2 H3 hi ⟨p1, p2⟩ ⟨rfl, c, g, rfl⟩
        have hc := tx_at g
        refine ⟨rfl, ?_⟩
        refine ⟨_, rfl, _, rfl, c, _, rfl, rfl, ?_⟩
        rw [tx_list]
        refine spv_put hD p1 p2 ?_ ?_
        · rw [List.length_map, List.length_take]
          omega
        · rw [List.take_succ, List.map_append, hc]
          rfl
      · rintro H2 ⟨p1, p2⟩
        refine ⟨D, l.map fun c => decide (c ∈ k), rfl, SqL.of ?_, ?_⟩
        · rw [p2]
          dsimp only
          rw [List.take_length, List.map_map]
          rfl
        · have e : (l.map fun c => decide (c ∈ k)).all id = l.all fun c => decide (c ∈ k) := by
            rw [List.all_map]
            rfl
          rw [e]
          exact q _ p1
end
end K0
namespace K0
open PySem PySem.Spec PyProof.Rows L2
/-- all but what stands at p is as it was -/
structure KB (p : Addr) (H H' : Hp) : Prop where
  kb : ∀ b o, b ≠ p → H b = some o → H' b = some o
  kp : ∀ l x y, H p = some (.lst [.ref l, x, y]) → ∃ x' y', H' p = some (.lst [.ref l, x', y'])
theorem KB.refl (p : Addr) (H : Hp) : KB p H H := ⟨fun _ _ _ e => e, fun _ x y e => ⟨x, y, e⟩⟩
theorem KB.trans {p : Addr} {H H1 H2 : Hp} (a : KB p H H1) (b : KB p H1 H2) : KB p H H2 := ⟨fun c o n e => b.kb c o n (a.kb c o n e), fun l x y e => by
  obtain ⟨x', y', e'⟩ := a.kp l x y e
  exact b.kp l x' y' e'⟩
theorem KB.sm {p : Addr} {H H' : Hp} (s : Same H H') : KB p H H' := ⟨fun b o _ e => s b o e, fun l x y e => ⟨x, y, s _ _ e⟩⟩
theorem KB.put {p l : Addr} {H : Hp} {x y x' y' : V} (h : H p = some (.lst [.ref l, x, y])) : KB p H (upd H p (.lst [.ref l, x', y'])) := ⟨fun b u n e => by rw [upd_ne n]; exact e, fun l2 x2 y2 e => by
  rw [h] at e
  cases e
  exact ⟨x', y', upd_same⟩⟩
theorem KB.l {K : PySem.W.Frag} {p a : Addr} {H H' : Hp} {xs : List V} (s : KB p H H') (n : a ≠ p) (h : SqL K H a xs) : SqL K H' a xs := by
  rcases h with (h | ⟨o, h⟩) | h
  · exact .inl (.inl (s.kb _ _ n h))
  · exact .inl (.inr ⟨o, s.kb _ _ n h⟩)
  · exact .inr h
/-- the pen at p: its numbers, how often it was dipped (at most T times), what is left of a great number -/
def PenAt (H : Hp) (p : Addr) (T : Nat) : Prop := ∃ (l : Addr) (ns : List Int) (t r : Int), H p = some (.lst [.ref l, .int t, .int r]) ∧ H l = some (.lst (ns.map V.int)) ∧ l ≠ p ∧ ns.length ≤ 62 ∧ 0 ≤ t ∧ t ≤ T ∧ 0 ≤ r
theorem PenAt.mono {H : Hp} {p : Addr} {T T' : Nat} (h : PenAt H p T) (ht : T ≤ T') : PenAt H p T' := by
  obtain ⟨l, ns, t, r, a, b, c, d, e, f, g⟩ := h
  exact ⟨l, ns, t, r, a, b, c, d, e, by omega, g⟩
theorem PenAt.sm {H H' : Hp} {p : Addr} {T : Nat} (h : PenAt H p T) (s : Same H H') : PenAt H' p T := by
  obtain ⟨l, ns, t, r, a, b, c, d, e, f, g⟩ := h
  exact ⟨l, ns, t, r, s _ _ a, s _ _ b, c, d, e, f, g⟩
theorem PenAt.some {H : Hp} {p : Addr} {T : Nat} (h : PenAt H p T) : ∃ xs, H p = some (.lst xs) := by
  obtain ⟨l, ns, t, r, a, _⟩ := h
  exact ⟨_, a⟩
theorem PenAt.ne {H : Hp} {p q : Addr} {T : Nat} (h : PenAt H p T) (n : H q = none) : q ≠ p := fun e => by
  obtain ⟨xs, a⟩ := h.some
  rw [e, a] at n
  cases n
/-! flat data -/
def datV : V → PyData
  | .bl b => .bool b
  | .int i => .int i
  | .str x => .str x
  | _ => .none
def datOk : V → Bool
  | .bl _ => true
  | .int _ => true
  | .str x => (PyData.str x).canLay0
  | .non => true
  | _ => false
theorem dp_one {K : PySem.W.Frag} {H : Hp} {v : V} (h : datOk v = true) : Dp K H v (datV v) := by
  cases v with
  | non => exact .non
  | bl b => exact .bl b
  | int i => exact .int i
  | str x => exact .str x
  | byt b => cases h
  | flt b => cases h
  | ref a => cases h
  | ty n => cases h
theorem dp_all {K : PySem.W.Frag} {H : Hp} : ∀ {xs : List V}, xs.all datOk = true → DpAll K H xs (xs.map datV)
  | [], _ => .nil
  | x :: r, h => by
    rw [List.all_cons, Bool.and_eq_true] at h
    exact .cons (dp_one h.1) (dp_all h.2)
theorem lay_one {v : V} (h : datOk v = true) : (datV v).canLay0 = true := by
  cases v with
  | non => rfl
  | bl b => rfl
  | int i => rfl
  | str x => exact h
  | byt b => cases h
  | flt b => cases h
  | ref a => cases h
  | ty n => cases h
theorem dep_one (v : V) : (datV v).depth = 0 := by
  cases v <;> rfl
theorem lay_all : ∀ {xs : List V}, xs.all datOk = true → PyData.canLayAll0 (xs.map datV) = true
  | [], _ => rfl
  | x :: r, h => by
    rw [List.all_cons, Bool.and_eq_true] at h
    show (PyData.canLay0 (datV x) && PyData.canLayAll0 (r.map datV)) = true
    rw [lay_one h.1, lay_all h.2]
    rfl
theorem dep_all : ∀ xs : List V, PyData.depthAll (xs.map datV) = 0
  | [] => rfl
  | x :: r => by
    show max (PyData.depth (datV x)) (PyData.depthAll (r.map datV)) = 0
    rw [dep_one, dep_all r]
    rfl
theorem dat_shaped {xs : List V} (h : xs.all datOk = true) : SeqAt.shaped (.list (xs.map datV)) = true := by
  unfold SeqAt.shaped
  rw [show (PyData.list (xs.map datV)).canLay0 = PyData.canLayAll0 (xs.map datV) from rfl, lay_all h, Bool.true_and]
  apply decide_eq_true
  show PyData.depthAll (xs.map datV) + 1 ≤ 64
  rw [dep_all]
  decide
section
variable {P : Program} {w : World} {K : PySem.W.Frag} {mg : Str → Option Value} {base : Heap}
abbrev st_l_pen : Stmt := top 41
abbrev nm_l_pen : List Str := ["_law_script", "_law_cell"]
theorem sc_l_pen : FnScope nm_l_pen ["_law_script"] (defScope st_l_pen) := ⟨rfl, rfl, rfl, by decide +kernel, rfl, by decide +kernel, by decide +kernel⟩
def spPen (K : PySem.W.Frag) : Sp := fun vs H Q _ => ∃ (a : Addr) (ns : List Int), vs = [.ref a] ∧ SqL K H a (ns.map V.int) ∧ ns.length ≤ 63 ∧ ∀ H' p, Same H H' → PenAt H' p 0 → Q (.ref p) H'
theorem ok_pen {f : Addr} {fd : FuncData} (F : Fun K "_law_pen" "_law_pen" st_l_pen f fd) (T : Blt mg) : FnOk P w K mg base CX0 1 f fd ["_law_script"] (spPen K) := by
  refine F.ok sc_l_pen (fun vs H Q E h => ?_) (fun cdv A outer s H vs Q E hr h => ?_)
  · obtain ⟨a, ns, rfl, _⟩ := h
    rfl
  · refine ⟨_, (pss_one (ps_ret (pe_lst (pa_cons (pe_lc (own := [("_law_cell", 1)]) (g := (gName 1)) (tt := tYes) rfl sc_l_pen.nd (pi_list (pe_slice sl_list (pv 0) po_none (po_some pe_int))) (blkOk_by (N := nm_l_pen) (sc := defScope st_l_pen) (own := [("_law_cell", 1)]) (by decide +kernel)) (fun _ _ _ _ _ => by exact pg_name (i := 1) sc_l_pen.nd rfl (Or.inl rfl)) (fun _ _ _ _ _ => pts_nil) (fun _ _ _ _ _ => (pe_callTy call_int1 (by rfl) T.n_int (by decide +kernel) (pa_cons (pv 1) pa_nil)))) (pa_cons pe_int (pa_cons pe_int pa_nil)))))), ?_⟩
    obtain ⟨a, ns, rfl, hS, hl, q⟩ := h
    have e0 : cutV (ns.map V.int) none (some 62) = (ns.take 62).map V.int := by
      unfold cutV
      rw [HT.sIx_none, show ((62 : Int)) = ((62 : Nat) : Int) from rfl, HT.sIx_nat, List.length_map, List.drop_zero, Nat.sub_zero, List.map_take]
      by_cases c : 62 ≤ ns.length
      · rw [Nat.min_eq_left c]
      · rw [Nat.min_eq_right (by omega), List.take_of_length_le (by simp), List.take_of_length_le (by rw [List.length_map]; omega)]
    refine ⟨_, rfl, _, rfl, a, _, rfl, hS, fun c hc => ?_⟩
    rw [e0]
    refine ⟨c, rfl, ⟨_, SqL.of upd_same⟩, fun D hD => ?_⟩
    have ncD : c ≠ D := fun z => by
      rw [z, upd_same] at hD
      cases hD
    refine lc_it (n := ((ns.take 62).map V.int).length) walk_list (SPv (upd H c (.lst ((ns.take 62).map V.int))) D fun i => ((ns.take 62).map V.int).take i) (spv0 hD rfl) (fun i H2 _ p => SqL.of (p.1 _ _ upd_same)) ?_ ?_
    · rintro i x H2 H3 hi ⟨p1, p2⟩ ⟨rfl, hx⟩
      refine ⟨rfl, ?_⟩
      obtain ⟨z, rfl⟩ : ∃ z, x = V.int z := by
        rw [List.getElem?_map] at hx
        cases e : (ns.take 62)[i]? with
        | none =>
          rw [e] at hx
          cases hx
        | some z =>
          rw [e] at hx
          exact ⟨z, (Option.some.inj hx).symm⟩
      refine ⟨_, rfl, .inl ⟨z, rfl, ?_⟩⟩
      refine spv_put hD p1 p2 ?_ ?_
      · rw [List.length_take, List.length_map, List.length_take]
        omega
      · rw [List.take_succ, hx]
        rfl
    · rintro H2 ⟨p1, p2⟩
      dsimp only at p2
      rw [List.take_length] at p2
      refine ⟨by show 3 ≤ sizeLine; decide, fun p hp => ?_⟩
      have npD : D ≠ p := ne_of_none p2 hp
      refine q _ p (fun b o e => ?_) ⟨D, ns.take 62, 0, 0, upd_same, (upd_ne npD).trans p2, npD, ?_, by omega, by omega, by omega⟩
      · rw [upd_ne]
        · exact p1 b o (by rw [upd_ne (ne_of_none e hc)]; exact e)
        · exact ne_of_none (p1 b o (by rw [upd_ne (ne_of_none e hc)]; exact e)) hp
      · rw [List.length_take]
        omega
end
end K0
namespace K0
open PySem PySem.Spec PyProof.Rows L2
theorem bnd2 {m t : Int} (h1 : 0 ≤ m) (h2 : m < 2147483587) (h3 : 0 ≤ t) (h4 : t < 1000000) : (m * (2 * t + 3023) + 37199 * t * t + 59051).natAbs < 2 ^ 64 := by
  have a1 : 0 ≤ m * (2 * t + 3023) := Int.mul_nonneg h1 (by omega)
  have a2 : m * (2 * t + 3023) ≤ 2147483587 * 2003023 := Int.mul_le_mul (by omega) (by omega) (by omega) (by decide)
  have a3 : 0 ≤ 37199 * t * t := Int.mul_nonneg (by omega) h3
  have a4 : 37199 * t * t ≤ 37199000000 * 1000000 := Int.mul_le_mul (by omega) (by omega) h3 (by decide)
  generalize m * (2 * t + 3023) = x at a1 a2
  generalize 37199 * t * t = y at a3 a4
  omega
theorem bnd1 {x t : Int} (h1 : 0 ≤ x) (h2 : x < 2147483563) (h3 : 0 ≤ t) (h4 : t < 1000000) : (x + 59051 * t + 3011).natAbs < 2 ^ 64 := by omega
theorem cutP {B A : Prop} (f : B → A) (b : B) : A := f b
theorem at_in {α : Type} {xs : List α} {i : Int} (h0 : 0 ≤ i) (h1 : i < xs.length) : ∃ v, v ∈ xs ∧ atI xs i = some v ∧ xs[i.toNat]? = some v := by
  have hlt : i.toNat < xs.length := by omega
  refine ⟨xs[i.toNat], List.getElem_mem hlt, ?_, List.getElem?_eq_getElem hlt⟩
  have q := atI_nat (xs := xs) (j := i.toNat) (v := xs[i.toNat]) (List.getElem?_eq_getElem hlt)
  rw [Int.toNat_of_nonneg h0] at q
  exact q
section
variable {P : Program} {w : World} {K : PySem.W.Frag} {mg : Str → Option Value} {base : Heap}
abbrev st_l_draw : Stmt := top 42
abbrev nm_l_draw : List Str := ["_law_pen_here", "_law_many", "_law_turn", "_law_cell", "_law_mixed", "_law_rest"]
theorem sc_l_draw : FnScope nm_l_draw ["_law_pen_here", "_law_many"] (defScope st_l_draw) := ⟨rfl, rfl, rfl, by decide +kernel, rfl, by decide +kernel, by decide +kernel⟩
def spDraw (K : PySem.W.Frag) : Sp := fun vs H Q _ => ∃ (p : Addr) (many : Int) (T : Nat), vs = [.ref p, .int many] ∧ PenAt H p T ∧ T < 1000000 ∧ 1 ≤ many ∧ many ≤ 1000 ∧
  ∀ H' v, KB p H H' → PenAt H' p (T + 1) → 0 ≤ v → v < many → Q (.int v) H'
theorem ok_draw {f : Addr} {fd : FuncData} (F : Fun K "_law_draw" "_law_draw" st_l_draw f fd) (T : Blt mg) : FnOk P w K mg base CX0 1 f fd ["_law_pen_here", "_law_many"] (spDraw K) := by
  refine F.ok sc_l_draw (fun vs H Q E h => ?_) (fun cdv A outer s H vs Q E hr h => ?_)
  · obtain ⟨p, many, T, rfl, _⟩ := h
    rfl
  · refine ⟨_, (pss_cons (ps_if (pt_cmpR op_gt (pe_ix ix_list (pv 0) pe_int (fun _ _ => rfl)) pe_int (nomark _)) (pss_cons (ps_set (i := 5) sc_l_draw.nd rfl (Or.inl rfl) (pe_ix ix_list (pv 0) pe_int (fun _ _ => rfl)))
  (pss_cons (ps_asg (pe_op op_fdiv (pe_callTy call_int1 (by rfl) T.n_int (by decide +kernel) (pa_cons (pv 5) pa_nil)) (pv 1)) (pg_sub (pv 0) pe_int set_list))
  (pss_one (ps_ret (pe_op op_mod (pe_callTy call_int1 (by rfl) T.n_int (by decide +kernel) (pa_cons (pv 5) pa_nil)) (pv 1)))))) pss_nil)
  (pss_cons (ps_set (i := 2) sc_l_draw.nd rfl (Or.inl rfl) (pe_ix ix_list (pv 0) pe_int (fun _ _ => rfl)))
  (pss_cons (ps_asg (pe_op op_add (pv 2) pe_int) (pg_sub (pv 0) pe_int set_list))
  (pss_cons (ps_set (i := 3) sc_l_draw.nd rfl (Or.inl rfl) (pe_op op_add (pe_op op_mul pe_int (pv 2)) pe_int))
  (pss_cons (ps_if (pt_cmpR (op_neD hr.units) (pe_ix ix_list (pv 0) pe_int (fun _ _ => rfl)) (pe_lst pa_nil) (nomark _)) (pss_one (ps_set (i := 3) sc_l_draw.nd rfl (Or.inl rfl) (pe_ix ix_list (pe_ix ix_list (pv 0) pe_int (fun _ _ => rfl)) (pe_op op_mod (pe_callTy call_int1 (by rfl) T.n_int (by decide +kernel) (pa_cons (pv 2) pa_nil)) (pe_callB call_len_seq (by rfl) T.n_len (by decide +kernel) (pa_cons (pe_ix ix_list (pv 0) pe_int (fun _ _ => rfl)) pa_nil))) (fun _ _ => rfl)))) pss_nil)
  (pss_cons (ps_if (PW.pt (pw_and (pt_cmpR op_lt (pv 2) (pe_callB call_len_seq (by rfl) T.n_len (by decide +kernel) (pa_cons (pe_ix ix_list (pv 0) pe_int (fun _ _ => rfl)) pa_nil)) (nomark _)) (pw_and1 (pt_cmpR op_ge (pe_callB call_abs (by rfl) T.n_abs (by decide +kernel) (pa_cons (pv 3) pa_nil)) (pe_op op_pow pe_int pe_int) (nomark _))))) (pss_cons (ps_set (i := 5) sc_l_draw.nd rfl (Or.inl rfl) (pe_op op_add (pe_op op_mul pe_int (pe_op op_sub (pe_callB call_abs (by rfl) T.n_abs (by decide +kernel) (pa_cons (pv 3) pa_nil)) (pe_op op_pow pe_int pe_int))) (pe_callTy call_int1 (by rfl) T.n_int (by decide +kernel) (pa_cons (pe_cmpR op_lt (pv 3) pe_int (nomark _)) pa_nil))))
  (pss_cons (ps_asg (pe_op op_fdiv (pe_callTy call_int1 (by rfl) T.n_int (by decide +kernel) (pa_cons (pv 5) pa_nil)) (pv 1)) (pg_sub (pv 0) pe_int set_list))
  (pss_one (ps_ret (pe_op op_mod (pe_callTy call_int1 (by rfl) T.n_int (by decide +kernel) (pa_cons (pv 5) pa_nil)) (pv 1)))))) pss_nil)
  (pss_cons (ps_set (i := 4) sc_l_draw.nd rfl (Or.inl rfl) (pe_op op_mod (pe_callTy call_int1 (by rfl) T.n_int (by decide +kernel) (pa_cons (pe_op op_pow (pe_op op_add (pe_op op_add (pe_op op_mod (pe_callTy call_int1 (by rfl) T.n_int (by decide +kernel) (pa_cons (pv 3) pa_nil)) pe_int) (pe_op op_mul pe_int (pv 2))) pe_int) pe_int) pa_nil)) pe_int))
  (pss_cons (ps_set (i := 4) sc_l_draw.nd rfl (Or.inl rfl) (pe_op op_mod (pe_callTy call_int1 (by rfl) T.n_int (by decide +kernel) (pa_cons (pe_op op_pow (pe_op op_add (pe_op op_add (pe_op op_mul (pv 4) (pe_op op_add (pe_op op_mul pe_int (pv 2)) pe_int)) (pe_op op_mul (pe_op op_mul pe_int (pv 2)) (pv 2))) pe_int) pe_int) pa_nil)) pe_int))
  (pss_one (ps_ret (pe_op op_mod (pe_callTy call_int1 (by rfl) T.n_int (by decide +kernel) (pa_cons (pe_op op_fdiv (pv 4) pe_int) pa_nil)) (pv 1)))))))))))), ?_⟩
    obtain ⟨p, many, T, rfl, ⟨l, ns, t, r, hp, hl, hlp, hn, ht0, htT, hr0⟩, hT, hm1, hm2, q⟩ := h
    have done1 : ∀ (t' r' : Int), 0 ≤ t' → t' ≤ T + 1 → 0 ≤ r' → ∀ v, 0 ≤ v → v < many → Q (.int v) (upd H p (.lst [.ref l, .int t', .int r'])) := fun t' r' a b c v d e =>
      q _ v (KB.put hp) ⟨l, ns, t', r', upd_same, (upd_ne hlp).trans hl, hlp, hn, a, by omega, c⟩ d e
    -- if the rest is above 0
    refine ⟨_, rfl, p, _, 2, .int r, rfl, rfl, SqL.of hp, rfl, _, _, rfl, rfl, _, rfl, ?_⟩
    refine ite2 (fun c => ?_) (fun c => ?_)
    · refine ⟨_, rfl, p, _, 2, .int r, rfl, rfl, SqL.of hp, rfl, ?_⟩
      refine ⟨_, rfl, .inl ⟨_, rfl, _, rfl, _, _, rfl, rfl, ⟨by omega, by omega⟩, ?_⟩⟩
      refine ⟨_, rfl, p, _, 2, 2, rfl, rfl, hp, rfl, ?_⟩
      refine ⟨_, rfl, .inl ⟨_, rfl, _, rfl, _, _, rfl, rfl, (by show 0 < many; omega), ?_⟩⟩
      exact done1 t (r / many) ht0 (by omega) (Int.ediv_nonneg hr0 (by omega)) _ (Int.emod_nonneg _ (by omega)) (Int.emod_lt_of_pos _ (by omega))
    · refine ⟨_, rfl, p, _, 1, .int t, rfl, rfl, SqL.of hp, rfl, ?_⟩
      refine ⟨_, rfl, _, _, rfl, rfl, ?_⟩
      refine ⟨_, rfl, p, _, 1, 1, rfl, rfl, hp, rfl, ?_⟩
      have hT' : (T : Int) < 1000000 := by omega
      have hp2 : (upd H p (.lst [.ref l, .int (t + 1), .int r])) p = some (.lst [.ref l, .int (t + 1), .int r]) := upd_same
      have hl2 : (upd H p (.lst [.ref l, .int (t + 1), .int r])) l = some (.lst (ns.map V.int)) := (upd_ne hlp).trans hl
      -- the cell, when the pen has no numbers
      refine ⟨_, rfl, _, _, rfl, rfl, .inl ⟨by decide, by decide⟩, _, _, rfl, rfl, ?_⟩
      -- if the pen has numbers
      refine ⟨_, rfl, p, _, 0, .ref l, rfl, rfl, SqL.of hp2, rfl, ?_⟩
      refine ⟨Nat.zero_le _, fun e he => ?_⟩
      have he : (upd H p (.lst [.ref l, .int (t + 1), .int r])) e = none := he
      have hep : e ≠ p := fun z => by
        rw [z, hp2] at he
        cases he
      have hel : e ≠ l := fun z => by
        rw [z, hl2] at he
        cases he
      have hal : (ns.map V.int).all datOk = true := List.all_eq_true.mpr fun v hv => by
        obtain ⟨i, _, rfl⟩ := List.mem_map.mp hv
        rfl
      refine ⟨.list ((ns.map V.int).map datV), .list ([].map datV), .lst (SqL.of ((upd_ne hel.symm).trans hl2)) (dp_all hal), .lst (SqL.of upd_same) .nil, dat_shaped hal, dat_shaped (xs := []) rfl, _, rfl, ?_⟩
      have hp3 : (upd (upd H p (.lst [.ref l, .int (t + 1), .int r])) e (.lst [])) p = some (.lst [.ref l, .int (t + 1), .int r]) := (upd_ne hep.symm).trans hp2
      have hl3 : (upd (upd H p (.lst [.ref l, .int (t + 1), .int r])) e (.lst [])) l = some (.lst (ns.map V.int)) := (upd_ne hel.symm).trans hl2
      have kb3 : KB p H (upd (upd H p (.lst [.ref l, .int (t + 1), .int r])) e (.lst [])) := KB.trans (KB.put hp) (KB.sm (Sm.new he))
      have kb3' : ∀ x y, KB p H (upd (upd (upd H p (.lst [.ref l, .int (t + 1), .int r])) e (.lst [])) p (.lst [.ref l, x, y])) := fun x y => KB.trans kb3 (KB.put hp3)
      have c10 : CPow 10 18 := ⟨by decide, by decide, by decide⟩
      refine ite2 (fun c1 => ?g1) (fun c1 => ?g2)
      case' g1 =>
        have hns : 0 < ns.length := by
          cases ns with
          | nil => exact absurd c1 (by decide)
          | cons x r => exact Nat.succ_pos _
        have hlen : (0 : Int) < ((ns.map V.int).length : Int) := by
          rw [List.length_map]
          omega
        obtain ⟨v, hv, hat, _⟩ := at_in (xs := ns.map V.int) (i := t % ((ns.map V.int).length : Int)) (Int.emod_nonneg _ (by omega)) (Int.emod_lt_of_pos _ hlen)
        obtain ⟨cell, _, rfl⟩ := List.mem_map.mp hv
        refine ⟨_, rfl, p, _, 0, .ref l, rfl, rfl, SqL.of hp3, rfl, _, rfl, .inl ⟨t, rfl, _, rfl, p, _, 0, .ref l, rfl, rfl, SqL.of hp3, rfl, l, _, rfl, .inl (SqL.of hl3), _, _, rfl, rfl,
          hlen, l, _, _, .int cell, rfl, rfl, SqL.of hl3, hat, ?_⟩⟩
      case' g2 =>
        let cell : Int := 37199 * t + 3011
      all_goals
        apply cutP
        · intro last
          refine ⟨_, rfl, _, rfl, p, _, 0, .ref l, rfl, rfl, SqL.of hp3, rfl, l, _, rfl, .inl (SqL.of hl3), _, _, rfl, rfl, _, rfl, ite2 (fun c2 => ?_) (fun c2 => ?_)⟩
          · refine ⟨_, rfl, _, rfl, _, _, rfl, rfl, c10, _, _, rfl, rfl, _, rfl, ite2 (fun c3 => ?_) (fun c3 => ?_)⟩
            · clear last
              have c4 : (10 : Int) ^ (Int.toNat 18) ≤ if cell < 0 then -cell else cell := of_decide_eq_true c3
              refine ⟨_, rfl, _, rfl, _, _, rfl, rfl, c10, _, _, rfl, rfl, _, _, rfl, rfl, .inl ⟨by decide, by decide⟩, _, rfl, _, _, rfl, rfl, .inr ⟨_, rfl, _, _, rfl, rfl, ?_⟩⟩
              have hr : 0 ≤ 2 * ((if cell < 0 then -cell else cell) - 10 ^ (Int.toNat 18)) + (if decide (cell < 0) = true then (1 : Int) else 0) := by
                have h1 : (0 : Int) ≤ if decide (cell < 0) = true then (1 : Int) else 0 := by split <;> omega
                generalize (10 : Int) ^ (Int.toNat 18) = ten at c4
                generalize (if cell < 0 then -cell else cell) = ab at c4
                omega
              refine ⟨_, rfl, .inl ⟨_, rfl, _, rfl, _, _, rfl, rfl, ⟨by omega, by omega⟩, _, rfl, p, _, 2, 2, rfl, rfl, hp3, rfl, ?_⟩⟩
              refine ⟨_, rfl, .inl ⟨_, rfl, _, rfl, _, _, rfl, rfl, (by show 0 < many; omega), ?_⟩⟩
              exact q _ _ (kb3' _ _) ⟨l, ns, t + 1, _, upd_same, (upd_ne hlp).trans hl3, hlp, hn, by omega, by omega, Int.ediv_nonneg hr (by omega)⟩ (Int.emod_nonneg _ (by omega)) (Int.emod_lt_of_pos _ (by omega))
            · exact last
          · exact iteF last
        · have b1 : 0 ≤ cell % 2147483563 := Int.emod_nonneg _ (by decide)
          have b2 : cell % 2147483563 < 2147483563 := Int.emod_lt_of_pos _ (by decide)
          have b3 : 0 ≤ (cell % 2147483563 + 59051 * t + 3011) ^ (Int.toNat 5) % 2147483587 := Int.emod_nonneg _ (by decide)
          have b4 : (cell % 2147483563 + 59051 * t + 3011) ^ (Int.toNat 5) % 2147483587 < 2147483587 := Int.emod_lt_of_pos _ (by decide)
          have b5 : -(2 ^ 64) < 37199 * t := by omega
          have b6 : 37199 * t < 2 ^ 64 := by omega
          refine ⟨_, rfl, .inl ⟨_, rfl, _, _, rfl, rfl, (by show (0 : Int) < 2147483563; decide), _, rfl, _, _, rfl, rfl, .inl ⟨by decide, by decide⟩, _, _, rfl, rfl, _, _, rfl, rfl, _, _, rfl, rfl, ⟨by decide, by decide, bnd1 b1 b2 ht0 (by omega)⟩, .inl ⟨_, rfl, _, _, rfl, rfl, (by show (0 : Int) < 2147483587; decide), ?_⟩⟩⟩
          refine ⟨_, rfl, _, rfl, _, _, rfl, rfl, .inl ⟨by decide, by decide⟩, _, _, rfl, rfl, _, _, rfl, rfl, .inl ⟨Int.lt_of_lt_of_le (by decide) b3, Int.lt_trans b4 (by decide)⟩, _, rfl, _, _, rfl, rfl, .inl ⟨by decide, by decide⟩, _, rfl, _, _, rfl, rfl, .inl ⟨b5, b6⟩,
            _, _, rfl, rfl, _, _, rfl, rfl, _, _, rfl, rfl, ⟨by decide, by decide, bnd2 b3 b4 ht0 (by omega)⟩, .inl ⟨_, rfl, _, _, rfl, rfl, (by show (0 : Int) < 2147483629; decide), ?_⟩⟩
          refine ⟨_, rfl, _, _, rfl, rfl, ⟨by decide, by decide⟩, .inl ⟨_, rfl, _, rfl, _, _, rfl, rfl, (by show 0 < many; omega), ?_⟩⟩
          exact q _ _ kb3 ⟨l, ns, t + 1, r, hp3, hl3, hlp, hn, by omega, by omega, hr0⟩ (Int.emod_nonneg _ (by omega)) (Int.emod_lt_of_pos _ (by omega))
end
end K0
namespace K0
open PySem PySem.Spec PyProof.Rows L2
/-- a value as one is drawn for a field: flat, a list or a tuple of such and of objects, the empty dict -/
def GoodV (p : Addr) (H : Hp) (v : V) : Prop := (scal v v = true) ∨ (∃ a xs, v = .ref a ∧ a ≠ p ∧ (H a = some (.lst xs) ∨ H a = some (.tup xs)) ∧ xs.all sameV = true) ∨ (∃ a, v = .ref a ∧ a ≠ p ∧ H a = some (.dK []))
theorem GoodV.sm {p : Addr} {H H' : Hp} {v : V} (g : GoodV p H v) (s : Same H H') : GoodV p H' v := by
  rcases g with h | ⟨a, xs, e, n, h | h, k⟩ | ⟨a, e, n, h⟩
  · exact .inl h
  · exact .inr (.inl ⟨a, xs, e, n, .inl (s _ _ h), k⟩)
  · exact .inr (.inl ⟨a, xs, e, n, .inr (s _ _ h), k⟩)
  · exact .inr (.inr ⟨a, e, n, s _ _ h⟩)
theorem GoodV.kb {p : Addr} {H H' : Hp} {v : V} (g : GoodV p H v) (s : KB p H H') : GoodV p H' v := by
  rcases g with h | ⟨a, xs, e, n, h | h, k⟩ | ⟨a, e, n, h⟩
  · exact .inl h
  · exact .inr (.inl ⟨a, xs, e, n, .inl (s.kb _ _ n h), k⟩)
  · exact .inr (.inl ⟨a, xs, e, n, .inr (s.kb _ _ n h), k⟩)
  · exact .inr (.inr ⟨a, e, n, s.kb _ _ n h⟩)
theorem GoodV.newL {p a : Addr} {H : Hp} {T : Nat} {xs : List V} (h : PenAt H p T) (n : H a = none) (k : xs.all sameV = true) : GoodV p (upd H a (.lst xs)) (.ref a) := .inr (.inl ⟨a, xs, rfl, h.ne n, .inl upd_same, k⟩)
theorem GoodV.newT {p a : Addr} {H : Hp} {T : Nat} {xs : List V} (h : PenAt H p T) (n : H a = none) (k : xs.all sameV = true) : GoodV p (upd H a (.tup xs)) (.ref a) := .inr (.inl ⟨a, xs, rfl, h.ne n, .inr upd_same, k⟩)
theorem GoodV.newD {p a : Addr} {H : Hp} {T : Nat} (h : PenAt H p T) (n : H a = none) : GoodV p (upd H a (.dK [])) (.ref a) := .inr (.inr ⟨a, rfl, h.ne n, upd_same⟩)
theorem GoodV.same {p : Addr} {H : Hp} {v : V} (g : GoodV p H v) : sameV v = true := by
  rcases g with h | ⟨a, xs, rfl, _⟩ | ⟨a, rfl, _⟩
  · cases v <;> first | rfl | cases h
  · rfl
  · rfl
section
variable {P : Program} {w : World} {K : PySem.W.Frag} {mg : Str → Option Value} {base : Heap}
abbrev CDraw (P : Program) (w : World) (K : PySem.W.Frag) (mg : Str → Option Value) (base : Heap) : Prop := Cal P w K mg base 1 "_law_draw" st_l_draw ["_law_pen_here", "_law_many"] (spDraw K)
abbrev st_l_pick : Stmt := top 43
abbrev nm_l_pick : List Str := ["_law_pen_here", "_law_some"]
theorem sc_l_pick : FnScope nm_l_pick ["_law_pen_here", "_law_some"] (defScope st_l_pick) := ⟨rfl, rfl, rfl, by decide +kernel, rfl, by decide +kernel, by decide +kernel⟩
def spPick (K : PySem.W.Frag) : Sp := fun vs H Q _ => ∃ (p a : Addr) (xs : List V) (T : Nat), vs = [.ref p, .ref a] ∧ PenAt H p T ∧ T < 1000000 ∧ SqL K H a xs ∧ a ≠ p ∧ 1 ≤ xs.length ∧ xs.length ≤ 1000 ∧
  ∀ H' v, KB p H H' → PenAt H' p (T + 1) → v ∈ xs → Q v H'
theorem ok_pick {f : Addr} {fd : FuncData} (F : Fun K "_law_pick" "_law_pick" st_l_pick f fd) (T : Blt mg) (C__law_draw : CDraw P w K mg base) : FnOk P w K mg base CX0 2 f fd ["_law_pen_here", "_law_some"] (spPick K) := by
  refine F.ok sc_l_pick (fun vs H Q E h => ?_) (fun cdv A outer s H vs Q E hr h => ?_)
  · obtain ⟨p, a, xs, T, rfl, _⟩ := h
    rfl
  · refine ⟨_, (pss_one (ps_ret (pe_ix ix_list (pv 1) (pe_cl C__law_draw (hr.mono (by decide)) rfl (pa_cons (pv 0) (pa_cons (pe_callB call_len_seq (by rfl) T.n_len (by decide +kernel) (pa_cons (pv 1) pa_nil)) pa_nil))) (fun _ _ => rfl)))), ?_⟩
    obtain ⟨p, a, xs, T, rfl, hp, hT, ha, hap, h1, h2, q⟩ := h
    refine ⟨_, rfl, _, rfl, _, rfl, a, xs, rfl, .inl ha, p, xs.length, T, rfl, hp, hT, by omega, by omega, fun H' v kb hp' v0 v1 => ?_⟩
    obtain ⟨u, hu, hat, _⟩ := at_in v0 v1
    exact ⟨a, xs, v, u, rfl, rfl, kb.l hap ha, hat, q H' u kb hp' hu⟩
abbrev st_l_value : Stmt := top 44
abbrev nm_l_value : List Str := ["_law_pen_here", "_law_small", "_law_some"]
theorem sc_l_value : FnScope nm_l_value ["_law_pen_here"] (defScope st_l_value) := ⟨rfl, rfl, rfl, by decide +kernel, rfl, by decide +kernel, by decide +kernel⟩
def spValue (K : PySem.W.Frag) : Sp := fun vs H Q _ => ∃ (p : Addr) (T : Nat), vs = [.ref p] ∧ PenAt H p T ∧ T < 999990 ∧ ∀ H' v, KB p H H' → PenAt H' p (T + 2) → GoodV p H' v → Q v H'
theorem str80 : ∀ n : Nat, n < 80 → (Str.ofString (toString ((n : Nat) : Int))).length ≤ 10 := by decide +kernel
theorem ok_value {f : Addr} {fd : FuncData} (F : Fun K "_law_value" "_law_value" st_l_value f fd) (T : Blt mg) (C__law_draw : CDraw P w K mg base) : FnOk P w K mg base CX0 2 f fd ["_law_pen_here"] (spValue K) := by
  refine F.ok sc_l_value (fun vs H Q E h => ?_) (fun cdv A outer s H vs Q E hr h => ?_)
  · obtain ⟨p, T, rfl, _⟩ := h
    rfl
  · refine ⟨_, (pss_cons (ps_set (i := 1) sc_l_value.nd rfl (Or.inl rfl) (pe_cl C__law_draw (hr.mono (by decide)) rfl (pa_cons (pv 0) (pa_cons pe_int pa_nil))))
  (pss_cons (ps_set (i := 2) sc_l_value.nd rfl (Or.inl rfl) (pe_lst (pa_cons (pv 1) (pa_cons (pe_op op_sub (pe_un un_neg (pe_op op_pow pe_int pe_int)) (pv 1)) (pa_cons (pe_op op_add_str pe_str (pe_callTy call_str_int (by rfl) T.n_str (by decide +kernel) (pa_cons (pv 1) pa_nil))) (pa_cons pe_str (pa_cons pe_non (pa_cons (pe_lst (pa_cons (pv 1) (pa_cons (pe_lst (pa_cons pe_non pa_nil)) pa_nil))) (pa_cons (pe_tup (pa_cons (pv 1) (pa_cons (pe_tup (pa_cons pe_str pa_nil)) pa_nil))) (pa_cons pe_bl (pa_cons pe_dnewK (pa_cons pe_str pa_nil))))))))))))
  (pss_one (ps_ret (pe_ix ix_list (pv 2) (pe_cl C__law_draw (hr.mono (by decide)) rfl (pa_cons (pv 0) (pa_cons pe_int pa_nil))) (fun _ _ => rfl)))))), ?_⟩
    obtain ⟨p, T, rfl, hp, hT, q⟩ := h
    refine ⟨_, rfl, p, 80, T, rfl, hp, by omega, by decide, by decide, fun H1 v kb1 hp1 v0 v1 => ?_⟩
    have c30 : CPow 10 30 := ⟨by decide, by decide, by decide⟩
    have hb : v.natAbs.log2 < 1920 := by
      have h1 : v.natAbs < 2 ^ 1920 := Nat.lt_of_lt_of_le (show v.natAbs < 80 by omega) (by decide +kernel)
      by_cases h0 : v.natAbs = 0
      · rw [h0]
        decide
      · exact (Nat.log2_lt h0).mpr h1
    have hs : (Str.ofString "a").length + (toString v : Str).length ≤ sizeLine := by
      have e : v = ((v.toNat : Nat) : Int) := by omega
      have k := str80 v.toNat (by omega)
      rw [← e] at k
      have k2 : (Str.ofString "a").length = 1 := rfl
      have k3 : (11 : Nat) ≤ sizeLine := by decide
      have k4 : (toString v : Str).length ≤ 10 := k
      omega
    refine ⟨_, rfl, _, _, rfl, rfl, c30, _, rfl, _, rfl, _, _, rfl, rfl, _, rfl, _, rfl, hb, _, _, rfl, rfl, hs, ?_⟩
    refine ⟨_, rfl, (by show 1 ≤ sizeLine; decide), fun l1 h1 => ⟨(by show 2 ≤ sizeLine; decide), fun l2 h2 => ?_⟩⟩
    refine ⟨_, rfl, (by show 1 ≤ sizeLine; decide), fun t1 h3 => ⟨(by show 2 ≤ sizeLine; decide), fun t2 h4 => fun d h5 => ⟨(by show 10 ≤ sizeLine; decide), fun a h6 => ?_⟩⟩⟩
    have s1 := Sm.new (o := .lst [V.non]) h1
    have s2 := Sm.new (o := .lst [.int v, .ref l1]) h2
    have s3 := Sm.new (o := .tup [V.str (Str.ofString "x")]) h3
    have s4 := Sm.new (o := .tup [.int v, .ref t1]) h4
    have s5 := Sm.new (o := .dK []) h5
    have s6 := Sm.new (o := .lst [.int v, .int (-10 ^ (Int.toNat 30) - v), .str (Str.ofString "a" ++ (toString v : Str)), .str (Str.ofString ""), .non, .ref l2, .ref t2, .bl true, .ref d, .str (Str.ofString "part")]) h6
    have g2 := GoodV.newL (xs := [.int v, .ref l1]) (hp1.sm s1) h2 rfl
    have pen4 := ((hp1.sm s1).sm s2).sm s3
    have g4 := GoodV.newT (xs := [.int v, .ref t1]) pen4 h4 rfl
    have pen5 := pen4.sm s4
    have g5 := GoodV.newD pen5 h5
    have pen6 := (pen5.sm s5).sm s6
    have kb6 : KB p H _ := KB.trans kb1 (KB.sm (Same.trans (Same.trans (Same.trans (Same.trans (Same.trans s1 s2) s3) s4) s5) s6))
    refine ⟨_, rfl, _, rfl, p, 10, T + 1, rfl, pen6, by omega, by decide, by decide, fun H2 i kb2 hp2 i0 i1 => ?_⟩
    have ha2 := kb2.kb a _ ((pen5.sm s5).ne h6) upd_same
    obtain ⟨u, hu, hat, _⟩ := at_in (xs := [.int v, .int (-10 ^ (Int.toNat 30) - v), .str (Str.ofString "a" ++ (toString v : Str)), .str (Str.ofString ""), V.non, .ref l2, .ref t2, .bl true, .ref d, .str (Str.ofString "part")]) i0 i1
    refine ⟨a, _, i, u, rfl, rfl, SqL.of ha2, hat, q H2 u (KB.trans kb6 kb2) hp2 ?_⟩
    simp only [List.mem_cons, List.not_mem_nil, or_false] at hu
    rcases hu with rfl | rfl | rfl | rfl | rfl | rfl | rfl | rfl | rfl | rfl
    · exact .inl rfl
    · exact .inl rfl
    · exact .inl rfl
    · exact .inl rfl
    · exact .inl rfl
    · exact ((((g2.sm s3).sm s4).sm s5).sm s6).kb kb2
    · exact ((g4.sm s5).sm s6).kb kb2
    · exact .inl rfl
    · exact (g5.sm s6).kb kb2
    · exact .inl rfl
end
end K0
namespace K0
open PySem PySem.Spec PyProof.Rows L2
/-! ### the errors' own __init__ -/
def spInit1 (K : PySem.W.Frag) (f : Str) : Sp := fun vs H Q _ => ∃ (a C : Addr) (v : V), vs = [.ref a, v] ∧ OexC K C ∧ PySem.W.findIn K (.ref C) f = some none ∧ H a = some (exo a C none) ∧
  ∀ dx, H dx = none → dx ≠ a → Q .non (upd (upd H dx (exd dx [(f, v)])) a (exo a C (some dx)))
def spInit2 (K : PySem.W.Frag) (f g : Str) : Sp := fun vs H Q _ => ∃ (a C : Addr) (u v : V), vs = [.ref a, u, v] ∧ OexC K C ∧ PySem.W.findIn K (.ref C) f = some none ∧ PySem.W.findIn K (.ref C) g = some none ∧ H a = some (exo a C none) ∧
  ∀ dx, H dx = none → dx ≠ a → Q .non (upd (upd (upd H dx (exd dx [(f, u)])) a (exo a C (some dx))) dx (exd dx [(g, v), (f, u)]))
/-! ### errors made -/
def tMA (t : TA) : TA := fun σ H Q => ∃ Φ : List V → Hp → Prop, t σ H Φ ∧ ∀ vs H1, Φ vs H1 → Q vs H1
theorem pa_mono {X : Cx} {es : List Expr} {t : TA} (h : PA X es t) : PA X es (tMA t) :=
  ⟨fun pos pins s σ H Q I ⟨Φ, h1, h2⟩ => thn (h.run pos pins s σ H Φ I h1) fun _ _ ⟨vs, H1, I1, r1, q1⟩ => ⟨vs, H1, I1, r1, h2 vs H1 q1⟩⟩
theorem pk_mono {X : Cx} {kws : List Keyword} {t : TA} (h : PK X kws t) : PK X kws (tMA t) :=
  ⟨fun pos pins s σ H Q I ⟨Φ, h1, h2⟩ => thn (h.run pos pins s σ H Φ I h1) fun _ _ ⟨vs, H1, I1, r1, q1⟩ => ⟨vs, H1, I1, r1, h2 vs H1 q1⟩⟩
theorem PE.imp {X : Cx} {e : Expr} {t t' : TE} (h : PE X e t) (i : ∀ σ H Q, t' σ H Q → t σ H Q) : PE X e t' := ⟨fun pins s σ H Q I q => h.run pins s σ H Q I (i σ H Q q)⟩
/-- a class of errors with one field f; with two, f and g -/
structure Er1 (P : Program) (w : World) (K : PySem.W.Frag) (mg : Str → Option Value) (base : Heap) (x : Str) (C : Addr) (f : Str) : Prop where
  gl : mg x = some (.ref C)
  o : OexC K C
  no : PySem.W.findIn K (.ref C) f = some none
  ex : ∃ (fI : Addr) (fd : FuncData), PySem.W.findIn K (.ref C) "__init__" = some (some (.ref fI)) ∧ PySem.W.typeIn K (.ref fI) = some (.type "function") ∧ FnOk P w K mg base CX0 1 fI fd ["self", f] (spInit1 K f) ∧
    Binds K fd ["self", f] [] ∧ KBinds K fd ["self", f] [f] kg2 kg2
structure Er2 (P : Program) (w : World) (K : PySem.W.Frag) (mg : Str → Option Value) (base : Heap) (x : Str) (C : Addr) (f g : Str) : Prop where
  gl : mg x = some (.ref C)
  o : OexC K C
  no1 : PySem.W.findIn K (.ref C) f = some none
  no2 : PySem.W.findIn K (.ref C) g = some none
  ex : ∃ (fI : Addr) (fd : FuncData), PySem.W.findIn K (.ref C) "__init__" = some (some (.ref fI)) ∧ PySem.W.typeIn K (.ref fI) = some (.type "function") ∧ FnOk P w K mg base CX0 1 fI fd ["self", f, g] (spInit2 K f g) ∧
    Binds K fd ["self", f, g] [] ∧ KBinds K fd ["self", f, g] [g, f] kg3r kg3r
def cE1 (C : Addr) (f : Str) (Q : VK) : List V → Hp → Prop
  | [v], H1 => ∀ a H2, H1 a = none → Same H1 H2 → ErrAt H2 a C [(f, v)] → Q (.ref a) H2
  | _, _ => False
def cE2 (C : Addr) (f g : Str) (Q : VK) : List V → Hp → Prop
  | [u, v], H1 => ∀ a H2, H1 a = none → Same H1 H2 → ErrAt H2 a C [(g, v), (f, u)] → Q (.ref a) H2
  | _, _ => False
def cE2r (C : Addr) (f g : Str) (Q : VK) : List V → Hp → Prop
  | [v, u], H1 => ∀ a H2, H1 a = none → Same H1 H2 → ErrAt H2 a C [(g, v), (f, u)] → Q (.ref a) H2
  | _, _ => False
def tE1 (C : Addr) (f : Str) (ta : TA) : TE := fun σ H Q => ta σ H (cE1 C f Q)
def tE2 (C : Addr) (f g : Str) (ta : TA) : TE := fun σ H Q => ta σ H (cE2 C f g Q)
def tE2r (C : Addr) (f g : Str) (ta : TA) : TE := fun σ H Q => ta σ H (cE2r C f g Q)
theorem made1 {H1 : Hp} {a dx C : Addr} {f : Str} {v : V} {Q : VK} (ha : H1 a = none) (hd : (upd H1 a (exo a C none)) dx = none) (ne : dx ≠ a) (k : ∀ a H2, H1 a = none → Same H1 H2 → ErrAt H2 a C [(f, v)] → Q (.ref a) H2) :
    Q (.ref a) (upd (upd (upd H1 a (exo a C none)) dx (exd dx [(f, v)])) a (exo a C (some dx))) := by
  have hd' : H1 dx = none := by rwa [upd_ne ne] at hd
  refine k a _ ha (fun b o e => ?_) ⟨dx, upd_same, (upd_ne ne).trans upd_same⟩
  rw [upd_ne (ne_of_none e ha), upd_ne (ne_of_none e hd'), upd_ne (ne_of_none e ha)]
  exact e
theorem made2 {H1 : Hp} {a dx C : Addr} {f g : Str} {u v : V} {Q : VK} (ha : H1 a = none) (hd : (upd H1 a (exo a C none)) dx = none) (ne : dx ≠ a) (k : ∀ a H2, H1 a = none → Same H1 H2 → ErrAt H2 a C [(g, v), (f, u)] → Q (.ref a) H2) :
    Q (.ref a) (upd (upd (upd (upd H1 a (exo a C none)) dx (exd dx [(f, u)])) a (exo a C (some dx))) dx (exd dx [(g, v), (f, u)])) := by
  have hd' : H1 dx = none := by rwa [upd_ne ne] at hd
  refine k a _ ha (fun b o e => ?_) ⟨dx, (upd_ne (Ne.symm ne)).trans upd_same, upd_same⟩
  rw [upd_ne (ne_of_none e hd'), upd_ne (ne_of_none e ha), upd_ne (ne_of_none e hd'), upd_ne (ne_of_none e ha)]
  exact e
section
variable {X : Cx} {x f g : Str} {C : Addr} {p pos p1 : Pos} {e e2 : Expr} {ta : TA}
theorem pe_e1 (T : Er1 X.prog X.w X.K X.mg X.base x C f) (hr : Room 2 X.A) (hg : Gl X x) (ha : PA X [e] ta) (hdb : (x == ("__debug__" : Str)) = false := by decide)
    (he : starEach [e] X.env = (false, eval e X.env) :: starEach [] X.env := by rfl) (hpl : (backTo pos (starEach [] X.env)).any (·.1) = false := by rfl) :
    PE X (.Call (.Name x p) [e] [] pos) (tE1 C f ta) := by
  obtain ⟨fI, fd, iC, tI, G, b, _⟩ := T.ex
  refine PE.imp (pe_mkE T.o iC tI G hr b .nil pass0 hg T.gl (pa_mono ha) hdb he hpl) fun σ H Q h => ⟨_, h, fun vs H1 q => ?_⟩
  match vs, q with
  | [v], q => exact ⟨by show 1 ≤ 1000; decide, fun a hn => ⟨a, C, v, rfl, T.o, T.no, upd_same, fun dx hd ne => ⟨rfl, made1 hn hd ne q⟩⟩⟩
theorem pe_e2 (T : Er2 X.prog X.w X.K X.mg X.base x C f g) (hr : Room 2 X.A) (hg : Gl X x) (ha : PA X [e, e2] ta) (hdb : (x == ("__debug__" : Str)) = false := by decide)
    (he : starEach [e, e2] X.env = (false, eval e X.env) :: starEach [e2] X.env := by rfl) (hpl : (backTo pos (starEach [e2] X.env)).any (·.1) = false := by rfl) :
    PE X (.Call (.Name x p) [e, e2] [] pos) (tE2 C f g ta) := by
  obtain ⟨fI, fd, iC, tI, G, b, _⟩ := T.ex
  refine PE.imp (pe_mkE T.o iC tI G hr b .nil pass0 hg T.gl (pa_mono ha) hdb he hpl) fun σ H Q h => ⟨_, h, fun vs H1 q => ?_⟩
  match vs, q with
  | [u, v], q => exact ⟨by show 2 ≤ 1000; decide, fun a hn => ⟨a, C, u, v, rfl, T.o, T.no1, T.no2, upd_same, fun dx hd ne => ⟨rfl, made2 hn hd ne q⟩⟩⟩
theorem pe_k1 {kws : List Keyword} (T : Er1 X.prog X.w X.K X.mg X.base x C f) (hr : Room 2 X.A) (hg : Gl X x) (ha : PK X kws ta)
    (hall : (backToKw pos (keywordEach kws X.env)).all (·.1.isSome) = true := by rfl) (hks : (backToKw pos (keywordEach kws X.env)).filterMap (·.1) = [f] := by rfl) (hdb : (x == ("__debug__" : Str)) = false := by decide)
    (hpl : ((backTo pos (starEach [] X.env)).any (·.1) || (backToKw pos (keywordEach kws X.env)).any (·.1.isNone)) = false := by rfl) :
    PE X (.Call (.Name x p) [] kws pos) (tE1 C f ta) := by
  obtain ⟨fI, fd, iC, tI, G, _, b⟩ := T.ex
  refine PE.imp (pe_mkK T.o iC tI G hr b pass0 hg T.gl (pk_mono ha) hall hks hdb hpl) fun σ H Q h => ⟨_, h, fun vs H1 q => ?_⟩
  match vs, q with
  | [v], q => exact ⟨rfl, fun a hn => ⟨a, C, v, rfl, T.o, T.no, upd_same, fun dx hd ne => ⟨rfl, made1 hn hd ne q⟩⟩⟩
theorem pe_k2 {kws : List Keyword} (T : Er2 X.prog X.w X.K X.mg X.base x C f g) (hr : Room 2 X.A) (hg : Gl X x) (ha : PK X kws ta)
    (hall : (backToKw pos (keywordEach kws X.env)).all (·.1.isSome) = true := by rfl) (hks : (backToKw pos (keywordEach kws X.env)).filterMap (·.1) = [g, f] := by rfl) (hdb : (x == ("__debug__" : Str)) = false := by decide)
    (hpl : ((backTo pos (starEach [] X.env)).any (·.1) || (backToKw pos (keywordEach kws X.env)).any (·.1.isNone)) = false := by rfl) :
    PE X (.Call (.Name x p) [] kws pos) (tE2r C f g ta) := by
  obtain ⟨fI, fd, iC, tI, G, _, b⟩ := T.ex
  refine PE.imp (pe_mkK T.o iC tI G hr b pass0 hg T.gl (pk_mono ha) hall hks hdb hpl) fun σ H Q h => ⟨_, h, fun vs H1 q => ?_⟩
  match vs, q with
  | [v, u], q => exact ⟨rfl, fun a hn => ⟨a, C, u, v, rfl, T.o, T.no1, T.no2, upd_same, fun dx hd ne => ⟨rfl, made2 hn hd ne q⟩⟩⟩
end
section
variable {P : Program} {w : World} {K : PySem.W.Frag} {mg : Str → Option Value} {base : Heap}
abbrev st_i_BadWord : Stmt := inClass (top 15) 0
theorem sc_i_BadWord : FnScope ["self", "part"] ["self", "part"] (defScope st_i_BadWord) := ⟨rfl, rfl, rfl, by decide +kernel, rfl, by decide +kernel, by decide +kernel⟩
theorem ok_i_BadWord {f : Addr} {fd : FuncData} (F : Fun K "__init__" "BadWord.__init__" st_i_BadWord f fd) : FnOk P w K mg base CX0 1 f fd ["self", "part"] (spInit1 K "part") := by
  refine F.ok sc_i_BadWord (fun vs H Q E h => ?_) (fun cdv A outer s H vs Q E hr h => ?_)
  · obtain ⟨a, C, v, rfl, _⟩ := h
    rfl
  · obtain ⟨a, C, v, rfl, T, hno, ha, k⟩ := h
    exact ⟨_, pss_one (ps_ost (pv 0) (pv 1)), _, rfl, _, rfl, a, C, rfl, T, hno, .inl ⟨ha, fun dx n ne => k dx n ne⟩⟩
abbrev st_i_BadStock : Stmt := inClass (top 16) 0
theorem sc_i_BadStock : FnScope ["self", "part"] ["self", "part"] (defScope st_i_BadStock) := ⟨rfl, rfl, rfl, by decide +kernel, rfl, by decide +kernel, by decide +kernel⟩
theorem ok_i_BadStock {f : Addr} {fd : FuncData} (F : Fun K "__init__" "BadStock.__init__" st_i_BadStock f fd) : FnOk P w K mg base CX0 1 f fd ["self", "part"] (spInit1 K "part") := by
  refine F.ok sc_i_BadStock (fun vs H Q E h => ?_) (fun cdv A outer s H vs Q E hr h => ?_)
  · obtain ⟨a, C, v, rfl, _⟩ := h
    rfl
  · obtain ⟨a, C, v, rfl, T, hno, ha, k⟩ := h
    exact ⟨_, pss_one (ps_ost (pv 0) (pv 1)), _, rfl, _, rfl, a, C, rfl, T, hno, .inl ⟨ha, fun dx n ne => k dx n ne⟩⟩
abbrev st_i_BadShift : Stmt := inClass (top 17) 0
theorem sc_i_BadShift : FnScope ["self", "part"] ["self", "part"] (defScope st_i_BadShift) := ⟨rfl, rfl, rfl, by decide +kernel, rfl, by decide +kernel, by decide +kernel⟩
theorem ok_i_BadShift {f : Addr} {fd : FuncData} (F : Fun K "__init__" "BadShift.__init__" st_i_BadShift f fd) : FnOk P w K mg base CX0 1 f fd ["self", "part"] (spInit1 K "part") := by
  refine F.ok sc_i_BadShift (fun vs H Q E h => ?_) (fun cdv A outer s H vs Q E hr h => ?_)
  · obtain ⟨a, C, v, rfl, _⟩ := h
    rfl
  · obtain ⟨a, C, v, rfl, T, hno, ha, k⟩ := h
    exact ⟨_, pss_one (ps_ost (pv 0) (pv 1)), _, rfl, _, rfl, a, C, rfl, T, hno, .inl ⟨ha, fun dx n ne => k dx n ne⟩⟩
abbrev st_i_BadCourse : Stmt := inClass (top 18) 0
theorem sc_i_BadCourse : FnScope ["self", "part"] ["self", "part"] (defScope st_i_BadCourse) := ⟨rfl, rfl, rfl, by decide +kernel, rfl, by decide +kernel, by decide +kernel⟩
theorem ok_i_BadCourse {f : Addr} {fd : FuncData} (F : Fun K "__init__" "BadCourse.__init__" st_i_BadCourse f fd) : FnOk P w K mg base CX0 1 f fd ["self", "part"] (spInit1 K "part") := by
  refine F.ok sc_i_BadCourse (fun vs H Q E h => ?_) (fun cdv A outer s H vs Q E hr h => ?_)
  · obtain ⟨a, C, v, rfl, _⟩ := h
    rfl
  · obtain ⟨a, C, v, rfl, T, hno, ha, k⟩ := h
    exact ⟨_, pss_one (ps_ost (pv 0) (pv 1)), _, rfl, _, rfl, a, C, rfl, T, hno, .inl ⟨ha, fun dx n ne => k dx n ne⟩⟩
abbrev st_i_BadSheet : Stmt := inClass (top 19) 0
theorem sc_i_BadSheet : FnScope ["self", "part"] ["self", "part"] (defScope st_i_BadSheet) := ⟨rfl, rfl, rfl, by decide +kernel, rfl, by decide +kernel, by decide +kernel⟩
theorem ok_i_BadSheet {f : Addr} {fd : FuncData} (F : Fun K "__init__" "BadSheet.__init__" st_i_BadSheet f fd) : FnOk P w K mg base CX0 1 f fd ["self", "part"] (spInit1 K "part") := by
  refine F.ok sc_i_BadSheet (fun vs H Q E h => ?_) (fun cdv A outer s H vs Q E hr h => ?_)
  · obtain ⟨a, C, v, rfl, _⟩ := h
    rfl
  · obtain ⟨a, C, v, rfl, T, hno, ha, k⟩ := h
    exact ⟨_, pss_one (ps_ost (pv 0) (pv 1)), _, rfl, _, rfl, a, C, rfl, T, hno, .inl ⟨ha, fun dx n ne => k dx n ne⟩⟩
abbrev st_i_BadDyeing : Stmt := inClass (top 20) 0
theorem sc_i_BadDyeing : FnScope ["self", "part"] ["self", "part"] (defScope st_i_BadDyeing) := ⟨rfl, rfl, rfl, by decide +kernel, rfl, by decide +kernel, by decide +kernel⟩
theorem ok_i_BadDyeing {f : Addr} {fd : FuncData} (F : Fun K "__init__" "BadDyeing.__init__" st_i_BadDyeing f fd) : FnOk P w K mg base CX0 1 f fd ["self", "part"] (spInit1 K "part") := by
  refine F.ok sc_i_BadDyeing (fun vs H Q E h => ?_) (fun cdv A outer s H vs Q E hr h => ?_)
  · obtain ⟨a, C, v, rfl, _⟩ := h
    rfl
  · obtain ⟨a, C, v, rfl, T, hno, ha, k⟩ := h
    exact ⟨_, pss_one (ps_ost (pv 0) (pv 1)), _, rfl, _, rfl, a, C, rfl, T, hno, .inl ⟨ha, fun dx n ne => k dx n ne⟩⟩
abbrev st_i_BadSaying : Stmt := inClass (top 21) 0
theorem sc_i_BadSaying : FnScope ["self", "part"] ["self", "part"] (defScope st_i_BadSaying) := ⟨rfl, rfl, rfl, by decide +kernel, rfl, by decide +kernel, by decide +kernel⟩
theorem ok_i_BadSaying {f : Addr} {fd : FuncData} (F : Fun K "__init__" "BadSaying.__init__" st_i_BadSaying f fd) : FnOk P w K mg base CX0 1 f fd ["self", "part"] (spInit1 K "part") := by
  refine F.ok sc_i_BadSaying (fun vs H Q E h => ?_) (fun cdv A outer s H vs Q E hr h => ?_)
  · obtain ⟨a, C, v, rfl, _⟩ := h
    rfl
  · obtain ⟨a, C, v, rfl, T, hno, ha, k⟩ := h
    exact ⟨_, pss_one (ps_ost (pv 0) (pv 1)), _, rfl, _, rfl, a, C, rfl, T, hno, .inl ⟨ha, fun dx n ne => k dx n ne⟩⟩
abbrev st_i_BadPairs : Stmt := inClass (top 22) 0
theorem sc_i_BadPairs : FnScope ["self", "part"] ["self", "part"] (defScope st_i_BadPairs) := ⟨rfl, rfl, rfl, by decide +kernel, rfl, by decide +kernel, by decide +kernel⟩
theorem ok_i_BadPairs {f : Addr} {fd : FuncData} (F : Fun K "__init__" "BadPairs.__init__" st_i_BadPairs f fd) : FnOk P w K mg base CX0 1 f fd ["self", "part"] (spInit1 K "part") := by
  refine F.ok sc_i_BadPairs (fun vs H Q E h => ?_) (fun cdv A outer s H vs Q E hr h => ?_)
  · obtain ⟨a, C, v, rfl, _⟩ := h
    rfl
  · obtain ⟨a, C, v, rfl, T, hno, ha, k⟩ := h
    exact ⟨_, pss_one (ps_ost (pv 0) (pv 1)), _, rfl, _, rfl, a, C, rfl, T, hno, .inl ⟨ha, fun dx n ne => k dx n ne⟩⟩
abbrev st_i_BadFamily : Stmt := inClass (top 23) 0
theorem sc_i_BadFamily : FnScope ["self", "part"] ["self", "part"] (defScope st_i_BadFamily) := ⟨rfl, rfl, rfl, by decide +kernel, rfl, by decide +kernel, by decide +kernel⟩
theorem ok_i_BadFamily {f : Addr} {fd : FuncData} (F : Fun K "__init__" "BadFamily.__init__" st_i_BadFamily f fd) : FnOk P w K mg base CX0 1 f fd ["self", "part"] (spInit1 K "part") := by
  refine F.ok sc_i_BadFamily (fun vs H Q E h => ?_) (fun cdv A outer s H vs Q E hr h => ?_)
  · obtain ⟨a, C, v, rfl, _⟩ := h
    rfl
  · obtain ⟨a, C, v, rfl, T, hno, ha, k⟩ := h
    exact ⟨_, pss_one (ps_ost (pv 0) (pv 1)), _, rfl, _, rfl, a, C, rfl, T, hno, .inl ⟨ha, fun dx n ne => k dx n ne⟩⟩
abbrev st_i_BadNumber : Stmt := inClass (top 24) 0
theorem sc_i_BadNumber : FnScope ["self", "part"] ["self", "part"] (defScope st_i_BadNumber) := ⟨rfl, rfl, rfl, by decide +kernel, rfl, by decide +kernel, by decide +kernel⟩
theorem ok_i_BadNumber {f : Addr} {fd : FuncData} (F : Fun K "__init__" "BadNumber.__init__" st_i_BadNumber f fd) : FnOk P w K mg base CX0 1 f fd ["self", "part"] (spInit1 K "part") := by
  refine F.ok sc_i_BadNumber (fun vs H Q E h => ?_) (fun cdv A outer s H vs Q E hr h => ?_)
  · obtain ⟨a, C, v, rfl, _⟩ := h
    rfl
  · obtain ⟨a, C, v, rfl, T, hno, ha, k⟩ := h
    exact ⟨_, pss_one (ps_ost (pv 0) (pv 1)), _, rfl, _, rfl, a, C, rfl, T, hno, .inl ⟨ha, fun dx n ne => k dx n ne⟩⟩
abbrev st_i_BadPaper : Stmt := inClass (top 25) 0
theorem sc_i_BadPaper : FnScope ["self", "part"] ["self", "part"] (defScope st_i_BadPaper) := ⟨rfl, rfl, rfl, by decide +kernel, rfl, by decide +kernel, by decide +kernel⟩
theorem ok_i_BadPaper {f : Addr} {fd : FuncData} (F : Fun K "__init__" "BadPaper.__init__" st_i_BadPaper f fd) : FnOk P w K mg base CX0 1 f fd ["self", "part"] (spInit1 K "part") := by
  refine F.ok sc_i_BadPaper (fun vs H Q E h => ?_) (fun cdv A outer s H vs Q E hr h => ?_)
  · obtain ⟨a, C, v, rfl, _⟩ := h
    rfl
  · obtain ⟨a, C, v, rfl, T, hno, ha, k⟩ := h
    exact ⟨_, pss_one (ps_ost (pv 0) (pv 1)), _, rfl, _, rfl, a, C, rfl, T, hno, .inl ⟨ha, fun dx n ne => k dx n ne⟩⟩
abbrev st_i_BadDesk : Stmt := inClass (top 26) 0
theorem sc_i_BadDesk : FnScope ["self", "part"] ["self", "part"] (defScope st_i_BadDesk) := ⟨rfl, rfl, rfl, by decide +kernel, rfl, by decide +kernel, by decide +kernel⟩
theorem ok_i_BadDesk {f : Addr} {fd : FuncData} (F : Fun K "__init__" "BadDesk.__init__" st_i_BadDesk f fd) : FnOk P w K mg base CX0 1 f fd ["self", "part"] (spInit1 K "part") := by
  refine F.ok sc_i_BadDesk (fun vs H Q E h => ?_) (fun cdv A outer s H vs Q E hr h => ?_)
  · obtain ⟨a, C, v, rfl, _⟩ := h
    rfl
  · obtain ⟨a, C, v, rfl, T, hno, ha, k⟩ := h
    exact ⟨_, pss_one (ps_ost (pv 0) (pv 1)), _, rfl, _, rfl, a, C, rfl, T, hno, .inl ⟨ha, fun dx n ne => k dx n ne⟩⟩
abbrev st_i_Misfit : Stmt := inClass (top 27) 0
theorem sc_i_Misfit : FnScope ["self", "part"] ["self", "part"] (defScope st_i_Misfit) := ⟨rfl, rfl, rfl, by decide +kernel, rfl, by decide +kernel, by decide +kernel⟩
theorem ok_i_Misfit {f : Addr} {fd : FuncData} (F : Fun K "__init__" "Misfit.__init__" st_i_Misfit f fd) : FnOk P w K mg base CX0 1 f fd ["self", "part"] (spInit1 K "part") := by
  refine F.ok sc_i_Misfit (fun vs H Q E h => ?_) (fun cdv A outer s H vs Q E hr h => ?_)
  · obtain ⟨a, C, v, rfl, _⟩ := h
    rfl
  · obtain ⟨a, C, v, rfl, T, hno, ha, k⟩ := h
    exact ⟨_, pss_one (ps_ost (pv 0) (pv 1)), _, rfl, _, rfl, a, C, rfl, T, hno, .inl ⟨ha, fun dx n ne => k dx n ne⟩⟩
abbrev st_i_Missing : Stmt := inClass (top 28) 0
theorem sc_i_Missing : FnScope ["self", "value"] ["self", "value"] (defScope st_i_Missing) := ⟨rfl, rfl, rfl, by decide +kernel, rfl, by decide +kernel, by decide +kernel⟩
theorem ok_i_Missing {f : Addr} {fd : FuncData} (F : Fun K "__init__" "Missing.__init__" st_i_Missing f fd) : FnOk P w K mg base CX0 1 f fd ["self", "value"] (spInit1 K "value") := by
  refine F.ok sc_i_Missing (fun vs H Q E h => ?_) (fun cdv A outer s H vs Q E hr h => ?_)
  · obtain ⟨a, C, v, rfl, _⟩ := h
    rfl
  · obtain ⟨a, C, v, rfl, T, hno, ha, k⟩ := h
    exact ⟨_, pss_one (ps_ost (pv 0) (pv 1)), _, rfl, _, rfl, a, C, rfl, T, hno, .inl ⟨ha, fun dx n ne => k dx n ne⟩⟩
abbrev st_i_Twice : Stmt := inClass (top 34) 0
theorem sc_i_Twice : FnScope ["self", "value"] ["self", "value"] (defScope st_i_Twice) := ⟨rfl, rfl, rfl, by decide +kernel, rfl, by decide +kernel, by decide +kernel⟩
theorem ok_i_Twice {f : Addr} {fd : FuncData} (F : Fun K "__init__" "Twice.__init__" st_i_Twice f fd) : FnOk P w K mg base CX0 1 f fd ["self", "value"] (spInit1 K "value") := by
  refine F.ok sc_i_Twice (fun vs H Q E h => ?_) (fun cdv A outer s H vs Q E hr h => ?_)
  · obtain ⟨a, C, v, rfl, _⟩ := h
    rfl
  · obtain ⟨a, C, v, rfl, T, hno, ha, k⟩ := h
    exact ⟨_, pss_one (ps_ost (pv 0) (pv 1)), _, rfl, _, rfl, a, C, rfl, T, hno, .inl ⟨ha, fun dx n ne => k dx n ne⟩⟩
abbrev st_i_Impossible : Stmt := inClass (top 35) 0
theorem sc_i_Impossible : FnScope ["self", "paper"] ["self", "paper"] (defScope st_i_Impossible) := ⟨rfl, rfl, rfl, by decide +kernel, rfl, by decide +kernel, by decide +kernel⟩
theorem ok_i_Impossible {f : Addr} {fd : FuncData} (F : Fun K "__init__" "Impossible.__init__" st_i_Impossible f fd) : FnOk P w K mg base CX0 1 f fd ["self", "paper"] (spInit1 K "paper") := by
  refine F.ok sc_i_Impossible (fun vs H Q E h => ?_) (fun cdv A outer s H vs Q E hr h => ?_)
  · obtain ⟨a, C, v, rfl, _⟩ := h
    rfl
  · obtain ⟨a, C, v, rfl, T, hno, ha, k⟩ := h
    exact ⟨_, pss_one (ps_ost (pv 0) (pv 1)), _, rfl, _, rfl, a, C, rfl, T, hno, .inl ⟨ha, fun dx n ne => k dx n ne⟩⟩
abbrev st_i_TooMany : Stmt := inClass (top 36) 0
theorem sc_i_TooMany : FnScope ["self", "what", "most"] ["self", "what", "most"] (defScope st_i_TooMany) := ⟨rfl, rfl, rfl, by decide +kernel, rfl, by decide +kernel, by decide +kernel⟩
theorem ok_i_TooMany {f : Addr} {fd : FuncData} (F : Fun K "__init__" "TooMany.__init__" st_i_TooMany f fd) : FnOk P w K mg base CX0 1 f fd ["self", "what", "most"] (spInit2 K "what" "most") := by
  refine F.ok sc_i_TooMany (fun vs H Q E h => ?_) (fun cdv A outer s H vs Q E hr h => ?_)
  · obtain ⟨a, C, u, v, rfl, _⟩ := h
    rfl
  · obtain ⟨a, C, u, v, rfl, T, h1, h2, ha, k⟩ := h
    exact ⟨_, pss_cons (ps_ost (pv 0) (pv 1)) (pss_one (ps_ost (pv 0) (pv 2))), _, rfl, _, rfl, a, C, rfl, T, h1, .inl ⟨ha, fun dx n ne =>
      ⟨_, rfl, _, rfl, a, C, rfl, T, h2, .inr ⟨dx, _, upd_same, (upd_ne ne).trans upd_same, (by show 1 ≤ 900; decide), k dx n ne⟩⟩⟩⟩
abbrev st_i_BadText : Stmt := inClass (top 38) 0
theorem sc_i_BadText : FnScope ["self", "line", "item"] ["self", "line", "item"] (defScope st_i_BadText) := ⟨rfl, rfl, rfl, by decide +kernel, rfl, by decide +kernel, by decide +kernel⟩
theorem ok_i_BadText {f : Addr} {fd : FuncData} (F : Fun K "__init__" "BadText.__init__" st_i_BadText f fd) : FnOk P w K mg base CX0 1 f fd ["self", "line", "item"] (spInit2 K "line" "item") := by
  refine F.ok sc_i_BadText (fun vs H Q E h => ?_) (fun cdv A outer s H vs Q E hr h => ?_)
  · obtain ⟨a, C, u, v, rfl, _⟩ := h
    rfl
  · obtain ⟨a, C, u, v, rfl, T, h1, h2, ha, k⟩ := h
    exact ⟨_, pss_cons (ps_ost (pv 0) (pv 1)) (pss_one (ps_ost (pv 0) (pv 2))), _, rfl, _, rfl, a, C, rfl, T, h1, .inl ⟨ha, fun dx n ne =>
      ⟨_, rfl, _, rfl, a, C, rfl, T, h2, .inr ⟨dx, _, upd_same, (upd_ne ne).trans upd_same, (by show 1 ≤ 900; decide), k dx n ne⟩⟩⟩⟩
abbrev st_i_BadLine : Stmt := inClass (top 39) 0
theorem sc_i_BadLine : FnScope ["self", "line", "error"] ["self", "line", "error"] (defScope st_i_BadLine) := ⟨rfl, rfl, rfl, by decide +kernel, rfl, by decide +kernel, by decide +kernel⟩
theorem ok_i_BadLine {f : Addr} {fd : FuncData} (F : Fun K "__init__" "BadLine.__init__" st_i_BadLine f fd) : FnOk P w K mg base CX0 1 f fd ["self", "line", "error"] (spInit2 K "line" "error") := by
  refine F.ok sc_i_BadLine (fun vs H Q E h => ?_) (fun cdv A outer s H vs Q E hr h => ?_)
  · obtain ⟨a, C, u, v, rfl, _⟩ := h
    rfl
  · obtain ⟨a, C, u, v, rfl, T, h1, h2, ha, k⟩ := h
    exact ⟨_, pss_cons (ps_ost (pv 0) (pv 1)) (pss_one (ps_ost (pv 0) (pv 2))), _, rfl, _, rfl, a, C, rfl, T, h1, .inl ⟨ha, fun dx n ne =>
      ⟨_, rfl, _, rfl, a, C, rfl, T, h2, .inr ⟨dx, _, upd_same, (upd_ne ne).trans upd_same, (by show 1 ≤ 900; decide), k dx n ne⟩⟩⟩⟩
end
end K0
namespace K0
open PySem PySem.Spec PyProof.Rows L2
open PySem.W (any_some)
/-- an error of the class at C, with fields or without -/
def ErrS (H : Hp) (a C : Addr) : Prop := (∃ fs, ErrAt H a C fs) ∨ H a = some (ExO (.ref C) a)
theorem ErrS.same {H H' : Hp} {a C : Addr} (e : ErrS H a C) (s : Same H H') : ErrS H' a C := by
  rcases e with ⟨fs, e⟩ | e
  · exact .inl ⟨fs, e.same s⟩
  · exact .inr (s _ _ e)
def rIsS (K : PySem.W.Frag) : List V → Hp → VK → Prop := fun xs H Q => ∃ (a C : Addr) (c : V) (cv : Value) (b : Bool), xs = [.ref a, c] ∧ ErrS H a C ∧ ExcC K C ∧ ClsV c cv ∧ PySem.W.kitOne K (.ref C) cv = some b ∧ Q (.bl b) H
def rIsST (K : PySem.W.Frag) : List V → Hp → VK → Prop := fun xs H Q => ∃ (a C : Addr) (tp : Addr) (cs : List V) (us : List Value) (b : Bool),
  xs = [.ref a, .ref tp] ∧ ErrS H a C ∧ ExcC K C ∧ H tp = some (.tup cs) ∧ Paired ClsV cs us ∧ PySem.W.kitAny K (.ref C) us = some b ∧ Q (.bl b) H
section
variable {X : Cx}
theorem errS_kit {pins : List (Addr × Obj)} {σ : L2.St} {H : Hp} {s : Shared} {a C : Addr} (I : Inv X pins σ H s) (E : ErrS H a C) (T : ExcC X.K C) :
    ∃ Z : Heap → Prop, PySem.W.KitX X.K (.ref a) (.ref C) Z ∧ Z s.heap := by
  rcases E with ⟨fs, E⟩ | E
  · exact err_kit I E T
  · have x : ObjOk X.prog X.w H s.heap a (ExO (.ref C) a) := I.hok a _ E
    obtain ⟨⟨oe, vs, ho, ⟨hz1, hz2⟩, hd, _⟩, _⟩ := x
    have J : PySem.W.InstAt s.heap a oe C none := by
      obtain ⟨oc, od, oda, osl⟩ := oe
      dsimp only at hz1 hz2 hd
      subst hz1 hz2 hd
      exact ⟨ho, rfl, rfl, trivial⟩
    have hcl : (PySem.W.clsIn X.K C).isSome = true := by
      obtain ⟨cd, hc, _⟩ := any_some T.hd
      rw [hc]
      rfl
    exact ⟨_, PySem.W.kitx_exc hcl T.hg T.hk T.hs T.ha T.hn T.ht T.hm, J⟩
theorem call_isS : CallR X (.builtin "isinstance") (rIsS X.K) := by
  intro pins s σ H xs us Q I r h
  obtain ⟨a, C, c, cv, b, rfl, E, T, k, e, q⟩ := h
  obtain ⟨u1, u2, rfl, r1, r2⟩ := vals2 r
  cases (show u1 = Value.ref a from r1)
  have e2 := k.eq r2
  subst e2
  obtain ⟨Z, z, p⟩ := errS_kit I E T
  exact PySem.W.kia_one z I.kIn p e (fun z => nomatch z) fun tk => ⟨.bl b, H, I.tok tk, rfl, q⟩
theorem call_isST : CallR X (.builtin "isinstance") (rIsST X.K) := by
  intro pins s σ H xs us Q I r h
  obtain ⟨a, C, tp, cs, ws, b, rfl, E, T, hT, k, e, q⟩ := h
  obtain ⟨u1, u2, rfl, r1, r2⟩ := vals2 r
  cases (show u1 = Value.ref a from r1)
  cases (show u2 = Value.ref tp from r2)
  obtain ⟨Z, z, p⟩ := errS_kit I E T
  obtain ⟨_, its, rv, o, h1, h2, n, h3⟩ := (show ObjOk X.prog X.w H s.heap tp (.tup cs) from I.hok tp _ hT)
  have e3 := ClsV.all k rv
  subst e3
  obtain ⟨oc, od, dt, sl⟩ := o
  simp only at h2 h3
  subst h2 h3
  exact PySem.W.kia_tup z I.kIn p h1 e (fun z => nomatch z) fun tk => ⟨.bl b, H, I.tok tk, rfl, q⟩
end
/-- the names of the classes, as the law counts them -/
structure Gn (mg : Str → Option Value) (cls : Nat → Addr) (cT cM : Addr) : Prop where
  g_BadWord : mg "BadWord" = some (.ref (cls 0))
  g_BadStock : mg "BadStock" = some (.ref (cls 1))
  g_BadShift : mg "BadShift" = some (.ref (cls 2))
  g_BadCourse : mg "BadCourse" = some (.ref (cls 3))
  g_BadSheet : mg "BadSheet" = some (.ref (cls 4))
  g_BadDyeing : mg "BadDyeing" = some (.ref (cls 5))
  g_BadSaying : mg "BadSaying" = some (.ref (cls 6))
  g_BadPairs : mg "BadPairs" = some (.ref (cls 7))
  g_BadFamily : mg "BadFamily" = some (.ref (cls 8))
  g_BadNumber : mg "BadNumber" = some (.ref (cls 9))
  g_BadPaper : mg "BadPaper" = some (.ref (cls 10))
  g_BadDesk : mg "BadDesk" = some (.ref (cls 11))
  g_Misfit : mg "Misfit" = some (.ref (cls 12))
  g_NoRow : mg "NoRow" = some (.ref (cls 13))
  g_NoLanguage : mg "NoLanguage" = some (.ref (cls 14))
  g_NoPlace : mg "NoPlace" = some (.ref (cls 15))
  g_NoShift : mg "NoShift" = some (.ref (cls 16))
  g_NoName : mg "NoName" = some (.ref (cls 17))
  g_Twice : mg "Twice" = some (.ref (cls 18))
  g_Impossible : mg "Impossible" = some (.ref (cls 19))
  g_TooMany : mg "TooMany" = some (.ref (cls 20))
  g_Nothing : mg "Nothing" = some (.ref (cls 21))
  g_BadText : mg "BadText" = some (.ref (cls 22))
  g_BadLine : mg "BadLine" = some (.ref (cls 23))
  g_TongueError : mg "TongueError" = some (.ref cT)
  g_Missing : mg "Missing" = some (.ref cM)
  n_ValueError : mg "ValueError" = none
  n_LookupError : mg "LookupError" = none
  n_TypeError : mg "TypeError" = none
  n_ArithmeticError : mg "ArithmeticError" = none
  n_AttributeError : mg "AttributeError" = none
  n_RuntimeError : mg "RuntimeError" = none
  n_isinstance : mg "isinstance" = none
  n_range : mg "range" = none
  n_enumerate : mg "enumerate" = none
/-- what isinstance says of the errors of the class at C, the i-th -/
structure ClsOk (K : PySem.W.Frag) (cls : Nat → Addr) (cT cM C : Addr) (i : Nat) : Prop where
  ec : ExcC K C
  te : PySem.W.kitOne K (.ref C) (.ref cT) = some true
  ve : PySem.W.kitOne K (.ref C) (.type "ValueError") = some true
  no : PySem.W.kitAny K (.ref C) [.type "LookupError", .type "TypeError", .type "ArithmeticError", .type "AttributeError", .type "RuntimeError"] = some false
  mi : PySem.W.kitOne K (.ref C) (.ref cM) = some (decide (13 ≤ i ∧ i < 18))
  cl : ∀ j, j < 24 → PySem.W.kitOne K (.ref C) (.ref (cls j)) = some (decide (i = j))
section
variable {P : Program} {w : World} {K : PySem.W.Frag} {mg : Str → Option Value} {base : Heap} {cls : Nat → Addr} {cT cM : Addr}
abbrev st_l_classes : Stmt := top 45
abbrev nm_l_classes : List Str := ["_law_error", "_law_told"]
theorem sc_l_classes : FnScope nm_l_classes ["_law_error"] (defScope st_l_classes) := ⟨rfl, rfl, rfl, by decide +kernel, rfl, by decide +kernel, by decide +kernel⟩
def told (i n : Nat) : List V := (List.range n).map fun j => .bl (decide (i = j))
theorem told4 (i b : Nat) : told i (b + 4) = told i b ++ [.bl (decide (i = b)), .bl (decide (i = b + 1)), .bl (decide (i = b + 2)), .bl (decide (i = b + 3))] := by
  unfold told
  rw [map_range_succ, map_range_succ, map_range_succ, map_range_succ]
  simp
theorem told_len (i n : Nat) : (told i n).length = n := by simp [told]
abbrev tIs (K : PySem.W.Frag) (c : Addr) : TE := tCB (rIsS K) (tCons (tVar 0) (tCons (tC (.ref c)) tNil))
section
variable {a C : Addr} {i : Nat} {D : Ends} {G : Hp}
theorem ask (k : ClsOk K cls cT cM C i) (j : Nat) (hj : j < 24) {H' : Hp} {Q' : VK} (e : ErrS H' a C) (q' : Q' (.bl (decide (i = j))) H') : rIsS K [.ref a, .ref (cls j)] H' Q' := ⟨a, C, _, _, _, rfl, e, k.ec, .own _, k.cl j hj, q'⟩
theorem row0 (k : ClsOk K cls cT cM C i) (he : ErrS G a C) (q : ∀ l' G', Same G G' → G' l' = some (.lst (told i 4)) → D.nx [some (.ref a), some (.ref l')] G') :
    (tAsg (tLst (tCons (tIs K (cls 0)) (tCons (tIs K (cls 1)) (tCons (tIs K (cls 2)) (tCons (tIs K (cls 3)) tNil))))) (gName 1)) D [some (.ref a), none] G := by
  refine ⟨_, rfl, a, C, _, _, _, rfl, he, k.ec, .own _, k.cl 0 (by decide), ?_⟩
  refine ⟨_, rfl, a, C, _, _, _, rfl, he, k.ec, .own _, k.cl 1 (by decide), ?_⟩
  refine ⟨_, rfl, a, C, _, _, _, rfl, he, k.ec, .own _, k.cl 2 (by decide), ?_⟩
  refine ⟨_, rfl, a, C, _, _, _, rfl, he, k.ec, .own _, k.cl 3 (by decide), ?_⟩
  exact ⟨(by show 4 ≤ sizeLine; decide), fun l n => q l _ (Sm.new n) upd_same⟩
theorem row (k : ClsOk K cls cT cM C i) (b : Nat) (hb : b + 4 ≤ 24) {l : Addr} (he : ErrS G a C) (hl : G l = some (.lst (told i b))) (q : ∀ l' G', Same G G' → G' l' = some (.lst (told i (b + 4))) → D.nx [some (.ref a), some (.ref l')] G') :
    (tAsg (tOp rCat (tVar 1) (tLst (tCons (tIs K (cls b)) (tCons (tIs K (cls (b + 1))) (tCons (tIs K (cls (b + 2))) (tCons (tIs K (cls (b + 3))) tNil)))))) (gName 1)) D [some (.ref a), some (.ref l)] G := by
  refine ⟨_, rfl, ?_⟩
  refine ⟨_, rfl, a, C, _, _, _, rfl, he, k.ec, .own _, k.cl b (by omega), ?_⟩
  refine ⟨_, rfl, a, C, _, _, _, rfl, he, k.ec, .own _, k.cl (b + 1) (by omega), ?_⟩
  refine ⟨_, rfl, a, C, _, _, _, rfl, he, k.ec, .own _, k.cl (b + 2) (by omega), ?_⟩
  refine ⟨_, rfl, a, C, _, _, _, rfl, he, k.ec, .own _, k.cl (b + 3) (by omega), ?_⟩
  refine ⟨(by show 4 ≤ sizeLine; decide), fun m n => ⟨l, m, _, _, rfl, rfl, (upd_ne (ne_of_none hl n)).trans hl, upd_same, ?_, fun l' n' => q l' _ (Same.trans (Sm.new n) (Sm.new n')) ?_⟩⟩
  · rw [told_len]
    show b + 4 ≤ sizeLine
    exact Nat.le_trans hb (by decide)
  · rw [upd_same, told4]
end
def spClasses (K : PySem.W.Frag) (cls : Nat → Addr) (cT cM : Addr) : Sp := fun vs H Q _ => ∃ (a C : Addr) (i : Nat), vs = [.ref a] ∧ ErrS H a C ∧ ClsOk K cls cT cM C i ∧ ∀ H' l, Same H H' → H' l = some (.lst (told i 24)) → Q (.ref l) H'
theorem ok_classes {f : Addr} {fd : FuncData} (F : Fun K "_law_classes" "_law_classes" st_l_classes f fd) (T : Gn mg cls cT cM) : FnOk P w K mg base CX0 1 f fd ["_law_error"] (spClasses K cls cT cM) := by
  refine F.ok sc_l_classes (fun vs H Q E h => ?_) (fun cdv A outer s H vs Q E hr h => ?_)
  · obtain ⟨a, C, i, rfl, _⟩ := h
    rfl
  · refine ⟨_, (pss_cons (ps_set (i := 1) sc_l_classes.nd rfl (Or.inl rfl) (pe_lst (pa_cons (pe_callB call_isS (by rfl) T.n_isinstance (by decide +kernel) (pa_cons (pv 0) (pa_cons (pe_glob (v := .ref _) rfl (T.g_BadWord) rfl) pa_nil))) (pa_cons (pe_callB call_isS (by rfl) T.n_isinstance (by decide +kernel) (pa_cons (pv 0) (pa_cons (pe_glob (v := .ref _) rfl (T.g_BadStock) rfl) pa_nil))) (pa_cons (pe_callB call_isS (by rfl) T.n_isinstance (by decide +kernel) (pa_cons (pv 0) (pa_cons (pe_glob (v := .ref _) rfl (T.g_BadShift) rfl) pa_nil))) (pa_cons (pe_callB call_isS (by rfl) T.n_isinstance (by decide +kernel) (pa_cons (pv 0) (pa_cons (pe_glob (v := .ref _) rfl (T.g_BadCourse) rfl) pa_nil))) pa_nil))))))
  (pss_cons (ps_set (i := 1) sc_l_classes.nd rfl (Or.inl rfl) (pe_op op_cat (pv 1) (pe_lst (pa_cons (pe_callB call_isS (by rfl) T.n_isinstance (by decide +kernel) (pa_cons (pv 0) (pa_cons (pe_glob (v := .ref _) rfl (T.g_BadSheet) rfl) pa_nil))) (pa_cons (pe_callB call_isS (by rfl) T.n_isinstance (by decide +kernel) (pa_cons (pv 0) (pa_cons (pe_glob (v := .ref _) rfl (T.g_BadDyeing) rfl) pa_nil))) (pa_cons (pe_callB call_isS (by rfl) T.n_isinstance (by decide +kernel) (pa_cons (pv 0) (pa_cons (pe_glob (v := .ref _) rfl (T.g_BadSaying) rfl) pa_nil))) (pa_cons (pe_callB call_isS (by rfl) T.n_isinstance (by decide +kernel) (pa_cons (pv 0) (pa_cons (pe_glob (v := .ref _) rfl (T.g_BadPairs) rfl) pa_nil))) pa_nil)))))))
  (pss_cons (ps_set (i := 1) sc_l_classes.nd rfl (Or.inl rfl) (pe_op op_cat (pv 1) (pe_lst (pa_cons (pe_callB call_isS (by rfl) T.n_isinstance (by decide +kernel) (pa_cons (pv 0) (pa_cons (pe_glob (v := .ref _) rfl (T.g_BadFamily) rfl) pa_nil))) (pa_cons (pe_callB call_isS (by rfl) T.n_isinstance (by decide +kernel) (pa_cons (pv 0) (pa_cons (pe_glob (v := .ref _) rfl (T.g_BadNumber) rfl) pa_nil))) (pa_cons (pe_callB call_isS (by rfl) T.n_isinstance (by decide +kernel) (pa_cons (pv 0) (pa_cons (pe_glob (v := .ref _) rfl (T.g_BadPaper) rfl) pa_nil))) (pa_cons (pe_callB call_isS (by rfl) T.n_isinstance (by decide +kernel) (pa_cons (pv 0) (pa_cons (pe_glob (v := .ref _) rfl (T.g_BadDesk) rfl) pa_nil))) pa_nil)))))))
  (pss_cons (ps_set (i := 1) sc_l_classes.nd rfl (Or.inl rfl) (pe_op op_cat (pv 1) (pe_lst (pa_cons (pe_callB call_isS (by rfl) T.n_isinstance (by decide +kernel) (pa_cons (pv 0) (pa_cons (pe_glob (v := .ref _) rfl (T.g_Misfit) rfl) pa_nil))) (pa_cons (pe_callB call_isS (by rfl) T.n_isinstance (by decide +kernel) (pa_cons (pv 0) (pa_cons (pe_glob (v := .ref _) rfl (T.g_NoRow) rfl) pa_nil))) (pa_cons (pe_callB call_isS (by rfl) T.n_isinstance (by decide +kernel) (pa_cons (pv 0) (pa_cons (pe_glob (v := .ref _) rfl (T.g_NoLanguage) rfl) pa_nil))) (pa_cons (pe_callB call_isS (by rfl) T.n_isinstance (by decide +kernel) (pa_cons (pv 0) (pa_cons (pe_glob (v := .ref _) rfl (T.g_NoPlace) rfl) pa_nil))) pa_nil)))))))
  (pss_cons (ps_set (i := 1) sc_l_classes.nd rfl (Or.inl rfl) (pe_op op_cat (pv 1) (pe_lst (pa_cons (pe_callB call_isS (by rfl) T.n_isinstance (by decide +kernel) (pa_cons (pv 0) (pa_cons (pe_glob (v := .ref _) rfl (T.g_NoShift) rfl) pa_nil))) (pa_cons (pe_callB call_isS (by rfl) T.n_isinstance (by decide +kernel) (pa_cons (pv 0) (pa_cons (pe_glob (v := .ref _) rfl (T.g_NoName) rfl) pa_nil))) (pa_cons (pe_callB call_isS (by rfl) T.n_isinstance (by decide +kernel) (pa_cons (pv 0) (pa_cons (pe_glob (v := .ref _) rfl (T.g_Twice) rfl) pa_nil))) (pa_cons (pe_callB call_isS (by rfl) T.n_isinstance (by decide +kernel) (pa_cons (pv 0) (pa_cons (pe_glob (v := .ref _) rfl (T.g_Impossible) rfl) pa_nil))) pa_nil)))))))
  (pss_cons (ps_set (i := 1) sc_l_classes.nd rfl (Or.inl rfl) (pe_op op_cat (pv 1) (pe_lst (pa_cons (pe_callB call_isS (by rfl) T.n_isinstance (by decide +kernel) (pa_cons (pv 0) (pa_cons (pe_glob (v := .ref _) rfl (T.g_TooMany) rfl) pa_nil))) (pa_cons (pe_callB call_isS (by rfl) T.n_isinstance (by decide +kernel) (pa_cons (pv 0) (pa_cons (pe_glob (v := .ref _) rfl (T.g_Nothing) rfl) pa_nil))) (pa_cons (pe_callB call_isS (by rfl) T.n_isinstance (by decide +kernel) (pa_cons (pv 0) (pa_cons (pe_glob (v := .ref _) rfl (T.g_BadText) rfl) pa_nil))) (pa_cons (pe_callB call_isS (by rfl) T.n_isinstance (by decide +kernel) (pa_cons (pv 0) (pa_cons (pe_glob (v := .ref _) rfl (T.g_BadLine) rfl) pa_nil))) pa_nil)))))))
  (pss_one (ps_ret (pv 1))))))))), ?_⟩
    obtain ⟨a, C, i, rfl, he, k, q⟩ := h
    refine row0 k he fun l0 H0 s0 e0 => ?_
    refine row k 4 (by decide) (he.same s0) e0 fun l1 H1 s1 e1 => ?_
    have s01 := Same.trans s0 s1
    refine row k 8 (by decide) (he.same s01) e1 fun l2 H2 s2 e2 => ?_
    have s02 := Same.trans s01 s2
    refine row k 12 (by decide) (he.same s02) e2 fun l3 H3 s3 e3 => ?_
    have s03 := Same.trans s02 s3
    refine row k 16 (by decide) (he.same s03) e3 fun l4 H4 s4 e4 => ?_
    have s04 := Same.trans s03 s4
    refine row k 20 (by decide) (he.same s04) e4 fun l5 H5 s5 e5 => ?_
    exact ⟨_, rfl, q _ _ (Same.trans s04 s5) e5⟩
end
end K0
namespace K0
open PySem PySem.Spec PyProof.Rows L2
section
variable {P : Program} {w : World} {K : PySem.W.Frag} {mg : Str → Option Value} {base : Heap} {cls : Nat → Addr} {cT cM : Addr}
abbrev CClasses (P : Program) (w : World) (K : PySem.W.Frag) (mg : Str → Option Value) (base : Heap) (cls : Nat → Addr) (cT cM : Addr) : Prop := Cal P w K mg base 1 "_law_classes" st_l_classes ["_law_error"] (spClasses K cls cT cM)
abbrev st_l_is_only : Stmt := top 46
abbrev nm_l_is_only : List Str := ["_law_error", "_law_at", "_law_spot"]
theorem sc_l_is_only : FnScope nm_l_is_only ["_law_error", "_law_at"] (defScope st_l_is_only) := ⟨rfl, rfl, rfl, by decide +kernel, rfl, by decide +kernel, by decide +kernel⟩
def spOnly (K : PySem.W.Frag) (cls : Nat → Addr) (cT cM : Addr) : Sp := fun vs H Q _ => ∃ (a C : Addr) (i : Nat), vs = [.ref a, .int (i : Int)] ∧ i < 24 ∧ ErrS H a C ∧ ClsOk K cls cT cM C i ∧ ∀ H', Same H H' → Q (.bl true) H'
theorem told_dat (i n : Nat) : (told i n).all datOk = true := List.all_eq_true.mpr fun v hv => by
  obtain ⟨j, _, rfl⟩ := List.mem_map.mp hv
  rfl
theorem ok_only {f : Addr} {fd : FuncData} (F : Fun K "_law_is_only" "_law_is_only" st_l_is_only f fd) (T : Gn mg cls cT cM) (C__law_classes : CClasses P w K mg base cls cT cM) :
    FnOk P w K mg base CX0 2 f fd ["_law_error", "_law_at"] (spOnly K cls cT cM) := by
  refine F.ok sc_l_is_only (fun vs H Q E h => ?_) (fun cdv A outer s H vs Q E hr h => ?_)
  · obtain ⟨a, C, i, rfl, _⟩ := h
    rfl
  · refine ⟨_, (pss_cons (ps_if (PW.pt (pw_or (pt_not (pt_val (pe_callB call_isS (by rfl) T.n_isinstance (by decide +kernel) (pa_cons (pv 0) (pa_cons (pe_glob (v := .ref _) rfl (T.g_TongueError) rfl) pa_nil))))) (pw_or1 (pt_not (pt_val (pe_callB call_isS (by rfl) T.n_isinstance (by decide +kernel) (pa_cons (pv 0) (pa_cons (pe_bltn (v := .ty "ValueError") (by rfl) T.n_ValueError (by decide +kernel) rfl) pa_nil)))))))) (pss_one (ps_ret pe_bl)) pss_nil)
  (pss_cons (ps_if (PW.pt (pw_or (pt_val (pe_callB call_isST (by rfl) T.n_isinstance (by decide +kernel) (pa_cons (pv 0) (pa_cons (pe_tup (pa_cons (pe_bltn (v := .ty "LookupError") (by rfl) T.n_LookupError (by decide +kernel) rfl) (pa_cons (pe_bltn (v := .ty "TypeError") (by rfl) T.n_TypeError (by decide +kernel) rfl) (pa_cons (pe_bltn (v := .ty "ArithmeticError") (by rfl) T.n_ArithmeticError (by decide +kernel) rfl) (pa_cons (pe_bltn (v := .ty "AttributeError") (by rfl) T.n_AttributeError (by decide +kernel) rfl) (pa_cons (pe_bltn (v := .ty "RuntimeError") (by rfl) T.n_RuntimeError (by decide +kernel) rfl) pa_nil)))))) pa_nil)))) (pw_or1 (pt_cmpR op_ne (pe_callB call_isS (by rfl) T.n_isinstance (by decide +kernel) (pa_cons (pv 0) (pa_cons (pe_glob (v := .ref _) rfl (T.g_Missing) rfl) pa_nil))) (pe_chain op_le op_lt pe_int (pv 1) pe_int) (nomark _))))) (pss_one (ps_ret pe_bl)) pss_nil)
  (pss_one (ps_ret (pe_cmpR (op_eqD hr.units) (pe_cl C__law_classes (hr.mono (by decide)) rfl (pa_cons (pv 0) pa_nil)) (pe_lc (own := [("_law_spot", 2)]) (g := (gName 2)) (tt := tYes) rfl sc_l_is_only.nd (pi_range1 rfl T.n_range (pa_cons pe_int pa_nil)) (blkOk_by (N := nm_l_is_only) (sc := defScope st_l_is_only) (own := [("_law_spot", 2)]) (by decide +kernel)) (fun _ _ _ _ _ => by exact pg_name (i := 2) sc_l_is_only.nd rfl (Or.inl rfl)) (fun _ _ _ _ _ => pts_nil) (fun _ _ _ _ _ => (pe_cmpR op_eq (pv 2) (pv 1) (nomark _)))) (nomark _)))))), ?_⟩
    obtain ⟨a, C, i, rfl, hi, he, k, q⟩ := h
    refine ⟨_, rfl, a, C, _, _, _, rfl, he, k.ec, .own _, k.te, _, rfl, ?_⟩
    refine ⟨_, rfl, a, C, _, _, _, rfl, he, k.ec, .ty "ValueError", k.ve, _, rfl, ?_⟩
    refine ⟨_, rfl, (by show 5 ≤ sizeLine; decide), fun tp n => ?_⟩
    have s1 := Sm.new (o := .tup [.ty "LookupError", .ty "TypeError", .ty "ArithmeticError", .ty "AttributeError", .ty "RuntimeError"]) n
    refine ⟨a, C, tp, _, _, false, rfl, he.same s1, k.ec, upd_same, .cons (.ty _) (.cons (.ty _) (.cons (.ty _) (.cons (.ty _) (.cons (.ty _) .nil)))), k.no, _, rfl, ?_⟩
    refine ⟨_, rfl, a, C, _, _, _, rfl, he.same s1, k.ec, .own _, k.mi, ?_⟩
    refine ⟨_, rfl, _, _, rfl, rfl, decide ((13 : Int) ≤ (i : Int)), rfl, ?_⟩
    apply cutP
    · intro last
      refine ite2 (fun c => ?_) (fun c => ?_)
      · have c1 : (13 : Int) ≤ (i : Int) := of_decide_eq_true c
        refine ⟨_, _, rfl, rfl, rfl, _, rfl, ?_⟩
        refine iteNS (congrArg V.bl ?_) last
        by_cases c2 : i < 18
        · rw [decide_eq_true (show 13 ≤ i ∧ i < 18 from ⟨by omega, c2⟩)]
          exact (decide_eq_true (show (i : Int) < 18 by omega)).symm
        · rw [decide_eq_false (show ¬ (13 ≤ i ∧ i < 18) from fun z => c2 z.2)]
          exact (decide_eq_false (show ¬ (i : Int) < 18 by omega)).symm
      · have c1 : ¬ (13 : Int) ≤ (i : Int) := fun z => c (decide_eq_true z)
        refine ⟨rfl, _, rfl, ?_⟩
        refine iteNS (congrArg V.bl ?_) last
        exact decide_eq_false (by omega)
    · refine ⟨_, rfl, a, C, i, rfl, he.same s1, k, fun H1 l s2 hl => ?_⟩
      refine ⟨24, rfl, by decide, by decide, fun D hD => ?_⟩
      refine lc_it (n := 24) walk_range (SPv H1 D fun j => told i j) (spv0 hD rfl) (fun _ _ _ _ => trivial) ?_ ?_
      · rintro j x H2 H3 hj ⟨p1, p2⟩ ⟨rfl, rfl⟩
        refine ⟨rfl, ?_⟩
        refine ⟨_, rfl, _, rfl, rfl, ?_⟩
        have e : decide (V.int (0 + (j : Int)) = V.int (i : Int)) = decide (i = j) := by
          rw [Int.zero_add]
          by_cases z : i = j
          · subst z
            rw [decide_eq_true rfl, decide_eq_true rfl]
          · rw [decide_eq_false z]
            apply decide_eq_false
            intro y
            have := V.int.inj y
            omega
        rw [e]
        refine spv_put hD p1 p2 (by rw [told_len]; omega) ?_
        unfold told
        rw [map_range_succ]
      · rintro H2 ⟨p1, p2⟩
        refine ⟨.list ((told i 24).map datV), .list ((told i 24).map datV), .lst (SqL.of (p1 _ _ hl)) (dp_all (told_dat i 24)), .lst (SqL.of p2) (dp_all (told_dat i 24)), dat_shaped (told_dat i 24), dat_shaped (told_dat i 24), ?_⟩
        rw [SeqAt.eqv_refl _ (SeqAt.canLay_of_shaped (dat_shaped (told_dat i 24)))]
        exact q _ (Same.trans (Same.trans s1 s2) p1)
end
end K0
namespace K0
open PySem PySem.Spec PyProof.Rows L2
/-- all classes of errors -/
structure Ers (P : Program) (w : World) (K : PySem.W.Frag) (mg : Str → Option Value) (base : Heap) (cls : Nat → Addr) (cM : Addr) : Prop where
  e_BadWord : Er1 P w K mg base "BadWord" (cls 0) "part"
  e_BadStock : Er1 P w K mg base "BadStock" (cls 1) "part"
  e_BadShift : Er1 P w K mg base "BadShift" (cls 2) "part"
  e_BadCourse : Er1 P w K mg base "BadCourse" (cls 3) "part"
  e_BadSheet : Er1 P w K mg base "BadSheet" (cls 4) "part"
  e_BadDyeing : Er1 P w K mg base "BadDyeing" (cls 5) "part"
  e_BadSaying : Er1 P w K mg base "BadSaying" (cls 6) "part"
  e_BadPairs : Er1 P w K mg base "BadPairs" (cls 7) "part"
  e_BadFamily : Er1 P w K mg base "BadFamily" (cls 8) "part"
  e_BadNumber : Er1 P w K mg base "BadNumber" (cls 9) "part"
  e_BadPaper : Er1 P w K mg base "BadPaper" (cls 10) "part"
  e_BadDesk : Er1 P w K mg base "BadDesk" (cls 11) "part"
  e_Misfit : Er1 P w K mg base "Misfit" (cls 12) "part"
  e_NoRow : Er1 P w K mg base "NoRow" (cls 13) "value"
  e_NoLanguage : Er1 P w K mg base "NoLanguage" (cls 14) "value"
  e_NoPlace : Er1 P w K mg base "NoPlace" (cls 15) "value"
  e_NoShift : Er1 P w K mg base "NoShift" (cls 16) "value"
  e_NoName : Er1 P w K mg base "NoName" (cls 17) "value"
  e_Twice : Er1 P w K mg base "Twice" (cls 18) "value"
  e_Missing : Er1 P w K mg base "Missing" cM "value"
  e_Impossible : Er1 P w K mg base "Impossible" (cls 19) "paper"
  e_TooMany : Er2 P w K mg base "TooMany" (cls 20) "what" "most"
  e_BadText : Er2 P w K mg base "BadText" (cls 22) "line" "item"
  e_BadLine : Er2 P w K mg base "BadLine" (cls 23) "line" "error"
def fldN (i : Nat) : Str := if i < 13 then "part" else "value"
/-- the nineteen errors of one field each, all with v -/
def Errs (cls : Nat → Addr) (H : Hp) (l : Addr) (v : V) : Prop := ∃ as : List Addr, H l = some (.lst (as.map V.ref)) ∧ as.length = 19 ∧ ∀ (i : Nat) (a : Addr), as[i]? = some a → ErrAt H a (cls i) [(fldN i, v)]
theorem Errs.same {cls : Nat → Addr} {H H' : Hp} {l : Addr} {v : V} (e : Errs cls H l v) (s : Same H H') : Errs cls H' l v := by
  obtain ⟨as, h1, h2, h3⟩ := e
  exact ⟨as, s _ _ h1, h2, fun i a h => (h3 i a h).same s⟩
section
variable {P : Program} {w : World} {K : PySem.W.Frag} {mg : Str → Option Value} {base : Heap} {cls : Nat → Addr} {cT cM : Addr}
abbrev st_l_by_place : Stmt := top 47
abbrev nm_l_by_place : List Str := ["_law_one", "_law_made"]
theorem sc_l_by_place : FnScope nm_l_by_place ["_law_one"] (defScope st_l_by_place) := ⟨rfl, rfl, rfl, by decide +kernel, rfl, by decide +kernel, by decide +kernel⟩
abbrev st_l_by_name : Stmt := top 48
abbrev nm_l_by_name : List Str := ["_law_one", "_law_made"]
theorem sc_l_by_name : FnScope nm_l_by_name ["_law_one"] (defScope st_l_by_name) := ⟨rfl, rfl, rfl, by decide +kernel, rfl, by decide +kernel, by decide +kernel⟩
def spBy (cls : Nat → Addr) : Sp := fun vs H Q _ => ∃ v, vs = [v] ∧ ∀ H' l, Same H H' → Errs cls H' l v → Q (.ref l) H'
theorem mk19 {cls : Nat → Addr} {v : V} {H : Hp} {l : Addr} {a0 a1 a2 a3 a4 a5 a6 a7 a8 a9 a10 a11 a12 a13 a14 a15 a16 a17 a18 : Addr} (h : H l = some (.lst [.ref a0, .ref a1, .ref a2, .ref a3, .ref a4, .ref a5, .ref a6, .ref a7, .ref a8, .ref a9, .ref a10, .ref a11, .ref a12, .ref a13, .ref a14, .ref a15, .ref a16, .ref a17, .ref a18]))
    (e0 : ErrAt H a0 (cls 0) [(("part" : Str), v)]) (e1 : ErrAt H a1 (cls 1) [(("part" : Str), v)]) (e2 : ErrAt H a2 (cls 2) [(("part" : Str), v)]) (e3 : ErrAt H a3 (cls 3) [(("part" : Str), v)]) (e4 : ErrAt H a4 (cls 4) [(("part" : Str), v)]) (e5 : ErrAt H a5 (cls 5) [(("part" : Str), v)]) (e6 : ErrAt H a6 (cls 6) [(("part" : Str), v)]) (e7 : ErrAt H a7 (cls 7) [(("part" : Str), v)]) (e8 : ErrAt H a8 (cls 8) [(("part" : Str), v)]) (e9 : ErrAt H a9 (cls 9) [(("part" : Str), v)]) (e10 : ErrAt H a10 (cls 10) [(("part" : Str), v)]) (e11 : ErrAt H a11 (cls 11) [(("part" : Str), v)]) (e12 : ErrAt H a12 (cls 12) [(("part" : Str), v)]) (e13 : ErrAt H a13 (cls 13) [(("value" : Str), v)]) (e14 : ErrAt H a14 (cls 14) [(("value" : Str), v)]) (e15 : ErrAt H a15 (cls 15) [(("value" : Str), v)]) (e16 : ErrAt H a16 (cls 16) [(("value" : Str), v)]) (e17 : ErrAt H a17 (cls 17) [(("value" : Str), v)]) (e18 : ErrAt H a18 (cls 18) [(("value" : Str), v)]) : Errs cls H l v := by
  refine ⟨[a0, a1, a2, a3, a4, a5, a6, a7, a8, a9, a10, a11, a12, a13, a14, a15, a16, a17, a18], h, rfl, fun i a h => ?_⟩
  match i, h with
  | 0, h =>
    obtain rfl : a0 = a := by injection h
    exact e0
  | 1, h =>
    obtain rfl : a1 = a := by injection h
    exact e1
  | 2, h =>
    obtain rfl : a2 = a := by injection h
    exact e2
  | 3, h =>
    obtain rfl : a3 = a := by injection h
    exact e3
  | 4, h =>
    obtain rfl : a4 = a := by injection h
    exact e4
  | 5, h =>
    obtain rfl : a5 = a := by injection h
    exact e5
  | 6, h =>
    obtain rfl : a6 = a := by injection h
    exact e6
  | 7, h =>
    obtain rfl : a7 = a := by injection h
    exact e7
  | 8, h =>
    obtain rfl : a8 = a := by injection h
    exact e8
  | 9, h =>
    obtain rfl : a9 = a := by injection h
    exact e9
  | 10, h =>
    obtain rfl : a10 = a := by injection h
    exact e10
  | 11, h =>
    obtain rfl : a11 = a := by injection h
    exact e11
  | 12, h =>
    obtain rfl : a12 = a := by injection h
    exact e12
  | 13, h =>
    obtain rfl : a13 = a := by injection h
    exact e13
  | 14, h =>
    obtain rfl : a14 = a := by injection h
    exact e14
  | 15, h =>
    obtain rfl : a15 = a := by injection h
    exact e15
  | 16, h =>
    obtain rfl : a16 = a := by injection h
    exact e16
  | 17, h =>
    obtain rfl : a17 = a := by injection h
    exact e17
  | 18, h =>
    obtain rfl : a18 = a := by injection h
    exact e18
  | i + 19, h => simp at h
theorem ok_by_place {f : Addr} {fd : FuncData} (F : Fun K "_law_by_place" "_law_by_place" st_l_by_place f fd) (E : Ers P w K mg base cls cM) : FnOk P w K mg base CX0 3 f fd ["_law_one"] (spBy cls) := by
  refine F.ok sc_l_by_place (fun vs H Q E' h => ?_) (fun cdv A outer s H vs Q E' hr h => ?_)
  · obtain ⟨v, rfl, _⟩ := h
    rfl
  · refine ⟨_, (pss_cons (ps_set (i := 1) sc_l_by_place.nd rfl (Or.inl rfl) (pe_lst (pa_cons (pe_e1 E.e_BadWord (hr.mono (by decide)) rfl (pa_cons (pv 0) pa_nil)) (pa_cons (pe_e1 E.e_BadStock (hr.mono (by decide)) rfl (pa_cons (pv 0) pa_nil)) (pa_cons (pe_e1 E.e_BadShift (hr.mono (by decide)) rfl (pa_cons (pv 0) pa_nil)) (pa_cons (pe_e1 E.e_BadCourse (hr.mono (by decide)) rfl (pa_cons (pv 0) pa_nil)) (pa_cons (pe_e1 E.e_BadSheet (hr.mono (by decide)) rfl (pa_cons (pv 0) pa_nil)) (pa_cons (pe_e1 E.e_BadDyeing (hr.mono (by decide)) rfl (pa_cons (pv 0) pa_nil)) (pa_cons (pe_e1 E.e_BadSaying (hr.mono (by decide)) rfl (pa_cons (pv 0) pa_nil)) pa_nil)))))))))
  (pss_cons (ps_set (i := 1) sc_l_by_place.nd rfl (Or.inl rfl) (pe_op op_cat (pv 1) (pe_lst (pa_cons (pe_e1 E.e_BadPairs (hr.mono (by decide)) rfl (pa_cons (pv 0) pa_nil)) (pa_cons (pe_e1 E.e_BadFamily (hr.mono (by decide)) rfl (pa_cons (pv 0) pa_nil)) (pa_cons (pe_e1 E.e_BadNumber (hr.mono (by decide)) rfl (pa_cons (pv 0) pa_nil)) (pa_cons (pe_e1 E.e_BadPaper (hr.mono (by decide)) rfl (pa_cons (pv 0) pa_nil)) (pa_cons (pe_e1 E.e_BadDesk (hr.mono (by decide)) rfl (pa_cons (pv 0) pa_nil)) (pa_cons (pe_e1 E.e_Misfit (hr.mono (by decide)) rfl (pa_cons (pv 0) pa_nil)) (pa_cons (pe_e1 E.e_NoRow (hr.mono (by decide)) rfl (pa_cons (pv 0) pa_nil)) pa_nil))))))))))
  (pss_cons (ps_set (i := 1) sc_l_by_place.nd rfl (Or.inl rfl) (pe_op op_cat (pv 1) (pe_lst (pa_cons (pe_e1 E.e_NoLanguage (hr.mono (by decide)) rfl (pa_cons (pv 0) pa_nil)) (pa_cons (pe_e1 E.e_NoPlace (hr.mono (by decide)) rfl (pa_cons (pv 0) pa_nil)) (pa_cons (pe_e1 E.e_NoShift (hr.mono (by decide)) rfl (pa_cons (pv 0) pa_nil)) (pa_cons (pe_e1 E.e_NoName (hr.mono (by decide)) rfl (pa_cons (pv 0) pa_nil)) (pa_cons (pe_e1 E.e_Twice (hr.mono (by decide)) rfl (pa_cons (pv 0) pa_nil)) pa_nil))))))))
  (pss_one (ps_ret (pv 1)))))), ?_⟩
    obtain ⟨v, rfl, q⟩ := h
    refine ⟨v, rfl, fun a0 H0 ha0 s0 e0 => ?_⟩
    refine ⟨v, rfl, fun a1 H1 ha1 s1 e1 => ?_⟩
    refine ⟨v, rfl, fun a2 H2 ha2 s2 e2 => ?_⟩
    refine ⟨v, rfl, fun a3 H3 ha3 s3 e3 => ?_⟩
    refine ⟨v, rfl, fun a4 H4 ha4 s4 e4 => ?_⟩
    refine ⟨v, rfl, fun a5 H5 ha5 s5 e5 => ?_⟩
    refine ⟨v, rfl, fun a6 H6 ha6 s6 e6 => ?_⟩
    refine ⟨(by show 7 ≤ sizeLine; decide), fun p0 n0 => ?_⟩
    have t0 := Sm.new (o := .lst [V.ref a0, V.ref a1, V.ref a2, V.ref a3, V.ref a4, V.ref a5, V.ref a6]) n0
    refine ⟨_, rfl, ?_⟩
    refine ⟨v, rfl, fun a7 H7 ha7 s7 e7 => ?_⟩
    refine ⟨v, rfl, fun a8 H8 ha8 s8 e8 => ?_⟩
    refine ⟨v, rfl, fun a9 H9 ha9 s9 e9 => ?_⟩
    refine ⟨v, rfl, fun a10 H10 ha10 s10 e10 => ?_⟩
    refine ⟨v, rfl, fun a11 H11 ha11 s11 e11 => ?_⟩
    refine ⟨v, rfl, fun a12 H12 ha12 s12 e12 => ?_⟩
    refine ⟨v, rfl, fun a13 H13 ha13 s13 e13 => ?_⟩
    refine ⟨(by show 7 ≤ sizeLine; decide), fun p1 n1 => ?_⟩
    have t1 := Sm.new (o := .lst [V.ref a7, V.ref a8, V.ref a9, V.ref a10, V.ref a11, V.ref a12, V.ref a13]) n1
    refine ⟨p0, p1, [V.ref a0, V.ref a1, V.ref a2, V.ref a3, V.ref a4, V.ref a5, V.ref a6], [V.ref a7, V.ref a8, V.ref a9, V.ref a10, V.ref a11, V.ref a12, V.ref a13], rfl, rfl, (Same.trans s7 (Same.trans s8 (Same.trans s9 (Same.trans s10 (Same.trans s11 (Same.trans s12 (Same.trans s13 t1))))))) _ _ upd_same, upd_same, (by show 7 + 7 ≤ sizeLine; decide), fun r1 m1 => ?_⟩
    have w1 := Sm.new (o := .lst [V.ref a0, V.ref a1, V.ref a2, V.ref a3, V.ref a4, V.ref a5, V.ref a6, V.ref a7, V.ref a8, V.ref a9, V.ref a10, V.ref a11, V.ref a12, V.ref a13]) m1
    refine ⟨_, rfl, ?_⟩
    refine ⟨v, rfl, fun a14 H14 ha14 s14 e14 => ?_⟩
    refine ⟨v, rfl, fun a15 H15 ha15 s15 e15 => ?_⟩
    refine ⟨v, rfl, fun a16 H16 ha16 s16 e16 => ?_⟩
    refine ⟨v, rfl, fun a17 H17 ha17 s17 e17 => ?_⟩
    refine ⟨v, rfl, fun a18 H18 ha18 s18 e18 => ?_⟩
    refine ⟨(by show 5 ≤ sizeLine; decide), fun p2 n2 => ?_⟩
    have t2 := Sm.new (o := .lst [V.ref a14, V.ref a15, V.ref a16, V.ref a17, V.ref a18]) n2
    refine ⟨r1, p2, [V.ref a0, V.ref a1, V.ref a2, V.ref a3, V.ref a4, V.ref a5, V.ref a6, V.ref a7, V.ref a8, V.ref a9, V.ref a10, V.ref a11, V.ref a12, V.ref a13], [V.ref a14, V.ref a15, V.ref a16, V.ref a17, V.ref a18], rfl, rfl, (Same.trans s14 (Same.trans s15 (Same.trans s16 (Same.trans s17 (Same.trans s18 t2))))) _ _ upd_same, upd_same, (by show 14 + 5 ≤ sizeLine; decide), fun r2 m2 => ?_⟩
    have w2 := Sm.new (o := .lst [V.ref a0, V.ref a1, V.ref a2, V.ref a3, V.ref a4, V.ref a5, V.ref a6, V.ref a7, V.ref a8, V.ref a9, V.ref a10, V.ref a11, V.ref a12, V.ref a13, V.ref a14, V.ref a15, V.ref a16, V.ref a17, V.ref a18]) m2
    refine ⟨_, rfl, ?_⟩
    have u23 := w2
    have u22 := Same.trans t2 u23
    have u21 := Same.trans s18 u22
    have u20 := Same.trans s17 u21
    have u19 := Same.trans s16 u20
    have u18 := Same.trans s15 u19
    have u17 := Same.trans s14 u18
    have u16 := Same.trans w1 u17
    have u15 := Same.trans t1 u16
    have u14 := Same.trans s13 u15
    have u13 := Same.trans s12 u14
    have u12 := Same.trans s11 u13
    have u11 := Same.trans s10 u12
    have u10 := Same.trans s9 u11
    have u9 := Same.trans s8 u10
    have u8 := Same.trans s7 u9
    have u7 := Same.trans t0 u8
    have u6 := Same.trans s6 u7
    have u5 := Same.trans s5 u6
    have u4 := Same.trans s4 u5
    have u3 := Same.trans s3 u4
    have u2 := Same.trans s2 u3
    have u1 := Same.trans s1 u2
    exact q _ _ (Same.trans s0 u1) (mk19 upd_same (e0.same u1) (e1.same u2) (e2.same u3) (e3.same u4) (e4.same u5) (e5.same u6) (e6.same u7) (e7.same u9) (e8.same u10) (e9.same u11) (e10.same u12) (e11.same u13) (e12.same u14) (e13.same u15) (e14.same u18) (e15.same u19) (e16.same u20) (e17.same u21) (e18.same u22))
theorem ok_by_name {f : Addr} {fd : FuncData} (F : Fun K "_law_by_name" "_law_by_name" st_l_by_name f fd) (E : Ers P w K mg base cls cM) : FnOk P w K mg base CX0 3 f fd ["_law_one"] (spBy cls) := by
  refine F.ok sc_l_by_name (fun vs H Q E' h => ?_) (fun cdv A outer s H vs Q E' hr h => ?_)
  · obtain ⟨v, rfl, _⟩ := h
    rfl
  · refine ⟨_, (pss_cons (ps_set (i := 1) sc_l_by_name.nd rfl (Or.inl rfl) (pe_lst (pa_cons (pe_k1 E.e_BadWord (hr.mono (by decide)) rfl (pk_cons (pv 0) pk_nil)) (pa_cons (pe_k1 E.e_BadStock (hr.mono (by decide)) rfl (pk_cons (pv 0) pk_nil)) (pa_cons (pe_k1 E.e_BadShift (hr.mono (by decide)) rfl (pk_cons (pv 0) pk_nil)) (pa_cons (pe_k1 E.e_BadCourse (hr.mono (by decide)) rfl (pk_cons (pv 0) pk_nil)) (pa_cons (pe_k1 E.e_BadSheet (hr.mono (by decide)) rfl (pk_cons (pv 0) pk_nil)) pa_nil)))))))
  (pss_cons (ps_set (i := 1) sc_l_by_name.nd rfl (Or.inl rfl) (pe_op op_cat (pv 1) (pe_lst (pa_cons (pe_k1 E.e_BadDyeing (hr.mono (by decide)) rfl (pk_cons (pv 0) pk_nil)) (pa_cons (pe_k1 E.e_BadSaying (hr.mono (by decide)) rfl (pk_cons (pv 0) pk_nil)) (pa_cons (pe_k1 E.e_BadPairs (hr.mono (by decide)) rfl (pk_cons (pv 0) pk_nil)) (pa_cons (pe_k1 E.e_BadFamily (hr.mono (by decide)) rfl (pk_cons (pv 0) pk_nil)) (pa_cons (pe_k1 E.e_BadNumber (hr.mono (by decide)) rfl (pk_cons (pv 0) pk_nil)) pa_nil))))))))
  (pss_cons (ps_set (i := 1) sc_l_by_name.nd rfl (Or.inl rfl) (pe_op op_cat (pv 1) (pe_lst (pa_cons (pe_k1 E.e_BadPaper (hr.mono (by decide)) rfl (pk_cons (pv 0) pk_nil)) (pa_cons (pe_k1 E.e_BadDesk (hr.mono (by decide)) rfl (pk_cons (pv 0) pk_nil)) (pa_cons (pe_k1 E.e_Misfit (hr.mono (by decide)) rfl (pk_cons (pv 0) pk_nil)) (pa_cons (pe_k1 E.e_NoRow (hr.mono (by decide)) rfl (pk_cons (pv 0) pk_nil)) (pa_cons (pe_k1 E.e_NoLanguage (hr.mono (by decide)) rfl (pk_cons (pv 0) pk_nil)) pa_nil))))))))
  (pss_cons (ps_set (i := 1) sc_l_by_name.nd rfl (Or.inl rfl) (pe_op op_cat (pv 1) (pe_lst (pa_cons (pe_k1 E.e_NoPlace (hr.mono (by decide)) rfl (pk_cons (pv 0) pk_nil)) (pa_cons (pe_k1 E.e_NoShift (hr.mono (by decide)) rfl (pk_cons (pv 0) pk_nil)) (pa_cons (pe_k1 E.e_NoName (hr.mono (by decide)) rfl (pk_cons (pv 0) pk_nil)) (pa_cons (pe_k1 E.e_Twice (hr.mono (by decide)) rfl (pk_cons (pv 0) pk_nil)) pa_nil)))))))
  (pss_one (ps_ret (pv 1))))))), ?_⟩
    obtain ⟨v, rfl, q⟩ := h
    refine ⟨v, rfl, fun a0 H0 ha0 s0 e0 => ?_⟩
    refine ⟨v, rfl, fun a1 H1 ha1 s1 e1 => ?_⟩
    refine ⟨v, rfl, fun a2 H2 ha2 s2 e2 => ?_⟩
    refine ⟨v, rfl, fun a3 H3 ha3 s3 e3 => ?_⟩
    refine ⟨v, rfl, fun a4 H4 ha4 s4 e4 => ?_⟩
    refine ⟨(by show 5 ≤ sizeLine; decide), fun p0 n0 => ?_⟩
    have t0 := Sm.new (o := .lst [V.ref a0, V.ref a1, V.ref a2, V.ref a3, V.ref a4]) n0
    refine ⟨_, rfl, ?_⟩
    refine ⟨v, rfl, fun a5 H5 ha5 s5 e5 => ?_⟩
    refine ⟨v, rfl, fun a6 H6 ha6 s6 e6 => ?_⟩
    refine ⟨v, rfl, fun a7 H7 ha7 s7 e7 => ?_⟩
    refine ⟨v, rfl, fun a8 H8 ha8 s8 e8 => ?_⟩
    refine ⟨v, rfl, fun a9 H9 ha9 s9 e9 => ?_⟩
    refine ⟨(by show 5 ≤ sizeLine; decide), fun p1 n1 => ?_⟩
    have t1 := Sm.new (o := .lst [V.ref a5, V.ref a6, V.ref a7, V.ref a8, V.ref a9]) n1
    refine ⟨p0, p1, [V.ref a0, V.ref a1, V.ref a2, V.ref a3, V.ref a4], [V.ref a5, V.ref a6, V.ref a7, V.ref a8, V.ref a9], rfl, rfl, (Same.trans s5 (Same.trans s6 (Same.trans s7 (Same.trans s8 (Same.trans s9 t1))))) _ _ upd_same, upd_same, (by show 5 + 5 ≤ sizeLine; decide), fun r1 m1 => ?_⟩
    have w1 := Sm.new (o := .lst [V.ref a0, V.ref a1, V.ref a2, V.ref a3, V.ref a4, V.ref a5, V.ref a6, V.ref a7, V.ref a8, V.ref a9]) m1
    refine ⟨_, rfl, ?_⟩
    refine ⟨v, rfl, fun a10 H10 ha10 s10 e10 => ?_⟩
    refine ⟨v, rfl, fun a11 H11 ha11 s11 e11 => ?_⟩
    refine ⟨v, rfl, fun a12 H12 ha12 s12 e12 => ?_⟩
    refine ⟨v, rfl, fun a13 H13 ha13 s13 e13 => ?_⟩
    refine ⟨v, rfl, fun a14 H14 ha14 s14 e14 => ?_⟩
    refine ⟨(by show 5 ≤ sizeLine; decide), fun p2 n2 => ?_⟩
    have t2 := Sm.new (o := .lst [V.ref a10, V.ref a11, V.ref a12, V.ref a13, V.ref a14]) n2
    refine ⟨r1, p2, [V.ref a0, V.ref a1, V.ref a2, V.ref a3, V.ref a4, V.ref a5, V.ref a6, V.ref a7, V.ref a8, V.ref a9], [V.ref a10, V.ref a11, V.ref a12, V.ref a13, V.ref a14], rfl, rfl, (Same.trans s10 (Same.trans s11 (Same.trans s12 (Same.trans s13 (Same.trans s14 t2))))) _ _ upd_same, upd_same, (by show 10 + 5 ≤ sizeLine; decide), fun r2 m2 => ?_⟩
    have w2 := Sm.new (o := .lst [V.ref a0, V.ref a1, V.ref a2, V.ref a3, V.ref a4, V.ref a5, V.ref a6, V.ref a7, V.ref a8, V.ref a9, V.ref a10, V.ref a11, V.ref a12, V.ref a13, V.ref a14]) m2
    refine ⟨_, rfl, ?_⟩
    refine ⟨v, rfl, fun a15 H15 ha15 s15 e15 => ?_⟩
    refine ⟨v, rfl, fun a16 H16 ha16 s16 e16 => ?_⟩
    refine ⟨v, rfl, fun a17 H17 ha17 s17 e17 => ?_⟩
    refine ⟨v, rfl, fun a18 H18 ha18 s18 e18 => ?_⟩
    refine ⟨(by show 4 ≤ sizeLine; decide), fun p3 n3 => ?_⟩
    have t3 := Sm.new (o := .lst [V.ref a15, V.ref a16, V.ref a17, V.ref a18]) n3
    refine ⟨r2, p3, [V.ref a0, V.ref a1, V.ref a2, V.ref a3, V.ref a4, V.ref a5, V.ref a6, V.ref a7, V.ref a8, V.ref a9, V.ref a10, V.ref a11, V.ref a12, V.ref a13, V.ref a14], [V.ref a15, V.ref a16, V.ref a17, V.ref a18], rfl, rfl, (Same.trans s15 (Same.trans s16 (Same.trans s17 (Same.trans s18 t3)))) _ _ upd_same, upd_same, (by show 15 + 4 ≤ sizeLine; decide), fun r3 m3 => ?_⟩
    have w3 := Sm.new (o := .lst [V.ref a0, V.ref a1, V.ref a2, V.ref a3, V.ref a4, V.ref a5, V.ref a6, V.ref a7, V.ref a8, V.ref a9, V.ref a10, V.ref a11, V.ref a12, V.ref a13, V.ref a14, V.ref a15, V.ref a16, V.ref a17, V.ref a18]) m3
    refine ⟨_, rfl, ?_⟩
    have u25 := w3
    have u24 := Same.trans t3 u25
    have u23 := Same.trans s18 u24
    have u22 := Same.trans s17 u23
    have u21 := Same.trans s16 u22
    have u20 := Same.trans s15 u21
    have u19 := Same.trans w2 u20
    have u18 := Same.trans t2 u19
    have u17 := Same.trans s14 u18
    have u16 := Same.trans s13 u17
    have u15 := Same.trans s12 u16
    have u14 := Same.trans s11 u15
    have u13 := Same.trans s10 u14
    have u12 := Same.trans w1 u13
    have u11 := Same.trans t1 u12
    have u10 := Same.trans s9 u11
    have u9 := Same.trans s8 u10
    have u8 := Same.trans s7 u9
    have u7 := Same.trans s6 u8
    have u6 := Same.trans s5 u7
    have u5 := Same.trans t0 u6
    have u4 := Same.trans s4 u5
    have u3 := Same.trans s3 u4
    have u2 := Same.trans s2 u3
    have u1 := Same.trans s1 u2
    exact q _ _ (Same.trans s0 u1) (mk19 upd_same (e0.same u1) (e1.same u2) (e2.same u3) (e3.same u4) (e4.same u5) (e5.same u7) (e6.same u8) (e7.same u9) (e8.same u10) (e9.same u11) (e10.same u14) (e11.same u15) (e12.same u16) (e13.same u17) (e14.same u18) (e15.same u21) (e16.same u22) (e17.same u23) (e18.same u24))

end
end K0
namespace K0
open PySem PySem.Spec PyProof.Rows L2
/-- v != v, v a value as drawn -/
def rNeGood : R2 := fun x y H Q => ∃ (p : Addr) (v : V), x = v ∧ y = v ∧ GoodV p H v ∧ Q (.bl false) H
section
variable {X : Cx}
theorem op_neGood (hu : X.A.units + 1 < cLine) : OpR X (compareOp .NotEq) rNeGood := by
  intro pins s σ H x y v u Q I rx ry h
  obtain ⟨p, z, rfl, rfl, g, q⟩ := h
  rcases g with g | ⟨a, xs, rfl, _, ha | ha, k⟩ | ⟨a, rfl, _, ha⟩
  · refine op_ne pins s σ H _ _ v u Q I rx ry ⟨g, ?_⟩
    rw [decide_eq_true rfl]
    exact q
  · exact op_neSame hu pins s σ H _ _ v u Q I rx ry ⟨a, a, xs, rfl, rfl, SqL.of ha, SqL.of ha, k, q⟩
  · cases (show v = Value.ref a from rx)
    cases (show u = Value.ref a from ry)
    obtain ⟨hz, its, rv, o, h1, h2, n, h3⟩ := (show ObjOk X.prog X.w H s.heap a (.tup xs) from I.hok a _ ha)
    have p1 : s.heap.IsTuple a its.toArray := ⟨o, h1, h2, n, h3⟩
    refine SeqAt.RcNeAt.tuples (e := fun _ => true) p1 p1 (by omega) (fun j h1 h2 => SeqAt.EqAt.same _) _ _ _ _ ?_
    rw [show ((List.range (min its.toArray.size its.toArray.size)).all fun _ => true) = true from List.all_eq_true.mpr fun _ _ => rfl]
    rw [beq_self_eq_true]
    exact ⟨.bl false, H, I, rfl, q⟩
  · exact op_ne_dictA (by omega) pins s σ H _ _ v u Q I rx ry ⟨a, a, [], [], rfl, rfl, ha, ha, rfl, fun p hp => by simp at hp, q⟩
theorem pe_nothing {C : Addr} {bmB : List Value} {B newId initId : String} {x : Str} {p pos : Pos} (F : ExcBaseFacts B newId initId bmB) (q : PySem.W.excIn X.K C bmB newId = true) (gC : X.mg x = some (.ref C)) (kC : PySem.W.keepIn X.K (.ref C) = true) (hg : Gl X x)
    (hdb : (x == ("__debug__" : Str)) = false := by decide) :
    PE X (.Call (.Name x p) [] [] pos) (fun σ H Q => ∀ a, H a = none → Q (.ref a) (upd H a (ExO (.ref C) a))) := by
  refine ⟨fun pins s σ H Q I h => ?_⟩
  refine wpAny_Call_Name_kw (ld_glob I hg gC ?_ hdb)
  refine PySem.W.callWith_K0 I.kIn kC ?_
  obtain ⟨bm, N, nm, qn, bs, hdct, sn, sub, ab, col, dd, k0, k1, k2, k3, k5, mN, hC, hN, hni, T⟩ := exc_obj I.kIn q
  refine wpAny_call_exc_subT F T hC hN hni (fun h' a hm => ?_) (by show 0 ≤ sizeLine; omega)
  have hn : H a = none := I.hok.gone hm.new
  obtain ⟨t, ht, _, _⟩ := hm.there
  exact ⟨.ref a, upd H a (ExO (.ref C) a), I.laidN hm.keeps hm.new hn (exO_ok ht ⟨rfl, rfl⟩ rfl rfl rfl (show 4 < 6 by decide)), rfl, h a hn⟩
end
end K0
namespace K0
open PySem PySem.Spec PyProof.Rows L2
/-- what is known of the classes: their fields are their objects' own, and what isinstance says -/
structure Flds (K : PySem.W.Frag) (cls : Nat → Addr) (cT cM : Addr) : Prop where
  xf : ∀ i, i < 24 → XfC K (cls i)
  no : ∀ i, i < 19 → PySem.W.findIn K (.ref (cls i)) (fldN i) = some none
  no19 : PySem.W.findIn K (.ref (cls 19)) "paper" = some none
  no20 : PySem.W.findIn K (.ref (cls 20)) "what" = some none
  no20b : PySem.W.findIn K (.ref (cls 20)) "most" = some none
  no22 : PySem.W.findIn K (.ref (cls 22)) "line" = some none
  no22b : PySem.W.findIn K (.ref (cls 22)) "item" = some none
  no23 : PySem.W.findIn K (.ref (cls 23)) "line" = some none
  no23b : PySem.W.findIn K (.ref (cls 23)) "error" = some none
  ok : ∀ i, i < 24 → ClsOk K cls cT cM (cls i) i
  xfM : XfC K cM
  noM : PySem.W.findIn K (.ref cM) "value" = some none
  exM : ExcC K cM
  noRow : PySem.W.kitOne K (.ref cM) (.ref (cls 13)) = some false
  teM : PySem.W.kitOne K (.ref cM) (.ref cT) = some true
structure Noth (K : PySem.W.Frag) (mg : Str → Option Value) (C : Addr) : Prop where
  f : ExcBaseFacts "ValueError" "ValueError.__new__" "ValueError.__init__" [.type "ValueError", .type "Exception", .type "BaseException", .type "object"]
  ex : PySem.W.excIn K C [.type "ValueError", .type "Exception", .type "BaseException", .type "object"] "ValueError.__new__" = true
  gl : mg "Nothing" = some (.ref C)
  k : PySem.W.keepIn K (.ref C) = true
section
variable {P : Program} {w : World} {K : PySem.W.Frag} {mg : Str → Option Value} {base : Heap} {cls : Nat → Addr} {cT cM : Addr}
abbrev COnly (P : Program) (w : World) (K : PySem.W.Frag) (mg : Str → Option Value) (base : Heap) (cls : Nat → Addr) (cT cM : Addr) : Prop := Cal P w K mg base 2 "_law_is_only" st_l_is_only ["_law_error", "_law_at"] (spOnly K cls cT cM)
abbrev st_l_one_right : Stmt := top 49
abbrev nm_l_one_right : List Str := ["_law_one", "_law_other", "_law_base", "_law_made", "_law_again", "_law_error", "_law_twin", "_law_at", "_law_told"]
theorem sc_l_one_right : FnScope nm_l_one_right ["_law_one", "_law_other"] (defScope st_l_one_right) := ⟨rfl, rfl, rfl, by decide +kernel, rfl, by decide +kernel, by decide +kernel⟩
def spOne : Sp := fun vs H Q _ => ∃ (p : Addr) (u v : V), vs = [u, v] ∧ GoodV p H u ∧ GoodV p H v ∧ ∀ H', Same H H' → Q (.bl true) H'
theorem ok_one {f : Addr} {fd : FuncData} (F : Fun K "_law_one_right" "_law_one_right" st_l_one_right f fd) (T : Gn mg cls cT cM) (E : Ers P w K mg base cls cM) (D : Flds K cls cT cM) (T0 : Noth K mg (cls 21))
    (C__law_is_only : COnly P w K mg base cls cT cM) (C__law_by_place : Cal P w K mg base 3 "_law_by_place" st_l_by_place ["_law_one"] (spBy cls)) (C__law_by_name : Cal P w K mg base 3 "_law_by_name" st_l_by_name ["_law_one"] (spBy cls)) :
    FnOk P w K mg base CX0 4 f fd ["_law_one", "_law_other"] spOne := by
  refine F.ok sc_l_one_right (fun vs H Q E' h => ?_) (fun cdv A outer s H vs Q E' hr h => ?_)
  · obtain ⟨p, u, v, rfl, _⟩ := h
    rfl
  · refine ⟨_, (pss_cons (ps_for PassesOwn.never rfl (pi_tup (pe_tup (pa_cons (pe_tup (pa_cons (pe_cl C__law_by_place (hr.mono (by decide)) rfl (pa_cons (pv 0) pa_nil)) (pa_cons (pe_cl C__law_by_name (hr.mono (by decide)) rfl (pa_cons (pv 1) pa_nil)) pa_nil))) (pa_cons (pe_tup (pa_cons (pe_cl C__law_by_name (hr.mono (by decide)) rfl (pa_cons (pv 0) pa_nil)) (pa_cons (pe_cl C__law_by_place (hr.mono (by decide)) rfl (pa_cons (pv 1) pa_nil)) pa_nil))) pa_nil)))) (pg_tup rfl (pgs_cons (pg_name (i := 3) sc_l_one_right.nd rfl (Or.inl rfl)) (pgs_cons (pg_name (i := 4) sc_l_one_right.nd rfl (Or.inl rfl)) pgs_nil))) (pss_one (ps_for PassesOwn.never rfl (pi_enum (by rfl) T.n_enumerate (pa_cons (pv 3) pa_nil)) (pg_tup rfl (pgs_cons (pg_name (i := 7) sc_l_one_right.nd rfl (Or.inl rfl)) (pgs_cons (pg_name (i := 5) sc_l_one_right.nd rfl (Or.inl rfl)) pgs_nil))) (pss_cons (ps_set (i := 8) sc_l_one_right.nd rfl (Or.inl rfl) (pe_ifExp (pt_cmpR op_lt (pv 7) pe_int (nomark _)) (pe_lst (pa_cons (pe_errF (pv 5)) (pa_cons (pe_errF (pe_ix ix_list (pv 4) (pv 7) (fun _ _ => rfl))) pa_nil))) (pe_lst (pa_cons (pe_errF (pv 5)) (pa_cons (pe_errF (pe_ix ix_list (pv 4) (pv 7) (fun _ _ => rfl))) pa_nil)))))
  (pss_one (ps_if (PW.pt (pw_or (pt_cmpR (op_neSame (Nat.lt_of_le_of_lt (Nat.add_le_add_left (by decide) _) hr.units)) (pv 8) (pe_lst (pa_cons (pv 0) (pa_cons (pv 1) pa_nil))) (nomark _)) (pw_or (pt_not (pt_val (pe_cl C__law_is_only (hr.mono (by decide)) rfl (pa_cons (pv 5) (pa_cons (pv 7) pa_nil))))) (pw_or1 (pt_not (pt_val (pe_cl C__law_is_only (hr.mono (by decide)) rfl (pa_cons (pe_ix ix_list (pv 4) (pv 7) (fun _ _ => rfl)) (pa_cons (pv 7) pa_nil))))))))) (pss_one (ps_ret pe_bl)) pss_nil))))))
  (pss_cons (ps_set (i := 2) sc_l_one_right.nd rfl (Or.inl rfl) (pe_k1 E.e_Missing (hr.mono (by decide)) rfl (pk_cons (pv 0) pk_nil)))
  (pss_cons (ps_if (PW.pt (pw_or (pt_cmpR (op_neGood (Nat.lt_of_le_of_lt (Nat.add_le_add_left (by decide) _) hr.units)) (pe_errF (pv 2)) (pv 0) (nomark _)) (pw_or (pt_val (pe_callB call_isS (by rfl) T.n_isinstance (by decide +kernel) (pa_cons (pv 2) (pa_cons (pe_glob (v := .ref _) rfl (T.g_NoRow) rfl) pa_nil)))) (pw_or (pt_not (pt_val (pe_callB call_isS (by rfl) T.n_isinstance (by decide +kernel) (pa_cons (pv 2) (pa_cons (pe_glob (v := .ref _) rfl (T.g_TongueError) rfl) pa_nil))))) (pw_or1 (pt_cmpR (op_neGood (Nat.lt_of_le_of_lt (Nat.add_le_add_left (by decide) _) hr.units)) (pe_errF (pe_e1 E.e_Missing (hr.mono (by decide)) rfl (pa_cons (pv 1) pa_nil))) (pv 1) (nomark _))))))) (pss_one (ps_ret pe_bl)) pss_nil)
  (pss_cons (ps_for PassesOwn.never rfl (pi_tup (pe_tup (pa_cons (pe_tup (pa_cons (pe_e1 E.e_Impossible (hr.mono (by decide)) rfl (pa_cons (pv 0) pa_nil)) (pa_cons (pe_k1 E.e_Impossible (hr.mono (by decide)) rfl (pk_cons (pv 1) pk_nil)) pa_nil))) (pa_cons (pe_tup (pa_cons (pe_k1 E.e_Impossible (hr.mono (by decide)) rfl (pk_cons (pv 0) pk_nil)) (pa_cons (pe_e1 E.e_Impossible (hr.mono (by decide)) rfl (pa_cons (pv 1) pa_nil)) pa_nil))) pa_nil)))) (pg_tup rfl (pgs_cons (pg_name (i := 5) sc_l_one_right.nd rfl (Or.inl rfl)) (pgs_cons (pg_name (i := 6) sc_l_one_right.nd rfl (Or.inl rfl)) pgs_nil))) (pss_one (ps_if (PW.pt (pw_or (pt_cmpR (op_neSame (Nat.lt_of_le_of_lt (Nat.add_le_add_left (by decide) _) hr.units)) (pe_lst (pa_cons (pe_errF (pv 5)) (pa_cons (pe_errF (pv 6)) pa_nil))) (pe_lst (pa_cons (pv 0) (pa_cons (pv 1) pa_nil))) (nomark _)) (pw_or (pt_not (pt_val (pe_cl C__law_is_only (hr.mono (by decide)) rfl (pa_cons (pv 5) (pa_cons pe_int pa_nil))))) (pw_or1 (pt_not (pt_val (pe_cl C__law_is_only (hr.mono (by decide)) rfl (pa_cons (pv 6) (pa_cons pe_int pa_nil))))))))) (pss_one (ps_ret pe_bl)) pss_nil)))
  (pss_one (ps_ret (pe_cl C__law_is_only (hr.mono (by decide)) rfl (pa_cons (pe_nothing T0.f T0.ex T0.gl T0.k rfl) (pa_cons pe_int pa_nil))))))))), ?_⟩
    obtain ⟨p, u, v, rfl, gu, gv, q⟩ := h
    refine ⟨_, rfl, u, rfl, fun H1 l1 s1 e1 => ?_⟩
    refine ⟨_, rfl, v, rfl, fun H2 l2 s2 e2 => ?_⟩
    refine ⟨(by show 2 ≤ sizeLine; decide), fun t1 n1 => ?_⟩
    have z1 := Sm.new (o := .tup [V.ref l1, V.ref l2]) n1
    refine ⟨_, rfl, u, rfl, fun H3 l3 s3 e3 => ?_⟩
    refine ⟨_, rfl, v, rfl, fun H4 l4 s4 e4 => ?_⟩
    refine ⟨(by show 2 ≤ sizeLine; decide), fun t2 n2 => ?_⟩
    have z2 := Sm.new (o := .tup [V.ref l3, V.ref l4]) n2
    refine ⟨(by show 2 ≤ sizeLine; decide), fun t3 n3 => ?_⟩
    have z3 := Sm.new (o := .tup [V.ref t1, V.ref t2]) n3
    refine ⟨_, rfl, ⟨_, SqT.of upd_same⟩, ?_⟩
    have y2 := Same.trans z2 z3
    have y1 := Same.trans (Same.trans z1 (Same.trans s3 s4)) y2
    have pr : ∀ (i : Nat) (x : V), ([.ref t1, .ref t2] : List V)[i]? = some x → ∃ t la lb : Addr, x = .ref t ∧ (upd (upd H4 t2 (.tup [.ref l3, .ref l4])) t3 (.tup [.ref t1, .ref t2])) t = some (.tup [.ref la, .ref lb]) ∧
        Errs cls (upd (upd H4 t2 (.tup [.ref l3, .ref l4])) t3 (.tup [.ref t1, .ref t2])) la u ∧ Errs cls (upd (upd H4 t2 (.tup [.ref l3, .ref l4])) t3 (.tup [.ref t1, .ref t2])) lb v := by
      intro i x hx
      match i, hx with
      | 0, hx =>
        obtain rfl : V.ref t1 = x := by simpa using hx
        exact ⟨t1, l1, l2, rfl, Same.trans (Same.trans s3 s4) y2 _ _ upd_same, e1.same (Same.trans s2 y1), e2.same y1⟩
      | 1, hx =>
        obtain rfl : V.ref t2 = x := by simpa using hx
        exact ⟨t2, l3, l4, rfl, z3 _ _ upd_same, e3.same (Same.trans s4 y2), e4.same y2⟩
    have sA : Same H (upd (upd H4 t2 (.tup [.ref l3, .ref l4])) t3 (.tup [.ref t1, .ref t2])) := Same.trans (Same.trans s1 s2) y1
    generalize hG : upd (upd H4 t2 (.tup [.ref l3, .ref l4])) t3 (.tup [.ref t1, .ref t2]) = G at pr sA ⊢
    have hG3 : G t3 = some (.tup [V.ref t1, V.ref t2]) := by rw [← hG]; exact upd_same
    clear hG y1 y2 z3 z2 z1
    refine for_it (walk_tup (xs := [V.ref t1, V.ref t2])) (fun i σ H' => ∃ x2 x3 x4 x5 x6 x7 x8, σ = [some u, some v, x2, x3, x4, x5, x6, x7, x8] ∧ Same G H') ⟨_, _, _, _, _, _, _, rfl, Same.refl _⟩ (fun i σ H2 _ ⟨_, _, _, _, _, _, _, _, s⟩ => SqT.of (s _ _ hG3)) ?_ ?_
    · rintro i x σ H5 H5' hi ⟨x2, x3, x4, x5, x6, x7, x8, rfl, sG⟩ ⟨rfl, hx⟩
      obtain ⟨t, la, lb, rfl, ht, ea, eb⟩ := pr i x hx
      refine ⟨t, _, rfl, SqT.of (sG _ _ ht), rfl, _, _, rfl, _, _, rfl, rfl, ?_⟩
      obtain ⟨as, a1, a2, a3⟩ := ea
      obtain ⟨bs, b1, b2, b3⟩ := eb
      refine ⟨_, rfl, la, as.map V.ref, rfl, SqL.of (sG _ _ a1), ?_⟩
      refine for_it (walk_enum (xs := as.map V.ref)) (fun i σ H' => ∃ x5 x6 x7 x8, σ = [some u, some v, x2, some (.ref la), some (.ref lb), x5, x6, x7, x8] ∧ Same G H') ⟨_, _, _, _, rfl, sG⟩ (fun i σ H2 _ ⟨_, _, _, _, _, s⟩ => SqL.of (s _ _ a1)) ?_ ?_
      · rintro k y σ H6 H7 hk ⟨x5', x6', x7', x8', rfl, s6⟩ ⟨tt, ki, ye, rfl, ntt, rfl, hki, hye⟩
        obtain rfl : V.int (k : Nat) = ki := Option.some.inj hki
        refine ⟨tt, _, rfl, SqT.of upd_same, rfl, _, _, rfl, _, _, rfl, rfl, ?_⟩
        rw [List.length_map, a2] at hk
        have hye : (as.map V.ref)[k]? = some ye := hye
        rw [List.getElem?_map] at hye
        obtain ⟨a, ha, rfl⟩ := Option.map_eq_some_iff.mp hye
        have hb : k < bs.length := by rw [b2]; exact hk
        have sT := Same.trans s6 (Sm.new (o := .tup [V.int (k : Nat), V.ref a]) ntt)
        have ea := (a3 k a ha).same sT
        have eb := (b3 k bs[k] (by simp [hb])).same sT
        have atb : atI (bs.map V.ref) ((k : Nat) : Int) = some (.ref bs[k]) := atI_nat (by rw [List.getElem?_map, List.getElem?_eq_getElem hb]; rfl)
        have sv : ([u, v] : List V).all sameV = true := by
          rw [List.all_cons, List.all_cons, gu.same, gv.same]
          rfl
        refine ⟨_, rfl, _, _, rfl, rfl, _, rfl, ?_⟩
        refine ite2 (fun c => ?_) (fun c => ?_)
        · have ef : fldN k = "part" := if_pos (by have h : ((k : Nat) : Int) < 13 := of_decide_eq_true c; omega)
          have no := D.no k hk
          rw [ef] at no ea eb
          refine ⟨_, rfl, a, cls k, _, u, rfl, D.xf k (by omega), no, ea, rfl, ?_⟩
          refine ⟨_, rfl, _, rfl, lb, bs.map V.ref, (k : Nat), .ref bs[k], rfl, rfl, SqL.of (sT _ _ b1), atb, bs[k], cls k, _, v, rfl, D.xf k (by omega), no, eb, rfl, ?_⟩
          refine ⟨(by show 2 ≤ sizeLine; decide), fun q1 m1 => ?_⟩
          have w1 := Sm.new (o := .lst [u, v]) m1
          refine ⟨_, rfl, _, rfl, _, rfl, (by show 2 ≤ sizeLine; decide), fun q2 m2 => ⟨q1, q2, [u, v], rfl, rfl, SqL.of ((upd_ne (ne_of_none upd_same m2)).trans upd_same), SqL.of upd_same, sv, _, rfl, ?_⟩⟩
          have w2 := Sm.new (o := .lst [u, v]) m2
          have sT2 := Same.trans sT (Same.trans w1 w2)
          refine iteF ?_
          refine ⟨_, rfl, _, rfl, a, cls k, k, rfl, by omega, .inl ⟨_, ea.same (Same.trans w1 w2)⟩, D.ok k (by omega), fun H8 s8 => ⟨_, rfl, ?_⟩⟩
          refine iteF ?_
          have s9 := Same.trans sT2 s8
          refine ⟨_, rfl, _, rfl, lb, bs.map V.ref, (k : Nat), .ref bs[k], rfl, rfl, SqL.of (s9 _ _ b1), atb, _, rfl, bs[k], cls k, k, rfl, by omega, .inl ⟨_, eb.same (Same.trans (Same.trans w1 w2) s8)⟩, D.ok k (by omega), fun H9 s10 => ⟨_, rfl, ?_⟩⟩
          refine iteF ?_
          exact ⟨_, _, _, _, rfl, Same.trans s9 s10⟩
        · have ef : fldN k = "value" := if_neg fun z => c (decide_eq_true (show ((k : Nat) : Int) < 13 by omega))
          have no := D.no k hk
          rw [ef] at no ea eb
          refine ⟨_, rfl, a, cls k, _, u, rfl, D.xf k (by omega), no, ea, rfl, ?_⟩
          refine ⟨_, rfl, _, rfl, lb, bs.map V.ref, (k : Nat), .ref bs[k], rfl, rfl, SqL.of (sT _ _ b1), atb, bs[k], cls k, _, v, rfl, D.xf k (by omega), no, eb, rfl, ?_⟩
          refine ⟨(by show 2 ≤ sizeLine; decide), fun q1 m1 => ?_⟩
          have w1 := Sm.new (o := .lst [u, v]) m1
          refine ⟨_, rfl, _, rfl, _, rfl, (by show 2 ≤ sizeLine; decide), fun q2 m2 => ⟨q1, q2, [u, v], rfl, rfl, SqL.of ((upd_ne (ne_of_none upd_same m2)).trans upd_same), SqL.of upd_same, sv, _, rfl, ?_⟩⟩
          have w2 := Sm.new (o := .lst [u, v]) m2
          have sT2 := Same.trans sT (Same.trans w1 w2)
          refine iteF ?_
          refine ⟨_, rfl, _, rfl, a, cls k, k, rfl, by omega, .inl ⟨_, ea.same (Same.trans w1 w2)⟩, D.ok k (by omega), fun H8 s8 => ⟨_, rfl, ?_⟩⟩
          refine iteF ?_
          have s9 := Same.trans sT2 s8
          refine ⟨_, rfl, _, rfl, lb, bs.map V.ref, (k : Nat), .ref bs[k], rfl, rfl, SqL.of (s9 _ _ b1), atb, _, rfl, bs[k], cls k, k, rfl, by omega, .inl ⟨_, eb.same (Same.trans (Same.trans w1 w2) s8)⟩, D.ok k (by omega), fun H9 s10 => ⟨_, rfl, ?_⟩⟩
          refine iteF ?_
          exact ⟨_, _, _, _, rfl, Same.trans s9 s10⟩
      · rintro σ H6 ⟨x5', x6', x7', x8', rfl, s6⟩
        exact ⟨_, _, _, _, _, _, _, rfl, s6⟩
    · rintro σ H5 ⟨x2, x3, x4, x5, x6, x7, x8, rfl, sG⟩
      have gu5 := (gu.sm sA).sm sG
      have gv5 := (gv.sm sA).sm sG
      refine ⟨_, rfl, fun aM H6 hM s6 eM => ?_⟩
      have gu6 := gu5.sm s6
      refine ⟨_, rfl, aM, cM, _, u, rfl, D.xfM, D.noM, eM, rfl, _, rfl, p, u, rfl, rfl, gu6, _, rfl, ?_⟩
      refine iteF ?_
      refine ⟨_, rfl, aM, cM, _, _, _, rfl, .inl ⟨_, eM⟩, D.exM, .own _, D.noRow, _, rfl, ?_⟩
      refine iteF ?_
      refine ⟨_, rfl, aM, cM, _, _, _, rfl, .inl ⟨_, eM⟩, D.exM, .own _, D.teM, _, rfl, ?_⟩
      refine iteF ?_
      refine ⟨_, rfl, fun aN H7 hN s7 eN => ?_⟩
      have gv7 := (gv5.sm s6).sm s7
      refine ⟨aN, cM, _, v, rfl, D.xfM, D.noM, eN, rfl, _, rfl, p, v, rfl, rfl, gv7, _, rfl, ?_⟩
      refine iteF ?_
      have gu7 := gu6.sm s7
      have sH7 := Same.trans sA (Same.trans sG (Same.trans s6 s7))
      clear eM eN hM hN pr gu5 gv5 gu6 sG sA
      refine ⟨_, rfl, fun a1 K1 _ r1 f1 => ⟨_, rfl, fun a2 K2 _ r2 f2 => ⟨(by show 2 ≤ sizeLine; decide), fun t1 n1 => ?_⟩⟩⟩
      have z1 := Sm.new (o := .tup [V.ref a1, V.ref a2]) n1
      refine ⟨_, rfl, fun a3 K3 _ r3 f3 => ⟨_, rfl, fun a4 K4 _ r4 f4 => ⟨(by show 2 ≤ sizeLine; decide), fun t2 n2 => ⟨(by show 2 ≤ sizeLine; decide), fun t3 n3 => ?_⟩⟩⟩⟩
      have z2 := Sm.new (o := .tup [V.ref a3, V.ref a4]) n2
      have z3 := Sm.new (o := .tup [V.ref t1, V.ref t2]) n3
      refine ⟨_, rfl, ⟨_, SqT.of upd_same⟩, ?_⟩
      have y2 := Same.trans z2 z3
      have y1 := Same.trans (Same.trans z1 (Same.trans r3 r4)) y2
      have pr : ∀ (i : Nat) (x : V), ([.ref t1, .ref t2] : List V)[i]? = some x → ∃ t la lb : Addr, x = .ref t ∧ (upd (upd K4 t2 (.tup [.ref a3, .ref a4])) t3 (.tup [.ref t1, .ref t2])) t = some (.tup [.ref la, .ref lb]) ∧
          ErrAt (upd (upd K4 t2 (.tup [.ref a3, .ref a4])) t3 (.tup [.ref t1, .ref t2])) la (cls 19) [("paper", u)] ∧ ErrAt (upd (upd K4 t2 (.tup [.ref a3, .ref a4])) t3 (.tup [.ref t1, .ref t2])) lb (cls 19) [("paper", v)] := by
        intro i x hx
        match i, hx with
        | 0, hx =>
          obtain rfl : V.ref t1 = x := by simpa using hx
          exact ⟨t1, a1, a2, rfl, Same.trans (Same.trans r3 r4) y2 _ _ upd_same, f1.same (Same.trans r2 y1), f2.same y1⟩
        | 1, hx =>
          obtain rfl : V.ref t2 = x := by simpa using hx
          exact ⟨t2, a3, a4, rfl, z3 _ _ upd_same, f3.same (Same.trans r4 y2), f4.same y2⟩
      have sA : Same H (upd (upd K4 t2 (.tup [.ref a3, .ref a4])) t3 (.tup [.ref t1, .ref t2])) := Same.trans (Same.trans sH7 (Same.trans r1 r2)) y1
      generalize hG' : upd (upd K4 t2 (.tup [.ref a3, .ref a4])) t3 (.tup [.ref t1, .ref t2]) = G2 at pr sA ⊢
      have hG4 : G2 t3 = some (.tup [V.ref t1, V.ref t2]) := by rw [← hG']; exact upd_same
      clear hG' y1 y2 z3 z2 z1
      refine for_it (walk_tup (xs := [V.ref t1, V.ref t2])) (fun i σ H' => ∃ x5 x6, σ = [some u, some v, some (.ref aM), x3, x4, x5, x6, x7, x8] ∧ Same G2 H') ⟨_, _, rfl, Same.refl _⟩ (fun i σ H2 _ ⟨_, _, _, s⟩ => SqT.of (s _ _ hG4)) ?_ ?_
      · rintro i x σ H8 H8' hi ⟨x5', x6', rfl, s8⟩ ⟨rfl, hx⟩
        obtain ⟨t, la, lb, rfl, ht, ea, eb⟩ := pr i x hx
        have sv : ([u, v] : List V).all sameV = true := by
          rw [List.all_cons, List.all_cons, gu.same, gv.same]
          rfl
        have ea := ea.same s8
        have eb := eb.same s8
        refine ⟨t, _, rfl, SqT.of (s8 _ _ ht), rfl, _, _, rfl, _, _, rfl, rfl, ?_⟩
        refine ⟨_, rfl, la, cls 19, _, u, rfl, D.xf 19 (by decide), D.no19, ea, rfl, _, rfl, lb, cls 19, _, v, rfl, D.xf 19 (by decide), D.no19, eb, rfl, (by show 2 ≤ sizeLine; decide), fun q1 m1 => ?_⟩
        have w1 := Sm.new (o := .lst [u, v]) m1
        refine ⟨_, rfl, _, rfl, (by show 2 ≤ sizeLine; decide), fun q2 m2 => ⟨q1, q2, [u, v], rfl, rfl, SqL.of ((upd_ne (ne_of_none upd_same m2)).trans upd_same), SqL.of upd_same, sv, _, rfl, ?_⟩⟩
        have w2 := Sm.new (o := .lst [u, v]) m2
        refine iteF ?_
        refine ⟨_, rfl, la, cls 19, 19, rfl, by decide, .inl ⟨_, ea.same (Same.trans w1 w2)⟩, D.ok 19 (by decide), fun H9 s9 => ⟨_, rfl, ?_⟩⟩
        refine iteF ?_
        refine ⟨_, rfl, lb, cls 19, 19, rfl, by decide, .inl ⟨_, eb.same (Same.trans (Same.trans w1 w2) s9)⟩, D.ok 19 (by decide), fun H10 s10 => ⟨_, rfl, ?_⟩⟩
        refine iteF ?_
        exact ⟨_, _, rfl, Same.trans s8 (Same.trans (Same.trans w1 w2) (Same.trans s9 s10))⟩
      · rintro σ H8 ⟨x5', x6', rfl, s8⟩
        refine fun aN hN => ?_
        have sN := Sm.new (o := ExO (Value.ref (cls 21)) aN) hN
        exact ⟨aN, cls 21, 21, rfl, by decide, .inr upd_same, D.ok 21 (by decide), fun H9 s9 => q _ (Same.trans (Same.trans sA s8) (Same.trans sN s9))⟩
abbrev st_l_two_right : Stmt := top 50
abbrev nm_l_two_right : List Str := ["_law_one", "_law_other", "_law_error"]
theorem sc_l_two_right : FnScope nm_l_two_right ["_law_one", "_law_other"] (defScope st_l_two_right) := ⟨rfl, rfl, rfl, by decide +kernel, rfl, by decide +kernel, by decide +kernel⟩
theorem ok_two {f : Addr} {fd : FuncData} (F : Fun K "_law_two_right" "_law_two_right" st_l_two_right f fd) (T : Gn mg cls cT cM) (E : Ers P w K mg base cls cM) (D : Flds K cls cT cM)
    (C__law_is_only : COnly P w K mg base cls cT cM) :
    FnOk P w K mg base CX0 3 f fd ["_law_one", "_law_other"] spOne := by
  refine F.ok sc_l_two_right (fun vs H Q E' h => ?_) (fun cdv A outer s H vs Q E' hr h => ?_)
  · obtain ⟨p, u, v, rfl, _⟩ := h
    rfl
  · refine ⟨_, (pss_cons (ps_for PassesOwn.never rfl (pi_tup (pe_tup (pa_cons (pe_e2 E.e_TooMany (hr.mono (by decide)) rfl (pa_cons (pv 0) (pa_cons (pv 1) pa_nil))) (pa_cons (pe_k2 E.e_TooMany (hr.mono (by decide)) rfl (pk_cons (pv 1) (pk_cons (pv 0) pk_nil))) pa_nil)))) (pg_name (i := 2) sc_l_two_right.nd rfl (Or.inl rfl)) (pss_one (ps_if (PW.pt (pw_or (pt_cmpR (op_neSame (Nat.lt_of_le_of_lt (Nat.add_le_add_left (by decide) _) hr.units)) (pe_lst (pa_cons (pe_errF (pv 2)) (pa_cons (pe_errF (pv 2)) pa_nil))) (pe_lst (pa_cons (pv 0) (pa_cons (pv 1) pa_nil))) (nomark _)) (pw_or1 (pt_not (pt_val (pe_cl C__law_is_only (hr.mono (by decide)) rfl (pa_cons (pv 2) (pa_cons pe_int pa_nil)))))))) (pss_one (ps_ret pe_bl)) pss_nil)))
  (pss_cons (ps_for PassesOwn.never rfl (pi_tup (pe_tup (pa_cons (pe_e2 E.e_BadText (hr.mono (by decide)) rfl (pa_cons (pv 0) (pa_cons (pv 1) pa_nil))) (pa_cons (pe_k2 E.e_BadText (hr.mono (by decide)) rfl (pk_cons (pv 1) (pk_cons (pv 0) pk_nil))) pa_nil)))) (pg_name (i := 2) sc_l_two_right.nd rfl (Or.inl rfl)) (pss_one (ps_if (PW.pt (pw_or (pt_cmpR (op_neSame (Nat.lt_of_le_of_lt (Nat.add_le_add_left (by decide) _) hr.units)) (pe_lst (pa_cons (pe_errF (pv 2)) (pa_cons (pe_errF (pv 2)) pa_nil))) (pe_lst (pa_cons (pv 0) (pa_cons (pv 1) pa_nil))) (nomark _)) (pw_or1 (pt_not (pt_val (pe_cl C__law_is_only (hr.mono (by decide)) rfl (pa_cons (pv 2) (pa_cons pe_int pa_nil)))))))) (pss_one (ps_ret pe_bl)) pss_nil)))
  (pss_cons (ps_for PassesOwn.never rfl (pi_tup (pe_tup (pa_cons (pe_e2 E.e_BadLine (hr.mono (by decide)) rfl (pa_cons (pv 0) (pa_cons (pv 1) pa_nil))) (pa_cons (pe_k2 E.e_BadLine (hr.mono (by decide)) rfl (pk_cons (pv 1) (pk_cons (pv 0) pk_nil))) pa_nil)))) (pg_name (i := 2) sc_l_two_right.nd rfl (Or.inl rfl)) (pss_one (ps_if (PW.pt (pw_or (pt_cmpR (op_neSame (Nat.lt_of_le_of_lt (Nat.add_le_add_left (by decide) _) hr.units)) (pe_lst (pa_cons (pe_errF (pv 2)) (pa_cons (pe_errF (pv 2)) pa_nil))) (pe_lst (pa_cons (pv 0) (pa_cons (pv 1) pa_nil))) (nomark _)) (pw_or1 (pt_not (pt_val (pe_cl C__law_is_only (hr.mono (by decide)) rfl (pa_cons (pv 2) (pa_cons pe_int pa_nil)))))))) (pss_one (ps_ret pe_bl)) pss_nil)))
  (pss_one (ps_ret pe_bl))))), ?_⟩
    obtain ⟨p, u, v, rfl, gu, gv, q⟩ := h
    have sv : ([u, v] : List V).all sameV = true := by
      rw [List.all_cons, List.all_cons, gu.same, gv.same]
      rfl
    refine ⟨_, rfl, _, rfl, fun a1 K1 _ r1 f1 => ⟨_, rfl, _, rfl, fun a2 K2 _ r2 f2 => ⟨(by show 2 ≤ sizeLine; decide), fun t3 n3 => ?_⟩⟩⟩
    have z3 := Sm.new (o := .tup [V.ref a1, V.ref a2]) n3
    refine ⟨_, rfl, ⟨_, SqT.of upd_same⟩, ?_⟩
    have pr : ∀ (i : Nat) (x : V), ([.ref a1, .ref a2] : List V)[i]? = some x → ∃ la : Addr, x = .ref la ∧ ErrAt (upd K2 t3 (.tup [.ref a1, .ref a2])) la (cls 20) [("most", v), ("what", u)] := by
      intro i x hx
      match i, hx with
      | 0, hx =>
        obtain rfl : V.ref a1 = x := by simpa using hx
        exact ⟨a1, rfl, f1.same (Same.trans r2 z3)⟩
      | 1, hx =>
        obtain rfl : V.ref a2 = x := by simpa using hx
        exact ⟨a2, rfl, f2.same z3⟩
    have sB1 : Same H (upd K2 t3 (.tup [.ref a1, .ref a2])) := Same.trans (Same.refl H) (Same.trans (Same.trans r1 r2) z3)
    generalize hG' : upd K2 t3 (.tup [.ref a1, .ref a2]) = G1 at pr sB1 ⊢
    have hG4 : G1 t3 = some (.tup [V.ref a1, V.ref a2]) := by rw [← hG']; exact upd_same
    clear hG' z3
    refine for_it (walk_tup (xs := [V.ref a1, V.ref a2])) (fun i σ H' => ∃ x2, σ = [some u, some v, x2] ∧ Same G1 H') ⟨_, rfl, Same.refl _⟩ (fun i σ H2 _ ⟨_, _, s⟩ => SqT.of (s _ _ hG4)) ?_ ?_
    · rintro i x σ H8 H8' hi ⟨x2', rfl, s8⟩ ⟨rfl, hx⟩
      obtain ⟨la, rfl, ea⟩ := pr i x hx
      have ea := ea.same s8
      refine ⟨_, rfl, la, cls 20, _, u, rfl, D.xf 20 (by decide), D.no20, ea, rfl, _, rfl, la, cls 20, _, v, rfl, D.xf 20 (by decide), D.no20b, ea, rfl, (by show 2 ≤ sizeLine; decide), fun q1 m1 => ?_⟩
      have w1 := Sm.new (o := .lst [u, v]) m1
      refine ⟨_, rfl, _, rfl, (by show 2 ≤ sizeLine; decide), fun q2 m2 => ⟨q1, q2, [u, v], rfl, rfl, SqL.of ((upd_ne (ne_of_none upd_same m2)).trans upd_same), SqL.of upd_same, sv, _, rfl, ?_⟩⟩
      have w2 := Sm.new (o := .lst [u, v]) m2
      refine iteF ?_
      refine ⟨_, rfl, la, cls 20, 20, rfl, by decide, .inl ⟨_, ea.same (Same.trans w1 w2)⟩, D.ok 20 (by decide), fun H9 s9 => ⟨_, rfl, ?_⟩⟩
      refine iteF ?_
      exact ⟨_, rfl, Same.trans s8 (Same.trans (Same.trans w1 w2) s9)⟩
    · rintro σ H8 ⟨x2', rfl, s8⟩
      have sC1 := Same.trans sB1 s8
      clear pr hG4
      refine ⟨_, rfl, _, rfl, fun a1 K1 _ r1 f1 => ⟨_, rfl, _, rfl, fun a2 K2 _ r2 f2 => ⟨(by show 2 ≤ sizeLine; decide), fun t3 n3 => ?_⟩⟩⟩
      have z3 := Sm.new (o := .tup [V.ref a1, V.ref a2]) n3
      refine ⟨_, rfl, ⟨_, SqT.of upd_same⟩, ?_⟩
      have pr : ∀ (i : Nat) (x : V), ([.ref a1, .ref a2] : List V)[i]? = some x → ∃ la : Addr, x = .ref la ∧ ErrAt (upd K2 t3 (.tup [.ref a1, .ref a2])) la (cls 22) [("item", v), ("line", u)] := by
        intro i x hx
        match i, hx with
        | 0, hx =>
          obtain rfl : V.ref a1 = x := by simpa using hx
          exact ⟨a1, rfl, f1.same (Same.trans r2 z3)⟩
        | 1, hx =>
          obtain rfl : V.ref a2 = x := by simpa using hx
          exact ⟨a2, rfl, f2.same z3⟩
      have sB2 : Same H (upd K2 t3 (.tup [.ref a1, .ref a2])) := Same.trans sC1 (Same.trans (Same.trans r1 r2) z3)
      generalize hG' : upd K2 t3 (.tup [.ref a1, .ref a2]) = G2 at pr sB2 ⊢
      have hG4 : G2 t3 = some (.tup [V.ref a1, V.ref a2]) := by rw [← hG']; exact upd_same
      clear hG' z3
      refine for_it (walk_tup (xs := [V.ref a1, V.ref a2])) (fun i σ H' => ∃ x2, σ = [some u, some v, x2] ∧ Same G2 H') ⟨_, rfl, Same.refl _⟩ (fun i σ H2 _ ⟨_, _, s⟩ => SqT.of (s _ _ hG4)) ?_ ?_
      · rintro i x σ H8 H8' hi ⟨x2', rfl, s8⟩ ⟨rfl, hx⟩
        obtain ⟨la, rfl, ea⟩ := pr i x hx
        have ea := ea.same s8
        refine ⟨_, rfl, la, cls 22, _, u, rfl, D.xf 22 (by decide), D.no22, ea, rfl, _, rfl, la, cls 22, _, v, rfl, D.xf 22 (by decide), D.no22b, ea, rfl, (by show 2 ≤ sizeLine; decide), fun q1 m1 => ?_⟩
        have w1 := Sm.new (o := .lst [u, v]) m1
        refine ⟨_, rfl, _, rfl, (by show 2 ≤ sizeLine; decide), fun q2 m2 => ⟨q1, q2, [u, v], rfl, rfl, SqL.of ((upd_ne (ne_of_none upd_same m2)).trans upd_same), SqL.of upd_same, sv, _, rfl, ?_⟩⟩
        have w2 := Sm.new (o := .lst [u, v]) m2
        refine iteF ?_
        refine ⟨_, rfl, la, cls 22, 22, rfl, by decide, .inl ⟨_, ea.same (Same.trans w1 w2)⟩, D.ok 22 (by decide), fun H9 s9 => ⟨_, rfl, ?_⟩⟩
        refine iteF ?_
        exact ⟨_, rfl, Same.trans s8 (Same.trans (Same.trans w1 w2) s9)⟩
      · rintro σ H8 ⟨x2', rfl, s8⟩
        have sC2 := Same.trans sB2 s8
        clear pr hG4
        refine ⟨_, rfl, _, rfl, fun a1 K1 _ r1 f1 => ⟨_, rfl, _, rfl, fun a2 K2 _ r2 f2 => ⟨(by show 2 ≤ sizeLine; decide), fun t3 n3 => ?_⟩⟩⟩
        have z3 := Sm.new (o := .tup [V.ref a1, V.ref a2]) n3
        refine ⟨_, rfl, ⟨_, SqT.of upd_same⟩, ?_⟩
        have pr : ∀ (i : Nat) (x : V), ([.ref a1, .ref a2] : List V)[i]? = some x → ∃ la : Addr, x = .ref la ∧ ErrAt (upd K2 t3 (.tup [.ref a1, .ref a2])) la (cls 23) [("error", v), ("line", u)] := by
          intro i x hx
          match i, hx with
          | 0, hx =>
            obtain rfl : V.ref a1 = x := by simpa using hx
            exact ⟨a1, rfl, f1.same (Same.trans r2 z3)⟩
          | 1, hx =>
            obtain rfl : V.ref a2 = x := by simpa using hx
            exact ⟨a2, rfl, f2.same z3⟩
        have sB3 : Same H (upd K2 t3 (.tup [.ref a1, .ref a2])) := Same.trans sC2 (Same.trans (Same.trans r1 r2) z3)
        generalize hG' : upd K2 t3 (.tup [.ref a1, .ref a2]) = G3 at pr sB3 ⊢
        have hG4 : G3 t3 = some (.tup [V.ref a1, V.ref a2]) := by rw [← hG']; exact upd_same
        clear hG' z3
        refine for_it (walk_tup (xs := [V.ref a1, V.ref a2])) (fun i σ H' => ∃ x2, σ = [some u, some v, x2] ∧ Same G3 H') ⟨_, rfl, Same.refl _⟩ (fun i σ H2 _ ⟨_, _, s⟩ => SqT.of (s _ _ hG4)) ?_ ?_
        · rintro i x σ H8 H8' hi ⟨x2', rfl, s8⟩ ⟨rfl, hx⟩
          obtain ⟨la, rfl, ea⟩ := pr i x hx
          have ea := ea.same s8
          refine ⟨_, rfl, la, cls 23, _, u, rfl, D.xf 23 (by decide), D.no23, ea, rfl, _, rfl, la, cls 23, _, v, rfl, D.xf 23 (by decide), D.no23b, ea, rfl, (by show 2 ≤ sizeLine; decide), fun q1 m1 => ?_⟩
          have w1 := Sm.new (o := .lst [u, v]) m1
          refine ⟨_, rfl, _, rfl, (by show 2 ≤ sizeLine; decide), fun q2 m2 => ⟨q1, q2, [u, v], rfl, rfl, SqL.of ((upd_ne (ne_of_none upd_same m2)).trans upd_same), SqL.of upd_same, sv, _, rfl, ?_⟩⟩
          have w2 := Sm.new (o := .lst [u, v]) m2
          refine iteF ?_
          refine ⟨_, rfl, la, cls 23, 23, rfl, by decide, .inl ⟨_, ea.same (Same.trans w1 w2)⟩, D.ok 23 (by decide), fun H9 s9 => ⟨_, rfl, ?_⟩⟩
          refine iteF ?_
          exact ⟨_, rfl, Same.trans s8 (Same.trans (Same.trans w1 w2) s9)⟩
        · rintro σ H8 ⟨x2', rfl, s8⟩
          have sC3 := Same.trans sB3 s8
          clear pr hG4
          exact q _ sC3
end
end K0
namespace K0
open PySem PySem.Spec PyProof.Rows L2
section
variable {X : Cx} {k k' : Nat} {x : Str} {st : Stmt} {ps ks : List Str} {sp : Sp} {p pos : Pos} {e : Expr} {es : List Expr} {t tk : TA} {kws : List Keyword} {g : List Value → List Value → List Value} {gV : List V → List V → List V}
def tCallK0 (sp : Sp) (gV : List V → List V → List V) (E : XK) (tk : TA) : TE := fun σ H Q => tk σ H fun zs H2 => sp (gV [] zs) H2 Q E
/-- f(k = e, ..) -/
theorem pe_clK0 (C : Cal X.prog X.w X.K X.mg X.base k x st ps sp) (kb : ∀ {f fd}, Fun X.K x x st f fd → KBinds X.K fd ps ks g gV) (hr : Room k X.A) (hg : Gl X x) (hkw : PK X kws tk)
    (hall : (backToKw pos (keywordEach kws X.env)).all (·.1.isSome) = true := by rfl) (hks : (backToKw pos (keywordEach kws X.env)).filterMap (·.1) = ks := by rfl)
    (hdb : (x == ("__debug__" : Str)) = false := by decide) (hpl : ((backTo pos (starEach [] X.env)).any (·.1) || (backToKw pos (keywordEach kws X.env)).any (·.1.isNone)) = false := by rfl) :
    PE X (.Call (.Name x p) [] kws pos) (tCallK0 sp gV E0 tk) := by
  obtain ⟨f, fd, F, hm, hb, G⟩ := C.ex
  refine ⟨fun pins s σ H Q I h => ?_⟩
  refine wpAny_Call_Name_kw (ld_glob I hg hm ?_ hdb)
  refine PySem.W.callWith_KW0 (h₀ := X.base) I.ok.mod.kin F.kp hall (thn (hkw.run pos pins s σ H _ I h) fun ws s1 ⟨zs, H1, I1, rz, q1⟩ => ⟨I1.kIn, ?_⟩) hpl
  rw [hks]
  exact run_fnk G hr (kb F) pass0 I1 .nil rz q1
/-- f(e, .., k = e, ..) -/
theorem pe_clK (C : Cal X.prog X.w X.K X.mg X.base k x st ps sp) (kb : ∀ {f fd}, Fun X.K x x st f fd → KBinds X.K fd ps ks g gV) (hr : Room k X.A) (hg : Gl X x) (ha : PA X (e :: es) t) (hkw : PK X kws tk)
    (hall : (backToKw pos (keywordEach kws X.env)).all (·.1.isSome) = true := by rfl) (hks : (backToKw pos (keywordEach kws X.env)).filterMap (·.1) = ks := by rfl)
    (hdb : (x == ("__debug__" : Str)) = false := by decide) (he : starEach (e :: es) X.env = (false, eval e X.env) :: starEach es X.env := by rfl)
    (hpl : ((backTo pos (starEach (e :: es) X.env)).any (·.1) || (backToKw pos (keywordEach kws X.env)).any (·.1.isNone)) = false := by rfl) :
    PE X (.Call (.Name x p) (e :: es) kws pos) (tCallK sp gV E0 t tk) := by
  obtain ⟨f, fd, F, hm, hb, G⟩ := C.ex
  exact pe_callK G hr hg hm F.kp (kb F) pass0 ha hkw hall hks hdb he hpl
/-! ### text[::-1] -/
def tRevS (te : TE) : TE := fun σ H Q => te σ H fun x H1 => ∃ l : List Nat, x = .str (Tx l) ∧ l.length ≤ 1000 ∧ Q (.str (Tx l.reverse)) H1
theorem rev_pick (l : List Nat) : (Builtin.Str.strSliceIndices none none (-1) l.length).filterMap (l.toArray[·]?) = l.reverse := by
  rw [PyProof.Rows.picked_rev]
  apply List.ext_getElem?
  intro i
  rw [List.filterMap_map]
  have e : ∀ n, n ≤ l.length → (List.range n).filterMap ((fun x => l.toArray[x]?) ∘ fun k => l.length - 1 - k) = (l.reverse.take n) := by
    intro n
    induction n with
    | zero => intro _; rfl
    | succ n ih =>
      intro hn
      rw [List.range_succ, List.filterMap_append, ih (by omega), List.take_succ]
      congr 1
      have h1 : l.length - 1 - n < l.length := by omega
      have h2 : n < l.reverse.length := by rw [List.length_reverse]; omega
      simp [h1, h2, List.getElem?_reverse, show n < l.length by omega]
  rw [e _ (Nat.le_refl _), ← List.length_reverse, List.take_length]
theorem pe_revS {e : Expr} {te : TE} {k : Nat} {p1 p2 p3 pos : Pos} (he : PE X e te) : PE X (.Subscript e (.Slice none none (some (.UnaryOp .USub (.Constant (.int 1) k p1) p2)) p3) pos) (tRevS te) := by
  refine ⟨fun pins s σ H Q I h => ?_⟩
  refine Subscript_ (thn (he.run pins s σ H _ I h) fun v s1 ⟨x, H1, I1, r1, q1⟩ => ?_)
  obtain ⟨l, ex, hl, q⟩ := q1
  subst ex
  obtain ⟨t, rfl⟩ := (show ∃ t, v = Value.str (Tx l) t from r1)
  have hst : PO X (some (.UnaryOp .USub (.Constant (.int 1) k p1) p2)) (tPart (tUn (rU fun i => .int (-i)) (tC (.int 1)))) := po_some (pe_un un_neg pe_int)
  refine wpAny_Slice (thn (po_none.run pins s1 σ H1 (fun o H2 => o = none ∧ H2 = H1) I1 ⟨rfl, rfl⟩) fun vl s2 ⟨lo, H2, I2, pl, el, e2⟩ => ?_)
  subst el e2
  refine thn (po_none.run pins s2 σ H2 (fun o H3 => o = none ∧ H3 = H2) I2 ⟨rfl, rfl⟩) fun vu s3 ⟨u, H3, I3, pu, eu, e3⟩ => ?_
  subst eu e3
  refine thn (hst.run pins s3 σ H3 (fun o H4 => o = some (-1) ∧ H4 = H3) I3 ⟨1, rfl, -1, rfl, rfl, rfl⟩) fun vs s4 ⟨o, H4, I4, ps, eo, e4⟩ => ?_
  subst eo e4
  have I5 : Inv X pins σ H4 { s4 with heap := s4.heap.push { cls := .type "slice", data := .fields #[vl, vu, vs] } } := I4.kept (t' := s4.toks) fun b ob q => Heap.get?_push_of_some _ q
  show wpAny (model X.prog X.w) X.A (subscriptTail e (.Slice none none (some (.UnaryOp .USub (.Constant (.int 1) k p1) p2)) p3) (.str (Tx l) t) (.ref s4.heap.objs.size)) (EP X pins σ Q) X.xe { s4 with heap := s4.heap.push { cls := .type "slice", data := .fields #[vl, vu, vs] } }
  refine tail_any (ops := [.str (Tx l) t, .ref s4.heap.objs.size]) (typeIs_str _ _ _) F.slot_str_getitem.lookup ?_ (by with_unfolding_all rfl)
  obtain ⟨l0, rfl, e1⟩ := IsPart.raw pl
  obtain ⟨u0, rfl, e2⟩ := IsPart.raw pu
  obtain ⟨o0, rfl, e3⟩ := IsPart.raw ps
  cases l0 with
  | some z => cases e1
  | none =>
    cases u0 with
    | some z => cases e2
    | none =>
      cases o0 with
      | none => cases e3
      | some z =>
        obtain ⟨z, tz⟩ := z
        have ez : z = -1 := by simpa using e3
        subst ez
        refine wpAny_getItem_str_slice (l := none) (u := none) (st := some (-1, tz)) ⟨_, Heap.get?_push_size _ rfl, rfl, rfl⟩ rfl ?_
        show Made.post (if ((-1 : Int) == 1 && (Builtin.Str.strSliceIndices none none (-1) (Tx l).length).length == (Tx l).length) = true then Made.val (.str (Tx l) t)
          else Made.str ⟨((Builtin.Str.strSliceIndices none none (-1) (Tx l).length).filterMap ((Tx l).cps[·]?)).toArray⟩) (EP X pins σ Q) _
        rw [if_neg (by simp)]
        have e : (Builtin.Str.strSliceIndices none none (-1) (Tx l).length).filterMap ((Tx l).cps[·]?) = l.reverse := by
          rw [tx_len]
          exact rev_pick l
        rw [e]
        refine ⟨?_, .str _, H4, I5.tok _, ⟨_, rfl⟩, q⟩
        show (Tx l.reverse).length ≤ sizeLine
        rw [tx_len, List.length_reverse]
        exact Nat.le_trans hl (by decide)
end
/-! ### lists made turn by turn while the pen is dipped -/
def LPv (p : Addr) (H1 : Hp) (D : Addr) (T : Nat) (G : V → Prop) (i : Nat) (H : Hp) : Prop := KB p H1 H ∧ PenAt H p (T + i) ∧ ∃ acc, H D = some (.lst acc) ∧ acc.length = i ∧ ∀ v ∈ acc, G v
theorem PenAt.upd {p D : Addr} {H1 H : Hp} {T0 T : Nat} {o : HO} (h0 : PenAt H1 p T0) (hD : H1 D = none) (k : KB p H1 H) (h : PenAt H p T) : PenAt (upd H D o) p T := by
  have hDp := h0.ne hD
  obtain ⟨l, ns, t, r, a, b, c, d, e, f, g⟩ := h
  obtain ⟨l0, ns0, t0, r0, a0, b0, _⟩ := h0
  obtain ⟨x', y', a1⟩ := k.kp _ _ _ a0
  rw [a] at a1
  have el : l = l0 := by injection a1 with a1; injection a1 with a1; injection a1 with a1 _; injection a1
  have hlD : l ≠ D := fun z => by
    rw [← el, z, hD] at b0
    cases b0
  exact ⟨l, ns, t, r, (upd_ne hDp.symm).trans a, (upd_ne hlD).trans b, c, d, e, f, g⟩
theorem KB.upd {p D : Addr} {H1 H : Hp} {o : HO} (hDp : D ≠ p) (hD : H1 D = none) (k : KB p H1 H) : KB p H1 (upd H D o) :=
  ⟨fun b u n e => (upd_ne (ne_of_none e hD)).trans (k.kb b u n e), fun l x y e => by
    obtain ⟨x', y', e'⟩ := k.kp l x y e
    exact ⟨x', y', (upd_ne hDp.symm).trans e'⟩⟩
theorem lpv0 {p D : Addr} {H1 : Hp} {T : Nat} {G : V → Prop} (hp : PenAt H1 p T) (hD : H1 D = none) : LPv p H1 D T G 0 (upd H1 D (.lst [])) :=
  ⟨KB.sm (Sm.new hD), hp.sm (Sm.new hD), [], upd_same, rfl, fun v hv => by simp at hv⟩
theorem lpv_put {p D : Addr} {H1 H H' : Hp} {T T0 i : Nat} {G : V → Prop} {y : V} (hp : PenAt H1 p T0) (hD : H1 D = none) (h : LPv p H1 D T G i H) (k : KB p H H') (h' : PenAt H' p (T + i + 1)) (hi : i < 100000) (g : G y) :
    ∃ acc, H' D = some (.lst acc) ∧ acc.length < sizeLine ∧ LPv p H1 D T G (i + 1) (L2.upd H' D (.lst (acc ++ [y]))) := by
  obtain ⟨k0, _, acc, e, hl, ha⟩ := h
  have hDp := hp.ne hD
  have kk := KB.trans k0 k
  refine ⟨acc, k.kb _ _ hDp e, ?_, kk.upd hDp hD, hp.upd hD kk h', acc ++ [y], upd_same, by rw [List.length_append, hl]; rfl, fun v hv => ?_⟩
  · rw [hl, sizeLine_eq]
    omega
  · rcases List.mem_append.mp hv with hv | hv
    · exact ha v hv
    · rw [List.mem_singleton.mp hv]
      exact g
/-! ### kinds -/
section
variable {K : PySem.W.Frag} {p : Addr} {H H' : Hp}
/-- a value that is no number, as one is drawn -/
def OddV (p : Addr) (H : Hp) (o : V) : Prop := (o = .non ∨ (∃ b, o = .bl b) ∨ ∃ z, o = .str z) ∨ ∃ a, o = .ref a ∧ a ≠ p ∧ (H a = some (.lst [.int 1]) ∨ H a = some (.tup [.int 1]) ∨ H a = some (.dK []))
theorem OddV.kb {o : V} (h : OddV p H o) (k : KB p H H') : OddV p H' o := by
  rcases h with h | ⟨a, e, n, h | h | h⟩
  · exact .inl h
  · exact .inr ⟨a, e, n, .inl (k.kb _ _ n h)⟩
  · exact .inr ⟨a, e, n, .inr (.inl (k.kb _ _ n h))⟩
  · exact .inr ⟨a, e, n, .inr (.inr (k.kb _ _ n h))⟩
theorem OddV.kd {o : V} (h : OddV p H o) : ∃ n, Kd K H o n ∧ (n == "int") = false ∧ ((n == "list" || n == "tuple") = false ∨ ((n == "list" || n == "tuple") = true ∧ ∃ a, o = .ref a ∧ SqLT K H a [.int 1])) := by
  rcases h with (rfl | ⟨b, rfl⟩ | ⟨z, rfl⟩) | ⟨a, rfl, n, h | h | h⟩
  · exact ⟨"NoneType", ⟨.base .non, by decide⟩, by decide, .inl (by decide)⟩
  · exact ⟨"bool", ⟨.base (.bl b), by decide⟩, by decide, .inl (by decide)⟩
  · exact ⟨"str", ⟨.base (.str z), by decide⟩, by decide, .inl (by decide)⟩
  · exact ⟨"list", ⟨.base (.lst h), by decide⟩, by decide, .inr ⟨by decide, a, rfl, .inl (SqL.of h)⟩⟩
  · exact ⟨"tuple", ⟨.base (.tup h), by decide⟩, by decide, .inr ⟨by decide, a, rfl, .inr (SqT.of h)⟩⟩
  · exact ⟨"dict", ⟨.base (.dK h), by decide⟩, by decide, .inl (by decide)⟩
theorem kds_ints (ns : List Int) : Kds K H (ns.map V.int) (ns.map fun _ => "int") := ⟨by simp, fun i x e => by
  rw [List.getElem?_map] at e
  obtain ⟨n, hn, rfl⟩ := Option.map_eq_some_iff.mp e
  have hi := (List.getElem?_eq_some_iff.mp hn).1
  have e2 : (ns.map fun _ => "int").getD i "" = "int" := by simp [List.getD, hi]
  rw [e2]
  exact kd_int⟩
theorem kds_app {xs ys : List V} {ks ls : List String} (a : Kds K H xs ks) (b : Kds K H ys ls) : Kds K H (xs ++ ys) (ks ++ ls) := ⟨by rw [List.length_append, List.length_append, a.1, b.1], fun i x e => by
  by_cases c : i < xs.length
  · rw [List.getElem?_append_left c] at e
    have := a.2 i x e
    rw [List.getD_eq_getElem?_getD, List.getElem?_append_left (by rw [← a.1]; exact c), ← List.getD_eq_getElem?_getD]
    exact this
  · rw [List.getElem?_append_right (by omega)] at e
    have := b.2 _ x e
    rw [List.getD_eq_getElem?_getD, List.getElem?_append_right (by rw [← a.1]; omega), ← a.1, ← List.getD_eq_getElem?_getD]
    exact this⟩
theorem kds_one {x : V} {n : String} (h : Kd K H x n) : Kds K H [x] [n] := ⟨rfl, fun i y e => by
  match i, e with
  | 0, e =>
    obtain rfl : x = y := by simpa using e
    exact h⟩
end
end K0
namespace K0
open PySem PySem.Spec PyProof.Rows L2
theorem neD_same {K : PySem.W.Frag} {H : Hp} {Q : VK} {a b : Addr} {xs : List V} (h1 : SqL K H a xs) (h2 : SqL K H b xs) (ok : xs.all datOk = true) (q : Q (.bl false) H) : rNeD K (.ref a) (.ref b) H Q := by
  refine ⟨.list (xs.map datV), .list (xs.map datV), .lst h1 (dp_all ok), .lst h2 (dp_all ok), dat_shaped ok, dat_shaped ok, ?_⟩
  rw [SeqAt.eqv_refl _ (SeqAt.canLay_of_shaped (dat_shaped ok))]
  exact q
theorem eqD_same {K : PySem.W.Frag} {H : Hp} {Q : VK} {a b : Addr} {xs : List V} (h1 : SqL K H a xs) (h2 : SqL K H b xs) (ok : xs.all datOk = true) (q : Q (.bl true) H) : rEqD K (.ref a) (.ref b) H Q := by
  refine ⟨.list (xs.map datV), .list (xs.map datV), .lst h1 (dp_all ok), .lst h2 (dp_all ok), dat_shaped ok, dat_shaped ok, ?_⟩
  rw [SeqAt.eqv_refl _ (SeqAt.canLay_of_shaped (dat_shaped ok))]
  exact q
theorem chain_le {i j : Nat} {b lo hi : Int} {σ : L2.St} {H : Hp} {Q : VK} (h1 : σ[i]? = some (some (.int lo))) (h2 : σ[j]? = some (some (.int hi))) (q : Q (.bl (decide (lo ≤ b) && decide (b ≤ hi))) H) :
    tChain (rI0 fun i j => .bl (decide (i ≤ j))) (rI0 fun i j => .bl (decide (i ≤ j))) (tVar i) (tC (.int b)) (tVar j) σ H Q := by
  refine ⟨_, h1, _, _, rfl, rfl, _, rfl, ?_⟩
  refine ite2 (fun c => ?_) (fun c => ?_)
  · refine ⟨_, h2, _, _, rfl, rfl, ?_⟩
    rw [c, Bool.true_and] at q
    exact q
  · rw [Bool.eq_false_iff.mpr c, Bool.false_and] at q
    exact q
theorem kit_lt {K : PySem.W.Frag} {n : String} (hn : n ∈ ["NoneType", "bool", "int", "str", "list", "tuple", "dict"]) : PySem.W.kitAny K (.type n) [.type "list", .type "tuple"] = some (n == "list" || n == "tuple") := by
  obtain ⟨_, _, _, k4, k5⟩ := kd_kit (K := K) hn
  refine kitAny_cons k4 (fun e => ?_) (fun e => by rw [e]; rfl)
  rw [e, Bool.false_or]
  exact kitAny_cons k5 (fun e2 => by rw [e2]; exact kitAny_nil) (fun e2 => e2)
theorem num_odd {K : PySem.W.Frag} {p : Addr} {H : Hp} {o : V} (h : OddV p H o) : ∃ n, Kd K H o n ∧ (n == "int") = false ∧ ∀ (Q : VK) (E : XK), (∀ H', Same H H' → Q (.bl (n == "list" || n == "tuple")) H') → spIsNumbers K [o] H Q E := by
  obtain ⟨n, kd, hn, hb | ⟨hb, a, rfl, hS⟩⟩ := h.kd (K := K)
  · exact ⟨n, kd, hn, fun Q E q => ⟨o, n, rfl, kd, .inl ⟨hb, fun H' s => by have := q H' s; rw [hb] at this; exact this⟩⟩⟩
  · exact ⟨n, kd, hn, fun Q E q => ⟨_, n, rfl, kd, .inr ⟨hb, a, [.int 1], ["int"], rfl, hS, by decide, kds_ints [1], fun H' s => by have := q H' s; rw [hb] at this; exact this⟩⟩⟩
theorem ints_of : ∀ (acc : List V), (∀ v ∈ acc, ∃ z : Int, v = .int z) → ∃ ns : List Int, acc = ns.map V.int
  | [], _ => ⟨[], rfl⟩
  | v :: r, h => by
    obtain ⟨z, rfl⟩ := h v List.mem_cons_self
    obtain ⟨ns, e⟩ := ints_of r fun v hv => h v (List.mem_cons_of_mem _ hv)
    exact ⟨z :: ns, by rw [e]; rfl⟩
theorem all_int (ns : List Int) : ((ns.map fun _ => "int").all fun x => x == "int") = true := List.all_eq_true.mpr fun x hx => by
  obtain ⟨_, _, rfl⟩ := List.mem_map.mp hx
  decide
theorem callSp {sp : Sp} {σ : L2.St} {H : Hp} {Q : VK} {x : V} (h : sp [x] H Q E0) : tNil σ H (fun xs H2 => sp ((x :: xs) ++ []) H2 Q E0) := h
theorem cut_ints (ns : List Int) (lo hi : Option Int) : ∃ ms : List Int, cutV (ns.map V.int) lo hi = ms.map V.int ∧ ms.length ≤ ns.length := by
  unfold cutV
  rw [List.length_map, ← List.map_drop, ← List.map_take]
  exact ⟨_, rfl, by rw [List.length_take, List.length_drop]; omega⟩
section
variable {P : Program} {w : World} {K : PySem.W.Frag} {mg : Str → Option Value} {base : Heap}
abbrev CPick (P : Program) (w : World) (K : PySem.W.Frag) (mg : Str → Option Value) (base : Heap) : Prop := Cal P w K mg base 2 "_law_pick" st_l_pick ["_law_pen_here", "_law_some"] (spPick K)
abbrev st_l_integers_right : Stmt := top 51
abbrev nm_l_integers_right : List Str := ["_law_pen_here", "_law_number", "_law_odd", "_law_told", "_law_row", "_law_at", "_law_low", "_law_high", "_law_turn"]
theorem sc_l_integers_right : FnScope nm_l_integers_right ["_law_pen_here"] (defScope st_l_integers_right) := ⟨rfl, rfl, rfl, by decide +kernel, rfl, by decide +kernel, by decide +kernel⟩
def spPart (K : PySem.W.Frag) : Sp := fun vs H Q _ => ∃ (p : Addr) (T : Nat), vs = [.ref p] ∧ PenAt H p T ∧ T < 900000 ∧ ∀ H', KB p H H' → PenAt H' p (T + 100) → Q (.bl true) H'
theorem ok_integers {f : Addr} {fd : FuncData} (F : Fun K "_law_integers_right" "_law_integers_right" st_l_integers_right f fd) (T : Blt mg) (C__law_draw : CDraw P w K mg base) (C__law_pick : CPick P w K mg base)
    (C_is_integer : Cal P w K mg base 1 "is_integer" st_is_integer ["value"] (spIsInteger K)) (C_is_within : Cal P w K mg base 2 "is_within" st_is_within ["value", "least", "most"] (spIsWithin K))
    (C_is_numbers : Cal P w K mg base 2 "is_numbers" st_is_numbers ["value"] (spIsNumbers K)) :
    FnOk P w K mg base CX0 3 f fd ["_law_pen_here"] (spPart K) := by
  refine F.ok sc_l_integers_right (fun vs H Q E h => ?_) (fun cdv A outer s H vs Q E hr h => ?_)
  · obtain ⟨p, T, rfl, _⟩ := h
    rfl
  · refine ⟨_, (pss_cons (ps_set (i := 1) sc_l_integers_right.nd rfl (Or.inl rfl) (pe_cl C__law_pick (hr.mono (by decide)) rfl (pa_cons (pv 0) (pa_cons (pe_lst (pa_cons pe_int (pa_cons pe_int (pa_cons (pe_un un_neg pe_int) (pa_cons (pe_op op_pow pe_int pe_int) (pa_cons (pe_un un_neg (pe_op op_pow pe_int pe_int)) (pa_cons (pe_cl C__law_draw (hr.mono (by decide)) rfl (pa_cons (pv 0) (pa_cons pe_int pa_nil))) pa_nil))))))) pa_nil))))
  (pss_cons (ps_set (i := 2) sc_l_integers_right.nd rfl (Or.inl rfl) (pe_cl C__law_pick (hr.mono (by decide)) rfl (pa_cons (pv 0) (pa_cons (pe_lst (pa_cons pe_bl (pa_cons pe_bl (pa_cons pe_non (pa_cons pe_str (pa_cons (pe_lst (pa_cons pe_int pa_nil)) (pa_cons (pe_tup (pa_cons pe_int pa_nil)) (pa_cons pe_dnewK (pa_cons pe_str (pa_cons (pe_cmpR op_eq (pv 1) pe_int (nomark _)) pa_nil)))))))))) pa_nil))))
  (pss_cons (ps_if (PW.pt (pw_or (pt_cmpR (op_neD hr.units) (pe_lst (pa_cons (pe_clK0 C_is_integer (fun F => kb1 F fun _ _ _ _ _ _ _ => rfl) (hr.mono (by decide)) rfl (pk_cons (pv 1) pk_nil)) (pa_cons (pe_cl C_is_integer (hr.mono (by decide)) rfl (pa_cons (pv 2) pa_nil)) pa_nil))) (pe_lst (pa_cons pe_bl (pa_cons pe_bl pa_nil))) (nomark _)) (pw_or (pt_val (pe_cl C_is_within (hr.mono (by decide)) rfl (pa_cons (pv 2) (pa_cons pe_non (pa_cons pe_non pa_nil))))) (pw_or1 (pt_val (pe_clK C_is_within (fun F => kb3p F fun _ _ _ _ _ _ _ _ _ => rfl) (hr.mono (by decide)) rfl (pa_cons (pv 2) pa_nil) (pk_cons pe_int (pk_cons pe_int pk_nil)))))))) (pss_one (ps_ret pe_bl)) pss_nil)
  (pss_cons (ps_par (i := 6) (j := 7) rfl sc_l_integers_right.nd rfl rfl (by decide) rfl rfl (pa_cons (pe_op op_sub (pe_cl C__law_draw (hr.mono (by decide)) rfl (pa_cons (pv 0) (pa_cons pe_int pa_nil))) pe_int) (pa_cons (pe_op op_sub (pe_cl C__law_draw (hr.mono (by decide)) rfl (pa_cons (pv 0) (pa_cons pe_int pa_nil))) pe_int) pa_nil)) rfl)
  (pss_cons (ps_set (i := 3) sc_l_integers_right.nd rfl (Or.inl rfl) (pe_lst (pa_cons (pe_cl C_is_within (hr.mono (by decide)) rfl (pa_cons (pv 1) (pa_cons (pe_op op_add (pv 1) (pv 6)) (pa_cons (pe_op op_add (pv 1) (pv 7)) pa_nil)))) (pa_cons (pe_clK0 C_is_within (fun F => kb3 F fun _ _ _ _ _ _ _ _ _ => rfl) (hr.mono (by decide)) rfl (pk_cons (pv 1) (pk_cons pe_non (pk_cons (pe_op op_add (pv 1) (pv 7)) pk_nil)))) (pa_cons (pe_cl C_is_within (hr.mono (by decide)) rfl (pa_cons (pv 1) (pa_cons (pe_op op_add (pv 1) (pv 6)) (pa_cons pe_non pa_nil)))) pa_nil)))))
  (pss_cons (ps_if (PW.pt (pw_or (pt_cmpR (op_neD hr.units) (pv 3) (pe_lst (pa_cons (pe_chain op_le op_le (pv 6) pe_int (pv 7)) (pa_cons (pe_cmpR op_le pe_int (pv 7) (nomark _)) (pa_cons (pe_cmpR op_le (pv 6) pe_int (nomark _)) pa_nil)))) (nomark _)) (pw_or1 (pt_cmpR op_isnot_bl (pe_cl C_is_within (hr.mono (by decide)) rfl (pa_cons (pv 1) (pa_cons pe_non (pa_cons pe_non pa_nil)))) pe_bl (nomark _))))) (pss_one (ps_ret pe_bl)) pss_nil)
  (pss_cons (ps_setLc (i := 4) (own := [("_law_turn", 8)]) (g := (gName 8)) (tt := tYes) rfl sc_l_integers_right.nd rfl rfl (sw_true rfl rfl rfl (by decide +kernel)) (pi_range1 rfl T.n_range (pa_cons (pe_cl C__law_draw (hr.mono (by decide)) rfl (pa_cons (pv 0) (pa_cons pe_int pa_nil))) pa_nil)) (blkOk_by (N := nm_l_integers_right) (sc := defScope st_l_integers_right) (own := [("_law_turn", 8)]) (by decide +kernel)) (fun _ _ _ _ _ => by exact pg_name (i := 8) sc_l_integers_right.nd rfl (Or.inl rfl)) (fun _ _ _ _ _ => pts_nil) (fun _ _ _ _ _ => (pe_op op_sub (pe_cl C__law_draw (hr.mono (by decide)) rfl (pa_cons (pv 0) (pa_cons pe_int pa_nil))) pe_int)))
  (pss_cons (ps_set (i := 5) sc_l_integers_right.nd rfl (Or.inl rfl) (pe_cl C__law_draw (hr.mono (by decide)) rfl (pa_cons (pv 0) (pa_cons (pe_op op_add (pe_callB call_len_seq (by rfl) T.n_len (by decide +kernel) (pa_cons (pv 4) pa_nil)) pe_int) pa_nil))))
  (pss_cons (ps_if (PW.pt (pw_or (pt_not (pt_val (pe_cl C_is_numbers (hr.mono (by decide)) rfl (pa_cons (pv 4) pa_nil)))) (pw_or (pt_not (pt_val (pe_clK0 C_is_numbers (fun F => kb1 F fun _ _ _ _ _ _ _ => rfl) (hr.mono (by decide)) rfl (pk_cons (pe_callTy call_tuple_of (by rfl) T.n_tuple (by decide +kernel) (pa_cons (pv 4) pa_nil)) pk_nil)))) (pw_or1 (pt_cmpR op_ne (pe_cl C_is_numbers (hr.mono (by decide)) rfl (pa_cons (pv 2) pa_nil)) (pe_callB call_isiT (by rfl) T.n_isinstance (by decide +kernel) (pa_cons (pv 2) (pa_cons (pe_tup (pa_cons (pe_bltn (v := .ty "list") (by rfl) T.n_list (by decide +kernel) rfl) (pa_cons (pe_bltn (v := .ty "tuple") (by rfl) T.n_tuple (by decide +kernel) rfl) pa_nil))) pa_nil))) (nomark _)))))) (pss_one (ps_ret pe_bl)) pss_nil)
  (pss_one (ps_ret (pe_and (pe_not (pe_cl C_is_numbers (hr.mono (by decide)) rfl (pa_cons (pe_op op_cat (pe_op op_cat (pe_slice sl_list (pv 4) po_none (po_some (pv 5))) (pe_lst (pa_cons (pv 2) pa_nil))) (pe_slice sl_list (pv 4) (po_some (pv 5)) po_none)) pa_nil))) (pe_and (pe_not (pe_cl C_is_numbers (hr.mono (by decide)) rfl (pa_cons pe_str pa_nil))) (pe_one (pe_not (pe_cl C_is_numbers (hr.mono (by decide)) rfl (pa_cons (pe_disp (pps_cons pe_int pe_int pps_nil) (by rfl) (by rfl) (fun z => by cases z) (by decide)) pa_nil))))))))))))))))), ?_⟩
    obtain ⟨p, T, rfl, hp, hT, q⟩ := h
    have c30 : CPow 10 30 := ⟨by decide, by decide, by decide⟩
    refine ⟨_, rfl, _, rfl, _, _, rfl, rfl, c30, _, _, rfl, rfl, c30, _, rfl, _, rfl, p, 100, T, rfl, hp, by omega, by decide, by decide, fun H1 v1 kb1 hp1 a1 b1 => ?_⟩
    refine ⟨(by show 6 ≤ sizeLine; decide), fun l1 n1 => ?_⟩
    refine ⟨p, l1, _, T + 1, rfl, hp1.sm (Sm.new n1), by omega, SqL.of upd_same, hp1.ne n1, by simp, by simp, fun H2 num kb2 hp2 hm => ?_⟩
    obtain ⟨m, rfl⟩ : ∃ m, num = .int m := by
      simp only [List.mem_cons, List.not_mem_nil, or_false] at hm
      rcases hm with rfl | rfl | rfl | rfl | rfl | rfl <;> exact ⟨_, rfl⟩
    have k2 := KB.trans (KB.trans kb1 (KB.sm (Sm.new n1))) kb2
    clear kb1 kb2 hp1 hm
    refine ⟨_, rfl, (by show 1 ≤ sizeLine; decide), fun l2 n2 => ⟨(by show 1 ≤ sizeLine; decide), fun t3 n3 => fun d4 n4 => ⟨_, rfl, rfl, (by show 9 ≤ sizeLine; decide), fun l5 n5 => ?_⟩⟩⟩
    have s2 := Sm.new (o := .lst [.int 1]) n2
    have s3 := Sm.new (o := .tup [.int 1]) n3
    have s4 := Sm.new (o := .dK []) n4
    have s5 := Sm.new (o := .lst [.bl true, .bl false, .non, .str "1", .ref l2, .ref t3, .ref d4, .str "", .bl (decide (V.int m = V.int 0))]) n5
    have pen5 := ((((hp2.sm s2).sm s3).sm s4).sm s5)
    refine ⟨p, l5, _, _, rfl, pen5, by omega, SqL.of upd_same, (((hp2.sm s2).sm s3).sm s4).ne n5, by simp, by simp, fun H3 odd kb3 hp3 hm => ?_⟩
    have ho : OddV p H3 odd := by
      refine OddV.kb ?_ kb3
      simp only [List.mem_cons, List.not_mem_nil, or_false] at hm
      rcases hm with rfl | rfl | rfl | rfl | rfl | rfl | rfl | rfl | rfl
      · exact .inl (.inr (.inl ⟨_, rfl⟩))
      · exact .inl (.inr (.inl ⟨_, rfl⟩))
      · exact .inl (.inl rfl)
      · exact .inl (.inr (.inr ⟨_, rfl⟩))
      · exact .inr ⟨l2, rfl, hp2.ne n2, .inl (s5 _ _ (s4 _ _ (s3 _ _ upd_same)))⟩
      · exact .inr ⟨t3, rfl, (hp2.sm s2).ne n3, .inr (.inl (s5 _ _ (s4 _ _ upd_same)))⟩
      · exact .inr ⟨d4, rfl, ((hp2.sm s2).sm s3).ne n4, .inr (.inr (s5 _ _ upd_same))⟩
      · exact .inl (.inr (.inr ⟨_, rfl⟩))
      · exact .inl (.inr (.inl ⟨_, rfl⟩))
    have k3 := KB.trans k2 (KB.trans (KB.sm (Same.trans (Same.trans s2 s3) (Same.trans s4 s5))) kb3)
    clear k2 kb3 pen5 s2 s3 s4 s5 hm
    obtain ⟨n, kd, hn, hlt⟩ := ho.kd (K := K)
    refine ⟨_, rfl, _, _, rfl, kd_int, _, rfl, _, n, rfl, kd, ?_⟩
    rw [hn]
    refine ⟨(by show 2 ≤ sizeLine; decide), fun q1 m1 => ⟨(by show 2 ≤ sizeLine; decide), fun q2 m2 => ?_⟩⟩
    have w1 := Sm.new (o := .lst [.bl true, .bl false]) m1
    have w2 := Sm.new (o := .lst [.bl true, .bl false]) m2
    refine neD_same (xs := [.bl true, .bl false]) (SqL.of ((upd_ne (ne_of_none upd_same m2)).trans upd_same)) (SqL.of upd_same) rfl ⟨_, rfl, ?_⟩
    refine iteF ?_
    have w := Same.trans w1 w2
    refine ⟨_, rfl, odd, _, _, rfl, .inl ⟨n, kd_same w kd, hn, _, rfl, ?_⟩⟩
    refine iteF ?_
    refine ⟨_, rfl, odd, _, _, rfl, .inl ⟨n, kd_same w kd, hn, _, rfl, ?_⟩⟩
    refine iteF ?_
    have hp4 := hp3.sm w
    have k4 := KB.trans k3 (KB.sm w)
    have ho4 := ho.kb (KB.sm w)
    clear k3 hp3 ho kd hlt w w1 w2
    refine ⟨_, rfl, p, 5, _, rfl, hp4, by omega, by decide, by decide, fun H5 lo kb5 hp5 lo0 lo1 => ?_⟩
    refine ⟨_, _, rfl, rfl, _, rfl, p, 5, _, rfl, hp5, by omega, by decide, by decide, fun H6 hi kb6 hp6 hi0 hi1 => ⟨_, _, rfl, rfl, .int (lo - 2), .int (hi - 2), rfl, ?_⟩⟩
    have k6 := KB.trans k4 (KB.trans kb5 kb6)
    have ho6 := (ho4.kb kb5).kb kb6
    clear k4 kb5 kb6 ho4 hp4 hp5 hp2
    generalize lo - 2 = lo at *
    generalize hi - 2 = hi at *
    refine ⟨_, rfl, _, rfl, _, rfl, _, _, rfl, rfl, _, rfl, _, rfl, _, _, rfl, rfl, .int m, .int (m + lo), .int (m + hi), rfl, .inr ⟨m, rfl, .inr ⟨_, rfl⟩, .inr ⟨_, rfl⟩, ?_⟩⟩
    refine ⟨_, rfl, _, rfl, _, rfl, _, _, rfl, rfl, .int m, .non, .int (m + hi), rfl, .inr ⟨m, rfl, .inl rfl, .inr ⟨_, rfl⟩, ?_⟩⟩
    refine ⟨_, rfl, _, rfl, _, rfl, _, _, rfl, rfl, .int m, .int (m + lo), .non, rfl, .inr ⟨m, rfl, .inr ⟨_, rfl⟩, .inl rfl, ?_⟩⟩
    have e1 : okLo (.int (m + lo)) m = decide (lo ≤ 0) := decide_eq_decide.mpr (by omega)
    have e2 : okHi (.int (m + hi)) m = decide (0 ≤ hi) := decide_eq_decide.mpr (by omega)
    have e3 : okLo .non m = true := rfl
    have e4 : okHi .non m = true := rfl
    rw [e1, e2, e3, e4, Bool.true_and, Bool.and_true]
    refine ⟨(by show 3 ≤ sizeLine; decide), fun q3 m3 => ?_⟩
    have w3 := Sm.new (o := .lst [.bl (decide (lo ≤ 0) && decide (0 ≤ hi)), .bl (decide (0 ≤ hi)), .bl (decide (lo ≤ 0))]) m3
    refine ⟨_, rfl, ?_⟩
    refine chain_le (lo := lo) (hi := hi) rfl rfl ?_
    refine ⟨_, rfl, _, _, rfl, rfl, _, rfl, _, _, rfl, rfl, (by show 3 ≤ sizeLine; decide), fun q4 m4 => ?_⟩
    have w4 := Sm.new (o := .lst [.bl (decide (lo ≤ 0) && decide (0 ≤ hi)), .bl (decide (0 ≤ hi)), .bl (decide (lo ≤ 0))]) m4
    refine neD_same (xs := [.bl (decide (lo ≤ 0) && decide (0 ≤ hi)), .bl (decide (0 ≤ hi)), .bl (decide (lo ≤ 0))]) (SqL.of ((upd_ne (ne_of_none upd_same m4)).trans upd_same)) (SqL.of upd_same) rfl ⟨_, rfl, ?_⟩
    refine iteF ?_
    refine ⟨_, rfl, _, _, _, rfl, .inr ⟨m, rfl, .inl rfl, .inl rfl, ?_⟩⟩
    refine ⟨_, _, rfl, rfl, _, rfl, ?_⟩
    refine iteF ?_
    have w := Same.trans w3 w4
    have hp7 := hp6.sm w
    have k7 := KB.trans k6 (KB.sm w)
    have ho7 := ho6.kb (KB.sm w)
    clear k6 hp6 ho6 w w3 w4 e1 e2 e3 e4
    refine ⟨_, rfl, p, 5, _, rfl, hp7, by omega, by decide, by decide, fun H8 c kb8 hp8 c0 c1 => ⟨c, rfl, by omega, by omega, fun D hD => ?_⟩⟩
    have k8 := KB.trans k7 kb8
    have ho8 := ho7.kb kb8
    have hp8 := hp8.mono (T' := T + 10) (by omega)
    clear k7 kb8 ho7 hp7
    refine lc_it (n := c.toNat) walk_range (LPv p H8 D (T + 10) (fun v => ∃ z : Int, v = .int z)) (lpv0 hp8 hD) (fun _ _ _ _ => trivial) ?_ ?_
    · rintro j x H9 H9' hj hL ⟨rfl, rfl⟩
      refine ⟨rfl, ?_⟩
      refine ⟨_, rfl, p, 9, _, rfl, hL.2.1, by omega, by decide, by decide, fun H10 z kbz hpz z0 z1 => ⟨_, _, rfl, rfl, ?_⟩⟩
      exact lpv_put hp8 hD hL kbz hpz (by omega) ⟨_, rfl⟩
    · rintro H9 ⟨kbL, hpL, acc, eD, hlen, hG⟩
      obtain ⟨ns, rfl⟩ := ints_of acc hG
      rw [List.length_map] at hlen
      have k9 := KB.trans k8 kbL
      have ho9 := ho8.kb kbL
      have hDp := hp8.ne hD
      clear k8 kbL ho8 hG
      refine ⟨_, rfl, _, rfl, D, _, rfl, .inl (SqL.of eD), _, _, rfl, rfl, p, _, _, rfl, hpL, by omega, (by rw [List.length_map]; omega), (by rw [List.length_map]; omega), fun H11 at_ kb11 hp11 at0 at1 => ?_⟩
      have eD := kb11.kb _ _ hDp eD
      have k11 := KB.trans k9 kb11
      have ho11 := ho9.kb kb11
      clear k9 kb11 ho9
      rw [List.length_map] at at1
      have hl5 : (ns.map V.int).length ≤ 1000 := by rw [List.length_map]; omega
      refine ⟨_, rfl, .ref D, "list", rfl, ⟨.base (.lst eD), by decide⟩, .inr ⟨by decide, D, _, _, rfl, .inl (SqL.of eD), hl5, kds_ints ns, fun H12 s12 => ⟨_, rfl, ?_⟩⟩⟩
      rw [all_int]
      refine iteF ?_
      refine ⟨_, rfl, D, _, rfl, .inl ⟨SqL.of (s12 _ _ eD), fun t13 n13 => ?_⟩⟩
      refine ⟨.ref t13, "tuple", rfl, ⟨.base (.tup upd_same), by decide⟩, .inr ⟨by decide, t13, _, _, rfl, .inr (SqT.of upd_same), hl5, kds_ints ns, fun H14 s14 => ⟨_, rfl, ?_⟩⟩⟩
      rw [all_int]
      refine iteF ?_
      have s := Same.trans s12 (Same.trans (Sm.new n13) s14)
      obtain ⟨n, kd, hn, hq⟩ := num_odd (K := K) (ho11.kb (KB.sm s))
      refine ⟨_, rfl, ?_⟩
      refine callSp (hq _ _ fun H15 s15 => ?_)
      refine ⟨_, rfl, (by show 2 ≤ sizeLine; decide), fun tp ntp => ⟨odd, tp, _, _, _, _, rfl, upd_same, .cons (.ty "list") (.cons (.ty "tuple") .nil), tyx_same (Same.trans s15 (Sm.new ntp)) kd.1, kit_lt kd.2, rfl, _, rfl, ?_⟩⟩
      rw [decide_eq_true rfl]
      refine iteF ?_
      have s := Same.trans s (Same.trans s15 (Sm.new (o := .tup [.ty "list", .ty "tuple"]) ntp))
      have eD := s _ _ eD
      have k16 := KB.trans k11 (KB.sm s)
      have ho16 := ho11.kb (KB.sm s)
      have hp16 := hp11.sm s
      clear k11 ho11 hp11 s s15 s12 s14 hq kd
      obtain ⟨m1, em1, lm1⟩ := cut_ints ns none (some at_)
      obtain ⟨m2, em2, lm2⟩ := cut_ints ns (some at_) none
      refine ⟨_, rfl, _, rfl, at_, rfl, D, _, rfl, SqL.of eD, fun x1 y1 => ?_⟩
      rw [em1]
      have r1 := Sm.new (o := .lst (m1.map V.int)) y1
      refine ⟨_, rfl, (by show 1 ≤ sizeLine; decide), fun x2 y2 => ?_⟩
      have r2 := Sm.new (o := .lst [odd]) y2
      refine ⟨x1, x2, _, _, rfl, rfl, r2 _ _ upd_same, upd_same, ?_, fun x3 y3 => ?_⟩
      · rw [List.length_map, sizeLine_eq]
        show m1.length + 1 ≤ 16777216
        omega
      have r3 := Sm.new (o := .lst (m1.map V.int ++ [odd])) y3
      have r := Same.trans r1 (Same.trans r2 r3)
      refine ⟨_, rfl, _, rfl, at_, rfl, D, _, rfl, SqL.of (r _ _ eD), fun x4 y4 => ?_⟩
      rw [em2]
      have r4 := Sm.new (o := .lst (m2.map V.int)) y4
      have hl6 : (m1.map V.int ++ [odd]).length + (m2.map V.int).length ≤ 1000 := by
        rw [List.length_append, List.length_map, List.length_map]
        show m1.length + 1 + m2.length ≤ 1000
        omega
      refine ⟨x3, x4, _, _, rfl, rfl, r4 _ _ upd_same, upd_same, Nat.le_trans hl6 (by decide), fun x5 y5 => ?_⟩
      have r5 := Sm.new (o := .lst (m1.map V.int ++ [odd] ++ m2.map V.int)) y5
      have r := Same.trans r (Same.trans r4 r5)
      obtain ⟨n, kd, hn, _⟩ := num_odd (K := K) (ho16.kb (KB.sm r))
      refine ⟨.ref x5, "list", rfl, ⟨.base (.lst upd_same), by decide⟩, .inr ⟨by decide, x5, _, _, rfl, .inl (SqL.of upd_same), (by rw [List.length_append]; exact hl6), kds_app (kds_app (kds_ints m1) (kds_one kd)) (kds_ints m2), fun H17 s17 => ?_⟩⟩
      have hall : ((m1.map fun _ => "int") ++ [n] ++ (m2.map fun _ => "int")).all (fun x => x == "int") = false := by
        rw [List.all_append, List.all_append, List.all_cons, hn]
        simp
      rw [hall]
      refine ⟨_, rfl, true, rfl, iteT ?_⟩
      have r := Same.trans r s17
      refine ⟨.str "12", "str", rfl, kd_str, .inl ⟨by decide, fun H18 s18 => ⟨_, rfl, true, rfl, iteT ?_⟩⟩⟩
      refine fun d nd => ⟨upd_same, [(.inl 1, .int 2)], rfl, by decide, ?_⟩
      have s19 : Same H18 (upd (upd H18 d (.dK [])) d (.dK (mergeK [] [(.inl 1, .int 2)]))) := fun b o e => by
        rw [upd_ne (ne_of_none e nd), upd_ne (ne_of_none e nd)]
        exact e
      refine ⟨.ref d, "dict", rfl, ⟨.base (.dK upd_same), by decide⟩, .inl ⟨by decide, fun H20 s20 => ⟨_, rfl, ?_⟩⟩⟩
      have r := Same.trans r (Same.trans s18 (Same.trans s19 s20))
      exact q _ (KB.trans k16 (KB.sm r)) ((hp16.sm r).mono (by omega))
end
end K0
namespace K0
open PySem PySem.Spec PyProof.Rows L2
theorem inV_ints (c : Int) (l : List Int) : inV (.int c) (l.map V.int) = decide (c ∈ l) := by
  unfold inV
  rw [List.any_map]
  induction l with
  | nil => rfl
  | cons a r ih =>
    rw [List.any_cons, ih]
    show (eqV (.int a) (.int c) || decide (c ∈ r)) = _
    have e : eqV (.int a) (.int c) = decide (c = a) := by
      show (a == c) = decide (c = a)
      by_cases h : c = a
      · subst h
        rw [decide_eq_true rfl, beq_self_eq_true]
      · rw [decide_eq_false h]
        exact beq_eq_false_iff_ne.mpr fun z => h z.symm
    rw [e]
    simp
theorem flat_ints (l : List Int) : (l.map V.int).all flatV = true := List.all_eq_true.mpr fun v hv => by
  obtain ⟨i, _, rfl⟩ := List.mem_map.mp hv
  rfl
theorem dat_ints (l : List Int) : (l.map V.int).all datOk = true := List.all_eq_true.mpr fun v hv => by
  obtain ⟨i, _, rfl⟩ := List.mem_map.mp hv
  rfl
theorem neD_nil {K : PySem.W.Frag} {H : Hp} {Q : VK} {a b : Addr} {xs : List V} (h1 : SqL K H a xs) (h2 : SqL K H b []) (ok : xs.all datOk = true) (q : Q (.bl (!xs.isEmpty)) H) : rNeD K (.ref a) (.ref b) H Q := by
  refine ⟨.list (xs.map datV), .list ([].map datV), .lst h1 (dp_all ok), .lst h2 .nil, dat_shaped ok, dat_shaped (xs := []) rfl, ?_⟩
  have e : PyData.eqv (.list (xs.map datV)) (.list ([].map datV)) = xs.isEmpty := by
    cases xs <;> simp [PyData.eqv, PyData.eqvAll]
  rw [e]
  exact q
theorem eqD_nil {K : PySem.W.Frag} {H : Hp} {Q : VK} {a b : Addr} {xs : List V} (h1 : SqL K H a xs) (h2 : SqL K H b []) (ok : xs.all datOk = true) (q : Q (.bl (xs.isEmpty)) H) : rEqD K (.ref a) (.ref b) H Q := by
  refine ⟨.list (xs.map datV), .list ([].map datV), .lst h1 (dp_all ok), .lst h2 .nil, dat_shaped ok, dat_shaped (xs := []) rfl, ?_⟩
  have e : PyData.eqv (.list (xs.map datV)) (.list ([].map datV)) = xs.isEmpty := by
    cases xs <;> simp [PyData.eqv, PyData.eqvAll]
  rw [e]
  exact q
/-- the places whose number stands ahead, too -/
def dueL (ns : List Int) (n : Nat) : List Nat := (List.range n).filter fun i => decide (ns.getD i 0 ∈ ns.take i)
theorem dueL_succ (ns : List Int) (n : Nat) : dueL ns (n + 1) = dueL ns n ++ (if ns.getD n 0 ∈ ns.take n then [n] else []) := by
  unfold dueL
  rw [List.range_succ, List.filter_append]
  congr 1
  rw [List.filter_cons, List.filter_nil]
  by_cases c : ns.getD n 0 ∈ ns.take n
  · rw [if_pos c, if_pos (decide_eq_true c)]
  · rw [if_neg c, if_neg fun z => c (of_decide_eq_true z)]
def dueV (f : Int → V) (ns : List Int) : V := match dueL ns ns.length with
  | [] => .non
  | i :: _ => f (ns.getD i 0)
theorem ft_due (f : Int → Key) (ns : List Int) (hf : ∀ a b, a ∈ ns → b ∈ ns → f a = f b → a = b) : ft [] (ns.map f) = dueV (fun i => kV (f i)) ns := by
  have go : ∀ (post pre : List Int), ns = pre ++ post → dueL ns pre.length = [] → ft (pre.map f) (post.map f) = dueV (fun i => kV (f i)) ns := by
    intro post
    induction post with
    | nil =>
      intro pre e h
      rw [List.append_nil] at e
      subst e
      unfold dueV
      rw [h]
      rfl
    | cons c r ih =>
      intro pre e h
      have hc : ns.getD pre.length 0 = c := by rw [e]; simp [List.getD]
      have ht : ns.take pre.length = pre := by rw [e]; simp
      have hs := dueL_succ ns pre.length
      rw [h, hc, ht, List.nil_append] at hs
      show (if ((pre.map f).any fun j => decide (j = f c)) = true then kV (f c) else ft (pre.map f ++ [f c]) (r.map f)) = _
      have hany : ((pre.map f).any fun j => decide (j = f c)) = true ↔ c ∈ pre := by
        rw [List.any_map, List.any_eq_true]
        constructor
        · rintro ⟨x, hx, hy⟩
          have := hf _ _ (by rw [e]; exact List.mem_append_left _ hx) (by rw [e]; simp) (of_decide_eq_true hy)
          rw [← this]
          exact hx
        · intro hx
          exact ⟨c, hx, decide_eq_true rfl⟩
      by_cases m : c ∈ pre
      · rw [if_pos (hany.mpr m)]
        rw [if_pos m] at hs
        -- the first one is here
        have key : ∀ k, ∃ r, dueL ns (pre.length + 1 + k) = pre.length :: r := by
          intro k
          induction k with
          | zero => exact ⟨[], hs⟩
          | succ k ihk =>
            obtain ⟨r', hr'⟩ := ihk
            exact ⟨_, by rw [← Nat.add_assoc, dueL_succ, hr']; rfl⟩
        obtain ⟨r', hr'⟩ := key r.length
        have hl : ns.length = pre.length + 1 + r.length := by rw [e]; simp; omega
        unfold dueV
        rw [hl, hr']
        show _ = kV (f (ns.getD pre.length 0))
        rw [hc]
      · rw [if_neg fun z => m (hany.mp z)]
        rw [if_neg m] at hs
        have := ih (pre ++ [c]) (by rw [e]; simp) (by rw [List.length_append]; exact hs)
        rw [List.map_append] at this
        exact this
  exact go ns [] rfl rfl
theorem cutV_to (ns : List Int) (i : Nat) : cutV (ns.map V.int) none (some (i : Int)) = (ns.take i).map V.int := by
  unfold cutV
  rw [HT.sIx_none, HT.sIx_nat, List.length_map, List.drop_zero, Nat.sub_zero, List.map_take]
  by_cases h : i ≤ ns.length
  · rw [Nat.min_eq_left h]
  · rw [Nat.min_eq_right (by omega), List.take_of_length_le (by simp), List.take_of_length_le (by simp; omega)]
def xt (z : Int) : Str := (Str.ofString "x") ++ Str.ofString (toString z)
theorem xt_inj : ∀ a : Nat, a < 7 → ∀ b : Nat, b < 7 → xt (a : Int) = xt (b : Int) → a = b := by decide +kernel
theorem log7 : ∀ a : Nat, a < 7 → ((a : Nat) : Int).natAbs.log2 < 1920 := by decide +kernel
theorem xl7 : ∀ a : Nat, a < 7 → (Str.ofString "x").length + (Str.ofString (toString ((a : Nat) : Int))).length ≤ 10 := by decide +kernel
theorem ifF {c : Bool} : (if (false : Bool) = true then !c else c) = c := if_neg Bool.false_ne_true
section
variable {P : Program} {w : World} {K : PySem.W.Frag} {mg : Str → Option Value} {base : Heap}
abbrev st_l_twice_right : Stmt := top 54
abbrev nm_l_twice_right : List Str := ["_law_pen_here", "_law_numbers", "_law_texts", "_law_due", "_law_turn", "_law_number", "_law_at"]
theorem sc_l_twice_right : FnScope nm_l_twice_right ["_law_pen_here"] (defScope st_l_twice_right) := ⟨rfl, rfl, rfl, by decide +kernel, rfl, by decide +kernel, by decide +kernel⟩
theorem ok_twice {f : Addr} {fd : FuncData} (F : Fun K "_law_twice_right" "_law_twice_right" st_l_twice_right f fd) (T : Blt mg) (C__law_draw : CDraw P w K mg base)
    (C_first_twice : Cal P w K mg base 1 "first_twice" st_first_twice ["values"] (spFirstTwice K)) :
    FnOk P w K mg base CX0 2 f fd ["_law_pen_here"] (spPart K) := by
  refine F.ok sc_l_twice_right (fun vs H Q E h => ?_) (fun cdv A outer s H vs Q E hr h => ?_)
  · obtain ⟨p, T, rfl, _⟩ := h
    rfl
  · refine ⟨_, (pss_cons (ps_set (i := 1) sc_l_twice_right.nd rfl (Or.inr rfl) (pe_lc (own := [("_law_turn", 4)]) (g := (gName 4)) (tt := tYes) rfl sc_l_twice_right.nd (pi_range1 rfl T.n_range (pa_cons (pe_cl C__law_draw (hr.mono (by decide)) rfl (pa_cons (pv 0) (pa_cons pe_int pa_nil))) pa_nil)) (blkOk_by (N := nm_l_twice_right) (sc := defScope st_l_twice_right) (own := [("_law_turn", 4)]) (by decide +kernel)) (fun _ _ _ _ _ => by exact pg_name (i := 4) sc_l_twice_right.nd rfl (Or.inl rfl)) (fun _ _ _ _ _ => pts_nil) (fun _ _ _ _ _ => (pe_cl C__law_draw (hr.mono (by decide)) rfl (pa_cons (pv 0) (pa_cons pe_int pa_nil))))))
  (pss_cons (ps_setLc (i := 2) (own := [("_law_number", 5)]) (g := (gName 5)) (tt := tYes) rfl sc_l_twice_right.nd rfl rfl (sw_true rfl rfl rfl (by decide +kernel)) (pi_list (pv 1)) (blkOk_by (N := nm_l_twice_right) (sc := defScope st_l_twice_right) (own := [("_law_number", 5)]) (by decide +kernel)) (fun _ _ _ _ _ => by exact pg_name (i := 5) sc_l_twice_right.nd rfl (Or.inl rfl)) (fun _ _ _ _ _ => pts_nil) (fun _ _ _ _ _ => (pe_op op_add_str pe_str (pe_callTy call_str_int (by rfl) T.n_str (by decide +kernel) (pa_cons (pv 5) pa_nil)))))
  (pss_cons (ps_setLc (i := 3) (own := [("_law_at", 6), ("_law_number", 5)]) (g := (gTup K 2 (gCons (gName 6) (gCons (gName 5) gNil)))) rfl sc_l_twice_right.nd rfl rfl (sw_true rfl rfl rfl (by decide +kernel)) (pi_enum (by rfl) T.n_enumerate (pa_cons (pv 1) pa_nil)) (blkOk_by (N := nm_l_twice_right) (sc := defScope st_l_twice_right) (own := [("_law_at", 6), ("_law_number", 5)]) (by decide +kernel)) (fun _ _ _ _ _ => by exact pg_tup rfl (pgs_cons (pg_name (i := 6) sc_l_twice_right.nd rfl (Or.inl rfl)) (pgs_cons (pg_name (i := 5) sc_l_twice_right.nd rfl (Or.inl rfl)) pgs_nil))) (fun _ _ _ _ _ => pts_one (pt_cmpR (op_in_seq : OpR _ (compareOp .In) (rIn K false)) (pv 5) (pe_slice (sl_list : SlR _ (rSlL K)) (pv 1) po_none (po_some (pv 6))) rfl)) (fun _ _ _ _ _ => (pv 6)))
  (pss_cons (ps_if (pt_cmpR op_ne (pe_clK0 C_first_twice (fun F => kb1 F fun _ _ _ _ _ _ _ => rfl) (hr.mono (by decide)) rfl (pk_cons (pv 1) pk_nil)) (pe_ifExp (pt_cmpR (op_neD hr.units) (pv 3) (pe_lst pa_nil) (nomark _)) (pe_ix ix_list (pv 1) (pe_ix ix_list (pv 3) pe_int (fun _ _ => rfl)) (fun _ _ => rfl)) pe_non) (nomark _)) (pss_one (ps_ret pe_bl)) pss_nil)
  (pss_one (ps_ret (pe_and (pe_cmpR op_eq (pe_cl C_first_twice (hr.mono (by decide)) rfl (pa_cons (pe_callTy call_tuple_of (by rfl) T.n_tuple (by decide +kernel) (pa_cons (pv 2) pa_nil)) pa_nil)) (pe_ifExp (pt_cmpR (op_neD hr.units) (pv 3) (pe_lst pa_nil) (nomark _)) (pe_ix ix_list (pv 2) (pe_ix ix_list (pv 3) pe_int (fun _ _ => rfl)) (fun _ _ => rfl)) pe_non) (nomark _)) (pe_one (pe_cmpR op_isN (pe_cl C_first_twice (hr.mono (by decide)) rfl (pa_cons (pe_lst pa_nil) pa_nil)) pe_non (nomark _)))))))))), ?_⟩
    obtain ⟨p, T, rfl, hp, hT, q⟩ := h
    refine ⟨_, rfl, p, 8, _, rfl, hp, by omega, by decide, by decide, fun H1 c kb1 hp1 c0 c1 => ⟨c, rfl, by omega, by omega, fun D hD => ?_⟩⟩
    have hp1 := hp1.mono (T' := T + 10) (by omega)
    refine lc_it (n := c.toNat) walk_range (LPv p H1 D (T + 10) (fun v => ∃ z : Int, v = .int z ∧ 0 ≤ z ∧ z < 7)) (lpv0 hp1 hD) (fun _ _ _ _ => trivial) ?_ ?_
    · rintro j x H9 H9' hj hL ⟨rfl, rfl⟩
      refine ⟨rfl, ?_⟩
      refine ⟨_, rfl, p, 7, _, rfl, hL.2.1, by omega, by decide, by decide, fun H10 z kbz hpz z0 z1 => ?_⟩
      exact lpv_put hp1 hD hL kbz hpz (by omega) ⟨_, rfl, z0, z1⟩
    · rintro H2 ⟨kbL, hpL, acc, eD, hlen, hG⟩
      obtain ⟨ns, rfl⟩ := ints_of acc fun v hv => (hG v hv).imp fun _ h => h.1
      rw [List.length_map] at hlen
      have k2 := KB.trans kb1 kbL
      have hb : ∀ z ∈ ns, ∃ a : Nat, a < 7 ∧ z = (a : Int) := fun z hz => by
        obtain ⟨y, e, h0, h1⟩ := hG _ (List.mem_map_of_mem hz)
        cases e
        exact ⟨z.toNat, by omega, by omega⟩
      refine ⟨_, rfl, D, rfl, ⟨_, SqL.of eD⟩, fun D2 hD2 => ?_⟩
      refine lc_it (n := (ns.map V.int).length) walk_list (SPv H2 D2 fun i => (ns.take i).map fun z => V.str (xt z)) (spv0 hD2 rfl) (fun _ _ _ p => SqL.of (p.1 _ _ eD)) ?_ ?_
      · rintro i x H3 H3' hi ⟨p1, p2⟩ ⟨rfl, hx⟩
        rw [List.getElem?_map] at hx
        obtain ⟨z, hz, rfl⟩ := Option.map_eq_some_iff.mp hx
        obtain ⟨a, ha, rfl⟩ := hb z (List.mem_of_getElem? hz)
        refine ⟨rfl, ?_⟩
        refine ⟨_, rfl, _, rfl, log7 a ha, _, _, rfl, rfl, Nat.le_trans (xl7 a ha) (by decide), ?_⟩
        refine spv_put hD2 p1 p2 ?_ ?_
        · rw [List.length_map, List.length_take]
          omega
        · rw [List.take_succ, hz, List.map_append]
          rfl
      · rintro H3 ⟨p1, p2⟩
        dsimp only at p2
        rw [List.length_map, List.take_length] at p2
        have eD := p1 _ _ eD
        have s3 := p1
        clear p1
        refine ⟨_, rfl, D, _, rfl, SqL.of eD, fun D3 hD3 => ?_⟩
        refine lc_it (n := (ns.map V.int).length) walk_enum (SPv H3 D3 fun i => (dueL ns i).map fun j => V.int (j : Nat)) (spv0 hD3 rfl) (fun _ _ _ p => SqL.of (p.1 _ _ eD)) ?_ ?_
        · rintro i x H4 H4' hi ⟨p1, p3⟩ ⟨tt, ki, ye, rfl, ntt, rfl, hki, hye⟩
          obtain rfl : V.int (i : Nat) = ki := Option.some.inj hki
          have hye : (ns.map V.int)[i]? = some ye := hye
          rw [List.getElem?_map] at hye
          obtain ⟨z, hz, rfl⟩ := Option.map_eq_some_iff.mp hye
          have w1 := Sm.new (o := .tup [V.int (i : Nat), V.int z]) ntt
          refine ⟨tt, _, rfl, SqT.of upd_same, rfl, _, _, rfl, _, _, rfl, rfl, ?_⟩
          refine ⟨rfl, ?_⟩
          refine ⟨_, rfl, _, rfl, _, rfl, (i : Int), rfl, D, _, rfl, SqL.of (w1 _ _ (p1 _ _ eD)), fun s1 ns1 => ?_⟩
          rw [cutV_to]
          have w2 := Sm.new (o := .lst ((ns.take i).map V.int)) ns1
          refine ⟨s1, _, rfl, .inl (SqL.of upd_same), rfl, flat_ints _, _, rfl, ?_⟩
          rw [ifF, inV_ints]
          have w := Same.trans p1 (Same.trans w1 w2)
          have p3' := (Same.trans w1 w2) _ _ p3
          have hgz : ns.getD i 0 = z := by rw [List.getD_eq_getElem?_getD, hz]; rfl
          refine ite2 (fun c => ?_) (fun c => ?_)
          · refine ⟨_, rfl, ?_⟩
            refine spv_put hD3 w p3' ?_ ?_
            · rw [List.length_map]
              have : (dueL ns i).length ≤ i := by
                unfold dueL
                exact Nat.le_trans (List.length_filter_le _ _) (by simp)
              rw [List.length_map] at hi
              omega
            · rw [dueL_succ, hgz, if_pos (of_decide_eq_true c), List.map_append]
              rfl
          · refine ⟨w, ?_⟩
            dsimp only
            rw [dueL_succ, hgz, if_neg (fun z => c (decide_eq_true z)), List.append_nil]
            exact p3'
        · rintro H4 ⟨p1, p3⟩
          dsimp only at p3
          rw [List.length_map] at p3
          have eD := p1 _ _ eD
          have e2 := p1 _ _ p2
          have s4 := Same.trans s3 p1
          clear p1 p2 s3
          have hkv : (ns.map V.int) = (ns.map Sum.inl : List Key).map kV := by rw [List.map_map]; rfl
          refine ⟨_, rfl, D, ns.map Sum.inl, rfl, .inl (SqL.of (by rw [← hkv]; exact eD)), (by rw [List.length_map]; omega), fun H5 s5 => ?_⟩
          rw [ft_due Sum.inl ns fun a b _ _ e => Sum.inl.inj e]
          have hdok : ((dueL ns ns.length).map fun j => V.int (j : Nat)).all datOk = true := List.all_eq_true.mpr fun v hv => by
            obtain ⟨_, _, rfl⟩ := List.mem_map.mp hv
            rfl
          have due : ∀ i r, dueL ns ns.length = i :: r → i < ns.length := fun i r e => by
            have h : i ∈ dueL ns ns.length := by rw [e]; exact List.mem_cons_self
            unfold dueL at h
            exact List.mem_range.mp (List.mem_filter.mp h).1
          refine ⟨_, rfl, (by show 0 ≤ sizeLine; decide), fun z1 y1 => ?_⟩
          have u1 := Sm.new (o := .lst []) y1
          have s6 := Same.trans s5 u1
          refine neD_nil (SqL.of (s6 _ _ p3)) (SqL.of upd_same) hdok ⟨_, rfl, ?_⟩
          apply cutP
          · intro last
            cases hd : dueL ns ns.length with
            | nil =>
              refine iteF ?_
              refine ⟨by unfold dueV; rw [hd]; rfl, false, congrArg V.bl ?_, iteF last⟩
              unfold dueV
              rw [hd, decide_eq_true rfl]
              rfl
            | cons i r =>
              refine iteT ?_
              have hi := due i r hd
              rw [hd] at p3
              refine ⟨_, rfl, _, rfl, D3, _, 0, .int (i : Nat), rfl, rfl, SqL.of (s6 _ _ p3), atI_nat (j := 0) rfl, D, _, (i : Int), .int ns[i], rfl, rfl, SqL.of (s6 _ _ eD), atI_nat (by rw [List.getElem?_map, List.getElem?_eq_getElem hi]; rfl), ?_⟩
              have hv : dueV (fun i => kV (Sum.inl i)) ns = V.int ns[i] := by
                unfold dueV
                rw [hd]
                show V.int (ns.getD i 0) = _
                rw [List.getD_eq_getElem?_getD, List.getElem?_eq_getElem hi]
                rfl
              refine ⟨by rw [hv]; rfl, false, congrArg V.bl ?_, iteF last⟩
              rw [hv, decide_eq_true rfl]
              rfl
          · have e2 := s6 _ _ e2
            have p3 := s6 _ _ p3
            have s7 := Same.trans s4 s6
            have hkx : (ns.map fun z => V.str (xt z)) = (ns.map fun z => (Sum.inr (xt z) : Key)).map kV := by rw [List.map_map]; rfl
            refine ⟨_, rfl, D2, _, rfl, .inl ⟨SqL.of e2, fun t8 n8 => ?_⟩⟩
            have u8 := Sm.new (o := .tup (ns.map fun z => V.str (xt z))) n8
            refine ⟨t8, ns.map fun z => (Sum.inr (xt z) : Key), rfl, .inr (SqT.of (by rw [← hkx]; exact upd_same)), (by rw [List.length_map]; omega), fun H9 s9 => ?_⟩
            rw [ft_due (fun z => (Sum.inr (xt z) : Key)) ns fun a b ha hb' e => by
              obtain ⟨x, hx, rfl⟩ := hb a ha
              obtain ⟨y, hy, rfl⟩ := hb b hb'
              rw [xt_inj x hx y hy (Sum.inr.inj e)]]
            refine ⟨_, rfl, (by show 0 ≤ sizeLine; decide), fun z2 y2 => ?_⟩
            have u9 := Sm.new (o := .lst []) y2
            have s8 := Same.trans u8 (Same.trans s9 u9)
            refine neD_nil (SqL.of (s8 _ _ p3)) (SqL.of upd_same) hdok ⟨_, rfl, ?_⟩
            apply cutP
            · intro last
              cases hd : dueL ns ns.length with
              | nil =>
                refine iteF ?_
                refine ⟨by unfold dueV; rw [hd]; rfl, true, congrArg V.bl ?_, iteT last⟩
                unfold dueV
                rw [hd]
                exact decide_eq_true rfl
              | cons i r =>
                refine iteT ?_
                have hi := due i r hd
                rw [hd] at p3
                refine ⟨_, rfl, _, rfl, D3, _, 0, .int (i : Nat), rfl, rfl, SqL.of (s8 _ _ p3), atI_nat (j := 0) rfl, D2, _, (i : Int), .str (xt ns[i]), rfl, rfl, SqL.of (s8 _ _ e2), atI_nat (by rw [List.getElem?_map, List.getElem?_eq_getElem hi]; rfl), ?_⟩
                have hv : dueV (fun z => kV (Sum.inr (xt z))) ns = V.str (xt ns[i]) := by
                  unfold dueV
                  rw [hd]
                  show V.str (xt (ns.getD i 0)) = _
                  rw [List.getD_eq_getElem?_getD, List.getElem?_eq_getElem hi]
                  rfl
                refine ⟨by rw [hv]; rfl, true, congrArg V.bl ?_, iteT last⟩
                rw [hv]
                exact decide_eq_true rfl
            · refine ⟨(by show 0 ≤ sizeLine; decide), fun z3 y3 => ?_⟩
              have u10 := Sm.new (o := .lst []) y3
              refine ⟨z3, [], rfl, .inl (SqL.of upd_same), by decide, fun H11 s11 => ⟨rfl, ?_⟩⟩
              have e : decide (ft [] [] = V.non) = true := decide_eq_true rfl
              rw [e]
              have r := Same.trans s7 (Same.trans s8 (Same.trans u10 s11))
              exact q _ (KB.trans k2 (KB.sm r)) ((hpL.sm r).mono (by omega))
end
end K0
namespace K0
open PySem PySem.Spec PyProof.Rows L2
abbrev AZ : Str := Str.ofString "abcdefghijklmnopqrstuvwxyz"
abbrev AZ9 : Str := Str.ofString "abcdefghijklmnopqrstuvwxyz0123456789"
theorem az_len : AZ.length = 26 := by decide +kernel
theorem az9_len : AZ9.length = 36 := by decide +kernel
theorem az_all : ∀ c ∈ AZ.cps.toList, isaz c = true := by decide +kernel
theorem az9_all : ∀ c ∈ AZ9.cps.toList, (isaz c || is09 c) = true := by decide +kernel
theorem cat_le {n m : Nat} (h1 : n ≤ 1000) (h2 : m ≤ 1000) : n + m ≤ sizeLine := by
  rw [sizeLine_eq]
  omega
theorem txs {l : List Nat} (h : l.length ≤ 1000) : (Tx l).length ≤ sizeLine := by
  rw [tx_len]
  exact Nat.le_trans h (by decide)
theorem not_az09 {c : Nat} (h : is09 c = true) : isaz c = false := by
  obtain ⟨h1, h2⟩ := Bool.and_eq_true_iff.mp h
  have := of_decide_eq_true h2
  unfold isaz
  rw [decide_eq_false (show ¬ 97 ≤ c by omega), Bool.false_and]
theorem rep_tx (n c : Nat) : (⟨Array.replicate n c⟩ : Str) = Tx (List.replicate n c) := by simp [Tx]
/-- pick(pen, list(text)) -/
theorem pick_sign {K : PySem.W.Frag} {σ : L2.St} {H : Hp} {Q : VK} {p : Addr} {T i : Nat} {z : Str} (h0 : σ[0]? = some (some (.ref p))) (hi : σ[i]? = some (some (.str z))) (hp : PenAt H p T) (hT : T < 1000000) (h1 : 1 ≤ z.length) (h2 : z.length ≤ 1000)
    (k : ∀ H' c, KB p H H' → PenAt H' p (T + 1) → c ∈ z.cps.toList → Q (.str (Tx [c])) H') : tCall (spPick K) [] E0 (tCons (tVar 0) (tCons (tCB rListS (tCons (tVar i) tNil)) tNil)) σ H Q := by
  refine ⟨_, h0, _, hi, z, rfl, Nat.le_trans h2 (by decide), fun l n => ?_⟩
  have hl : (sgn z).length = z.length := by simp [sgn, Str.length]
  refine ⟨p, l, sgn z, T, rfl, hp.sm (Sm.new n), hT, SqL.of upd_same, hp.ne n, by omega, by omega, fun H' v kb hp' hv => ?_⟩
  obtain ⟨c, hc, rfl⟩ := List.mem_map.mp hv
  exact k H' c (KB.trans (KB.sm (Sm.new n)) kb) hp' hc
theorem join_tx (l : List Nat) : Txt.join (Str.ofString "") (l.map fun c => Tx [c]) = Tx l := by
  have go : ∀ (l : List Nat) (acc : Array Nat), (l.map fun c => Tx [c]).foldl (fun acc p => acc ++ (Str.ofString "").cps ++ p.cps) acc = acc ++ l.toArray := by
    intro l
    induction l with
    | nil => intro acc; simp
    | cons c r ih =>
      intro acc
      rw [List.map_cons, List.foldl_cons, ih]
      apply Array.ext'
      have e : (Str.ofString "").cps.toList = [] := rfl
      simp [Tx, e]
  unfold Txt.join
  cases l with
  | nil => rfl
  | cons c r =>
    show (⟨((r.map fun c => Tx [c])).foldl (fun acc p => acc ++ (Str.ofString "").cps ++ p.cps) (Tx [c]).cps⟩ : Str) = _
    rw [go]
    simp [Tx]
theorem strs_of {G : Nat → Prop} : ∀ (acc : List V), (∀ v ∈ acc, ∃ c : Nat, v = .str (Tx [c]) ∧ G c) → ∃ l : List Nat, acc = (l.map fun c => Tx [c]).map V.str ∧ ∀ c ∈ l, G c
  | [], _ => ⟨[], rfl, fun c hc => by simp at hc⟩
  | v :: r, h => by
    obtain ⟨z, rfl, hz⟩ := h v List.mem_cons_self
    obtain ⟨l, e, hl⟩ := strs_of r fun v hv => h v (List.mem_cons_of_mem _ hv)
    refine ⟨z :: l, by rw [e]; rfl, fun c hc => ?_⟩
    rcases List.mem_cons.mp hc with rfl | hc
    · exact hz
    · exact hl c hc
theorem join_len (l : List Nat) (h : l.length ≤ 1000) : ((l.map fun c => Tx [c]).map (·.length)).sum + (l.map fun c => Tx [c]).length * (Str.ofString "").length ≤ 16777216 := by
  have e : ((l.map fun c => Tx [c]).map (·.length)).sum = l.length := by
    clear h
    induction l with
    | nil => rfl
    | cons c r ih =>
      rw [List.map_cons, List.map_cons, List.sum_cons, ih]
      show 1 + r.length = r.length + 1
      omega
  have e2 : (Str.ofString "").length = 0 := rfl
  rw [e, e2, Nat.mul_zero]
  omega
theorem dig_iff (c : Nat) : decide (c ∈ (Str.ofString "0123456789").cps.toList) = is09 c := by
  have e : (Str.ofString "0123456789").cps.toList = [48, 49, 50, 51, 52, 53, 54, 55, 56, 57] := by decide +kernel
  rw [e]
  unfold is09
  rw [← Bool.decide_and]
  apply decide_eq_decide.mpr
  simp only [List.mem_cons, List.not_mem_nil, or_false]
  omega
theorem e7 (l : List Nat) : Str.ofString "7" ++ cutS (Tx l) none (some 5) = Tx (55 :: l.take 5) := by
  rw [show (5 : Int) = ((5 : Nat) : Int) from rfl, cut_to, show Str.ofString "7" = Tx [55] from rfl, tx_app]
  rfl
theorem e11 (l k : List Nat) : cutS (Tx l) none (some 11) ++ Tx k = Tx (l.take 11 ++ k) := by
  rw [show (11 : Int) = ((11 : Nat) : Int) from rfl, cut_to, tx_app]
theorem e11b (l k : List Nat) : Tx k ++ cutS (Tx l) none (some 11) = Tx (k ++ l.take 11) := by
  rw [show (11 : Int) = ((11 : Nat) : Int) from rfl, cut_to, tx_app]
theorem emid (l k : List Nat) (a : Nat) : cutS (Tx l) none (some (a : Int)) ++ Tx k ++ cutS (Tx l) (some (a : Int)) none = Tx (l.take a ++ k ++ l.drop a) := by
  rw [cut_to, cut_from, tx_app, tx_app]
theorem ez (l : List Nat) (n : Nat) : Tx l ++ (⟨Array.replicate n ((Str.ofString "z").cps.getD 0 0)⟩ : Str) = Tx (l ++ List.replicate n 122) := by
  rw [show (Str.ofString "z").cps.getD 0 0 = 122 from rfl, rep_tx, tx_app]
theorem all_z (n : Nat) : (List.replicate n 122).all isaz = true := List.all_eq_true.mpr fun c hc => by
  rw [(List.mem_replicate.mp hc).2]
  decide
theorem nm_of {l : List Nat} (h1 : 1 ≤ l.length) (h2 : l.length ≤ 12) (h3 : (l.all fun c => isaz c || is09 c) = true) (h4 : isaz (l.getD 0 0) = true) : nmOk l = true := by
  unfold nmOk
  rw [decide_eq_true h1, decide_eq_true h2, h3, h4]
  rfl
theorem nm_long {l : List Nat} (h : 12 < l.length) : nmOk l = false := by
  unfold nmOk
  rw [decide_eq_false (show ¬ l.length ≤ 12 by omega), Bool.and_false, Bool.false_and, Bool.false_and]
theorem nm_bad {l : List Nat} {o : Nat} (h : o ∈ l) (h1 : isaz o = false) (h2 : is09 o = false) : nmOk l = false := by
  unfold nmOk
  have : (l.all fun c => isaz c || is09 c) = false := List.all_eq_false.mpr ⟨o, h, by rw [h1, h2]; decide⟩
  rw [this, Bool.and_false, Bool.false_and]
theorem lw_bad {l : List Nat} {o : Nat} (h : o ∈ l) (h1 : isaz o = false) : lw l = false := List.all_eq_false.mpr ⟨o, h, by rw [h1]; decide⟩
theorem az_or {l : List Nat} (h : ∀ c ∈ l, isaz c = true) : (l.all fun c => isaz c || is09 c) = true := List.all_eq_true.mpr fun c hc => by rw [h c hc]; rfl
theorem len_int (l : List Nat) : decide (V.int ((Tx l).length : Nat) = V.int 1) = decide (l.length = 1) := by
  apply decide_eq_decide.mpr
  rw [tx_len]
  constructor
  · intro h
    have := V.int.inj h
    omega
  · intro h
    rw [h]
    rfl
theorem head_app {l k : List Nat} (h : 1 ≤ l.length) : (l ++ k).getD 0 0 = l.getD 0 0 := by
  rw [List.getD_eq_getElem?_getD, List.getElem?_append_left (by omega), ← List.getD_eq_getElem?_getD]
theorem lw_filter {l : List Nat} (hall : (l.all fun c => isaz c || is09 c) = true) : lw l = ((l.filter is09).map fun c => V.str (Tx [c])).isEmpty := by
  cases h : lw l with
  | true =>
    have e : l.filter is09 = [] := List.filter_eq_nil_iff.mpr fun c hc z => by
      have := List.all_eq_true.mp h c hc
      rw [not_az09 z] at this
      cases this
    rw [e]
    rfl
  | false =>
    obtain ⟨c, hc, hz⟩ := List.all_eq_false.mp h
    have h2 := List.all_eq_true.mp hall c hc
    have h3 : is09 c = true := by
      cases z : isaz c with
      | true => exact absurd z hz
      | false =>
        rw [z, Bool.false_or] at h2
        exact h2
    have h4 : c ∈ l.filter is09 := List.mem_filter.mpr ⟨hc, h3⟩
    cases e : l.filter is09 with
    | nil =>
      rw [e] at h4
      simp at h4
    | cons x r => rfl
theorem dat_sign {c : Nat} (h : c < 1000) : datOk (.str (Tx [c])) = true := by
  show (#[c] : Array Nat).all (· < 0x110000) = true
  simp
  omega
section
variable {P : Program} {w : World} {K : PySem.W.Frag} {mg : Str → Option Value} {base : Heap}
abbrev st_l_texts_right : Stmt := top 52
abbrev nm_l_texts_right : List Str := ["_law_pen_here", "_law_name", "_law_turn", "_law_word", "_law_some", "_law_letters", "_law_signs", "_law_at", "_law_odd", "_law_sign"]
theorem sc_l_texts_right : FnScope nm_l_texts_right ["_law_pen_here"] (defScope st_l_texts_right) := ⟨rfl, rfl, rfl, by decide +kernel, rfl, by decide +kernel, by decide +kernel⟩
theorem ok_texts {f : Addr} {fd : FuncData} (F : Fun K "_law_texts_right" "_law_texts_right" st_l_texts_right f fd) (T : Blt mg) (C__law_draw : CDraw P w K mg base) (C__law_pick : CPick P w K mg base)
    (C_is_name : Cal P w K mg base 1 "is_name" st_is_name ["value"] (spIsName K)) (C_is_sound : Cal P w K mg base 2 "is_sound" st_is_sound ["value"] (spIsSound K))
    (C_is_word : Cal P w K mg base 2 "is_word" st_is_word ["value"] (spIsWord K)) (C_is_stock : Cal P w K mg base 2 "is_stock" st_is_stock ["value"] (spIsStock K)) :
    FnOk P w K mg base CX0 3 f fd ["_law_pen_here"] (spPart K) := by
  refine F.ok sc_l_texts_right (fun vs H Q E h => ?_) (fun cdv A outer s H vs Q E hr h => ?_)
  · obtain ⟨p, T, rfl, _⟩ := h
    rfl
  · refine ⟨_, (pss_cons (ps_asg (pe_tup (pa_cons pe_str (pa_cons pe_str pa_nil))) (pg_tup rfl (pgs_cons (pg_name (i := 5) sc_l_texts_right.nd rfl (Or.inr rfl)) (pgs_cons (pg_name (i := 6) sc_l_texts_right.nd rfl (Or.inl rfl)) pgs_nil))))
  (pss_cons (ps_set (i := 1) sc_l_texts_right.nd rfl (Or.inl rfl) (pe_cl C__law_pick (hr.mono (by decide)) rfl (pa_cons (pv 0) (pa_cons (pe_callTy (call_listS rfl) (by rfl) T.n_list (by decide +kernel) (pa_cons (pv 5) pa_nil)) pa_nil))))
  (pss_cons (ps_for PassesOwn.never rfl (pi_range1 rfl T.n_range (pa_cons (pe_cl C__law_draw (hr.mono (by decide)) rfl (pa_cons (pv 0) (pa_cons pe_int pa_nil))) pa_nil)) (pg_name (i := 2) sc_l_texts_right.nd rfl (Or.inl rfl)) (pss_one (ps_set (i := 1) sc_l_texts_right.nd rfl (Or.inl rfl) (pe_op op_add_str (pv 1) (pe_cl C__law_pick (hr.mono (by decide)) rfl (pa_cons (pv 0) (pa_cons (pe_callTy (call_listS rfl) (by rfl) T.n_list (by decide +kernel) (pa_cons (pv 6) pa_nil)) pa_nil)))))))
  (pss_cons (ps_set (i := 3) sc_l_texts_right.nd rfl (Or.inl rfl) (pe_join pe_str (pe_lc (own := [("_law_turn", 2)]) (g := (gName 2)) (tt := tYes) rfl sc_l_texts_right.nd (pi_range1 rfl T.n_range (pa_cons (pe_cl C__law_draw (hr.mono (by decide)) rfl (pa_cons (pv 0) (pa_cons pe_int pa_nil))) pa_nil)) (blkOk_by (N := nm_l_texts_right) (sc := defScope st_l_texts_right) (own := [("_law_turn", 2)]) (by decide +kernel)) (fun _ _ _ _ _ => by exact pg_name (i := 2) sc_l_texts_right.nd rfl (Or.inl rfl)) (fun _ _ _ _ _ => pts_nil) (fun _ _ _ _ _ => (pe_cl C__law_pick (hr.mono (by decide)) rfl (pa_cons (pv 0) (pa_cons (pe_callTy (call_listS rfl) (by rfl) T.n_list (by decide +kernel) (pa_cons (pv 5) pa_nil)) pa_nil)))))))
  (pss_cons (ps_par (i := 7) (j := 8) rfl sc_l_texts_right.nd rfl rfl (by decide) rfl rfl (pa_cons (pe_cl C__law_draw (hr.mono (by decide)) rfl (pa_cons (pv 0) (pa_cons (pe_op op_add (pe_callB call_len_str (by rfl) T.n_len (by decide +kernel) (pa_cons (pv 1) pa_nil)) pe_int) pa_nil))) (pa_cons (pe_cl C__law_pick (hr.mono (by decide)) rfl (pa_cons (pv 0) (pa_cons (pe_lst (pa_cons pe_str (pa_cons pe_str (pa_cons pe_str (pa_cons pe_str (pa_cons pe_str (pa_cons pe_str (pa_cons pe_str (pa_cons pe_str (pa_cons pe_str (pa_cons pe_str (pa_cons pe_str (pa_cons pe_str (pa_cons pe_str pa_nil)))))))))))))) pa_nil))) pa_nil)) rfl)
  (pss_cons (ps_if (PW.pt (pw_or (pt_not (pt_val (pe_cl C_is_name (hr.mono (by decide)) rfl (pa_cons (pv 1) pa_nil)))) (pw_or (pt_val (pe_cl C_is_name (hr.mono (by decide)) rfl (pa_cons (pe_op op_add_str (pe_op op_add_str (pe_slice sl_str (pv 1) po_none (po_some (pv 7))) (pv 8)) (pe_slice sl_str (pv 1) (po_some (pv 7)) po_none)) pa_nil))) (pw_or1 (pt_val (pe_clK0 C_is_name (fun F => kb1 F fun _ _ _ _ _ _ _ => rfl) (hr.mono (by decide)) rfl (pk_cons (pe_op op_add_str pe_str (pe_slice sl_str (pv 1) po_none (po_some pe_int))) pk_nil))))))) (pss_one (ps_ret pe_bl)) pss_nil)
  (pss_cons (ps_if (PW.pt (pw_or (pt_cmpR op_ne (pe_cl C_is_word (hr.mono (by decide)) rfl (pa_cons (pv 1) pa_nil)) (pe_cmpR (op_eqD hr.units) (pe_lc (own := [("_law_sign", 9)]) (g := (gName 9)) rfl sc_l_texts_right.nd (pi_str (pv 1)) (blkOk_by (N := nm_l_texts_right) (sc := defScope st_l_texts_right) (own := [("_law_sign", 9)]) (by decide +kernel)) (fun _ _ _ _ _ => by exact pg_name (i := 9) sc_l_texts_right.nd rfl (Or.inl rfl)) (fun _ _ _ _ _ => pts_one (pt_cmpR op_in_sign (pv 9) pe_str rfl)) (fun _ _ _ _ _ => (pv 9))) (pe_lst pa_nil) (nomark _)) (nomark _)) (pw_or1 (pt_cmpR op_ne (pe_cl C_is_sound (hr.mono (by decide)) rfl (pa_cons (pv 1) pa_nil)) (pe_cmpR op_eq (pe_callB call_len_str (by rfl) T.n_len (by decide +kernel) (pa_cons (pv 1) pa_nil)) pe_int (nomark _)) (nomark _))))) (pss_one (ps_ret pe_bl)) pss_nil)
  (pss_cons (ps_if (PW.pt (pw_or (pt_not (pt_val (pe_clK0 C_is_word (fun F => kb1 F fun _ _ _ _ _ _ _ => rfl) (hr.mono (by decide)) rfl (pk_cons (pv 3) pk_nil)))) (pw_or (pt_cmpR op_ne (pe_cl C_is_name (hr.mono (by decide)) rfl (pa_cons (pv 3) pa_nil)) (pe_cmpR op_ne (pv 3) pe_str (nomark _)) (nomark _)) (pw_or (pt_val (pe_cl C_is_word (hr.mono (by decide)) rfl (pa_cons (pe_op op_add_str (pe_slice sl_str (pv 3) po_none (po_some pe_int)) (pv 8)) pa_nil))) (pw_or (pt_val (pe_cl C_is_word (hr.mono (by decide)) rfl (pa_cons (pe_op op_add_str (pv 8) (pe_slice sl_str (pv 3) po_none (po_some pe_int))) pa_nil))) (pw_or1 (pt_val (pe_cl C_is_word (hr.mono (by decide)) rfl (pa_cons (pe_op op_add_str (pe_slice sl_str (pv 3) po_none (po_some pe_int)) pe_str) pa_nil))))))))) (pss_one (ps_ret pe_bl)) pss_nil)
  (pss_cons (ps_if (PW.pt (pw_or (pt_cmpR op_ne (pe_cl C_is_sound (hr.mono (by decide)) rfl (pa_cons (pv 3) pa_nil)) (pe_cmpR op_eq (pe_callB call_len_str (by rfl) T.n_len (by decide +kernel) (pa_cons (pv 3) pa_nil)) pe_int (nomark _)) (nomark _)) (pw_or (pt_val (pe_cl C_is_sound (hr.mono (by decide)) rfl (pa_cons (pv 8) pa_nil))) (pw_or (pt_val (pe_cl C_is_sound (hr.mono (by decide)) rfl (pa_cons pe_str pa_nil))) (pw_or (pt_not (pt_val (pe_clK0 C_is_sound (fun F => kb1 F fun _ _ _ _ _ _ _ => rfl) (hr.mono (by decide)) rfl (pk_cons (pe_cl C__law_pick (hr.mono (by decide)) rfl (pa_cons (pv 0) (pa_cons (pe_callTy (call_listS rfl) (by rfl) T.n_list (by decide +kernel) (pa_cons (pv 5) pa_nil)) pa_nil))) pk_nil)))) (pw_or1 (pt_val (pe_cl C_is_sound (hr.mono (by decide)) rfl (pa_cons pe_str pa_nil))))))))) (pss_one (ps_ret pe_bl)) pss_nil)
  (pss_cons (ps_if (PW.pt (pw_or (pt_val (pe_cl C_is_name (hr.mono (by decide)) rfl (pa_cons (pe_op op_add_str (pv 1) (pe_op op_mulS pe_str (pe_op op_sub pe_int (pe_callB call_len_str (by rfl) T.n_len (by decide +kernel) (pa_cons (pv 1) pa_nil))))) pa_nil))) (pw_or (pt_not (pt_val (pe_cl C_is_name (hr.mono (by decide)) rfl (pa_cons (pe_op op_add_str (pv 1) (pe_op op_mulS pe_str (pe_op op_sub pe_int (pe_callB call_len_str (by rfl) T.n_len (by decide +kernel) (pa_cons (pv 1) pa_nil))))) pa_nil)))) (pw_or (pt_val (pe_cl C_is_name (hr.mono (by decide)) rfl (pa_cons pe_str pa_nil))) (pw_or1 (pt_not (pt_val (pe_cl C_is_word (hr.mono (by decide)) rfl (pa_cons pe_str pa_nil))))))))) (pss_one (ps_ret pe_bl)) pss_nil)
  (pss_cons (ps_if (PW.pt (pw_or (pt_val (pe_cl C_is_word (hr.mono (by decide)) rfl (pa_cons (pe_op op_add_str (pv 3) (pe_op op_mulS pe_str (pe_op op_sub pe_int (pe_callB call_len_str (by rfl) T.n_len (by decide +kernel) (pa_cons (pv 3) pa_nil))))) pa_nil))) (pw_or1 (pt_not (pt_val (pe_cl C_is_word (hr.mono (by decide)) rfl (pa_cons (pe_op op_add_str (pv 3) (pe_op op_mulS pe_str (pe_op op_sub pe_int (pe_callB call_len_str (by rfl) T.n_len (by decide +kernel) (pa_cons (pv 3) pa_nil))))) pa_nil))))))) (pss_one (ps_ret pe_bl)) pss_nil)
  (pss_cons (ps_set (i := 4) sc_l_texts_right.nd rfl (Or.inl rfl) (pe_cl C__law_pick (hr.mono (by decide)) rfl (pa_cons (pv 0) (pa_cons (pe_lst (pa_cons pe_non (pa_cons pe_int (pa_cons pe_bl (pa_cons (pe_lst (pa_cons pe_str pa_nil)) (pa_cons (pe_tup (pa_cons pe_str pa_nil)) (pa_cons pe_dnewK (pa_cons (pe_lst (pa_cons pe_str (pa_cons pe_str pa_nil))) pa_nil)))))))) pa_nil))))
  (pss_one (ps_ret (pe_and (pe_not (pe_cl C_is_name (hr.mono (by decide)) rfl (pa_cons (pv 4) pa_nil))) (pe_and (pe_not (pe_cl C_is_word (hr.mono (by decide)) rfl (pa_cons (pv 4) pa_nil))) (pe_and (pe_not (pe_cl C_is_sound (hr.mono (by decide)) rfl (pa_cons (pv 4) pa_nil))) (pe_one (pe_not (pe_cl C_is_stock (hr.mono (by decide)) rfl (pa_cons (pv 4) pa_nil))))))))))))))))))))), ?_⟩
    obtain ⟨p, T, rfl, hp, hT, q⟩ := h
    refine ⟨(by show 2 ≤ sizeLine; decide), fun t0 n0 => ⟨t0, _, rfl, SqT.of upd_same, rfl, _, _, rfl, _, _, rfl, rfl, ?_⟩⟩
    have hp0 := hp.sm (Sm.new (o := .tup [.str AZ, .str AZ9]) n0)
    have k0 : KB p H _ := KB.sm (Sm.new (o := .tup [.str AZ, .str AZ9]) n0)
    refine pick_sign (i := 5) (z := AZ) rfl rfl hp0 (by omega) (by rw [az_len]; decide) (by rw [az_len]; decide) fun H1 c kb1 hp1 hc => ?_
    have hc := az_all c hc
    have k1 := KB.trans k0 kb1
    clear k0 kb1 hp0
    refine ⟨_, rfl, p, 12, _, rfl, hp1, by omega, by decide, by decide, fun H2 m kb2 hp2 m0 m1 => ⟨m, rfl, by omega, by omega, ?_⟩⟩
    have k2 := KB.trans k1 kb2
    clear k1 kb2
    refine for_it (n := m.toNat) walk_range (fun i σ H' => ∃ (l : List Nat) (v2 : Option V), σ = [some (.ref p), some (.str (Tx l)), v2, none, none, some (.str AZ), some (.str AZ9), none, none, none] ∧ KB p H H' ∧ PenAt H' p (T + 10 + i) ∧ l.length = i + 1 ∧
      (l.all fun c => isaz c || is09 c) = true ∧ isaz (l.getD 0 0) = true) ⟨[c], _, rfl, k2, hp2.mono (by omega), rfl, by simp [hc], hc⟩ (fun _ _ _ _ _ => trivial) ?_ ?_
    · rintro i x σ H3 H3' hi ⟨l, v2, rfl, k3, hp3, hl, hall, hh⟩ ⟨rfl, rfl⟩
      refine ⟨_, rfl, ?_⟩
      refine pick_sign (i := 6) (z := AZ9) rfl rfl hp3 (by omega) (by rw [az9_len]; decide) (by rw [az9_len]; decide) fun H4 d kb4 hp4 hd => ?_
      have hd := az9_all d hd
      refine ⟨_, _, rfl, rfl, cat_le (by rw [tx_len]; omega) (by rw [tx_len]; show 1 ≤ 1000; decide), ?_⟩
      refine ⟨l ++ [d], _, (by rw [← tx_app]; rfl), KB.trans k3 kb4, hp4, (by rw [List.length_append, hl]; rfl), ?_, ?_⟩
      · rw [List.all_append, hall]
        simp [hd]
      · rw [List.getD_eq_getElem?_getD, List.getElem?_append_left (by omega), ← List.getD_eq_getElem?_getD]
        exact hh
    · rintro σ H3 ⟨l, v2, rfl, k3, hp3, hl, hall, hh⟩
      refine ⟨⟨_, rfl⟩, _, rfl, p, 13, _, rfl, hp3, by omega, by decide, by decide, fun H4 n kb4 hp4 n0 n1 => ⟨n, rfl, by omega, by omega, fun D hD => ?_⟩⟩
      have hp4 := hp4.mono (T' := T + 30) (by omega)
      refine lc_it (n := n.toNat) walk_range (LPv p H4 D (T + 30) (fun v => ∃ c : Nat, v = .str (Tx [c]) ∧ isaz c = true)) (lpv0 hp4 hD) (fun _ _ _ _ => trivial) ?_ ?_
      · rintro j x H5 H5' hj hL ⟨rfl, rfl⟩
        refine ⟨rfl, ?_⟩
        refine pick_sign (i := 5) (z := AZ) rfl rfl hL.2.1 (by omega) (by rw [az_len]; decide) (by rw [az_len]; decide) fun H6 c kb6 hp6 hc => ?_
        exact lpv_put hp4 hD hL kb6 hp6 (by omega) ⟨c, rfl, az_all c hc⟩
      · rintro H5 ⟨kbL, hpL, acc, eD, hlen, hG⟩
        obtain ⟨wl, rfl, hw⟩ := strs_of acc hG
        rw [List.length_map, List.length_map] at hlen
        have k5 := KB.trans (KB.trans k3 kb4) kbL
        clear k3 kb4 kbL hG
        refine ⟨_, D, _, rfl, rfl, .inl (SqL.of eD), join_len wl (by omega), ?_⟩
        rw [join_tx]
        have hl12 : l.length ≤ 12 := by omega
        have hw12 : wl.length ≤ 12 := by omega
        have hl1 : 1 ≤ l.length := by omega
        clear eD hlen
        refine ⟨_, rfl, _, rfl, Tx l, rfl, txs (by omega), _, _, rfl, rfl, p, _, _, rfl, hpL, by omega, (by rw [tx_len]; omega), (by rw [tx_len]; omega), fun H6 at_ kb6 hp6 at0 at1 => ?_⟩
        obtain ⟨a, rfl⟩ : ∃ a : Nat, at_ = (a : Int) := ⟨at_.toNat, by omega⟩
        refine ⟨_, rfl, (by show 13 ≤ sizeLine; decide), fun l7 n7 => ?_⟩
        refine ⟨p, l7, _, _, rfl, hp6.sm (Sm.new n7), by omega, SqL.of upd_same, hp6.ne n7, by simp, by simp, fun H8 ov kb8 hp8 hm => ?_⟩
        obtain ⟨o, rfl, ho1, ho2⟩ : ∃ o : Nat, ov = .str (Tx [o]) ∧ isaz o = false ∧ is09 o = false := by
          simp only [List.mem_cons, List.not_mem_nil, or_false] at hm
          rcases hm with rfl | rfl | rfl | rfl | rfl | rfl | rfl | rfl | rfl | rfl | rfl | rfl | rfl <;> exact ⟨_, rfl, by decide, by decide⟩
        refine ⟨.int a, .str (Tx [o]), rfl, ?_⟩
        have k8 := KB.trans k5 (KB.trans (KB.trans kb6 (KB.sm (Sm.new n7))) kb8)
        clear hm k5 kb6 kb8
        have nm : nmOk l = true := nm_of hl1 hl12 hall hh
        have bad : nmOk (l.take a ++ [o] ++ l.drop a) = false := nm_bad (by simp) ho1 ho2
        have sev : nmOk (55 :: l.take 5) = false := by
          unfold nmOk
          rw [show isaz ((55 :: l.take 5).getD 0 0) = false from rfl, Bool.and_false]
        have lT : (Tx l).length ≤ 1000 := by rw [tx_len]; omega
        have wT : (Tx wl).length ≤ 1000 := by rw [tx_len]; omega
        have oT : (Tx [o]).length ≤ 1000 := by rw [tx_len]; show 1 ≤ 1000; decide
        have cT : ∀ lo hi, (cutS (Tx l) lo hi).length ≤ 1000 := fun lo hi => Nat.le_trans (cutS_length _ _ _) lT
        have cW : ∀ lo hi, (cutS (Tx wl) lo hi).length ≤ 1000 := fun lo hi => Nat.le_trans (cutS_length _ _ _) wT
        refine ⟨_, rfl, _, rfl, .inl ⟨l, rfl, by omega, _, rfl, ?_⟩⟩
        rw [nm]
        refine iteF ?_
        refine ⟨_, rfl, _, rfl, (a : Int), rfl, Tx l, rfl, txs (by omega), _, rfl, _, _, rfl, rfl, cat_le (cT _ _) oT, ?_⟩
        refine ⟨_, rfl, _, rfl, (a : Int), rfl, Tx l, rfl, txs (by omega), _, _, rfl, rfl, cat_le (by rw [cut_to, tx_app, tx_len, List.length_append, List.length_take]; show _ + 1 ≤ 1000; omega) (cT _ _), ?_⟩
        refine ⟨_, rfl, .inl ⟨_, congrArg V.str (emid l [o] a), (by rw [List.length_append, List.length_append, List.length_take, List.length_drop]; show _ + 1 + _ ≤ 1000; omega), _, rfl, ?_⟩⟩
        rw [bad]
        refine iteF ?_
        refine ⟨_, rfl, 5, rfl, Tx l, rfl, txs (by omega), _, _, rfl, rfl, cat_le (by decide) (cT _ _), _, rfl, .inl ⟨_, congrArg V.str (e7 l), (by rw [List.length_cons, List.length_take]; omega), _, rfl, ?_⟩⟩
        rw [sev]
        refine iteF ?_
        -- words and sounds of the name
        refine ⟨_, rfl, _, rfl, .inl ⟨l, rfl, by omega, ?_⟩⟩
        refine ⟨_, rfl, _, rfl, fun D hD => ?_⟩
        refine lc_it (n := l.length) (by have h := walk_str (z := Tx l); rw [tx_size] at h; exact h) (SPv H8 D fun i => ((l.take i).filter is09).map fun c => V.str (Tx [c])) (spv0 hD rfl) (fun _ _ _ _ => trivial) ?_ ?_
        · rintro i x H9 H9' hi ⟨p1, p2⟩ ⟨rfl, c, g, rfl⟩
          have hc := tx_at g
          refine ⟨rfl, ?_⟩
          refine ⟨_, rfl, c, _, rfl, rfl, _, rfl, ?_⟩
          rw [dig_iff]
          refine ite2 (fun cc => ?_) (fun cc => ?_)
          · refine ⟨_, rfl, ?_⟩
            refine spv_put hD p1 p2 ?_ ?_
            · rw [List.length_map]
              refine Nat.lt_of_le_of_lt (List.length_filter_le _ _) ?_
              rw [List.length_take]
              omega
            · rw [List.take_succ, List.filter_append, hc, List.map_append]
              show _ = _ ++ [V.str (Tx [c])]
              congr 1
              show List.map _ (List.filter is09 [c]) = _
              rw [List.filter_cons, if_pos cc]
              rfl
          · refine ⟨p1, ?_⟩
            rw [p2]
            dsimp only
            rw [List.take_succ, List.filter_append, hc]
            have e : List.filter is09 (some c).toList = [] := by
              show List.filter is09 [c] = []
              rw [List.filter_cons, if_neg cc]
              rfl
            rw [e, List.append_nil]
        · rintro H9 ⟨p1, p2⟩
          dsimp only at p2
          rw [List.take_length] at p2
          have hok : (((l.filter is09).map fun c => V.str (Tx [c]))).all datOk = true := List.all_eq_true.mpr fun v hv => by
            obtain ⟨_, hm, rfl⟩ := List.mem_map.mp hv
            exact dat_sign (by have := (Bool.and_eq_true_iff.mp (List.mem_filter.mp hm).2).2; have := of_decide_eq_true this; omega)
          have hEq : (lw l && decide (l.length ≤ 12)) = ((l.filter is09).map fun c => V.str (Tx [c])).isEmpty := by
            rw [decide_eq_true hl12, Bool.and_true]
            exact lw_filter hall
          refine ⟨(by show 0 ≤ sizeLine; decide), fun z1 y1 => ?_⟩
          have u1 := Sm.new (o := .lst []) y1
          refine eqD_nil (SqL.of (u1 _ _ p2)) (SqL.of upd_same) hok ⟨rfl, _, rfl, ?_⟩
          rw [hEq, decide_eq_true rfl]
          refine iteF ?_
          have s1 := Same.trans p1 u1
          refine ⟨_, rfl, _, rfl, .inl ⟨l, rfl, by omega, _, rfl, Tx l, rfl, txs (by omega), rfl, rfl, _, rfl, ?_⟩⟩
          have hs : (lw l && decide (l.length = 1)) = decide (V.int ((Tx l).length : Nat) = V.int 1) := by
            rw [len_int]
            by_cases c1 : l.length = 1
            · rw [decide_eq_true c1, Bool.and_true]
              match l, c1, hh with
              | [c], _, hh => 
                show (isaz c && true) = true
                rw [Bool.and_true]
                exact hh
            · rw [decide_eq_false c1, Bool.and_false]
          rw [hs, decide_eq_true rfl]
          refine iteF ?_
          have lwl : lw wl = true := List.all_eq_true.mpr hw
          have ww : (lw wl && decide (wl.length ≤ 12)) = true := by rw [lwl, decide_eq_true hw12]; rfl
          have nmw : nmOk wl = !decide (V.str (Tx wl) = V.str (Str.ofString "")) := by
            cases wl with
            | nil => rfl
            | cons c r =>
              rw [decide_eq_false (show ¬ V.str (Tx (c :: r)) = V.str (Str.ofString "") from fun z => by
                have e : Tx (c :: r) = Tx [] := V.str.inj z
                cases tx_inj e)]
              exact nm_of (by simp) hw12 (az_or hw) (hw c List.mem_cons_self)
          have hs1 : ∀ n : Nat, (lw wl && decide (wl.length = n)) = decide (wl.length = n) := fun n => by rw [lwl, Bool.true_and]
          refine ⟨_, rfl, _, rfl, .inl ⟨wl, rfl, by omega, _, rfl, ?_⟩⟩
          rw [ww]
          refine iteF ?_
          refine ⟨_, rfl, _, rfl, .inl ⟨wl, rfl, by omega, _, rfl, rfl, rfl, _, rfl, ?_⟩⟩
          rw [nmw, decide_eq_true rfl]
          refine iteF ?_
          refine ⟨_, rfl, 11, rfl, Tx wl, rfl, txs (by omega), _, rfl, _, _, rfl, rfl, cat_le (cW _ _) oT, _, rfl, .inl ⟨_, congrArg V.str (e11 wl [o]), (by rw [List.length_append, List.length_take]; show _ + 1 ≤ 1000; omega), _, rfl, ?_⟩⟩
          rw [lw_bad (l := wl.take 11 ++ [o]) (by simp) ho1, Bool.false_and]
          refine iteF ?_
          refine ⟨_, rfl, _, rfl, 11, rfl, Tx wl, rfl, txs (by omega), _, _, rfl, rfl, cat_le oT (cW _ _), _, rfl, .inl ⟨_, congrArg V.str (e11b wl [o]), (by rw [List.length_append, List.length_take]; show 1 + _ ≤ 1000; omega), _, rfl, ?_⟩⟩
          rw [lw_bad (l := [o] ++ wl.take 11) (by simp) ho1, Bool.false_and]
          refine iteF ?_
          refine ⟨_, rfl, 11, rfl, Tx wl, rfl, txs (by omega), _, _, rfl, rfl, cat_le (cW _ _) (by decide), _, rfl, .inl ⟨_, congrArg V.str (e11 wl [53]), (by rw [List.length_append, List.length_take]; show _ + 1 ≤ 1000; omega), _, rfl, ?_⟩⟩
          rw [lw_bad (l := wl.take 11 ++ [53]) (o := 53) (by simp) (by decide), Bool.false_and]
          refine iteF ?_
          -- sounds
          refine ⟨_, rfl, _, rfl, .inl ⟨wl, rfl, by omega, _, rfl, Tx wl, rfl, txs (by omega), rfl, rfl, _, rfl, ?_⟩⟩
          rw [hs1, len_int, decide_eq_true rfl]
          refine iteF ?_
          refine ⟨_, rfl, _, rfl, .inl ⟨[o], rfl, (by show 1 ≤ 1000; decide), _, rfl, ?_⟩⟩
          rw [lw_bad (l := [o]) (by simp) ho1, Bool.false_and]
          refine iteF ?_
          refine ⟨_, rfl, .inl ⟨[], rfl, by decide, _, rfl, ?_⟩⟩
          refine iteF ?_
          refine pick_sign (i := 5) (z := AZ) rfl rfl (hp8.sm s1) (by omega) (by rw [az_len]; decide) (by rw [az_len]; decide) fun H10 c10 kb10 hp10 hc10 => ?_
          have k10 := KB.trans (KB.trans k8 (KB.sm s1)) kb10
          have hz10 : (lw [c10] && decide ([c10].length = 1)) = true := by
            show ((isaz c10 && true) && true) = true
            rw [az_all c10 hc10]
            rfl
          refine ⟨_, rfl, .inl ⟨[c10], rfl, (by show 1 ≤ 1000; decide), _, rfl, ?_⟩⟩
          rw [hz10]
          refine iteF ?_
          refine ⟨_, rfl, .inl ⟨[55], rfl, by decide, _, rfl, ?_⟩⟩
          refine iteF ?_
          -- filled up
          refine ⟨_, rfl, _, rfl, Tx l, rfl, txs (by omega), _, _, rfl, rfl, _, _, rfl, rfl, rfl, (by rw [tx_len]; omega), (by rw [tx_len]; omega), ?_⟩
          refine ⟨_, _, rfl, rfl, cat_le (by rw [tx_len]; omega) (by rw [rep_tx, tx_len, List.length_replicate, tx_len]; omega), _, rfl, .inl ⟨_, congrArg V.str (ez l _), (by rw [List.length_append, List.length_replicate, tx_len]; omega), _, rfl, ?_⟩⟩
          have hN : (l ++ List.replicate (13 - ((Tx l).length : Int)).toNat 122).length = 13 := by rw [List.length_append, List.length_replicate, tx_len]; omega
          rw [nm_long (by rw [hN]; decide)]
          refine iteF ?_
          clear hN
          refine ⟨_, rfl, _, rfl, Tx l, rfl, txs (by omega), _, _, rfl, rfl, _, _, rfl, rfl, rfl, (by rw [tx_len]; omega), (by rw [tx_len]; omega), ?_⟩
          refine ⟨_, _, rfl, rfl, cat_le (by rw [tx_len]; omega) (by rw [rep_tx, tx_len, List.length_replicate, tx_len]; omega), _, rfl, .inl ⟨_, congrArg V.str (ez l _), (by rw [List.length_append, List.length_replicate, tx_len]; omega), _, rfl, ?_⟩⟩
          have hN : (l ++ List.replicate (12 - ((Tx l).length : Int)).toNat 122).length = 12 := by rw [List.length_append, List.length_replicate, tx_len]; omega
          rw [nm_of (by rw [hN]; decide) (by rw [hN]; decide) (by rw [List.all_append, hall, Bool.true_and]; exact az_or fun c hc => List.all_eq_true.mp (all_z _) c hc) (by rw [head_app hl1]; exact hh)]
          refine iteF ?_
          clear hN
          refine ⟨_, rfl, .inl ⟨[], rfl, by decide, _, rfl, ?_⟩⟩
          refine iteF ?_
          refine ⟨_, rfl, .inl ⟨[], rfl, by decide, _, rfl, ?_⟩⟩
          refine iteF ?_
          refine ⟨_, rfl, _, rfl, Tx wl, rfl, txs (by omega), _, _, rfl, rfl, _, _, rfl, rfl, rfl, (by rw [tx_len]; omega), (by rw [tx_len]; omega), ?_⟩
          refine ⟨_, _, rfl, rfl, cat_le (by rw [tx_len]; omega) (by rw [rep_tx, tx_len, List.length_replicate, tx_len]; omega), _, rfl, .inl ⟨_, congrArg V.str (ez wl _), (by rw [List.length_append, List.length_replicate, tx_len]; omega), _, rfl, ?_⟩⟩
          have hN : (wl ++ List.replicate (13 - ((Tx wl).length : Int)).toNat 122).length = 13 := by rw [List.length_append, List.length_replicate, tx_len]; omega
          have hv : (lw (wl ++ List.replicate (13 - ((Tx wl).length : Int)).toNat 122) && decide ((wl ++ List.replicate (13 - ((Tx wl).length : Int)).toNat 122).length ≤ 12)) = false := by
            rw [hN]
            exact Bool.and_false _
          rw [hv]
          refine iteF ?_
          clear hN hv
          refine ⟨_, rfl, _, rfl, Tx wl, rfl, txs (by omega), _, _, rfl, rfl, _, _, rfl, rfl, rfl, (by rw [tx_len]; omega), (by rw [tx_len]; omega), ?_⟩
          refine ⟨_, _, rfl, rfl, cat_le (by rw [tx_len]; omega) (by rw [rep_tx, tx_len, List.length_replicate, tx_len]; omega), _, rfl, .inl ⟨_, congrArg V.str (ez wl _), (by rw [List.length_append, List.length_replicate, tx_len]; omega), _, rfl, ?_⟩⟩
          have hN : (wl ++ List.replicate (12 - ((Tx wl).length : Int)).toNat 122).length = 12 := by rw [List.length_append, List.length_replicate, tx_len]; omega
          have hlz : lw (wl ++ List.replicate (12 - ((Tx wl).length : Int)).toNat 122) = true := by
            unfold lw
            rw [List.all_append, all_z, Bool.and_true]
            exact lwl
          have hv : (lw (wl ++ List.replicate (12 - ((Tx wl).length : Int)).toNat 122) && decide ((wl ++ List.replicate (12 - ((Tx wl).length : Int)).toNat 122).length ≤ 12)) = true := by
            rw [hN, hlz]
            rfl
          rw [hv]
          refine iteF ?_
          clear hN
          -- values that are no texts
          refine ⟨_, rfl, (by show 1 ≤ sizeLine; decide), fun g1 m1 => ⟨(by show 1 ≤ sizeLine; decide), fun g2 m2 => fun g3 m3 => ⟨(by show 2 ≤ sizeLine; decide), fun g4 m4 => ⟨(by show 7 ≤ sizeLine; decide), fun g5 m5 => ?_⟩⟩⟩⟩
          have r1 := Sm.new (o := .lst [.str "a"]) m1
          have r2 := Sm.new (o := .tup [.str "a"]) m2
          have r3 := Sm.new (o := .dK []) m3
          have r4 := Sm.new (o := .lst [.str "", .str "a"]) m4
          have r5 := Sm.new (o := .lst [.non, .int 5, .bl true, .ref g1, .ref g2, .ref g3, .ref g4]) m5
          have pen4 := (((hp10.sm r1).sm r2).sm r3).sm r4
          refine ⟨p, g5, _, _, rfl, pen4.sm r5, by omega, SqL.of upd_same, pen4.ne m5, by simp, by simp, fun H12 sv kb12 hp12 hm => ?_⟩
          have hkd : ∃ n, Kd K H12 sv n ∧ (n == "str") = false := by
            simp only [List.mem_cons, List.not_mem_nil, or_false] at hm
            rcases hm with rfl | rfl | rfl | rfl | rfl | rfl | rfl
            · exact ⟨"NoneType", ⟨.base .non, by decide⟩, by decide⟩
            · exact ⟨"int", kd_int, by decide⟩
            · exact ⟨"bool", ⟨.base (.bl _), by decide⟩, by decide⟩
            · exact ⟨"list", ⟨.base (.lst (kb12.kb _ _ (hp10.ne m1) (r5 _ _ (r4 _ _ (r3 _ _ (r2 _ _ upd_same)))))), by decide⟩, by decide⟩
            · exact ⟨"tuple", ⟨.base (.tup (kb12.kb _ _ ((hp10.sm r1).ne m2) (r5 _ _ (r4 _ _ (r3 _ _ upd_same))))), by decide⟩, by decide⟩
            · exact ⟨"dict", ⟨.base (.dK (kb12.kb _ _ (((hp10.sm r1).sm r2).ne m3) (r5 _ _ (r4 _ _ upd_same)))), by decide⟩, by decide⟩
            · exact ⟨"list", ⟨.base (.lst (kb12.kb _ _ ((((hp10.sm r1).sm r2).sm r3).ne m4) (r5 _ _ upd_same))), by decide⟩, by decide⟩
          obtain ⟨kn, kd, hkn⟩ := hkd
          have k12 := KB.trans k10 (KB.trans (KB.sm (Same.trans (Same.trans r1 r2) (Same.trans r3 (Same.trans r4 r5)))) kb12)
          refine ⟨_, rfl, _, rfl, .inr ⟨kn, kd, hkn, _, rfl, true, rfl, iteT ?_⟩⟩
          refine ⟨_, rfl, _, rfl, .inr ⟨kn, kd, hkn, _, rfl, true, rfl, iteT ?_⟩⟩
          refine ⟨_, rfl, _, rfl, .inr ⟨kn, kd, hkn, _, rfl, true, rfl, iteT ?_⟩⟩
          refine ⟨_, rfl, _, rfl, .inr ⟨kn, kd, hkn, _, rfl, ?_⟩⟩
          exact q _ k12 (hp12.mono (by omega))
end
end K0
namespace K0
open PySem PySem.Spec PyProof.Rows L2
theorem ris_iff : ∀ l : List Nat, ris l = true ↔ l.Pairwise (· < ·)
  | [] => by simp [ris]
  | [_] => by simp [ris]
  | a :: b :: r => by
    rw [List.pairwise_cons]
    show (decide (a < b) && ris (b :: r)) = true ↔ _
    rw [Bool.and_eq_true, decide_eq_true_iff, ris_iff (b :: r)]
    constructor
    · rintro ⟨h1, h2⟩
      refine ⟨fun c hc => ?_, h2⟩
      rcases List.mem_cons.mp hc with rfl | hc
      · exact h1
      · exact Nat.lt_trans h1 ((List.pairwise_cons.mp h2).1 c hc)
    · rintro ⟨h1, h2⟩
      exact ⟨h1 b List.mem_cons_self, h2⟩
theorem lt_one (a b : Nat) : ltCps [a] [b] = decide (a < b) := by
  show (decide (a < b) || (a == b && false)) = _
  rw [Bool.and_false, Bool.or_false]
/-- the signs as texts -/
def sg (l : List Nat) : List Str := l.map fun c => Tx [c]
theorem sg_inj : ∀ {l k : List Nat}, sg l = sg k → l = k
  | [], [], _ => rfl
  | [], _ :: _, h => by cases h
  | _ :: _, [], h => by cases h
  | a :: l, b :: k, h => by
    have h1 := List.cons.inj h
    have e1 : [a] = [b] := tx_inj h1.1
    have e2 : l = k := sg_inj h1.2
    rw [(List.cons.inj e1).1, e2]
theorem sg_perm : ∀ {ys : List Str} {l : List Nat}, ys.Perm (sg l) → ∃ k, ys = sg k ∧ k.Perm l := by
  intro ys l h
  have : ∀ y ∈ ys, ∃ c, y = Tx [c] := fun y hy => by
    obtain ⟨c, _, e⟩ := List.mem_map.mp (h.mem_iff.mp hy)
    exact ⟨c, e.symm⟩
  have h2 : ys = sg (ys.map fun y => y.cps.getD 0 0) := by
    clear h
    induction ys with
    | nil => rfl
    | cons y r ih =>
      obtain ⟨c, rfl⟩ := this y List.mem_cons_self
      have := ih fun z hz => this z (List.mem_cons_of_mem _ hz)
      show Tx [c] :: r = Tx [c] :: sg (r.map fun y => y.cps.getD 0 0)
      rw [← this]
  refine ⟨_, h2, ?_⟩
  have h3 := h.map fun y => y.cps.getD 0 0
  have h4 : (sg l).map (fun y => y.cps.getD 0 0) = l := by
    unfold sg
    rw [List.map_map]
    exact List.map_id'' (fun _ => rfl) l
  rw [h4] at h3
  exact h3
theorem sortedS_sg : ∀ k : List Nat, sortedS (sg k) = true ↔ k.Pairwise (· ≤ ·) := by
  have go : ∀ (k : List Nat) (a : Nat), risingS (Tx [a]) (sg k) = true ↔ (a :: k).Pairwise (· ≤ ·) := by
    intro k
    induction k with
    | nil => intro a; simp [sg, risingS]
    | cons b r ih =>
      intro a
      show risingS (Tx [a]) (Tx [b] :: sg r) = true ↔ _
      show (!ltCps [b] [a] && risingS (Tx [b]) (sg r)) = true ↔ _
      rw [Bool.and_eq_true, ih b, lt_one]
      constructor
      · rintro ⟨h1, h2⟩
        have h1 : a ≤ b := by
          rw [Bool.not_eq_true', decide_eq_false_iff_not] at h1
          omega
        refine List.pairwise_cons.mpr ⟨fun c hc => ?_, h2⟩
        rcases List.mem_cons.mp hc with rfl | hc
        · exact h1
        · exact Nat.le_trans h1 ((List.pairwise_cons.mp h2).1 c hc)
      · intro h
        obtain ⟨h1, h2⟩ := List.pairwise_cons.mp h
        refine ⟨?_, h2⟩
        rw [Bool.not_eq_true', decide_eq_false_iff_not]
        have := h1 b List.mem_cons_self
        omega
  intro k
  cases k with
  | nil => simp [sg, sortedS]
  | cons a r => exact go r a
theorem eqv_sg : ∀ l k : List Nat, PyData.eqvAll (((sg l).map V.str).map datV) (((sg k).map V.str).map datV) = decide (l = k)
  | [], [] => rfl
  | [], _ :: _ => rfl
  | _ :: _, [] => rfl
  | a :: l, b :: k => by
    have ih := eqv_sg l k
    show (PyData.eqv (.str (Tx [a])) (.str (Tx [b])) && PyData.eqvAll (((sg l).map V.str).map datV) (((sg k).map V.str).map datV)) = _
    rw [ih]
    have e : PyData.eqv (.str (Tx [a])) (.str (Tx [b])) = decide (a = b) := by
      show (Tx [a] == Tx [b]) = decide (a = b)
      by_cases h : a = b
      · subst h
        rw [beq_self_eq_true, decide_eq_true rfl]
      · rw [decide_eq_false h]
        exact beq_eq_false_iff_ne.mpr fun z => h (List.cons.inj (tx_inj z)).1
    rw [e, ← Bool.decide_and]
    apply decide_eq_decide.mpr
    simp
/-- places whose sign stands ahead, too -/
def dupL (l : List Nat) (n : Nat) : List Nat := (List.range n).filter fun i => decide (l.getD i 0 ∈ l.take i)
theorem dupL_succ (l : List Nat) (n : Nat) : dupL l (n + 1) = dupL l n ++ (if l.getD n 0 ∈ l.take n then [n] else []) := by
  unfold dupL
  rw [List.range_succ, List.filter_append]
  congr 1
  rw [List.filter_cons, List.filter_nil]
  by_cases c : l.getD n 0 ∈ l.take n
  · rw [if_pos c, if_pos (decide_eq_true c)]
  · rw [if_neg c, if_neg fun z => c (of_decide_eq_true z)]
theorem stock_iff (l k : List Nat) (hk : k.Perm l) (hs : k.Pairwise (· ≤ ·)) : ris l = (decide (l = k) && decide ((dupL l l.length).length = 0)) := by
  rw [Bool.eq_iff_iff, ris_iff, Bool.and_eq_true, decide_eq_true_iff, decide_eq_true_iff, List.length_eq_zero_iff]
  constructor
  · intro h
    refine ⟨?_, ?_⟩
    · exact (List.Perm.eq_of_pairwise (le := (· ≤ ·)) (fun a b _ _ h1 h2 => Nat.le_antisymm h1 h2) hs (h.imp fun h => Nat.le_of_lt h) hk).symm
    · unfold dupL
      refine List.filter_eq_nil_iff.mpr fun i hi z => ?_
      have hi := List.mem_range.mp hi
      have m := of_decide_eq_true z
      obtain ⟨j, hj, e⟩ := List.getElem_of_mem m
      rw [List.length_take] at hj
      rw [List.getElem_take] at e
      have h2 := List.pairwise_iff_getElem.mp h j i (by omega) hi (by omega)
      rw [e, List.getD_eq_getElem?_getD, List.getElem?_eq_getElem hi] at h2
      exact Nat.lt_irrefl _ h2
  · rintro ⟨rfl, hd⟩
    refine List.pairwise_iff_getElem.mpr fun i j hi hj hij => ?_
    have h1 := List.pairwise_iff_getElem.mp hs i j hi hj hij
    refine Nat.lt_of_le_of_ne h1 fun e => ?_
    have m : j ∈ dupL l l.length := List.mem_filter.mpr ⟨List.mem_range.mpr hj, decide_eq_true (by
      rw [List.getD_eq_getElem?_getD, List.getElem?_eq_getElem hj]
      show l[j] ∈ _
      rw [← e]
      exact List.mem_take_iff_getElem.mpr ⟨i, by omega, rfl⟩)⟩
    rw [hd] at m
    simp at m
/-- the last sign once more, or the signs from behind: no stock -/
theorem ris_last {l : List Nat} {c : Nat} (h : c ∈ l) : ris (l ++ [c]) = false := by
  cases e : ris (l ++ [c]) with
  | false => rfl
  | true =>
    have := (List.pairwise_append.mp ((ris_iff _).mp e)).2.2 c h c (by simp)
    exact absurd this (Nat.lt_irrefl _)
theorem ris_rev {l : List Nat} (h : ris l = true) (h1 : 1 ≤ l.length) : ris l.reverse = decide (l.length = 1) := by
  have hp := (ris_iff _).mp h
  match l, h1, hp with
  | [c], _, _ => rfl
  | a :: b :: r, _, hp =>
    rw [decide_eq_false (by simp)]
    cases e : ris (a :: b :: r).reverse with
    | false => rfl
    | true =>
      have h2 := List.pairwise_reverse.mp ((ris_iff _).mp e)
      have h3 := (List.pairwise_cons.mp h2).1 b List.mem_cons_self
      have h4 := (List.pairwise_cons.mp hp).1 b List.mem_cons_self
      omega
theorem inV_sg (c : Nat) (l : List Nat) : inV (.str ⟨#[c]⟩) ((sg l).map V.str) = decide (c ∈ l) := by
  unfold inV sg
  rw [List.any_map, List.any_map]
  induction l with
  | nil => rfl
  | cons a r ih =>
    rw [List.any_cons, ih]
    have e : (((fun y => eqV y (V.str ⟨#[c]⟩)) ∘ V.str) ∘ fun c => Tx [c]) a = decide (c = a) := by
      show (Tx [a] == Tx [c]) = decide (c = a)
      by_cases h : c = a
      · subst h
        rw [beq_self_eq_true, decide_eq_true rfl]
      · rw [decide_eq_false h]
        exact beq_eq_false_iff_ne.mpr fun z => h (List.cons.inj (tx_inj z)).1.symm
    rw [e]
    simp
theorem flat_sg (l : List Nat) : ((sg l).map V.str).all flatV = true := List.all_eq_true.mpr fun v hv => by
  obtain ⟨_, _, rfl⟩ := List.mem_map.mp hv
  rfl
theorem dat_sg {l : List Nat} (h : ∀ c ∈ l, isaz c = true) : ((sg l).map V.str).all datOk = true := List.all_eq_true.mpr fun v hv => by
  obtain ⟨x, hx, rfl⟩ := List.mem_map.mp hv
  obtain ⟨c, hc, rfl⟩ := List.mem_map.mp hx
  exact dat_sign (by have := az_lt (h c hc); omega)
theorem eqD_sg {K : PySem.W.Frag} {H : Hp} {Q : VK} {a b : Addr} {l k : List Nat} (h1 : SqL K H a ((sg l).map V.str)) (h2 : SqL K H b ((sg k).map V.str)) (o1 : ∀ c ∈ l, isaz c = true) (o2 : ∀ c ∈ k, isaz c = true) (q : Q (.bl (decide (l = k))) H) : rEqD K (.ref a) (.ref b) H Q := by
  refine ⟨.list (((sg l).map V.str).map datV), .list (((sg k).map V.str).map datV), .lst h1 (dp_all (dat_sg o1)), .lst h2 (dp_all (dat_sg o2)), dat_shaped (dat_sg o1), dat_shaped (dat_sg o2), ?_⟩
  have e : PyData.eqv (.list (((sg l).map V.str).map datV)) (.list (((sg k).map V.str).map datV)) = decide (l = k) := by
    rw [← eqv_sg]
    simp [PyData.eqv]
  rw [e]
  exact q
theorem andv {ta tb : TE} {σ : L2.St} {H : Hp} {Q : VK} {a b : Bool} (h : ∀ H', Same H H' → Q (.bl (a && b)) H') (h1 : ∀ Q1 : VK, (∀ H', Same H H' → Q1 (.bl a) H') → ta σ H Q1)
    (h2 : ∀ H', Same H H' → ∀ Q2 : VK, (∀ H'', Same H' H'' → Q2 (.bl b) H'') → tb σ H' Q2) : tAndV ta tb σ H Q := by
  refine h1 _ fun H' s' => ⟨a, rfl, ?_⟩
  refine ite2 (fun c => ?_) (fun c => ?_)
  · refine h2 H' s' _ fun H'' s'' => ?_
    have := h H'' (Same.trans s' s'')
    rw [c, Bool.true_and] at this
    exact this
  · have := h H' s'
    rw [Bool.eq_false_iff.mpr c, Bool.false_and] at this
    exact this
theorem sorted_eq (l k : List Nat) (hk : k.Perm l) (hs : k.Pairwise (· ≤ ·)) : decide (l = k) = decide (l.Pairwise (· ≤ ·)) := by
  apply decide_eq_decide.mpr
  constructor
  · rintro rfl
    exact hs
  · intro h
    exact (List.Perm.eq_of_pairwise (le := (· ≤ ·)) (fun a b _ _ h1 h2 => Nat.le_antisymm h1 h2) hs h hk).symm
theorem ris_two (l : List Nat) : ris l = (decide (l.Pairwise (· ≤ ·)) && decide ((dupL l l.length).length = 0)) := by
  have hs : (l.mergeSort (fun a b => decide (a ≤ b))).Pairwise (· ≤ ·) := by
    have := List.pairwise_mergeSort (le := fun a b : Nat => decide (a ≤ b)) (fun a b c h1 h2 => decide_eq_true (Nat.le_trans (of_decide_eq_true h1) (of_decide_eq_true h2))) (fun a b => by
      rcases Nat.le_total a b with h | h
      · rw [decide_eq_true h]; rfl
      · rw [decide_eq_true h, Bool.or_true]) l
    exact this.imp fun h => of_decide_eq_true h
  rw [← sorted_eq l _ (List.mergeSort_perm l _) hs]
  exact stock_iff l _ (List.mergeSort_perm l _) hs
def azl : List Nat := AZ.cps.toList
theorem azl_eq : azl = [97, 98, 99, 100, 101, 102, 103, 104, 105, 106, 107, 108, 109, 110, 111, 112, 113, 114, 115, 116, 117, 118, 119, 120, 121, 122] := by decide +kernel
theorem azl_lt : azl.Pairwise (· < ·) := by
  rw [azl_eq]
  decide +kernel
theorem azl_mem {c : Nat} (h : isaz c = true) : c ∈ azl := by
  have : ∀ c, c < 128 → isaz c = true → c ∈ azl := by
    rw [azl_eq]
    decide +kernel
  exact this c (az_lt h) h
theorem azl_at {i c : Nat} (h : AZ.cps[i]? = some c) : azl[i]? = some c := by
  unfold azl
  rw [Array.getElem?_toList]
  exact h
theorem lack_pos {l : List Nat} (h : l.length ≤ 5) : 1 ≤ (azl.filter fun c => !decide (c ∈ l)).length := by
  cases e : azl.filter fun c => !decide (c ∈ l) with
  | cons x r => simp
  | nil =>
    have h2 : ∀ c ∈ azl, c ∈ l := fun c hc => by
      have := List.filter_eq_nil_iff.mp e c hc
      simpa using this
    have h3 := List.Nodup.length_le_of_subset (azl_lt.imp fun h => Nat.ne_of_lt h) (fun c hc => h2 c hc)
    rw [azl_eq] at h3
    have : (26 : Nat) ≤ l.length := h3
    omega
theorem cutV_take (xs : List V) (n : Nat) : cutV xs none (some (n : Int)) = xs.take n := by
  unfold cutV
  rw [HT.sIx_none, HT.sIx_nat, List.drop_zero, Nat.sub_zero]
  by_cases h : n ≤ xs.length
  · rw [Nat.min_eq_left h]
  · rw [Nat.min_eq_right (by omega), List.take_of_length_le (by simp), List.take_of_length_le (by omega)]
theorem cut_last (l : List Nat) (c : Nat) : cutS (Tx (l ++ [c])) (some (-1)) none = Tx [c] := by
  unfold cutS
  rw [tx_list, tx_len, HT.sIx_none]
  have e : HT.sIx (l ++ [c]).length 0 (some (-1)) = l.length := by
    show (if (-1 : Int) < 0 then (-1 + ((l ++ [c]).length : Int)).toNat else min (-1 : Int).toNat (l ++ [c]).length) = _
    rw [if_pos (by decide), List.length_append]
    show (-1 + ((l.length + 1 : Nat) : Int)).toNat = l.length
    omega
  rw [e, List.drop_left]
  rw [show (l ++ [c]).length - l.length = 1 by rw [List.length_append]; show l.length + 1 - l.length = 1; omega]
  rfl
theorem st_bad {l : List Nat} {o : Nat} (h : o ∈ l) (h1 : isaz o = false) : stOk l = false := by
  unfold stOk
  rw [lw_bad h h1, Bool.false_and]
section
variable {P : Program} {w : World} {K : PySem.W.Frag} {mg : Str → Option Value} {base : Heap}
abbrev st_l_stocks_right : Stmt := top 53
abbrev nm_l_stocks_right : List Str := ["_law_pen_here", "_law_letters", "_law_some", "_law_stock", "_law_word", "_law_lacks", "_law_at", "_law_told", "_law_turn", "_law_sound"]
theorem sc_l_stocks_right : FnScope nm_l_stocks_right ["_law_pen_here"] (defScope st_l_stocks_right) := ⟨rfl, rfl, rfl, by decide +kernel, rfl, by decide +kernel, by decide +kernel⟩
theorem ok_stocks {f : Addr} {fd : FuncData} (F : Fun K "_law_stocks_right" "_law_stocks_right" st_l_stocks_right f fd) (T : Blt mg) (C__law_draw : CDraw P w K mg base) (C__law_pick : CPick P w K mg base)
    (C_is_stock : Cal P w K mg base 2 "is_stock" st_is_stock ["value"] (spIsStock K)) (C_of_stock : Cal P w K mg base 2 "of_stock" st_of_stock ["word", "stock"] spOfStock) :
    FnOk P w K mg base CX0 3 f fd ["_law_pen_here"] (spPart K) := by
  refine F.ok sc_l_stocks_right (fun vs H Q E h => ?_) (fun cdv A outer s H vs Q E hr h => ?_)
  · obtain ⟨p, T, rfl, _⟩ := h
    rfl
  · refine ⟨_, (pss_cons (ps_set (i := 1) sc_l_stocks_right.nd rfl (Or.inr rfl) pe_str)
  (pss_cons (ps_set (i := 2) sc_l_stocks_right.nd rfl (Or.inr rfl) (pe_lc (own := [("_law_turn", 8)]) (g := (gName 8)) (tt := tYes) rfl sc_l_stocks_right.nd (pi_range1 rfl T.n_range (pa_cons (pe_op op_add pe_int (pe_cl C__law_draw (hr.mono (by decide)) rfl (pa_cons (pv 0) (pa_cons pe_int pa_nil)))) pa_nil)) (blkOk_by (N := nm_l_stocks_right) (sc := defScope st_l_stocks_right) (own := [("_law_turn", 8)]) (by decide +kernel)) (fun _ _ _ _ _ => by exact pg_name (i := 8) sc_l_stocks_right.nd rfl (Or.inl rfl)) (fun _ _ _ _ _ => pts_nil) (fun _ _ _ _ _ => (pe_cl C__law_pick (hr.mono (by decide)) rfl (pa_cons (pv 0) (pa_cons (pe_callTy (call_listS rfl) (by rfl) T.n_list (by decide +kernel) (pa_cons (pv 1) pa_nil)) pa_nil))))))
  (pss_cons (ps_if (pt_cmpR op_ne (pe_cl C_is_stock (hr.mono (by decide)) rfl (pa_cons (pe_join pe_str (pv 2)) pa_nil)) (pe_and (pe_cmpR (op_eqD hr.units) (pv 2) (pe_callB cr_sortedS (by rfl) T.n_sorted (by decide +kernel) (pa_cons (pv 2) pa_nil)) (nomark _)) (pe_and (pe_cmpR op_lt (pe_callB call_len_seq (by rfl) T.n_len (by decide +kernel) (pa_cons (pv 2) pa_nil)) pe_int (nomark _)) (pe_one (pe_cmpR op_eq (pe_callB call_len_seq (by rfl) T.n_len (by decide +kernel) (pa_cons (pe_lc (own := [("_law_at", 6), ("_law_sound", 9)]) (g := (gTup K 2 (gCons (gName 6) (gCons (gName 9) gNil)))) rfl sc_l_stocks_right.nd (pi_enum (by rfl) T.n_enumerate (pa_cons (pv 2) pa_nil)) (blkOk_by (N := nm_l_stocks_right) (sc := defScope st_l_stocks_right) (own := [("_law_at", 6), ("_law_sound", 9)]) (by decide +kernel)) (fun _ _ _ _ _ => by exact pg_tup rfl (pgs_cons (pg_name (i := 6) sc_l_stocks_right.nd rfl (Or.inl rfl)) (pgs_cons (pg_name (i := 9) sc_l_stocks_right.nd rfl (Or.inl rfl)) pgs_nil))) (fun _ _ _ _ _ => pts_one (pt_cmpR (op_in_seq : OpR _ (compareOp .In) (rIn K false)) (pv 9) (pe_slice (sl_list : SlR _ (rSlL K)) (pv 2) po_none (po_some (pv 6))) rfl)) (fun _ _ _ _ _ => pe_int)) pa_nil)) pe_int (nomark _))))) (nomark _)) (pss_one (ps_ret pe_bl)) pss_nil)
  (pss_cons (ps_set (i := 3) sc_l_stocks_right.nd rfl (Or.inr rfl) (pe_join pe_str (pe_slice sl_list (pe_lc (own := [("_law_sound", 9)]) (g := (gName 9)) rfl sc_l_stocks_right.nd (pi_str (pv 1)) (blkOk_by (N := nm_l_stocks_right) (sc := defScope st_l_stocks_right) (own := [("_law_sound", 9)]) (by decide +kernel)) (fun _ _ _ _ _ => by exact pg_name (i := 9) sc_l_stocks_right.nd rfl (Or.inl rfl)) (fun _ _ _ _ _ => pts_one (pt_cmpR (op_in_seq : OpR _ (compareOp .In) (rIn K false)) (pv 9) (pv 2) rfl)) (fun _ _ _ _ _ => (pv 9))) po_none (po_some pe_int))))
  (pss_cons (ps_if (PW.pt (pw_or (pt_not (pt_val (pe_clK0 C_is_stock (fun F => kb1 F fun _ _ _ _ _ _ _ => rfl) (hr.mono (by decide)) rfl (pk_cons (pv 3) pk_nil)))) (pw_or (pt_val (pe_cl C_is_stock (hr.mono (by decide)) rfl (pa_cons pe_str pa_nil))) (pw_or (pt_val (pe_cl C_is_stock (hr.mono (by decide)) rfl (pa_cons (pe_op op_add_str (pv 3) (pe_slice sl_str (pv 3) (po_some (pe_un un_neg pe_int)) po_none)) pa_nil))) (pw_or1 (pt_val (pe_cl C_is_stock (hr.mono (by decide)) rfl (pa_cons (pe_op op_add_str (pe_slice sl_str (pv 3) po_none (po_some pe_int)) (pe_cl C__law_pick (hr.mono (by decide)) rfl (pa_cons (pv 0) (pa_cons (pe_lst (pa_cons pe_str (pa_cons pe_str (pa_cons pe_str (pa_cons pe_str (pa_cons pe_str pa_nil)))))) pa_nil)))) pa_nil)))))))) (pss_one (ps_ret pe_bl)) pss_nil)
  (pss_cons (ps_if (PW.pt (pw_or (pt_cmpR op_ne (pe_cl C_is_stock (hr.mono (by decide)) rfl (pa_cons (pe_revS (pv 3)) pa_nil)) (pe_cmpR op_eq (pe_callB call_len_str (by rfl) T.n_len (by decide +kernel) (pa_cons (pv 3) pa_nil)) pe_int (nomark _)) (nomark _)) (pw_or (pt_val (pe_cl C_is_stock (hr.mono (by decide)) rfl (pa_cons (pe_callTy (call_listS rfl) (by rfl) T.n_list (by decide +kernel) (pa_cons (pv 3) pa_nil)) pa_nil))) (pw_or (pt_val (pe_cl C_is_stock (hr.mono (by decide)) rfl (pa_cons pe_str pa_nil))) (pw_or1 (pt_not (pt_val (pe_cl C_is_stock (hr.mono (by decide)) rfl (pa_cons pe_str pa_nil))))))))) (pss_one (ps_ret pe_bl)) pss_nil)
  (pss_cons (ps_set (i := 4) sc_l_stocks_right.nd rfl (Or.inl rfl) (pe_join pe_str (pe_lc (own := [("_law_turn", 8)]) (g := (gName 8)) (tt := tYes) rfl sc_l_stocks_right.nd (pi_range1 rfl T.n_range (pa_cons (pe_cl C__law_draw (hr.mono (by decide)) rfl (pa_cons (pv 0) (pa_cons pe_int pa_nil))) pa_nil)) (blkOk_by (N := nm_l_stocks_right) (sc := defScope st_l_stocks_right) (own := [("_law_turn", 8)]) (by decide +kernel)) (fun _ _ _ _ _ => by exact pg_name (i := 8) sc_l_stocks_right.nd rfl (Or.inl rfl)) (fun _ _ _ _ _ => pts_nil) (fun _ _ _ _ _ => (pe_cl C__law_pick (hr.mono (by decide)) rfl (pa_cons (pv 0) (pa_cons (pe_callTy (call_listS rfl) (by rfl) T.n_list (by decide +kernel) (pa_cons (pv 3) pa_nil)) pa_nil)))))))
  (pss_cons (ps_setLc (i := 5) (own := [("_law_sound", 9)]) (g := (gName 9)) rfl sc_l_stocks_right.nd rfl rfl (sw_true rfl rfl rfl (by decide +kernel)) (pi_str (pv 1)) (blkOk_by (N := nm_l_stocks_right) (sc := defScope st_l_stocks_right) (own := [("_law_sound", 9)]) (by decide +kernel)) (fun _ _ _ _ _ => by exact pg_name (i := 9) sc_l_stocks_right.nd rfl (Or.inl rfl)) (fun _ _ _ _ _ => pts_one (pt_cmpR op_notIn_sign (pv 9) (pv 3) rfl)) (fun _ _ _ _ _ => (pv 9)))
  (pss_cons (ps_set (i := 6) sc_l_stocks_right.nd rfl (Or.inl rfl) (pe_cl C__law_draw (hr.mono (by decide)) rfl (pa_cons (pv 0) (pa_cons (pe_op op_add (pe_callB call_len_str (by rfl) T.n_len (by decide +kernel) (pa_cons (pv 4) pa_nil)) pe_int) pa_nil))))
  (pss_cons (ps_set (i := 7) sc_l_stocks_right.nd rfl (Or.inl rfl) (pe_lst (pa_cons (pe_cl C_of_stock (hr.mono (by decide)) rfl (pa_cons (pv 4) (pa_cons (pv 3) pa_nil))) (pa_cons (pe_clK0 C_of_stock (fun F => kb2r F fun _ _ _ _ _ _ _ _ => rfl) (hr.mono (by decide)) rfl (pk_cons (pv 3) (pk_cons pe_str pk_nil))) (pa_cons (pe_cl C_of_stock (hr.mono (by decide)) rfl (pa_cons (pe_op op_add_str (pe_op op_add_str (pe_slice sl_str (pv 4) po_none (po_some (pv 6))) (pe_cl C__law_pick (hr.mono (by decide)) rfl (pa_cons (pv 0) (pa_cons (pv 5) pa_nil)))) (pe_slice sl_str (pv 4) (po_some (pv 6)) po_none)) (pa_cons (pv 3) pa_nil))) pa_nil)))))
  (pss_one (ps_ret (pe_cmpR (op_eqD hr.units) (pv 7) (pe_lst (pa_cons pe_bl (pa_cons pe_bl (pa_cons pe_bl pa_nil)))) (nomark _)))))))))))))), ?_⟩
    obtain ⟨p, T, rfl, hp, hT, q⟩ := h
    refine ⟨_, rfl, p, 6, _, rfl, hp, by omega, by decide, by decide, fun H1 n kb1 hp1 n0 n1 => ⟨_, _, rfl, rfl, 1 + n, rfl, by omega, by omega, fun D hD => ?_⟩⟩
    have hp1 := hp1.mono (T' := T + 10) (by omega)
    refine lc_it (n := (1 + n).toNat) walk_range (LPv p H1 D (T + 10) (fun v => ∃ c : Nat, v = .str (Tx [c]) ∧ isaz c = true)) (lpv0 hp1 hD) (fun _ _ _ _ => trivial) ?_ ?_
    · rintro j x H5 H5' hj hL ⟨rfl, rfl⟩
      refine ⟨rfl, ?_⟩
      refine pick_sign (i := 1) (z := AZ) rfl rfl hL.2.1 (by omega) (by rw [az_len]; decide) (by rw [az_len]; decide) fun H6 c kb6 hp6 hc => ?_
      exact lpv_put hp1 hD hL kb6 hp6 (by omega) ⟨c, rfl, az_all c hc⟩
    · rintro H2 ⟨kbL, hpL, acc, eD, hlen, hG⟩
      obtain ⟨sl, rfl, hsl⟩ := strs_of acc hG
      rw [List.length_map, List.length_map] at hlen
      have eD : H2 D = some (.lst ((sg sl).map V.str)) := eD
      have k2 := KB.trans kb1 kbL
      have hDp := hp1.ne hD
      clear kb1 kbL hG
      refine ⟨⟨_, rfl⟩, _, rfl, _, D, sl.map (fun c => Tx [c]), rfl, rfl, .inl (SqL.of eD), join_len sl (by omega), ?_⟩
      rw [join_tx]
      refine ⟨_, rfl, .inl ⟨sl, rfl, by omega, fun H3 s3 => ?_⟩⟩
      have eD3 := s3 _ _ eD
      refine andv (a := decide (sl.Pairwise (· ≤ ·))) (b := decide (sl.length < 6) && decide ((dupL sl sl.length).length = 0)) (fun H4 s4 => ?_) (fun Q1 k1 => ?_) (fun H4 s4 Q2 k2 => ?_)
      case' refine_2 =>
        refine ⟨_, rfl, _, rfl, D, sg sl, rfl, SqL.of eD3, (by rw [sg, List.length_map]; omega), fun ys p3 perm srt n3 => ?_⟩
        obtain ⟨k, rfl, hk⟩ := sg_perm perm
        have hsort := (sortedS_sg k).mp srt
        refine eqD_sg (SqL.of ((upd_ne (ne_of_none eD3 n3)).trans eD3)) (SqL.of upd_same) hsl (fun c hc => hsl c (hk.mem_iff.mp hc)) ?_
        rw [sorted_eq sl k hk hsort]
        exact k1 _ (Sm.new n3)
      case' refine_3 =>
        have eD4 := s4 _ _ eD3
        refine andv k2 (fun Q1 k1 => ?_) (fun H5 s5 Q3 k3 => ?_)
        · have e : decide (((((sg sl).map V.str).length : Nat) : Int) < 6) = decide (sl.length < 6) := by
            apply decide_eq_decide.mpr
            rw [List.length_map, sg, List.length_map]
            omega
          have := k1 H4 (Same.refl _)
          rw [← e] at this
          exact ⟨_, rfl, D, _, rfl, .inl (SqL.of eD4), _, _, rfl, rfl, this⟩
        · have eD5 := s5 _ _ eD4
          refine ⟨_, rfl, D, _, rfl, SqL.of eD5, fun D4 hD4 => ?_⟩
          refine lc_it (n := ((sg sl).map V.str).length) walk_enum (SPv H5 D4 fun i => (dupL sl i).map fun _ => V.int 1) (spv0 hD4 rfl) (fun _ _ _ p => SqL.of (p.1 _ _ eD5)) ?_ ?_
          · rintro i x H6 H6' hi ⟨p1, p3⟩ ⟨tt, ki, ye, rfl, ntt, rfl, hki, hye⟩
            obtain rfl : V.int (i : Nat) = ki := Option.some.inj hki
            have hye : ((sg sl).map V.str)[i]? = some ye := hye
            rw [List.getElem?_map, sg, List.getElem?_map] at hye
            obtain ⟨z, hz, rfl⟩ := Option.map_eq_some_iff.mp hye
            obtain ⟨c, hc, rfl⟩ := Option.map_eq_some_iff.mp hz
            have w1 := Sm.new (o := .tup [V.int (i : Nat), V.str (Tx [c])]) ntt
            refine ⟨tt, _, rfl, SqT.of upd_same, rfl, _, _, rfl, _, _, rfl, rfl, ?_⟩
            refine ⟨rfl, ?_⟩
            refine ⟨_, rfl, _, rfl, _, rfl, (i : Int), rfl, D, _, rfl, SqL.of (w1 _ _ (p1 _ _ eD5)), fun s1 ns1 => ?_⟩
            have ecut : cutV ((sg sl).map V.str) none (some (i : Int)) = (sg (sl.take i)).map V.str := by
              rw [cutV_take, sg, sg, List.map_take, List.map_take]
            rw [ecut]
            have w2 := Sm.new (o := .lst ((sg (sl.take i)).map V.str)) ns1
            refine ⟨s1, _, rfl, .inl (SqL.of upd_same), rfl, flat_sg _, _, rfl, ?_⟩
            have ein : inV (V.str (Tx [c])) ((sg (sl.take i)).map V.str) = decide (c ∈ sl.take i) := inV_sg c _
            rw [ifF, ein]
            have w := Same.trans p1 (Same.trans w1 w2)
            have p3' := (Same.trans w1 w2) _ _ p3
            have hgz : sl.getD i 0 = c := by rw [List.getD_eq_getElem?_getD, hc]; rfl
            refine ite2 (fun cc => ?_) (fun cc => ?_)
            · refine spv_put hD4 w p3' ?_ ?_
              · rw [List.length_map]
                have : (dupL sl i).length ≤ i := by
                  unfold dupL
                  exact Nat.le_trans (List.length_filter_le _ _) (by simp)
                rw [List.length_map, sg, List.length_map] at hi
                omega
              · rw [dupL_succ, hgz, if_pos (of_decide_eq_true cc), List.map_append]
                rfl
            · refine ⟨w, ?_⟩
              dsimp only
              rw [dupL_succ, hgz, if_neg (fun z => cc (decide_eq_true z)), List.append_nil]
              exact p3'
          · rintro H6 ⟨p1, p3⟩
            dsimp only at p3
            rw [List.length_map, sg, List.length_map] at p3
            have e : decide (V.int (((dupL sl sl.length).map fun _ => V.int 1).length : Nat) = V.int 0) = decide ((dupL sl sl.length).length = 0) := by
              apply decide_eq_decide.mpr
              rw [List.length_map]
              constructor
              · intro h
                have := V.int.inj h
                omega
              · intro h
                rw [h]
                rfl
            have := k3 H6 p1
            rw [← e] at this
            exact ⟨D4, _, rfl, .inl (SqL.of p3), rfl, this⟩
      have e1 : stOk sl = (decide (sl.Pairwise (· ≤ ·)) && (decide (sl.length < 6) && decide ((dupL sl sl.length).length = 0))) := by
        unfold stOk
        rw [show lw sl = true from List.all_eq_true.mpr hsl, ris_two, Bool.true_and, decide_eq_true (show 1 ≤ sl.length by omega), Bool.true_and]
        have e2 : decide (sl.length ≤ 5) = decide (sl.length < 6) := decide_eq_decide.mpr (by omega)
        rw [e2]
        cases decide (sl.length < 6) <;> cases decide (sl.Pairwise (· ≤ ·)) <;> simp
      rw [e1]
      refine ⟨rfl, _, rfl, ?_⟩
      rw [decide_eq_true rfl]
      refine iteF ?_
      have s24 := Same.trans s3 s4
      have k4 := KB.trans k2 (KB.sm s24)
      have hp4 := hpL.sm s24
      have eD := s24 _ _ eD
      clear k2 s24 s4 s3 eD3 hpL hp1 hp
      refine ⟨⟨_, rfl⟩, _, rfl, _, rfl, fun D5 hD5 => ?_⟩
      refine lc_it (n := AZ.cps.size) (walk_str (z := AZ)) (SPv H4 D5 fun i => ((sg ((azl.take i).filter fun c => decide (c ∈ sl))).map V.str)) (spv0 hD5 rfl) (fun _ _ _ _ => trivial) ?_ ?_
      · rintro i x H6 H6' hi ⟨p1, p3⟩ ⟨rfl, c, g, rfl⟩
        have hc := azl_at g
        refine ⟨rfl, ?_⟩
        refine ⟨_, rfl, _, rfl, D, _, rfl, .inl (SqL.of (p1 _ _ eD)), rfl, flat_sg _, _, rfl, ?_⟩
        rw [ifF, inV_sg]
        refine ite2 (fun cc => ?_) (fun cc => ?_)
        · refine ⟨_, rfl, ?_⟩
          refine spv_put hD5 p1 p3 ?_ ?_
          · rw [List.length_map, sg, List.length_map]
            refine Nat.lt_of_le_of_lt (List.length_filter_le _ _) ?_
            rw [List.length_take]
            have : AZ.cps.size = 26 := az_len
            omega
          · rw [List.take_succ, hc, List.filter_append, sg, List.map_append, List.map_append]
            congr 1
            show List.map V.str (List.map (fun c => Tx [c]) (List.filter (fun c => decide (c ∈ sl)) [c])) = _
            rw [List.filter_cons, if_pos cc]
            rfl
        · refine ⟨p1, ?_⟩
          rw [p3]
          dsimp only
          rw [List.take_succ, hc, List.filter_append]
          have e : List.filter (fun c => decide (c ∈ sl)) (some c).toList = [] := by
            show List.filter _ [c] = []
            rw [List.filter_cons, if_neg cc]
            rfl
          rw [e, List.append_nil]
      · rintro H6 ⟨p1, p3⟩
        dsimp only at p3
        have ets : azl.take AZ.cps.size = azl := List.take_of_length_le (by rw [azl_eq]; decide +kernel)
        rw [ets] at p3
        refine ⟨5, rfl, D5, _, rfl, SqL.of p3, fun l6 n6 => ?_⟩
        have ecut : cutV ((sg (azl.filter fun c => decide (c ∈ sl))).map V.str) none (some 5) = (sg ((azl.filter fun c => decide (c ∈ sl)).take 5)).map V.str := by
          rw [show (5 : Int) = ((5 : Nat) : Int) from rfl, cutV_take, sg, sg, List.map_take, List.map_take]
        rw [ecut]
        have hstl : ∀ c ∈ (azl.filter fun c => decide (c ∈ sl)).take 5, isaz c = true := fun c hc => az_all c (List.mem_filter.mp (List.mem_of_mem_take hc)).1
        have hst5 : ((azl.filter fun c => decide (c ∈ sl)).take 5).length ≤ 5 := by rw [List.length_take]; omega
        have hst1 : 1 ≤ ((azl.filter fun c => decide (c ∈ sl)).take 5).length := by
          rw [List.length_take]
          have : 0 < (azl.filter fun c => decide (c ∈ sl)).length := by
            cases sl with
            | nil => simp at hlen; omega
            | cons c r => exact List.length_pos_of_mem (List.mem_filter.mpr ⟨azl_mem (hsl c List.mem_cons_self), decide_eq_true List.mem_cons_self⟩)
          omega
        have hstr : ris ((azl.filter fun c => decide (c ∈ sl)).take 5) = true := (ris_iff _).mpr ((azl_lt.sublist List.filter_sublist).sublist (List.take_sublist _ _))
        generalize (azl.filter fun c => decide (c ∈ sl)).take 5 = stl at hstl hst5 hst1 hstr ⊢
        have u6 := Sm.new (o := .lst ((sg stl).map V.str)) n6
        have s6 := Same.trans p1 u6
        have k6 := KB.trans k4 (KB.sm s6)
        have hp6 := hp4.sm s6
        refine ⟨_, l6, stl.map (fun c => Tx [c]), rfl, rfl, .inl (SqL.of upd_same), join_len stl (by omega), ?_⟩
        rw [join_tx]
        clear k4 hp4 s6 p1 p3 ets eD e1 hD5 hlen hsl
        have hso : stOk stl = true := by
          unfold stOk
          rw [show lw stl = true from List.all_eq_true.mpr hstl, hstr, decide_eq_true hst1, decide_eq_true hst5]
          rfl
        have sT : (Tx stl).length ≤ 1000 := by rw [tx_len]; omega
        have cS : ∀ lo hi, (cutS (Tx stl) lo hi).length ≤ 1000 := fun lo hi => Nat.le_trans (cutS_length _ _ _) sT
        refine ⟨_, rfl, _, rfl, .inl ⟨stl, rfl, by omega, fun H7 s7 => ⟨_, rfl, ?_⟩⟩⟩
        rw [hso]
        refine iteF ?_
        refine ⟨_, rfl, .inl ⟨[], rfl, by decide, fun H8 s8 => ⟨_, rfl, ?_⟩⟩⟩
        refine iteF ?_
        obtain ⟨st0, cl, est⟩ : ∃ st0 cl, stl = st0 ++ [cl] := by
          rcases List.eq_nil_or_concat stl with h | ⟨a, b, h⟩
          · rw [h] at hst1
            exact absurd hst1 (by decide)
          · exact ⟨a, b, by rw [h, List.concat_eq_append]⟩
        refine ⟨_, rfl, _, rfl, 1, rfl, -1, rfl, Tx stl, rfl, txs (by omega), _, _, rfl, rfl, cat_le sT (cS _ _), _, rfl, .inl ⟨stl ++ [cl], congrArg V.str (by rw [← tx_app]; congr 1; rw [est]; exact cut_last _ _), (by rw [List.length_append]; show _ + 1 ≤ 1000; omega), fun H9 s9 => ⟨_, rfl, ?_⟩⟩⟩
        have hb1 : stOk (stl ++ [cl]) = false := by
          unfold stOk
          rw [ris_last (by rw [est]; simp), Bool.and_false, Bool.and_false]
        rw [hb1]
        refine iteF ?_
        have s69 := Same.trans s7 (Same.trans s8 s9)
        have k9 := KB.trans k6 (KB.sm s69)
        have hp9 := hp6.sm s69
        clear k6 hp6 s69 s7 s8 s9
        refine ⟨_, rfl, 4, rfl, Tx stl, rfl, txs (by omega), _, rfl, (by show 5 ≤ sizeLine; decide), fun l7 n7 => ?_⟩
        refine ⟨p, l7, _, _, rfl, hp9.sm (Sm.new n7), by omega, SqL.of upd_same, hp9.ne n7, by simp, by simp, fun H10 ov kb10 hp10 hm => ?_⟩
        obtain ⟨o, rfl, ho1⟩ : ∃ o : Nat, ov = .str (Tx [o]) ∧ isaz o = false := by
          simp only [List.mem_cons, List.not_mem_nil, or_false] at hm
          rcases hm with rfl | rfl | rfl | rfl | rfl <;> exact ⟨_, rfl, by decide⟩
        have k10 := KB.trans k9 (KB.trans (KB.sm (Sm.new n7)) kb10)
        clear k9 kb10 hm hp9
        refine ⟨_, _, rfl, rfl, cat_le (cS _ _) (by rw [tx_len]; show 1 ≤ 1000; decide), _, rfl, .inl ⟨stl.take 4 ++ [o], congrArg V.str (by rw [show (4 : Int) = ((4 : Nat) : Int) from rfl, cut_to, tx_app]), (by rw [List.length_append, List.length_take]; show _ + 1 ≤ 1000; omega), fun H11 s11 => ⟨_, rfl, ?_⟩⟩⟩
        rw [st_bad (l := stl.take 4 ++ [o]) (by simp) ho1]
        refine iteF ?_
        -- from behind
        refine ⟨_, rfl, stl, rfl, by omega, _, rfl, .inl ⟨stl.reverse, rfl, (by rw [List.length_reverse]; omega), fun H12 s12 => ?_⟩⟩
        refine ⟨_, rfl, Tx stl, rfl, txs (by omega), rfl, rfl, _, rfl, ?_⟩
        have hrev : stOk stl.reverse = decide (V.int ((Tx stl).length : Nat) = V.int 1) := by
          rw [len_int, ← ris_rev hstr hst1]
          unfold stOk
          rw [List.length_reverse, decide_eq_true hst1, decide_eq_true hst5, show lw stl.reverse = true from List.all_eq_true.mpr fun c hc => hstl c (List.mem_reverse.mp hc)]
          rfl
        rw [hrev, decide_eq_true rfl]
        refine iteF ?_
        refine ⟨_, rfl, Tx stl, rfl, txs (by omega), fun l13 n13 => ⟨_, rfl, .inr ⟨"list", ⟨.base (.lst upd_same), by decide⟩, by decide, _, rfl, ?_⟩⟩⟩
        refine iteF ?_
        refine ⟨_, rfl, .inl ⟨[97, 98, 99, 100, 101, 102], rfl, by decide, fun H14 s14 => ⟨_, rfl, ?_⟩⟩⟩
        refine iteF ?_
        refine ⟨_, rfl, .inl ⟨[97, 98, 99, 100, 101], rfl, by decide, fun H15 s15 => ⟨_, rfl, ?_⟩⟩⟩
        refine iteF ?_
        have s := Same.trans s11 (Same.trans s12 (Same.trans (Sm.new n13) (Same.trans s14 s15)))
        have k15 := KB.trans k10 (KB.sm s)
        have hp15 := hp10.sm s
        clear k10 hp10 s s11 s12 s14 s15
        refine ⟨⟨_, rfl⟩, _, rfl, p, 9, _, rfl, hp15, by omega, by decide, by decide, fun H16 m kb16 hp16 m0 m1 => ⟨m, rfl, by omega, by omega, fun D7 hD7 => ?_⟩⟩
        have k16 := KB.trans k15 kb16
        have hp16 := hp16.mono (T' := T + 40) (by omega)
        clear k15 kb16 hp15
        refine lc_it (n := m.toNat) walk_range (LPv p H16 D7 (T + 40) (fun v => ∃ c : Nat, v = .str (Tx [c]) ∧ c ∈ stl)) (lpv0 hp16 hD7) (fun _ _ _ _ => trivial) ?_ ?_
        · rintro j x H17 H17' hj hL ⟨rfl, rfl⟩
          refine ⟨rfl, ?_⟩
          refine pick_sign (i := 3) (z := Tx stl) rfl rfl hL.2.1 (by omega) (by rw [tx_len]; omega) sT fun H18 c kb18 hp18 hc => ?_
          exact lpv_put hp16 hD7 hL kb18 hp18 (by omega) ⟨c, rfl, by rw [tx_list] at hc; exact hc⟩
        · rintro H17 ⟨kbL, hpL, acc, eD7, hlen, hG⟩
          obtain ⟨wl, rfl, hwl⟩ := strs_of acc hG
          rw [List.length_map, List.length_map] at hlen
          have k17 := KB.trans k16 kbL
          clear k16 kbL hG hp16
          refine ⟨_, D7, wl.map (fun c => Tx [c]), rfl, rfl, .inl (SqL.of eD7), join_len wl (by omega), ?_⟩
          rw [join_tx]
          have wT : (Tx wl).length ≤ 1000 := by rw [tx_len]; omega
          have cW : ∀ lo hi, (cutS (Tx wl) lo hi).length ≤ 1000 := fun lo hi => Nat.le_trans (cutS_length _ _ _) wT
          have hw8 : wl.length ≤ 8 := by omega
          clear eD7 hlen
          -- the letters that it lacks
          refine ⟨_, rfl, _, rfl, fun D8 hD8 => ?_⟩
          refine lc_it (n := AZ.cps.size) (walk_str (z := AZ)) (SPv H17 D8 fun i => ((sg ((azl.take i).filter fun c => !decide (c ∈ stl))).map V.str)) (spv0 hD8 rfl) (fun _ _ _ _ => trivial) ?_ ?_
          · rintro i x H18 H18' hi ⟨p1, p3⟩ ⟨rfl, c, g, rfl⟩
            have hc := azl_at g
            refine ⟨rfl, ?_⟩
            refine ⟨_, rfl, _, rfl, c, _, rfl, rfl, _, rfl, ?_⟩
            rw [tx_list]
            refine ite2 (fun cc => ?_) (fun cc => ?_)
            · refine ⟨_, rfl, ?_⟩
              refine spv_put hD8 p1 p3 ?_ ?_
              · rw [List.length_map, sg, List.length_map]
                refine Nat.lt_of_le_of_lt (List.length_filter_le _ _) ?_
                rw [List.length_take]
                have : AZ.cps.size = 26 := az_len
                omega
              · rw [List.take_succ, hc, List.filter_append, sg, List.map_append, List.map_append]
                congr 1
                show List.map V.str (List.map (fun c => Tx [c]) (List.filter (fun c => !decide (c ∈ stl)) [c])) = _
                rw [List.filter_cons, if_pos cc]
                rfl
            · refine ⟨p1, ?_⟩
              rw [p3]
              dsimp only
              rw [List.take_succ, hc, List.filter_append]
              have e : List.filter (fun c => !decide (c ∈ stl)) (some c).toList = [] := by
                show List.filter _ [c] = []
                rw [List.filter_cons, if_neg cc]
                rfl
              rw [e, List.append_nil]
          · rintro H18 ⟨p1, p3⟩
            dsimp only at p3
            have ets : azl.take AZ.cps.size = azl := List.take_of_length_le (by rw [azl_eq]; decide +kernel)
            rw [ets] at p3
            have hlp := lack_pos hst5
            have hlk : ∀ c ∈ azl.filter fun c => !decide (c ∈ stl), c ∉ stl := fun c hc z => by
              have := (List.mem_filter.mp hc).2
              rw [decide_eq_true z] at this
              cases this
            have hll : (azl.filter fun c => !decide (c ∈ stl)).length ≤ 26 := Nat.le_trans (List.length_filter_le _ _) (by rw [azl_eq]; decide +kernel)
            generalize (azl.filter fun c => !decide (c ∈ stl)) = lk at hlp hlk hll p3
            have k18 := KB.trans k17 (KB.sm p1)
            have hp18 := hpL.sm p1
            have hD8p := hpL.ne hD8
            clear k17 hpL ets
            refine ⟨_, rfl, _, rfl, Tx wl, rfl, txs (by omega), _, _, rfl, rfl, p, _, _, rfl, hp18, by omega, (by rw [tx_len]; omega), (by rw [tx_len]; omega), fun H19 at_ kb19 hp19 at0 at1 => ?_⟩
            obtain ⟨a, rfl⟩ : ∃ a : Nat, at_ = (a : Int) := ⟨at_.toNat, by omega⟩
            have p3 := kb19.kb _ _ hD8p p3
            have k19 := KB.trans k18 kb19
            clear k18 kb19 hp18 p1
            have hof : ofOk wl stl = true := by
              unfold ofOk
              rw [show lw wl = true from List.all_eq_true.mpr fun c hc => hstl c (hwl c hc)]
              exact List.all_eq_true.mpr fun c hc => decide_eq_true (hwl c hc)
            refine ⟨_, rfl, _, rfl, wl, stl, rfl, by omega, fun H20 s20 => ?_⟩
            rw [hof]
            refine ⟨_, rfl, [], stl, rfl, by decide, fun H21 s21 => ?_⟩
            have hp21 := (hp19.sm s20).sm s21
            refine ⟨_, rfl, _, rfl, (a : Int), rfl, Tx wl, rfl, txs (by omega), ?_⟩
            refine ⟨_, rfl, _, rfl, p, D8, _, _, rfl, hp21, by omega, SqL.of (s21 _ _ (s20 _ _ p3)), hD8p, (by rw [List.length_map, sg, List.length_map]; exact hlp), (by rw [List.length_map, sg, List.length_map]; omega), fun H22 v kb22 hp22 hm => ?_⟩
            obtain ⟨c, rfl, hc⟩ : ∃ c : Nat, v = .str (Tx [c]) ∧ c ∈ lk := by
              obtain ⟨x, hx, rfl⟩ := List.mem_map.mp hm
              obtain ⟨c, hc, rfl⟩ := List.mem_map.mp hx
              exact ⟨c, rfl, hc⟩
            have cT : (Tx [c]).length ≤ 1000 := by rw [tx_len]; show 1 ≤ 1000; decide
            refine ⟨_, _, rfl, rfl, cat_le (cW _ _) cT, ?_⟩
            refine ⟨_, rfl, _, rfl, (a : Int), rfl, Tx wl, rfl, txs (by omega), _, _, rfl, rfl, cat_le (by rw [cut_to, tx_app, tx_len, List.length_append, List.length_take]; show _ + 1 ≤ 1000; omega) (cW _ _), ?_⟩
            refine ⟨_, rfl, wl.take a ++ [c] ++ wl.drop a, stl, congrArg (fun z => [V.str z, V.str (Tx stl)]) (emid wl [c] a), (by rw [List.length_append, List.length_append, List.length_take, List.length_drop]; show _ + 1 + _ ≤ 1000; omega), fun H23 s23 => ?_⟩
            have hof2 : ofOk (wl.take a ++ [c] ++ wl.drop a) stl = false := by
              unfold ofOk
              have : ((wl.take a ++ [c] ++ wl.drop a).all fun c => decide (c ∈ stl)) = false := List.all_eq_false.mpr ⟨c, by simp, by rw [decide_eq_false (hlk c hc)]; decide⟩
              rw [this, Bool.and_false]
            rw [hof2, show ofOk [] stl = true from rfl]
            refine ⟨(by show 3 ≤ sizeLine; decide), fun g1 m1 => ?_⟩
            refine ⟨_, rfl, (by show 3 ≤ sizeLine; decide), fun g2 m2 => ?_⟩
            have w1 := Sm.new (o := .lst [.bl true, .bl true, .bl false]) m1
            have w2 := Sm.new (o := .lst [.bl true, .bl true, .bl false]) m2
            have s := Same.trans s23 (Same.trans w1 w2)
            refine eqD_same (xs := [.bl true, .bl true, .bl false]) (SqL.of ((upd_ne (ne_of_none upd_same m2)).trans upd_same)) (SqL.of upd_same) rfl ?_
            exact q _ (KB.trans k19 (KB.trans (KB.sm (Same.trans s20 s21)) (KB.trans kb22 (KB.sm s)))) ((hp22.sm s).mono (by omega))
end
end K0
namespace K0
open PySem PySem.Spec PyProof.Rows L2
section
variable {P : Program} {w : World} {K : PySem.W.Frag} {mg : Str → Option Value} {base : Heap}
abbrev st_law : Stmt := top 55
abbrev nm_law : List Str := ["_law_script", "_law_pen_here", "_law_turn", "_law_one", "_law_other"]
theorem sc_law : FnScope nm_law ["_law_script"] (defScope st_law) := ⟨rfl, rfl, rfl, by decide +kernel, rfl, by decide +kernel, by decide +kernel⟩
def spLaw (K : PySem.W.Frag) : Sp := fun vs H Q _ => ∃ (a : Addr) (ns : List Int), vs = [.ref a] ∧ SqL K H a (ns.map V.int) ∧ ns.length ≤ 63 ∧ ∀ H', Q (.bl true) H'
theorem ok_law {f : Addr} {fd : FuncData} (F : Fun K "law" "law" st_law f fd) (T : Blt mg) (C__law_pen : Cal P w K mg base 1 "_law_pen" st_l_pen ["_law_script"] (spPen K))
    (C__law_value : Cal P w K mg base 2 "_law_value" st_l_value ["_law_pen_here"] (spValue K))
    (C__law_one_right : Cal P w K mg base 4 "_law_one_right" st_l_one_right ["_law_one", "_law_other"] spOne) (C__law_two_right : Cal P w K mg base 3 "_law_two_right" st_l_two_right ["_law_one", "_law_other"] spOne)
    (C__law_integers_right : Cal P w K mg base 3 "_law_integers_right" st_l_integers_right ["_law_pen_here"] (spPart K)) (C__law_texts_right : Cal P w K mg base 3 "_law_texts_right" st_l_texts_right ["_law_pen_here"] (spPart K))
    (C__law_stocks_right : Cal P w K mg base 3 "_law_stocks_right" st_l_stocks_right ["_law_pen_here"] (spPart K)) (C__law_twice_right : Cal P w K mg base 2 "_law_twice_right" st_l_twice_right ["_law_pen_here"] (spPart K)) :
    FnOk P w K mg base CX0 5 f fd ["_law_script"] (spLaw K) := by
  refine F.ok sc_law (fun vs H Q E h => ?_) (fun cdv A outer s H vs Q E hr h => ?_)
  · obtain ⟨a, ns, rfl, _⟩ := h
    rfl
  · refine ⟨_, (pss_cons (ps_set (i := 1) sc_law.nd rfl (Or.inl rfl) (pe_cl C__law_pen (hr.mono (by decide)) rfl (pa_cons (pv 0) pa_nil)))
  (pss_cons (ps_for PassesOwn.never rfl (pi_range1 rfl T.n_range (pa_cons pe_int pa_nil)) (pg_name (i := 2) sc_law.nd rfl (Or.inl rfl)) (pss_cons (ps_par (i := 3) (j := 4) rfl sc_law.nd rfl rfl (by decide) rfl rfl (pa_cons (pe_cl C__law_value (hr.mono (by decide)) rfl (pa_cons (pv 1) pa_nil)) (pa_cons (pe_cl C__law_value (hr.mono (by decide)) rfl (pa_cons (pv 1) pa_nil)) pa_nil)) rfl)
  (pss_cons (ps_if (PW.pt (pw_or (pt_not (pt_val (pe_cl C__law_one_right (hr.mono (by decide)) rfl (pa_cons (pv 3) (pa_cons (pv 4) pa_nil))))) (pw_or1 (pt_not (pt_val (pe_cl C__law_two_right (hr.mono (by decide)) rfl (pa_cons (pv 3) (pa_cons (pv 4) pa_nil)))))))) (pss_one (ps_ret pe_bl)) pss_nil)
  (pss_one (ps_if (PW.pt (pw_or (pt_not (pt_val (pe_cl C__law_integers_right (hr.mono (by decide)) rfl (pa_cons (pv 1) pa_nil)))) (pw_or (pt_not (pt_val (pe_cl C__law_texts_right (hr.mono (by decide)) rfl (pa_cons (pv 1) pa_nil)))) (pw_or (pt_not (pt_val (pe_cl C__law_stocks_right (hr.mono (by decide)) rfl (pa_cons (pv 1) pa_nil)))) (pw_or1 (pt_not (pt_val (pe_cl C__law_twice_right (hr.mono (by decide)) rfl (pa_cons (pv 1) pa_nil))))))))) (pss_one (ps_ret pe_bl)) pss_nil)))))
  (pss_one (ps_ret pe_bl)))), ?_⟩
    obtain ⟨a, ns, rfl, hS, hl, q⟩ := h
    refine ⟨_, rfl, a, ns, rfl, hS, hl, fun H1 p s1 hp => ?_⟩
    refine ⟨3, rfl, by decide, by decide, ?_⟩
    refine for_it (n := 3) walk_range (fun i σ H' => ∃ v2 v3 v4, σ = [some (.ref a), some (.ref p), v2, v3, v4] ∧ PenAt H' p (500 * i)) ⟨_, _, _, rfl, hp⟩ (fun _ _ _ _ _ => trivial) ?_ ?_
    · rintro i x σ H2 H2' hi ⟨v2, v3, v4, rfl, hp2⟩ ⟨rfl, rfl⟩
      refine ⟨_, rfl, p, 500 * i, rfl, hp2, by omega, fun H3 u k3 hp3 gu => ?_⟩
      refine ⟨_, rfl, p, _, rfl, hp3, by omega, fun H4 v k4 hp4 gv => ⟨u, v, rfl, ?_⟩⟩
      have gu4 := gu.kb k4
      refine ⟨_, rfl, _, rfl, p, u, v, rfl, gu4, gv, fun H5 s5 => ⟨_, rfl, ?_⟩⟩
      refine iteF ?_
      refine ⟨_, rfl, _, rfl, p, u, v, rfl, gu4.sm s5, gv.sm s5, fun H6 s6 => ⟨_, rfl, ?_⟩⟩
      refine iteF ?_
      have hp6 := (hp4.sm s5).sm s6
      refine ⟨_, rfl, p, _, rfl, hp6, by omega, fun H7 _ hp7 => ⟨_, rfl, ?_⟩⟩
      refine iteF ?_
      refine ⟨_, rfl, p, _, rfl, hp7, by omega, fun H8 _ hp8 => ⟨_, rfl, ?_⟩⟩
      refine iteF ?_
      refine ⟨_, rfl, p, _, rfl, hp8, by omega, fun H9 _ hp9 => ⟨_, rfl, ?_⟩⟩
      refine iteF ?_
      refine ⟨_, rfl, p, _, rfl, hp9, by omega, fun H10 _ hp10 => ⟨_, rfl, ?_⟩⟩
      refine iteF ?_
      exact ⟨_, _, _, rfl, hp10.mono (by omega)⟩
    · rintro σ H2 ⟨v2, v3, v4, rfl, hp2⟩
      exact q _
end
end K0
namespace K0
open PySem PySem.Spec PyProof.Rows L2
/-! ### what isinstance says of the classes -/
def clsF (cs : List Addr) (i : Nat) : Addr := cs.getD i 0
def kitB (K : PySem.W.Frag) (cs : List Addr) (cT cM : Addr) : Bool :=
  ((List.range 24).all fun i => (PySem.W.kitOne K (.ref (clsF cs i)) (.ref cT) == some true) && ((PySem.W.kitOne K (.ref (clsF cs i)) (.type "ValueError") == some true) &&
    ((PySem.W.kitAny K (.ref (clsF cs i)) [.type "LookupError", .type "TypeError", .type "ArithmeticError", .type "AttributeError", .type "RuntimeError"] == some false) &&
    ((PySem.W.kitOne K (.ref (clsF cs i)) (.ref cM) == some (decide (13 ≤ i ∧ i < 18))) && ((List.range 24).all fun j => PySem.W.kitOne K (.ref (clsF cs i)) (.ref (clsF cs j)) == some (decide (i = j))))))) &&
  ((PySem.W.kitOne K (.ref cM) (.ref (clsF cs 13)) == some false) && (PySem.W.kitOne K (.ref cM) (.ref cT) == some true))
theorem xf_of {K : PySem.W.Frag} {C : Addr} (e : ExcC K C) : XfC K C := ⟨e.hg, e.hk, e.hs, e.hd⟩
theorem kitB_row {K : PySem.W.Frag} {cs : List Addr} {cT cM : Addr} (h : kitB K cs cT cM = true) (ec : ∀ i, i < 24 → ExcC K (clsF cs i)) (i : Nat) (hi : i < 24) : ClsOk K (clsF cs) cT cM (clsF cs i) i := by
  have h1 := List.all_eq_true.mp (Bool.and_eq_true_iff.mp h).1 i (List.mem_range.mpr hi)
  obtain ⟨a, h1⟩ := Bool.and_eq_true_iff.mp h1
  obtain ⟨b, h1⟩ := Bool.and_eq_true_iff.mp h1
  obtain ⟨c, h1⟩ := Bool.and_eq_true_iff.mp h1
  obtain ⟨d, h1⟩ := Bool.and_eq_true_iff.mp h1
  exact ⟨ec i hi, eq_of_beq a, eq_of_beq b, eq_of_beq c, eq_of_beq d, fun j hj => eq_of_beq (List.all_eq_true.mp h1 j (List.mem_range.mpr hj))⟩
theorem kitB_end {K : PySem.W.Frag} {cs : List Addr} {cT cM : Addr} (h : kitB K cs cT cM = true) : PySem.W.kitOne K (.ref cM) (.ref (clsF cs 13)) = some false ∧ PySem.W.kitOne K (.ref cM) (.ref cT) = some true := by
  obtain ⟨a, b⟩ := Bool.and_eq_true_iff.mp (Bool.and_eq_true_iff.mp h).2
  exact ⟨eq_of_beq a, eq_of_beq b⟩
/-- something for each of the first n numbers -/
theorem each : ∀ {p : Nat → Prop} (n : Nat), (∀ i, i < n → p i) → ∀ i, i < n → p i := fun _ h => h
theorem all_mk {l : PySem.W.OpenLaw} {w : World} {K : PySem.W.Frag} {h : Heap} {mg : Str → Option Value} {fa : Addr} {c_TongueError c_Missing c_BadWord c_BadStock c_BadShift c_BadCourse c_BadSheet c_BadDyeing c_BadSaying c_BadPairs c_BadFamily c_BadNumber c_BadPaper c_BadDesk c_Misfit c_NoRow c_NoLanguage c_NoPlace c_NoShift c_NoName c_Twice c_Impossible c_TooMany c_Nothing c_BadText c_BadLine f_BadWord f_BadStock f_BadShift f_BadCourse f_BadSheet f_BadDyeing f_BadSaying f_BadPairs f_BadFamily f_BadNumber f_BadPaper f_BadDesk f_Misfit f_Missing f_Twice f_Impossible f_TooMany f_BadText f_BadLine a_is_integer a_is_within a_is_list a_is_long_word a_is_rising a_is_name a_is_sound a_is_word a_is_stock a_is_numbers a_first_twice a_of_stock a__law_pen a__law_draw a__law_pick a__law_value a__law_classes a__law_is_only a__law_by_place a__law_by_name a__law_one_right a__law_two_right a__law_integers_right a__law_texts_right a__law_stocks_right a__law_twice_right a_law : Addr} (X : K.In h) (G : h.Ns mainGlobals mg) (hfa : mg "law" = some (.ref fa))
    (n_TongueError : PySem.W.nsIn K mainGlobals "TongueError" = some (some (.ref c_TongueError)))
    (n_Missing : PySem.W.nsIn K mainGlobals "Missing" = some (some (.ref c_Missing)))
    (n_BadWord : PySem.W.nsIn K mainGlobals "BadWord" = some (some (.ref c_BadWord)))
    (n_BadStock : PySem.W.nsIn K mainGlobals "BadStock" = some (some (.ref c_BadStock)))
    (n_BadShift : PySem.W.nsIn K mainGlobals "BadShift" = some (some (.ref c_BadShift)))
    (n_BadCourse : PySem.W.nsIn K mainGlobals "BadCourse" = some (some (.ref c_BadCourse)))
    (n_BadSheet : PySem.W.nsIn K mainGlobals "BadSheet" = some (some (.ref c_BadSheet)))
    (n_BadDyeing : PySem.W.nsIn K mainGlobals "BadDyeing" = some (some (.ref c_BadDyeing)))
    (n_BadSaying : PySem.W.nsIn K mainGlobals "BadSaying" = some (some (.ref c_BadSaying)))
    (n_BadPairs : PySem.W.nsIn K mainGlobals "BadPairs" = some (some (.ref c_BadPairs)))
    (n_BadFamily : PySem.W.nsIn K mainGlobals "BadFamily" = some (some (.ref c_BadFamily)))
    (n_BadNumber : PySem.W.nsIn K mainGlobals "BadNumber" = some (some (.ref c_BadNumber)))
    (n_BadPaper : PySem.W.nsIn K mainGlobals "BadPaper" = some (some (.ref c_BadPaper)))
    (n_BadDesk : PySem.W.nsIn K mainGlobals "BadDesk" = some (some (.ref c_BadDesk)))
    (n_Misfit : PySem.W.nsIn K mainGlobals "Misfit" = some (some (.ref c_Misfit)))
    (n_NoRow : PySem.W.nsIn K mainGlobals "NoRow" = some (some (.ref c_NoRow)))
    (n_NoLanguage : PySem.W.nsIn K mainGlobals "NoLanguage" = some (some (.ref c_NoLanguage)))
    (n_NoPlace : PySem.W.nsIn K mainGlobals "NoPlace" = some (some (.ref c_NoPlace)))
    (n_NoShift : PySem.W.nsIn K mainGlobals "NoShift" = some (some (.ref c_NoShift)))
    (n_NoName : PySem.W.nsIn K mainGlobals "NoName" = some (some (.ref c_NoName)))
    (n_Twice : PySem.W.nsIn K mainGlobals "Twice" = some (some (.ref c_Twice)))
    (n_Impossible : PySem.W.nsIn K mainGlobals "Impossible" = some (some (.ref c_Impossible)))
    (n_TooMany : PySem.W.nsIn K mainGlobals "TooMany" = some (some (.ref c_TooMany)))
    (n_Nothing : PySem.W.nsIn K mainGlobals "Nothing" = some (some (.ref c_Nothing)))
    (n_BadText : PySem.W.nsIn K mainGlobals "BadText" = some (some (.ref c_BadText)))
    (n_BadLine : PySem.W.nsIn K mainGlobals "BadLine" = some (some (.ref c_BadLine)))
    (z_len : PySem.W.nsIn K mainGlobals "len" = some none)
    (z_isinstance : PySem.W.nsIn K mainGlobals "isinstance" = some none)
    (z_int : PySem.W.nsIn K mainGlobals "int" = some none)
    (z_bool : PySem.W.nsIn K mainGlobals "bool" = some none)
    (z_str : PySem.W.nsIn K mainGlobals "str" = some none)
    (z_list : PySem.W.nsIn K mainGlobals "list" = some none)
    (z_tuple : PySem.W.nsIn K mainGlobals "tuple" = some none)
    (z_all : PySem.W.nsIn K mainGlobals "all" = some none)
    (z_zip : PySem.W.nsIn K mainGlobals "zip" = some none)
    (z_set : PySem.W.nsIn K mainGlobals "set" = some none)
    (z_abs : PySem.W.nsIn K mainGlobals "abs" = some none)
    (z_range : PySem.W.nsIn K mainGlobals "range" = some none)
    (z_enumerate : PySem.W.nsIn K mainGlobals "enumerate" = some none)
    (z_sorted : PySem.W.nsIn K mainGlobals "sorted" = some none)
    (z_ValueError : PySem.W.nsIn K mainGlobals "ValueError" = some none)
    (z_LookupError : PySem.W.nsIn K mainGlobals "LookupError" = some none)
    (z_TypeError : PySem.W.nsIn K mainGlobals "TypeError" = some none)
    (z_ArithmeticError : PySem.W.nsIn K mainGlobals "ArithmeticError" = some none)
    (z_AttributeError : PySem.W.nsIn K mainGlobals "AttributeError" = some none)
    (z_RuntimeError : PySem.W.nsIn K mainGlobals "RuntimeError" = some none)
    (d_is_integer : PySem.W.nsIn K mainGlobals "is_integer" = some (some (.ref a_is_integer)))
    (d_is_within : PySem.W.nsIn K mainGlobals "is_within" = some (some (.ref a_is_within)))
    (d_is_list : PySem.W.nsIn K mainGlobals "is_list" = some (some (.ref a_is_list)))
    (d_is_long_word : PySem.W.nsIn K mainGlobals "is_long_word" = some (some (.ref a_is_long_word)))
    (d_is_rising : PySem.W.nsIn K mainGlobals "is_rising" = some (some (.ref a_is_rising)))
    (d_is_name : PySem.W.nsIn K mainGlobals "is_name" = some (some (.ref a_is_name)))
    (d_is_sound : PySem.W.nsIn K mainGlobals "is_sound" = some (some (.ref a_is_sound)))
    (d_is_word : PySem.W.nsIn K mainGlobals "is_word" = some (some (.ref a_is_word)))
    (d_is_stock : PySem.W.nsIn K mainGlobals "is_stock" = some (some (.ref a_is_stock)))
    (d_is_numbers : PySem.W.nsIn K mainGlobals "is_numbers" = some (some (.ref a_is_numbers)))
    (d_first_twice : PySem.W.nsIn K mainGlobals "first_twice" = some (some (.ref a_first_twice)))
    (d_of_stock : PySem.W.nsIn K mainGlobals "of_stock" = some (some (.ref a_of_stock)))
    (d__law_pen : PySem.W.nsIn K mainGlobals "_law_pen" = some (some (.ref a__law_pen)))
    (d__law_draw : PySem.W.nsIn K mainGlobals "_law_draw" = some (some (.ref a__law_draw)))
    (d__law_pick : PySem.W.nsIn K mainGlobals "_law_pick" = some (some (.ref a__law_pick)))
    (d__law_value : PySem.W.nsIn K mainGlobals "_law_value" = some (some (.ref a__law_value)))
    (d__law_classes : PySem.W.nsIn K mainGlobals "_law_classes" = some (some (.ref a__law_classes)))
    (d__law_is_only : PySem.W.nsIn K mainGlobals "_law_is_only" = some (some (.ref a__law_is_only)))
    (d__law_by_place : PySem.W.nsIn K mainGlobals "_law_by_place" = some (some (.ref a__law_by_place)))
    (d__law_by_name : PySem.W.nsIn K mainGlobals "_law_by_name" = some (some (.ref a__law_by_name)))
    (d__law_one_right : PySem.W.nsIn K mainGlobals "_law_one_right" = some (some (.ref a__law_one_right)))
    (d__law_two_right : PySem.W.nsIn K mainGlobals "_law_two_right" = some (some (.ref a__law_two_right)))
    (d__law_integers_right : PySem.W.nsIn K mainGlobals "_law_integers_right" = some (some (.ref a__law_integers_right)))
    (d__law_texts_right : PySem.W.nsIn K mainGlobals "_law_texts_right" = some (some (.ref a__law_texts_right)))
    (d__law_stocks_right : PySem.W.nsIn K mainGlobals "_law_stocks_right" = some (some (.ref a__law_stocks_right)))
    (d__law_twice_right : PySem.W.nsIn K mainGlobals "_law_twice_right" = some (some (.ref a__law_twice_right)))
    (d_law : PySem.W.nsIn K mainGlobals "law" = some (some (.ref a_law)))
    (F_is_integer : ∃ fd : FuncData, Fun K "is_integer" "is_integer" st_is_integer a_is_integer fd)
    (F_is_within : ∃ fd : FuncData, Fun K "is_within" "is_within" st_is_within a_is_within fd)
    (F_is_list : ∃ fd : FuncData, Fun K "is_list" "is_list" st_is_list a_is_list fd)
    (F_is_long_word : ∃ fd : FuncData, Fun K "is_long_word" "is_long_word" st_is_long_word a_is_long_word fd)
    (F_is_rising : ∃ fd : FuncData, Fun K "is_rising" "is_rising" st_is_rising a_is_rising fd)
    (F_is_name : ∃ fd : FuncData, Fun K "is_name" "is_name" st_is_name a_is_name fd)
    (F_is_sound : ∃ fd : FuncData, Fun K "is_sound" "is_sound" st_is_sound a_is_sound fd)
    (F_is_word : ∃ fd : FuncData, Fun K "is_word" "is_word" st_is_word a_is_word fd)
    (F_is_stock : ∃ fd : FuncData, Fun K "is_stock" "is_stock" st_is_stock a_is_stock fd)
    (F_is_numbers : ∃ fd : FuncData, Fun K "is_numbers" "is_numbers" st_is_numbers a_is_numbers fd)
    (F_first_twice : ∃ fd : FuncData, Fun K "first_twice" "first_twice" st_first_twice a_first_twice fd)
    (F_of_stock : ∃ fd : FuncData, Fun K "of_stock" "of_stock" st_of_stock a_of_stock fd)
    (F__law_pen : ∃ fd : FuncData, Fun K "_law_pen" "_law_pen" st_l_pen a__law_pen fd)
    (F__law_draw : ∃ fd : FuncData, Fun K "_law_draw" "_law_draw" st_l_draw a__law_draw fd)
    (F__law_pick : ∃ fd : FuncData, Fun K "_law_pick" "_law_pick" st_l_pick a__law_pick fd)
    (F__law_value : ∃ fd : FuncData, Fun K "_law_value" "_law_value" st_l_value a__law_value fd)
    (F__law_classes : ∃ fd : FuncData, Fun K "_law_classes" "_law_classes" st_l_classes a__law_classes fd)
    (F__law_is_only : ∃ fd : FuncData, Fun K "_law_is_only" "_law_is_only" st_l_is_only a__law_is_only fd)
    (F__law_by_place : ∃ fd : FuncData, Fun K "_law_by_place" "_law_by_place" st_l_by_place a__law_by_place fd)
    (F__law_by_name : ∃ fd : FuncData, Fun K "_law_by_name" "_law_by_name" st_l_by_name a__law_by_name fd)
    (F__law_one_right : ∃ fd : FuncData, Fun K "_law_one_right" "_law_one_right" st_l_one_right a__law_one_right fd)
    (F__law_two_right : ∃ fd : FuncData, Fun K "_law_two_right" "_law_two_right" st_l_two_right a__law_two_right fd)
    (F__law_integers_right : ∃ fd : FuncData, Fun K "_law_integers_right" "_law_integers_right" st_l_integers_right a__law_integers_right fd)
    (F__law_texts_right : ∃ fd : FuncData, Fun K "_law_texts_right" "_law_texts_right" st_l_texts_right a__law_texts_right fd)
    (F__law_stocks_right : ∃ fd : FuncData, Fun K "_law_stocks_right" "_law_stocks_right" st_l_stocks_right a__law_stocks_right fd)
    (F__law_twice_right : ∃ fd : FuncData, Fun K "_law_twice_right" "_law_twice_right" st_l_twice_right a__law_twice_right fd)
    (F_law : ∃ fd : FuncData, Fun K "law" "law" st_law a_law fd)
    (i_BadWord : PySem.W.findIn K (.ref c_BadWord) "__init__" = some (some (.ref f_BadWord)))
    (i_BadStock : PySem.W.findIn K (.ref c_BadStock) "__init__" = some (some (.ref f_BadStock)))
    (i_BadShift : PySem.W.findIn K (.ref c_BadShift) "__init__" = some (some (.ref f_BadShift)))
    (i_BadCourse : PySem.W.findIn K (.ref c_BadCourse) "__init__" = some (some (.ref f_BadCourse)))
    (i_BadSheet : PySem.W.findIn K (.ref c_BadSheet) "__init__" = some (some (.ref f_BadSheet)))
    (i_BadDyeing : PySem.W.findIn K (.ref c_BadDyeing) "__init__" = some (some (.ref f_BadDyeing)))
    (i_BadSaying : PySem.W.findIn K (.ref c_BadSaying) "__init__" = some (some (.ref f_BadSaying)))
    (i_BadPairs : PySem.W.findIn K (.ref c_BadPairs) "__init__" = some (some (.ref f_BadPairs)))
    (i_BadFamily : PySem.W.findIn K (.ref c_BadFamily) "__init__" = some (some (.ref f_BadFamily)))
    (i_BadNumber : PySem.W.findIn K (.ref c_BadNumber) "__init__" = some (some (.ref f_BadNumber)))
    (i_BadPaper : PySem.W.findIn K (.ref c_BadPaper) "__init__" = some (some (.ref f_BadPaper)))
    (i_BadDesk : PySem.W.findIn K (.ref c_BadDesk) "__init__" = some (some (.ref f_BadDesk)))
    (i_Misfit : PySem.W.findIn K (.ref c_Misfit) "__init__" = some (some (.ref f_Misfit)))
    (i_NoRow : PySem.W.findIn K (.ref c_NoRow) "__init__" = some (some (.ref f_Missing)))
    (i_NoLanguage : PySem.W.findIn K (.ref c_NoLanguage) "__init__" = some (some (.ref f_Missing)))
    (i_NoPlace : PySem.W.findIn K (.ref c_NoPlace) "__init__" = some (some (.ref f_Missing)))
    (i_NoShift : PySem.W.findIn K (.ref c_NoShift) "__init__" = some (some (.ref f_Missing)))
    (i_NoName : PySem.W.findIn K (.ref c_NoName) "__init__" = some (some (.ref f_Missing)))
    (i_Twice : PySem.W.findIn K (.ref c_Twice) "__init__" = some (some (.ref f_Twice)))
    (i_Impossible : PySem.W.findIn K (.ref c_Impossible) "__init__" = some (some (.ref f_Impossible)))
    (i_TooMany : PySem.W.findIn K (.ref c_TooMany) "__init__" = some (some (.ref f_TooMany)))
    (i_BadText : PySem.W.findIn K (.ref c_BadText) "__init__" = some (some (.ref f_BadText)))
    (i_BadLine : PySem.W.findIn K (.ref c_BadLine) "__init__" = some (some (.ref f_BadLine)))
    (i_Missing : PySem.W.findIn K (.ref c_Missing) "__init__" = some (some (.ref f_Missing)))
    (t_BadWord : PySem.W.typeIn K (.ref f_BadWord) = some (.type "function"))
    (G_BadWord : ∃ fd : FuncData, Fun K "__init__" "BadWord.__init__" st_i_BadWord f_BadWord fd)
    (t_BadStock : PySem.W.typeIn K (.ref f_BadStock) = some (.type "function"))
    (G_BadStock : ∃ fd : FuncData, Fun K "__init__" "BadStock.__init__" st_i_BadStock f_BadStock fd)
    (t_BadShift : PySem.W.typeIn K (.ref f_BadShift) = some (.type "function"))
    (G_BadShift : ∃ fd : FuncData, Fun K "__init__" "BadShift.__init__" st_i_BadShift f_BadShift fd)
    (t_BadCourse : PySem.W.typeIn K (.ref f_BadCourse) = some (.type "function"))
    (G_BadCourse : ∃ fd : FuncData, Fun K "__init__" "BadCourse.__init__" st_i_BadCourse f_BadCourse fd)
    (t_BadSheet : PySem.W.typeIn K (.ref f_BadSheet) = some (.type "function"))
    (G_BadSheet : ∃ fd : FuncData, Fun K "__init__" "BadSheet.__init__" st_i_BadSheet f_BadSheet fd)
    (t_BadDyeing : PySem.W.typeIn K (.ref f_BadDyeing) = some (.type "function"))
    (G_BadDyeing : ∃ fd : FuncData, Fun K "__init__" "BadDyeing.__init__" st_i_BadDyeing f_BadDyeing fd)
    (t_BadSaying : PySem.W.typeIn K (.ref f_BadSaying) = some (.type "function"))
    (G_BadSaying : ∃ fd : FuncData, Fun K "__init__" "BadSaying.__init__" st_i_BadSaying f_BadSaying fd)
    (t_BadPairs : PySem.W.typeIn K (.ref f_BadPairs) = some (.type "function"))
    (G_BadPairs : ∃ fd : FuncData, Fun K "__init__" "BadPairs.__init__" st_i_BadPairs f_BadPairs fd)
    (t_BadFamily : PySem.W.typeIn K (.ref f_BadFamily) = some (.type "function"))
    (G_BadFamily : ∃ fd : FuncData, Fun K "__init__" "BadFamily.__init__" st_i_BadFamily f_BadFamily fd)
    (t_BadNumber : PySem.W.typeIn K (.ref f_BadNumber) = some (.type "function"))
    (G_BadNumber : ∃ fd : FuncData, Fun K "__init__" "BadNumber.__init__" st_i_BadNumber f_BadNumber fd)
    (t_BadPaper : PySem.W.typeIn K (.ref f_BadPaper) = some (.type "function"))
    (G_BadPaper : ∃ fd : FuncData, Fun K "__init__" "BadPaper.__init__" st_i_BadPaper f_BadPaper fd)
    (t_BadDesk : PySem.W.typeIn K (.ref f_BadDesk) = some (.type "function"))
    (G_BadDesk : ∃ fd : FuncData, Fun K "__init__" "BadDesk.__init__" st_i_BadDesk f_BadDesk fd)
    (t_Misfit : PySem.W.typeIn K (.ref f_Misfit) = some (.type "function"))
    (G_Misfit : ∃ fd : FuncData, Fun K "__init__" "Misfit.__init__" st_i_Misfit f_Misfit fd)
    (t_Missing : PySem.W.typeIn K (.ref f_Missing) = some (.type "function"))
    (G_Missing : ∃ fd : FuncData, Fun K "__init__" "Missing.__init__" st_i_Missing f_Missing fd)
    (t_Twice : PySem.W.typeIn K (.ref f_Twice) = some (.type "function"))
    (G_Twice : ∃ fd : FuncData, Fun K "__init__" "Twice.__init__" st_i_Twice f_Twice fd)
    (t_Impossible : PySem.W.typeIn K (.ref f_Impossible) = some (.type "function"))
    (G_Impossible : ∃ fd : FuncData, Fun K "__init__" "Impossible.__init__" st_i_Impossible f_Impossible fd)
    (t_TooMany : PySem.W.typeIn K (.ref f_TooMany) = some (.type "function"))
    (G_TooMany : ∃ fd : FuncData, Fun K "__init__" "TooMany.__init__" st_i_TooMany f_TooMany fd)
    (t_BadText : PySem.W.typeIn K (.ref f_BadText) = some (.type "function"))
    (G_BadText : ∃ fd : FuncData, Fun K "__init__" "BadText.__init__" st_i_BadText f_BadText fd)
    (t_BadLine : PySem.W.typeIn K (.ref f_BadLine) = some (.type "function"))
    (G_BadLine : ∃ fd : FuncData, Fun K "__init__" "BadLine.__init__" st_i_BadLine f_BadLine fd)
    (o_BadWord : OexC K c_BadWord)
    (o_BadStock : OexC K c_BadStock)
    (o_BadShift : OexC K c_BadShift)
    (o_BadCourse : OexC K c_BadCourse)
    (o_BadSheet : OexC K c_BadSheet)
    (o_BadDyeing : OexC K c_BadDyeing)
    (o_BadSaying : OexC K c_BadSaying)
    (o_BadPairs : OexC K c_BadPairs)
    (o_BadFamily : OexC K c_BadFamily)
    (o_BadNumber : OexC K c_BadNumber)
    (o_BadPaper : OexC K c_BadPaper)
    (o_BadDesk : OexC K c_BadDesk)
    (o_Misfit : OexC K c_Misfit)
    (o_NoRow : OexC K c_NoRow)
    (o_NoLanguage : OexC K c_NoLanguage)
    (o_NoPlace : OexC K c_NoPlace)
    (o_NoShift : OexC K c_NoShift)
    (o_NoName : OexC K c_NoName)
    (o_Twice : OexC K c_Twice)
    (o_Impossible : OexC K c_Impossible)
    (o_TooMany : OexC K c_TooMany)
    (o_BadText : OexC K c_BadText)
    (o_BadLine : OexC K c_BadLine)
    (o_Missing : OexC K c_Missing)
    (e_BadWord : ExcC K c_BadWord)
    (e_BadStock : ExcC K c_BadStock)
    (e_BadShift : ExcC K c_BadShift)
    (e_BadCourse : ExcC K c_BadCourse)
    (e_BadSheet : ExcC K c_BadSheet)
    (e_BadDyeing : ExcC K c_BadDyeing)
    (e_BadSaying : ExcC K c_BadSaying)
    (e_BadPairs : ExcC K c_BadPairs)
    (e_BadFamily : ExcC K c_BadFamily)
    (e_BadNumber : ExcC K c_BadNumber)
    (e_BadPaper : ExcC K c_BadPaper)
    (e_BadDesk : ExcC K c_BadDesk)
    (e_Misfit : ExcC K c_Misfit)
    (e_NoRow : ExcC K c_NoRow)
    (e_NoLanguage : ExcC K c_NoLanguage)
    (e_NoPlace : ExcC K c_NoPlace)
    (e_NoShift : ExcC K c_NoShift)
    (e_NoName : ExcC K c_NoName)
    (e_Twice : ExcC K c_Twice)
    (e_Impossible : ExcC K c_Impossible)
    (e_TooMany : ExcC K c_TooMany)
    (e_Nothing : ExcC K c_Nothing)
    (e_BadText : ExcC K c_BadText)
    (e_BadLine : ExcC K c_BadLine)
    (e_Missing : ExcC K c_Missing)
    (p_BadWord_part : PySem.W.findIn K (.ref c_BadWord) "part" = some none)
    (p_BadStock_part : PySem.W.findIn K (.ref c_BadStock) "part" = some none)
    (p_BadShift_part : PySem.W.findIn K (.ref c_BadShift) "part" = some none)
    (p_BadCourse_part : PySem.W.findIn K (.ref c_BadCourse) "part" = some none)
    (p_BadSheet_part : PySem.W.findIn K (.ref c_BadSheet) "part" = some none)
    (p_BadDyeing_part : PySem.W.findIn K (.ref c_BadDyeing) "part" = some none)
    (p_BadSaying_part : PySem.W.findIn K (.ref c_BadSaying) "part" = some none)
    (p_BadPairs_part : PySem.W.findIn K (.ref c_BadPairs) "part" = some none)
    (p_BadFamily_part : PySem.W.findIn K (.ref c_BadFamily) "part" = some none)
    (p_BadNumber_part : PySem.W.findIn K (.ref c_BadNumber) "part" = some none)
    (p_BadPaper_part : PySem.W.findIn K (.ref c_BadPaper) "part" = some none)
    (p_BadDesk_part : PySem.W.findIn K (.ref c_BadDesk) "part" = some none)
    (p_Misfit_part : PySem.W.findIn K (.ref c_Misfit) "part" = some none)
    (p_NoRow_value : PySem.W.findIn K (.ref c_NoRow) "value" = some none)
    (p_NoLanguage_value : PySem.W.findIn K (.ref c_NoLanguage) "value" = some none)
    (p_NoPlace_value : PySem.W.findIn K (.ref c_NoPlace) "value" = some none)
    (p_NoShift_value : PySem.W.findIn K (.ref c_NoShift) "value" = some none)
    (p_NoName_value : PySem.W.findIn K (.ref c_NoName) "value" = some none)
    (p_Twice_value : PySem.W.findIn K (.ref c_Twice) "value" = some none)
    (p_Impossible_paper : PySem.W.findIn K (.ref c_Impossible) "paper" = some none)
    (p_TooMany_what : PySem.W.findIn K (.ref c_TooMany) "what" = some none)
    (p_TooMany_most : PySem.W.findIn K (.ref c_TooMany) "most" = some none)
    (p_BadText_line : PySem.W.findIn K (.ref c_BadText) "line" = some none)
    (p_BadText_item : PySem.W.findIn K (.ref c_BadText) "item" = some none)
    (p_BadLine_line : PySem.W.findIn K (.ref c_BadLine) "line" = some none)
    (p_BadLine_error : PySem.W.findIn K (.ref c_BadLine) "error" = some none)
    (p_Missing_value : PySem.W.findIn K (.ref c_Missing) "value" = some none)
    (nx : PySem.W.excIn K c_Nothing [.type "ValueError", .type "Exception", .type "BaseException", .type "object"] "ValueError.__new__" = true)
    (nk : PySem.W.keepIn K (.ref c_Nothing) = true)
    (kb : kitB K [c_BadWord, c_BadStock, c_BadShift, c_BadCourse, c_BadSheet, c_BadDyeing, c_BadSaying, c_BadPairs, c_BadFamily, c_BadNumber, c_BadPaper, c_BadDesk, c_Misfit, c_NoRow, c_NoLanguage, c_NoPlace, c_NoShift, c_NoName, c_Twice, c_Impossible, c_TooMany, c_Nothing, c_BadText, c_BadLine] c_TongueError c_Missing = true)
    : ∃ fd : FuncData, (∀ (s : Shared) (v : Value), BindsTo s fd ⟨[v], []⟩ [("_law_script", v)]) ∧ ∀ base : Heap, K.In base → base.Ns mainGlobals mg → FnOk l.prog w K mg base CX0 5 fa fd ["_law_script"] (spLaw K) := by
  have ehfa := hfa.symm.trans (PySem.W.mg_of X G d_law)
  cases ehfa
  have T : Blt mg := ⟨PySem.W.mg_none_of X G z_len, PySem.W.mg_none_of X G z_isinstance, PySem.W.mg_none_of X G z_int, PySem.W.mg_none_of X G z_bool, PySem.W.mg_none_of X G z_str, PySem.W.mg_none_of X G z_list, PySem.W.mg_none_of X G z_tuple, PySem.W.mg_none_of X G z_all, PySem.W.mg_none_of X G z_zip, PySem.W.mg_none_of X G z_set, PySem.W.mg_none_of X G z_abs, PySem.W.mg_none_of X G z_range, PySem.W.mg_none_of X G z_enumerate, PySem.W.mg_none_of X G z_sorted⟩
  have TG : Gn mg (clsF [c_BadWord, c_BadStock, c_BadShift, c_BadCourse, c_BadSheet, c_BadDyeing, c_BadSaying, c_BadPairs, c_BadFamily, c_BadNumber, c_BadPaper, c_BadDesk, c_Misfit, c_NoRow, c_NoLanguage, c_NoPlace, c_NoShift, c_NoName, c_Twice, c_Impossible, c_TooMany, c_Nothing, c_BadText, c_BadLine]) c_TongueError c_Missing := ⟨PySem.W.mg_of X G n_BadWord, PySem.W.mg_of X G n_BadStock, PySem.W.mg_of X G n_BadShift, PySem.W.mg_of X G n_BadCourse, PySem.W.mg_of X G n_BadSheet, PySem.W.mg_of X G n_BadDyeing, PySem.W.mg_of X G n_BadSaying, PySem.W.mg_of X G n_BadPairs, PySem.W.mg_of X G n_BadFamily, PySem.W.mg_of X G n_BadNumber, PySem.W.mg_of X G n_BadPaper, PySem.W.mg_of X G n_BadDesk, PySem.W.mg_of X G n_Misfit, PySem.W.mg_of X G n_NoRow, PySem.W.mg_of X G n_NoLanguage, PySem.W.mg_of X G n_NoPlace, PySem.W.mg_of X G n_NoShift, PySem.W.mg_of X G n_NoName, PySem.W.mg_of X G n_Twice, PySem.W.mg_of X G n_Impossible, PySem.W.mg_of X G n_TooMany, PySem.W.mg_of X G n_Nothing, PySem.W.mg_of X G n_BadText, PySem.W.mg_of X G n_BadLine, PySem.W.mg_of X G n_TongueError, PySem.W.mg_of X G n_Missing, PySem.W.mg_none_of X G z_ValueError, PySem.W.mg_none_of X G z_LookupError, PySem.W.mg_none_of X G z_TypeError, PySem.W.mg_none_of X G z_ArithmeticError, PySem.W.mg_none_of X G z_AttributeError, PySem.W.mg_none_of X G z_RuntimeError, PySem.W.mg_none_of X G z_isinstance, PySem.W.mg_none_of X G z_range, PySem.W.mg_none_of X G z_enumerate⟩
  obtain ⟨fd_is_integer, F_is_integer⟩ := F_is_integer
  obtain ⟨fd_is_within, F_is_within⟩ := F_is_within
  obtain ⟨fd_is_list, F_is_list⟩ := F_is_list
  obtain ⟨fd_is_long_word, F_is_long_word⟩ := F_is_long_word
  obtain ⟨fd_is_rising, F_is_rising⟩ := F_is_rising
  obtain ⟨fd_is_name, F_is_name⟩ := F_is_name
  obtain ⟨fd_is_sound, F_is_sound⟩ := F_is_sound
  obtain ⟨fd_is_word, F_is_word⟩ := F_is_word
  obtain ⟨fd_is_stock, F_is_stock⟩ := F_is_stock
  obtain ⟨fd_is_numbers, F_is_numbers⟩ := F_is_numbers
  obtain ⟨fd_first_twice, F_first_twice⟩ := F_first_twice
  obtain ⟨fd_of_stock, F_of_stock⟩ := F_of_stock
  obtain ⟨fd__law_pen, F__law_pen⟩ := F__law_pen
  obtain ⟨fd__law_draw, F__law_draw⟩ := F__law_draw
  obtain ⟨fd__law_pick, F__law_pick⟩ := F__law_pick
  obtain ⟨fd__law_value, F__law_value⟩ := F__law_value
  obtain ⟨fd__law_classes, F__law_classes⟩ := F__law_classes
  obtain ⟨fd__law_is_only, F__law_is_only⟩ := F__law_is_only
  obtain ⟨fd__law_by_place, F__law_by_place⟩ := F__law_by_place
  obtain ⟨fd__law_by_name, F__law_by_name⟩ := F__law_by_name
  obtain ⟨fd__law_one_right, F__law_one_right⟩ := F__law_one_right
  obtain ⟨fd__law_two_right, F__law_two_right⟩ := F__law_two_right
  obtain ⟨fd__law_integers_right, F__law_integers_right⟩ := F__law_integers_right
  obtain ⟨fd__law_texts_right, F__law_texts_right⟩ := F__law_texts_right
  obtain ⟨fd__law_stocks_right, F__law_stocks_right⟩ := F__law_stocks_right
  obtain ⟨fd__law_twice_right, F__law_twice_right⟩ := F__law_twice_right
  obtain ⟨fd_law, F_law⟩ := F_law
  obtain ⟨fi_BadWord, G_BadWord⟩ := G_BadWord
  obtain ⟨fi_BadStock, G_BadStock⟩ := G_BadStock
  obtain ⟨fi_BadShift, G_BadShift⟩ := G_BadShift
  obtain ⟨fi_BadCourse, G_BadCourse⟩ := G_BadCourse
  obtain ⟨fi_BadSheet, G_BadSheet⟩ := G_BadSheet
  obtain ⟨fi_BadDyeing, G_BadDyeing⟩ := G_BadDyeing
  obtain ⟨fi_BadSaying, G_BadSaying⟩ := G_BadSaying
  obtain ⟨fi_BadPairs, G_BadPairs⟩ := G_BadPairs
  obtain ⟨fi_BadFamily, G_BadFamily⟩ := G_BadFamily
  obtain ⟨fi_BadNumber, G_BadNumber⟩ := G_BadNumber
  obtain ⟨fi_BadPaper, G_BadPaper⟩ := G_BadPaper
  obtain ⟨fi_BadDesk, G_BadDesk⟩ := G_BadDesk
  obtain ⟨fi_Misfit, G_Misfit⟩ := G_Misfit
  obtain ⟨fi_Missing, G_Missing⟩ := G_Missing
  obtain ⟨fi_Twice, G_Twice⟩ := G_Twice
  obtain ⟨fi_Impossible, G_Impossible⟩ := G_Impossible
  obtain ⟨fi_TooMany, G_TooMany⟩ := G_TooMany
  obtain ⟨fi_BadText, G_BadText⟩ := G_BadText
  obtain ⟨fi_BadLine, G_BadLine⟩ := G_BadLine
  have ec : ∀ i, i < 24 → ExcC K (clsF [c_BadWord, c_BadStock, c_BadShift, c_BadCourse, c_BadSheet, c_BadDyeing, c_BadSaying, c_BadPairs, c_BadFamily, c_BadNumber, c_BadPaper, c_BadDesk, c_Misfit, c_NoRow, c_NoLanguage, c_NoPlace, c_NoShift, c_NoName, c_Twice, c_Impossible, c_TooMany, c_Nothing, c_BadText, c_BadLine] i) := by
    intro i hi
    match i, hi with
    | 0, _ => exact e_BadWord
    | 1, _ => exact e_BadStock
    | 2, _ => exact e_BadShift
    | 3, _ => exact e_BadCourse
    | 4, _ => exact e_BadSheet
    | 5, _ => exact e_BadDyeing
    | 6, _ => exact e_BadSaying
    | 7, _ => exact e_BadPairs
    | 8, _ => exact e_BadFamily
    | 9, _ => exact e_BadNumber
    | 10, _ => exact e_BadPaper
    | 11, _ => exact e_BadDesk
    | 12, _ => exact e_Misfit
    | 13, _ => exact e_NoRow
    | 14, _ => exact e_NoLanguage
    | 15, _ => exact e_NoPlace
    | 16, _ => exact e_NoShift
    | 17, _ => exact e_NoName
    | 18, _ => exact e_Twice
    | 19, _ => exact e_Impossible
    | 20, _ => exact e_TooMany
    | 21, _ => exact e_Nothing
    | 22, _ => exact e_BadText
    | 23, _ => exact e_BadLine
    | i + 24, hi => exact absurd hi (by omega)
  have no : ∀ i, i < 19 → PySem.W.findIn K (.ref (clsF [c_BadWord, c_BadStock, c_BadShift, c_BadCourse, c_BadSheet, c_BadDyeing, c_BadSaying, c_BadPairs, c_BadFamily, c_BadNumber, c_BadPaper, c_BadDesk, c_Misfit, c_NoRow, c_NoLanguage, c_NoPlace, c_NoShift, c_NoName, c_Twice, c_Impossible, c_TooMany, c_Nothing, c_BadText, c_BadLine] i)) (fldN i) = some none := by
    intro i hi
    match i, hi with
    | 0, _ => exact p_BadWord_part
    | 1, _ => exact p_BadStock_part
    | 2, _ => exact p_BadShift_part
    | 3, _ => exact p_BadCourse_part
    | 4, _ => exact p_BadSheet_part
    | 5, _ => exact p_BadDyeing_part
    | 6, _ => exact p_BadSaying_part
    | 7, _ => exact p_BadPairs_part
    | 8, _ => exact p_BadFamily_part
    | 9, _ => exact p_BadNumber_part
    | 10, _ => exact p_BadPaper_part
    | 11, _ => exact p_BadDesk_part
    | 12, _ => exact p_Misfit_part
    | 13, _ => exact p_NoRow_value
    | 14, _ => exact p_NoLanguage_value
    | 15, _ => exact p_NoPlace_value
    | 16, _ => exact p_NoShift_value
    | 17, _ => exact p_NoName_value
    | 18, _ => exact p_Twice_value
    | i + 19, hi => exact absurd hi (by omega)
  obtain ⟨kr, kt⟩ := kitB_end kb
  have D : Flds K (clsF [c_BadWord, c_BadStock, c_BadShift, c_BadCourse, c_BadSheet, c_BadDyeing, c_BadSaying, c_BadPairs, c_BadFamily, c_BadNumber, c_BadPaper, c_BadDesk, c_Misfit, c_NoRow, c_NoLanguage, c_NoPlace, c_NoShift, c_NoName, c_Twice, c_Impossible, c_TooMany, c_Nothing, c_BadText, c_BadLine]) c_TongueError c_Missing := ⟨fun i hi => xf_of (ec i hi), no, p_Impossible_paper, p_TooMany_what, p_TooMany_most, p_BadText_line, p_BadText_item, p_BadLine_line, p_BadLine_error, kitB_row kb ec, xf_of e_Missing, p_Missing_value, e_Missing, kr, kt⟩
  have T0 : Noth K mg c_Nothing := ⟨PySem.F.excBase_ValueError, nx, PySem.W.mg_of X G n_Nothing, nk⟩
  have b_BadWord : Binds K fi_BadWord ["self", "part"] [] := (G_BadWord.binds (ps := ["self", "part"]) fun _ _ _ _ _ _ us hl => match us, hl with | [_, _], _ => rfl)
  have k_BadWord : KBinds K fi_BadWord ["self", "part"] ["part"] kg2 kg2 := kb2 G_BadWord fun _ _ _ _ _ _ _ _ => rfl
  have b_BadStock : Binds K fi_BadStock ["self", "part"] [] := (G_BadStock.binds (ps := ["self", "part"]) fun _ _ _ _ _ _ us hl => match us, hl with | [_, _], _ => rfl)
  have k_BadStock : KBinds K fi_BadStock ["self", "part"] ["part"] kg2 kg2 := kb2 G_BadStock fun _ _ _ _ _ _ _ _ => rfl
  have b_BadShift : Binds K fi_BadShift ["self", "part"] [] := (G_BadShift.binds (ps := ["self", "part"]) fun _ _ _ _ _ _ us hl => match us, hl with | [_, _], _ => rfl)
  have k_BadShift : KBinds K fi_BadShift ["self", "part"] ["part"] kg2 kg2 := kb2 G_BadShift fun _ _ _ _ _ _ _ _ => rfl
  have b_BadCourse : Binds K fi_BadCourse ["self", "part"] [] := (G_BadCourse.binds (ps := ["self", "part"]) fun _ _ _ _ _ _ us hl => match us, hl with | [_, _], _ => rfl)
  have k_BadCourse : KBinds K fi_BadCourse ["self", "part"] ["part"] kg2 kg2 := kb2 G_BadCourse fun _ _ _ _ _ _ _ _ => rfl
  have b_BadSheet : Binds K fi_BadSheet ["self", "part"] [] := (G_BadSheet.binds (ps := ["self", "part"]) fun _ _ _ _ _ _ us hl => match us, hl with | [_, _], _ => rfl)
  have k_BadSheet : KBinds K fi_BadSheet ["self", "part"] ["part"] kg2 kg2 := kb2 G_BadSheet fun _ _ _ _ _ _ _ _ => rfl
  have b_BadDyeing : Binds K fi_BadDyeing ["self", "part"] [] := (G_BadDyeing.binds (ps := ["self", "part"]) fun _ _ _ _ _ _ us hl => match us, hl with | [_, _], _ => rfl)
  have k_BadDyeing : KBinds K fi_BadDyeing ["self", "part"] ["part"] kg2 kg2 := kb2 G_BadDyeing fun _ _ _ _ _ _ _ _ => rfl
  have b_BadSaying : Binds K fi_BadSaying ["self", "part"] [] := (G_BadSaying.binds (ps := ["self", "part"]) fun _ _ _ _ _ _ us hl => match us, hl with | [_, _], _ => rfl)
  have k_BadSaying : KBinds K fi_BadSaying ["self", "part"] ["part"] kg2 kg2 := kb2 G_BadSaying fun _ _ _ _ _ _ _ _ => rfl
  have b_BadPairs : Binds K fi_BadPairs ["self", "part"] [] := (G_BadPairs.binds (ps := ["self", "part"]) fun _ _ _ _ _ _ us hl => match us, hl with | [_, _], _ => rfl)
  have k_BadPairs : KBinds K fi_BadPairs ["self", "part"] ["part"] kg2 kg2 := kb2 G_BadPairs fun _ _ _ _ _ _ _ _ => rfl
  have b_BadFamily : Binds K fi_BadFamily ["self", "part"] [] := (G_BadFamily.binds (ps := ["self", "part"]) fun _ _ _ _ _ _ us hl => match us, hl with | [_, _], _ => rfl)
  have k_BadFamily : KBinds K fi_BadFamily ["self", "part"] ["part"] kg2 kg2 := kb2 G_BadFamily fun _ _ _ _ _ _ _ _ => rfl
  have b_BadNumber : Binds K fi_BadNumber ["self", "part"] [] := (G_BadNumber.binds (ps := ["self", "part"]) fun _ _ _ _ _ _ us hl => match us, hl with | [_, _], _ => rfl)
  have k_BadNumber : KBinds K fi_BadNumber ["self", "part"] ["part"] kg2 kg2 := kb2 G_BadNumber fun _ _ _ _ _ _ _ _ => rfl
  have b_BadPaper : Binds K fi_BadPaper ["self", "part"] [] := (G_BadPaper.binds (ps := ["self", "part"]) fun _ _ _ _ _ _ us hl => match us, hl with | [_, _], _ => rfl)
  have k_BadPaper : KBinds K fi_BadPaper ["self", "part"] ["part"] kg2 kg2 := kb2 G_BadPaper fun _ _ _ _ _ _ _ _ => rfl
  have b_BadDesk : Binds K fi_BadDesk ["self", "part"] [] := (G_BadDesk.binds (ps := ["self", "part"]) fun _ _ _ _ _ _ us hl => match us, hl with | [_, _], _ => rfl)
  have k_BadDesk : KBinds K fi_BadDesk ["self", "part"] ["part"] kg2 kg2 := kb2 G_BadDesk fun _ _ _ _ _ _ _ _ => rfl
  have b_Misfit : Binds K fi_Misfit ["self", "part"] [] := (G_Misfit.binds (ps := ["self", "part"]) fun _ _ _ _ _ _ us hl => match us, hl with | [_, _], _ => rfl)
  have k_Misfit : KBinds K fi_Misfit ["self", "part"] ["part"] kg2 kg2 := kb2 G_Misfit fun _ _ _ _ _ _ _ _ => rfl
  have b_Missing : Binds K fi_Missing ["self", "value"] [] := (G_Missing.binds (ps := ["self", "value"]) fun _ _ _ _ _ _ us hl => match us, hl with | [_, _], _ => rfl)
  have k_Missing : KBinds K fi_Missing ["self", "value"] ["value"] kg2 kg2 := kb2 G_Missing fun _ _ _ _ _ _ _ _ => rfl
  have b_Twice : Binds K fi_Twice ["self", "value"] [] := (G_Twice.binds (ps := ["self", "value"]) fun _ _ _ _ _ _ us hl => match us, hl with | [_, _], _ => rfl)
  have k_Twice : KBinds K fi_Twice ["self", "value"] ["value"] kg2 kg2 := kb2 G_Twice fun _ _ _ _ _ _ _ _ => rfl
  have b_Impossible : Binds K fi_Impossible ["self", "paper"] [] := (G_Impossible.binds (ps := ["self", "paper"]) fun _ _ _ _ _ _ us hl => match us, hl with | [_, _], _ => rfl)
  have k_Impossible : KBinds K fi_Impossible ["self", "paper"] ["paper"] kg2 kg2 := kb2 G_Impossible fun _ _ _ _ _ _ _ _ => rfl
  have b_TooMany : Binds K fi_TooMany ["self", "what", "most"] [] := (G_TooMany.binds (ps := ["self", "what", "most"]) fun _ _ _ _ _ _ us hl => match us, hl with | [_, _, _], _ => rfl)
  have k_TooMany : KBinds K fi_TooMany ["self", "what", "most"] ["most", "what"] kg3r kg3r := kb3r G_TooMany fun _ _ _ _ _ _ _ _ _ => rfl
  have b_BadText : Binds K fi_BadText ["self", "line", "item"] [] := (G_BadText.binds (ps := ["self", "line", "item"]) fun _ _ _ _ _ _ us hl => match us, hl with | [_, _, _], _ => rfl)
  have k_BadText : KBinds K fi_BadText ["self", "line", "item"] ["item", "line"] kg3r kg3r := kb3r G_BadText fun _ _ _ _ _ _ _ _ _ => rfl
  have b_BadLine : Binds K fi_BadLine ["self", "line", "error"] [] := (G_BadLine.binds (ps := ["self", "line", "error"]) fun _ _ _ _ _ _ us hl => match us, hl with | [_, _, _], _ => rfl)
  have k_BadLine : KBinds K fi_BadLine ["self", "line", "error"] ["error", "line"] kg3r kg3r := kb3r G_BadLine fun _ _ _ _ _ _ _ _ _ => rfl
  have b_is_integer : Binds K fd_is_integer ["value"] [] := (F_is_integer.binds (ps := ["value"]) fun _ _ _ _ _ _ us hl => match us, hl with | [_], _ => rfl)
  have b_is_within : Binds K fd_is_within ["value", "least", "most"] [] := (F_is_within.binds (ps := ["value", "least", "most"]) fun _ _ _ _ _ _ us hl => match us, hl with | [_, _, _], _ => rfl)
  have b_is_list : Binds K fd_is_list ["value"] [] := (F_is_list.binds (ps := ["value"]) fun _ _ _ _ _ _ us hl => match us, hl with | [_], _ => rfl)
  have b_is_long_word : Binds K fd_is_long_word ["value"] [] := (F_is_long_word.binds (ps := ["value"]) fun _ _ _ _ _ _ us hl => match us, hl with | [_], _ => rfl)
  have b_is_rising : Binds K fd_is_rising ["signs"] [] := (F_is_rising.binds (ps := ["signs"]) fun _ _ _ _ _ _ us hl => match us, hl with | [_], _ => rfl)
  have b_is_name : Binds K fd_is_name ["value"] [] := (F_is_name.binds (ps := ["value"]) fun _ _ _ _ _ _ us hl => match us, hl with | [_], _ => rfl)
  have b_is_sound : Binds K fd_is_sound ["value"] [] := (F_is_sound.binds (ps := ["value"]) fun _ _ _ _ _ _ us hl => match us, hl with | [_], _ => rfl)
  have b_is_word : Binds K fd_is_word ["value"] [] := (F_is_word.binds (ps := ["value"]) fun _ _ _ _ _ _ us hl => match us, hl with | [_], _ => rfl)
  have b_is_stock : Binds K fd_is_stock ["value"] [] := (F_is_stock.binds (ps := ["value"]) fun _ _ _ _ _ _ us hl => match us, hl with | [_], _ => rfl)
  have b_is_numbers : Binds K fd_is_numbers ["value"] [] := (F_is_numbers.binds (ps := ["value"]) fun _ _ _ _ _ _ us hl => match us, hl with | [_], _ => rfl)
  have b_first_twice : Binds K fd_first_twice ["values"] [] := (F_first_twice.binds (ps := ["values"]) fun _ _ _ _ _ _ us hl => match us, hl with | [_], _ => rfl)
  have b_of_stock : Binds K fd_of_stock ["word", "stock"] [] := (F_of_stock.binds (ps := ["word", "stock"]) fun _ _ _ _ _ _ us hl => match us, hl with | [_, _], _ => rfl)
  have b__law_pen : Binds K fd__law_pen ["_law_script"] [] := (F__law_pen.binds (ps := ["_law_script"]) fun _ _ _ _ _ _ us hl => match us, hl with | [_], _ => rfl)
  have b__law_draw : Binds K fd__law_draw ["_law_pen_here", "_law_many"] [] := (F__law_draw.binds (ps := ["_law_pen_here", "_law_many"]) fun _ _ _ _ _ _ us hl => match us, hl with | [_, _], _ => rfl)
  have b__law_pick : Binds K fd__law_pick ["_law_pen_here", "_law_some"] [] := (F__law_pick.binds (ps := ["_law_pen_here", "_law_some"]) fun _ _ _ _ _ _ us hl => match us, hl with | [_, _], _ => rfl)
  have b__law_value : Binds K fd__law_value ["_law_pen_here"] [] := (F__law_value.binds (ps := ["_law_pen_here"]) fun _ _ _ _ _ _ us hl => match us, hl with | [_], _ => rfl)
  have b__law_classes : Binds K fd__law_classes ["_law_error"] [] := (F__law_classes.binds (ps := ["_law_error"]) fun _ _ _ _ _ _ us hl => match us, hl with | [_], _ => rfl)
  have b__law_is_only : Binds K fd__law_is_only ["_law_error", "_law_at"] [] := (F__law_is_only.binds (ps := ["_law_error", "_law_at"]) fun _ _ _ _ _ _ us hl => match us, hl with | [_, _], _ => rfl)
  have b__law_by_place : Binds K fd__law_by_place ["_law_one"] [] := (F__law_by_place.binds (ps := ["_law_one"]) fun _ _ _ _ _ _ us hl => match us, hl with | [_], _ => rfl)
  have b__law_by_name : Binds K fd__law_by_name ["_law_one"] [] := (F__law_by_name.binds (ps := ["_law_one"]) fun _ _ _ _ _ _ us hl => match us, hl with | [_], _ => rfl)
  have b__law_one_right : Binds K fd__law_one_right ["_law_one", "_law_other"] [] := (F__law_one_right.binds (ps := ["_law_one", "_law_other"]) fun _ _ _ _ _ _ us hl => match us, hl with | [_, _], _ => rfl)
  have b__law_two_right : Binds K fd__law_two_right ["_law_one", "_law_other"] [] := (F__law_two_right.binds (ps := ["_law_one", "_law_other"]) fun _ _ _ _ _ _ us hl => match us, hl with | [_, _], _ => rfl)
  have b__law_integers_right : Binds K fd__law_integers_right ["_law_pen_here"] [] := (F__law_integers_right.binds (ps := ["_law_pen_here"]) fun _ _ _ _ _ _ us hl => match us, hl with | [_], _ => rfl)
  have b__law_texts_right : Binds K fd__law_texts_right ["_law_pen_here"] [] := (F__law_texts_right.binds (ps := ["_law_pen_here"]) fun _ _ _ _ _ _ us hl => match us, hl with | [_], _ => rfl)
  have b__law_stocks_right : Binds K fd__law_stocks_right ["_law_pen_here"] [] := (F__law_stocks_right.binds (ps := ["_law_pen_here"]) fun _ _ _ _ _ _ us hl => match us, hl with | [_], _ => rfl)
  have b__law_twice_right : Binds K fd__law_twice_right ["_law_pen_here"] [] := (F__law_twice_right.binds (ps := ["_law_pen_here"]) fun _ _ _ _ _ _ us hl => match us, hl with | [_], _ => rfl)
  refine ⟨fd_law, ?_, fun base _ _ => ?_⟩
  · obtain ⟨oc, od, kV, doc, pm, an, cdv, ct, osl, rfl, lk, hcd⟩ := F_law.ex
    exact fun s v => .of_eq rfl
  have E : Ers l.prog w K mg base (clsF [c_BadWord, c_BadStock, c_BadShift, c_BadCourse, c_BadSheet, c_BadDyeing, c_BadSaying, c_BadPairs, c_BadFamily, c_BadNumber, c_BadPaper, c_BadDesk, c_Misfit, c_NoRow, c_NoLanguage, c_NoPlace, c_NoShift, c_NoName, c_Twice, c_Impossible, c_TooMany, c_Nothing, c_BadText, c_BadLine]) c_Missing := ⟨⟨PySem.W.mg_of X G n_BadWord, o_BadWord, p_BadWord_part, f_BadWord, fi_BadWord, i_BadWord, t_BadWord, ok_i_BadWord G_BadWord, b_BadWord, k_BadWord⟩, ⟨PySem.W.mg_of X G n_BadStock, o_BadStock, p_BadStock_part, f_BadStock, fi_BadStock, i_BadStock, t_BadStock, ok_i_BadStock G_BadStock, b_BadStock, k_BadStock⟩, ⟨PySem.W.mg_of X G n_BadShift, o_BadShift, p_BadShift_part, f_BadShift, fi_BadShift, i_BadShift, t_BadShift, ok_i_BadShift G_BadShift, b_BadShift, k_BadShift⟩, ⟨PySem.W.mg_of X G n_BadCourse, o_BadCourse, p_BadCourse_part, f_BadCourse, fi_BadCourse, i_BadCourse, t_BadCourse, ok_i_BadCourse G_BadCourse, b_BadCourse, k_BadCourse⟩, ⟨PySem.W.mg_of X G n_BadSheet, o_BadSheet, p_BadSheet_part, f_BadSheet, fi_BadSheet, i_BadSheet, t_BadSheet, ok_i_BadSheet G_BadSheet, b_BadSheet, k_BadSheet⟩, ⟨PySem.W.mg_of X G n_BadDyeing, o_BadDyeing, p_BadDyeing_part, f_BadDyeing, fi_BadDyeing, i_BadDyeing, t_BadDyeing, ok_i_BadDyeing G_BadDyeing, b_BadDyeing, k_BadDyeing⟩, ⟨PySem.W.mg_of X G n_BadSaying, o_BadSaying, p_BadSaying_part, f_BadSaying, fi_BadSaying, i_BadSaying, t_BadSaying, ok_i_BadSaying G_BadSaying, b_BadSaying, k_BadSaying⟩, ⟨PySem.W.mg_of X G n_BadPairs, o_BadPairs, p_BadPairs_part, f_BadPairs, fi_BadPairs, i_BadPairs, t_BadPairs, ok_i_BadPairs G_BadPairs, b_BadPairs, k_BadPairs⟩, ⟨PySem.W.mg_of X G n_BadFamily, o_BadFamily, p_BadFamily_part, f_BadFamily, fi_BadFamily, i_BadFamily, t_BadFamily, ok_i_BadFamily G_BadFamily, b_BadFamily, k_BadFamily⟩, ⟨PySem.W.mg_of X G n_BadNumber, o_BadNumber, p_BadNumber_part, f_BadNumber, fi_BadNumber, i_BadNumber, t_BadNumber, ok_i_BadNumber G_BadNumber, b_BadNumber, k_BadNumber⟩, ⟨PySem.W.mg_of X G n_BadPaper, o_BadPaper, p_BadPaper_part, f_BadPaper, fi_BadPaper, i_BadPaper, t_BadPaper, ok_i_BadPaper G_BadPaper, b_BadPaper, k_BadPaper⟩, ⟨PySem.W.mg_of X G n_BadDesk, o_BadDesk, p_BadDesk_part, f_BadDesk, fi_BadDesk, i_BadDesk, t_BadDesk, ok_i_BadDesk G_BadDesk, b_BadDesk, k_BadDesk⟩, ⟨PySem.W.mg_of X G n_Misfit, o_Misfit, p_Misfit_part, f_Misfit, fi_Misfit, i_Misfit, t_Misfit, ok_i_Misfit G_Misfit, b_Misfit, k_Misfit⟩, ⟨PySem.W.mg_of X G n_NoRow, o_NoRow, p_NoRow_value, f_Missing, fi_Missing, i_NoRow, t_Missing, ok_i_Missing G_Missing, b_Missing, k_Missing⟩, ⟨PySem.W.mg_of X G n_NoLanguage, o_NoLanguage, p_NoLanguage_value, f_Missing, fi_Missing, i_NoLanguage, t_Missing, ok_i_Missing G_Missing, b_Missing, k_Missing⟩, ⟨PySem.W.mg_of X G n_NoPlace, o_NoPlace, p_NoPlace_value, f_Missing, fi_Missing, i_NoPlace, t_Missing, ok_i_Missing G_Missing, b_Missing, k_Missing⟩, ⟨PySem.W.mg_of X G n_NoShift, o_NoShift, p_NoShift_value, f_Missing, fi_Missing, i_NoShift, t_Missing, ok_i_Missing G_Missing, b_Missing, k_Missing⟩, ⟨PySem.W.mg_of X G n_NoName, o_NoName, p_NoName_value, f_Missing, fi_Missing, i_NoName, t_Missing, ok_i_Missing G_Missing, b_Missing, k_Missing⟩, ⟨PySem.W.mg_of X G n_Twice, o_Twice, p_Twice_value, f_Twice, fi_Twice, i_Twice, t_Twice, ok_i_Twice G_Twice, b_Twice, k_Twice⟩, ⟨PySem.W.mg_of X G n_Missing, o_Missing, p_Missing_value, f_Missing, fi_Missing, i_Missing, t_Missing, ok_i_Missing G_Missing, b_Missing, k_Missing⟩, ⟨PySem.W.mg_of X G n_Impossible, o_Impossible, p_Impossible_paper, f_Impossible, fi_Impossible, i_Impossible, t_Impossible, ok_i_Impossible G_Impossible, b_Impossible, k_Impossible⟩, ⟨PySem.W.mg_of X G n_TooMany, o_TooMany, p_TooMany_what, p_TooMany_most, f_TooMany, fi_TooMany, i_TooMany, t_TooMany, ok_i_TooMany G_TooMany, b_TooMany, k_TooMany⟩, ⟨PySem.W.mg_of X G n_BadText, o_BadText, p_BadText_line, p_BadText_item, f_BadText, fi_BadText, i_BadText, t_BadText, ok_i_BadText G_BadText, b_BadText, k_BadText⟩, ⟨PySem.W.mg_of X G n_BadLine, o_BadLine, p_BadLine_line, p_BadLine_error, f_BadLine, fi_BadLine, i_BadLine, t_BadLine, ok_i_BadLine G_BadLine, b_BadLine, k_BadLine⟩⟩
  have C_is_integer : Cal l.prog w K mg base 1 "is_integer" st_is_integer ["value"] (spIsInteger K) := ⟨a_is_integer, fd_is_integer, F_is_integer, PySem.W.mg_of X G d_is_integer, b_is_integer, ok_is_integer F_is_integer T⟩
  have C_is_within : Cal l.prog w K mg base 2 "is_within" st_is_within ["value", "least", "most"] (spIsWithin K) := ⟨a_is_within, fd_is_within, F_is_within, PySem.W.mg_of X G d_is_within, b_is_within, ok_is_within F_is_within T C_is_integer⟩
  have C_is_list : Cal l.prog w K mg base 1 "is_list" st_is_list ["value"] (spIsList K) := ⟨a_is_list, fd_is_list, F_is_list, PySem.W.mg_of X G d_is_list, b_is_list, ok_is_list F_is_list T⟩
  have C_is_long_word : Cal l.prog w K mg base 1 "is_long_word" st_is_long_word ["value"] (spIsLongWord K) := ⟨a_is_long_word, fd_is_long_word, F_is_long_word, PySem.W.mg_of X G d_is_long_word, b_is_long_word, ok_is_long_word F_is_long_word T⟩
  have C_is_rising : Cal l.prog w K mg base 1 "is_rising" st_is_rising ["signs"] spIsRising := ⟨a_is_rising, fd_is_rising, F_is_rising, PySem.W.mg_of X G d_is_rising, b_is_rising, ok_is_rising F_is_rising T⟩
  have C_is_name : Cal l.prog w K mg base 1 "is_name" st_is_name ["value"] (spIsName K) := ⟨a_is_name, fd_is_name, F_is_name, PySem.W.mg_of X G d_is_name, b_is_name, ok_is_name F_is_name T⟩
  have C_is_sound : Cal l.prog w K mg base 2 "is_sound" st_is_sound ["value"] (spIsSound K) := ⟨a_is_sound, fd_is_sound, F_is_sound, PySem.W.mg_of X G d_is_sound, b_is_sound, ok_is_sound F_is_sound T C_is_long_word⟩
  have C_is_word : Cal l.prog w K mg base 2 "is_word" st_is_word ["value"] (spIsWord K) := ⟨a_is_word, fd_is_word, F_is_word, PySem.W.mg_of X G d_is_word, b_is_word, ok_is_word F_is_word T C_is_long_word⟩
  have C_is_stock : Cal l.prog w K mg base 2 "is_stock" st_is_stock ["value"] (spIsStock K) := ⟨a_is_stock, fd_is_stock, F_is_stock, PySem.W.mg_of X G d_is_stock, b_is_stock, ok_is_stock F_is_stock T C_is_long_word C_is_rising⟩
  have C_is_numbers : Cal l.prog w K mg base 2 "is_numbers" st_is_numbers ["value"] (spIsNumbers K) := ⟨a_is_numbers, fd_is_numbers, F_is_numbers, PySem.W.mg_of X G d_is_numbers, b_is_numbers, ok_is_numbers F_is_numbers T C_is_list C_is_integer⟩
  have C_first_twice : Cal l.prog w K mg base 1 "first_twice" st_first_twice ["values"] (spFirstTwice K) := ⟨a_first_twice, fd_first_twice, F_first_twice, PySem.W.mg_of X G d_first_twice, b_first_twice, ok_first_twice F_first_twice T⟩
  have C_of_stock : Cal l.prog w K mg base 2 "of_stock" st_of_stock ["word", "stock"] spOfStock := ⟨a_of_stock, fd_of_stock, F_of_stock, PySem.W.mg_of X G d_of_stock, b_of_stock, ok_of_stock F_of_stock T C_is_long_word⟩
  have C__law_pen : Cal l.prog w K mg base 1 "_law_pen" st_l_pen ["_law_script"] (spPen K) := ⟨a__law_pen, fd__law_pen, F__law_pen, PySem.W.mg_of X G d__law_pen, b__law_pen, ok_pen F__law_pen T⟩
  have C__law_draw : Cal l.prog w K mg base 1 "_law_draw" st_l_draw ["_law_pen_here", "_law_many"] (spDraw K) := ⟨a__law_draw, fd__law_draw, F__law_draw, PySem.W.mg_of X G d__law_draw, b__law_draw, ok_draw F__law_draw T⟩
  have C__law_pick : Cal l.prog w K mg base 2 "_law_pick" st_l_pick ["_law_pen_here", "_law_some"] (spPick K) := ⟨a__law_pick, fd__law_pick, F__law_pick, PySem.W.mg_of X G d__law_pick, b__law_pick, ok_pick F__law_pick T C__law_draw⟩
  have C__law_value : Cal l.prog w K mg base 2 "_law_value" st_l_value ["_law_pen_here"] (spValue K) := ⟨a__law_value, fd__law_value, F__law_value, PySem.W.mg_of X G d__law_value, b__law_value, ok_value F__law_value T C__law_draw⟩
  have C__law_classes : Cal l.prog w K mg base 1 "_law_classes" st_l_classes ["_law_error"] (spClasses K (clsF [c_BadWord, c_BadStock, c_BadShift, c_BadCourse, c_BadSheet, c_BadDyeing, c_BadSaying, c_BadPairs, c_BadFamily, c_BadNumber, c_BadPaper, c_BadDesk, c_Misfit, c_NoRow, c_NoLanguage, c_NoPlace, c_NoShift, c_NoName, c_Twice, c_Impossible, c_TooMany, c_Nothing, c_BadText, c_BadLine]) c_TongueError c_Missing) := ⟨a__law_classes, fd__law_classes, F__law_classes, PySem.W.mg_of X G d__law_classes, b__law_classes, ok_classes F__law_classes TG⟩
  have C__law_is_only : Cal l.prog w K mg base 2 "_law_is_only" st_l_is_only ["_law_error", "_law_at"] (spOnly K (clsF [c_BadWord, c_BadStock, c_BadShift, c_BadCourse, c_BadSheet, c_BadDyeing, c_BadSaying, c_BadPairs, c_BadFamily, c_BadNumber, c_BadPaper, c_BadDesk, c_Misfit, c_NoRow, c_NoLanguage, c_NoPlace, c_NoShift, c_NoName, c_Twice, c_Impossible, c_TooMany, c_Nothing, c_BadText, c_BadLine]) c_TongueError c_Missing) := ⟨a__law_is_only, fd__law_is_only, F__law_is_only, PySem.W.mg_of X G d__law_is_only, b__law_is_only, ok_only F__law_is_only TG C__law_classes⟩
  have C__law_by_place : Cal l.prog w K mg base 3 "_law_by_place" st_l_by_place ["_law_one"] (spBy (clsF [c_BadWord, c_BadStock, c_BadShift, c_BadCourse, c_BadSheet, c_BadDyeing, c_BadSaying, c_BadPairs, c_BadFamily, c_BadNumber, c_BadPaper, c_BadDesk, c_Misfit, c_NoRow, c_NoLanguage, c_NoPlace, c_NoShift, c_NoName, c_Twice, c_Impossible, c_TooMany, c_Nothing, c_BadText, c_BadLine])) := ⟨a__law_by_place, fd__law_by_place, F__law_by_place, PySem.W.mg_of X G d__law_by_place, b__law_by_place, ok_by_place F__law_by_place E⟩
  have C__law_by_name : Cal l.prog w K mg base 3 "_law_by_name" st_l_by_name ["_law_one"] (spBy (clsF [c_BadWord, c_BadStock, c_BadShift, c_BadCourse, c_BadSheet, c_BadDyeing, c_BadSaying, c_BadPairs, c_BadFamily, c_BadNumber, c_BadPaper, c_BadDesk, c_Misfit, c_NoRow, c_NoLanguage, c_NoPlace, c_NoShift, c_NoName, c_Twice, c_Impossible, c_TooMany, c_Nothing, c_BadText, c_BadLine])) := ⟨a__law_by_name, fd__law_by_name, F__law_by_name, PySem.W.mg_of X G d__law_by_name, b__law_by_name, ok_by_name F__law_by_name E⟩
  have C__law_one_right : Cal l.prog w K mg base 4 "_law_one_right" st_l_one_right ["_law_one", "_law_other"] spOne := ⟨a__law_one_right, fd__law_one_right, F__law_one_right, PySem.W.mg_of X G d__law_one_right, b__law_one_right, ok_one F__law_one_right TG E D T0 C__law_is_only C__law_by_place C__law_by_name⟩
  have C__law_two_right : Cal l.prog w K mg base 3 "_law_two_right" st_l_two_right ["_law_one", "_law_other"] spOne := ⟨a__law_two_right, fd__law_two_right, F__law_two_right, PySem.W.mg_of X G d__law_two_right, b__law_two_right, ok_two F__law_two_right TG E D C__law_is_only⟩
  have C__law_integers_right : Cal l.prog w K mg base 3 "_law_integers_right" st_l_integers_right ["_law_pen_here"] (spPart K) := ⟨a__law_integers_right, fd__law_integers_right, F__law_integers_right, PySem.W.mg_of X G d__law_integers_right, b__law_integers_right, ok_integers F__law_integers_right T C__law_draw C__law_pick C_is_integer C_is_within C_is_numbers⟩
  have C__law_texts_right : Cal l.prog w K mg base 3 "_law_texts_right" st_l_texts_right ["_law_pen_here"] (spPart K) := ⟨a__law_texts_right, fd__law_texts_right, F__law_texts_right, PySem.W.mg_of X G d__law_texts_right, b__law_texts_right, ok_texts F__law_texts_right T C__law_draw C__law_pick C_is_name C_is_sound C_is_word C_is_stock⟩
  have C__law_stocks_right : Cal l.prog w K mg base 3 "_law_stocks_right" st_l_stocks_right ["_law_pen_here"] (spPart K) := ⟨a__law_stocks_right, fd__law_stocks_right, F__law_stocks_right, PySem.W.mg_of X G d__law_stocks_right, b__law_stocks_right, ok_stocks F__law_stocks_right T C__law_draw C__law_pick C_is_stock C_of_stock⟩
  have C__law_twice_right : Cal l.prog w K mg base 2 "_law_twice_right" st_l_twice_right ["_law_pen_here"] (spPart K) := ⟨a__law_twice_right, fd__law_twice_right, F__law_twice_right, PySem.W.mg_of X G d__law_twice_right, b__law_twice_right, ok_twice F__law_twice_right T C__law_draw C_first_twice⟩
  exact ok_law F_law T C__law_pen C__law_value C__law_one_right C__law_two_right C__law_integers_right C__law_texts_right C__law_stocks_right C__law_twice_right
theorem walk {l : PySem.W.OpenLaw} {q : Program} {loose : List Str} {XP : (Str → Option Value) → Heap → Prop} {YP : World → Heap → Prop} {d : DefRec} {K : Params → PySem.W.Frag} (hn : l.most = some 63) (hdf : d.params.defaults = [])
    (hY : ∀ (w : World) (h : Heap), YP w h → (K w.params).In h)
    (F : ∀ (w : World) (mg : Str → Option Value) (fa : Addr) (h : Heap), (K w.params).In h → h.Ns mainGlobals mg → mg d.name = some (.ref fa) →
      ∃ fd : FuncData, (∀ (s : Shared) (u : Value), BindsTo s fd ⟨[u], []⟩ [("_law_script", u)]) ∧ ∀ base : Heap, (K w.params).In base → base.Ns mainGlobals mg → FnOk l.prog w (K w.params) mg base CX0 5 fa fd ["_law_script"] (spLaw (K w.params))) :
    PySem.W.WalkO q loose XP YP l.row.toRowW d [] (fun f vs => PySem.call f vs) :=
  L2.walk_of (n := 63) (k := 5) (x := "_law_script") (CX := fun _ => CX0) (sp := fun w => spLaw (K w.params)) hn (by decide) hdf ⟨rfl, by decide, by decide⟩ hY F (fun _ _ a ns hl _ hS => ⟨a, ns, rfl, hS, hl, fun _ => rfl⟩) fun _ _ _ _ _ z => z
end K0
open PySem PySem.W PyProof.Rows
set_option maxHeartbeats 0 in
theorem PySem.Challenge.cw_foretongue_k00_errors_and_checks_holds : PySem.Challenge.rw_foretongue_k00_errors_and_checks.Holds := by
  w_on; o_law; k_head; (case hw => w_witness2)
  k_fill
  refine K0.walk (l := PySem.Challenge.rw_foretongue_k00_errors_and_checks) rfl rfl (fun w h Y => PySem.W.kIn_of Y) ?F
  case F =>
    intro w mg fa h KX G hmg
    refine' K0.all_mk KX G hmg ?n_TongueError ?n_Missing ?n_BadWord ?n_BadStock ?n_BadShift ?n_BadCourse ?n_BadSheet ?n_BadDyeing ?n_BadSaying ?n_BadPairs ?n_BadFamily ?n_BadNumber ?n_BadPaper ?n_BadDesk ?n_Misfit ?n_NoRow ?n_NoLanguage ?n_NoPlace ?n_NoShift ?n_NoName ?n_Twice ?n_Impossible ?n_TooMany ?n_Nothing ?n_BadText ?n_BadLine ?z_len ?z_isinstance ?z_int ?z_bool ?z_str ?z_list ?z_tuple ?z_all ?z_zip ?z_set ?z_abs ?z_range ?z_enumerate ?z_sorted ?z_ValueError ?z_LookupError ?z_TypeError ?z_ArithmeticError ?z_AttributeError ?z_RuntimeError ?d_is_integer ?d_is_within ?d_is_list ?d_is_long_word ?d_is_rising ?d_is_name ?d_is_sound ?d_is_word ?d_is_stock ?d_is_numbers ?d_first_twice ?d_of_stock ?d__law_pen ?d__law_draw ?d__law_pick ?d__law_value ?d__law_classes ?d__law_is_only ?d__law_by_place ?d__law_by_name ?d__law_one_right ?d__law_two_right ?d__law_integers_right ?d__law_texts_right ?d__law_stocks_right ?d__law_twice_right ?d_law ?F_is_integer ?F_is_within ?F_is_list ?F_is_long_word ?F_is_rising ?F_is_name ?F_is_sound ?F_is_word ?F_is_stock ?F_is_numbers ?F_first_twice ?F_of_stock ?F__law_pen ?F__law_draw ?F__law_pick ?F__law_value ?F__law_classes ?F__law_is_only ?F__law_by_place ?F__law_by_name ?F__law_one_right ?F__law_two_right ?F__law_integers_right ?F__law_texts_right ?F__law_stocks_right ?F__law_twice_right ?F_law ?i_BadWord ?i_BadStock ?i_BadShift ?i_BadCourse ?i_BadSheet ?i_BadDyeing ?i_BadSaying ?i_BadPairs ?i_BadFamily ?i_BadNumber ?i_BadPaper ?i_BadDesk ?i_Misfit ?i_NoRow ?i_NoLanguage ?i_NoPlace ?i_NoShift ?i_NoName ?i_Twice ?i_Impossible ?i_TooMany ?i_BadText ?i_BadLine ?i_Missing ?t_BadWord ?G_BadWord ?t_BadStock ?G_BadStock ?t_BadShift ?G_BadShift ?t_BadCourse ?G_BadCourse ?t_BadSheet ?G_BadSheet ?t_BadDyeing ?G_BadDyeing ?t_BadSaying ?G_BadSaying ?t_BadPairs ?G_BadPairs ?t_BadFamily ?G_BadFamily ?t_BadNumber ?G_BadNumber ?t_BadPaper ?G_BadPaper ?t_BadDesk ?G_BadDesk ?t_Misfit ?G_Misfit ?t_Missing ?G_Missing ?t_Twice ?G_Twice ?t_Impossible ?G_Impossible ?t_TooMany ?G_TooMany ?t_BadText ?G_BadText ?t_BadLine ?G_BadLine ?o_BadWord ?o_BadStock ?o_BadShift ?o_BadCourse ?o_BadSheet ?o_BadDyeing ?o_BadSaying ?o_BadPairs ?o_BadFamily ?o_BadNumber ?o_BadPaper ?o_BadDesk ?o_Misfit ?o_NoRow ?o_NoLanguage ?o_NoPlace ?o_NoShift ?o_NoName ?o_Twice ?o_Impossible ?o_TooMany ?o_BadText ?o_BadLine ?o_Missing ?e_BadWord ?e_BadStock ?e_BadShift ?e_BadCourse ?e_BadSheet ?e_BadDyeing ?e_BadSaying ?e_BadPairs ?e_BadFamily ?e_BadNumber ?e_BadPaper ?e_BadDesk ?e_Misfit ?e_NoRow ?e_NoLanguage ?e_NoPlace ?e_NoShift ?e_NoName ?e_Twice ?e_Impossible ?e_TooMany ?e_Nothing ?e_BadText ?e_BadLine ?e_Missing ?p_BadWord_part ?p_BadStock_part ?p_BadShift_part ?p_BadCourse_part ?p_BadSheet_part ?p_BadDyeing_part ?p_BadSaying_part ?p_BadPairs_part ?p_BadFamily_part ?p_BadNumber_part ?p_BadPaper_part ?p_BadDesk_part ?p_Misfit_part ?p_NoRow_value ?p_NoLanguage_value ?p_NoPlace_value ?p_NoShift_value ?p_NoName_value ?p_Twice_value ?p_Impossible_paper ?p_TooMany_what ?p_TooMany_most ?p_BadText_line ?p_BadText_item ?p_BadLine_line ?p_BadLine_error ?p_Missing_value ?nx ?nk ?kb
    (case n_TongueError => k_is)
    (case n_Missing => k_is)
    (case n_BadWord => k_is)
    (case n_BadStock => k_is)
    (case n_BadShift => k_is)
    (case n_BadCourse => k_is)
    (case n_BadSheet => k_is)
    (case n_BadDyeing => k_is)
    (case n_BadSaying => k_is)
    (case n_BadPairs => k_is)
    (case n_BadFamily => k_is)
    (case n_BadNumber => k_is)
    (case n_BadPaper => k_is)
    (case n_BadDesk => k_is)
    (case n_Misfit => k_is)
    (case n_NoRow => k_is)
    (case n_NoLanguage => k_is)
    (case n_NoPlace => k_is)
    (case n_NoShift => k_is)
    (case n_NoName => k_is)
    (case n_Twice => k_is)
    (case n_Impossible => k_is)
    (case n_TooMany => k_is)
    (case n_Nothing => k_is)
    (case n_BadText => k_is)
    (case n_BadLine => k_is)
    (case z_len => k_is)
    (case z_isinstance => k_is)
    (case z_int => k_is)
    (case z_bool => k_is)
    (case z_str => k_is)
    (case z_list => k_is)
    (case z_tuple => k_is)
    (case z_all => k_is)
    (case z_zip => k_is)
    (case z_set => k_is)
    (case z_abs => k_is)
    (case z_range => k_is)
    (case z_enumerate => k_is)
    (case z_sorted => k_is)
    (case z_ValueError => k_is)
    (case z_LookupError => k_is)
    (case z_TypeError => k_is)
    (case z_ArithmeticError => k_is)
    (case z_AttributeError => k_is)
    (case z_RuntimeError => k_is)
    (case d_is_integer => k_is)
    (case d_is_within => k_is)
    (case d_is_list => k_is)
    (case d_is_long_word => k_is)
    (case d_is_rising => k_is)
    (case d_is_name => k_is)
    (case d_is_sound => k_is)
    (case d_is_word => k_is)
    (case d_is_stock => k_is)
    (case d_is_numbers => k_is)
    (case d_first_twice => k_is)
    (case d_of_stock => k_is)
    (case d__law_pen => k_is)
    (case d__law_draw => k_is)
    (case d__law_pick => k_is)
    (case d__law_value => k_is)
    (case d__law_classes => k_is)
    (case d__law_is_only => k_is)
    (case d__law_by_place => k_is)
    (case d__law_by_name => k_is)
    (case d__law_one_right => k_is)
    (case d__law_two_right => k_is)
    (case d__law_integers_right => k_is)
    (case d__law_texts_right => k_is)
    (case d__law_stocks_right => k_is)
    (case d__law_twice_right => k_is)
    (case d_law => k_is)
    (case F_is_integer => refine' ⟨_, L2.fun_mk ?l_F_is_integer ?c_F_is_integer ?k_F_is_integer⟩; (case l_F_is_integer => k_is); (case c_F_is_integer => k_is); (case k_F_is_integer => k_is))
    (case F_is_within => refine' ⟨_, L2.fun_mk ?l_F_is_within ?c_F_is_within ?k_F_is_within⟩; (case l_F_is_within => k_is); (case c_F_is_within => k_is); (case k_F_is_within => k_is))
    (case F_is_list => refine' ⟨_, L2.fun_mk ?l_F_is_list ?c_F_is_list ?k_F_is_list⟩; (case l_F_is_list => k_is); (case c_F_is_list => k_is); (case k_F_is_list => k_is))
    (case F_is_long_word => refine' ⟨_, L2.fun_mk ?l_F_is_long_word ?c_F_is_long_word ?k_F_is_long_word⟩; (case l_F_is_long_word => k_is); (case c_F_is_long_word => k_is); (case k_F_is_long_word => k_is))
    (case F_is_rising => refine' ⟨_, L2.fun_mk ?l_F_is_rising ?c_F_is_rising ?k_F_is_rising⟩; (case l_F_is_rising => k_is); (case c_F_is_rising => k_is); (case k_F_is_rising => k_is))
    (case F_is_name => refine' ⟨_, L2.fun_mk ?l_F_is_name ?c_F_is_name ?k_F_is_name⟩; (case l_F_is_name => k_is); (case c_F_is_name => k_is); (case k_F_is_name => k_is))
    (case F_is_sound => refine' ⟨_, L2.fun_mk ?l_F_is_sound ?c_F_is_sound ?k_F_is_sound⟩; (case l_F_is_sound => k_is); (case c_F_is_sound => k_is); (case k_F_is_sound => k_is))
    (case F_is_word => refine' ⟨_, L2.fun_mk ?l_F_is_word ?c_F_is_word ?k_F_is_word⟩; (case l_F_is_word => k_is); (case c_F_is_word => k_is); (case k_F_is_word => k_is))
    (case F_is_stock => refine' ⟨_, L2.fun_mk ?l_F_is_stock ?c_F_is_stock ?k_F_is_stock⟩; (case l_F_is_stock => k_is); (case c_F_is_stock => k_is); (case k_F_is_stock => k_is))
    (case F_is_numbers => refine' ⟨_, L2.fun_mk ?l_F_is_numbers ?c_F_is_numbers ?k_F_is_numbers⟩; (case l_F_is_numbers => k_is); (case c_F_is_numbers => k_is); (case k_F_is_numbers => k_is))
    (case F_first_twice => refine' ⟨_, L2.fun_mk ?l_F_first_twice ?c_F_first_twice ?k_F_first_twice⟩; (case l_F_first_twice => k_is); (case c_F_first_twice => k_is); (case k_F_first_twice => k_is))
    (case F_of_stock => refine' ⟨_, L2.fun_mk ?l_F_of_stock ?c_F_of_stock ?k_F_of_stock⟩; (case l_F_of_stock => k_is); (case c_F_of_stock => k_is); (case k_F_of_stock => k_is))
    (case F__law_pen => refine' ⟨_, L2.fun_mk ?l_F__law_pen ?c_F__law_pen ?k_F__law_pen⟩; (case l_F__law_pen => k_is); (case c_F__law_pen => k_is); (case k_F__law_pen => k_is))
    (case F__law_draw => refine' ⟨_, L2.fun_mk ?l_F__law_draw ?c_F__law_draw ?k_F__law_draw⟩; (case l_F__law_draw => k_is); (case c_F__law_draw => k_is); (case k_F__law_draw => k_is))
    (case F__law_pick => refine' ⟨_, L2.fun_mk ?l_F__law_pick ?c_F__law_pick ?k_F__law_pick⟩; (case l_F__law_pick => k_is); (case c_F__law_pick => k_is); (case k_F__law_pick => k_is))
    (case F__law_value => refine' ⟨_, L2.fun_mk ?l_F__law_value ?c_F__law_value ?k_F__law_value⟩; (case l_F__law_value => k_is); (case c_F__law_value => k_is); (case k_F__law_value => k_is))
    (case F__law_classes => refine' ⟨_, L2.fun_mk ?l_F__law_classes ?c_F__law_classes ?k_F__law_classes⟩; (case l_F__law_classes => k_is); (case c_F__law_classes => k_is); (case k_F__law_classes => k_is))
    (case F__law_is_only => refine' ⟨_, L2.fun_mk ?l_F__law_is_only ?c_F__law_is_only ?k_F__law_is_only⟩; (case l_F__law_is_only => k_is); (case c_F__law_is_only => k_is); (case k_F__law_is_only => k_is))
    (case F__law_by_place => refine' ⟨_, L2.fun_mk ?l_F__law_by_place ?c_F__law_by_place ?k_F__law_by_place⟩; (case l_F__law_by_place => k_is); (case c_F__law_by_place => k_is); (case k_F__law_by_place => k_is))
    (case F__law_by_name => refine' ⟨_, L2.fun_mk ?l_F__law_by_name ?c_F__law_by_name ?k_F__law_by_name⟩; (case l_F__law_by_name => k_is); (case c_F__law_by_name => k_is); (case k_F__law_by_name => k_is))
    (case F__law_one_right => refine' ⟨_, L2.fun_mk ?l_F__law_one_right ?c_F__law_one_right ?k_F__law_one_right⟩; (case l_F__law_one_right => k_is); (case c_F__law_one_right => k_is); (case k_F__law_one_right => k_is))
    (case F__law_two_right => refine' ⟨_, L2.fun_mk ?l_F__law_two_right ?c_F__law_two_right ?k_F__law_two_right⟩; (case l_F__law_two_right => k_is); (case c_F__law_two_right => k_is); (case k_F__law_two_right => k_is))
    (case F__law_integers_right => refine' ⟨_, L2.fun_mk ?l_F__law_integers_right ?c_F__law_integers_right ?k_F__law_integers_right⟩; (case l_F__law_integers_right => k_is); (case c_F__law_integers_right => k_is); (case k_F__law_integers_right => k_is))
    (case F__law_texts_right => refine' ⟨_, L2.fun_mk ?l_F__law_texts_right ?c_F__law_texts_right ?k_F__law_texts_right⟩; (case l_F__law_texts_right => k_is); (case c_F__law_texts_right => k_is); (case k_F__law_texts_right => k_is))
    (case F__law_stocks_right => refine' ⟨_, L2.fun_mk ?l_F__law_stocks_right ?c_F__law_stocks_right ?k_F__law_stocks_right⟩; (case l_F__law_stocks_right => k_is); (case c_F__law_stocks_right => k_is); (case k_F__law_stocks_right => k_is))
    (case F__law_twice_right => refine' ⟨_, L2.fun_mk ?l_F__law_twice_right ?c_F__law_twice_right ?k_F__law_twice_right⟩; (case l_F__law_twice_right => k_is); (case c_F__law_twice_right => k_is); (case k_F__law_twice_right => k_is))
    (case F_law => refine' ⟨_, L2.fun_mk ?l_F_law ?c_F_law ?k_F_law⟩; (case l_F_law => k_is); (case c_F_law => k_is); (case k_F_law => k_is))
    (case i_BadWord => k_is)
    (case i_BadStock => k_is)
    (case i_BadShift => k_is)
    (case i_BadCourse => k_is)
    (case i_BadSheet => k_is)
    (case i_BadDyeing => k_is)
    (case i_BadSaying => k_is)
    (case i_BadPairs => k_is)
    (case i_BadFamily => k_is)
    (case i_BadNumber => k_is)
    (case i_BadPaper => k_is)
    (case i_BadDesk => k_is)
    (case i_Misfit => k_is)
    (case i_NoRow => k_is)
    (case i_NoLanguage => k_is)
    (case i_NoPlace => k_is)
    (case i_NoShift => k_is)
    (case i_NoName => k_is)
    (case i_Twice => k_is)
    (case i_Impossible => k_is)
    (case i_TooMany => k_is)
    (case i_BadText => k_is)
    (case i_BadLine => k_is)
    (case i_Missing => k_is)
    (case t_BadWord => k_is)
    (case G_BadWord => refine' ⟨_, L2.fun_mk ?l_G_BadWord ?c_G_BadWord ?k_G_BadWord⟩; (case l_G_BadWord => k_is); (case c_G_BadWord => k_is); (case k_G_BadWord => k_is))
    (case t_BadStock => k_is)
    (case G_BadStock => refine' ⟨_, L2.fun_mk ?l_G_BadStock ?c_G_BadStock ?k_G_BadStock⟩; (case l_G_BadStock => k_is); (case c_G_BadStock => k_is); (case k_G_BadStock => k_is))
    (case t_BadShift => k_is)
    (case G_BadShift => refine' ⟨_, L2.fun_mk ?l_G_BadShift ?c_G_BadShift ?k_G_BadShift⟩; (case l_G_BadShift => k_is); (case c_G_BadShift => k_is); (case k_G_BadShift => k_is))
    (case t_BadCourse => k_is)
    (case G_BadCourse => refine' ⟨_, L2.fun_mk ?l_G_BadCourse ?c_G_BadCourse ?k_G_BadCourse⟩; (case l_G_BadCourse => k_is); (case c_G_BadCourse => k_is); (case k_G_BadCourse => k_is))
    (case t_BadSheet => k_is)
    (case G_BadSheet => refine' ⟨_, L2.fun_mk ?l_G_BadSheet ?c_G_BadSheet ?k_G_BadSheet⟩; (case l_G_BadSheet => k_is); (case c_G_BadSheet => k_is); (case k_G_BadSheet => k_is))
    (case t_BadDyeing => k_is)
    (case G_BadDyeing => refine' ⟨_, L2.fun_mk ?l_G_BadDyeing ?c_G_BadDyeing ?k_G_BadDyeing⟩; (case l_G_BadDyeing => k_is); (case c_G_BadDyeing => k_is); (case k_G_BadDyeing => k_is))
    (case t_BadSaying => k_is)
    (case G_BadSaying => refine' ⟨_, L2.fun_mk ?l_G_BadSaying ?c_G_BadSaying ?k_G_BadSaying⟩; (case l_G_BadSaying => k_is); (case c_G_BadSaying => k_is); (case k_G_BadSaying => k_is))
    (case t_BadPairs => k_is)
    (case G_BadPairs => refine' ⟨_, L2.fun_mk ?l_G_BadPairs ?c_G_BadPairs ?k_G_BadPairs⟩; (case l_G_BadPairs => k_is); (case c_G_BadPairs => k_is); (case k_G_BadPairs => k_is))
    (case t_BadFamily => k_is)
    (case G_BadFamily => refine' ⟨_, L2.fun_mk ?l_G_BadFamily ?c_G_BadFamily ?k_G_BadFamily⟩; (case l_G_BadFamily => k_is); (case c_G_BadFamily => k_is); (case k_G_BadFamily => k_is))
    (case t_BadNumber => k_is)
    (case G_BadNumber => refine' ⟨_, L2.fun_mk ?l_G_BadNumber ?c_G_BadNumber ?k_G_BadNumber⟩; (case l_G_BadNumber => k_is); (case c_G_BadNumber => k_is); (case k_G_BadNumber => k_is))
    (case t_BadPaper => k_is)
    (case G_BadPaper => refine' ⟨_, L2.fun_mk ?l_G_BadPaper ?c_G_BadPaper ?k_G_BadPaper⟩; (case l_G_BadPaper => k_is); (case c_G_BadPaper => k_is); (case k_G_BadPaper => k_is))
    (case t_BadDesk => k_is)
    (case G_BadDesk => refine' ⟨_, L2.fun_mk ?l_G_BadDesk ?c_G_BadDesk ?k_G_BadDesk⟩; (case l_G_BadDesk => k_is); (case c_G_BadDesk => k_is); (case k_G_BadDesk => k_is))
    (case t_Misfit => k_is)
    (case G_Misfit => refine' ⟨_, L2.fun_mk ?l_G_Misfit ?c_G_Misfit ?k_G_Misfit⟩; (case l_G_Misfit => k_is); (case c_G_Misfit => k_is); (case k_G_Misfit => k_is))
    (case t_Missing => k_is)
    (case G_Missing => refine' ⟨_, L2.fun_mk ?l_G_Missing ?c_G_Missing ?k_G_Missing⟩; (case l_G_Missing => k_is); (case c_G_Missing => k_is); (case k_G_Missing => k_is))
    (case t_Twice => k_is)
    (case G_Twice => refine' ⟨_, L2.fun_mk ?l_G_Twice ?c_G_Twice ?k_G_Twice⟩; (case l_G_Twice => k_is); (case c_G_Twice => k_is); (case k_G_Twice => k_is))
    (case t_Impossible => k_is)
    (case G_Impossible => refine' ⟨_, L2.fun_mk ?l_G_Impossible ?c_G_Impossible ?k_G_Impossible⟩; (case l_G_Impossible => k_is); (case c_G_Impossible => k_is); (case k_G_Impossible => k_is))
    (case t_TooMany => k_is)
    (case G_TooMany => refine' ⟨_, L2.fun_mk ?l_G_TooMany ?c_G_TooMany ?k_G_TooMany⟩; (case l_G_TooMany => k_is); (case c_G_TooMany => k_is); (case k_G_TooMany => k_is))
    (case t_BadText => k_is)
    (case G_BadText => refine' ⟨_, L2.fun_mk ?l_G_BadText ?c_G_BadText ?k_G_BadText⟩; (case l_G_BadText => k_is); (case c_G_BadText => k_is); (case k_G_BadText => k_is))
    (case t_BadLine => k_is)
    (case G_BadLine => refine' ⟨_, L2.fun_mk ?l_G_BadLine ?c_G_BadLine ?k_G_BadLine⟩; (case l_G_BadLine => k_is); (case c_G_BadLine => k_is); (case k_G_BadLine => k_is))
    (case o_BadWord => refine' ⟨⟨_, _, _, _, [.ref _, .type "ValueError", .type "Exception", .type "BaseException", .type "object"], _, _, _, _, _, _, _, _, _, _, ?x_o_BadWord, ?r_o_BadWord⟩, ?s_o_BadWord, ?e_o_BadWord, ?t_o_BadWord, ?k_o_BadWord⟩; (case x_o_BadWord => exact rfl); (case r_o_BadWord => decide +kernel); (case s_o_BadWord => k_is); (case e_o_BadWord => k_is); (case t_o_BadWord => k_is); (case k_o_BadWord => k_is))
    (case o_BadStock => refine' ⟨⟨_, _, _, _, [.ref _, .type "ValueError", .type "Exception", .type "BaseException", .type "object"], _, _, _, _, _, _, _, _, _, _, ?x_o_BadStock, ?r_o_BadStock⟩, ?s_o_BadStock, ?e_o_BadStock, ?t_o_BadStock, ?k_o_BadStock⟩; (case x_o_BadStock => exact rfl); (case r_o_BadStock => decide +kernel); (case s_o_BadStock => k_is); (case e_o_BadStock => k_is); (case t_o_BadStock => k_is); (case k_o_BadStock => k_is))
    (case o_BadShift => refine' ⟨⟨_, _, _, _, [.ref _, .type "ValueError", .type "Exception", .type "BaseException", .type "object"], _, _, _, _, _, _, _, _, _, _, ?x_o_BadShift, ?r_o_BadShift⟩, ?s_o_BadShift, ?e_o_BadShift, ?t_o_BadShift, ?k_o_BadShift⟩; (case x_o_BadShift => exact rfl); (case r_o_BadShift => decide +kernel); (case s_o_BadShift => k_is); (case e_o_BadShift => k_is); (case t_o_BadShift => k_is); (case k_o_BadShift => k_is))
    (case o_BadCourse => refine' ⟨⟨_, _, _, _, [.ref _, .type "ValueError", .type "Exception", .type "BaseException", .type "object"], _, _, _, _, _, _, _, _, _, _, ?x_o_BadCourse, ?r_o_BadCourse⟩, ?s_o_BadCourse, ?e_o_BadCourse, ?t_o_BadCourse, ?k_o_BadCourse⟩; (case x_o_BadCourse => exact rfl); (case r_o_BadCourse => decide +kernel); (case s_o_BadCourse => k_is); (case e_o_BadCourse => k_is); (case t_o_BadCourse => k_is); (case k_o_BadCourse => k_is))
    (case o_BadSheet => refine' ⟨⟨_, _, _, _, [.ref _, .type "ValueError", .type "Exception", .type "BaseException", .type "object"], _, _, _, _, _, _, _, _, _, _, ?x_o_BadSheet, ?r_o_BadSheet⟩, ?s_o_BadSheet, ?e_o_BadSheet, ?t_o_BadSheet, ?k_o_BadSheet⟩; (case x_o_BadSheet => exact rfl); (case r_o_BadSheet => decide +kernel); (case s_o_BadSheet => k_is); (case e_o_BadSheet => k_is); (case t_o_BadSheet => k_is); (case k_o_BadSheet => k_is))
    (case o_BadDyeing => refine' ⟨⟨_, _, _, _, [.ref _, .type "ValueError", .type "Exception", .type "BaseException", .type "object"], _, _, _, _, _, _, _, _, _, _, ?x_o_BadDyeing, ?r_o_BadDyeing⟩, ?s_o_BadDyeing, ?e_o_BadDyeing, ?t_o_BadDyeing, ?k_o_BadDyeing⟩; (case x_o_BadDyeing => exact rfl); (case r_o_BadDyeing => decide +kernel); (case s_o_BadDyeing => k_is); (case e_o_BadDyeing => k_is); (case t_o_BadDyeing => k_is); (case k_o_BadDyeing => k_is))
    (case o_BadSaying => refine' ⟨⟨_, _, _, _, [.ref _, .type "ValueError", .type "Exception", .type "BaseException", .type "object"], _, _, _, _, _, _, _, _, _, _, ?x_o_BadSaying, ?r_o_BadSaying⟩, ?s_o_BadSaying, ?e_o_BadSaying, ?t_o_BadSaying, ?k_o_BadSaying⟩; (case x_o_BadSaying => exact rfl); (case r_o_BadSaying => decide +kernel); (case s_o_BadSaying => k_is); (case e_o_BadSaying => k_is); (case t_o_BadSaying => k_is); (case k_o_BadSaying => k_is))
    (case o_BadPairs => refine' ⟨⟨_, _, _, _, [.ref _, .type "ValueError", .type "Exception", .type "BaseException", .type "object"], _, _, _, _, _, _, _, _, _, _, ?x_o_BadPairs, ?r_o_BadPairs⟩, ?s_o_BadPairs, ?e_o_BadPairs, ?t_o_BadPairs, ?k_o_BadPairs⟩; (case x_o_BadPairs => exact rfl); (case r_o_BadPairs => decide +kernel); (case s_o_BadPairs => k_is); (case e_o_BadPairs => k_is); (case t_o_BadPairs => k_is); (case k_o_BadPairs => k_is))
    (case o_BadFamily => refine' ⟨⟨_, _, _, _, [.ref _, .type "ValueError", .type "Exception", .type "BaseException", .type "object"], _, _, _, _, _, _, _, _, _, _, ?x_o_BadFamily, ?r_o_BadFamily⟩, ?s_o_BadFamily, ?e_o_BadFamily, ?t_o_BadFamily, ?k_o_BadFamily⟩; (case x_o_BadFamily => exact rfl); (case r_o_BadFamily => decide +kernel); (case s_o_BadFamily => k_is); (case e_o_BadFamily => k_is); (case t_o_BadFamily => k_is); (case k_o_BadFamily => k_is))
    (case o_BadNumber => refine' ⟨⟨_, _, _, _, [.ref _, .type "ValueError", .type "Exception", .type "BaseException", .type "object"], _, _, _, _, _, _, _, _, _, _, ?x_o_BadNumber, ?r_o_BadNumber⟩, ?s_o_BadNumber, ?e_o_BadNumber, ?t_o_BadNumber, ?k_o_BadNumber⟩; (case x_o_BadNumber => exact rfl); (case r_o_BadNumber => decide +kernel); (case s_o_BadNumber => k_is); (case e_o_BadNumber => k_is); (case t_o_BadNumber => k_is); (case k_o_BadNumber => k_is))
    (case o_BadPaper => refine' ⟨⟨_, _, _, _, [.ref _, .type "ValueError", .type "Exception", .type "BaseException", .type "object"], _, _, _, _, _, _, _, _, _, _, ?x_o_BadPaper, ?r_o_BadPaper⟩, ?s_o_BadPaper, ?e_o_BadPaper, ?t_o_BadPaper, ?k_o_BadPaper⟩; (case x_o_BadPaper => exact rfl); (case r_o_BadPaper => decide +kernel); (case s_o_BadPaper => k_is); (case e_o_BadPaper => k_is); (case t_o_BadPaper => k_is); (case k_o_BadPaper => k_is))
    (case o_BadDesk => refine' ⟨⟨_, _, _, _, [.ref _, .type "ValueError", .type "Exception", .type "BaseException", .type "object"], _, _, _, _, _, _, _, _, _, _, ?x_o_BadDesk, ?r_o_BadDesk⟩, ?s_o_BadDesk, ?e_o_BadDesk, ?t_o_BadDesk, ?k_o_BadDesk⟩; (case x_o_BadDesk => exact rfl); (case r_o_BadDesk => decide +kernel); (case s_o_BadDesk => k_is); (case e_o_BadDesk => k_is); (case t_o_BadDesk => k_is); (case k_o_BadDesk => k_is))
    (case o_Misfit => refine' ⟨⟨_, _, _, _, [.ref _, .type "ValueError", .type "Exception", .type "BaseException", .type "object"], _, _, _, _, _, _, _, _, _, _, ?x_o_Misfit, ?r_o_Misfit⟩, ?s_o_Misfit, ?e_o_Misfit, ?t_o_Misfit, ?k_o_Misfit⟩; (case x_o_Misfit => exact rfl); (case r_o_Misfit => decide +kernel); (case s_o_Misfit => k_is); (case e_o_Misfit => k_is); (case t_o_Misfit => k_is); (case k_o_Misfit => k_is))
    (case o_NoRow => refine' ⟨⟨_, _, _, _, [.ref _, .ref _, .type "ValueError", .type "Exception", .type "BaseException", .type "object"], _, _, _, _, _, _, _, _, _, _, ?x_o_NoRow, ?r_o_NoRow⟩, ?s_o_NoRow, ?e_o_NoRow, ?t_o_NoRow, ?k_o_NoRow⟩; (case x_o_NoRow => exact rfl); (case r_o_NoRow => decide +kernel); (case s_o_NoRow => k_is); (case e_o_NoRow => k_is); (case t_o_NoRow => k_is); (case k_o_NoRow => k_is))
    (case o_NoLanguage => refine' ⟨⟨_, _, _, _, [.ref _, .ref _, .type "ValueError", .type "Exception", .type "BaseException", .type "object"], _, _, _, _, _, _, _, _, _, _, ?x_o_NoLanguage, ?r_o_NoLanguage⟩, ?s_o_NoLanguage, ?e_o_NoLanguage, ?t_o_NoLanguage, ?k_o_NoLanguage⟩; (case x_o_NoLanguage => exact rfl); (case r_o_NoLanguage => decide +kernel); (case s_o_NoLanguage => k_is); (case e_o_NoLanguage => k_is); (case t_o_NoLanguage => k_is); (case k_o_NoLanguage => k_is))
    (case o_NoPlace => refine' ⟨⟨_, _, _, _, [.ref _, .ref _, .type "ValueError", .type "Exception", .type "BaseException", .type "object"], _, _, _, _, _, _, _, _, _, _, ?x_o_NoPlace, ?r_o_NoPlace⟩, ?s_o_NoPlace, ?e_o_NoPlace, ?t_o_NoPlace, ?k_o_NoPlace⟩; (case x_o_NoPlace => exact rfl); (case r_o_NoPlace => decide +kernel); (case s_o_NoPlace => k_is); (case e_o_NoPlace => k_is); (case t_o_NoPlace => k_is); (case k_o_NoPlace => k_is))
    (case o_NoShift => refine' ⟨⟨_, _, _, _, [.ref _, .ref _, .type "ValueError", .type "Exception", .type "BaseException", .type "object"], _, _, _, _, _, _, _, _, _, _, ?x_o_NoShift, ?r_o_NoShift⟩, ?s_o_NoShift, ?e_o_NoShift, ?t_o_NoShift, ?k_o_NoShift⟩; (case x_o_NoShift => exact rfl); (case r_o_NoShift => decide +kernel); (case s_o_NoShift => k_is); (case e_o_NoShift => k_is); (case t_o_NoShift => k_is); (case k_o_NoShift => k_is))
    (case o_NoName => refine' ⟨⟨_, _, _, _, [.ref _, .ref _, .type "ValueError", .type "Exception", .type "BaseException", .type "object"], _, _, _, _, _, _, _, _, _, _, ?x_o_NoName, ?r_o_NoName⟩, ?s_o_NoName, ?e_o_NoName, ?t_o_NoName, ?k_o_NoName⟩; (case x_o_NoName => exact rfl); (case r_o_NoName => decide +kernel); (case s_o_NoName => k_is); (case e_o_NoName => k_is); (case t_o_NoName => k_is); (case k_o_NoName => k_is))
    (case o_Twice => refine' ⟨⟨_, _, _, _, [.ref _, .type "ValueError", .type "Exception", .type "BaseException", .type "object"], _, _, _, _, _, _, _, _, _, _, ?x_o_Twice, ?r_o_Twice⟩, ?s_o_Twice, ?e_o_Twice, ?t_o_Twice, ?k_o_Twice⟩; (case x_o_Twice => exact rfl); (case r_o_Twice => decide +kernel); (case s_o_Twice => k_is); (case e_o_Twice => k_is); (case t_o_Twice => k_is); (case k_o_Twice => k_is))
    (case o_Impossible => refine' ⟨⟨_, _, _, _, [.ref _, .type "ValueError", .type "Exception", .type "BaseException", .type "object"], _, _, _, _, _, _, _, _, _, _, ?x_o_Impossible, ?r_o_Impossible⟩, ?s_o_Impossible, ?e_o_Impossible, ?t_o_Impossible, ?k_o_Impossible⟩; (case x_o_Impossible => exact rfl); (case r_o_Impossible => decide +kernel); (case s_o_Impossible => k_is); (case e_o_Impossible => k_is); (case t_o_Impossible => k_is); (case k_o_Impossible => k_is))
    (case o_TooMany => refine' ⟨⟨_, _, _, _, [.ref _, .type "ValueError", .type "Exception", .type "BaseException", .type "object"], _, _, _, _, _, _, _, _, _, _, ?x_o_TooMany, ?r_o_TooMany⟩, ?s_o_TooMany, ?e_o_TooMany, ?t_o_TooMany, ?k_o_TooMany⟩; (case x_o_TooMany => exact rfl); (case r_o_TooMany => decide +kernel); (case s_o_TooMany => k_is); (case e_o_TooMany => k_is); (case t_o_TooMany => k_is); (case k_o_TooMany => k_is))
    (case o_BadText => refine' ⟨⟨_, _, _, _, [.ref _, .type "ValueError", .type "Exception", .type "BaseException", .type "object"], _, _, _, _, _, _, _, _, _, _, ?x_o_BadText, ?r_o_BadText⟩, ?s_o_BadText, ?e_o_BadText, ?t_o_BadText, ?k_o_BadText⟩; (case x_o_BadText => exact rfl); (case r_o_BadText => decide +kernel); (case s_o_BadText => k_is); (case e_o_BadText => k_is); (case t_o_BadText => k_is); (case k_o_BadText => k_is))
    (case o_BadLine => refine' ⟨⟨_, _, _, _, [.ref _, .type "ValueError", .type "Exception", .type "BaseException", .type "object"], _, _, _, _, _, _, _, _, _, _, ?x_o_BadLine, ?r_o_BadLine⟩, ?s_o_BadLine, ?e_o_BadLine, ?t_o_BadLine, ?k_o_BadLine⟩; (case x_o_BadLine => exact rfl); (case r_o_BadLine => decide +kernel); (case s_o_BadLine => k_is); (case e_o_BadLine => k_is); (case t_o_BadLine => k_is); (case k_o_BadLine => k_is))
    (case o_Missing => refine' ⟨⟨_, _, _, _, [.ref _, .type "ValueError", .type "Exception", .type "BaseException", .type "object"], _, _, _, _, _, _, _, _, _, _, ?x_o_Missing, ?r_o_Missing⟩, ?s_o_Missing, ?e_o_Missing, ?t_o_Missing, ?k_o_Missing⟩; (case x_o_Missing => exact rfl); (case r_o_Missing => decide +kernel); (case s_o_Missing => k_is); (case e_o_Missing => k_is); (case t_o_Missing => k_is); (case k_o_Missing => k_is))
    (case e_BadWord => refine' ⟨?a_e_BadWord, ?b_e_BadWord, ?c_e_BadWord, ?d_e_BadWord, ?e_e_BadWord, ?f_e_BadWord, ?g_e_BadWord, ?h_e_BadWord⟩; (case a_e_BadWord => k_is); (case b_e_BadWord => k_is); (case c_e_BadWord => k_is); (case d_e_BadWord => k_is); (case e_e_BadWord => k_is); (case f_e_BadWord => k_is); (case g_e_BadWord => k_is); (case h_e_BadWord => k_is))
    (case e_BadStock => refine' ⟨?a_e_BadStock, ?b_e_BadStock, ?c_e_BadStock, ?d_e_BadStock, ?e_e_BadStock, ?f_e_BadStock, ?g_e_BadStock, ?h_e_BadStock⟩; (case a_e_BadStock => k_is); (case b_e_BadStock => k_is); (case c_e_BadStock => k_is); (case d_e_BadStock => k_is); (case e_e_BadStock => k_is); (case f_e_BadStock => k_is); (case g_e_BadStock => k_is); (case h_e_BadStock => k_is))
    (case e_BadShift => refine' ⟨?a_e_BadShift, ?b_e_BadShift, ?c_e_BadShift, ?d_e_BadShift, ?e_e_BadShift, ?f_e_BadShift, ?g_e_BadShift, ?h_e_BadShift⟩; (case a_e_BadShift => k_is); (case b_e_BadShift => k_is); (case c_e_BadShift => k_is); (case d_e_BadShift => k_is); (case e_e_BadShift => k_is); (case f_e_BadShift => k_is); (case g_e_BadShift => k_is); (case h_e_BadShift => k_is))
    (case e_BadCourse => refine' ⟨?a_e_BadCourse, ?b_e_BadCourse, ?c_e_BadCourse, ?d_e_BadCourse, ?e_e_BadCourse, ?f_e_BadCourse, ?g_e_BadCourse, ?h_e_BadCourse⟩; (case a_e_BadCourse => k_is); (case b_e_BadCourse => k_is); (case c_e_BadCourse => k_is); (case d_e_BadCourse => k_is); (case e_e_BadCourse => k_is); (case f_e_BadCourse => k_is); (case g_e_BadCourse => k_is); (case h_e_BadCourse => k_is))
    (case e_BadSheet => refine' ⟨?a_e_BadSheet, ?b_e_BadSheet, ?c_e_BadSheet, ?d_e_BadSheet, ?e_e_BadSheet, ?f_e_BadSheet, ?g_e_BadSheet, ?h_e_BadSheet⟩; (case a_e_BadSheet => k_is); (case b_e_BadSheet => k_is); (case c_e_BadSheet => k_is); (case d_e_BadSheet => k_is); (case e_e_BadSheet => k_is); (case f_e_BadSheet => k_is); (case g_e_BadSheet => k_is); (case h_e_BadSheet => k_is))
    (case e_BadDyeing => refine' ⟨?a_e_BadDyeing, ?b_e_BadDyeing, ?c_e_BadDyeing, ?d_e_BadDyeing, ?e_e_BadDyeing, ?f_e_BadDyeing, ?g_e_BadDyeing, ?h_e_BadDyeing⟩; (case a_e_BadDyeing => k_is); (case b_e_BadDyeing => k_is); (case c_e_BadDyeing => k_is); (case d_e_BadDyeing => k_is); (case e_e_BadDyeing => k_is); (case f_e_BadDyeing => k_is); (case g_e_BadDyeing => k_is); (case h_e_BadDyeing => k_is))
    (case e_BadSaying => refine' ⟨?a_e_BadSaying, ?b_e_BadSaying, ?c_e_BadSaying, ?d_e_BadSaying, ?e_e_BadSaying, ?f_e_BadSaying, ?g_e_BadSaying, ?h_e_BadSaying⟩; (case a_e_BadSaying => k_is); (case b_e_BadSaying => k_is); (case c_e_BadSaying => k_is); (case d_e_BadSaying => k_is); (case e_e_BadSaying => k_is); (case f_e_BadSaying => k_is); (case g_e_BadSaying => k_is); (case h_e_BadSaying => k_is))
    (case e_BadPairs => refine' ⟨?a_e_BadPairs, ?b_e_BadPairs, ?c_e_BadPairs, ?d_e_BadPairs, ?e_e_BadPairs, ?f_e_BadPairs, ?g_e_BadPairs, ?h_e_BadPairs⟩; (case a_e_BadPairs => k_is); (case b_e_BadPairs => k_is); (case c_e_BadPairs => k_is); (case d_e_BadPairs => k_is); (case e_e_BadPairs => k_is); (case f_e_BadPairs => k_is); (case g_e_BadPairs => k_is); (case h_e_BadPairs => k_is))
    (case e_BadFamily => refine' ⟨?a_e_BadFamily, ?b_e_BadFamily, ?c_e_BadFamily, ?d_e_BadFamily, ?e_e_BadFamily, ?f_e_BadFamily, ?g_e_BadFamily, ?h_e_BadFamily⟩; (case a_e_BadFamily => k_is); (case b_e_BadFamily => k_is); (case c_e_BadFamily => k_is); (case d_e_BadFamily => k_is); (case e_e_BadFamily => k_is); (case f_e_BadFamily => k_is); (case g_e_BadFamily => k_is); (case h_e_BadFamily => k_is))
    (case e_BadNumber => refine' ⟨?a_e_BadNumber, ?b_e_BadNumber, ?c_e_BadNumber, ?d_e_BadNumber, ?e_e_BadNumber, ?f_e_BadNumber, ?g_e_BadNumber, ?h_e_BadNumber⟩; (case a_e_BadNumber => k_is); (case b_e_BadNumber => k_is); (case c_e_BadNumber => k_is); (case d_e_BadNumber => k_is); (case e_e_BadNumber => k_is); (case f_e_BadNumber => k_is); (case g_e_BadNumber => k_is); (case h_e_BadNumber => k_is))
    (case e_BadPaper => refine' ⟨?a_e_BadPaper, ?b_e_BadPaper, ?c_e_BadPaper, ?d_e_BadPaper, ?e_e_BadPaper, ?f_e_BadPaper, ?g_e_BadPaper, ?h_e_BadPaper⟩; (case a_e_BadPaper => k_is); (case b_e_BadPaper => k_is); (case c_e_BadPaper => k_is); (case d_e_BadPaper => k_is); (case e_e_BadPaper => k_is); (case f_e_BadPaper => k_is); (case g_e_BadPaper => k_is); (case h_e_BadPaper => k_is))
    (case e_BadDesk => refine' ⟨?a_e_BadDesk, ?b_e_BadDesk, ?c_e_BadDesk, ?d_e_BadDesk, ?e_e_BadDesk, ?f_e_BadDesk, ?g_e_BadDesk, ?h_e_BadDesk⟩; (case a_e_BadDesk => k_is); (case b_e_BadDesk => k_is); (case c_e_BadDesk => k_is); (case d_e_BadDesk => k_is); (case e_e_BadDesk => k_is); (case f_e_BadDesk => k_is); (case g_e_BadDesk => k_is); (case h_e_BadDesk => k_is))
    (case e_Misfit => refine' ⟨?a_e_Misfit, ?b_e_Misfit, ?c_e_Misfit, ?d_e_Misfit, ?e_e_Misfit, ?f_e_Misfit, ?g_e_Misfit, ?h_e_Misfit⟩; (case a_e_Misfit => k_is); (case b_e_Misfit => k_is); (case c_e_Misfit => k_is); (case d_e_Misfit => k_is); (case e_e_Misfit => k_is); (case f_e_Misfit => k_is); (case g_e_Misfit => k_is); (case h_e_Misfit => k_is))
    (case e_NoRow => refine' ⟨?a_e_NoRow, ?b_e_NoRow, ?c_e_NoRow, ?d_e_NoRow, ?e_e_NoRow, ?f_e_NoRow, ?g_e_NoRow, ?h_e_NoRow⟩; (case a_e_NoRow => k_is); (case b_e_NoRow => k_is); (case c_e_NoRow => k_is); (case d_e_NoRow => k_is); (case e_e_NoRow => k_is); (case f_e_NoRow => k_is); (case g_e_NoRow => k_is); (case h_e_NoRow => k_is))
    (case e_NoLanguage => refine' ⟨?a_e_NoLanguage, ?b_e_NoLanguage, ?c_e_NoLanguage, ?d_e_NoLanguage, ?e_e_NoLanguage, ?f_e_NoLanguage, ?g_e_NoLanguage, ?h_e_NoLanguage⟩; (case a_e_NoLanguage => k_is); (case b_e_NoLanguage => k_is); (case c_e_NoLanguage => k_is); (case d_e_NoLanguage => k_is); (case e_e_NoLanguage => k_is); (case f_e_NoLanguage => k_is); (case g_e_NoLanguage => k_is); (case h_e_NoLanguage => k_is))
    (case e_NoPlace => refine' ⟨?a_e_NoPlace, ?b_e_NoPlace, ?c_e_NoPlace, ?d_e_NoPlace, ?e_e_NoPlace, ?f_e_NoPlace, ?g_e_NoPlace, ?h_e_NoPlace⟩; (case a_e_NoPlace => k_is); (case b_e_NoPlace => k_is); (case c_e_NoPlace => k_is); (case d_e_NoPlace => k_is); (case e_e_NoPlace => k_is); (case f_e_NoPlace => k_is); (case g_e_NoPlace => k_is); (case h_e_NoPlace => k_is))
    (case e_NoShift => refine' ⟨?a_e_NoShift, ?b_e_NoShift, ?c_e_NoShift, ?d_e_NoShift, ?e_e_NoShift, ?f_e_NoShift, ?g_e_NoShift, ?h_e_NoShift⟩; (case a_e_NoShift => k_is); (case b_e_NoShift => k_is); (case c_e_NoShift => k_is); (case d_e_NoShift => k_is); (case e_e_NoShift => k_is); (case f_e_NoShift => k_is); (case g_e_NoShift => k_is); (case h_e_NoShift => k_is))
    (case e_NoName => refine' ⟨?a_e_NoName, ?b_e_NoName, ?c_e_NoName, ?d_e_NoName, ?e_e_NoName, ?f_e_NoName, ?g_e_NoName, ?h_e_NoName⟩; (case a_e_NoName => k_is); (case b_e_NoName => k_is); (case c_e_NoName => k_is); (case d_e_NoName => k_is); (case e_e_NoName => k_is); (case f_e_NoName => k_is); (case g_e_NoName => k_is); (case h_e_NoName => k_is))
    (case e_Twice => refine' ⟨?a_e_Twice, ?b_e_Twice, ?c_e_Twice, ?d_e_Twice, ?e_e_Twice, ?f_e_Twice, ?g_e_Twice, ?h_e_Twice⟩; (case a_e_Twice => k_is); (case b_e_Twice => k_is); (case c_e_Twice => k_is); (case d_e_Twice => k_is); (case e_e_Twice => k_is); (case f_e_Twice => k_is); (case g_e_Twice => k_is); (case h_e_Twice => k_is))
    (case e_Impossible => refine' ⟨?a_e_Impossible, ?b_e_Impossible, ?c_e_Impossible, ?d_e_Impossible, ?e_e_Impossible, ?f_e_Impossible, ?g_e_Impossible, ?h_e_Impossible⟩; (case a_e_Impossible => k_is); (case b_e_Impossible => k_is); (case c_e_Impossible => k_is); (case d_e_Impossible => k_is); (case e_e_Impossible => k_is); (case f_e_Impossible => k_is); (case g_e_Impossible => k_is); (case h_e_Impossible => k_is))
    (case e_TooMany => refine' ⟨?a_e_TooMany, ?b_e_TooMany, ?c_e_TooMany, ?d_e_TooMany, ?e_e_TooMany, ?f_e_TooMany, ?g_e_TooMany, ?h_e_TooMany⟩; (case a_e_TooMany => k_is); (case b_e_TooMany => k_is); (case c_e_TooMany => k_is); (case d_e_TooMany => k_is); (case e_e_TooMany => k_is); (case f_e_TooMany => k_is); (case g_e_TooMany => k_is); (case h_e_TooMany => k_is))
    (case e_Nothing => refine' ⟨?a_e_Nothing, ?b_e_Nothing, ?c_e_Nothing, ?d_e_Nothing, ?e_e_Nothing, ?f_e_Nothing, ?g_e_Nothing, ?h_e_Nothing⟩; (case a_e_Nothing => k_is); (case b_e_Nothing => k_is); (case c_e_Nothing => k_is); (case d_e_Nothing => k_is); (case e_e_Nothing => k_is); (case f_e_Nothing => k_is); (case g_e_Nothing => k_is); (case h_e_Nothing => k_is))
    (case e_BadText => refine' ⟨?a_e_BadText, ?b_e_BadText, ?c_e_BadText, ?d_e_BadText, ?e_e_BadText, ?f_e_BadText, ?g_e_BadText, ?h_e_BadText⟩; (case a_e_BadText => k_is); (case b_e_BadText => k_is); (case c_e_BadText => k_is); (case d_e_BadText => k_is); (case e_e_BadText => k_is); (case f_e_BadText => k_is); (case g_e_BadText => k_is); (case h_e_BadText => k_is))
    (case e_BadLine => refine' ⟨?a_e_BadLine, ?b_e_BadLine, ?c_e_BadLine, ?d_e_BadLine, ?e_e_BadLine, ?f_e_BadLine, ?g_e_BadLine, ?h_e_BadLine⟩; (case a_e_BadLine => k_is); (case b_e_BadLine => k_is); (case c_e_BadLine => k_is); (case d_e_BadLine => k_is); (case e_e_BadLine => k_is); (case f_e_BadLine => k_is); (case g_e_BadLine => k_is); (case h_e_BadLine => k_is))
    (case e_Missing => refine' ⟨?a_e_Missing, ?b_e_Missing, ?c_e_Missing, ?d_e_Missing, ?e_e_Missing, ?f_e_Missing, ?g_e_Missing, ?h_e_Missing⟩; (case a_e_Missing => k_is); (case b_e_Missing => k_is); (case c_e_Missing => k_is); (case d_e_Missing => k_is); (case e_e_Missing => k_is); (case f_e_Missing => k_is); (case g_e_Missing => k_is); (case h_e_Missing => k_is))
    (case p_BadWord_part => k_is)
    (case p_BadStock_part => k_is)
    (case p_BadShift_part => k_is)
    (case p_BadCourse_part => k_is)
    (case p_BadSheet_part => k_is)
    (case p_BadDyeing_part => k_is)
    (case p_BadSaying_part => k_is)
    (case p_BadPairs_part => k_is)
    (case p_BadFamily_part => k_is)
    (case p_BadNumber_part => k_is)
    (case p_BadPaper_part => k_is)
    (case p_BadDesk_part => k_is)
    (case p_Misfit_part => k_is)
    (case p_NoRow_value => k_is)
    (case p_NoLanguage_value => k_is)
    (case p_NoPlace_value => k_is)
    (case p_NoShift_value => k_is)
    (case p_NoName_value => k_is)
    (case p_Twice_value => k_is)
    (case p_Impossible_paper => k_is)
    (case p_TooMany_what => k_is)
    (case p_TooMany_most => k_is)
    (case p_BadText_line => k_is)
    (case p_BadText_item => k_is)
    (case p_BadLine_line => k_is)
    (case p_BadLine_error => k_is)
    (case p_Missing_value => k_is)
    (case nx => k_exc)
    (case nk => k_is)
    (case kb => kernel_rfl)
