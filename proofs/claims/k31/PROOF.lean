import PyProof.Rows.All
import Wide.All
import OpenK.AllK
import Wide.FinOn
import HandS.ForMost
import HandS.Keys
import HandS.Walk
import HandS.ExcValue
import KE.GoesEnum
import KE.GoesMore
import HandS.ClsMeth
import KE.KTypeName
import KE.KIsNot
import HandS.OwnEq
import PyProof.InstNe
import HandS.Records
import PyProof.EqAt
import PyProof.EqKinds
import PyProof.TupleCall
import HandS.ExcInit
import HandS.ExcIs
import HandS.ExcField
import HandS.IsInst
import KE.KExcIs
import HandS.DeepEq
import HandS.More
import HandS.Style
import PyProof.NeKinds
import PyProof.ListStr
import PyProof.StrOps2
import HandS.StrMore
import HandS.Exc
import HandS.ExcOwn
import HandS.Lambda
import HandS.WordsExc
import PyProof.Rows.SortShellAny
import HandS.SetKeys
import HandS.Flow
import HandS.Replace
import HandS.WideMore
import HandS.TupLe
import HandS.ReplaceLit
import HandS.ReplaceList
import HandS.Iter
import HandS.Zip
import HandS.Text
import HandS.Strs
import HandS.Star
import KE.KDictZip
import HandS.DictComp
import HandS.Conv
import KE.KSuper
import HandS.Deep
import HandS.TupAny
import KE.KDictList
import KE.DatumOrd
import KE.KIndexOf
import HandS.EndTab
import HandS.MapObj
import HandS.RepeatKit
import HandS.Sort
import HandS.MakeKwOnly
import KE.RegKSuper
import KE.OsRunLaw
import PySem.Challenge.RW_foretongue_k31_the_fewest_languages_that
set_option Elab.async false
set_option linter.all false
set_option maxRecDepth 100000
set_option maxHeartbeats 2000000
namespace K5S
open PySem PySem.Spec PyProof.Rows L2
abbrev zfp (N : Nat) : List Addr := [N + 4, N + 2, N + 3, N, N + 1]
theorem zfp_cases {N : Nat} {c : Addr} (h : c ∈ zfp N) : c = N + 4 ∨ c = N + 2 ∨ c = N + 3 ∨ c = N ∨ c = N + 1 := by simpa using h
theorem zfp_le {N : Nat} {c : Addr} (h : c ∈ zfp N) : N ≤ c := by
  have h5 : ∀ m : Nat, m = N + 4 ∨ m = N + 2 ∨ m = N + 3 ∨ m = N ∨ m = N + 1 → N ≤ m := fun m hm => by omega
  exact h5 c (zfp_cases h)
theorem zfp_lt {N k : Nat} {c : Addr} (h : c ∈ zfp N) (hk : N + 4 < k) : c < k := by
  have h5 : ∀ m : Nat, m = N + 4 ∨ m = N + 2 ∨ m = N + 3 ∨ m = N ∨ m = N + 1 → m < k := fun m hm => by omega
  exact h5 c (zfp_cases h)
/-- the tuple at a and the list at b as they stand at each turn, the items in new pairs -/
def ItzM (K : PySem.W.Frag) (a b : Addr) : It :=
  ⟨fun i H => ∃ (xs ys : List V) (x y : V), SqT K H a xs ∧ SqL K H b ys ∧ xs[i]? = some x ∧ ys[i]? = some y,
    fun i H v H' => ∃ T x y, v = .ref T ∧ H T = none ∧ H' = upd H T (.tup [x, y]) ∧ (∀ xs, SqT K H a xs → xs[i]? = some x) ∧ ∀ ys, SqL K H b ys → ys[i]? = some y,
    fun i H => ∃ xs ys : List V, SqT K H a xs ∧ SqL K H b ys ∧ (i = xs.length ∨ i = ys.length) ∧ i ≤ xs.length ∧ i ≤ ys.length⟩
theorem sepM {N : Nat} {a b : Addr} (ha : a < N) (hb : b < N) : ZipSep2 (N + 4) (N + 2) (N + 3) N (N + 1) [N, a] [N + 1, b] :=
  zip_sep2 (fp1 := [a]) (fp2 := [b]) (fun c h => by rw [List.mem_singleton.mp h]; exact ha) (fun c h => by rw [List.mem_singleton.mp h]; exact hb)
theorem turn_zM {P : Program} {w : World} {K : PySem.W.Frag} {elts : List Expr} {kk : Nat} {tpos : Pos} {N : Nat} {a b : Addr} (ha : a < N) (hb : b < N) :
    Turn P w K (.Tuple elts kk tpos) (ItzM K a b) (zfp N) (N + 4) (fun i h => IsZip h (N + 4) (N + 2) (N + 3) .none ∧ IsTupOf2 h (N + 2) (.ref N) (.ref (N + 1)) ∧ (∃ c d, IsTupOf2 h (N + 3) c d) ∧
      h.IsTupleIter N a i ∧ h.IsListIter (N + 1) b i) where
  mem := by simp
  obj := fun i h st c hc => by
    obtain ⟨hz, hTI, ⟨x, y, hTO⟩, ⟨o1, e1, _, d1⟩, ⟨o2, e2, _, d2⟩⟩ := st
    rcases zfp_cases hc with q | q | q | q | q
    · rw [q]; exact ⟨_, hz, fun v q => nomatch q⟩
    · rw [q]; exact ⟨_, hTI, fun v q => nomatch q⟩
    · rw [q]; exact ⟨_, hTO, fun v q => nomatch q⟩
    · rw [q]; exact ⟨o1, e1, fun v q => by rw [d1] at q; cases q⟩
    · rw [q]; exact ⟨o2, e2, fun v q => by rw [d2] at q; cases q⟩
  keep := fun i h h' st k => by
    obtain ⟨hz, hTI, ⟨x, y, hTO⟩, ⟨o1, e1, r1⟩, ⟨o2, e2, r2⟩⟩ := st
    exact ⟨k (N + 4) (by simp) _ hz, k (N + 2) (by simp) _ hTI, ⟨x, y, k (N + 3) (by simp) _ hTO⟩, ⟨o1, k N (by simp) _ e1, r1⟩, ⟨o2, k (N + 1) (by simp) _ e2, r2⟩⟩
  item := by
    intro X hP hw hK hc i pins s σ H E I hf st hg
    subst hP hw hK
    obtain ⟨hz, hTI, ⟨x0, y0, hTO⟩, h1, h2⟩ := st
    obtain ⟨xs, ys, x, y, hqx, hqy, hx, hy⟩ := hg
    obtain ⟨its, rv, p, _⟩ := I.tuple hqx
    obtain ⟨its2, rv2, p2, _⟩ := I.list hqy
    obtain ⟨u, hu, ru⟩ := rv.get hx
    obtain ⟨u2, hu2, ru2⟩ := rv2.get hy
    have hh : X.A.in1.handled = none := I.ok.hd hc
    have hzl : N + 4 < s.heap.objs.size := Heap.lt_size hz
    have l1 : i < its.toArray.size := by
      have := (List.getElem?_eq_some_iff.mp hu).1
      simpa using this
    have l2 : i < its2.toArray.size := by
      have := (List.getElem?_eq_some_iff.mp hu2).1
      simpa using this
    have na : a ≠ N := Nat.ne_of_lt ha
    have nb : b ≠ N + 1 := Nat.ne_of_lt (Nat.lt_of_lt_of_le hb (Nat.le_succ _))
    refine wpAny_pyNext_zipD2_item (sepM ha hb) (Draws.tuple hh N a na its.toArray) (Draws.list hh (N + 1) b nb its2.toArray) hz hTI hTO ⟨h1, p⟩ ⟨h2, p2.isList⟩ l1 l2 fun x1 x2 h' tk p1 p2' z' TO' h1' h2' hT hsz hk => ?_
    have e1 : x1 = u := by
      have : its[i]? = some x1 := by simpa using p1
      rw [hu] at this
      exact (Option.some.inj this).symm
    have e2 : x2 = u2 := by
      have : its2[i]? = some x2 := by simpa using p2'
      rw [hu2] at this
      exact (Option.some.inj this).symm
    subst e1 e2
    refine ⟨_, rfl, wpAny_letOwnedTupleGo_zip (s := { s with heap := h', toks := tk }) z' fun h'' z'' sb => ?_⟩
    have hT2 : h''.get? s.heap.objs.size = some { cls := .type "tuple", data := .seq #[x1, x2] } := (sb.2 _ (Nat.ne_of_gt hzl)).trans hT
    have new : ObjOk X.prog X.w (upd H s.heap.objs.size (.tup [x, y])) h'' s.heap.objs.size (.tup [x, y]) :=
      ⟨by show 2 ≤ sizeLine; decide, [x1, x2], .cons ru (.cons ru2 .nil), ⟨_, hT2, rfl, _, rfl⟩⟩
    have I1 := I.turnedNew (t' := tk) (ch := zfp N) (h' := h'') (fun c o hb q => (sb.2 c (fun q' => hb (by simp [q']))).trans
      (hk c o (fun q' => hb (by simp [q'])) (fun q' => hb (by simp [q'])) (fun q' => hb (by simp [q'])) (fun q' => hb (by simp [q'])) q)) hf (Nat.le_refl _) new
    have zne1 : N + 2 ≠ N + 4 := by omega
    have zne2 : N + 3 ≠ N + 4 := by omega
    have zne3 : N ≠ N + 4 := by omega
    have zne4 : N + 1 ≠ N + 4 := by omega
    have zne5 : N + 2 ≠ N + 3 := by omega
    have zne6 : N + 2 ≠ N := by omega
    have zne7 : N + 2 ≠ N + 1 := by omega
    refine ⟨.ref s.heap.objs.size, _, I1, rfl, ⟨_, x, y, rfl, I.hok.fresh (Nat.le_refl _), rfl, fun l hl => by rw [I.tuple_inj hl hqx]; exact hx, fun l hl => by rw [I.list_inj hl hqy]; exact hy⟩, ⟨z'', ?_, ⟨_, _, (sb.2 _ zne2).trans TO'⟩, ?_, ?_⟩, fun c' hcm => ?_⟩
    · refine (sb.2 _ zne1).trans (hk _ _ zne1 zne5 zne6 zne7 hTI)
    · exact h1'.1.at fun o q => (sb.2 _ zne3).trans q
    · exact h2'.1.at fun o q => (sb.2 _ zne4).trans q
    · rw [upd_ne (Nat.ne_of_lt (zfp_lt hcm hzl))]
      exact (hf c' hcm).1
  done := by
    intro X hP hw hK hc i pins s σ H E I hf st hg
    subst hP hw hK
    obtain ⟨hz, hTI, ⟨x0, y0, hTO⟩, h1, h2⟩ := st
    obtain ⟨xs, ys, hqx, hqy, hend, le1, le2⟩ := hg
    obtain ⟨its, rv, p, _⟩ := I.tuple hqx
    obtain ⟨its2, rv2, p2, _⟩ := I.list hqy
    have hh : X.A.in1.handled = none := I.ok.hd hc
    have na : a ≠ N := Nat.ne_of_lt ha
    have nb : b ≠ N + 1 := Nat.ne_of_lt (Nat.lt_of_lt_of_le hb (Nat.le_succ _))
    have l1 : its.toArray.size = xs.length := by simp [rv.length]
    have l2 : its2.toArray.size = ys.length := by simp [rv2.length]
    refine wpAny_pyNext_zipD2_end (sepM ha hb) (Draws.tuple hh N a na its.toArray) (Draws.list hh (N + 1) b nb its2.toArray) hz hTI hTO ⟨h1, p⟩ ⟨h2, p2.isList⟩ (by rw [l1]; exact le1) (by rw [l2]; exact le2) (by rw [l1, l2]; exact hend) fun h' tk hk => ⟨rfl, I.turnedL (t' := tk) (ch := zfp N) (fun c o hb q =>
      hk c o (fun q' => hb (by simp [q'])) (fun q' => hb (by simp [q'])) (fun q' => hb (by simp [q'])) (fun q' => hb (by simp [q'])) q) hf⟩
  self := fun A i s Q E st h => wpAny_pyIter_zip st.1 h
/-- one object, known whole -/
def obH (c : Addr) (o : Obj) : HO := .ext fun h => h.get? c = some o
theorem obH_ok {P : Program} {w : World} {H : Hp} {h : Heap} {c : Addr} {o : Obj} (e : h.get? c = some o) : ObjOk P w H h c (obH c o) := ⟨e, ⟨o, e⟩, fun _ _ e k => k _ e⟩
/-- the heap with a zip's five objects told: its tuple's, its list's iterator, its two pairs, itself -/
def zipH (H : Hp) (N : Nat) (a b : Addr) : Hp :=
  upd (upd (upd (upd (upd H N (obH N { cls := .type "tuple_iterator", data := .fields #[.ref a, .int 0 0] }))
    (N + 1) (obH (N + 1) { cls := .type "list_iterator", data := .fields #[.ref b, .int 0 0] }))
    (N + 2) (obH (N + 2) { cls := .type "tuple", data := .seq #[.ref N, .ref (N + 1)] }))
    (N + 3) (obH (N + 3) { cls := .type "tuple", data := .seq #[.none, .none] }))
    (N + 4) (obH (N + 4) { cls := .type "zip", dict := none, data := .fields #[.none, .bool false, .bool false, .ref (N + 2), .ref (N + 3)], slots := #[] })
/-- younger than the entry, none of the callers' frames -/
def Yg (X : Cx) (c : Addr) : Prop := c ∉ X.fs ∧ X.s_0.heap.objs.size ≤ c
def tZipM (X : Cx) (ta : TA) : TE := fun σ H Q => ta σ H fun vs H1 => ∃ a b xs ys, vs = [.ref a, .ref b] ∧ SqT X.K H1 a xs ∧ SqL X.K H1 b ys ∧ ∀ N : Nat, a < N → b < N → (∀ c ∈ zfp N, H1 c = none ∧ Yg X c) → Q (.ref (N + 4)) (zipH H1 N a b)
theorem ad_ne {N i j : Nat} (h : i ≠ j) : (N + i : Nat) ≠ N + j := by omega
theorem pe_zipM {X : Cx} {e e2 : Expr} {ta : TA} {p pos : Pos} (hg : Gl X "zip") (hm : X.mg "zip" = none) (ha : PA X [e, e2] ta)
    (hs : starEach [e, e2] X.env = (false, eval e X.env) :: starEach [e2] X.env := by rfl) (hpl : (backTo pos (starEach [e2] X.env)).any (·.1) = false := by rfl) :
    PE X (.Call (.Name "zip" p) [e, e2] [] pos) (tZipM X ta) := by
  refine ⟨fun pins s σ H Q I h => ?_⟩
  refine Call_ (ld_blt I hg hm PyProof.Rows.boot_zip (PyProof.Rows.callWith_type1 (thn (ha.run pos pins s σ H _ I h) fun us s1 ⟨vs, H1, I1, r1, q1⟩ => ?_) hs hpl))
  obtain ⟨a, b, xs, ys, ex, hqx, hqy, q⟩ := q1
  subst ex
  obtain ⟨u1, u2, rfl, r1, r2⟩ := vals2 r1
  cases r1
  cases r2
  obtain ⟨its, rv, p1, _⟩ := I1.tuple hqx
  obtain ⟨its2, rv2, p2, _⟩ := I1.list hqy
  refine zip_begins2 (begins_tuple a its.toArray) (begins_list b its2.toArray) p1 p2.isList fun h' hz hTI hTO g1 g2 hsz hk => ?_
  have I2 : Inv X pins σ H1 { s1 with heap := h' } := I1.kept (t' := s1.toks) hk
  generalize hN : s1.heap.objs.size = N at hz hTI hTO g1 g2 hsz
  have fp : ∀ {H' : Hp} {c : Addr}, N ≤ c → H' c = none → FpOk X pins H' c := fun {H' c} hc hn => I1.fpOk (by rw [hN]; exact hc) hn
  have fr : ∀ {c : Addr}, N ≤ c → H1 c = none := fun {c} hc => I1.hok.fresh (by rw [hN]; exact hc)
  have kp : ∀ (b : Addr) (ob : Obj) (it : Addr), b ≠ it → h'.get? b = some ob → h'.get? b = some ob := fun _ _ _ _ e => e
  have n0 : H1 N = none := fr (Nat.le_refl _)
  have n1 : H1 (N + 1) = none := fr (Nat.le_add_right _ _)
  have n2 : H1 (N + 2) = none := fr (Nat.le_add_right _ _)
  have n3 : H1 (N + 3) = none := fr (Nat.le_add_right _ _)
  have n4 : H1 (N + 4) = none := fr (Nat.le_add_right _ _)
  have z10 : (N + 1 : Nat) ≠ N := by omega
  have z20 : (N + 2 : Nat) ≠ N := by omega
  have z30 : (N + 3 : Nat) ≠ N := by omega
  have z40 : (N + 4 : Nat) ≠ N := by omega
  have J1 := I2.take (t' := s1.toks) (h' := h') (fun b ob _ e => e) (fp (Nat.le_refl _) n0) (obH_ok g1)
  have J2 := J1.take (t' := s1.toks) (h' := h') (it := N + 1) (fun b ob _ e => e) (fp (Nat.le_add_right _ _) ((upd_ne z10).trans n1)) (obH_ok g2)
  have J3 := J2.take (t' := s1.toks) (h' := h') (it := N + 2) (fun b ob _ e => e) (fp (Nat.le_add_right _ _) ((upd_ne (ad_ne (by decide))).trans ((upd_ne z20).trans n2))) (obH_ok hTI)
  have J4 := J3.take (t' := s1.toks) (h' := h') (it := N + 3) (fun b ob _ e => e) (fp (Nat.le_add_right _ _) ((upd_ne (ad_ne (by decide))).trans ((upd_ne (ad_ne (by decide))).trans ((upd_ne z30).trans n3)))) (obH_ok hTO)
  have J5 := J4.take (t' := s1.toks) (h' := h') (it := N + 4) (fun b ob _ e => e) (fp (Nat.le_add_right _ _) ((upd_ne (ad_ne (by decide))).trans ((upd_ne (ad_ne (by decide))).trans ((upd_ne (ad_ne (by decide))).trans ((upd_ne z40).trans n4))))) (obH_ok hz)
  refine ⟨.ref (N + 4), zipH H1 N a b, J5, rfl, q N ?_ ?_ fun c hc => ⟨fr (zfp_le hc), I1.nofs (by rw [hN]; exact zfp_le hc), Nat.le_trans I1.sz (by rw [hN]; exact zfp_le hc)⟩⟩
  · rw [← hN]
    exact p1.lt
  · rw [← hN]
    exact p2.lt
def iZipM (X : Cx) (te : TE) : TI := fun σ H R => te σ H fun v H1 => ∃ (N : Nat) (a b : Addr) (H0 : Hp), v = .ref (N + 4) ∧ H1 = zipH H0 N a b ∧ a < N ∧ b < N ∧ (∀ c ∈ zfp N, H0 c = none ∧ X.H_0 c = none ∧ Yg X c) ∧ R (ItzM X.K a b) H0
theorem pi_zipM {X : Cx} {e : Expr} {te : TE} {tpos : Pos} {elts : List Expr} {kk : Nat} (he : PE X e te) (hx : X.ex = []) : PI X (.Tuple elts kk tpos) e (iZipM X te) := by
  refine ⟨fun pins s σ H R I h => ?_⟩
  refine thn (he.run pins s σ H _ I h) fun v s1 ⟨x, H1, I1, r1, q1⟩ => ?_
  obtain ⟨N, a, b, H0, rfl, rfl, ha, hb, hc, q⟩ := q1
  cases r1
  have at4 : zipH H0 N a b (N + 4) = some (obH (N + 4) { cls := .type "zip", dict := none, data := .fields #[.none, .bool false, .bool false, .ref (N + 2), .ref (N + 3)], slots := #[] }) := upd_same
  have at3 : zipH H0 N a b (N + 3) = some (obH (N + 3) { cls := .type "tuple", data := .seq #[.none, .none] }) := (upd_ne (ad_ne (by decide))).trans upd_same
  have at2 : zipH H0 N a b (N + 2) = some (obH (N + 2) { cls := .type "tuple", data := .seq #[.ref N, .ref (N + 1)] }) := (upd_ne (ad_ne (by decide))).trans ((upd_ne (ad_ne (by decide))).trans upd_same)
  have at1 : zipH H0 N a b (N + 1) = some (obH (N + 1) { cls := .type "list_iterator", data := .fields #[.ref b, .int 0 0] }) := (upd_ne (ad_ne (by decide))).trans ((upd_ne (ad_ne (by decide))).trans ((upd_ne (ad_ne (by decide))).trans upd_same))
  have z10 : (N + 1 : Nat) ≠ N := by omega
  have z20 : (N + 2 : Nat) ≠ N := by omega
  have z30 : (N + 3 : Nat) ≠ N := by omega
  have z40 : (N + 4 : Nat) ≠ N := by omega
  have at0 : zipH H0 N a b N = some (obH N { cls := .type "tuple_iterator", data := .fields #[.ref a, .int 0 0] }) :=
    (upd_ne (Ne.symm z40)).trans ((upd_ne (Ne.symm z30)).trans ((upd_ne (Ne.symm z20)).trans ((upd_ne (Ne.symm z10)).trans upd_same)))
  have f4 := (I1.hok _ _ at4).1
  have f3 := (I1.hok _ _ at3).1
  have f2 := (I1.hok _ _ at2).1
  have f1 := (I1.hok _ _ at1).1
  have f0 := (I1.hok _ _ at0).1
  have trk : ∀ c ∈ zfp N, ∃ o, zipH H0 N a b c = some o := fun c h => by
    rcases zfp_cases h with q | q | q | q | q
    · rw [q]; exact ⟨_, at4⟩
    · rw [q]; exact ⟨_, at2⟩
    · rw [q]; exact ⟨_, at3⟩
    · rw [q]; exact ⟨_, at0⟩
    · rw [q]; exact ⟨_, at1⟩
  have fpk : ∀ c ∈ zfp N, FpOk X pins H0 c := fun c h => by
    obtain ⟨o, eo⟩ := trk c h
    obtain ⟨h1, h2, h3, h4⟩ := hc c h
    refine ⟨h1, fun z => ?_, h3, .inr h4, fun x d ed z => ?_, fun p hp z => ?_⟩
    · have := I1.free
      rw [← z, eo] at this
      cases this
    · have := I1.freeC x d ed
      rw [z, eo] at this
      cases this
    · have := (I1.pin p hp).2.1
      rw [z, eo] at this
      cases this
  have m4 : N + 4 ∈ zfp N := by simp
  have m3 : N + 3 ∈ zfp N := by simp
  have m2 : N + 2 ∈ zfp N := by simp
  have m1 : N + 1 ∈ zfp N := by simp
  have m0 : N ∈ zfp N := by simp
  have d0 := (hc _ m0).1
  have d1 := (hc _ m1).1
  have d2 := (hc _ m2).1
  have d3 := (hc _ m3).1
  have d4 := (hc _ m4).1
  have fr : ∀ c ∈ zfp N, Fr0 X.H_0 c := fun c h => fr0_none (hc c h).2.1
  obtain ⟨G4, s4, _, J4⟩ := I1.untrack (a := N + 4) upd_same (fr _ m4) hx
  rw [show delH (zipH H0 N a b) (N + 4) = _ from delH_new ((upd_ne (ad_ne (by decide))).trans ((upd_ne (ad_ne (by decide))).trans ((upd_ne (ad_ne (by decide))).trans ((upd_ne z40).trans d4))))] at J4
  obtain ⟨G3, s3, _, J3⟩ := J4.untrack (a := N + 3) upd_same (fr _ m3) hx
  rw [delH_new ((upd_ne (ad_ne (by decide))).trans ((upd_ne (ad_ne (by decide))).trans ((upd_ne z30).trans d3)))] at J3
  obtain ⟨G2, s2, _, J2⟩ := J3.untrack (a := N + 2) upd_same (fr _ m2) hx
  rw [delH_new ((upd_ne (ad_ne (by decide))).trans ((upd_ne z20).trans d2))] at J2
  obtain ⟨G1, s1', _, J1⟩ := J2.untrack (a := N + 1) upd_same (fr _ m1) hx
  rw [delH_new ((upd_ne z10).trans d1)] at J1
  obtain ⟨G0, s0, _, J0⟩ := J1.untrack (a := N) upd_same (fr _ m0) hx
  rw [delH_new d0] at J0
  have J : Inv X pins σ H0 s1 := J0.kept (h' := s1.heap) (t' := s1.toks) fun b o e => s4 b o (s3 b o (s2 b o (s1' b o (s0 b o e))))
  refine wpAny_pyIter_zip f4 ?_
  exact ⟨N + 4, zfp N, _, _, H0, rfl, J, turn_zM ha hb, ⟨f4, f2, ⟨_, _, f3⟩, ⟨_, f0, rfl, rfl⟩, ⟨_, f1, rfl, rfl⟩⟩, fpk, q⟩
/-- a walk of both at once -/
theorem walk_zM {K : PySem.W.Frag} {a b : Addr} {xs ys : List V} (hl : xs.length ≤ ys.length) : Walk (ItzM K a b) xs.length (fun H => SqT K H a xs ∧ SqL K H b ys) (fun i H v H' => ∃ T x y, v = .ref T ∧ H T = none ∧ H' = upd H T (.tup [x, y]) ∧ xs[i]? = some x ∧ ys[i]? = some y) :=
  ⟨fun i H hi ⟨h1, h2⟩ => ⟨xs, ys, _, _, h1, h2, List.getElem?_eq_getElem hi, List.getElem?_eq_getElem (Nat.lt_of_lt_of_le hi hl)⟩, fun H ⟨h1, h2⟩ => ⟨xs, ys, h1, h2, .inl rfl, Nat.le_refl _, hl⟩, fun i H v H' hi ⟨h1, h2⟩ ⟨T, x, y, e1, e2, e3, f1, f2⟩ => ⟨T, x, y, e1, e2, e3, f1 xs h1, f2 ys h2⟩⟩
end K5S
namespace K5
open PySem PySem.Spec PySem.W PySem.Calls PyProof.Rows Builtin Builtin.ObjectAttr Builtin.Getset_descriptor
/-- the class at C keeps its name nm -/
def KeptName (K : PySem.W.Frag) (C : Addr) (nm : Str) : Prop := ∃ o t, K.lookup C = some o ∧ o.slots[2]? = some (some (.str nm t))
theorem dga_ref (d tp : Value) (C : Addr) : descrGetArgs ⟨[d, .ref C, tp], []⟩ = pure (d, some (.ref C), given tp) := by kernel_rfl
section
variable {prog : Program} {w : World} {A : Around} {E : Value → Shared → Prop} {s : Shared} {K : Frag} {R : Result → Shared → Prop} {C : Addr} {nm : Str}
theorem name_get (X : K.In s.heap) {tp : Value} (ht : typeIn K (.ref C) = some (.type "type")) (hk : KeptName K C nm) (h : ∀ t, R (.ok (.ret (.str nm t))) s) :
    codeAny (model prog w) A (.call (.builtin "getset_descriptor.__get__") ⟨[.builtin "type.__name__", .ref C, tp], []⟩) R s := by
  obtain ⟨o, t, ho, hs⟩ := hk
  have hC := X _ _ ho
  obtain ⟨hh, g, dr, tt, os⟩ := s
  have L0 : Looks (model prog w) hh (typeOf (.ref C)) (.type "type") := looks_typeIn X ht
  have L1 : Looks (model prog w) hh (isSubtype (.type "type") (.type "type")) true := Looks.of_pure (by rw [isSubtype_type]; kernel_rfl)
  refine codeAny_call_builtin KF.slot_gs.plain KF.entry_gs (KF.slot_gs.check _ _ _ _ _ _ _ _ ktyn_type (KF.args_gs _ _ _) ?_)
  unfold Builtin.«getset_descriptor.__get__» descrGet
  rw [dga_ref]
  refine wpAny_bind (wpAny_pure ?_)
  unfold descrGetter descrCheckInstance descrNameAndClass isInstance
  simp only [ktyn_owner]
  repeat lk
  refine ⟨Code.quiet_builtin _ (by decide +kernel), codeAny_builtin ktyn_entry ?_⟩
  unfold Builtin.«type.__name__» Builtin.keptObject
  dsimp only
  unfold slotAt
  refine wpAny_bind (wpAny_bind (wpAny_loadPart hC ?_))
  rw [hs]
  refine wpAny_pure ?_
  exact wpAny_pure (h t)
end
end K5
namespace L2
open PySem PySem.Spec PyProof.Rows
/-- what of the text a class must have, for o.__class__.__name__ -/
structure ClsNm (K : PySem.W.Frag) (C : Addr) (nm : Str) : Prop where
  pg : PySem.W.plainGet K C "__class__" = true
  hd : PySem.W.hasDictIn K C = true
  fi : PySem.W.findIn K (.ref C) "__class__" = some (some (.builtin "object.__class__"))
  sp : PySem.W.specialIn K (.builtin "object.__class__") "__get__" = some (some (.builtin "getset_descriptor.__get__"))
  tk : PySem.W.takesIn K (.builtin "object.__class__") = some true
  mro : PySem.W.mroIn K C (.type "object") = some true
  rd : PySem.W.readsIn K C (.type "type") = true
  fn : PySem.W.findCls K (.ref C) (.type "type") "__name__" = some (.get (.builtin "getset_descriptor.__get__") (.builtin "type.__name__") (.ref C) (.type "type"))
  ty : PySem.W.typeIn K (.ref C) = some (.type "type")
  nm : K5.KeptName K C nm
section
variable {X : Cx} {pins : List (Addr × Obj)} {σ : L2.St} {H : Hp} {s : Shared} {a C dx : Addr} {fs : List (Str × V)} {nm : Str} {A : Around} {E : Value → Shared → Prop}
theorem getclass_ok {b : Bool} {Q : Value → Shared → Prop} (I : Inv X pins σ H s) (e : H a = some (.ins C dx fs)) (k : ClsNm X.K C nm)
    (h : ∀ s', Inv X pins σ H s' → Q (.ref C) s') : wpAny (model X.prog X.w) A (getAttr (.ref a) "__class__" b) Q E s := by
  obtain ⟨mA, O, r, _, _, _⟩ := ins_get I.hok e
  have hf : ∀ od, PySem.W.findObj X.K C (some od) "__class__" = some (.bind (.builtin "getset_descriptor.__get__") (.builtin "object.__class__")) := fun od =>
    PySem.W.findObj_data (by obtain ⟨cd, hc, _⟩ := PySem.W.any_some k.hd; rw [hc]; rfl) k.fi k.sp k.tk
  obtain ⟨od, J, hl⟩ := O.look
  refine PySem.W.get_bind I.kIn J (PySem.W.plainGet_of k.pg).1 (hf od) (PySem.W.plainGet_of k.pg).2 ?_
  exact wpAny_call (PySem.W.class_get (s := { s with toks := s.toks + 1 }) I.kIn J k.mro (PySem.W.handed_on rfl (h _ (I.tok _))))
theorem getname_ok {b : Bool} {Q : Value → Shared → Prop} (I : Inv X pins σ H s) (k : ClsNm X.K C nm)
    (h : ∀ s' t, Inv X pins σ H s' → Q (.str nm t) s') : wpAny (model X.prog X.w) A (getAttr (.ref C) "__name__" b) Q E s :=
  PySem.W.cls_bind I.kIn k.rd k.fn (wpAny_call (K5.name_get (s := { s with toks := s.toks + 1 }) I.kIn k.ty k.nm fun t => PySem.W.handed_on rfl (h _ t (I.tok _))))
/-- e.__class__.__name__ -/
def tClsNm (K : PySem.W.Frag) (ta : TE) : TE := fun σ H Q => ta σ H fun x H1 => ∃ a C dx fs nm, x = .ref a ∧ H1 a = some (.ins C dx fs) ∧ ClsNm K C nm ∧ Q (.str nm) H1
theorem pe_clsnm {e : Expr} {pos pos' : Pos} {ta : TE} (he : PE X e ta) (hb : attributeBase e "__class__" X.env (eval e X.env) = eval e X.env)
    (hb2 : attributeBase (.Attribute e "__class__" pos') "__name__" X.env (eval (.Attribute e "__class__" pos') X.env) = eval (.Attribute e "__class__" pos') X.env) :
    PE X (.Attribute (.Attribute e "__class__" pos') "__name__" pos) (tClsNm X.K ta) := by
  refine ⟨fun pins s σ H Q I h => ?_⟩
  refine attr_of hb2 (attr_of hb (thn (he.run pins s σ H _ I h) fun u s1 ⟨x, H1, I1, rx, a, C, dx, fs, nm, ex, ea, k, q⟩ => ?_))
  subst ex
  obtain rfl : u = Value.ref a := rx
  exact getclass_ok I1 ea k fun s2 I2 => getname_ok I2 k fun s3 t I3 => ⟨.str nm, H1, I3, ⟨t, rfl⟩, q⟩
end
end L2
namespace K5
open PySem PySem.Spec PySem.W PySem.Calls PyProof.Rows Builtin Builtin.ObjectAttr
theorem slot_obj_ne : Slot "object" "__ne__" "object.__ne__" :=
  Slot.of (owner := "object") (n := "__ne__") (by rw [typeLookup_type, builtinLookup_eq_fast]; kernel_rfl) (by decide +kernel) (by decide +kernel) (by decide +kernel) (.inl (by rw [find?_eq_fast]; decide +kernel)) (by rw [isSubtype_type]; kernel_rfl)
section
variable {prog : Program} {w : World} {A : Around} {E : Value → Shared → Prop} {s : Shared} {K : Frag} {x C f : Addr} {ox : Obj} {od : Option Obj} {b tb : Value}
theorem ifBound_slot {M : Model} {name : Str} {id : String} {args : List Value} {Q : Option Value → Shared → Prop} (X : K.In s.heap) (I : InstAt s.heap x ox C od) (hs : findIn K (.ref C) name = some (some (.builtin id))) (hb : ∀ self, bindSpecial (.builtin id) self = pure (.builtin id, [self]))
    (h : wpAny M A (call (.builtin id) (.ref x :: args)) (fun v => Q (some v)) E s) : wpAny M A (callSpecialIfBound? (.ref x) name args) Q E s := by
  simp only [callSpecialIfBound?, bindSpecialIfBound?]
  refine wpAny_holding (wpAny_bind (wpAny_bind (wpAny_bind (I.type.here ((looks_findIn X hs).here ?_)))))
  refine wpAny_bind (wpAny_askSetting (wpAny_ite ?_))
  have fin : wpAny M A (call (.builtin id) ([.ref x] ++ args) >>= fun v => pure (some v)) Q E s := wpAny_bind (wpAny_mono h (fun v s' h' => wpAny_pure h') fun _ _ h' => h')
  rw [hb]
  split
  · exact wpAny_bind (wpAny_pure (wpAny_pure (by exact fin)))
  · exact wpAny_tryCatch (wpAny_bind (wpAny_pure (wpAny_pure (by exact fin))))
theorem ne_entry (X : K.In s.heap) (I : InstAt s.heap x ox C od) (hu : A.units < cLine) (he : findIn K (.ref C) "__eq__" = some (some (.ref f))) (hf : isFn K (.ref f) = true) {Q : Fin → Shared → Prop}
    (h : wpAny (model prog w) A (call (.ref f) [.ref x, b]) (fun v s' => ∃ c, v = .bool c ∧ Q (.done (.ret (.bool (!c)))) s') E s) :
    wpAny (model prog w) A (Builtin.«object.__ne__» ⟨[.ref x, b], []⟩) Q E s := by
  unfold Builtin.«object.__ne__»
  refine wpAny_bind (m := slotArgs _ _ _) (wpAny_pure ?_)
  dsimp only
  refine wpAny_bind (wpAny_cRoomFor hu ?_)
  refine wpAny_bind (ifBound_K X I he hf (wpAny_mono h (fun v s' hv => ?_) fun _ _ e => e))
  obtain ⟨c, rfl, hq⟩ := hv
  refine wpAny_bind (m := truthy (.bool c)) (wpAny_truthy_bool ?_)
  exact wpAny_pure hq
theorem ne_K (hu : A.units + 1 < cLine) (X : K.In s.heap) (I : InstAt s.heap x ox C od) (hb : Looks (model prog w) s.heap (typeOf b) tb) (hn : notFirst K C tb = true)
    (hs : findIn K (.ref C) "__ne__" = some (some (.builtin "object.__ne__"))) (he : findIn K (.ref C) "__eq__" = some (some (.ref f))) (hf : isFn K (.ref f) = true) (hm : mroIn K C (.type "object") = some true) {Q : Value → Shared → Prop}
    (h : wpAny (model prog w) A.in1 (call (.ref f) [.ref x, b]) (fun v s' => ∃ c, v = .bool c ∧ Q (.bool (!c)) s') E s) : wpAny (model prog w) A (richCompare .NotEq (.ref x) b) Q E s := by
  have one : wpAny (model prog w) A (tryCompare (.ref x) (cmpInfo .NotEq).2.1 b) (fun r s' => ∃ v, r = some v ∧ Q v s') E s := by
    unfold tryCompare
    refine wpAny_bind (ifBound_slot X I hs slot_obj_ne.bind (wpAny_call (codeAny_call_builtin slot_obj_ne.plain F.cmpEntry_ne
      (check_slot (M := model prog w) F.cmpKind_ne F.cmpSplit_ne (I.type.andThen (looks_mroIn X hm)) (F.cmpArgs_ne _ _) (ne_entry (A := A.in1) X I hu he hf (wpAny_mono h (fun v s' hv => ?_) fun _ _ e => e))))))
    obtain ⟨c, rfl, hq⟩ := hv
    exact ⟨c, rfl, wpAny_pure ⟨_, rfl, hq⟩⟩
  unfold richCompare
  simp only [oneThing_ref]
  refine wpAny_holding (wpAny_bind (wpAny_cRoomFor (Nat.lt_of_succ_lt hu) ?_))
  refine wpAny_bind (I.type.here (wpAny_bind (hb.here ?_)))
  split
  · rename_i q
    have e : subIn K tb (.ref C) = some false := by
      rcases Bool.or_eq_true_iff.mp hn with e | e
      · rw [beq_iff_eq.mp e] at q; simp at q
      · exact beq_iff_eq.mp e
    refine wpAny_bind ((looks_subIn X e).here ?_)
    simp only [Bool.false_eq_true, if_false]
    refine wpAny_bind (wpAny_mono one (fun r s' z => ?_) fun _ _ e => e)
    obtain ⟨v, rfl, hq⟩ := z
    exact wpAny_pure hq
  · refine wpAny_bind (wpAny_pure ?_)
    simp only [Bool.false_eq_true, if_false]
    refine wpAny_bind (wpAny_mono one (fun r s' z => ?_) fun _ _ e => e)
    obtain ⟨v, rfl, hq⟩ := z
    exact wpAny_pure hq
end
end K5
namespace L2
open PySem PySem.Spec PyProof.Rows
section
variable {X : Cx} {CX : CXT} {n : Nat} {C f : Addr} {fd : FuncData} {ps : List Str} {sp : Sp} {pins : List (Addr × Obj)} {σ : L2.St} {H : Hp} {s : Shared} {A : Around} {a b : Addr} {Q : VK}
/-- a def called on two objects by the machine, where the frames are X's -/
theorem call_two (F : FnOk X.prog X.w X.K X.mg X.base CX n f fd ps sp) (hb : Binds X.K fd ps []) (hx : Passes CX X E0) (sb : Sub X n A) (I : Inv X pins σ H s) (hsp : sp [.ref a, .ref b] H Q E0) :
    wpAny (model X.prog X.w) A (call (.ref f) [.ref a, .ref b]) (EP X pins σ Q) X.xe s := by
  have e0 : Env0 X.prog X.w X.K X.mg X.base A X.stack s H := by
    have e := I.env0
    exact ⟨by rw [sb.fr]; exact e.frames, e.mod, e.bs, e.bsz, e.funs, e.frf, e.hok, e.bare⟩
  have hl := F.len _ _ _ _ hsp
  have r2 : Vals [V.ref a, V.ref b] [Value.ref a, Value.ref b] := .cons rfl (.cons rfl .nil)
  refine wpAny_call (codeAny_mono (F.run A X.stack s H ⟨[.ref a, .ref b], []⟩ [.ref a, .ref b] [.ref a, .ref b] _ E0 sb.room e0 (by
    have := hb s [.ref a, .ref b] I.kIn (by simpa using hl)
    simpa using this) r2 hsp) fun r s' hq => ?_)
  cases r with
  | error e => exact hx pins σ H s e s' I hq
  | ok fl =>
    cases fl with
    | ret w =>
      obtain ⟨z, H', I', rz, q⟩ := I.after hq
      exact ⟨z, H', I', rz, q⟩
    | next => exact False.elim hq
    | brk => exact False.elim hq
    | cont => exact False.elim hq
/-- a == b where a's class has its own __eq__ (sp: what it promises) -/
def rEqO (C : Addr) (sp : Sp) (neg : Bool) : R2 := fun x y H Q => ∃ a b dx dy fs gs, x = .ref a ∧ y = .ref b ∧ H a = some (.ins C dx fs) ∧ H b = some (.ins C dy gs) ∧ sp [.ref a, .ref b] H (fun v H' => ∃ c, v = .bl c ∧ Q (.bl (neg ^^ c)) H') E0
theorem op_neO (F : FnOk X.prog X.w X.K X.mg X.base CX n f fd ps sp) (hn : PySem.W.findIn X.K (.ref C) "__ne__" = some (some (.builtin "object.__ne__"))) (hs : PySem.W.findIn X.K (.ref C) "__eq__" = some (some (.ref f))) (hf : PySem.W.isFn X.K (.ref f) = true)
    (hm : PySem.W.mroIn X.K C (.type "object") = some true) (hb : Binds X.K fd ps []) (hx : Passes CX X E0) (hr : Room (n + 1) X.A) : OpR X (compareOp .NotEq) (rEqO C sp true) := by
  intro pins s σ H x y v u Q I rx ry h
  obtain ⟨a, b, dx, dy, fs, gs, rfl, rfl, ha, hb', hsp⟩ := h
  cases rx
  cases ry
  obtain ⟨mA, J, _⟩ := ins_get I.hok ha
  obtain ⟨mB, J', _⟩ := ins_get I.hok hb'
  obtain ⟨od, J, _⟩ := J.look
  obtain ⟨od', J', _⟩ := J'.look
  show wpAny (model X.prog X.w) X.A (richCompare .NotEq (.ref a) (.ref b)) (EP X pins σ Q) X.xe s
  refine K5.ne_K (C := C) (tb := .ref C) (by have := hr.units0; have := hr.units; omega) I.kIn J J'.type (by simp [PySem.W.notFirst]) hn hs hf hm ?_
  refine wpAny_mono (call_two (A := X.A.in1) F hb hx (Sub.in1 ⟨hr, rfl⟩) I hsp) (fun v s' z => ?_) fun _ _ z => z
  obtain ⟨w, H', I', rw', c, rfl, q⟩ := z
  obtain rfl : v = Value.bool c := rw'
  exact ⟨c, rfl, .bl (!c), H', I', rfl, by rw [Bool.true_xor] at q; exact q⟩
end
end L2
namespace L2
open PySem PySem.Spec PyProof.Rows
section
variable {X : Cx} {CX : CXT} {n : Nat} {C f : Addr} {fd : FuncData} {ps : List Str} {sp : Sp} {pins : List (Addr × Obj)} {σ : L2.St} {H : Hp} {s : Shared} {A : Around} {a b : Addr} {Q : VK}
theorem call_one (F : FnOk X.prog X.w X.K X.mg X.base CX n f fd ps sp) (hb : Binds X.K fd ps []) (hx : Passes CX X E0) (sb : Sub X n A) (I : Inv X pins σ H s) (hsp : sp [.ref a] H Q E0) :
    wpAny (model X.prog X.w) A (call (.ref f) [.ref a]) (EP X pins σ Q) X.xe s := by
  have e0 : Env0 X.prog X.w X.K X.mg X.base A X.stack s H := by
    have e := I.env0
    exact ⟨by rw [sb.fr]; exact e.frames, e.mod, e.bs, e.bsz, e.funs, e.frf, e.hok, e.bare⟩
  have hl := F.len _ _ _ _ hsp
  have r2 : Vals [V.ref a] [Value.ref a] := .cons rfl .nil
  refine wpAny_call (codeAny_mono (F.run A X.stack s H ⟨[.ref a], []⟩ [.ref a] [.ref a] _ E0 sb.room e0 (by
    have := hb s [.ref a] I.kIn (by simpa using hl)
    simpa using this) r2 hsp) fun r s' hq => ?_)
  cases r with
  | error e => exact hx pins σ H s e s' I hq
  | ok fl =>
    cases fl with
    | ret w =>
      obtain ⟨z, H', I', rz, q⟩ := I.after hq
      exact ⟨z, H', I', rz, q⟩
    | next => exact False.elim hq
    | brk => exact False.elim hq
    | cont => exact False.elim hq
def rTruO (C : Addr) (sp : Sp) : V → Hp → (Bool → Hp → Prop) → Prop := fun x H Q => ∃ a dx fs, x = .ref a ∧ H a = some (.ins C dx fs) ∧ sp [.ref a] H (fun v H' => ∃ c, v = .bl c ∧ Q c H') E0
theorem tru_own (F : FnOk X.prog X.w X.K X.mg X.base CX n f fd ps sp) (hs : PySem.W.findIn X.K (.ref C) "__bool__" = some (some (.ref f))) (hf : PySem.W.isFn X.K (.ref f) = true) (hb : Binds X.K fd ps []) (hx : Passes CX X E0) (hr : Room n X.A) :
    TruR X (rTruO C sp) := by
  intro pins s σ H x v Q I rx h
  obtain ⟨a, dx, fs, rfl, ha, hsp⟩ := h
  cases rx
  obtain ⟨mA, J, _⟩ := ins_get I.hok ha
  obtain ⟨od, J, _⟩ := J.look
  obtain ⟨m, hF⟩ := I.fr
  refine PySem.W.truthy_K hF I.ok.mod.kin J hs hf ?_
  refine wpAny_mono (call_one F hb hx ⟨hr, rfl⟩ I hsp) (fun v s' z => ?_) fun _ _ z => z
  obtain ⟨w, H', I', rw', c, rfl, q⟩ := z
  obtain rfl : v = Value.bool c := rw'
  exact ⟨H', I', q⟩
end
end L2
namespace K0
open PySem PySem.Spec PyProof.Rows L2
open PySem.W (any_some)
end K0
namespace PySem
namespace K0X
open PySem.W PySem.Calls PyProof.Rows PySem.HandSPX
section
variable {prog : Program} {w : World} {A : Around} {E : Value → Shared → Prop} {R : Result → Shared → Prop} {h : Heap} {g : Array GenState} {d : Drawn} {t : Nat} {os : OsState}
variable {nm q : Str} {C N : Addr} {bs bm bmB : List Value} {hdct : Bool} {sn : List Str} {sub : List Value} {ab : Bool} {col : Option Bool} {dd : Option Addr}
variable {k0 k1 k2 k3 k5 : Option Value} {B newId initId : String} {kw : List (Str × Value)}
theorem check_new_kw (F : ExcBaseFacts B newId initId bmB) (hT : ∀ X : String, bm.contains (.type X) = bmB.contains (.type X)) {Q : Unit → Shared → Prop}
    (hC : h.get? C = some (excClassObj nm q C N bs bm hdct sn sub ab col dd k0 k1 k2 k3 k5 newId)) (hq : Q () ⟨h, g, d, t, os⟩) :
    wpAny (model prog w) A (checkBuiltinCall newId ⟨[.ref C], kw⟩) Q E ⟨h, g, d, t, os⟩ := by
  have hcont : (Value.ref C :: bm).contains (.type B) = true := by rw [List.contains_cons, hT, F.hasB, Bool.or_true]
  have hstar := F.noStar
  simp only [checkBuiltinCall, F.newKind, F.newSplit, F.newRow]
  repeat (first | refine wpAny_loadPart_at hC ?_ | (refine wpAny_isSubtype_exc hC ?_; rw [hcont]) | refine wpAny_staticBase_exc hC ?_ |
    refine wpAny_madeBy_exc hC ?_ | simp only [bne_self_eq_false, Bool.false_eq_true, if_false] | wp_step)
  exact hq
theorem new_kw (F : ExcBaseFacts B newId initId bmB) (hT : ∀ X : String, bm.contains (.type X) = bmB.contains (.type X))
    (hC : h.get? C = some (excClassObj nm q C N bs bm hdct sn sub ab col dd k0 k1 k2 k3 k5 newId))
    (hq : R (.ok (.ret (.ref (h.objs.size + 1)))) ⟨(h.push (kdv_tup [])).push (excO C h.objs.size), g, d, t, os⟩) :
    codeAny (model prog w) A (.builtin newId ⟨[.ref C], kw⟩) R ⟨h, g, d, t, os⟩ := by
  have hends := F.ends
  have hcB : (Value.ref C :: bm).contains (.type B) = true := by rw [List.contains_cons, hT, F.hasB, Bool.or_true]
  have hcA : (Value.ref C :: bm).contains (.type "AttributeError") = false := by rw [List.contains_cons, hT, F.noAttr]; rfl
  have hcN : (Value.ref C :: bm).contains (.type "NameError") = false := by rw [List.contains_cons, hT, F.noName]; rfl
  refine codeAny_builtinAt F.entry ?_
  unfold Builtin.«BaseException.__new__»
  refine wpAt_bind ?_
  show wpAt _ _ _ (stack >>= _) _ _ _
  refine wpAt_bind (wpAt_stack fun p below => wpAt_of_wpAny ?_)
  wp_walk
  refine wpAt_of_wpAny ?_
  rw [F.owner]
  repeat (first | with_reducible refine wpAny_madeHere_exc F.canon hC ?_ | with_reducible refine wpAny_loadPart_at hC ?_ |
    (with_reducible refine wpAny_isSubtype_exc hC ?_; first | rw [hcB] | rw [hcA] | rw [hcN]) | wp_step)
  show R _ _
  rw [Heap.size_push]
  exact hq
theorem type_call_kw (F : ExcBaseFacts B newId initId bmB) (hT : ∀ X : String, bm.contains (.type X) = bmB.contains (.type X)) {fI : Addr} {Q : Fin → Shared → Prop}
    (hC : h.get? C = some (excClassObj nm q C N bs bm hdct sn sub ab col dd k0 k1 k2 k3 k5 newId))
    (hi : Looks (model prog w) h (typeLookup (.ref C) "__init__") (some (.ref fI))) (hb : ∀ self, Looks (model prog w) h (bindSpecial (.ref fI) self) (.ref fI, [self]))
    (hq : codeAny (model prog w) A (.call (.ref fI) ⟨[.ref (h.objs.size + 1)], kw⟩)
      (fun r s' => match r with | .ok (.ret v) => v = .none ∧ Q (.done (.ret (.ref (h.objs.size + 1)))) s' | .ok _ => False | .error e => E e s')
      ⟨(h.push (kdv_tup [])).push (excO C h.objs.size), g, d, t, os⟩) :
    wpAny (model prog w) A (Builtin.«type.__call__» ⟨[.ref C], kw⟩) Q E ⟨h, g, d, t, os⟩ := by
  repeat (first | with_reducible refine wpAny_loadPart_at hC ?_ | with_reducible refine wpAny_madeBy_exc hC ?_ | wp_step)
  refine codeAny_call_builtin_code (Code.quiet_builtin _ F.quiet) (check_new_kw F hT hC ?_)
  refine new_kw F hT hC ?_
  show wpAny _ _ _ _ _ _
  have k : ∀ b o, h.get? b = some o → ((h.push (kdv_tup [])).push (excO C h.objs.size)).get? b = some o := fun b o e => Heap.get?_push_of_some _ (Heap.get?_push_of_some _ e)
  have hC' := k _ _ hC
  have hget : ((h.push (kdv_tup [])).push (excO C h.objs.size)).get? (h.objs.size + 1) = some (excO C h.objs.size) := by heap_get
  have hcC : (Value.ref C :: bm).contains (.ref C) = true := by simp
  have i1 := hi.keeps k
  have b1 := (hb (.ref (h.objs.size + 1))).keeps k
  unfold isInstance
  repeat (first | with_reducible refine wpAny_loadPart_at hget ?_ | (with_reducible refine wpAny_isSubtype_exc hC' ?_; rw [hcC]) | wp_step)
  show wpAny _ _ (typeLookup (.ref C) _) _ _ _
  refine i1.at ?_
  refine wpAny_holding (wpAny_bind (b1.at ?_))
  refine wpAny_bind (wpAny_call (codeAny_mono hq fun r s' z => ?_))
  rcases r with e | (v | _ | _ | _) <;> first | exact z | exact z.elim | skip
  obtain ⟨rfl, z⟩ := z
  first
    | exact wpAny_pure (wpAny_pure z)
    | (wp_walk; exact z)
theorem call_kw (F : ExcBaseFacts B newId initId bmB) (hT : ∀ X : String, bm.contains (.type X) = bmB.contains (.type X)) {fI : Addr}
    (hC : h.get? C = some (excClassObj nm q C N bs bm hdct sn sub ab col dd k0 k1 k2 k3 k5 newId))
    (hi : Looks (model prog w) h (typeLookup (.ref C) "__init__") (some (.ref fI))) (hb : ∀ self, Looks (model prog w) h (bindSpecial (.ref fI) self) (.ref fI, [self]))
    (hq : codeAny (model prog w) (A.under (.builtin "type.__call__" ⟨[.ref C], kw⟩)) (.call (.ref fI) ⟨[.ref (h.objs.size + 1)], kw⟩) (InitBack (h.objs.size + 1) R)
      ⟨(h.push (kdv_tup [])).push (excO C h.objs.size), g, d, t, os⟩) :
    codeAny (model prog w) A (.call (.ref C) ⟨[], kw⟩) R ⟨h, g, d, t, os⟩ := by
  have f1 := tc_lookup
  have f2 := tc_bind (.ref C)
  have hTy : (⟨h, g, d, t, os⟩ : Shared).TypeIs (.ref C) "type" := ⟨_, hC, rfl⟩
  refine codeAny_of_tree ?_
  show wpAny _ _ (callAny (.ref C) _) _ _ _
  repeat (any_goals (first | assumption | with_reducible refine wpAny_loadPart_at hC ?_ | wp_step))
  refine ⟨rfl, ?_⟩
  refine codeAny_call_builtin_at (Code.quiet_builtin _ (by decide +kernel)) entry_typeCall (wpAny_check_type_call_sub hC (type_call_kw F hT hC hi hb ?_))
  refine codeAny_mono hq fun r s' z => ?_
  rcases r with e | (v | _ | _ | _) <;> exact z
end
end K0X
end PySem
namespace K0
open PySem PySem.Spec PyProof.Rows L2
/-- C(k = e, ..) as a value -/
def tMkK (C : Addr) (sp : Sp) (gV : List V → List V → List V) (n : Nat) (tk : TA) : TE := fun σ H Q => tk σ H fun zs H1 => zs.length = n ∧ ∀ a, H1 a = none →
  sp (gV [.ref a] zs) (upd H1 a (exo a C none)) (fun v H2 => v = .non ∧ Q (.ref a) H2) (fun _ _ _ => False)
section
variable {X : Cx} {tk : TA} {p pos : Pos} {kws : List Keyword} {g : List Value → List Value → List Value} {gV : List V → List V → List V}
theorem pe_mkK {CX : CXT} {x : Str} {C fI : Addr} {k : Nat} {fd : FuncData} {ps ks : List Str} {sp : Sp} (T : OexC X.K C)
    (iC : PySem.W.findIn X.K (.ref C) "__init__" = some (some (.ref fI))) (tI : PySem.W.typeIn X.K (.ref fI) = some (.type "function"))
    (F1 : FnOk X.prog X.w X.K X.mg X.base CX k fI fd ps sp) (hr : Room (k + 1) X.A) (hb : KBinds X.K fd ps ks g gV) (hx : Passes CX X (fun _ _ _ => False))
    (hg : Gl X x) (hm : X.mg x = some (.ref C)) (hkw : PK X kws tk)
    (hall : (backToKw pos (keywordEach kws X.env)).all (·.1.isSome) = true := by rfl) (hks : (backToKw pos (keywordEach kws X.env)).filterMap (·.1) = ks := by rfl)
    (hdb : (x == ("__debug__" : Str)) = false := by decide)
    (hpl : ((backTo pos (starEach [] X.env)).any (·.1) || (backToKw pos (keywordEach kws X.env)).any (·.1.isNone)) = false := by rfl) :
    PE X (.Call (.Name x p) [] kws pos) (tMkK C sp gV ks.length tk) := by
  refine ⟨fun pins s σ H Q I h => ?_⟩
  obtain ⟨nm, q, N, bs, bm, sn, sub, ab, col, dd, k0, k1, k2, k3, k5, hC, hbm⟩ := T.cls
  refine wpAny_Call_Name_kw (ld_glob I hg hm ?_ hdb)
  refine PySem.W.callWith_KW0 (h₀ := X.base) I.ok.mod.kin T.kC hall (thn (hkw.run pos pins s σ H _ I h) fun ws s1 ⟨zs, H1, I1, rz, hz, q1⟩ => ⟨I1.kIn, ?_⟩) hpl
  rw [hks]
  show wpAny _ _ (call (.ref C) [] (ks.zip ws)) _ _ _
  obtain ⟨hp, g', dr, tk, os⟩ := s1
  have hsz : hp.objs.size ≤ hp.objs.size + 1 := Nat.le_succ _
  have hn : H1 (hp.objs.size + 1) = none := I1.hok.fresh hsz
  have hq := q1 (hp.objs.size + 1) hn
  have keepAll : ∀ b o, hp.get? b = some o → ((hp.push (PySem.W.kdv_tup [])).push (PySem.HandSPX.excO C hp.objs.size)).get? b = some o :=
    fun b o e => Heap.get?_push_of_some _ (Heap.get?_push_of_some _ e)
  have hget : ((hp.push (PySem.W.kdv_tup [])).push (PySem.HandSPX.excO C hp.objs.size)).get? (hp.objs.size + 1) = some (PySem.HandSPX.excO C hp.objs.size) := by heap_get
  have I2 := I1.laid (t' := tk) (a := hp.objs.size + 1) (o := exo (hp.objs.size + 1) C none)
    (h' := (hp.push (PySem.W.kdv_tup [])).push (PySem.HandSPX.excO C hp.objs.size)) keepAll hsz (exo_ok hget)
  have r2 := hb.rel (.cons (show RelV (V.ref (hp.objs.size + 1)) (Value.ref (hp.objs.size + 1)) from rfl) .nil) rz
  have hl : (g [Value.ref (hp.objs.size + 1)] ws).length = ps.length := by
    rw [← r2.length]
    exact F1.len _ _ _ _ hq
  refine wpAny_call (PySem.K0X.call_kw F.excBase_ValueError (fun Y => PySem.HandSPX.refsVE_contains Y bm hbm) (I1.kIn _ _ hC)
    (PySem.W.looks_findIn I1.kIn iC) (fun self => PySem.W.bind_fn I1.kIn self tI)
    (codeAny_mono (F1.run _ X.stack _ _ ⟨[Value.ref (hp.objs.size + 1)], ks.zip ws⟩ (g [Value.ref (hp.objs.size + 1)] ws) _ _ (fun _ _ _ => False)
      (hr.make C [] (ks.zip ws)) (I2.env0.make C [] (ks.zip ws)) (hb.to _ [Value.ref (hp.objs.size + 1)] ws I2.kIn hl) r2 hq) fun r s' hq' => ?_))
  cases r with
  | error er => exact hx pins σ _ _ er s' I2 hq'
  | ok fl =>
    cases fl with
    | ret u =>
      obtain ⟨v, H2, os2, bare2, un2, hok2, rv, ev, q2⟩ := hq'
      subst ev
      refine ⟨rv, .ref (hp.objs.size + 1), H2, ?_, rfl, q2⟩
      exact I2.call' (ch := []) os2 un2 hok2 bare2 (fun b z => absurd z (by simp))
    | next => exact False.elim hq'
    | brk => exact False.elim hq'
    | cont => exact False.elim hq'
end
def kg1 {α : Type} : List α → List α → List α
  | [], [v] => [v]
  | _, _ => []
def kg2r {α : Type} : List α → List α → List α
  | [], [a, b] => [b, a]
  | _, _ => []
section
variable {vs zs : List V} {us ws : List Value}
theorem rel1 (r : Vals vs us) (rz : Vals zs ws) : Vals (kg1 vs zs) (kg1 us ws) := by
  cases r with
  | nil =>
    cases rz with
    | nil => exact .nil
    | cons a b =>
      cases b with
      | nil => exact .cons a .nil
      | cons c d => exact .nil
  | cons x y => exact .nil
theorem rel2r (r : Vals vs us) (rz : Vals zs ws) : Vals (kg2r vs zs) (kg2r us ws) := by
  cases r with
  | cons x y => exact .nil
  | nil =>
    cases rz with
    | nil => exact .nil
    | cons a b =>
      cases b with
      | nil => exact .nil
      | cons c d =>
        cases d with
        | nil => exact .cons c (.cons a .nil)
        | cons e f => exact .nil
end
section
variable {K : PySem.W.Frag} {x qual : Str} {st : Stmt} {f : Addr} {fd : FuncData} {p q r : Str}
abbrev fOf (x qual : Str) (st : Stmt) (kV doc pm : Value) (an : Option Addr) (cdv ct : Value) : FuncData := PySem.W.fnOf x qual (defArgs st) (defBody st) (defScope st) .none kV doc pm an cdv ct
theorem kb1 (F : Fun K x qual st f fd) (h : ∀ kV doc pm an cdv ct v, bindArgs (fOf x qual st kV doc pm an cdv ct) ⟨[], [(p, v)]⟩ = pure [(p, v)]) : KBinds K fd [p] [p] kg1 kg1 := by
  obtain ⟨oc, od, kV, doc, pm, an, cdv, ct, osl, rfl, lk, hcd⟩ := F.ex
  refine ⟨fun s us ws _ hl => ?_, rel1⟩
  match us, ws, hl with
  | [], [v], _ => exact .of_eq (h _ _ _ _ _ _ v)
theorem kb2r (F : Fun K x qual st f fd) (h : ∀ kV doc pm an cdv ct u v, bindArgs (fOf x qual st kV doc pm an cdv ct) ⟨[], [(q, u), (p, v)]⟩ = pure [(p, v), (q, u)]) : KBinds K fd [p, q] [q, p] kg2r kg2r := by
  obtain ⟨oc, od, kV, doc, pm, an, cdv, ct, osl, rfl, lk, hcd⟩ := F.ex
  refine ⟨fun s us ws _ hl => ?_, rel2r⟩
  match us, ws, hl with
  | [], [u, v], _ => exact .of_eq (h _ _ _ _ _ _ u v)
end
end K0
namespace K0
open PySem PySem.Spec PyProof.Rows L2
abbrev zfp (N : Nat) : List Addr := [N + 4, N + 2, N + 3, N, N + 1]
end K0
namespace K0
open PySem PySem.Spec PyProof.Rows L2
end K0
namespace K0
open PySem PySem.Spec PyProof.Rows L2
def Tx (l : List Nat) : Str := ⟨l.toArray⟩
theorem tx_list (l : List Nat) : (Tx l).cps.toList = l := by simp [Tx]
theorem tx_len (l : List Nat) : (Tx l).length = l.length := by show l.toArray.size = l.length; simp
theorem tx_of (z : Str) : Tx z.cps.toList = z := by
  obtain ⟨a⟩ := z
  simp [Tx]
theorem tx_inj {l k : List Nat} (h : Tx l = Tx k) : l = k := by
  have := congrArg (fun z : Str => z.cps.toList) h
  simpa [Tx] using this
theorem tx_one (c : Nat) : (⟨#[c]⟩ : Str) = Tx [c] := rfl
def isaz (c : Nat) : Bool := decide (97 ≤ c) && decide (c ≤ 122)
def is09 (c : Nat) : Bool := decide (48 ≤ c) && decide (c ≤ 57)
def lw (l : List Nat) : Bool := l.all isaz
/-- signs below 128, by trial -/
def signOk (c : Nat) : Bool :=
  (Unicode.isAlpha c == (isaz c || (decide (65 ≤ c) && decide (c ≤ 90)))) && (Unicode.isLower c == isaz c) && (Unicode.isUpper c == (decide (65 ≤ c) && decide (c ≤ 90))) && (Unicode.isTitle c == false) &&
  (Unicode.isAlnum c == (isaz c || is09 c || (decide (65 ≤ c) && decide (c ≤ 90))))
theorem signs_ok : ∀ c, c < 128 → signOk c = true := by
  have h : (List.range 128).all signOk = true := by decide +kernel
  intro c hc
  exact List.all_eq_true.mp h c (List.mem_range.mpr hc)
theorem sign_facts {c : Nat} (h : c < 128) : Unicode.isAlpha c = (isaz c || (decide (65 ≤ c) && decide (c ≤ 90))) ∧ Unicode.isLower c = isaz c ∧ Unicode.isUpper c = (decide (65 ≤ c) && decide (c ≤ 90)) ∧ Unicode.isTitle c = false ∧
    Unicode.isAlnum c = (isaz c || is09 c || (decide (65 ≤ c) && decide (c ≤ 90))) := by
  have q := signs_ok c h
  unfold signOk at q
  simp only [Bool.and_eq_true, beq_iff_eq] at q
  exact ⟨q.1.1.1.1, q.1.1.1.2, q.1.1.2, q.1.2, q.2⟩
theorem az_lt {c : Nat} (h : isaz c = true) : c < 128 := by
  unfold isaz at h
  simp only [Bool.and_eq_true, decide_eq_true_eq] at h
  omega
theorem all_arr (l : List Nat) (p : Nat → Bool) : (Tx l).cps.all p = l.all p := by simp [Tx]
theorem any_arr (l : List Nat) (p : Nat → Bool) : (Tx l).cps.any p = l.any p := by simp [Tx]
theorem lw_of {l : List Nat} (hl : l ≠ []) : lw l = (Txt.isascii (Tx l) && (Txt.isalpha (Tx l) && Txt.islower (Tx l))) := by
  unfold Txt.isascii Txt.isalpha Txt.islower lw
  rw [all_arr, all_arr, any_arr, any_arr, tx_len]
  have hp : decide (l.length > 0) = true := by
    cases l with
    | nil => exact absurd rfl hl
    | cons a r => simp
  rw [hp, Bool.true_and]
  by_cases h : l.all isaz = true
  · have h1 : ∀ c ∈ l, isaz c = true := List.all_eq_true.mp h
    rw [h]
    symm
    simp only [Bool.and_eq_true, List.all_eq_true, List.any_eq_true, Bool.not_eq_true', decide_eq_true_eq]
    refine ⟨fun c hc => az_lt (h1 c hc), fun c hc => ?_, ?_, ?_⟩
    · rw [(sign_facts (az_lt (h1 c hc))).1, h1 c hc, Bool.true_or]
    · obtain ⟨a, r, e⟩ : ∃ a r, l = a :: r := by
        cases l with
        | nil => exact absurd rfl hl
        | cons a r => exact ⟨a, r, rfl⟩
      have ha : a ∈ l := by rw [e]; exact List.mem_cons_self
      exact ⟨a, ha, by rw [(sign_facts (az_lt (h1 a ha))).2.1]; exact h1 a ha⟩
    · rw [List.any_eq_false]
      intro c hc
      rw [(sign_facts (az_lt (h1 c hc))).2.2.1, (sign_facts (az_lt (h1 c hc))).2.2.2.1]
      have := h1 c hc
      unfold isaz at this
      simp only [Bool.and_eq_true, decide_eq_true_eq] at this
      have e : decide (c ≤ 90) = false := decide_eq_false (by omega)
      rw [e]
      simp
  · have h0 : l.all isaz = false := by simpa using h
    rw [h0]
    symm
    rw [Bool.eq_false_iff]
    intro q
    apply h
    simp only [Bool.and_eq_true, List.all_eq_true, Bool.not_eq_true', decide_eq_true_eq] at q
    obtain ⟨q1, q2, q3, q4⟩ := q
    rw [List.any_eq_false] at q4
    refine List.all_eq_true.mpr fun c hc => ?_
    have k := sign_facts (q1 c hc)
    have a1 := q2 c hc
    have a2 := q4 c hc
    rw [k.1] at a1
    rw [k.2.2.1, k.2.2.2.1] at a2
    cases hz : isaz c with
    | true => rfl
    | false =>
      rw [hz, Bool.false_or] at a1
      rw [a1] at a2
      simp at a2
theorem Sm.new {H : Hp} {p : Addr} {o : HO} (h : H p = none) : Same H (upd H p o) := fun a u e => by
  rw [upd_ne (ne_of_none e h)]
  exact e
theorem Sm.put {H1 H : Hp} {p : Addr} {o : HO} (s : Same H1 H) (h : H1 p = none) : Same H1 (upd H p o) := fun a u e => by
  rw [upd_ne (ne_of_none e h)]
  exact s a u e
theorem tyx_same {K : PySem.W.Frag} {H H' : Hp} {v : V} {t : Value} (s : Same H H') (h : TyX K H v t) : TyX K H' v t := by
  cases h with
  | base b =>
    refine .base ?_
    cases b with
    | non => exact .non
    | bl x => exact .bl x
    | int i => exact .int i
    | str x => exact .str x
    | flt x => exact .flt x
    | lst e => exact .lst (s _ _ e)
    | frz e => exact .frz (s _ _ e)
    | tup e => exact .tup (s _ _ e)
    | dK e => exact .dK (s _ _ e)
    | dT e => exact .dT (s _ _ e)
    | ins e a b c d f => exact .ins (s _ _ e) a b c d f
  | byt b => exact .byt b
  | set e => exact .set (s _ _ e)
  | kList e c => exact .kList e c
  | kTuple e c => exact .kTuple e c
  | kDict e c => exact .kDict e c
  | fTuple e => exact .fTuple (s _ _ e)
  | fDict e => exact .fDict (s _ _ e)
/-- a list that grows at D, all else of H1 as it was -/
def SPv (H1 : Hp) (D : Addr) (acc : Nat → List V) (i : Nat) (H : Hp) : Prop := Same H1 H ∧ H D = some (.lst (acc i))
theorem spv0 {H1 : Hp} {D : Addr} {acc : Nat → List V} (hD : H1 D = none) (h : acc 0 = []) : SPv H1 D acc 0 (upd H1 D (.lst [])) := ⟨Sm.new hD, by rw [upd_same, h]⟩
theorem spv_put {H1 H : Hp} {D : Addr} {acc : Nat → List V} {i : Nat} {y : V} (hD : H1 D = none) (p : Same H1 H) (q : H D = some (.lst (acc i))) (hl : (acc i).length < 100000) (e : acc (i + 1) = acc i ++ [y]) :
    ∃ a, H D = some (.lst a) ∧ a.length < sizeLine ∧ SPv H1 D acc (i + 1) (upd H D (.lst (a ++ [y]))) :=
  ⟨_, q, Nat.lt_of_lt_of_le hl (by decide), Sm.put p hD, by rw [upd_same, e]⟩
end K0
namespace K4
open PySem PySem.Spec PyProof.Rows L2
end K4
namespace K4
open PySem PySem.Spec PyProof.Rows L2 K0
def spInit1 (K : PySem.W.Frag) (f : Str) : Sp := fun vs H Q _ => ∃ (a C : Addr) (v : V), vs = [.ref a, v] ∧ OexC K C ∧ PySem.W.findIn K (.ref C) f = some none ∧ H a = some (exo a C none) ∧
  ∀ dx, H dx = none → dx ≠ a → Q .non (upd (upd H dx (exd dx [(f, v)])) a (exo a C (some dx)))
def spInit2 (K : PySem.W.Frag) (f g : Str) : Sp := fun vs H Q _ => ∃ (a C : Addr) (u v : V), vs = [.ref a, u, v] ∧ OexC K C ∧ PySem.W.findIn K (.ref C) f = some none ∧ PySem.W.findIn K (.ref C) g = some none ∧ H a = some (exo a C none) ∧
  ∀ dx, H dx = none → dx ≠ a → Q .non (upd (upd (upd H dx (exd dx [(f, u)])) a (exo a C (some dx))) dx (exd dx [(g, v), (f, u)]))
def tMA (t : TA) : TA := fun σ H Q => ∃ Φ : List V → Hp → Prop, t σ H Φ ∧ ∀ vs H1, Φ vs H1 → Q vs H1
theorem pa_mono {X : Cx} {es : List Expr} {t : TA} (h : PA X es t) : PA X es (tMA t) :=
  ⟨fun pos pins s σ H Q I ⟨Φ, h1, h2⟩ => thn (h.run pos pins s σ H Φ I h1) fun _ _ ⟨vs, H1, I1, r1, q1⟩ => ⟨vs, H1, I1, r1, h2 vs H1 q1⟩⟩
theorem PE.imp {X : Cx} {e : Expr} {t t' : TE} (h : PE X e t) (i : ∀ σ H Q, t' σ H Q → t σ H Q) : PE X e t' := ⟨fun pins s σ H Q I q => h.run pins s σ H Q I (i σ H Q q)⟩
theorem PS.imp {X : Cx} {st : Stmt} {t t' : TS} (h : PS X st t) (i : ∀ D σ H, t' D σ H → t D σ H) : PS X st t' := ⟨fun pins s σ H D I q => h.run pins s σ H D I (i D σ H q)⟩
/-- a class of errors with one field; with two -/
structure Rs1 (P : Program) (w : World) (K : PySem.W.Frag) (mg : Str → Option Value) (base : Heap) (x : Str) (C : Addr) (f : Str) : Prop where
  gl : mg x = some (.ref C)
  o : OexC K C
  no : PySem.W.findIn K (.ref C) f = some none
  ex : ∃ (fI : Addr) (fd : FuncData), PySem.W.findIn K (.ref C) "__init__" = some (some (.ref fI)) ∧ PySem.W.typeIn K (.ref fI) = some (.type "function") ∧ FnOk P w K mg base CX0 1 fI fd ["self", f] (spInit1 K f) ∧ Binds K fd ["self", f] []
structure Rs2 (P : Program) (w : World) (K : PySem.W.Frag) (mg : Str → Option Value) (base : Heap) (x : Str) (C : Addr) (f g : Str) : Prop where
  gl : mg x = some (.ref C)
  o : OexC K C
  no1 : PySem.W.findIn K (.ref C) f = some none
  no2 : PySem.W.findIn K (.ref C) g = some none
  ex : ∃ (fI : Addr) (fd : FuncData), PySem.W.findIn K (.ref C) "__init__" = some (some (.ref fI)) ∧ PySem.W.typeIn K (.ref fI) = some (.type "function") ∧ FnOk P w K mg base CX0 1 fI fd ["self", f, g] (spInit2 K f g) ∧ Binds K fd ["self", f, g] []
abbrev XW : Type := Value → Option Addr → Hp → Prop
def cR1 (C : Addr) (f : Str) (Wo : XW) : List V → Hp → Prop
  | [v], H1 => ∀ d H', Same H1 H' → H' d = some (.xd [(f, v)]) → Wo (.ref C) (some d) H'
  | _, _ => False
def cR2 (C : Addr) (f g : Str) (Wo : XW) : List V → Hp → Prop
  | [u, v], H1 => ∀ d H', Same H1 H' → H' d = some (.xd [(g, v), (f, u)]) → Wo (.ref C) (some d) H'
  | _, _ => False
section
variable {X : Cx} {x f g : Str} {C : Addr} {p pos pos' : Pos} {e e2 : Expr} {ta : TA} {W : WX}
theorem ps_raise1 (T : Rs1 X.prog X.w X.K X.mg X.base x C f) (hr : Room 2 X.A) (hg : Gl X x) (tk : Takes X W) (hc : X.calm = true) (ha : PA X [e] ta) (hdb : (x == ("__debug__" : Str)) = false := by decide)
    (he : starEach [e] X.env = (false, eval e X.env) :: starEach [] X.env := by rfl) (hpl : (backTo pos (starEach [] X.env)).any (·.1) = false := by rfl) :
    PS X (.Raise (some (.Call (.Name x p) [e] [] pos)) none pos') (fun _ σ H => ta σ H (cR1 C f fun cls d H' => W cls d σ H')) := by
  obtain ⟨fI, fd, iC, tI, G, b⟩ := T.ex
  refine PS.imp (ps_raise hc tk (pmk_oex T.o iC tI G hr b .nil (fun _ _ _ _ _ _ _ h => h.elim) hg T.gl (pa_mono ha) hdb he hpl)) fun D σ H h => ⟨_, h, fun vs H1 q => ?_⟩
  match vs, q with
  | [v], q =>
    refine ⟨by show 1 ≤ 1000; decide, fun a hn => ⟨a, C, v, rfl, T.o, T.no, upd_same, fun dx hd ne => ⟨rfl, dx, _, upd_same, (upd_ne ne).trans upd_same, ?_, ?_⟩⟩⟩
    · rwa [upd_ne ne] at hd
    · have hd' : H1 dx = none := by rwa [upd_ne ne] at hd
      refine q dx _ (fun c o z => ?_) upd_same
      have n1 := ne_of_none z hn
      have n2 := ne_of_none z hd'
      rw [upd_ne n2, del_ne n1, upd_ne n1, upd_ne n2, upd_ne n1]
      exact z
theorem ps_raise2 (T : Rs2 X.prog X.w X.K X.mg X.base x C f g) (hr : Room 2 X.A) (hg : Gl X x) (tk : Takes X W) (hc : X.calm = true) (ha : PA X [e, e2] ta) (hdb : (x == ("__debug__" : Str)) = false := by decide)
    (he : starEach [e, e2] X.env = (false, eval e X.env) :: starEach [e2] X.env := by rfl) (hpl : (backTo pos (starEach [e2] X.env)).any (·.1) = false := by rfl) :
    PS X (.Raise (some (.Call (.Name x p) [e, e2] [] pos)) none pos') (fun _ σ H => ta σ H (cR2 C f g fun cls d H' => W cls d σ H')) := by
  obtain ⟨fI, fd, iC, tI, G, b⟩ := T.ex
  refine PS.imp (ps_raise hc tk (pmk_oex T.o iC tI G hr b .nil (fun _ _ _ _ _ _ _ h => h.elim) hg T.gl (pa_mono ha) hdb he hpl)) fun D σ H h => ⟨_, h, fun vs H1 q => ?_⟩
  match vs, q with
  | [u, v], q =>
    refine ⟨by show 2 ≤ 1000; decide, fun a hn => ⟨a, C, u, v, rfl, T.o, T.no1, T.no2, upd_same, fun dx hd ne => ⟨rfl, dx, _, (upd_ne (Ne.symm ne)).trans upd_same, upd_same, ?_, ?_⟩⟩⟩
    · rwa [upd_ne ne] at hd
    · have hd' : H1 dx = none := by rwa [upd_ne ne] at hd
      refine q dx _ (fun c o z => ?_) upd_same
      have n1 := ne_of_none z hn
      have n2 := ne_of_none z hd'
      rw [upd_ne n2, del_ne n1, upd_ne n2, upd_ne n1, upd_ne n2, upd_ne n1]
      exact z
end
inductive Oops
  | word (z : Str)
  | stock (z : Str)
  | number (z : Str)
  | misfit (z : Str)
  | many (z : Str) (n : Int)
def Oops.no : Oops → Nat
  | .word _ => 0
  | .stock _ => 1
  | .number _ => 2
  | .misfit _ => 3
  | .many _ _ => 4
def Oops.fs : Oops → List (Str × V)
  | .word z => [("part", .str z)]
  | .stock z => [("part", .str z)]
  | .number z => [("part", .str z)]
  | .misfit z => [("part", .str z)]
  | .many z n => [("most", .int n), ("what", .str z)]
/-- an error of the kind o, known behind H -/
def Oop (cs : Nat → Addr) (o : Oops) (H : Hp) : XW := fun cls d H' => cls = .ref (cs o.no) ∧ ∃ dd, d = some dd ∧ Same H H' ∧ H' dd = some (.xd o.fs)
/-- whoever is told of errors is told of this one -/
def Rz (cs : Nat → Addr) (o : Oops) (H : Hp) (E : XW) : Prop := ∀ cls d H', Oop cs o H cls d H' → E cls d H'
theorem Rz.sm {cs : Nat → Addr} {o : Oops} {H H1 : Hp} {E : XW} (s : Same H H1) (h : Rz cs o H E) : Rz cs o H1 E := fun cls d H' ⟨e, dd, ed, s2, q⟩ => h cls d H' ⟨e, dd, ed, s.trans s2, q⟩
end K4
namespace K4
/-- the place of c in a stock -/
def ix : List Nat → Nat → Nat
  | [], _ => 0
  | a :: r, c => if a = c then 0 else ix r c + 1
end K4
namespace K4
open PySem PySem.Spec PyProof.Rows L2 K0
structure Blt (mg : Str → Option Value) : Prop where
  n_len : mg "len" = none
  n_isinstance : mg "isinstance" = none
  n_int : mg "int" = none
  n_bool : mg "bool" = none
  n_str : mg "str" = none
  n_list : mg "list" = none
  n_tuple : mg "tuple" = none
  n_all : mg "all" = none
  n_any : mg "any" = none
  n_zip : mg "zip" = none
  n_abs : mg "abs" = none
  n_range : mg "range" = none
  n_enumerate : mg "enumerate" = none
  n_sorted : mg "sorted" = none
/-- a def that raises nothing; one that may raise -/
structure Cal (P : Program) (w : World) (K : PySem.W.Frag) (mg : Str → Option Value) (base : Heap) (k : Nat) (x : Str) (st : Stmt) (ps : List Str) (sp : Sp) : Prop where
  ex : ∃ (f : Addr) (fd : FuncData), Fun K x x st f fd ∧ mg x = some (.ref f) ∧ Binds K fd ps [] ∧ FnOk P w K mg base CX0 k f fd ps sp
structure CalX (P : Program) (w : World) (K : PySem.W.Frag) (mg : Str → Option Value) (base : Heap) (k : Nat) (x : Str) (st : Stmt) (ps : List Str) (sp : Sp) : Prop where
  ex : ∃ (f : Addr) (fd : FuncData), Fun K x x st f fd ∧ mg x = some (.ref f) ∧ Binds K fd ps [] ∧ FnOk P w K mg base (L2.CX P w) k f fd ps sp
def EN : XK := fun _ _ _ => False
section
variable {X : Cx} {k k' : Nat} {x : Str} {st : Stmt} {ps ks : List Str} {sp : Sp} {p pos : Pos} {e : Expr} {es : List Expr} {t tk : TA} {kws : List Keyword} {g : List Value → List Value → List Value} {gV : List V → List V → List V} {E : XK}
/-- nothing is raised here -/
theorem px0 : Passes (L2.CX X.prog X.w) X EN := passes_call LamX.takes0 fun _ _ _ _ z => z
theorem pe_cl (C : Cal X.prog X.w X.K X.mg X.base k x st ps sp) (hr : Room k X.A) (hg : Gl X x) (ha : PA X (e :: es) t)
    (hdb : (x == ("__debug__" : Str)) = false := by decide) (he : starEach (e :: es) X.env = (false, eval e X.env) :: starEach es X.env := by rfl)
    (hpl : (backTo pos (starEach es X.env)).any (·.1) = false := by rfl) : PE X (.Call (.Name x p) (e :: es) [] pos) (tCall sp [] E0 t) := by
  obtain ⟨f, fd, F, hm, hb, G⟩ := C.ex
  exact pe_call G hr hg hm F.kp hb .nil pass0 ha hdb he hpl
theorem pe_clX (C : CalX X.prog X.w X.K X.mg X.base k x st ps sp) (hx : Passes (L2.CX X.prog X.w) X E) (hr : Room k X.A) (hg : Gl X x) (ha : PA X (e :: es) t)
    (hdb : (x == ("__debug__" : Str)) = false := by decide) (he : starEach (e :: es) X.env = (false, eval e X.env) :: starEach es X.env := by rfl)
    (hpl : (backTo pos (starEach es X.env)).any (·.1) = false := by rfl) : PE X (.Call (.Name x p) (e :: es) [] pos) (tCall sp [] E t) := by
  obtain ⟨f, fd, F, hm, hb, G⟩ := C.ex
  exact pe_call G hr hg hm F.kp hb .nil hx ha hdb he hpl
end
end K4
namespace K4
open PySem PySem.Spec PyProof.Rows L2 K0
def In2 (g1 : TG) (tt1 : TT) (te : TE) (σ2 : L2.St) (vs1 : List Nat) (D : Addr) (Nx : Hp → Prop) (J1 : It) (H4 : Hp) : Prop := ∃ W1 : Nat → Nat → Hp → Prop, (∃ m, W1 0 m H4) ∧ ∀ j k H, W1 j k H →
  (J1.stop j H ∧ Nx H) ∨ (J1.go j H ∧ ∃ Nx1 : Hp → Prop, (∀ H', Nx1 H' → ∃ k', k' < k ∧ W1 (j + 1) k' H') ∧ ∀ x H', J1.yld j H x H' → g1 x (wipe σ2 vs1) H' fun σ3 H5 => wipe σ3 vs1 = wipe σ2 vs1 ∧ tt1 σ3 H5 fun b H6 =>
    if b = true then te σ3 H6 fun y H7 => ∃ acc, H7 D = some (.lst acc) ∧ acc.length < sizeLine ∧ Nx1 (upd H7 D (.lst (acc ++ [y]))) else Nx1 H6)
section
variable {J : It} {n : Nat} {G : Hp → Prop} {Y : Nat → Hp → V → Hp → Prop}
theorem in2_it (w : Walk J n G Y) {g1 : TG} {tt1 : TT} {te : TE} {σ2 : L2.St} {vs1 : List Nat} {D : Addr} {Nx : Hp → Prop} {H4 : Hp} (Pv : Nat → Hp → Prop) (h0 : Pv 0 H4) (hG : ∀ i H, i ≤ n → Pv i H → G H)
    (hs : ∀ i x H H', i < n → Pv i H → Y i H x H' → g1 x (wipe σ2 vs1) H' fun σ3 H5 => wipe σ3 vs1 = wipe σ2 vs1 ∧ tt1 σ3 H5 fun b H6 =>
      if b = true then te σ3 H6 fun y H7 => ∃ acc, H7 D = some (.lst acc) ∧ acc.length < sizeLine ∧ Pv (i + 1) (upd H7 D (.lst (acc ++ [y]))) else Pv (i + 1) H6) (hd : ∀ H, Pv n H → Nx H) : In2 g1 tt1 te σ2 vs1 D Nx J H4 := by
  refine ⟨fun i m H => m = n - i ∧ i ≤ n ∧ Pv i H, ⟨n, by simp, Nat.zero_le _, h0⟩, ?_⟩
  rintro i m H ⟨rfl, hi, p⟩
  have q := hG i H hi p
  by_cases hlt : i < n
  · exact .inr ⟨w.goes i H hlt q, Pv (i + 1), fun H' p' => ⟨n - (i + 1), by omega, rfl, hlt, p'⟩, fun x H' y => hs i x H H' hlt p (w.yields i H x H' hlt q y)⟩
  · have e : i = n := by omega
    subst e
    exact .inl ⟨w.stops H q, hd H p⟩
theorem lc2_it (w : Walk J n G Y) {g g1 : TG} {tt tt1 : TT} {wi1 : TI} {te : TE} {vs vs1 : List Nat} {σ : L2.St} {H1 : Hp} {D : Addr} {Qd : Hp → Prop} (Pv : Nat → Hp → Prop) (h0 : Pv 0 (upd H1 D (.lst []))) (hG : ∀ i H, i ≤ n → Pv i H → G H)
    (hs : ∀ i x H H', i < n → Pv i H → Y i H x H' → g x (wipe σ vs) H' fun σ2 H2 => wipe σ2 vs = wipe σ vs ∧ tt σ2 H2 fun b H3 =>
      if b = true then wi1 σ2 H3 fun J1 H4 => In2 g1 tt1 te σ2 vs1 D (Pv (i + 1)) J1 H4 else Pv (i + 1) H3) (hd : ∀ H, Pv n H → Qd H) :
    ∃ W : Nat → Nat → Hp → Prop, (∃ m, W 0 m (upd H1 D (.lst []))) ∧ ∀ i m H, W i m H →
      (J.stop i H ∧ Qd H) ∨ (J.go i H ∧ ∃ Nx : Hp → Prop, (∀ H', Nx H' → ∃ m', m' < m ∧ W (i + 1) m' H') ∧ ∀ x H', J.yld i H x H' → g x (wipe σ vs) H' fun σ2 H2 => wipe σ2 vs = wipe σ vs ∧ tt σ2 H2 fun b H3 =>
        if b = true then wi1 σ2 H3 fun J1 H4 => In2 g1 tt1 te σ2 vs1 D Nx J1 H4 else Nx H3) := by
  refine ⟨fun i m H => m = n - i ∧ i ≤ n ∧ Pv i H, ⟨n, by simp, Nat.zero_le _, h0⟩, ?_⟩
  rintro i m H ⟨rfl, hi, p⟩
  have q := hG i H hi p
  by_cases hlt : i < n
  · exact .inr ⟨w.goes i H hlt q, Pv (i + 1), fun H' p' => ⟨n - (i + 1), by omega, rfl, hlt, p'⟩, fun x H' y => hs i x H H' hlt p (w.yields i H x H' hlt q y)⟩
  · have e : i = n := by omega
    subst e
    exact .inl ⟨w.stops H q, hd H p⟩
end
def tws (ws : List (List Nat)) : List V := ws.map fun w => V.str (Tx w)
theorem tws_len (ws : List (List Nat)) : (tws ws).length = ws.length := by simp [tws]
theorem tws_at {ws : List (List Nat)} {i : Nat} {v : V} (h : (tws ws)[i]? = some v) : ∃ w, ws[i]? = some w ∧ v = .str (Tx w) := by
  unfold tws at h
  rw [List.getElem?_map] at h
  cases e : ws[i]? with
  | none =>
    rw [e] at h
    cases h
  | some w =>
    rw [e] at h
    exact ⟨w, rfl, (Option.some.inj h).symm⟩
theorem tws_str (ws : List (List Nat)) : tws ws = (ws.map Tx).map V.str := by simp [tws]
/-- one longer -/
def ext (S : List Nat) (ws : List (List Nat)) : List (List Nat) := ws.flatMap fun w => S.map fun c => w ++ [c]
theorem small_line {n : Nat} (h : n ≤ 1000000) : n ≤ sizeLine := Nat.le_trans h (by decide)
theorem small_lt {n : Nat} (h : n ≤ 1000000) : n < sizeLine := Nat.lt_of_le_of_lt h (by decide)
end K4
namespace K4
open PySem PySem.Spec PyProof.Rows L2 K0
theorem nodup_lt {α : Type} {l : List α} {i j : Nat} {x : α} (h : l.Nodup) (hi : l[i]? = some x) (hj : l[j]? = some x) : i = j := by
  obtain ⟨a, e1⟩ := List.getElem?_eq_some_iff.mp hi
  obtain ⟨b, e2⟩ := List.getElem?_eq_some_iff.mp hj
  rcases Nat.lt_trichotomy i j with c | c | c
  · exact absurd (e1.trans e2.symm) (List.pairwise_iff_getElem.mp h i j a b c)
  · exact c
  · exact absurd (e2.trans e1.symm) (List.pairwise_iff_getElem.mp h j i b a c)
end K4
namespace K6
open PySem PySem.Spec PyProof.Rows L2 K0 K4
def top (i : Nat) : Stmt := PySem.Challenge.pw_foretongue_k31_the_fewest_languages_that.main.body.getD i (.Pass ⟨0, 0, 0, 0⟩)
/-- the built-in names that no def hides -/
structure Blt (mg : Str → Option Value) : Prop where
  n_len : mg "len" = none
  n_isinstance : mg "isinstance" = none
  n_int : mg "int" = none
  n_bool : mg "bool" = none
  n_str : mg "str" = none
  n_list : mg "list" = none
  n_tuple : mg "tuple" = none
  n_all : mg "all" = none
  n_any : mg "any" = none
  n_zip : mg "zip" = none
  n_abs : mg "abs" = none
  n_range : mg "range" = none
  n_enumerate : mg "enumerate" = none
  n_set : mg "set" = none
  n_min : mg "min" = none
  n_max : mg "max" = none
  n_sum : mg "sum" = none
  n_repr : mg "repr" = none
/-- v is a plain value of the type named n -/
def Kd (K : PySem.W.Frag) (H : Hp) (v : V) (n : String) : Prop := TyX K H v (.type n) ∧ n ∈ ["NoneType", "bool", "int", "str", "list", "tuple", "dict"]
theorem kd_kit {K : PySem.W.Frag} {n : String} (h : n ∈ ["NoneType", "bool", "int", "str", "list", "tuple", "dict"]) :
    PySem.W.kitOne K (.type n) (.type "int") = some (n == "int" || n == "bool") ∧ PySem.W.kitOne K (.type n) (.type "bool") = some (n == "bool") ∧
    PySem.W.kitOne K (.type n) (.type "str") = some (n == "str") ∧ PySem.W.kitOne K (.type n) (.type "list") = some (n == "list") ∧ PySem.W.kitOne K (.type n) (.type "tuple") = some (n == "tuple") := by
  simp only [List.mem_cons, List.not_mem_nil, or_false] at h
  rcases h with rfl | rfl | rfl | rfl | rfl | rfl | rfl <;> exact ⟨kit_ty (by decide +kernel), kit_ty (by decide +kernel), kit_ty (by decide +kernel), kit_ty (by decide +kernel), kit_ty (by decide +kernel)⟩
section
variable {P : Program} {w : World} {K : PySem.W.Frag} {mg : Str → Option Value} {base : Heap}
abbrev st_is_integer : Stmt := top 3
abbrev nm_is_integer : List Str := ["value"]
theorem sc_is_integer : FnScope nm_is_integer ["value"] (defScope st_is_integer) := ⟨rfl, rfl, rfl, by decide +kernel, rfl, by decide +kernel, by decide +kernel⟩
def spIsInteger (K : PySem.W.Frag) : Sp := fun vs H Q _ => ∃ (v : V) (n : String), vs = [v] ∧ Kd K H v n ∧ Q (.bl (n == "int")) H
theorem ok_is_integer {f : Addr} {fd : FuncData} (F : Fun K "is_integer" "is_integer" st_is_integer f fd) (T : Blt mg) : FnOk P w K mg base CX0 1 f fd ["value"] (spIsInteger K) := by
  refine F.ok sc_is_integer (fun vs H Q E h => ?_) (fun cdv A outer s H vs Q E hr h => ?_)
  · obtain ⟨v, n, rfl, _⟩ := h
    rfl
  · obtain ⟨v, n, rfl, ⟨ty, hn⟩, q⟩ := h
    obtain ⟨k1, k2, _⟩ := kd_kit (K := K) hn
    refine ⟨_, (pss_one (ps_ret (pe_and (pe_callB call_isi (by rfl) T.n_isinstance (by decide +kernel) (pa_cons (pv 0) (pa_cons (pe_bltn (v := .ty "int") (by rfl) T.n_int (by decide +kernel) rfl) pa_nil))) (pe_one (pe_not (pe_callB call_isi (by rfl) T.n_isinstance (by decide +kernel) (pa_cons (pv 0) (pa_cons (pe_bltn (v := .ty "bool") (by rfl) T.n_bool (by decide +kernel) rfl) pa_nil)))))))), ?_⟩
    refine ⟨_, rfl, v, _, _, _, _, rfl, .ty "int", ty, k1, _, rfl, ?_⟩
    by_cases c : (n == "int" || n == "bool") = true
    · rw [if_pos c]
      refine ⟨_, rfl, v, _, _, _, _, rfl, .ty "bool", ty, k2, _, rfl, ?_⟩
      have e : (!(n == "bool")) = (n == "int") := by
        simp only [List.mem_cons, List.not_mem_nil, or_false] at hn
        rcases hn with rfl | rfl | rfl | rfl | rfl | rfl | rfl <;> first | rfl | (revert c; decide)
      rw [e]
      exact q
    · rw [if_neg c]
      have e : (n == "int") = false := by
        simp only [List.mem_cons, List.not_mem_nil, or_false] at hn
        rcases hn with rfl | rfl | rfl | rfl | rfl | rfl | rfl <;> first | rfl | (revert c; decide)
      rw [e] at q
      exact q
theorem kd_int {H : Hp} {i : Int} : Kd K H (.int i) "int" := ⟨.base (.int i), by decide⟩
abbrev st_is_list : Stmt := top 5
abbrev nm_is_list : List Str := ["value"]
theorem sc_is_list : FnScope nm_is_list ["value"] (defScope st_is_list) := ⟨rfl, rfl, rfl, by decide +kernel, rfl, by decide +kernel, by decide +kernel⟩
def spIsList (K : PySem.W.Frag) : Sp := fun vs H Q _ => ∃ (v : V) (n : String), vs = [v] ∧ Kd K H v n ∧ ∀ H', Same H H' → Q (.bl (n == "list" || n == "tuple")) H'
theorem ok_is_list {f : Addr} {fd : FuncData} (F : Fun K "is_list" "is_list" st_is_list f fd) (T : Blt mg) : FnOk P w K mg base CX0 1 f fd ["value"] (spIsList K) := by
  refine F.ok sc_is_list (fun vs H Q E h => ?_) (fun cdv A outer s H vs Q E hr h => ?_)
  · obtain ⟨v, n, rfl, _⟩ := h
    rfl
  · obtain ⟨v, n, rfl, ⟨ty, hn⟩, q⟩ := h
    obtain ⟨_, _, _, k4, k5⟩ := kd_kit (K := K) hn
    refine ⟨_, (pss_one (ps_ret (pe_callB call_isiT (by rfl) T.n_isinstance (by decide +kernel) (pa_cons (pv 0) (pa_cons (pe_tup (pa_cons (pe_bltn (v := .ty "list") (by rfl) T.n_list (by decide +kernel) rfl) (pa_cons (pe_bltn (v := .ty "tuple") (by rfl) T.n_tuple (by decide +kernel) rfl) pa_nil))) pa_nil))))), ?_⟩
    refine ⟨_, rfl, (by show 2 ≤ sizeLine; decide), fun p hp => ?_⟩
    refine ⟨v, p, _, _, _, (n == "list" || n == "tuple"), rfl, upd_same, .cons (.ty "list") (.cons (.ty "tuple") .nil), tyx_same (Sm.new hp) ty, ?_, q _ (Sm.new hp)⟩
    refine kitAny_cons k4 (fun e => ?_) (fun e => by rw [e]; rfl)
    rw [e, Bool.false_or]
    exact kitAny_cons k5 (fun e2 => by rw [e2]; exact kitAny_nil) (fun e2 => e2)
abbrev st_is_long_word : Stmt := top 6
abbrev nm_is_long_word : List Str := ["value"]
theorem sc_is_long_word : FnScope nm_is_long_word ["value"] (defScope st_is_long_word) := ⟨rfl, rfl, rfl, by decide +kernel, rfl, by decide +kernel, by decide +kernel⟩
/-- a text by its signs, or a value of another kind -/
def Sov (K : PySem.W.Frag) (H : Hp) (v : V) (q : List Nat → Prop) (r : Prop) : Prop := (∃ l, v = .str (Tx l) ∧ l.length ≤ 10000 ∧ q l) ∨ (∃ n, Kd K H v n ∧ (n == "str") = false ∧ r)
def spIsLongWord (K : PySem.W.Frag) : Sp := fun vs H Q _ => ∃ v, vs = [v] ∧ Sov K H v (fun l => Q (.bl (lw l)) H) (Q (.bl false) H)
theorem ok_is_long_word {f : Addr} {fd : FuncData} (F : Fun K "is_long_word" "is_long_word" st_is_long_word f fd) (T : Blt mg) : FnOk P w K mg base CX0 1 f fd ["value"] (spIsLongWord K) := by
  refine F.ok sc_is_long_word (fun vs H Q E h => ?_) (fun cdv A outer s H vs Q E hr h => ?_)
  · obtain ⟨v, rfl, _⟩ := h
    rfl
  · refine ⟨_, (pss_cons (ps_if (pt_not (pt_val (pe_callB call_isi (by rfl) T.n_isinstance (by decide +kernel) (pa_cons (pv 0) (pa_cons (pe_bltn (v := .ty "str") (by rfl) T.n_str (by decide +kernel) rfl) pa_nil))))) (pss_one (ps_ret pe_bl)) pss_nil)
  (pss_one (ps_ret (pe_or (pe_cmpR op_eq (pv 0) pe_str (nomark _)) (pe_one (pe_and (pe_m0 PySem.F.slot_str_isascii PySem.F.type_str_isascii mt_isascii (pv 0)) (pe_and (pe_m0 PySem.F.slot_str_isalpha PySem.F.type_str_isalpha mt_isalpha (pv 0)) (pe_one (pe_m0 PySem.F.slot_str_islower PySem.F.type_str_islower mt_islower (pv 0)))))))))), ?_⟩
    obtain ⟨v, rfl, ⟨l, rfl, hl, q⟩ | ⟨n, ⟨ty, hn⟩, e, q⟩⟩ := h
    · refine ⟨_, rfl, _, _, _, _, _, rfl, .ty "str", .base (.str _), kit_ty (b := "str") (r := true) (by decide +kernel), _, rfl, ?_⟩
      refine iteF ?_
      refine ⟨_, rfl, rfl, _, rfl, ?_⟩
      by_cases c : l = []
      · subst c
        exact q
      · have e1 : decide (V.str (Tx l) = V.str (Str.ofString "")) = false := decide_eq_false fun z => c (tx_inj (V.str.inj z))
        refine (congrArg (fun b : Bool => if b = true then Q (V.bl true) H else _) e1).mpr ?_
        refine iteF ?_
        rw [lw_of c] at q
        refine ⟨_, rfl, ⟨_, rfl⟩, _, rfl, rfl, trivial, _, rfl, ?_⟩
        cases h1 : Txt.isascii (Tx l)
        · rw [h1] at q
          exact q
        · rw [h1] at q
          refine ⟨_, rfl, ⟨_, rfl⟩, _, rfl, rfl, trivial, _, rfl, ?_⟩
          cases h2 : Txt.isalpha (Tx l)
          · rw [h2] at q
            exact q
          · rw [h2] at q
            exact ⟨_, rfl, ⟨_, rfl⟩, _, rfl, rfl, trivial, q⟩
    · obtain ⟨_, _, k3, _, _⟩ := kd_kit (K := K) hn
      refine ⟨_, rfl, v, _, _, _, _, rfl, .ty "str", ty, k3, _, rfl, ?_⟩
      rw [e]
      exact q
end
theorem tx_size (l : List Nat) : (Tx l).cps.size = l.length := by simp [Tx]
def nmOk (l : List Nat) : Bool := (decide (1 ≤ l.length) && decide (l.length ≤ 12)) && (l.all fun c => isaz c || is09 c) && isaz (l.getD 0 0)
theorem lo1_eq {c : Nat} (h : c < 128) : (decide (lo1 c = c)) = !(decide (65 ≤ c) && decide (c ≤ 90)) := by
  unfold lo1
  by_cases q : 65 ≤ c ∧ c ≤ 90
  · rw [if_pos q, decide_eq_true q.1, decide_eq_true q.2]
    exact decide_eq_false (by omega)
  · rw [if_neg q, decide_eq_true rfl]
    by_cases q1 : 65 ≤ c
    · rw [decide_eq_true q1, decide_eq_false (show ¬ c ≤ 90 by omega)]
      rfl
    · rw [decide_eq_false q1]
      rfl
theorem low_eq {l : List Nat} (h : Txt.isascii (Tx l) = true) : decide (V.str (Tx l) = V.str (Txt.lower (Tx l))) = l.all fun c => !(decide (65 ≤ c) && decide (c ≤ 90)) := by
  have h1 : ∀ c ∈ l, c < 128 := by
    unfold Txt.isascii at h
    rw [all_arr] at h
    simpa using h
  have e : Txt.lower (Tx l) = Tx (l.map lo1) := by
    rw [lower_ascii (x := Tx l) (by rw [tx_list]; exact h1)]
    simp [Tx]
  rw [e]
  have key : ∀ k : List Nat, (∀ c ∈ k, c < 128) → decide (k = k.map lo1) = k.all fun c => !(decide (65 ≤ c) && decide (c ≤ 90)) := by
    intro k
    induction k with
    | nil => intro _; rfl
    | cons c r ih =>
      intro hk
      rw [List.all_cons, ← ih fun d hd => hk d (List.mem_cons_of_mem _ hd), ← lo1_eq (hk c List.mem_cons_self)]
      by_cases q1 : lo1 c = c
      · by_cases q2 : r = r.map lo1
        · rw [decide_eq_true q1, decide_eq_true q2]
          apply decide_eq_true
          rw [List.map_cons, q1, ← q2]
        · rw [decide_eq_true q1, decide_eq_false q2]
          apply decide_eq_false
          intro z
          rw [List.map_cons] at z
          exact q2 (List.cons.inj z).2
      · rw [decide_eq_false q1]
        apply decide_eq_false
        intro z
        rw [List.map_cons] at z
        exact q1 (List.cons.inj z).1.symm
  rw [← key l h1]
  by_cases q : l = l.map lo1
  · rw [decide_eq_true q, ← q]
    exact decide_eq_true rfl
  · rw [decide_eq_false q]
    apply decide_eq_false
    intro z
    exact q (tx_inj (V.str.inj z))
theorem alpha_one {c : Nat} (h : c < 128) : Txt.isalpha (Tx [c]) = (isaz c || (decide (65 ≤ c) && decide (c ≤ 90))) := by
  unfold Txt.isalpha
  rw [all_arr, tx_len, ← (sign_facts h).1]
  simp
theorem name_of {c : Nat} {r : List Nat} : ((c :: r).all (fun c => isaz c || is09 c) && isaz c) =
    (Txt.isascii (Tx (c :: r)) && (Txt.isalnum (Tx (c :: r)) && (Txt.isalpha (Tx [c]) && decide (V.str (Tx (c :: r)) = V.str (Txt.lower (Tx (c :: r))))))) := by
  cases h : Txt.isascii (Tx (c :: r)) with
  | false =>
    rw [Bool.false_and, Bool.and_eq_false_iff]
    refine .inl ?_
    rw [Bool.eq_false_iff]
    intro q
    have q1 := List.all_eq_true.mp q
    have : Txt.isascii (Tx (c :: r)) = true := by
      unfold Txt.isascii
      rw [all_arr]
      refine List.all_eq_true.mpr fun d hd => ?_
      have := q1 d hd
      simp only [isaz, is09, Bool.or_eq_true, Bool.and_eq_true, decide_eq_true_eq] at this
      exact decide_eq_true (by omega)
    rw [h] at this
    cases this
  | true =>
    rw [Bool.true_and, low_eq h]
    have h1 : ∀ d ∈ c :: r, d < 128 := by
      unfold Txt.isascii at h
      rw [all_arr] at h
      exact fun d hd => of_decide_eq_true (List.all_eq_true.mp h d hd)
    rw [alpha_one (h1 c List.mem_cons_self)]
    have e : Txt.isalnum (Tx (c :: r)) = (c :: r).all fun c => isaz c || is09 c || (decide (65 ≤ c) && decide (c ≤ 90)) := by
      unfold Txt.isalnum
      rw [all_arr, tx_len, List.length_cons, decide_eq_true (Nat.succ_pos _), Bool.true_and]
      rw [Bool.eq_iff_iff, List.all_eq_true, List.all_eq_true]
      constructor
      · intro q d hd
        rw [← (sign_facts (h1 d hd)).2.2.2.2]
        exact q d hd
      · intro q d hd
        rw [(sign_facts (h1 d hd)).2.2.2.2]
        exact q d hd
    rw [e, Bool.eq_iff_iff]
    simp only [Bool.and_eq_true, List.all_eq_true, Bool.not_eq_true']
    constructor
    · rintro ⟨q1, q2⟩
      refine ⟨fun d hd => by rw [q1 d hd]; rfl, by rw [q2]; rfl, fun d hd => ?_⟩
      have := q1 d hd
      simp only [isaz, is09, Bool.or_eq_true, Bool.and_eq_true, decide_eq_true_eq] at this
      by_cases z : 65 ≤ d
      · rw [decide_eq_false (show ¬ d ≤ 90 by omega), Bool.and_false]
      · rw [decide_eq_false z, Bool.false_and]
    · rintro ⟨q1, q2, q3⟩
      refine ⟨fun d hd => ?_, ?_⟩
      · have := q1 d hd
        rw [q3 d hd, Bool.or_false] at this
        exact this
      · rw [q3 c List.mem_cons_self, Bool.or_false] at q2
        exact q2
section
variable {P : Program} {w : World} {K : PySem.W.Frag} {mg : Str → Option Value} {base : Heap}
abbrev st_is_name : Stmt := top 7
abbrev nm_is_name : List Str := ["value"]
theorem sc_is_name : FnScope nm_is_name ["value"] (defScope st_is_name) := ⟨rfl, rfl, rfl, by decide +kernel, rfl, by decide +kernel, by decide +kernel⟩
def spIsName (K : PySem.W.Frag) : Sp := fun vs H Q _ => ∃ v, vs = [v] ∧ Sov K H v (fun l => Q (.bl (nmOk l)) H) (Q (.bl false) H)
theorem ok_is_name {f : Addr} {fd : FuncData} (F : Fun K "is_name" "is_name" st_is_name f fd) (T : Blt mg) : FnOk P w K mg base CX0 1 f fd ["value"] (spIsName K) := by
  refine F.ok sc_is_name (fun vs H Q E h => ?_) (fun cdv A outer s H vs Q E hr h => ?_)
  · obtain ⟨v, rfl, _⟩ := h
    rfl
  · refine ⟨_, (pss_cons (ps_if (PW.pt (pw_or (pt_not (pt_val (pe_callB call_isi (by rfl) T.n_isinstance (by decide +kernel) (pa_cons (pv 0) (pa_cons (pe_bltn (v := .ty "str") (by rfl) T.n_str (by decide +kernel) rfl) pa_nil))))) (pw_or1 (pt_not (pt_chain op_le op_le pe_int (pe_callB call_len_str (by rfl) T.n_len (by decide +kernel) (pa_cons (pv 0) pa_nil)) pe_int))))) (pss_one (ps_ret pe_bl)) pss_nil)
  (pss_one (ps_ret (pe_and (pe_m0 PySem.F.slot_str_isascii PySem.F.type_str_isascii mt_isascii (pv 0)) (pe_and (pe_m0 PySem.F.slot_str_isalnum PySem.F.type_str_isalnum mt_isalnum (pv 0)) (pe_and (pe_m0 PySem.F.slot_str_isalpha PySem.F.type_str_isalpha mt_isalpha (pe_ix ix_str (pv 0) pe_int (fun _ _ => rfl))) (pe_one (pe_cmpR op_eq (pv 0) (pe_lower (pv 0)) (nomark _))))))))), ?_⟩
    obtain ⟨v, rfl, ⟨l, rfl, hl, q⟩ | ⟨n, ⟨ty, hn⟩, e, q⟩⟩ := h
    · have hz : (Tx l).length ≤ sizeLine := by
        rw [tx_len]
        exact Nat.le_trans hl (by decide)
      refine ⟨_, rfl, _, _, _, _, _, rfl, .ty "str", .base (.str _), kit_ty (b := "str") (r := true) (by decide +kernel), _, rfl, ?_⟩
      refine ⟨_, rfl, _, rfl, hz, _, _, rfl, rfl, _, rfl, ?_⟩
      rw [tx_len]
      by_cases c1 : (1 : Int) ≤ (l.length : Int)
      · rw [decide_eq_true c1]
        refine ⟨_, _, rfl, rfl, _, rfl, ?_⟩
        by_cases c2 : (l.length : Int) ≤ 12
        · have e2 : decide ((l.length : Int) ≤ 12) = true := decide_eq_true c2
          show if (!decide ((l.length : Int) ≤ 12)) = true then _ else _
          rw [e2]
          obtain ⟨c, r, rfl⟩ : ∃ c r, l = c :: r := by
            cases l with
            | nil => exact absurd c1 (by simp)
            | cons c r => exact ⟨c, r, rfl⟩
          have eq : nmOk (c :: r) = ((c :: r).all (fun c => isaz c || is09 c) && isaz c) := by
            unfold nmOk
            rw [decide_eq_true (show 1 ≤ (c :: r).length by simp), decide_eq_true (show (c :: r).length ≤ 12 by omega), Bool.true_and, Bool.true_and]
            rfl
          rw [eq, name_of] at q
          refine ⟨_, rfl, ⟨_, rfl⟩, _, rfl, rfl, trivial, _, rfl, ?_⟩
          cases h1 : Txt.isascii (Tx (c :: r))
          · rw [h1] at q
            exact q
          · rw [h1] at q
            refine ⟨_, rfl, ⟨_, rfl⟩, _, rfl, rfl, trivial, _, rfl, ?_⟩
            cases h2 : Txt.isalnum (Tx (c :: r))
            · rw [h2] at q
              exact q
            · rw [h2] at q
              refine ⟨_, rfl, _, 0, c, rfl, rfl, hz, (by rw [tx_list]; exact atI_nat (xs := c :: r) (j := 0) (v := c) rfl), ⟨_, rfl⟩, _, rfl, rfl, trivial, _, rfl, ?_⟩
              rw [tx_one]
              cases h3 : Txt.isalpha (Tx [c])
              · rw [h3] at q
                exact q
              · rw [h3] at q
                refine ⟨_, rfl, _, rfl, ⟨_, rfl⟩, _, rfl, rfl, (by rw [tx_len]; omega), rfl, ?_⟩
                exact q
        · have e2 : decide ((l.length : Int) ≤ 12) = false := decide_eq_false c2
          show if (!decide ((l.length : Int) ≤ 12)) = true then _ else _
          rw [e2]
          have eq : nmOk l = false := by
            unfold nmOk
            rw [decide_eq_false (show ¬ l.length ≤ 12 by omega), Bool.and_false, Bool.false_and, Bool.false_and]
          rw [eq] at q
          exact q
      · rw [decide_eq_false c1]
        have eq : nmOk l = false := by
          unfold nmOk
          rw [decide_eq_false (show ¬ 1 ≤ l.length by omega), Bool.false_and, Bool.false_and, Bool.false_and]
        rw [eq] at q
        exact ⟨_, rfl, q⟩
    · obtain ⟨_, _, k3, _, _⟩ := kd_kit (K := K) hn
      refine ⟨_, rfl, v, _, _, _, _, rfl, .ty "str", ty, k3, _, rfl, ?_⟩
      rw [e]
      exact q
end
/-- a walk over a list or a tuple -/
def iLT (K : PySem.W.Frag) (te : TE) : TI := fun σ H R => iList K te σ H R ∨ iTup K te σ H R
theorem pi_lt {X : Cx} {tg e : Expr} {te : TE} (h : PE X e te) : PI X tg e (iLT X.K te) :=
  ⟨fun pins s σ H R I q => q.elim (fun q => (pi_list h).run pins s σ H R I q) fun q => (pi_tup h).run pins s σ H R I q⟩
def SqLT (K : PySem.W.Frag) (H : Hp) (a : Addr) (xs : List V) : Prop := SqL K H a xs ∨ SqT K H a xs
theorem sm_l {K : PySem.W.Frag} {H H' : Hp} {a : Addr} {xs : List V} (s : Same H H') (h : SqL K H a xs) : SqL K H' a xs := s.seq h
theorem sm_t {K : PySem.W.Frag} {H H' : Hp} {a : Addr} {xs : List V} (s : Same H H') (h : SqT K H a xs) : SqT K H' a xs := by
  rcases h with (h | ⟨o, h⟩) | h
  · exact .inl (.inl (s _ _ h))
  · exact .inl (.inr ⟨o, s _ _ h⟩)
  · exact .inr h
section
variable {P : Program} {w : World} {K : PySem.W.Frag} {mg : Str → Option Value} {base : Heap}
abbrev st_is_numbers : Stmt := top 8
abbrev nm_is_numbers : List Str := ["value", "item"]
theorem sc_is_numbers : FnScope nm_is_numbers ["value"] (defScope st_is_numbers) := ⟨rfl, rfl, rfl, by decide +kernel, rfl, by decide +kernel, by decide +kernel⟩
/-- the kinds of some values -/
def Kds (K : PySem.W.Frag) (H : Hp) (xs : List V) (ks : List String) : Prop := xs.length = ks.length ∧ ∀ (i : Nat) x, xs[i]? = some x → Kd K H x (ks.getD i "")
theorem kd_same {H H' : Hp} {v : V} {n : String} (s : Same H H') (h : Kd K H v n) : Kd K H' v n := ⟨tyx_same s h.1, h.2⟩
def spIsNumbers (K : PySem.W.Frag) : Sp := fun vs H Q _ => ∃ v n, vs = [v] ∧ Kd K H v n ∧ (((n == "list" || n == "tuple") = false ∧ ∀ H', Same H H' → Q (.bl false) H') ∨
  ((n == "list" || n == "tuple") = true ∧ ∃ a xs ks, v = .ref a ∧ SqLT K H a xs ∧ xs.length ≤ 1000 ∧ Kds K H xs ks ∧ ∀ H', Same H H' → Q (.bl (ks.all (· == "int"))) H'))
theorem ok_is_numbers {f : Addr} {fd : FuncData} (F : Fun K "is_numbers" "is_numbers" st_is_numbers f fd) (T : Blt mg) (C_is_list : Cal P w K mg base 1 "is_list" st_is_list ["value"] (spIsList K))
    (C_is_integer : Cal P w K mg base 1 "is_integer" st_is_integer ["value"] (spIsInteger K)) : FnOk P w K mg base CX0 2 f fd ["value"] (spIsNumbers K) := by
  refine F.ok sc_is_numbers (fun vs H Q E h => ?_) (fun cdv A outer s H vs Q E hr h => ?_)
  · obtain ⟨v, n, rfl, _⟩ := h
    rfl
  · refine ⟨_, (pss_one (ps_ret (pe_and (pe_cl C_is_list (hr.mono (by decide)) rfl (pa_cons (pv 0) pa_nil)) (pe_one (pe_callB (cr_all rfl) (by rfl) T.n_all (by decide +kernel) (pa_cons (pe_lc (own := [("item", 1)]) (g := (gName 1)) (tt := tYes) rfl sc_is_numbers.nd (pi_lt (pv 0)) (blkOk_by (N := nm_is_numbers) (sc := defScope st_is_numbers) (own := [("item", 1)]) (by decide +kernel)) (fun _ _ _ _ _ => by exact pg_name (i := 1) sc_is_numbers.nd rfl (Or.inl rfl)) (fun _ _ _ _ _ => pts_nil) (fun _ _ _ _ _ => (pe_cl C_is_integer (hr.mono (by decide)) rfl (pa_cons (pv 1) pa_nil)))) pa_nil)))))), ?_⟩
    obtain ⟨v, n, rfl, kd, ⟨hn, q⟩ | ⟨hn, a, xs, ks, rfl, hS, hl, hk, q⟩⟩ := h
    · refine ⟨_, rfl, v, n, rfl, kd, fun H' s' => ⟨_, rfl, ?_⟩⟩
      rw [hn]
      exact q H' s'
    · refine ⟨_, rfl, _, n, rfl, kd, fun H1 s1 => ⟨_, rfl, ?_⟩⟩
      rw [hn]
      have body : ∀ (J : It) (G : Hp → Prop), Walk J xs.length G (YAt xs) → (∀ H2, Same H1 H2 → G H2) → ∀ D, H1 D = none → ∃ W : Nat → Nat → Hp → Prop, (∃ m, W 0 m (upd H1 D (.lst []))) ∧ ∀ i m H, W i m H →
          (J.stop i H ∧ (fun x H1 => tNil [some (V.ref a), none] H1 fun xs H2 => rAll K (x :: xs) H2 Q) (.ref D) H) ∨ (J.go i H ∧ ∃ Nx : Hp → Prop, (∀ H', Nx H' → ∃ m', m' < m ∧ W (i + 1) m' H') ∧ ∀ x H', J.yld i H x H' →
            gName 1 x (wipe [some (V.ref a), none] [1]) H' fun σ2 H2 => wipe σ2 [1] = wipe [some (V.ref a), none] [1] ∧ tYes σ2 H2 fun b H3 =>
              if b = true then (tCall (spIsInteger K) [] E0 (tCons (tVar 1) tNil)) σ2 H3 fun y H4 => ∃ acc, H4 D = some (.lst acc) ∧ acc.length < sizeLine ∧ Nx (upd H4 D (.lst (acc ++ [y]))) else Nx H3) := by
        intro J G wk hG D hD
        refine lc_it wk (SPv H1 D fun i => ((ks.take i).map fun k => V.bl (k == "int"))) (spv0 hD rfl) (fun i H2 _ p => hG _ p.1) ?_ ?_
        · rintro i x H2 H3 hi ⟨p1, p2⟩ ⟨rfl, hx⟩
          refine ⟨rfl, ?_⟩
          refine ⟨_, rfl, x, ks.getD i "", rfl, kd_same (Same.trans s1 p1) (hk.2 i x hx), ?_⟩
          have hik : i < ks.length := by
            rw [← hk.1]
            exact hi
          refine spv_put hD p1 p2 ?_ ?_
          · rw [List.length_map, List.length_take]
            omega
          · rw [List.take_succ, List.map_append, List.getElem?_eq_getElem hik]
            simp [hik]
        · rintro H2 ⟨p1, p2⟩
          refine ⟨D, ks.map (· == "int"), rfl, SqL.of ?_, ?_⟩
          · rw [p2, hk.1]
            dsimp only
            rw [List.take_length, List.map_map]
            rfl
          · have e : (ks.map (· == "int")).all id = ks.all (· == "int") := by
              rw [List.all_map]
              rfl
            rw [e]
            exact q _ (Same.trans s1 p1)
      rcases hS with h | h
      · exact .inl ⟨_, rfl, a, rfl, ⟨_, sm_l s1 h⟩, fun D hD => body _ _ walk_list (fun H2 z => sm_l (Same.trans s1 z) h) D hD⟩
      · exact .inr ⟨_, rfl, a, rfl, ⟨_, sm_t s1 h⟩, fun D hD => body _ _ walk_tup (fun H2 z => sm_t (Same.trans s1 z) h) D hD⟩
abbrev st_first_twice : Stmt := top 9
abbrev nm_first_twice : List Str := ["values", "seen", "value"]
theorem sc_first_twice : FnScope nm_first_twice ["values"] (defScope st_first_twice) := ⟨rfl, rfl, rfl, by decide +kernel, rfl, by decide +kernel, by decide +kernel⟩
/-- the first key that stands ahead, too -/
def ft : List Key → List Key → V
  | _, [] => .non
  | seen, k :: r => if (seen.any fun j => decide (j = k)) = true then kV k else ft (seen ++ [k]) r
def spFirstTwice (K : PySem.W.Frag) : Sp := fun vs H Q _ => ∃ a ks, vs = [.ref a] ∧ SqLT K H a (ks.map kV) ∧ ks.length ≤ 100 ∧ ∀ H', Same H H' → Q (ft [] ks) H'
theorem ok_first_twice {f : Addr} {fd : FuncData} (F : Fun K "first_twice" "first_twice" st_first_twice f fd) (T : Blt mg) : FnOk P w K mg base CX0 1 f fd ["values"] (spFirstTwice K) := by
  refine F.ok sc_first_twice (fun vs H Q E h => ?_) (fun cdv A outer s H vs Q E hr h => ?_)
  · obtain ⟨a, ks, rfl, _⟩ := h
    rfl
  · refine ⟨_, (pss_cons (ps_set (i := 1) sc_first_twice.nd rfl (Or.inl rfl) (pe_callTy0 cr_set0K (by rfl) T.n_set (by decide +kernel)))
  (pss_cons (ps_for PassesOwn.never rfl (pi_lt (pv 0)) (pg_name (i := 2) sc_first_twice.nd rfl (Or.inl rfl)) (pss_cons (ps_if (pt_cmpR or_sinK (pv 2) (pv 1) rfl) (pss_one (ps_ret (pv 2))) pss_nil)
  (pss_one (ps_expr (pe_saddK (pv 1) (pa_cons (pv 2) pa_nil))))))
  (pss_one (ps_ret pe_non)))), ?_⟩
    obtain ⟨a, ks, rfl, hS, hl, q⟩ := h
    refine ⟨rfl, fun p hp => ?_⟩
    -- behind i values: seen holds those ahead, nothing stood twice
    have step : ∀ (xs : List Key) (i : Nat) k, xs[i]? = some k → ∀ seen, ft seen (xs.drop i) = if (seen.any fun j => decide (j = k)) = true then kV k else ft (seen ++ [k]) (xs.drop (i + 1)) := by
      intro xs i k hk seen
      obtain ⟨h1, h2⟩ := List.getElem?_eq_some_iff.mp hk
      rw [List.drop_eq_getElem_cons h1, h2]
      rfl
    have body : ∀ (J : It) (G : Hp → Prop), Walk J (ks.map kV).length G (YAt (ks.map kV)) → (∀ H2, Same H H2 → G H2) → ∃ W : Nat → Nat → L2.St → Hp → Prop, (∃ m, W 0 m ((L2.start nm_first_twice [V.ref a]).set 1 (some (.ref p))) (upd H p (SetK P w p (fun _ => false) 0))) ∧ ∀ i m σ H, W i m σ H →
        (J.stop i H ∧ (tRet (tC .non)) { nx := fun _ H' => Q .non H', rt := Q } σ H) ∨ (J.go i H ∧ ∃ N : L2.St → Hp → Prop, (∀ σ' H', N σ' H' → ∃ m', m' < m ∧ W (i + 1) m' σ' H') ∧ ∀ x H', J.yld i H x H' → gName 2 x σ H' fun σ2 H2 =>
          (tSeq (tIfS (tTest (tOp (rSInK P w false) (tVar 2) (tVar 1))) (tRet (tVar 2)) tNext) (tDrop (tSAddK P w (tVar 1) (tCons (tVar 2) tNil)))) { nx := N, ct := N, bk := (tRet (tC .non)) { nx := fun _ H' => Q .non H', rt := Q }, rt := Q } σ2 H2) := by
      intro J G wk hG
      refine for_it (g := gName 2) (tb := tSeq (tIfS (tTest (tOp (rSInK P w false) (tVar 2) (tVar 1))) (tRet (tVar 2)) tNext) (tDrop (tSAddK P w (tVar 1) (tCons (tVar 2) tNil))))
        (D := { nx := (tRet (tC .non)) { nx := fun _ H' => Q .non H', rt := Q }, rt := Q }) wk (fun i σ H' => ∃ v, σ = [some (.ref a), some (.ref p), v] ∧ Same H H' ∧ ∃ n, n ≤ i ∧ H' p = some (SetK P w p (fun j => (ks.take i).any fun z => decide (z = j)) n) ∧ ft [] ks = ft (ks.take i) (ks.drop i))
        ⟨none, rfl, Sm.new hp, 0, Nat.le_refl _, upd_same, rfl⟩ (fun i σ H2 _ ⟨_, _, s, _⟩ => hG _ s) ?_ ?_
      · rintro i x σ H2 H3 hi ⟨v, rfl, s2, n, hn, h2, e⟩ ⟨rfl, hx⟩
        rw [List.getElem?_map] at hx
        cases hk : ks[i]? with
        | none =>
          rw [hk] at hx
          cases hx
        | some k =>
          rw [hk] at hx
          obtain rfl : kV k = x := Option.some.inj hx
          rw [step ks i k hk] at e
          refine ⟨_, rfl, _, rfl, k, p, _, n, rfl, rfl, h2, _, rfl, ?_⟩
          have hik : i < ks.length := (List.getElem?_eq_some_iff.mp hk).1
          refine ite2 (fun c => ?_) (fun c => ?_)
          · rw [if_pos (by simpa using c)] at e
            refine ⟨_, rfl, ?_⟩
            rw [← e]
            exact q _ s2
          · rw [if_neg (by simpa using c)] at e
            refine ⟨_, rfl, ⟨p, _, n, rfl, h2⟩, _, rfl, p, k, _, n, rfl, rfl, h2, ?_, ?_⟩
            · exact Nat.lt_of_le_of_lt (show n + 1 ≤ 101 by omega) (by decide)
            refine ⟨_, rfl, Sm.put s2 hp, n + 1, ?_, ?_, ?_⟩
            · omega
            · rw [upd_same]
              have c' : ((ks.take i).any fun z => decide (z = k)) = false := by
                cases z : ((ks.take i).any fun z => decide (z = k)) with
                | false => rfl
                | true => exact absurd (show (if false = true then _ else ((ks.take i).any fun z => decide (z = k))) = true by rw [z]; rfl) c
              rw [c', if_neg Bool.false_ne_true]
              congr 2
              funext j
              rw [List.take_succ, hk, List.any_append]
              simp [eq_comm]
            · rw [e, List.take_succ, hk]
              rfl
      · rintro σ H2 ⟨v, rfl, s2, n, hn, h2, e⟩
        rw [List.length_map, List.drop_length] at e
        have e2 : ft [] ks = .non := e
        rw [e2] at q
        exact q _ s2
    rcases hS with h | h
    · exact .inl ⟨_, rfl, a, rfl, ⟨_, sm_l (Sm.new hp) h⟩, body _ _ walk_list (fun H2 z => sm_l z h)⟩
    · exact .inr ⟨_, rfl, a, rfl, ⟨_, sm_t (Sm.new hp) h⟩, body _ _ walk_tup (fun H2 z => sm_t z h)⟩
end
end K6
namespace K6
open PySem PySem.Spec PyProof.Rows L2 K0 K4
def PEk (X : Cx) (e : Expr) (t : TE) : Prop :=
  ∀ (pins : List (Addr × Obj)) (s : Shared) (σ : L2.St) (H : Hp) (Q : VK), Inv X pins σ H s → t σ H Q → wpAny (model X.prog X.w) X.A (eval e X.env) (fun v s' => 1 ≤ s'.toks ∧ EP X pins σ Q v s') X.xe s
section
variable {X : Cx} {a b e : Expr} {es rest : List Expr} {ta tb te : TE} {t : TA} {pos p : Pos}
theorem pek_cmp {op : CmpOp} {r : R2} {z : Str} {j : Nat} {c0 : Pos} (ho : OpR X (compareOp op) r) (ha : PE X a ta) (hm : behindInMarks op (.Constant (.str z) j c0) = false) : PEk X (.Compare a [op] [.Constant (.str z) j c0] pos) (tOp r ta (tC (.str z))) := by
  intro pins s σ H Q I h
  refine wpAny_Compare1 (thn (ha.run pins s σ H _ I h) fun v s1 ⟨x, H1, I1, r1, q1⟩ => Calls.Constant_str ?_) hm
  refine wpAny_mono (PySem.wpAny_toks (ho pins _ σ H1 x (.str z) v (.str z s1.toks) Q (I1.tok _) r1 ⟨_, rfl⟩ q1)) (fun u s2 q => ⟨?_, q.2⟩) fun _ _ z => z.2
  have := q.1
  have h1 : s1.toks + 1 ≤ s2.toks := this
  omega
theorem pe_andk (ha : PEk X a ta) (hb : PET X (.BoolOp .And (b :: rest) pos) tb) : PE X (.BoolOp .And (a :: b :: rest) pos) (tAndV ta tb) := by
  refine ⟨fun pins s σ H Q I h => ?_⟩
  refine BoolOp_and (thn (ha pins s σ H _ I h) fun v s1 ⟨hk, x, H1, I1, r1, q1⟩ => ?_)
  obtain ⟨c, rfl, q1⟩ := q1
  cases r1
  refine wpAny_truthy_bool ?_
  cases c with
  | true => exact hb pins s1 σ H1 Q hk I1 q1
  | false => exact ⟨.bl false, H1, I1, rfl, q1⟩
theorem pet_one {op} (h : PET X a te) : PET X (.BoolOp op [a] pos) te := fun pins s σ H Q h0 I hw => BoolOp_one (h pins s σ H Q h0 I hw)
theorem pet_cl {k : Nat} {x : Str} {st : Stmt} {ps : List Str} {sp : Sp} (C : Cal X.prog X.w X.K X.mg X.base k x st ps sp) (hr : Room k X.A) (hg : Gl X x) (ha : PAT X (e :: es) t)
    (hdb : (x == ("__debug__" : Str)) = false := by decide) (he : starEach (e :: es) X.env = (false, eval e X.env) :: starEach es X.env := by rfl)
    (hpl : (backTo pos (starEach es X.env)).any (·.1) = false := by rfl) : PET X (.Call (.Name x p) (e :: es) [] pos) (tCall sp [] E0 t) := by
  obtain ⟨f, fd, F, hm, hb, G⟩ := C.ex
  intro pins s σ H Q h0 I h
  refine wpAny_Call_Name_kw (ld_glob I hg hm ?_ hdb)
  refine PySem.W.callWith_K (h₀ := X.base) I.ok.mod.kin F.kp (thn (ha pos pins s σ H _ h0 I h) fun us s1 ⟨vs, H1, I1, r, q⟩ => ⟨I1.kIn, ?_⟩) he hpl
  exact run_fn G hr hb .nil pass0 I1 r q
end
open StrLaws in
theorem repl_out (c : Nat) : ∀ l : List Nat, replL [c] [] l = l.filter fun d => decide (d ≠ c)
  | [] => replL_nil
  | d :: r => by
    by_cases h : d = c
    · subst h
      rw [replL_hit (by simp) (by simp)]
      simp [repl_out d r]
    · rw [replL_miss (by simpa using h), repl_out c r]
      simp [h]
open StrLaws in
theorem replace_out (l : List Nat) (c : Nat) : Txt.replace (Tx l) (Tx [c]) (Tx []) = Tx (l.filter fun d => decide (d ≠ c)) := by
  have h := replace_list (x := Tx l) (y := Tx [c]) (z := Tx []) (by rw [tx_len]; exact Nat.le_refl 1)
  rw [tx_list, tx_list, tx_list, repl_out] at h
  rw [← tx_of (Txt.replace _ _ _), h]
section
variable {P : Program} {w : World} {K : PySem.W.Frag} {mg : Str → Option Value} {base : Heap}
abbrev CLW (P : Program) (w : World) (K : PySem.W.Frag) (mg : Str → Option Value) (base : Heap) : Prop := Cal P w K mg base 1 "is_long_word" st_is_long_word ["value"] (spIsLongWord K)
def celOk (l : List Nat) : Bool := !decide (l = []) && lw (l.filter fun d => decide (d ≠ 45))
abbrev st_is_cell : Stmt := top 11
abbrev nm_is_cell : List Str := ["value"]
theorem sc_is_cell : FnScope nm_is_cell ["value"] (defScope st_is_cell) := ⟨rfl, rfl, rfl, by decide +kernel, rfl, by decide +kernel, by decide +kernel⟩
def spIsCell (K : PySem.W.Frag) : Sp := fun vs H Q _ => ∃ v, vs = [v] ∧ Sov K H v (fun l => Q (.bl (celOk l)) H) (Q (.bl false) H)
theorem ok_is_cell {f : Addr} {fd : FuncData} (F : Fun K "is_cell" "is_cell" st_is_cell f fd) (T : Blt mg) (C_is_long_word : CLW P w K mg base) : FnOk P w K mg base CX0 2 f fd ["value"] (spIsCell K) := by
  refine F.ok sc_is_cell (fun vs H Q E h => ?_) (fun cdv A outer s H vs Q E hr h => ?_)
  · obtain ⟨v, rfl, _⟩ := h
    rfl
  · refine ⟨_, (pss_one (ps_ret (pe_and (pe_callB call_isi (by rfl) T.n_isinstance (by decide +kernel) (pa_cons (pv 0) (pa_cons (pe_bltn (v := .ty "str") (by rfl) T.n_str (by decide +kernel) rfl) pa_nil))) (pe_andk (pek_cmp op_ne (pv 0) (nomark _)) (pet_one (pet_cl C_is_long_word (hr.mono (by decide)) rfl (pat_cons (CwR.pet_replC (pv 0)) pat_nil))))))), ?_⟩
    obtain ⟨v, rfl, ⟨l, rfl, hl, q⟩ | ⟨n, ⟨ty, hn⟩, e, q⟩⟩ := h
    · obtain ⟨_, _, k3, _⟩ := kd_kit (K := K) (n := "str") (by decide)
      refine ⟨_, rfl, _, _, _, _, _, rfl, .ty "str", .base (.str _), k3, _, rfl, iteT ?_⟩
      cases l with
      | nil => exact ⟨_, rfl, rfl, false, rfl, q⟩
      | cons c r =>
        refine ⟨_, rfl, rfl, true, rfl, iteT ⟨_, rfl, _, rfl, (by rw [tx_len]; show (c :: r).length + ((c :: r).length + 1) * 0 ≤ 16777216; omega), ?_⟩⟩
        rw [show Txt.replace (Tx (c :: r)) (Str.ofString "-") (Str.ofString "") = Tx ((c :: r).filter fun d => decide (d ≠ 45)) from replace_out (c :: r) 45]
        refine ⟨_, rfl, .inl ⟨_, rfl, ?_, ?_⟩⟩
        · exact Nat.le_trans (List.length_filter_le _ _) hl
        · unfold celOk at q
          exact q
    · obtain ⟨_, _, k3, _⟩ := kd_kit (K := K) hn
      refine ⟨_, rfl, v, _, _, _, _, rfl, .ty "str", ty, k3, _, rfl, ?_⟩
      rw [e]
      exact q
/-- what may stand in a row, and whether it does -/
def Cv (K : PySem.W.Frag) (H : Hp) (x : V) (b : Bool) : Prop := (x = .non ∧ b = true) ∨ (x ≠ .non ∧ Sov K H x (fun l => b = celOk l) (b = false))
def Cvs (K : PySem.W.Frag) (H : Hp) (xs : List V) (bs : List Bool) : Prop := xs.length = bs.length ∧ ∀ (i : Nat) x, xs[i]? = some x → Cv K H x (bs.getD i false)
theorem sov_same {H H' : Hp} {v : V} {q : List Nat → Prop} {r : Prop} (s : Same H H') (h : Sov K H v q r) : Sov K H' v q r := by
  rcases h with h | ⟨n, kd, hn, z⟩
  · exact .inl h
  · exact .inr ⟨n, ⟨tyx_same s kd.1, kd.2⟩, hn, z⟩
theorem cv_same {H H' : Hp} {x : V} {b : Bool} (s : Same H H') (h : Cv K H x b) : Cv K H' x b := h.imp id fun ⟨a, z⟩ => ⟨a, sov_same s z⟩
theorem cvs_same {H H' : Hp} {xs : List V} {bs : List Bool} (s : Same H H') (h : Cvs K H xs bs) : Cvs K H' xs bs := ⟨h.1, fun i x e => cv_same s (h.2 i x e)⟩
abbrev st_is_row : Stmt := top 12
abbrev nm_is_row : List Str := ["value", "many", "cell"]
theorem sc_is_row : FnScope nm_is_row ["value", "many"] (defScope st_is_row) := ⟨rfl, rfl, rfl, by decide +kernel, rfl, by decide +kernel, by decide +kernel⟩
def spIsRow (K : PySem.W.Frag) : Sp := fun vs H Q _ => ∃ (v : V) (n : String) (m : Nat), vs = [v, .int (m : Int)] ∧ Kd K H v n ∧ (((n == "list" || n == "tuple") = false ∧ ∀ H', Same H H' → Q (.bl false) H') ∨
  ((n == "list" || n == "tuple") = true ∧ ∃ a xs bs, v = .ref a ∧ SqLT K H a xs ∧ xs.length ≤ 1000 ∧ Cvs K H xs bs ∧ ∀ H', Same H H' → Q (.bl (decide (xs.length = m) && bs.all id)) H'))
theorem ok_is_row {f : Addr} {fd : FuncData} (F : Fun K "is_row" "is_row" st_is_row f fd) (T : Blt mg) (C_is_list : Cal P w K mg base 1 "is_list" st_is_list ["value"] (spIsList K))
    (C_is_cell : Cal P w K mg base 2 "is_cell" st_is_cell ["value"] (spIsCell K)) : FnOk P w K mg base CX0 3 f fd ["value", "many"] (spIsRow K) := by
  refine F.ok sc_is_row (fun vs H Q E h => ?_) (fun cdv A outer s H vs Q E hr h => ?_)
  · obtain ⟨v, n, m, rfl, _⟩ := h
    rfl
  · refine ⟨_, (pss_cons (ps_if (PW.pt (pw_or (pt_not (pt_val (pe_cl C_is_list (hr.mono (by decide)) rfl (pa_cons (pv 0) pa_nil)))) (pw_or1 (pt_cmpR op_ne (pe_callB call_len_seq (by rfl) T.n_len (by decide +kernel) (pa_cons (pv 0) pa_nil)) (pv 1) (nomark _))))) (pss_one (ps_ret pe_bl)) pss_nil)
  (pss_one (ps_ret (pe_callB (cr_all rfl) (by rfl) T.n_all (by decide +kernel) (pa_cons (pe_lc (own := [("cell", 2)]) (g := (gName 2)) (tt := tYes) rfl sc_is_row.nd (pi_lt (pv 0)) (blkOk_by (N := nm_is_row) (sc := defScope st_is_row) (own := [("cell", 2)]) (by decide +kernel)) (fun _ _ _ _ _ => by exact pg_name (i := 2) sc_is_row.nd rfl (Or.inl rfl)) (fun _ _ _ _ _ => pts_nil) (fun _ _ _ _ _ => (pe_or (pe_cmpR op_isN (pv 2) pe_non (nomark _)) (pe_one (pe_cl C_is_cell (hr.mono (by decide)) rfl (pa_cons (pv 2) pa_nil)))))) pa_nil))))), ?_⟩
    obtain ⟨v, n, m, rfl, kd, ⟨hn, q⟩ | ⟨hn, a, xs, bs, rfl, hS, hl, hk, q⟩⟩ := h
    · refine ⟨_, rfl, v, n, rfl, kd, fun H' s' => ⟨_, rfl, ?_⟩⟩
      rw [hn]
      exact iteT (iteT (q H' s'))
    · refine ⟨_, rfl, _, n, rfl, kd, fun H1 s1 => ⟨_, rfl, ?_⟩⟩
      rw [hn]
      refine iteF ⟨_, rfl, a, xs, rfl, hS.imp (sm_l s1) (sm_t s1), _, rfl, rfl, _, rfl, ?_⟩
      by_cases e : xs.length = m
      · subst e
        rw [show (!decide (V.int (xs.length : Int) = V.int (xs.length : Int))) = false by simp]
        rw [decide_eq_true rfl] at q
        refine iteF ?_
        rcases hS with h | h
        · refine .inl ⟨_, rfl, a, rfl, ⟨_, sm_l s1 h⟩, fun D hD => ?_⟩
          refine lc_it walk_list (SPv H1 D fun i => (bs.take i).map V.bl) (spv0 hD rfl) (fun i H2 _ p => sm_l (s1.trans p.1) h) ?_ ?_
          · rintro i x H2 H3 hi ⟨p1, p2⟩ ⟨rfl, hx⟩
            have hik : i < bs.length := by
              rw [← hk.1]
              exact hi
            have hb := cv_same (s1.trans p1) (hk.2 i x hx)
            have fin : ∃ acc, H3 D = some (.lst acc) ∧ acc.length < sizeLine ∧ SPv H1 D (fun i => (bs.take i).map V.bl) (i + 1) (upd H3 D (.lst (acc ++ [.bl (bs.getD i false)]))) := by
              refine spv_put hD p1 p2 ?_ ?_
              · rw [List.length_map, List.length_take]
                omega
              · rw [List.take_succ, List.map_append, List.getElem?_eq_getElem hik]
                simp [hik]
            refine ⟨rfl, _, rfl, rfl, _, rfl, ?_⟩
            rcases hb with ⟨rfl, hb⟩ | ⟨hb, hs⟩
            · refine iteT ?_
              rw [hb] at fin
              exact fin
            · rw [decide_eq_false hb]
              refine iteF ⟨_, rfl, x, rfl, ?_⟩
              refine hs.imp (fun ⟨l, e, hl, z⟩ => ⟨l, e, hl, ?_⟩) fun ⟨n, kd, hn, z⟩ => ⟨n, kd, hn, ?_⟩
              · rw [z] at fin
                exact fin
              · rw [z] at fin
                exact fin
          · rintro H2 ⟨p1, p2⟩
            dsimp only at p2
            rw [hk.1, List.take_length] at p2
            refine ⟨D, bs, rfl, SqL.of p2, ?_⟩
            exact q _ (s1.trans p1)
        · refine .inr ⟨_, rfl, a, rfl, ⟨_, sm_t s1 h⟩, fun D hD => ?_⟩
          refine lc_it walk_tup (SPv H1 D fun i => (bs.take i).map V.bl) (spv0 hD rfl) (fun i H2 _ p => sm_t (s1.trans p.1) h) ?_ ?_
          · rintro i x H2 H3 hi ⟨p1, p2⟩ ⟨rfl, hx⟩
            have hik : i < bs.length := by
              rw [← hk.1]
              exact hi
            have hb := cv_same (s1.trans p1) (hk.2 i x hx)
            have fin : ∃ acc, H3 D = some (.lst acc) ∧ acc.length < sizeLine ∧ SPv H1 D (fun i => (bs.take i).map V.bl) (i + 1) (upd H3 D (.lst (acc ++ [.bl (bs.getD i false)]))) := by
              refine spv_put hD p1 p2 ?_ ?_
              · rw [List.length_map, List.length_take]
                omega
              · rw [List.take_succ, List.map_append, List.getElem?_eq_getElem hik]
                simp [hik]
            refine ⟨rfl, _, rfl, rfl, _, rfl, ?_⟩
            rcases hb with ⟨rfl, hb⟩ | ⟨hb, hs⟩
            · refine iteT ?_
              rw [hb] at fin
              exact fin
            · rw [decide_eq_false hb]
              refine iteF ⟨_, rfl, x, rfl, ?_⟩
              refine hs.imp (fun ⟨l, e, hl, z⟩ => ⟨l, e, hl, ?_⟩) fun ⟨n, kd, hn, z⟩ => ⟨n, kd, hn, ?_⟩
              · rw [z] at fin
                exact fin
              · rw [z] at fin
                exact fin
          · rintro H2 ⟨p1, p2⟩
            dsimp only at p2
            rw [hk.1, List.take_length] at p2
            refine ⟨D, bs, rfl, SqL.of p2, ?_⟩
            exact q _ (s1.trans p1)
      · rw [show (!decide (V.int (xs.length : Int) = V.int (m : Int))) = true by
          rw [decide_eq_false fun z => e (by have := V.int.inj z; omega)]
          rfl]
        rw [decide_eq_false e] at q
        exact iteT (q _ s1)
end
end K6
namespace K6
open PySem PySem.Spec PyProof.Rows L2 K0 K4
/-- a cell: a gap, or its signs -/
abbrev Cell : Type := Option (List Nat)
def cx : Cell → V
  | none => .non
  | some l => .str (Tx l)
def lens (cs : List Cell) : List Int := cs.filterMap fun c => c.map fun l => (l.length : Int)
def oneLen : Cell → List Int
  | none => []
  | some l => [(l.length : Int)]
def evenB (cs : List Cell) : Bool := match lens cs with
  | [] => true
  | m :: r => r.all fun n => decide (n = m)
theorem cx_at {cs : List Cell} {i : Nat} {x : V} (h : (cs.map cx)[i]? = some x) : ∃ c, cs[i]? = some c ∧ x = cx c := by
  rw [List.getElem?_map] at h
  cases hc : cs[i]? with
  | none =>
    rw [hc] at h
    cases h
  | some c =>
    rw [hc] at h
    exact ⟨c, rfl, (Option.some.inj h).symm⟩
section
variable {P : Program} {w : World} {K : PySem.W.Frag} {mg : Str → Option Value} {base : Heap}
abbrev st_has_cell : Stmt := top 13
abbrev nm_has_cell : List Str := ["row", "cell"]
theorem sc_has_cell : FnScope nm_has_cell ["row"] (defScope st_has_cell) := ⟨rfl, rfl, rfl, by decide +kernel, rfl, by decide +kernel, by decide +kernel⟩
def hasC (xs : List V) : Bool := xs.any fun x => !decide (x = .non)
def spHasCell (K : PySem.W.Frag) : Sp := fun vs H Q _ => ∃ a xs, vs = [.ref a] ∧ SqLT K H a xs ∧ xs.length ≤ 1000 ∧ ∀ H', Same H H' → Q (.bl (hasC xs)) H'
theorem ok_has_cell {f : Addr} {fd : FuncData} (F : Fun K "has_cell" "has_cell" st_has_cell f fd) (T : Blt mg) : FnOk P w K mg base CX0 1 f fd ["row"] (spHasCell K) := by
  refine F.ok sc_has_cell (fun vs H Q E h => ?_) (fun cdv A outer s H vs Q E hr h => ?_)
  · obtain ⟨a, xs, rfl, _⟩ := h
    rfl
  · refine ⟨_, (pss_one (ps_ret (pe_callB (cr_any rfl) (by rfl) T.n_any (by decide +kernel) (pa_cons (pe_lc (own := [("cell", 1)]) (g := (gName 1)) (tt := tYes) rfl sc_has_cell.nd (pi_lt (pv 0)) (blkOk_by (N := nm_has_cell) (sc := defScope st_has_cell) (own := [("cell", 1)]) (by decide +kernel)) (fun _ _ _ _ _ => by exact pg_name (i := 1) sc_has_cell.nd rfl (Or.inl rfl)) (fun _ _ _ _ _ => pts_nil) (fun _ _ _ _ _ => (pe_cmpR op_notN (pv 1) pe_non (nomark _)))) pa_nil)))), ?_⟩
    obtain ⟨a, xs, rfl, hS, hl, q⟩ := h
    rcases hS with h | h
    · refine .inl ⟨_, rfl, a, rfl, ⟨_, h⟩, fun D hD => ?_⟩
      refine lc_it walk_list (SPv H D fun i => ((xs.take i).map fun x => !decide (x = V.non)).map V.bl) (spv0 hD rfl) (fun i H2 _ p => sm_l (p.1) h) ?_ ?_
      · rintro i x H2 H3 hi ⟨p1, p2⟩ ⟨rfl, hx⟩
        refine ⟨rfl, _, rfl, rfl, spv_put hD p1 p2 ?_ ?_⟩
        · rw [List.length_map, List.length_map, List.length_take]
          omega
        · rw [List.take_succ, hx]
          simp
      · rintro H2 ⟨p1, p2⟩
        dsimp only at p2
        rw [List.take_length] at p2
        refine ⟨D, _, rfl, SqL.of p2, ?_⟩
        rw [List.any_map]
        exact q _ p1
    · refine .inr ⟨_, rfl, a, rfl, ⟨_, h⟩, fun D hD => ?_⟩
      refine lc_it walk_tup (SPv H D fun i => ((xs.take i).map fun x => !decide (x = V.non)).map V.bl) (spv0 hD rfl) (fun i H2 _ p => sm_t (p.1) h) ?_ ?_
      · rintro i x H2 H3 hi ⟨p1, p2⟩ ⟨rfl, hx⟩
        refine ⟨rfl, _, rfl, rfl, spv_put hD p1 p2 ?_ ?_⟩
        · rw [List.length_map, List.length_map, List.length_take]
          omega
        · rw [List.take_succ, hx]
          simp
      · rintro H2 ⟨p1, p2⟩
        dsimp only at p2
        rw [List.take_length] at p2
        refine ⟨D, _, rfl, SqL.of p2, ?_⟩
        rw [List.any_map]
        exact q _ p1
abbrev st_lengths_of : Stmt := top 14
abbrev nm_lengths_of : List Str := ["row", "cell"]
theorem sc_lengths_of : FnScope nm_lengths_of ["row"] (defScope st_lengths_of) := ⟨rfl, rfl, rfl, by decide +kernel, rfl, by decide +kernel, by decide +kernel⟩
def spLengths (K : PySem.W.Frag) : Sp := fun vs H Q _ => ∃ a cs, vs = [.ref a] ∧ SqLT K H a (cs.map cx) ∧ cs.length ≤ 1000 ∧ (∀ l, some l ∈ cs → l.length ≤ 10000) ∧ ∀ H' p, Same H H' → H p = none → H' p = some (.lst ((lens cs).map V.int)) → Q (.ref p) H'
theorem lens_take {cs : List Cell} {i : Nat} {c : Cell} (h : cs[i]? = some c) : lens (cs.take (i + 1)) = lens (cs.take i) ++ oneLen c := by
  unfold lens
  rw [List.take_succ, h, List.filterMap_append]
  cases c <;> rfl
theorem lens_len (cs : List Cell) : (lens cs).length ≤ cs.length := List.length_filterMap_le _ _
theorem ok_lengths_of {f : Addr} {fd : FuncData} (F : Fun K "lengths_of" "lengths_of" st_lengths_of f fd) (T : Blt mg) : FnOk P w K mg base CX0 1 f fd ["row"] (spLengths K) := by
  refine F.ok sc_lengths_of (fun vs H Q E h => ?_) (fun cdv A outer s H vs Q E hr h => ?_)
  · obtain ⟨a, cs, rfl, _⟩ := h
    rfl
  · refine ⟨_, (pss_one (ps_ret (pe_lc (own := [("cell", 1)]) (g := (gName 1)) rfl sc_lengths_of.nd (pi_lt (pv 0)) (blkOk_by (N := nm_lengths_of) (sc := defScope st_lengths_of) (own := [("cell", 1)]) (by decide +kernel)) (fun _ _ _ _ _ => by exact pg_name (i := 1) sc_lengths_of.nd rfl (Or.inl rfl)) (fun _ _ _ _ _ => pts_one (pt_cmpR op_notN (pv 1) pe_non (nomark _))) (fun _ _ _ _ _ => (pe_callB call_len_str (by rfl) T.n_len (by decide +kernel) (pa_cons (pv 1) pa_nil)))))), ?_⟩
    obtain ⟨a, cs, rfl, hS, hl, hb, q⟩ := h
    rcases hS with h | h
    · refine .inl ⟨_, rfl, a, rfl, ⟨_, h⟩, fun D hD => ?_⟩
      refine lc_it walk_list (SPv H D fun i => (lens (cs.take i)).map V.int) (spv0 hD rfl) (fun i H2 _ p => sm_l (p.1) h) ?_ ?_
      · rintro i x H2 H3 hi ⟨p1, p2⟩ ⟨rfl, hx⟩
        obtain ⟨c, hc, rfl⟩ := cx_at hx
        have hln := lens_len (cs.take i)
        rw [List.length_take] at hln
        cases c with
        | none =>
          refine ⟨rfl, _, rfl, rfl, _, rfl, iteF ⟨p1, ?_⟩⟩
          rw [p2]
          dsimp only
          rw [lens_take hc]
          show some (HO.lst ((lens (cs.take i)).map V.int)) = some (HO.lst ((lens (cs.take i) ++ []).map V.int))
          rw [List.append_nil]
        | some l =>
          refine ⟨rfl, _, rfl, rfl, true, rfl, iteT ⟨_, rfl, Tx l, rfl, ?_, spv_put hD p1 p2 ?_ ?_⟩⟩
          · rw [tx_len]
            have := hb l (List.mem_of_getElem? hc)
            exact small_line (by omega)
          · rw [List.length_map]
            omega
          · rw [lens_take hc, List.map_append, tx_len]
            rfl
      · rintro H2 ⟨p1, p2⟩
        dsimp only at p2
        rw [List.length_map, List.take_length] at p2
        exact q _ D p1 hD p2
    · refine .inr ⟨_, rfl, a, rfl, ⟨_, h⟩, fun D hD => ?_⟩
      refine lc_it walk_tup (SPv H D fun i => (lens (cs.take i)).map V.int) (spv0 hD rfl) (fun i H2 _ p => sm_t (p.1) h) ?_ ?_
      · rintro i x H2 H3 hi ⟨p1, p2⟩ ⟨rfl, hx⟩
        obtain ⟨c, hc, rfl⟩ := cx_at hx
        have hln := lens_len (cs.take i)
        rw [List.length_take] at hln
        cases c with
        | none =>
          refine ⟨rfl, _, rfl, rfl, _, rfl, iteF ⟨p1, ?_⟩⟩
          rw [p2]
          dsimp only
          rw [lens_take hc]
          show some (HO.lst ((lens (cs.take i)).map V.int)) = some (HO.lst ((lens (cs.take i) ++ []).map V.int))
          rw [List.append_nil]
        | some l =>
          refine ⟨rfl, _, rfl, rfl, true, rfl, iteT ⟨_, rfl, Tx l, rfl, ?_, spv_put hD p1 p2 ?_ ?_⟩⟩
          · rw [tx_len]
            have := hb l (List.mem_of_getElem? hc)
            exact small_line (by omega)
          · rw [List.length_map]
            omega
          · rw [lens_take hc, List.map_append, tx_len]
            rfl
      · rintro H2 ⟨p1, p2⟩
        dsimp only at p2
        rw [List.length_map, List.take_length] at p2
        exact q _ D p1 hD p2
abbrev CLE (P : Program) (w : World) (K : PySem.W.Frag) (mg : Str → Option Value) (base : Heap) : Prop := Cal P w K mg base 1 "lengths_of" st_lengths_of ["row"] (spLengths K)
abbrev st_is_even : Stmt := top 15
abbrev nm_is_even : List Str := ["row", "lengths"]
theorem sc_is_even : FnScope nm_is_even ["row"] (defScope st_is_even) := ⟨rfl, rfl, rfl, by decide +kernel, rfl, by decide +kernel, by decide +kernel⟩
def spIsEven (K : PySem.W.Frag) : Sp := fun vs H Q _ => ∃ a cs, vs = [.ref a] ∧ SqLT K H a (cs.map cx) ∧ cs.length ≤ 1000 ∧ (∀ l, some l ∈ cs → l.length ≤ 10000) ∧ lens cs ≠ [] ∧ ∀ H', Same H H' → Q (.bl (evenB cs)) H'
theorem ok_is_even {f : Addr} {fd : FuncData} (F : Fun K "is_even" "is_even" st_is_even f fd) (T : Blt mg) (C_lengths_of : CLE P w K mg base) : FnOk P w K mg base CX0 2 f fd ["row"] (spIsEven K) := by
  refine F.ok sc_is_even (fun vs H Q E h => ?_) (fun cdv A outer s H vs Q E hr h => ?_)
  · obtain ⟨a, cs, rfl, _⟩ := h
    rfl
  · refine ⟨_, (pss_cons (ps_set (i := 1) sc_is_even.nd rfl (Or.inl rfl) (pe_cl C_lengths_of (hr.mono (by decide)) rfl (pa_cons (pv 0) pa_nil)))
  (pss_one (ps_ret (pe_cmpR op_eq (pe_callB (cr_min rfl) (by rfl) T.n_min (by decide +kernel) (pa_cons (pv 1) pa_nil)) (pe_callB (cr_max rfl) (by rfl) T.n_max (by decide +kernel) (pa_cons (pv 1) pa_nil)) (nomark _))))), ?_⟩
    obtain ⟨a, cs, rfl, hS, hl, hb, h0, q⟩ := h
    have hpos : 0 < (lens cs).length := List.length_pos_iff.mpr h0
    refine ⟨_, rfl, a, cs, rfl, hS, hl, hb, fun H1 p s1 pn hp => ?_⟩
    refine ⟨_, rfl, p, lens cs, rfl, SqL.of hp, hpos, fun m hm hmin => ?_⟩
    refine ⟨_, rfl, p, lens cs, rfl, SqL.of hp, hpos, fun n hn hmax => ⟨rfl, ?_⟩⟩
    have e : decide (V.int m = V.int n) = evenB cs := by
      unfold evenB
      cases hc : lens cs with
      | nil => exact absurd hc h0
      | cons k r =>
        rw [hc] at hm hn hmin hmax
        have k1 := hmin k List.mem_cons_self
        have k2 := hmax k List.mem_cons_self
        dsimp only
        by_cases e : m = n
        · subst e
          rw [decide_eq_true rfl]
          symm
          refine List.all_eq_true.mpr fun x hx => decide_eq_true ?_
          have x1 := hmin x (List.mem_cons_of_mem _ hx)
          have x2 := hmax x (List.mem_cons_of_mem _ hx)
          omega
        · rw [decide_eq_false fun z => e (V.int.inj z)]
          symm
          refine List.all_eq_false.mpr ?_
          by_cases e1 : m = k
          · rcases List.mem_cons.mp hn with e2 | hn
            · exact absurd (e1.trans e2.symm) e
            · exact ⟨n, hn, by simpa using fun z : n = k => e (e1.trans z.symm)⟩
          · rcases List.mem_cons.mp hm with e2 | hm
            · exact absurd e2 e1
            · exact ⟨m, hm, by simpa using e1⟩
    rw [e]
    exact q _ s1
abbrev st_width_of : Stmt := top 16
abbrev nm_width_of : List Str := ["row"]
theorem sc_width_of : FnScope nm_width_of ["row"] (defScope st_width_of) := ⟨rfl, rfl, rfl, by decide +kernel, rfl, by decide +kernel, by decide +kernel⟩
def spWidth (K : PySem.W.Frag) : Sp := fun vs H Q _ => ∃ a cs m r, vs = [.ref a] ∧ SqLT K H a (cs.map cx) ∧ cs.length ≤ 1000 ∧ (∀ l, some l ∈ cs → l.length ≤ 10000) ∧ lens cs = m :: r ∧ ∀ H', Same H H' → Q (.int m) H'
theorem ok_width_of {f : Addr} {fd : FuncData} (F : Fun K "width_of" "width_of" st_width_of f fd) (T : Blt mg) (C_lengths_of : CLE P w K mg base) : FnOk P w K mg base CX0 2 f fd ["row"] (spWidth K) := by
  refine F.ok sc_width_of (fun vs H Q E h => ?_) (fun cdv A outer s H vs Q E hr h => ?_)
  · obtain ⟨a, cs, m, r, rfl, _⟩ := h
    rfl
  · refine ⟨_, (pss_one (ps_ret (pe_ix ix_list (pe_cl C_lengths_of (hr.mono (by decide)) rfl (pa_cons (pv 0) pa_nil)) pe_int (fun _ _ => rfl)))), ?_⟩
    obtain ⟨a, cs, m, r, rfl, hS, hl, hb, e, q⟩ := h
    refine ⟨_, rfl, a, cs, rfl, hS, hl, hb, fun H1 p s1 pn hp => ?_⟩
    rw [e] at hp
    exact ⟨p, _, 0, _, rfl, rfl, SqL.of hp, atI_nat (j := 0) rfl, q _ s1⟩
end
end K6
namespace K6
open PySem PySem.Spec PyProof.Rows L2 K0 K4
def Oo (cs : Nat → Addr) (no : Nat) (fs : List (Str × V)) (H : Hp) : XW := fun cls d H' => cls = .ref (cs no) ∧ ∃ dd, d = some dd ∧ Same H H' ∧ H' dd = some (.xd fs)
def Rq (cs : Nat → Addr) (no : Nat) (fs : List (Str × V)) (H : Hp) (E : XW) : Prop := ∀ cls d H', Oo cs no fs H cls d H' → E cls d H'
theorem Rq.sm {cs : Nat → Addr} {no : Nat} {fs : List (Str × V)} {H H1 : Hp} {E : XW} (s : Same H H1) (h : Rq cs no fs H E) : Rq cs no fs H1 E := fun cls d H' ⟨e, dd, ed, s2, q⟩ => h cls d H' ⟨e, dd, ed, s.trans s2, q⟩
/-- the classes: 0 BadSheet, 1 BadNumber, 2 Misfit, 3 Twice, 4 NoRow, 5 NoLanguage, 6 NoPlace, 7 TooMany, 8 BadText -/
abbrev XSheet (cs : Nat → Addr) (z : Str) (H : Hp) (E : XW) : Prop := Rq cs 0 [("part", .str z)] H E
theorem raise1 {cs : Nat → Addr} {no : Nat} {f : Str} {v : V} {H : Hp} {E : XW} (h : Rq cs no [(f, v)] H E) : cR1 (cs no) f (fun cls d H' => E cls d H') [v] H := fun d H' s z => h _ _ _ ⟨rfl, d, rfl, s, z⟩
theorem raise2 {cs : Nat → Addr} {no : Nat} {f g : Str} {u v : V} {H : Hp} {E : XW} (h : Rq cs no [(g, v), (f, u)] H E) : cR2 (cs no) f g (fun cls d H' => E cls d H') [u, v] H := fun d H' s z => h _ _ _ ⟨rfl, d, rfl, s, z⟩
/-- a name, or not -/
def Nv (K : PySem.W.Frag) (H : Hp) (x : V) (b : Bool) : Prop := Sov K H x (fun l => b = nmOk l) (b = false)
def Nvs (K : PySem.W.Frag) (H : Hp) (xs : List V) (bs : List Bool) : Prop := xs.length = bs.length ∧ ∀ (i : Nat) x, xs[i]? = some x → Nv K H x (bs.getD i false)
section
variable {P : Program} {w : World} {K : PySem.W.Frag} {mg : Str → Option Value} {base : Heap}
variable {cs : Nat → Addr}
abbrev st_need_names : Stmt := top 43
abbrev nm_need_names : List Str := ["languages", "name"]
theorem sc_need_names : FnScope nm_need_names ["languages"] (defScope st_need_names) := ⟨rfl, rfl, rfl, by decide +kernel, rfl, by decide +kernel, by decide +kernel⟩
def spNeedNames (K : PySem.W.Frag) (cs : Nat → Addr) : Sp := fun vs H Q E => ∃ v n, vs = [v] ∧ Kd K H v n ∧ (((n == "list" || n == "tuple") = false ∧ XSheet cs "languages" H E) ∨
  ((n == "list" || n == "tuple") = true ∧ ∃ a xs bs, v = .ref a ∧ SqLT K H a xs ∧ xs.length ≤ 1000 ∧ Nvs K H xs bs ∧ ((xs ≠ [] ∧ bs.all id = true) → ∀ H', Same H H' → Q .non H') ∧ (¬ (xs ≠ [] ∧ bs.all id = true) → XSheet cs "languages" H E)))
theorem ok_need_names {f : Addr} {fd : FuncData} (F : Fun K "need_names" "need_names" st_need_names f fd) (T : Blt mg) (E_BadSheet : Rs1 P w K mg base "BadSheet" (cs 0) "part") (C_is_list : Cal P w K mg base 1 "is_list" st_is_list ["value"] (spIsList K))
    (C_is_name : Cal P w K mg base 1 "is_name" st_is_name ["value"] (spIsName K)) : FnOk P w K mg base (L2.CX P w) 3 f fd ["languages"] (spNeedNames K cs) := by
  refine F.okX sc_need_names (fun vs H Q E h => ?_) (fun cdv A outer s H vs Q E hr h => ?_)
  · obtain ⟨v, n, rfl, _⟩ := h
    rfl
  · refine ⟨_, (pss_one (ps_if (PW.pt (pw_or (pt_not (pt_val (pe_cl C_is_list (hr.mono (by decide)) rfl (pa_cons (pv 0) pa_nil)))) (pw_or (pt_cmpR op_eq (pe_callB call_len_seq (by rfl) T.n_len (by decide +kernel) (pa_cons (pv 0) pa_nil)) pe_int (nomark _)) (pw_or1 (pt_not (pt_val (pe_callB (cr_all rfl) (by rfl) T.n_all (by decide +kernel) (pa_cons (pe_lc (own := [("name", 1)]) (g := (gName 1)) (tt := tYes) rfl sc_need_names.nd (pi_lt (pv 0)) (blkOk_by (N := nm_need_names) (sc := defScope st_need_names) (own := [("name", 1)]) (by decide +kernel)) (fun _ _ _ _ _ => by exact pg_name (i := 1) sc_need_names.nd rfl (Or.inl rfl)) (fun _ _ _ _ _ => pts_nil) (fun _ _ _ _ _ => (pe_cl C_is_name (hr.mono (by decide)) rfl (pa_cons (pv 1) pa_nil)))) pa_nil)))))))) (pss_one (ps_raise1 E_BadSheet (hr.mono (by decide)) rfl (takes_of rfl rfl rfl rfl) rfl (pa_cons pe_str pa_nil))) pss_nil)), ?_⟩
    obtain ⟨v, n, rfl, kd, ⟨hn, q⟩ | ⟨hn, a, xs, bs, rfl, hS, hl, hk, q1, q2⟩⟩ := h
    · refine ⟨_, rfl, v, n, rfl, kd, fun H1 s1 => ⟨_, rfl, ?_⟩⟩
      rw [hn]
      exact iteT (iteT (raise1 (q.sm s1)))
    · refine ⟨_, rfl, _, n, rfl, kd, fun H1 s1 => ⟨_, rfl, ?_⟩⟩
      rw [hn]
      refine iteF ⟨_, rfl, a, xs, rfl, hS.imp (sm_l s1) (sm_t s1), rfl, _, rfl, ?_⟩
      by_cases h0 : xs = []
      · subst h0
        exact iteT (iteT (raise1 ((q2 fun z => z.1 rfl).sm s1)))
      · rw [decide_eq_false fun z => h0 (List.length_eq_zero_iff.mp (by have := V.int.inj z; omega))]
        refine iteF ?_
        rcases hS with h | h
        · refine .inl ⟨_, rfl, a, rfl, ⟨_, sm_l s1 h⟩, fun D hD => ?_⟩
          refine lc_it walk_list (SPv H1 D fun i => (bs.take i).map V.bl) (spv0 hD rfl) (fun i H2 _ p => sm_l (s1.trans p.1) h) ?_ ?_
          · rintro i x H2 H3 hi ⟨p1, p2⟩ ⟨rfl, hx⟩
            have hik : i < bs.length := by
              rw [← hk.1]
              exact hi
            have hb := sov_same (s1.trans p1) (hk.2 i x hx)
            have fin : ∃ acc, H3 D = some (.lst acc) ∧ acc.length < sizeLine ∧ SPv H1 D (fun i => (bs.take i).map V.bl) (i + 1) (upd H3 D (.lst (acc ++ [.bl (bs.getD i false)]))) := by
              refine spv_put hD p1 p2 ?_ ?_
              · rw [List.length_map, List.length_take]
                omega
              · rw [List.take_succ, List.map_append, List.getElem?_eq_getElem hik]
                simp [hik]
            refine ⟨rfl, _, rfl, x, rfl, ?_⟩
            refine hb.imp (fun ⟨l, e, hl, z⟩ => ⟨l, e, hl, ?_⟩) fun ⟨n, kd, hn, z⟩ => ⟨n, kd, hn, ?_⟩
            · rw [z] at fin
              exact fin
            · rw [z] at fin
              exact fin
          · rintro H2 ⟨p1, p2⟩
            dsimp only at p2
            rw [hk.1, List.take_length] at p2
            refine ⟨D, bs, rfl, SqL.of p2, _, rfl, ?_⟩
            cases hall : bs.all id
            · exact iteT (raise1 ((q2 fun z => by rw [hall] at z; cases z.2).sm (s1.trans p1)))
            · exact iteF (q1 ⟨h0, hall⟩ _ (s1.trans p1))
        · refine .inr ⟨_, rfl, a, rfl, ⟨_, sm_t s1 h⟩, fun D hD => ?_⟩
          refine lc_it walk_tup (SPv H1 D fun i => (bs.take i).map V.bl) (spv0 hD rfl) (fun i H2 _ p => sm_t (s1.trans p.1) h) ?_ ?_
          · rintro i x H2 H3 hi ⟨p1, p2⟩ ⟨rfl, hx⟩
            have hik : i < bs.length := by
              rw [← hk.1]
              exact hi
            have hb := sov_same (s1.trans p1) (hk.2 i x hx)
            have fin : ∃ acc, H3 D = some (.lst acc) ∧ acc.length < sizeLine ∧ SPv H1 D (fun i => (bs.take i).map V.bl) (i + 1) (upd H3 D (.lst (acc ++ [.bl (bs.getD i false)]))) := by
              refine spv_put hD p1 p2 ?_ ?_
              · rw [List.length_map, List.length_take]
                omega
              · rw [List.take_succ, List.map_append, List.getElem?_eq_getElem hik]
                simp [hik]
            refine ⟨rfl, _, rfl, x, rfl, ?_⟩
            refine hb.imp (fun ⟨l, e, hl, z⟩ => ⟨l, e, hl, ?_⟩) fun ⟨n, kd, hn, z⟩ => ⟨n, kd, hn, ?_⟩
            · rw [z] at fin
              exact fin
            · rw [z] at fin
              exact fin
          · rintro H2 ⟨p1, p2⟩
            dsimp only at p2
            rw [hk.1, List.take_length] at p2
            refine ⟨D, bs, rfl, SqL.of p2, _, rfl, ?_⟩
            cases hall : bs.all id
            · exact iteT (raise1 ((q2 fun z => by rw [hall] at z; cases z.2).sm (s1.trans p1)))
            · exact iteF (q1 ⟨h0, hall⟩ _ (s1.trans p1))
abbrev st_need_once : Stmt := top 44
abbrev nm_need_once : List Str := ["values", "twice"]
theorem sc_need_once : FnScope nm_need_once ["values"] (defScope st_need_once) := ⟨rfl, rfl, rfl, by decide +kernel, rfl, by decide +kernel, by decide +kernel⟩
def spNeedOnce (K : PySem.W.Frag) (cs : Nat → Addr) : Sp := fun vs H Q E => ∃ a ks, vs = [.ref a] ∧ SqLT K H a (ks.map kV) ∧ ks.length ≤ 100 ∧ (ft [] ks = .non → ∀ H', Same H H' → Q .non H') ∧ (ft [] ks ≠ .non → Rq cs 3 [("value", ft [] ks)] H E)
theorem ok_need_once {f : Addr} {fd : FuncData} (F : Fun K "need_once" "need_once" st_need_once f fd) (E_Twice : Rs1 P w K mg base "Twice" (cs 3) "value") (C_first_twice : Cal P w K mg base 1 "first_twice" st_first_twice ["values"] (spFirstTwice K)) :
    FnOk P w K mg base (L2.CX P w) 3 f fd ["values"] (spNeedOnce K cs) := by
  refine F.okX sc_need_once (fun vs H Q E h => ?_) (fun cdv A outer s H vs Q E hr h => ?_)
  · obtain ⟨a, ks, rfl, _⟩ := h
    rfl
  · refine ⟨_, (pss_cons (ps_set (i := 1) sc_need_once.nd rfl (Or.inl rfl) (pe_cl C_first_twice (hr.mono (by decide)) rfl (pa_cons (pv 0) pa_nil)))
  (pss_one (ps_if (pt_cmpR op_notN (pv 1) pe_non (nomark _)) (pss_one (ps_raise1 E_Twice (hr.mono (by decide)) rfl (takes_of rfl rfl rfl rfl) rfl (pa_cons (pv 1) pa_nil))) pss_nil))), ?_⟩
    obtain ⟨a, ks, rfl, hS, hl, q1, q2⟩ := h
    refine ⟨_, rfl, a, ks, rfl, hS, hl, fun H1 s1 => ?_⟩
    refine ⟨_, rfl, rfl, _, rfl, ?_⟩
    by_cases h0 : ft [] ks = .non
    · rw [h0]
      exact iteF (q1 h0 _ s1)
    · rw [decide_eq_false h0]
      exact iteT ⟨_, rfl, raise1 ((q2 h0).sm s1)⟩
end
end K6
namespace K6
open PySem PySem.Spec PyProof.Rows L2 K0 K4
/-- what may stand among rows, and whether it is a row of so many cells with one in it -/
def isLT (n : String) : Bool := n == "list" || n == "tuple"
def Rv (K : PySem.W.Frag) (H : Hp) (m : Nat) (x : V) (b : Bool) : Prop := ∃ n, Kd K H x n ∧ ((isLT n = false ∧ b = false) ∨ (isLT n = true ∧ ∃ a ys bs, x = .ref a ∧ SqLT K H a ys ∧ ys.length ≤ 1000 ∧ Cvs K H ys bs ∧ b = ((decide (ys.length = m) && bs.all id) && hasC ys)))
def Rvs (K : PySem.W.Frag) (H : Hp) (m : Nat) (xs : List V) (bs : List Bool) : Prop := xs.length = bs.length ∧ ∀ (i : Nat) x, xs[i]? = some x → Rv K H m x (bs.getD i false)
theorem lt_same {K : PySem.W.Frag} {H H' : Hp} {a : Addr} {xs : List V} (s : Same H H') (h : SqLT K H a xs) : SqLT K H' a xs := h.imp (sm_l s) (sm_t s)
theorem rv_same {K : PySem.W.Frag} {H H' : Hp} {m : Nat} {x : V} {b : Bool} (s : Same H H') (h : Rv K H m x b) : Rv K H' m x b := by
  obtain ⟨n, kd, h | ⟨h, a, ys, bs, e, hS, hl, hc, hb⟩⟩ := h
  · exact ⟨n, ⟨tyx_same s kd.1, kd.2⟩, .inl h⟩
  · exact ⟨n, ⟨tyx_same s kd.1, kd.2⟩, .inr ⟨h, a, ys, bs, e, lt_same s hS, hl, cvs_same s hc, hb⟩⟩
section
variable {P : Program} {w : World} {K : PySem.W.Frag} {mg : Str → Option Value} {base : Heap}
variable {cs : Nat → Addr}
abbrev st_need_rows : Stmt := top 45
abbrev nm_need_rows : List Str := ["rows", "many", "row"]
theorem sc_need_rows : FnScope nm_need_rows ["rows", "many"] (defScope st_need_rows) := ⟨rfl, rfl, rfl, by decide +kernel, rfl, by decide +kernel, by decide +kernel⟩
def spNeedRows (K : PySem.W.Frag) (cs : Nat → Addr) : Sp := fun vs H Q E => ∃ (v : V) (n : String) (m : Nat), vs = [v, .int (m : Int)] ∧ Kd K H v n ∧ ((isLT n = false ∧ XSheet cs "rows" H E) ∨
  (isLT n = true ∧ ∃ a xs bs, v = .ref a ∧ SqLT K H a xs ∧ xs.length ≤ 1000 ∧ Rvs K H m xs bs ∧ ((xs ≠ [] ∧ bs.all id = true) → ∀ H', Same H H' → Q .non H') ∧ (¬ (xs ≠ [] ∧ bs.all id = true) → XSheet cs "rows" H E)))
theorem ok_need_rows {f : Addr} {fd : FuncData} (F : Fun K "need_rows" "need_rows" st_need_rows f fd) (T : Blt mg) (E_BadSheet : Rs1 P w K mg base "BadSheet" (cs 0) "part") (C_is_list : Cal P w K mg base 1 "is_list" st_is_list ["value"] (spIsList K))
    (C_is_row : Cal P w K mg base 3 "is_row" st_is_row ["value", "many"] (spIsRow K)) (C_has_cell : Cal P w K mg base 1 "has_cell" st_has_cell ["row"] (spHasCell K)) : FnOk P w K mg base (L2.CX P w) 4 f fd ["rows", "many"] (spNeedRows K cs) := by
  refine F.okX sc_need_rows (fun vs H Q E h => ?_) (fun cdv A outer s H vs Q E hr h => ?_)
  · obtain ⟨v, n, m, rfl, _⟩ := h
    rfl
  · refine ⟨_, (pss_cons (ps_if (PW.pt (pw_or (pt_not (pt_val (pe_cl C_is_list (hr.mono (by decide)) rfl (pa_cons (pv 0) pa_nil)))) (pw_or1 (pt_cmpR op_eq (pe_callB call_len_seq (by rfl) T.n_len (by decide +kernel) (pa_cons (pv 0) pa_nil)) pe_int (nomark _))))) (pss_one (ps_raise1 E_BadSheet (hr.mono (by decide)) rfl (takes_of rfl rfl rfl rfl) rfl (pa_cons pe_str pa_nil))) pss_nil)
  (pss_one (ps_if (pt_not (pt_val (pe_callB (cr_all rfl) (by rfl) T.n_all (by decide +kernel) (pa_cons (pe_lc (own := [("row", 2)]) (g := (gName 2)) (tt := tYes) rfl sc_need_rows.nd (pi_lt (pv 0)) (blkOk_by (N := nm_need_rows) (sc := defScope st_need_rows) (own := [("row", 2)]) (by decide +kernel)) (fun _ _ _ _ _ => by exact pg_name (i := 2) sc_need_rows.nd rfl (Or.inl rfl)) (fun _ _ _ _ _ => pts_nil) (fun _ _ _ _ _ => (pe_and (pe_cl C_is_row (hr.mono (by decide)) rfl (pa_cons (pv 2) (pa_cons (pv 1) pa_nil))) (pe_one (pe_cl C_has_cell (hr.mono (by decide)) rfl (pa_cons (pv 2) pa_nil)))))) pa_nil)))) (pss_one (ps_raise1 E_BadSheet (hr.mono (by decide)) rfl (takes_of rfl rfl rfl rfl) rfl (pa_cons pe_str pa_nil))) pss_nil))), ?_⟩
    obtain ⟨v, n, m, rfl, kd, ⟨hn, q⟩ | ⟨hn, a, xs, bs, rfl, hS, hl, hk, q1, q2⟩⟩ := h
    · refine ⟨_, rfl, v, n, rfl, kd, fun H1 s1 => ⟨_, rfl, ?_⟩⟩
      rw [show (n == "list" || n == "tuple") = false from hn]
      exact iteT (iteT (raise1 (q.sm s1)))
    · refine ⟨_, rfl, _, n, rfl, kd, fun H1 s1 => ⟨_, rfl, ?_⟩⟩
      rw [show (n == "list" || n == "tuple") = true from hn]
      refine iteF ⟨_, rfl, a, xs, rfl, hS.imp (sm_l s1) (sm_t s1), rfl, _, rfl, ?_⟩
      by_cases h0 : xs = []
      · subst h0
        exact iteT (raise1 ((q2 fun z => z.1 rfl).sm s1))
      · rw [decide_eq_false fun z => h0 (List.length_eq_zero_iff.mp (by have := V.int.inj z; omega))]
        refine iteF ?_
        rcases hS with h | h
        · refine .inl ⟨_, rfl, a, rfl, ⟨_, sm_l s1 h⟩, fun D hD => ?_⟩
          refine lc_it walk_list (SPv H1 D fun i => (bs.take i).map V.bl) (spv0 hD rfl) (fun i H2 _ p => sm_l (s1.trans p.1) h) ?_ ?_
          · rintro i x H2 H3 hi ⟨p1, p2⟩ ⟨rfl, hx⟩
            have hik : i < bs.length := by
              rw [← hk.1]
              exact hi
            have fin : ∀ H4, Same H3 H4 → ∃ acc, H4 D = some (.lst acc) ∧ acc.length < sizeLine ∧ SPv H1 D (fun i => (bs.take i).map V.bl) (i + 1) (upd H4 D (.lst (acc ++ [.bl (bs.getD i false)]))) := fun H4 s4 => by
              refine spv_put hD (p1.trans s4) (s4 _ _ p2) ?_ ?_
              · rw [List.length_map, List.length_take]
                omega
              · rw [List.take_succ, List.map_append, List.getElem?_eq_getElem hik]
                simp [hik]
            obtain ⟨n2, kd2, ⟨hn2, hb⟩ | ⟨hn2, a2, ys, bs2, rfl, hS2, hl2, hc2, hb⟩⟩ := rv_same (s1.trans p1) (hk.2 i x hx)
            · rw [hb] at fin
              exact ⟨rfl, _, rfl, _, rfl, x, n2, m, rfl, kd2, .inl ⟨hn2, fun H4 s4 => ⟨_, rfl, iteF (fin H4 s4)⟩⟩⟩
            · refine ⟨rfl, _, rfl, _, rfl, _, n2, m, rfl, kd2, .inr ⟨hn2, a2, ys, bs2, rfl, hS2, hl2, hc2, fun H4 s4 => ⟨_, rfl, ?_⟩⟩⟩
              cases hz : (decide (ys.length = m) && bs2.all id)
              · rw [hz, Bool.false_and] at hb
                rw [hb] at fin
                exact iteF (fin H4 s4)
              · rw [hz, Bool.true_and] at hb
                rw [hb] at fin
                exact iteT ⟨_, rfl, a2, ys, rfl, lt_same s4 hS2, hl2, fun H5 s5 => fin H5 (s4.trans s5)⟩
          · rintro H2 ⟨p1, p2⟩
            dsimp only at p2
            rw [hk.1, List.take_length] at p2
            refine ⟨D, bs, rfl, SqL.of p2, _, rfl, ?_⟩
            cases hall : bs.all id
            · exact iteT (raise1 ((q2 fun z => by rw [hall] at z; cases z.2).sm (s1.trans p1)))
            · exact iteF (q1 ⟨h0, hall⟩ _ (s1.trans p1))
        · refine .inr ⟨_, rfl, a, rfl, ⟨_, sm_t s1 h⟩, fun D hD => ?_⟩
          refine lc_it walk_tup (SPv H1 D fun i => (bs.take i).map V.bl) (spv0 hD rfl) (fun i H2 _ p => sm_t (s1.trans p.1) h) ?_ ?_
          · rintro i x H2 H3 hi ⟨p1, p2⟩ ⟨rfl, hx⟩
            have hik : i < bs.length := by
              rw [← hk.1]
              exact hi
            have fin : ∀ H4, Same H3 H4 → ∃ acc, H4 D = some (.lst acc) ∧ acc.length < sizeLine ∧ SPv H1 D (fun i => (bs.take i).map V.bl) (i + 1) (upd H4 D (.lst (acc ++ [.bl (bs.getD i false)]))) := fun H4 s4 => by
              refine spv_put hD (p1.trans s4) (s4 _ _ p2) ?_ ?_
              · rw [List.length_map, List.length_take]
                omega
              · rw [List.take_succ, List.map_append, List.getElem?_eq_getElem hik]
                simp [hik]
            obtain ⟨n2, kd2, ⟨hn2, hb⟩ | ⟨hn2, a2, ys, bs2, rfl, hS2, hl2, hc2, hb⟩⟩ := rv_same (s1.trans p1) (hk.2 i x hx)
            · rw [hb] at fin
              exact ⟨rfl, _, rfl, _, rfl, x, n2, m, rfl, kd2, .inl ⟨hn2, fun H4 s4 => ⟨_, rfl, iteF (fin H4 s4)⟩⟩⟩
            · refine ⟨rfl, _, rfl, _, rfl, _, n2, m, rfl, kd2, .inr ⟨hn2, a2, ys, bs2, rfl, hS2, hl2, hc2, fun H4 s4 => ⟨_, rfl, ?_⟩⟩⟩
              cases hz : (decide (ys.length = m) && bs2.all id)
              · rw [hz, Bool.false_and] at hb
                rw [hb] at fin
                exact iteF (fin H4 s4)
              · rw [hz, Bool.true_and] at hb
                rw [hb] at fin
                exact iteT ⟨_, rfl, a2, ys, rfl, lt_same s4 hS2, hl2, fun H5 s5 => fin H5 (s4.trans s5)⟩
          · rintro H2 ⟨p1, p2⟩
            dsimp only at p2
            rw [hk.1, List.take_length] at p2
            refine ⟨D, bs, rfl, SqL.of p2, _, rfl, ?_⟩
            cases hall : bs.all id
            · exact iteT (raise1 ((q2 fun z => by rw [hall] at z; cases z.2).sm (s1.trans p1)))
            · exact iteF (q1 ⟨h0, hall⟩ _ (s1.trans p1))
end
end K6
namespace K6
open PySem PySem.Spec PyProof.Rows L2 K0 K4
/-- rows whose cells are known -/
def Rws (K : PySem.W.Frag) (H : Hp) (xs : List V) (css : List (List Cell)) : Prop := xs.length = css.length ∧ ∀ (i : Nat) x r, xs[i]? = some x → css[i]? = some r → ∃ a, x = .ref a ∧ SqLT K H a (r.map cx)
theorem rws_same {K : PySem.W.Frag} {H H' : Hp} {xs : List V} {css : List (List Cell)} (s : Same H H') (h : Rws K H xs css) : Rws K H' xs css := ⟨h.1, fun i x r e1 e2 => by
  obtain ⟨a, ex, hS⟩ := h.2 i x r e1 e2
  exact ⟨a, ex, lt_same s hS⟩⟩
/-- a row of at most a thousand cells, one of them with signs -/
def rowOk (r : List Cell) : Prop := r.length ≤ 1000 ∧ (∀ l, some l ∈ r → l.length ≤ 10000) ∧ lens r ≠ []
def wid (r : List Cell) : Int := (lens r).headD 0
structure Cst (mg : Str → Option Value) : Prop where
  g1 : ∃ t, mg "MOST_LANGUAGES" = some (.int 4 t)
  g2 : ∃ t, mg "MOST_ROWS" = some (.int 6 t)
  g3 : ∃ t, mg "MOST_PLACES" = some (.int 12 t)
section
variable {P : Program} {w : World} {K : PySem.W.Frag} {mg : Str → Option Value} {base : Heap}
variable {cs : Nat → Addr}
abbrev XMany (cs : Nat → Addr) (z : Str) (n : Int) (H : Hp) (E : XW) : Prop := Rq cs 7 [("most", .int n), ("what", .str z)] H E
abbrev st_need_sizes : Stmt := top 46
abbrev nm_need_sizes : List Str := ["languages", "rows", "row"]
theorem sc_need_sizes : FnScope nm_need_sizes ["languages", "rows"] (defScope st_need_sizes) := ⟨rfl, rfl, rfl, by decide +kernel, rfl, by decide +kernel, by decide +kernel⟩
def spNeedSizes (K : PySem.W.Frag) (cs : Nat → Addr) : Sp := fun vs H Q E => ∃ a b ls xs css, vs = [.ref a, .ref b] ∧ SqLT K H a ls ∧ SqLT K H b xs ∧ Rws K H xs css ∧ (∀ r ∈ css, rowOk r) ∧ css.length ≤ 1000 ∧
  (css.all evenB = false → Rq cs 2 [("part", .str "places")] H E) ∧ (css.all evenB = true → ((4 < ls.length → XMany cs "languages" 4 H E) ∧ (ls.length ≤ 4 → ((6 < xs.length → XMany cs "rows" 6 H E) ∧
    (xs.length ≤ 6 → ((12 < (css.map wid).sum → XMany cs "places" 12 H E) ∧ ((css.map wid).sum ≤ 12 → ∀ H', Same H H' → Q .non H')))))))
theorem ok_need_sizes {f : Addr} {fd : FuncData} (F : Fun K "need_sizes" "need_sizes" st_need_sizes f fd) (T : Blt mg) (TC : Cst mg) (E_Misfit : Rs1 P w K mg base "Misfit" (cs 2) "part") (E_TooMany : Rs2 P w K mg base "TooMany" (cs 7) "what" "most")
    (C_is_even : Cal P w K mg base 2 "is_even" st_is_even ["row"] (spIsEven K)) (C_width_of : Cal P w K mg base 2 "width_of" st_width_of ["row"] (spWidth K)) : FnOk P w K mg base (L2.CX P w) 3 f fd ["languages", "rows"] (spNeedSizes K cs) := by
  obtain ⟨t1, g_MOST_LANGUAGES⟩ := TC.g1
  obtain ⟨t2, g_MOST_ROWS⟩ := TC.g2
  obtain ⟨t3, g_MOST_PLACES⟩ := TC.g3
  refine F.okX sc_need_sizes (fun vs H Q E h => ?_) (fun cdv A outer s H vs Q E hr h => ?_)
  · obtain ⟨a, b, ls, xs, css, rfl, _⟩ := h
    rfl
  · refine ⟨_, (pss_cons (ps_if (pt_not (pt_val (pe_callB (cr_all rfl) (by rfl) T.n_all (by decide +kernel) (pa_cons (pe_lc (own := [("row", 2)]) (g := (gName 2)) (tt := tYes) rfl sc_need_sizes.nd (pi_lt (pv 1)) (blkOk_by (N := nm_need_sizes) (sc := defScope st_need_sizes) (own := [("row", 2)]) (by decide +kernel)) (fun _ _ _ _ _ => by exact pg_name (i := 2) sc_need_sizes.nd rfl (Or.inl rfl)) (fun _ _ _ _ _ => pts_nil) (fun _ _ _ _ _ => (pe_cl C_is_even (hr.mono (by decide)) rfl (pa_cons (pv 2) pa_nil)))) pa_nil)))) (pss_one (ps_raise1 E_Misfit (hr.mono (by decide)) rfl (takes_of rfl rfl rfl rfl) rfl (pa_cons pe_str pa_nil))) pss_nil)
  (pss_cons (ps_if (pt_cmpR op_gt (pe_callB call_len_seq (by rfl) T.n_len (by decide +kernel) (pa_cons (pv 0) pa_nil)) (pe_glob (v := .int 4) rfl g_MOST_LANGUAGES ⟨_, rfl⟩) (nomark _)) (pss_one (ps_raise2 E_TooMany (hr.mono (by decide)) rfl (takes_of rfl rfl rfl rfl) rfl (pa_cons pe_str (pa_cons (pe_glob (v := .int 4) rfl g_MOST_LANGUAGES ⟨_, rfl⟩) pa_nil)))) pss_nil)
  (pss_cons (ps_if (pt_cmpR op_gt (pe_callB call_len_seq (by rfl) T.n_len (by decide +kernel) (pa_cons (pv 1) pa_nil)) (pe_glob (v := .int 6) rfl g_MOST_ROWS ⟨_, rfl⟩) (nomark _)) (pss_one (ps_raise2 E_TooMany (hr.mono (by decide)) rfl (takes_of rfl rfl rfl rfl) rfl (pa_cons pe_str (pa_cons (pe_glob (v := .int 6) rfl g_MOST_ROWS ⟨_, rfl⟩) pa_nil)))) pss_nil)
  (pss_one (ps_if (pt_cmpR op_gt (pe_callB (cr_sum rfl) (by rfl) T.n_sum (by decide +kernel) (pa_cons (pe_lc (own := [("row", 2)]) (g := (gName 2)) (tt := tYes) rfl sc_need_sizes.nd (pi_lt (pv 1)) (blkOk_by (N := nm_need_sizes) (sc := defScope st_need_sizes) (own := [("row", 2)]) (by decide +kernel)) (fun _ _ _ _ _ => by exact pg_name (i := 2) sc_need_sizes.nd rfl (Or.inl rfl)) (fun _ _ _ _ _ => pts_nil) (fun _ _ _ _ _ => (pe_cl C_width_of (hr.mono (by decide)) rfl (pa_cons (pv 2) pa_nil)))) pa_nil)) (pe_glob (v := .int 12) rfl g_MOST_PLACES ⟨_, rfl⟩) (nomark _)) (pss_one (ps_raise2 E_TooMany (hr.mono (by decide)) rfl (takes_of rfl rfl rfl rfl) rfl (pa_cons pe_str (pa_cons (pe_glob (v := .int 12) rfl g_MOST_PLACES ⟨_, rfl⟩) pa_nil)))) pss_nil))))), ?_⟩
    obtain ⟨al, a, ls, xs, css, rfl, hL, hS, hk, ho, hl, q0, q1⟩ := h
    have h0 := hS
    rcases hS with h | h
    · refine .inl ⟨_, rfl, a, rfl, ⟨_, h⟩, fun D hD => ?_⟩
      refine lc_it walk_list (SPv H D fun i => ((css.take i).map evenB).map V.bl) (spv0 hD rfl) (fun i H2 _ p => sm_l (p.1) h) ?_ ?_
      · rintro i x H2 H3 hi ⟨p1, p2⟩ ⟨rfl, hx⟩
        have hik : i < css.length := by
          rw [← hk.1]
          exact hi
        have hr := List.getElem?_eq_getElem hik
        obtain ⟨a2, rfl, hS2⟩ := (rws_same p1 hk).2 i x _ hx hr
        have o2 := ho _ (List.getElem_mem hik)
        refine ⟨rfl, _, rfl, a2, _, rfl, hS2, o2.1, o2.2.1, o2.2.2, fun H4 s4 => ?_⟩
        refine spv_put hD (p1.trans s4) (s4 _ _ p2) ?_ ?_
        · rw [List.length_map, List.length_map, List.length_take]
          omega
        · rw [List.take_succ, List.map_append, List.map_append, hr]
          rfl
      · rintro H2 ⟨p1, p2⟩
        dsimp only at p2
        rw [hk.1, List.take_length] at p2
        refine ⟨D, css.map evenB, rfl, SqL.of p2, _, rfl, ?_⟩
        rw [show (css.map evenB).all id = css.all evenB by rw [List.all_map]; rfl]
        cases hall : css.all evenB
        · exact iteT (raise1 ((q0 hall).sm p1))
        · refine iteF ?_
          refine ⟨_, rfl, al, ls, rfl, lt_same p1 hL, _, _, rfl, rfl, _, rfl, ite2 (fun c => ?_) (fun c => ?_)⟩
          · exact raise2 (((q1 hall).1 (by have z := of_decide_eq_true c; omega)).sm p1)
          · have hl4 : ls.length ≤ 4 := by
              have z := of_decide_eq_false (Bool.eq_false_iff.mpr c)
              omega
            refine ⟨_, rfl, a, xs, rfl, lt_same p1 h0, _, _, rfl, rfl, _, rfl, ite2 (fun c => ?_) (fun c => ?_)⟩
            · exact raise2 ((((q1 hall).2 hl4).1 (by have z := of_decide_eq_true c; omega)).sm p1)
            · have hl6 : xs.length ≤ 6 := by
                have z := of_decide_eq_false (Bool.eq_false_iff.mpr c)
                omega
              rcases h0 with h | h
              · refine .inl ⟨_, rfl, a, rfl, ⟨_, sm_l p1 h⟩, fun D2 hD2 => ?_⟩
                refine lc_it walk_list (SPv H2 D2 fun i => ((css.take i).map wid).map V.int) (spv0 hD2 rfl) (fun i H2 _ p => sm_l (p1.trans p.1) h) ?_ ?_
                · rintro i x H4 H5 hi ⟨p3, p4⟩ ⟨rfl, hx⟩
                  have hik : i < css.length := by
                    rw [← hk.1]
                    exact hi
                  have hr := List.getElem?_eq_getElem hik
                  obtain ⟨a2, rfl, hS2⟩ := (rws_same (p1.trans p3) hk).2 i x _ hx hr
                  have o2 := ho _ (List.getElem_mem hik)
                  obtain ⟨m, rr, em⟩ : ∃ m rr, lens css[i] = m :: rr := by
                    cases e : lens css[i] with
                    | nil => exact absurd e o2.2.2
                    | cons m rr => exact ⟨m, rr, rfl⟩
                  refine ⟨rfl, _, rfl, a2, _, m, rr, rfl, hS2, o2.1, o2.2.1, em, fun H6 s6 => ?_⟩
                  refine spv_put hD2 (p3.trans s6) (s6 _ _ p4) ?_ ?_
                  · rw [List.length_map, List.length_map, List.length_take]
                    omega
                  · rw [List.take_succ, List.map_append, List.map_append, hr]
                    have ew : wid css[i] = m := by
                      unfold wid
                      rw [em]
                      rfl
                    show _ = _ ++ [V.int m]
                    rw [← ew]
                    rfl
                · rintro H4 ⟨p3, p4⟩
                  dsimp only at p4
                  rw [hk.1, List.take_length] at p4
                  refine ⟨D2, css.map wid, rfl, SqL.of p4, _, _, rfl, rfl, _, rfl, ite2 (fun c => ?_) (fun c => ?_)⟩
                  · exact raise2 (((((q1 hall).2 hl4).2 hl6).1 (of_decide_eq_true c)).sm (p1.trans p3))
                  · exact (((q1 hall).2 hl4).2 hl6).2 (by
                      have := of_decide_eq_false (Bool.eq_false_iff.mpr c)
                      exact Int.not_lt.mp this) _ (p1.trans p3)
              · refine .inr ⟨_, rfl, a, rfl, ⟨_, sm_t p1 h⟩, fun D2 hD2 => ?_⟩
                refine lc_it walk_tup (SPv H2 D2 fun i => ((css.take i).map wid).map V.int) (spv0 hD2 rfl) (fun i H2 _ p => sm_t (p1.trans p.1) h) ?_ ?_
                · rintro i x H4 H5 hi ⟨p3, p4⟩ ⟨rfl, hx⟩
                  have hik : i < css.length := by
                    rw [← hk.1]
                    exact hi
                  have hr := List.getElem?_eq_getElem hik
                  obtain ⟨a2, rfl, hS2⟩ := (rws_same (p1.trans p3) hk).2 i x _ hx hr
                  have o2 := ho _ (List.getElem_mem hik)
                  obtain ⟨m, rr, em⟩ : ∃ m rr, lens css[i] = m :: rr := by
                    cases e : lens css[i] with
                    | nil => exact absurd e o2.2.2
                    | cons m rr => exact ⟨m, rr, rfl⟩
                  refine ⟨rfl, _, rfl, a2, _, m, rr, rfl, hS2, o2.1, o2.2.1, em, fun H6 s6 => ?_⟩
                  refine spv_put hD2 (p3.trans s6) (s6 _ _ p4) ?_ ?_
                  · rw [List.length_map, List.length_map, List.length_take]
                    omega
                  · rw [List.take_succ, List.map_append, List.map_append, hr]
                    have ew : wid css[i] = m := by
                      unfold wid
                      rw [em]
                      rfl
                    show _ = _ ++ [V.int m]
                    rw [← ew]
                    rfl
                · rintro H4 ⟨p3, p4⟩
                  dsimp only at p4
                  rw [hk.1, List.take_length] at p4
                  refine ⟨D2, css.map wid, rfl, SqL.of p4, _, _, rfl, rfl, _, rfl, ite2 (fun c => ?_) (fun c => ?_)⟩
                  · exact raise2 (((((q1 hall).2 hl4).2 hl6).1 (of_decide_eq_true c)).sm (p1.trans p3))
                  · exact (((q1 hall).2 hl4).2 hl6).2 (by
                      have := of_decide_eq_false (Bool.eq_false_iff.mpr c)
                      exact Int.not_lt.mp this) _ (p1.trans p3)
    · refine .inr ⟨_, rfl, a, rfl, ⟨_, h⟩, fun D hD => ?_⟩
      refine lc_it walk_tup (SPv H D fun i => ((css.take i).map evenB).map V.bl) (spv0 hD rfl) (fun i H2 _ p => sm_t (p.1) h) ?_ ?_
      · rintro i x H2 H3 hi ⟨p1, p2⟩ ⟨rfl, hx⟩
        have hik : i < css.length := by
          rw [← hk.1]
          exact hi
        have hr := List.getElem?_eq_getElem hik
        obtain ⟨a2, rfl, hS2⟩ := (rws_same p1 hk).2 i x _ hx hr
        have o2 := ho _ (List.getElem_mem hik)
        refine ⟨rfl, _, rfl, a2, _, rfl, hS2, o2.1, o2.2.1, o2.2.2, fun H4 s4 => ?_⟩
        refine spv_put hD (p1.trans s4) (s4 _ _ p2) ?_ ?_
        · rw [List.length_map, List.length_map, List.length_take]
          omega
        · rw [List.take_succ, List.map_append, List.map_append, hr]
          rfl
      · rintro H2 ⟨p1, p2⟩
        dsimp only at p2
        rw [hk.1, List.take_length] at p2
        refine ⟨D, css.map evenB, rfl, SqL.of p2, _, rfl, ?_⟩
        rw [show (css.map evenB).all id = css.all evenB by rw [List.all_map]; rfl]
        cases hall : css.all evenB
        · exact iteT (raise1 ((q0 hall).sm p1))
        · refine iteF ?_
          refine ⟨_, rfl, al, ls, rfl, lt_same p1 hL, _, _, rfl, rfl, _, rfl, ite2 (fun c => ?_) (fun c => ?_)⟩
          · exact raise2 (((q1 hall).1 (by have z := of_decide_eq_true c; omega)).sm p1)
          · have hl4 : ls.length ≤ 4 := by
              have z := of_decide_eq_false (Bool.eq_false_iff.mpr c)
              omega
            refine ⟨_, rfl, a, xs, rfl, lt_same p1 h0, _, _, rfl, rfl, _, rfl, ite2 (fun c => ?_) (fun c => ?_)⟩
            · exact raise2 ((((q1 hall).2 hl4).1 (by have z := of_decide_eq_true c; omega)).sm p1)
            · have hl6 : xs.length ≤ 6 := by
                have z := of_decide_eq_false (Bool.eq_false_iff.mpr c)
                omega
              rcases h0 with h | h
              · refine .inl ⟨_, rfl, a, rfl, ⟨_, sm_l p1 h⟩, fun D2 hD2 => ?_⟩
                refine lc_it walk_list (SPv H2 D2 fun i => ((css.take i).map wid).map V.int) (spv0 hD2 rfl) (fun i H2 _ p => sm_l (p1.trans p.1) h) ?_ ?_
                · rintro i x H4 H5 hi ⟨p3, p4⟩ ⟨rfl, hx⟩
                  have hik : i < css.length := by
                    rw [← hk.1]
                    exact hi
                  have hr := List.getElem?_eq_getElem hik
                  obtain ⟨a2, rfl, hS2⟩ := (rws_same (p1.trans p3) hk).2 i x _ hx hr
                  have o2 := ho _ (List.getElem_mem hik)
                  obtain ⟨m, rr, em⟩ : ∃ m rr, lens css[i] = m :: rr := by
                    cases e : lens css[i] with
                    | nil => exact absurd e o2.2.2
                    | cons m rr => exact ⟨m, rr, rfl⟩
                  refine ⟨rfl, _, rfl, a2, _, m, rr, rfl, hS2, o2.1, o2.2.1, em, fun H6 s6 => ?_⟩
                  refine spv_put hD2 (p3.trans s6) (s6 _ _ p4) ?_ ?_
                  · rw [List.length_map, List.length_map, List.length_take]
                    omega
                  · rw [List.take_succ, List.map_append, List.map_append, hr]
                    have ew : wid css[i] = m := by
                      unfold wid
                      rw [em]
                      rfl
                    show _ = _ ++ [V.int m]
                    rw [← ew]
                    rfl
                · rintro H4 ⟨p3, p4⟩
                  dsimp only at p4
                  rw [hk.1, List.take_length] at p4
                  refine ⟨D2, css.map wid, rfl, SqL.of p4, _, _, rfl, rfl, _, rfl, ite2 (fun c => ?_) (fun c => ?_)⟩
                  · exact raise2 (((((q1 hall).2 hl4).2 hl6).1 (of_decide_eq_true c)).sm (p1.trans p3))
                  · exact (((q1 hall).2 hl4).2 hl6).2 (by
                      have := of_decide_eq_false (Bool.eq_false_iff.mpr c)
                      exact Int.not_lt.mp this) _ (p1.trans p3)
              · refine .inr ⟨_, rfl, a, rfl, ⟨_, sm_t p1 h⟩, fun D2 hD2 => ?_⟩
                refine lc_it walk_tup (SPv H2 D2 fun i => ((css.take i).map wid).map V.int) (spv0 hD2 rfl) (fun i H2 _ p => sm_t (p1.trans p.1) h) ?_ ?_
                · rintro i x H4 H5 hi ⟨p3, p4⟩ ⟨rfl, hx⟩
                  have hik : i < css.length := by
                    rw [← hk.1]
                    exact hi
                  have hr := List.getElem?_eq_getElem hik
                  obtain ⟨a2, rfl, hS2⟩ := (rws_same (p1.trans p3) hk).2 i x _ hx hr
                  have o2 := ho _ (List.getElem_mem hik)
                  obtain ⟨m, rr, em⟩ : ∃ m rr, lens css[i] = m :: rr := by
                    cases e : lens css[i] with
                    | nil => exact absurd e o2.2.2
                    | cons m rr => exact ⟨m, rr, rfl⟩
                  refine ⟨rfl, _, rfl, a2, _, m, rr, rfl, hS2, o2.1, o2.2.1, em, fun H6 s6 => ?_⟩
                  refine spv_put hD2 (p3.trans s6) (s6 _ _ p4) ?_ ?_
                  · rw [List.length_map, List.length_map, List.length_take]
                    omega
                  · rw [List.take_succ, List.map_append, List.map_append, hr]
                    have ew : wid css[i] = m := by
                      unfold wid
                      rw [em]
                      rfl
                    show _ = _ ++ [V.int m]
                    rw [← ew]
                    rfl
                · rintro H4 ⟨p3, p4⟩
                  dsimp only at p4
                  rw [hk.1, List.take_length] at p4
                  refine ⟨D2, css.map wid, rfl, SqL.of p4, _, _, rfl, rfl, _, rfl, ite2 (fun c => ?_) (fun c => ?_)⟩
                  · exact raise2 (((((q1 hall).2 hl4).2 hl6).1 (of_decide_eq_true c)).sm (p1.trans p3))
                  · exact (((q1 hall).2 hl4).2 hl6).2 (by
                      have := of_decide_eq_false (Bool.eq_false_iff.mpr c)
                      exact Int.not_lt.mp this) _ (p1.trans p3)
end
end K6
namespace K6
open PySem PySem.Spec PyProof.Rows L2
theorem enum_meets {v : Value} {o : Obj} {G : Heap → Prop} (B : Begins v o G) :
    Meets (Builtin.«enumerate.__new__» ⟨[.type "enumerate", v], []⟩) (fun _ R s => G s.heap ∧
      R (.ok (.ret (.ref (s.heap.push o).objs.size))) { s with heap := (s.heap.push o).push { cls := .type "enumerate", data := .fields #[.none, .bool false, .ref s.heap.objs.size, rawInt 0, .none, .none] } }) :=
  .of_wp fun prog w A R s hh => by
    obtain ⟨hp, gs, dr, tk, os⟩ := s
    obtain ⟨g0, hh⟩ := hh
    have sub := sub_enumerate
    have begins : ∀ {A' : Around} {E : Value → Shared → Prop} {Q : Value → Shared → Prop}, Q (.ref hp.objs.size) ⟨hp.push o, gs, dr, tk, os⟩ → wpAny (model prog w) A' (pyIter v) Q E ⟨hp, gs, dr, tk, os⟩ :=
      fun q => B.iter prog w _ _ ⟨hp, gs, dr, tk, os⟩ _ g0 q
    wp_walk using begins
    refine wpAny_stack_any fun st => wpAny_pure ?_
    split
    · rename_i c _ _ _ _ _
      cases (c == Value.type "enumerate") <;> (wp_walk using begins; exact ⟨_, rfl, hh⟩)
    · wp_walk using begins
      exact ⟨_, rfl, hh⟩
theorem enum_call {prog : Program} {w : World} {A : Around} {E : Value → Shared → Prop} {s : Shared} {v : Value} {o : Obj} {G : Heap → Prop} {Q : Value → Shared → Prop} (B : Begins v o G) (g0 : G s.heap)
    (k : ∀ h', IsEnum h' (s.heap.objs.size + 1) s.heap.objs.size 0 .none → h'.get? s.heap.objs.size = some o → (∀ b u, s.heap.get? b = some u → h'.get? b = some u) → Q (.ref (s.heap.objs.size + 1)) { s with heap := h' }) :
    wpAny (model prog w) A (call (.type "enumerate") [v]) Q E s := by
  refine callType_new F.called_enumerate (by decide) (F.typeCall_enumerate_1 _) (F.newCall_enumerate_1 _) (fun obj => F.args_object_init_2 obj _) F.entry_enumerate_new (enum_meets B) ⟨g0, ?_⟩
  have sz : (s.heap.push o).objs.size = s.heap.objs.size + 1 := Heap.size_push ..
  show _ ∧ _
  rw [sz]
  have en : IsEnum ((s.heap.push o).push { cls := .type "enumerate", data := .fields #[.none, .bool false, .ref s.heap.objs.size, rawInt 0, .none, .none] }) (s.heap.objs.size + 1) s.heap.objs.size 0 .none := by
    have z := Heap.get?_push_size (s.heap.push o) (o := { cls := .type "enumerate", data := .fields #[.none, .bool false, .ref s.heap.objs.size, rawInt 0, .none, .none] }) rfl
    rwa [sz] at z
  exact ⟨⟨_, en, rfl⟩, k _ en (Heap.get?_push_of_some _ (Heap.get?_push_size _ B.free)) fun b u x => Heap.get?_push_of_some _ (Heap.get?_push_of_some _ x)⟩
/-- the tuple at a, each item with its number in a new pair -/
def IteT (K : PySem.W.Frag) (a : Addr) : It :=
  ⟨fun i H => ∃ (xs : List V) (x : V), SqT K H a xs ∧ xs[i]? = some x, fun i H v H' => ∃ T x, v = .ref T ∧ H T = none ∧ H' = upd H T (.tup [.int (i : Nat), x]) ∧ ∀ xs, SqT K H a xs → xs[i]? = some x, fun i H => ∃ xs : List V, SqT K H a xs ∧ xs.length = i⟩
theorem turn_enumT {P : Program} {w : World} {K : PySem.W.Frag} {elts : List Expr} {kk : Nat} {tpos : Pos} (a e it : Addr) :
    Turn P w K (.Tuple elts kk tpos) (IteT K a) [e, it] e (fun i h => (∃ old, IsEnum h e it ((i : Nat) : Int) old) ∧ h.IsTupleIter it a i ∧ e ≠ it) where
  mem := by simp
  obj := fun i h st b hb => by
    obtain ⟨⟨old, en⟩, ⟨o, ho, _, hd⟩, _⟩ := st
    rcases (show b = e ∨ b = it by simpa using hb) with rfl | rfl
    · exact ⟨_, en, fun v q => nomatch q⟩
    · exact ⟨o, ho, fun v q => by rw [hd] at q; cases q⟩
  keep := fun i h h' st k => by
    obtain ⟨⟨old, en⟩, ti, ne⟩ := st
    exact ⟨⟨old, k e (by simp) _ en⟩, ti.at fun o q => k it (by simp) o q, ne⟩
  item := by
    intro X hP hw hK hc i pins s σ H E I hf st hg
    subst hP hw hK
    obtain ⟨⟨old, en⟩, ti, ne⟩ := st
    obtain ⟨xs, x, hq, hx⟩ := hg
    obtain ⟨its, rv, p, _⟩ := I.tuple hq
    obtain ⟨u, hu, ru⟩ := rv.get hx
    have p' : s.heap.IsTuple a its.toArray := p
    have e_lt : e < s.heap.objs.size := Heap.lt_size en
    have it_lt : it < s.heap.objs.size := by
      obtain ⟨_, q, _⟩ := ti
      exact Heap.lt_size q
    have it_a : a ≠ it := fun z => by
      obtain ⟨o1, g1, c1, _⟩ := ti
      obtain ⟨o2, g2, c2, _⟩ := p'
      rw [z, g1] at g2
      cases g2
      rw [c1] at c2
      exact absurd c2 (by decide)
    have e_a : e ≠ a := fun z => by
      obtain ⟨o2, g2, c2, _⟩ := p'
      rw [← z, en] at g2
      cases g2
      have c3 : Value.type "enumerate" = .type "tuple" := c2
      exact absurd c3 (by decide)
    have hh : X.A.in1.handled = none := I.ok.hd hc
    have hlt : i < its.toArray.size := by
      rw [List.size_toArray]
      exact (List.getElem?_eq_some_iff.mp hu).1
    refine wpAny_pyNext_enum_itemD (Draws.tuple hh it a it_a its.toArray) en ⟨ti, p'⟩ hlt ne (by simp [ne, e_a]) fun y h' tk hy ho st' hT hsz hk => ?_
    have ey : y = u := by
      have hy' : its.toArray[i]? = some y := hy
      rw [show its.toArray[i]? = its[i]? by simp, hu] at hy'
      exact (Option.some.inj hy').symm
    subst ey
    refine ⟨_, rfl, wpAny_letOwnedTupleGo_enum (s := { s with heap := h', toks := tk + 1 }) ho fun h'' he' sb => ?_⟩
    have hT2 : h''.get? s.heap.objs.size = some { cls := .type "tuple", data := .seq #[.int i tk, y] } := (sb.2 _ (Nat.ne_of_gt e_lt)).trans hT
    have new : ObjOk X.prog X.w (upd H s.heap.objs.size (.tup [.int (i : Nat), x])) h'' s.heap.objs.size (.tup [.int (i : Nat), x]) :=
      ⟨by show 2 ≤ sizeLine; decide, [.int i tk, y], .cons ⟨_, rfl⟩ (.cons ru .nil), ⟨_, hT2, rfl, _, rfl⟩⟩
    have I1 : Inv X pins σ (upd H s.heap.objs.size (.tup [.int (i : Nat), x])) { s with heap := h'', toks := tk + 1 } :=
      I.turnedNew (ch := [e, it]) (fun b ob hb q => (sb.2 b (fun z => hb (by simp [z]))).trans (hk b ob (fun z => hb (by simp [z])) (fun z => hb (by simp [z])) q)) hf (Nat.le_refl _) new
    refine ⟨.ref s.heap.objs.size, _, I1, rfl, ⟨_, x, rfl, I.hok.fresh (Nat.le_refl _), rfl, fun ys hy => by rw [I.tuple_inj hy hq]; exact hx⟩, ⟨⟨y, ?_⟩, st'.1.at fun o q => (sb.2 it (Ne.symm ne)).trans q, ne⟩, fun b hb => ?_⟩
    · rw [show ((i + 1 : Nat) : Int) = (i : Int) + 1 by omega]
      exact he'
    · have hb' : b < s.heap.objs.size := by
        rcases (show b = e ∨ b = it by simpa using hb) with z | z
        · rw [z]
          exact e_lt
        · rw [z]
          exact it_lt
      rw [upd_ne (Nat.ne_of_lt hb')]
      exact (hf b hb).1
  done := by
    intro X hP hw hK hc i pins s σ H E I hf st hg
    subst hP hw hK
    obtain ⟨⟨old, en⟩, ti, ne⟩ := st
    obtain ⟨xs, hq, hx⟩ := hg
    obtain ⟨its, rv, p, _⟩ := I.tuple hq
    have p' : s.heap.IsTuple a its.toArray := p
    obtain ⟨f0, f1, f2, f3, f4, f5⟩ := hf it (by simp)
    have it_a : a ≠ it := fun z => by
      obtain ⟨o1, g1, c1, _⟩ := ti
      obtain ⟨o2, g2, c2, _⟩ := p'
      rw [z, g1] at g2
      cases g2
      rw [c1] at c2
      exact absurd c2 (by decide)
    have hh : X.A.in1.handled = none := I.ok.hd hc
    have hn : its.toArray.size = i := by
      rw [List.size_toArray, ← rv.length]
      exact hx
    exact wpAny_pyNext_enum_endD (Draws.tuple hh it a it_a its.toArray) en (by rw [hn]; exact ⟨ti, p'⟩) fun h' eb => ⟨rfl, I.turned (t' := s.toks) (fun b o hb q => eb b o hb q) f0 f1 f3 f4 f5⟩
  self := fun A i s Q E st k => let ⟨⟨_, en⟩, _⟩ := st; wpAny_pyIter_enum en k
def iEnumT (K : PySem.W.Frag) (ta : TA) : TI := fun σ H R => ta σ H fun vs H1 => ∃ a xs, vs = [.ref a] ∧ SqT K H1 a xs ∧ R (IteT K a) H1
theorem pi_enumT {X : Cx} {e : Expr} {ta : TA} {p pos tpos : Pos} {elts : List Expr} {kk : Nat} (hg : Gl X "enumerate") (hm : X.mg "enumerate" = none) (ha : PA X [e] ta) (hs : starEach [e] X.env = [(false, eval e X.env)] := by rfl) :
    PI X (.Tuple elts kk tpos) (.Call (.Name "enumerate" p) [e] [] pos) (iEnumT X.K ta) := by
  refine ⟨fun pins s σ H R I h => ?_⟩
  refine Call_ (ld_blt I hg hm boot_enumerate (PyProof.Rows.callWith_type1 (thn (ha.run pos pins s σ H _ I h) fun us s1 ⟨vs, H1, I1, r1, q1⟩ => ?_) hs rfl))
  obtain ⟨a, xs, rfl, hq, q⟩ := q1
  rw [Vals.ref1 r1]
  obtain ⟨its, rv, p', _⟩ := I1.tuple hq
  refine enum_call (begins_tuple a its.toArray) (show s1.heap.IsTuple a its.toArray from p') fun h' en gi hk => wpAny_pyIter_enum en ?_
  have I2 : Inv X pins σ H1 { s1 with heap := h' } := I1.kept (t' := s1.toks) hk
  refine ⟨s1.heap.objs.size + 1, [s1.heap.objs.size + 1, s1.heap.objs.size], _, _, H1, rfl, I2, turn_enumT a (s1.heap.objs.size + 1) s1.heap.objs.size, ⟨⟨.none, en⟩, ⟨_, gi, rfl, rfl⟩, Nat.succ_ne_self _⟩, fun b hb => ?_, q⟩
  have hle : s1.heap.objs.size ≤ b := by
    have hb' : b = s1.heap.objs.size + 1 ∨ b = s1.heap.objs.size := by simpa using hb
    exact hb'.elim (fun z => by rw [z]; exact Nat.le_add_right _ _) fun z => by rw [z]; exact Nat.le_refl _
  exact I1.fpOk hle (I1.hok.fresh hle)
theorem walk_enT {K : PySem.W.Frag} {a : Addr} {xs : List V} : Walk (IteT K a) xs.length (fun H => SqT K H a xs) (fun i H v H' => ∃ T x, v = .ref T ∧ H T = none ∧ H' = upd H T (.tup [.int (i : Nat), x]) ∧ xs[i]? = some x) :=
  ⟨fun i _ hi q => ⟨xs, xs[i], q, by simp [hi]⟩, fun _ q => ⟨xs, q, rfl⟩, fun _ _ _ _ _ q y => by
    obtain ⟨T, x, e1, e2, e3, e4⟩ := y
    exact ⟨T, x, e1, e2, e3, e4 xs q⟩⟩
end K6
namespace K6
open PySem PySem.Spec PyProof.Rows L2 K0 K4
/-- pairs, in tuples -/
def Prs (H : Hp) (ts : List V) (ps : List (V × V)) : Prop := ts.length = ps.length ∧ ∀ (i : Nat) t p, ts[i]? = some t → ps[i]? = some p → ∃ a, t = .ref a ∧ H a = some (.tup [p.1, p.2])
theorem prs_same {H H' : Hp} {ts : List V} {ps : List (V × V)} (s : Same H H') (h : Prs H ts ps) : Prs H' ts ps := ⟨h.1, fun i t p e1 e2 => by
  obtain ⟨a, et, ea⟩ := h.2 i t p e1 e2
  exact ⟨a, et, s _ _ ea⟩⟩
theorem prs_nil {H : Hp} : Prs H [] [] := ⟨rfl, fun i t p e => by simp at e⟩
theorem prs_snoc {H : Hp} {ts : List V} {ps : List (V × V)} {a : Addr} {x y : V} (h : Prs H ts ps) (e : H a = some (.tup [x, y])) : Prs H (ts ++ [.ref a]) (ps ++ [(x, y)]) := by
  refine ⟨by rw [List.length_append, List.length_append, h.1]; rfl, fun i t p e1 e2 => ?_⟩
  by_cases hi : i < ts.length
  · rw [List.getElem?_append_left hi] at e1
    rw [List.getElem?_append_left (by rw [← h.1]; exact hi)] at e2
    exact h.2 i t p e1 e2
  · have hi2 : i = ts.length := by
      have := (List.getElem?_eq_some_iff.mp e1).1
      rw [List.length_append] at this
      have h1 : ([V.ref a] : List V).length = 1 := rfl
      omega
    subst hi2
    rw [List.getElem?_append_right (Nat.le_refl _)] at e1
    rw [h.1, List.getElem?_append_right (Nat.le_refl _)] at e2
    simp at e1 e2
    subst e1 e2
    exact ⟨a, rfl, e⟩
theorem prs_upd {H : Hp} {D : Addr} {xs ys : List V} {ts : List V} {ps : List (V × V)} (e : H D = some (.lst xs)) (h : Prs H ts ps) : Prs (upd H D (.lst ys)) ts ps := ⟨h.1, fun i t p e1 e2 => by
  obtain ⟨a, et, ea⟩ := h.2 i t p e1 e2
  have n : a ≠ D := fun z => by
    rw [z, e] at ea
    cases ea
  exact ⟨a, et, by rw [upd_ne n]; exact ea⟩⟩
theorem none_back {H H' : Hp} {l : Addr} (s : Same H H') (h : H' l = none) : H l = none := by
  cases z : H l with
  | none => rfl
  | some o =>
    have := s _ _ z
    rw [h] at this
    cases this
/-- all places of rows -/
def placesFrom (i : Nat) (r : List Cell) (n : Nat) : List (V × V) := (List.range n).map fun (j : Nat) => (V.int (i : Nat), V.int (j : Nat))
def places (css : List (List Cell)) : Nat → List (V × V)
  | 0 => []
  | i + 1 => places css i ++ placesFrom i (css.getD i []) (wid (css.getD i [])).toNat
section
variable {P : Program} {w : World} {K : PySem.W.Frag} {mg : Str → Option Value} {base : Heap}
abbrev CWD (P : Program) (w : World) (K : PySem.W.Frag) (mg : Str → Option Value) (base : Heap) : Prop := Cal P w K mg base 2 "width_of" st_width_of ["row"] (spWidth K)
abbrev st_places_in : Stmt := top 53
abbrev nm_places_in : List Str := ["rows", "place", "number", "row"]
theorem sc_places_in : FnScope nm_places_in ["rows"] (defScope st_places_in) := ⟨rfl, rfl, rfl, by decide +kernel, rfl, by decide +kernel, by decide +kernel⟩
def spPlacesIn (K : PySem.W.Frag) : Sp := fun vs H Q _ => ∃ a xs css, vs = [.ref a] ∧ SqT K H a xs ∧ Rws K H xs css ∧ (∀ r ∈ css, rowOk r ∧ 0 ≤ wid r ∧ wid r ≤ 100) ∧ css.length ≤ 100 ∧ ∀ H' p ts, Same H H' → H p = none → H' p = some (.tup ts) → Prs H' ts (places css css.length) → Q (.ref p) H'
theorem ok_places_in {f : Addr} {fd : FuncData} (F : Fun K "places_in" "places_in" st_places_in f fd) (T : Blt mg) (C_width_of : CWD P w K mg base) : FnOk P w K mg base CX0 3 f fd ["rows"] (spPlacesIn K) := by
  refine F.ok sc_places_in (fun vs H Q E h => ?_) (fun cdv A outer s H vs Q E hr h => ?_)
  · obtain ⟨a, xs, css, rfl, _⟩ := h
    rfl
  · refine ⟨_, (pss_one (ps_ret (pe_callTy call_tuple_of (by rfl) T.n_tuple (by decide +kernel) (pa_cons (pe_lc2 (own := [("number", 2), ("row", 3), ("place", 1)]) (vs1 := [1]) (g := (gTup K 2 (gCons (gName 2) (gCons (gName 3) gNil)))) (tt := tYes) (g1 := (gName 1)) (tt1 := tYes) rfl sc_places_in.nd (pi_enumT (by rfl) T.n_enumerate (pa_cons (pv 0) pa_nil)) (blkOk_by (N := nm_places_in) (sc := defScope st_places_in) (own := [("number", 2), ("row", 3), ("place", 1)]) (by decide +kernel)) (by decide) (fun _ _ _ _ _ => by exact pg_tup rfl (pgs_cons (pg_name (i := 2) sc_places_in.nd rfl (Or.inl rfl)) (pgs_cons (pg_name (i := 3) sc_places_in.nd rfl (Or.inl rfl)) pgs_nil))) (fun _ _ _ _ _ => pts_nil) (fun _ _ _ _ _ => (pi_range1 rfl T.n_range (pa_cons (pe_cl C_width_of (hr.mono (by decide)) rfl (pa_cons (pv 3) pa_nil)) pa_nil))) (fun _ _ _ _ _ => by exact pg_name (i := 1) sc_places_in.nd rfl (Or.inl rfl)) (fun _ _ _ _ _ => pts_nil) (fun _ _ _ _ _ => (pe_tup (pa_cons (pv 2) (pa_cons (pv 1) pa_nil))))) pa_nil)))), ?_⟩
    obtain ⟨a, xs, css, rfl, hS, hk, ho, hl, q⟩ := h
    refine ⟨_, rfl, a, xs, rfl, hS, fun D hD => ?_⟩
    refine lc2_it walk_enT (fun i H' => Same H H' ∧ ∃ ts, H' D = some (.lst ts) ∧ Prs H' ts (places css i) ∧ ts.length ≤ 100 * i) ⟨Sm.new hD, [], upd_same, prs_nil, Nat.zero_le _⟩ (fun i H2 _ p => sm_t p.1 hS) ?_ ?_
    · rintro i x H2 H3 hi ⟨p1, ts, p2, p3, p4⟩ ⟨t, y, rfl, ht, rfl, hy⟩
      have hik : i < css.length := by
        rw [← hk.1]
        exact hi
      have hr := List.getElem?_eq_getElem hik
      have s3 := p1.trans (Sm.new (o := .tup [.int (i : Nat), y]) ht)
      obtain ⟨a2, rfl, hS2⟩ := (rws_same s3 hk).2 i y _ hy hr
      obtain ⟨o2, o3, o4⟩ := ho _ (List.getElem_mem hik)
      obtain ⟨m, rr, em⟩ : ∃ m rr, lens css[i] = m :: rr := by
        cases e : lens css[i] with
        | nil => exact absurd e o2.2.2
        | cons m rr => exact ⟨m, rr, rfl⟩
      have ew : wid css[i] = m := by
        unfold wid
        rw [em]
        rfl
      rw [ew] at o3 o4
      have eg : css.getD i [] = css[i] := by
        rw [List.getD_eq_getElem?_getD, hr]
        rfl
      refine ⟨t, _, rfl, SqT.of upd_same, rfl, _, _, rfl, _, _, rfl, rfl, rfl, ?_⟩
      refine ⟨_, rfl, a2, _, m, rr, rfl, hS2, o2.1, o2.2.1, em, fun H4 s4 => ⟨m, rfl, by omega, by omega, ?_⟩⟩
      refine in2_it (n := m.toNat) walk_range (fun j H5 => Same H H5 ∧ ∃ ts, H5 D = some (.lst ts) ∧ Prs H5 ts (places css i ++ placesFrom i css[i] j) ∧ ts.length ≤ 100 * i + j) ⟨s3.trans s4, ts, s4 _ _ ((upd_ne (ne_of_none p2 ht)).trans p2), ?_, p4⟩ (fun _ _ _ _ => trivial) ?_ ?_
      · have e0 : placesFrom i css[i] 0 = [] := rfl
        rw [e0, List.append_nil]
        exact prs_same s4 (prs_same (Sm.new ht) p3)
      · rintro j x H5 H6 hj ⟨r1, ts5, r2, r3, r4⟩ ⟨rfl, rfl⟩
        refine ⟨rfl, _, rfl, _, rfl, small_line (by show 2 ≤ 1000000; decide), fun t2 ht2 => ?_⟩
        have nD : D ≠ t2 := ne_of_none r2 ht2
        refine ⟨ts5, (upd_ne nD).trans r2, small_lt (by omega), Sm.put (r1.trans (Sm.new ht2)) hD, ts5 ++ [.ref t2], upd_same, ?_, by rw [List.length_append]; show ts5.length + 1 ≤ _; omega⟩
        have e1 : placesFrom i css[i] (j + 1) = placesFrom i css[i] j ++ [(.int (i : Nat), .int (j : Nat))] := by
          unfold placesFrom
          rw [List.range_succ, List.map_append]
          rfl
        rw [e1, ← List.append_assoc]
        refine prs_upd ((upd_ne nD).trans r2) (prs_snoc (prs_same (Sm.new ht2) r3) ?_)
        rw [upd_same]
        show some (HO.tup [V.int (i : Nat), V.int (0 + (j : Int))]) = _
        rw [Int.zero_add]
      · rintro H5 ⟨r1, ts5, r2, r3, r4⟩
        refine ⟨r1, ts5, r2, ?_, by omega⟩
        show Prs H5 ts5 (places css i ++ placesFrom i (css.getD i []) (wid (css.getD i [])).toNat)
        rw [eg, ew]
        exact r3
    · rintro H2 ⟨p1, ts, p2, p3, p4⟩
      rw [hk.1] at p3
      refine ⟨D, ts, rfl, .inl ⟨SqL.of p2, fun l hl2 => ?_⟩⟩
      exact q _ l ts (p1.trans (Sm.new hl2)) (none_back p1 hl2) upd_same (prs_same (Sm.new hl2) p3)
theorem walk_zT {a b : Addr} {xs ys : List V} {n : Nat} (hn : n = min xs.length ys.length) : Walk (RZ.ItzT K a b) n (fun H => SqT K H a xs ∧ SqT K H b ys) (fun i H v H' => ∃ T x y, v = .ref T ∧ H T = none ∧ H' = upd H T (.tup [x, y]) ∧ xs[i]? = some x ∧ ys[i]? = some y) :=
  ⟨fun i _ hi q => by
    have h1 : i < xs.length := by omega
    have h2 : i < ys.length := by omega
    exact ⟨xs, ys, xs[i], ys[i], q.1, q.2, by simp [h1], by simp [h2]⟩, fun _ q => ⟨xs, ys, q.1, q.2, by omega⟩, fun _ _ _ _ _ q y => by
    obtain ⟨T, x, z, e1, e2, e3, e4, e5⟩ := y
    exact ⟨T, x, z, e1, e2, e3, e4 xs q.1, e5 ys q.2⟩⟩
/-- rows that are tuples -/
def Rwt (K : PySem.W.Frag) (H : Hp) (xs : List V) (css : List (List Cell)) : Prop := xs.length = css.length ∧ ∀ (i : Nat) x r, xs[i]? = some x → css[i]? = some r → ∃ a, x = .ref a ∧ SqT K H a (r.map cx)
theorem rwt_same {H H' : Hp} {xs : List V} {css : List (List Cell)} (s : Same H H') (h : Rwt K H xs css) : Rwt K H' xs css := ⟨h.1, fun i x r e1 e2 => by
  obtain ⟨a, ex, hS⟩ := h.2 i x r e1 e2
  exact ⟨a, ex, sm_t s hS⟩⟩
theorem rwt_rws {H : Hp} {xs : List V} {css : List (List Cell)} (h : Rwt K H xs css) : Rws K H xs css := ⟨h.1, fun i x r e1 e2 => by
  obtain ⟨a, ex, hS⟩ := h.2 i x r e1 e2
  exact ⟨a, ex, .inr hS⟩⟩
def gapOne (i : Nat) : List Nat × Cell → List (V × V)
  | (n, none) => [(V.int (i : Nat), V.str (Tx n))]
  | (_, some _) => []
def gapsFrom (i : Nat) (names : List (List Nat)) (r : List Cell) (k : Nat) : List (V × V) := ((names.zip r).take k).flatMap (gapOne i)
def gaps (names : List (List Nat)) (css : List (List Cell)) : Nat → List (V × V)
  | 0 => []
  | i + 1 => gaps names css i ++ gapsFrom i names (css.getD i []) (min names.length (css.getD i []).length)
abbrev st_gaps_in : Stmt := top 54
abbrev nm_gaps_in : List Str := ["languages", "rows", "number", "row", "language", "cell"]
theorem sc_gaps_in : FnScope nm_gaps_in ["languages", "rows"] (defScope st_gaps_in) := ⟨rfl, rfl, rfl, by decide +kernel, rfl, by decide +kernel, by decide +kernel⟩
def spGapsIn (K : PySem.W.Frag) : Sp := fun vs H Q _ => ∃ b a names xs css, vs = [.ref b, .ref a] ∧ SqT K H b (tws names) ∧ SqT K H a xs ∧ Rwt K H xs css ∧ names.length ≤ 100 ∧ css.length ≤ 100 ∧ ∀ H' p ts, Same H H' → H p = none → H' p = some (.tup ts) → Prs H' ts (gaps names css css.length) → Q (.ref p) H'
theorem ok_gaps_in {f : Addr} {fd : FuncData} (F : Fun K "gaps_in" "gaps_in" st_gaps_in f fd) (T : Blt mg) : FnOk P w K mg base CX0 1 f fd ["languages", "rows"] (spGapsIn K) := by
  refine F.ok sc_gaps_in (fun vs H Q E h => ?_) (fun cdv A outer s H vs Q E hr h => ?_)
  · obtain ⟨b, a, names, xs, css, rfl, _⟩ := h
    rfl
  · refine ⟨_, (pss_one (ps_ret (pe_callTy call_tuple_of (by rfl) T.n_tuple (by decide +kernel) (pa_cons (pe_lc2 (own := [("number", 2), ("row", 3), ("language", 4), ("cell", 5)]) (vs1 := [4, 5]) (g := (gTup K 2 (gCons (gName 2) (gCons (gName 3) gNil)))) (tt := tYes) (g1 := (gTup K 2 (gCons (gName 4) (gCons (gName 5) gNil)))) (wi1 := RZ.iZipA K (tCons (tVar 0) (tCons (tVar 3) (tNil)))) rfl sc_gaps_in.nd (pi_enumT (by rfl) T.n_enumerate (pa_cons (pv 1) pa_nil)) (blkOk_by (N := nm_gaps_in) (sc := defScope st_gaps_in) (own := [("number", 2), ("row", 3), ("language", 4), ("cell", 5)]) (by decide +kernel)) (by decide) (fun _ _ _ _ _ => by exact pg_tup rfl (pgs_cons (pg_name (i := 2) sc_gaps_in.nd rfl (Or.inl rfl)) (pgs_cons (pg_name (i := 3) sc_gaps_in.nd rfl (Or.inl rfl)) pgs_nil))) (fun _ _ _ _ _ => pts_nil) (fun _ _ _ _ _ => (RZ.pi_zipA (by rfl) T.n_zip (pa_cons (pv 0) (pa_cons (pv 3) pa_nil)))) (fun _ _ _ _ _ => by exact pg_tup rfl (pgs_cons (pg_name (i := 4) sc_gaps_in.nd rfl (Or.inl rfl)) (pgs_cons (pg_name (i := 5) sc_gaps_in.nd rfl (Or.inl rfl)) pgs_nil))) (fun _ _ _ _ _ => pts_one (pt_cmpR op_isN (pv 5) pe_non (nomark _))) (fun _ _ _ _ _ => (pe_tup (pa_cons (pv 2) (pa_cons (pv 4) pa_nil))))) pa_nil)))), ?_⟩
    obtain ⟨b, a, names, xs, css, rfl, hN, hS, hk, hn, hl, q⟩ := h
    refine ⟨_, rfl, a, xs, rfl, hS, fun D hD => ?_⟩
    refine lc2_it walk_enT (fun i H' => Same H H' ∧ ∃ ts, H' D = some (.lst ts) ∧ Prs H' ts (gaps names css i) ∧ ts.length ≤ 100 * i) ⟨Sm.new hD, [], upd_same, prs_nil, Nat.zero_le _⟩ (fun i H2 _ p => sm_t p.1 hS) ?_ ?_
    · rintro i x H2 H3 hi ⟨p1, ts, p2, p3, p4⟩ ⟨t, y, rfl, ht, rfl, hy⟩
      have hik : i < css.length := by
        rw [← hk.1]
        exact hi
      have hr := List.getElem?_eq_getElem hik
      have s3 := p1.trans (Sm.new (o := .tup [.int (i : Nat), y]) ht)
      obtain ⟨a2, rfl, hS0⟩ := hk.2 i y _ hy hr
      have hS2 := sm_t s3 hS0
      have eg : css.getD i [] = css[i] := by
        rw [List.getD_eq_getElem?_getD, hr]
        rfl
      refine ⟨t, _, rfl, SqT.of upd_same, rfl, _, _, rfl, _, _, rfl, rfl, rfl, ?_⟩
      refine ⟨_, rfl, _, rfl, b, a2, _, _, rfl, .inr ⟨sm_t s3 hN, hS2, ?_⟩⟩
      have wz := walk_zT (K := K) (a := b) (b := a2) (xs := tws names) (ys := css[i].map cx) (n := min names.length css[i].length) (by rw [tws_len, List.length_map])
      refine in2_it wz (fun j H5 => Same H H5 ∧ ∃ ts, H5 D = some (.lst ts) ∧ Prs H5 ts (gaps names css i ++ gapsFrom i names css[i] j) ∧ ts.length ≤ 100 * i + j) ⟨s3, ts, (upd_ne (ne_of_none p2 ht)).trans p2, ?_, p4⟩ (fun j H5 _ p => ⟨sm_t p.1 hN, sm_t p.1 hS0⟩) ?_ ?_
      · have e0 : gapsFrom i names css[i] 0 = [] := by
          unfold gapsFrom
          rw [List.take_zero]
          rfl
        rw [e0, List.append_nil]
        exact prs_same (Sm.new ht) p3
      · rintro j x H5 H6 hj ⟨r1, ts5, r2, r3, r4⟩ ⟨t2, y1, y2, rfl, ht2, rfl, hy1, hy2⟩
        obtain ⟨nm, hnm, rfl⟩ := tws_at hy1
        obtain ⟨c, hc, rfl⟩ := cx_at hy2
        have ez : (names.zip css[i])[j]? = some (nm, c) := by
          rw [List.getElem?_zip_eq_some]
          exact ⟨hnm, hc⟩
        have e1 : gapsFrom i names css[i] (j + 1) = gapsFrom i names css[i] j ++ gapOne i (nm, c) := by
          unfold gapsFrom
          rw [List.take_succ, ez, List.flatMap_append]
          simp
        have nD : D ≠ t2 := ne_of_none r2 ht2
        refine ⟨t2, _, rfl, SqT.of upd_same, rfl, _, _, rfl, _, _, rfl, rfl, rfl, _, rfl, rfl, _, rfl, ?_⟩
        cases c with
        | none =>
          refine iteT ⟨_, rfl, _, rfl, small_line (by show 2 ≤ 1000000; decide), fun t3 ht3 => ?_⟩
          have r2' := (upd_ne (o := .tup [V.str (Tx nm), V.non]) nD).trans r2
          have nD3 : D ≠ t3 := ne_of_none r2' ht3
          refine ⟨ts5, (upd_ne nD3).trans r2', small_lt (by omega), Sm.put ((r1.trans (Sm.new ht2)).trans (Sm.new ht3)) hD, ts5 ++ [.ref t3], upd_same, ?_, by rw [List.length_append]; show ts5.length + 1 ≤ _; omega⟩
          rw [e1, ← List.append_assoc]
          exact prs_upd ((upd_ne nD3).trans r2') (prs_snoc (prs_same (Sm.new ht3) (prs_same (Sm.new ht2) r3)) upd_same)
        | some l =>
          refine iteF ⟨r1.trans (Sm.new ht2), ts5, (upd_ne nD).trans r2, ?_, by omega⟩
          rw [e1]
          show Prs _ ts5 (gaps names css i ++ (gapsFrom i names css[i] j ++ []))
          rw [List.append_nil]
          exact prs_same (Sm.new ht2) r3
      · rintro H5 ⟨r1, ts5, r2, r3, r4⟩
        refine ⟨r1, ts5, r2, ?_, by omega⟩
        show Prs H5 ts5 (gaps names css i ++ gapsFrom i names (css.getD i []) (min names.length (css.getD i []).length))
        rw [eg]
        exact r3
    · rintro H2 ⟨p1, ts, p2, p3, p4⟩
      rw [hk.1] at p3
      refine ⟨D, ts, rfl, .inl ⟨SqL.of p2, fun l hl2 => ?_⟩⟩
      exact q _ l ts (p1.trans (Sm.new hl2)) (none_back p1 hl2) upd_same (prs_same (Sm.new hl2) p3)
end
end K6
namespace K6
open PySem PySem.Spec PyProof.Rows L2
section
variable {X : Cx}
/-- tuple(a list): the new object is known to bear no dict -/
def rTupF (K : PySem.W.Frag) : List V → Hp → VK → Prop := fun xs H Q => ∃ p ys, xs = [V.ref p] ∧ SqL K H p ys ∧ ∀ l o, H l = none → o.dict = none → o.cls = .type "tuple" → Q (.ref l) (upd H l (.frz o (.tup ys)))
theorem call_tupF : CallR X (.type "tuple") (rTupF X.K) := by
  intro pins s σ H xs us Q I r h
  obtain ⟨p, ys, rfl, hq, q⟩ := h
  obtain ⟨u, rfl, rx⟩ := vals1 r
  cases rx
  obtain ⟨its, rv, pl, hz⟩ := I.list hq
  have hlen := rv.length
  refine call_tuple_list pl.isList (fun h' kp => ?_) (by simp only [List.size_toArray] <;> omega)
  have I1 : Inv X pins σ H { s with heap := h' } := I.kept (t' := s.toks) kp
  refine ⟨.ref h'.objs.size, _, I1.laid (t' := s.toks) (o := .frz { cls := .type "tuple", data := .seq its.toArray } (.tup ys)) (fun b o e => Heap.get?_push_of_some _ e) (Nat.le_refl _) ⟨Heap.get?_push_size _ rfl, hz, its, rv, IsTup.new _ _⟩, rfl, q _ _ (I1.hok.fresh (Nat.le_refl _)) rfl rfl⟩
/-- o.name(e), o a tuple whose object is known -/
def tT1 (r : V → List V → Hp → VK → Prop) (to te : TE) : TE := fun σ H Q => to σ H fun x H1 => (∃ a o xs, x = .ref a ∧ H1 a = some (.frz o (.tup xs)) ∧ o.dict = none ∧ o.cls = .type "tuple") ∧ te σ H1 fun y H2 => r x [y] H2 Q
theorem pe_t1 {o e : Expr} {to te : TE} {id : String} {name : Str} {apos pos : Pos} {r : V → List V → Hp → VK → Prop} (slot : Slot "tuple" name id) (ty : typeOf (.builtin id) = pure (.type "method_descriptor")) (rule : MtR X id r) (ho : PE X o to) (he : PE X e te)
    (hs : starEach [e] X.env = [(false, eval e X.env)] := by rfl) (hbase : attributeBase o name X.env (eval o X.env) = eval o X.env := by rfl) (hline : (apos.endLine == pos.line) = true := by rfl) :
    PE X (.Call (.Attribute o name apos) [e] [] pos) (tT1 r to te) := by
  refine ⟨fun pins s σ H Q I h => ?_⟩
  refine PySem.Call_method1 hbase hs hline (thn (ho.run pins s σ H _ I h) fun v s1 ⟨x, H1, I1, r1, q1⟩ => ?_)
  obtain ⟨⟨a, ob, xs, rfl, ha, hd, hc⟩, q1⟩ := q1
  obtain rfl : v = Value.ref a := r1
  obtain ⟨e1, _⟩ := I1.hok a _ ha
  refine ⟨"tuple", _, F.plainAttrs_tuple, slot, ty, ⟨ob, e1, hc⟩, (fun b eb => ?_), Calls.callWith_builtin rfl (Calls.evalArgs_plain (Calls.spliced_cons ?_))⟩
  · cases eb
    exact ⟨ob, e1, hd⟩
  · exact thn (he.run pins s1 σ H1 _ I1 q1) fun u s2 ⟨y, H2, I2, r2, q2⟩ => Calls.spliced_nil (rule pins s2 σ H2 (.ref a) [y] (.ref a) [u] Q I2 rfl (.cons r2 .nil) q2)
/-- t.index(text) -/
theorem pe_tindex {o e : Expr} {to te : TE} {apos pos : Pos} (ho : PE X o to) (he : PE X e te)
    (hs : starEach [e] X.env = [(false, eval e X.env)] := by rfl) (hbase : attributeBase o "index" X.env (eval o X.env) = eval o X.env := by rfl) (hline : (apos.endLine == pos.line) = true := by rfl) :
    PE X (.Call (.Attribute o "index" apos) [e] [] pos) (tT1 (fun x xs H Q => ∃ p, ∃ ys : List Str, ∃ z j, x = .ref p ∧ xs = [.str z] ∧ SqT X.K H p (ys.map V.str) ∧ ys[j]? = some z ∧ (∀ m, m < j → ys[m]? ≠ some z) ∧ Q (.int (j : Nat)) H) to te) :=
  pe_t1 F.slot_tuple_index F.type_tuple_index mt_tup_index ho he hs hbase hline
end
end K6
namespace K6
open PySem PySem.Spec PyProof.Rows L2 K0 K4
def rTupOf (K : PySem.W.Frag) : List V → Hp → VK → Prop := fun xs H Q => ∃ p ys, xs = [V.ref p] ∧ ((SqL K H p ys ∧ ∀ l, H l = none → Q (.ref l) (upd H l (.tup ys))) ∨ (SqT K H p ys ∧ Q (.ref p) H))
@[irreducible] def hTup (K : PySem.W.Frag) : List V → Hp → VK → Prop := rTupOf K
theorem hTup_eq {K : PySem.W.Frag} : hTup K = rTupOf K := by
  unfold hTup
  rfl
theorem call_tup {X : Cx} : CallR X (.type "tuple") (hTup X.K) := by
  rw [hTup_eq]
  exact call_tuple_of
/-- a tuple that is known to bear no dict -/
def TupF (H : Hp) (t : Addr) (xs : List V) : Prop := ∃ o, H t = some (.frz o (.tup xs)) ∧ o.dict = none ∧ o.cls = .type "tuple"
/-- a list, or such a tuple -/
def LTF (K : PySem.W.Frag) (H : Hp) (b : Addr) (xs : List V) : Prop := SqL K H b xs ∨ TupF H b xs
theorem tf_sm {H H' : Hp} {t : Addr} {xs : List V} (s : Same H H') (h : TupF H t xs) : TupF H' t xs := by
  obtain ⟨o, h1, h2⟩ := h
  exact ⟨o, s _ _ h1, h2⟩
theorem tf_sq {K : PySem.W.Frag} {H : Hp} {t : Addr} {xs : List V} (h : TupF H t xs) : SqT K H t xs := by
  obtain ⟨o, h1, h2⟩ := h
  exact .inl (.inr ⟨o, h1⟩)
theorem ltf_lt {K : PySem.W.Frag} {H : Hp} {t : Addr} {xs : List V} (h : LTF K H t xs) : SqLT K H t xs := h.imp id tf_sq
theorem ltf_same {K : PySem.W.Frag} {H H' : Hp} {t : Addr} {xs : List V} (s : Same H H') (h : LTF K H t xs) : LTF K H' t xs := h.imp (sm_l s) (tf_sm s)
def rTupG (K : PySem.W.Frag) : List V → Hp → VK → Prop := fun xs H Q => rTupF K xs H Q ∨ ∃ p ys, xs = [V.ref p] ∧ SqT K H p ys ∧ Q (.ref p) H
@[irreducible] def hTupG (K : PySem.W.Frag) : List V → Hp → VK → Prop := rTupG K
theorem hTupG_eq {K : PySem.W.Frag} : hTupG K = rTupG K := by
  unfold hTupG
  rfl
theorem call_tg {X : Cx} : CallR X (.type "tuple") (hTupG X.K) := by
  rw [hTupG_eq]
  intro pins s σ H xs us Q I r h
  rcases h with h | ⟨p, ys, e, h, q⟩
  · exact call_tupF pins s σ H xs us Q I r h
  · exact call_tuple_of pins s σ H xs us Q I r ⟨p, ys, e, .inr ⟨h, q⟩⟩
theorem rd_tg {K : PySem.W.Frag} {H : Hp} {b : Addr} {xs : List V} {Q : VK} (h : LTF K H b xs) (k : ∀ H' t, Same H H' → TupF H' t xs → Q (.ref t) H') : hTupG K [.ref b] H Q := by
  rw [hTupG_eq]
  rcases h with h | h
  · exact .inl ⟨b, xs, rfl, h, fun l o hl h1 h2 => k _ l (Sm.new hl) ⟨o, upd_same, h1, h2⟩⟩
  · exact .inr ⟨b, xs, rfl, tf_sq h, k _ b (Same.refl H) h⟩
/-- a class whose instances have these five fields -/
structure ShC (K : PySem.W.Frag) (C : Addr) : Prop where
  c : Cls K C
  f1 : NoAttr K C "languages"
  f2 : NoAttr K C "rows"
  f3 : NoAttr K C "places"
  f4 : NoAttr K C "gaps"
  f5 : NoAttr K C "is_whole"
/-- a sheet of languages and rows stands at x -/
def SheetAt (K : PySem.W.Frag) (C : Addr) (H : Hp) (x : Addr) (names : List (List Nat)) (css : List (List Cell)) : Prop := ∃ dx tl tr tp tg xs ts gs,
  H x = some (.ins C dx [("languages", .ref tl), ("rows", .ref tr), ("places", .ref tp), ("gaps", .ref tg), ("is_whole", .bl (decide (gaps names css css.length = [])))]) ∧
  TupF H tl (tws names) ∧ SqT K H tr xs ∧ Rwt K H xs css ∧ H tp = some (.tup ts) ∧ Prs H ts (places css css.length) ∧ H tg = some (.tup gs) ∧ Prs H gs (gaps names css css.length)
/-- what stands once all is checked -/
def Good (K : PySem.W.Frag) (C x dx : Addr) (v u : V) (H : Hp) (Q : VK) : Prop := ∃ b a names xs css, v = .ref b ∧ u = .ref a ∧ LTF K H b (tws names) ∧ SqLT K H a xs ∧ Rws K H xs css ∧ (∀ r ∈ css, rowOk r ∧ 0 ≤ wid r ∧ wid r ≤ 100) ∧ names.length ≤ 100 ∧ css.length ≤ 100 ∧
  H x = some (.ins C dx []) ∧ ∀ H', (∀ c o, c ≠ x → H c = some o → H' c = some o) → SheetAt K C H' x names css → Q .non H'
@[irreducible] def hNames (K : PySem.W.Frag) (cs : Nat → Addr) : Sp := spNeedNames K cs
theorem hNames_eq {K : PySem.W.Frag} {cs : Nat → Addr} : hNames K cs = spNeedNames K cs := by
  unfold hNames
  rfl
@[irreducible] def hOnce (K : PySem.W.Frag) (cs : Nat → Addr) : Sp := spNeedOnce K cs
theorem hOnce_eq {K : PySem.W.Frag} {cs : Nat → Addr} : hOnce K cs = spNeedOnce K cs := by
  unfold hOnce
  rfl
@[irreducible] def hRows (K : PySem.W.Frag) (cs : Nat → Addr) : Sp := spNeedRows K cs
theorem hRows_eq {K : PySem.W.Frag} {cs : Nat → Addr} : hRows K cs = spNeedRows K cs := by
  unfold hRows
  rfl
@[irreducible] def hSizes (K : PySem.W.Frag) (cs : Nat → Addr) : Sp := spNeedSizes K cs
theorem hSizes_eq {K : PySem.W.Frag} {cs : Nat → Addr} : hSizes K cs = spNeedSizes K cs := by
  unfold hSizes
  rfl
theorem calX_to {P : Program} {w : World} {K : PySem.W.Frag} {mg : Str → Option Value} {base : Heap} {k : Nat} {x : Str} {st : Stmt} {ps : List Str} {sp sp' : Sp} (c : CalX P w K mg base k x st ps sp) (e : sp' = sp) : CalX P w K mg base k x st ps sp' := by
  rw [e]
  exact c
/-- all but x stays -/
def KX (x : Addr) (H H' : Hp) : Prop := ∀ c o, c ≠ x → H c = some o → H' c = some o
theorem KX.sm {x : Addr} {H H' : Hp} (s : Same H H') : KX x H H' := fun c o _ e => s c o e
theorem KX.trans {x : Addr} {H H1 H2 : Hp} (a : KX x H H1) (b : KX x H1 H2) : KX x H H2 := fun c o n e => b c o n (a c o n e)
theorem KX.put {x : Addr} {H : Hp} {o : HO} : KX x H (upd H x o) := fun c u n e => (upd_ne n).trans e
section
variable {K : PySem.W.Frag} {x C dx : Addr} {fs : List (Str × V)} {H H' : Hp}
theorem sqt_kx (hx : H x = some (.ins C dx fs)) (k : KX x H H') {t : Addr} {xs : List V} (h : SqT K H t xs) : SqT K H' t xs := by
  rcases h with (h | ⟨o, h⟩) | h
  · exact .inl (.inl (k _ _ (fun z => by rw [z, hx] at h; cases h) h))
  · exact .inl (.inr ⟨o, k _ _ (fun z => by rw [z, hx] at h; cases h) h⟩)
  · exact .inr h
theorem sql_kx (hx : H x = some (.ins C dx fs)) (k : KX x H H') {t : Addr} {xs : List V} (h : SqL K H t xs) : SqL K H' t xs := by
  rcases h with (h | ⟨o, h⟩) | h
  · exact .inl (.inl (k _ _ (fun z => by rw [z, hx] at h; cases h) h))
  · exact .inl (.inr ⟨o, k _ _ (fun z => by rw [z, hx] at h; cases h) h⟩)
  · exact .inr h
theorem tf_kx (hx : H x = some (.ins C dx fs)) (k : KX x H H') {t : Addr} {xs : List V} (h : TupF H t xs) : TupF H' t xs := by
  obtain ⟨o, h1, h2⟩ := h
  exact ⟨o, k _ _ (fun z => by rw [z, hx] at h1; cases h1) h1, h2⟩
theorem rwt_kx (hx : H x = some (.ins C dx fs)) (k : KX x H H') {xs : List V} {css : List (List Cell)} (h : Rwt K H xs css) : Rwt K H' xs css := ⟨h.1, fun i y r e1 e2 => by
  obtain ⟨a, ex, hS⟩ := h.2 i y r e1 e2
  exact ⟨a, ex, sqt_kx hx k hS⟩⟩
theorem rws_kx (hx : H x = some (.ins C dx fs)) (k : KX x H H') {xs : List V} {css : List (List Cell)} (h : Rws K H xs css) : Rws K H' xs css := ⟨h.1, fun i y r e1 e2 => by
  obtain ⟨a, ex, hS⟩ := h.2 i y r e1 e2
  exact ⟨a, ex, hS.imp (sql_kx hx k) (sqt_kx hx k)⟩⟩
theorem tup_kx (hx : H x = some (.ins C dx fs)) (k : KX x H H') {t : Addr} {xs : List V} (h : H t = some (.tup xs)) : H' t = some (.tup xs) := k _ _ (fun z => by rw [z, hx] at h; cases h) h
theorem prs_kx (hx : H x = some (.ins C dx fs)) (k : KX x H H') {ts : List V} {ps : List (V × V)} (h : Prs H ts ps) : Prs H' ts ps := ⟨h.1, fun i t p e1 e2 => by
  obtain ⟨a, et, ea⟩ := h.2 i t p e1 e2
  exact ⟨a, et, tup_kx hx k ea⟩⟩
theorem rd_tuple {b : Addr} {xs : List V} {Q : VK} (h : SqLT K H b xs) (k : ∀ H' t, Same H H' → SqT K H' t xs → Q (.ref t) H') : hTup K [.ref b] H Q := by
  rw [hTup_eq]
  rcases h with h | h
  · exact ⟨b, xs, rfl, .inl ⟨h, fun l hl => k _ l (Sm.new hl) (SqT.of upd_same)⟩⟩
  · exact ⟨b, xs, rfl, .inr ⟨h, k _ b (Same.refl H) h⟩⟩
theorem rwt_nil : Rwt K H [] [] := ⟨rfl, fun i y r e => by simp at e⟩
theorem rwt_snoc {ys : List V} {css : List (List Cell)} {t : Addr} {r : List Cell} (h : Rwt K H ys css) (e : SqT K H t (r.map cx)) : Rwt K H (ys ++ [.ref t]) (css ++ [r]) := by
  refine ⟨by rw [List.length_append, List.length_append, h.1]; rfl, fun i y q e1 e2 => ?_⟩
  by_cases hi : i < ys.length
  · rw [List.getElem?_append_left hi] at e1
    rw [List.getElem?_append_left (by rw [← h.1]; exact hi)] at e2
    exact h.2 i y q e1 e2
  · have hi2 : i = ys.length := by
      have := (List.getElem?_eq_some_iff.mp e1).1
      rw [List.length_append] at this
      have h1 : ([V.ref t] : List V).length = 1 := rfl
      omega
    subst hi2
    rw [List.getElem?_append_right (Nat.le_refl _)] at e1
    rw [h.1, List.getElem?_append_right (Nat.le_refl _)] at e2
    simp at e1 e2
    subst e1 e2
    exact ⟨t, rfl, e⟩
theorem rwt_upd {D : Addr} {xs ys zs : List V} {css : List (List Cell)} (e : H D = some (.lst xs)) (h : Rwt K H zs css) : Rwt K (upd H D (.lst ys)) zs css := ⟨h.1, fun i y r e1 e2 => by
  obtain ⟨a, ex, hS⟩ := h.2 i y r e1 e2
  refine ⟨a, ex, ?_⟩
  rcases hS with (h | ⟨o, h⟩) | h
  · exact .inl (.inl ((upd_ne (fun z => by rw [z, e] at h; cases h)).trans h))
  · exact .inl (.inr ⟨o, (upd_ne (fun z => by rw [z, e] at h; cases h)).trans h⟩)
  · exact .inr h⟩
variable {cs : Nat → Addr} {vs : List V} {Q Q' : VK} {E : XK}
theorem mono_names (h : spNeedNames K cs vs H Q E) (i : ∀ v H', Q v H' → Q' v H') : hNames K cs vs H Q' E := by
  rw [hNames_eq]
  obtain ⟨v, n, e, kd, ⟨hn, q⟩ | ⟨hn, a, xs, bs, e1, e2, e3, e4, q1, q2⟩⟩ := h
  · exact ⟨v, n, e, kd, .inl ⟨hn, q⟩⟩
  · exact ⟨v, n, e, kd, .inr ⟨hn, a, xs, bs, e1, e2, e3, e4, fun z H' s => i _ _ (q1 z H' s), q2⟩⟩
theorem mono_once (h : spNeedOnce K cs vs H Q E) (i : ∀ v H', Q v H' → Q' v H') : hOnce K cs vs H Q' E := by
  rw [hOnce_eq]
  obtain ⟨a, ks, e, e1, e2, q1, q2⟩ := h
  exact ⟨a, ks, e, e1, e2, fun z H' s => i _ _ (q1 z H' s), q2⟩
theorem mono_rows (h : spNeedRows K cs vs H Q E) (i : ∀ v H', Q v H' → Q' v H') : hRows K cs vs H Q' E := by
  rw [hRows_eq]
  obtain ⟨v, n, m, e, kd, ⟨hn, q⟩ | ⟨hn, a, xs, bs, e1, e2, e3, e4, q1, q2⟩⟩ := h
  · exact ⟨v, n, m, e, kd, .inl ⟨hn, q⟩⟩
  · exact ⟨v, n, m, e, kd, .inr ⟨hn, a, xs, bs, e1, e2, e3, e4, fun z H' s => i _ _ (q1 z H' s), q2⟩⟩
theorem mono_sizes (h : spNeedSizes K cs vs H Q E) (i : ∀ v H', Q v H' → Q' v H') : hSizes K cs vs H Q' E := by
  rw [hSizes_eq]
  obtain ⟨a, b, ls, xs, css, e, e1, e2, e3, e4, e5, q0, q1⟩ := h
  exact ⟨a, b, ls, xs, css, e, e1, e2, e3, e4, e5, q0, fun z => ⟨(q1 z).1, fun z2 => ⟨((q1 z).2 z2).1, fun z3 => ⟨(((q1 z).2 z2).2 z3).1, fun z4 H' s => i _ _ ((((q1 z).2 z2).2 z3).2 z4 H' s)⟩⟩⟩⟩
end
section
variable {P : Program} {w : World} {K : PySem.W.Frag} {mg : Str → Option Value} {base : Heap}
variable {cs : Nat → Addr} {C : Addr}
abbrev st_i_Sheet : Stmt := inClass (top 56) 0
abbrev nm_i_Sheet : List Str := ["self", "languages", "rows", "row"]
theorem sc_i_Sheet : FnScope nm_i_Sheet ["self", "languages", "rows"] (defScope st_i_Sheet) := ⟨rfl, rfl, rfl, by decide +kernel, rfl, by decide +kernel, by decide +kernel⟩
def spInitS (K : PySem.W.Frag) (cs : Nat → Addr) (C : Addr) : Sp := fun vs H Q E => ∃ x dx v u, vs = [.ref x, v, u] ∧ spNeedNames K cs [v] H (fun _ H1 => spNeedOnce K cs [v] H1 (fun _ H2 => ∃ b ls, v = .ref b ∧ SqLT K H2 b ls ∧
  spNeedRows K cs [u, .int (ls.length : Nat)] H2 (fun _ H3 => spNeedSizes K cs [v, u] H3 (fun _ H4 => Good K C x dx v u H4 Q) E) E) E) E
theorem ok_i_Sheet {f : Addr} {fd : FuncData} (F : Fun K "__init__" "Sheet.__init__" st_i_Sheet f fd) (T : Blt mg) (S : ShC K C) (C_need_names : CalX P w K mg base 3 "need_names" st_need_names ["languages"] (spNeedNames K cs)) (C_need_once : CalX P w K mg base 3 "need_once" st_need_once ["values"] (spNeedOnce K cs))
    (C_need_rows : CalX P w K mg base 4 "need_rows" st_need_rows ["rows", "many"] (spNeedRows K cs)) (C_need_sizes : CalX P w K mg base 3 "need_sizes" st_need_sizes ["languages", "rows"] (spNeedSizes K cs))
    (C_places_in : Cal P w K mg base 3 "places_in" st_places_in ["rows"] (spPlacesIn K)) (C_gaps_in : Cal P w K mg base 1 "gaps_in" st_gaps_in ["languages", "rows"] (spGapsIn K)) : FnOk P w K mg base (L2.CX P w) 5 f fd ["self", "languages", "rows"] (spInitS K cs C) := by
  have C_need_names := calX_to C_need_names hNames_eq
  have C_need_once := calX_to C_need_once hOnce_eq
  have C_need_rows := calX_to C_need_rows hRows_eq
  have C_need_sizes := calX_to C_need_sizes hSizes_eq
  refine F.okX sc_i_Sheet (fun vs H Q E h => ?_) (fun cdv A outer s H vs Q E hr h => ?_)
  · obtain ⟨x, dx, v, u, rfl, _⟩ := h
    rfl
  · refine ⟨_, (pss_cons (ps_expr (pe_clX C_need_names (passes_call (takes_of rfl rfl rfl rfl) fun _ _ _ _ z => z) (hr.mono (by decide)) rfl (pa_cons (pv 1) pa_nil)))
  (pss_cons (ps_expr (pe_clX C_need_once (passes_call (takes_of rfl rfl rfl rfl) fun _ _ _ _ z => z) (hr.mono (by decide)) rfl (pa_cons (pv 1) pa_nil)))
  (pss_cons (ps_expr (pe_clX C_need_rows (passes_call (takes_of rfl rfl rfl rfl) fun _ _ _ _ z => z) (hr.mono (by decide)) rfl (pa_cons (pv 2) (pa_cons (pe_callB call_len_seq (by rfl) T.n_len (by decide +kernel) (pa_cons (pv 1) pa_nil)) pa_nil))))
  (pss_cons (ps_expr (pe_clX C_need_sizes (passes_call (takes_of rfl rfl rfl rfl) fun _ _ _ _ z => z) (hr.mono (by decide)) rfl (pa_cons (pv 1) (pa_cons (pv 2) pa_nil))))
  (pss_cons (ps_fld (pv 0) (pe_callTy (call_tg : CallR _ (.type "tuple") (hTupG K)) (by rfl) T.n_tuple (by decide +kernel) (pa_cons (pv 1) pa_nil)) rfl)
  (pss_cons (ps_fld (pv 0) (pe_callTy (call_tup : CallR _ (.type "tuple") (hTup K)) (by rfl) T.n_tuple (by decide +kernel) (pa_cons (pe_lc (own := [("row", 3)]) (g := (gName 3)) (tt := tYes) rfl sc_i_Sheet.nd (pi_lt (pv 2)) (blkOk_by (N := nm_i_Sheet) (sc := defScope st_i_Sheet) (own := [("row", 3)]) (by decide +kernel)) (fun _ _ _ _ _ => by exact pg_name (i := 3) sc_i_Sheet.nd rfl (Or.inl rfl)) (fun _ _ _ _ _ => pts_nil) (fun _ _ _ _ _ => (pe_callTy (call_tup : CallR _ (.type "tuple") (hTup K)) (by rfl) T.n_tuple (by decide +kernel) (pa_cons (pv 3) pa_nil)))) pa_nil)) rfl)
  (pss_cons (ps_fld (pv 0) (pe_cl C_places_in (hr.mono (by decide)) rfl (pa_cons (pe_fld (pv 0) rfl) pa_nil)) rfl)
  (pss_cons (ps_fld (pv 0) (pe_cl C_gaps_in (hr.mono (by decide)) rfl (pa_cons (pe_fld (pv 0) rfl) (pa_cons (pe_fld (pv 0) rfl) pa_nil))) rfl)
  (pss_one (ps_fld (pv 0) (pe_cmpR op_eq (pe_callB call_len_seq (by rfl) T.n_len (by decide +kernel) (pa_cons (pe_fld (pv 0) rfl) pa_nil)) pe_int (nomark _)) rfl)))))))))), ?_⟩
    obtain ⟨x, dx, v, u, rfl, h⟩ := h
    refine ⟨_, rfl, mono_names h fun _ H1 h => ⟨_, rfl, mono_once h fun _ H2 h => ?_⟩⟩
    obtain ⟨b, ls, rfl, hL, h⟩ := h
    refine ⟨_, rfl, _, rfl, b, ls, rfl, hL, mono_rows h fun _ H3 h => ⟨_, rfl, _, rfl, mono_sizes h fun _ H4 good => ?_⟩⟩
    obtain ⟨b', a, names, xs, css, eb, rfl, hN, hA, hR, ho, hn, hc, hx, q⟩ := good
    cases eb
    -- the languages
    refine ⟨_, rfl, rd_tg hN fun H5 tl s5 hT => ⟨_, rfl, x, C, dx, [], rfl, s5 _ _ hx, S.c, S.f1, by decide, ?_⟩⟩
    have hx5 := s5 _ _ hx
    have k6 : KX x H4 (upd H5 x (.ins C dx (putF "languages" (.ref tl) []))) := (KX.sm s5).trans KX.put
    have hx6 : (upd H5 x (.ins C dx (putF "languages" (.ref tl) []))) x = some (.ins C dx [("languages", .ref tl)]) := upd_same
    have hT6 : TupF (upd H5 x (.ins C dx (putF "languages" (.ref tl) []))) tl (tws names) := tf_kx hx5 KX.put hT
    have hA6 := hA.imp (sql_kx hx k6) (sqt_kx hx k6)
    have hR6 := rws_kx hx k6 hR
    generalize (upd H5 x (.ins C dx (putF "languages" (.ref tl) []))) = H6 at k6 hx6 hT6 hA6 hR6
    -- the rows
    rcases hA6 with h | h
    · refine .inl ⟨_, rfl, a, rfl, ⟨_, h⟩, fun D hD => ?_⟩
      refine lc_it walk_list (fun i H' => Same H6 H' ∧ ∃ ys, H' D = some (.lst ys) ∧ Rwt K H' ys (css.take i)) ⟨Sm.new hD, [], upd_same, rwt_nil⟩ (fun i H2 _ p => sm_l (p.1) h) ?_ ?_
      · rintro i y H7 H8 hi ⟨p1, ys, p2, p3⟩ ⟨rfl, hy⟩
        have hik : i < css.length := by
          rw [← hR6.1]
          exact hi
        have hr := List.getElem?_eq_getElem hik
        obtain ⟨a2, rfl, hS2⟩ := (rws_same p1 hR6).2 i y _ hy hr
        refine ⟨rfl, _, rfl, rd_tuple hS2 fun H9 t s9 hT9 => ?_⟩
        have hlen : ys.length ≤ i := by
          rw [p3.1, List.length_take]
          exact Nat.min_le_left _ _
        refine ⟨ys, s9 _ _ p2, small_lt (by omega), Sm.put (p1.trans s9) hD, ys ++ [.ref t], upd_same, ?_⟩
        rw [List.take_succ, hr]
        exact rwt_upd (s9 _ _ p2) (rwt_snoc (rwt_same s9 p3) hT9)
      · rintro H7 ⟨p1, ys, p2, p3⟩
        rw [hR6.1, List.take_length] at p3
        refine rd_tuple (.inl (SqL.of p2)) fun H8 tr s8 hT8 => ⟨_, rfl, x, C, dx, _, rfl, s8 _ _ (p1 _ _ hx6), S.c, S.f2, (by show 1 < 1000; decide), ?_⟩
        have s68 := p1.trans s8
        have hx8 := s68 _ _ hx6
        have hx9 : (upd H8 x (.ins C dx (putF "rows" (.ref tr) [("languages", .ref tl)]))) x = some (.ins C dx [("languages", .ref tl), ("rows", .ref tr)]) := upd_same
        have tl9 := tf_kx hx8 (KX.put (o := .ins C dx (putF "rows" (.ref tr) [("languages", .ref tl)]))) (tf_sm s68 hT6)
        have tr9 := sqt_kx hx8 (KX.put (o := .ins C dx (putF "rows" (.ref tr) [("languages", .ref tl)]))) hT8
        have rt9 := rwt_kx hx8 (KX.put (o := .ins C dx (putF "rows" (.ref tr) [("languages", .ref tl)]))) (rwt_same s8 p3)
        have k9 := (k6.trans (KX.sm s68)).trans (KX.put (o := .ins C dx (putF "rows" (.ref tr) [("languages", .ref tl)])))
        generalize (upd H8 x (.ins C dx (putF "rows" (.ref tr) [("languages", .ref tl)]))) = H9 at hx9 tl9 tr9 rt9 k9
        refine ⟨_, rfl, x, C, dx, _, _, rfl, hx9, S.c, S.f2, rfl, tr, ys, css, rfl, tr9, rwt_rws rt9, ho, hc, fun H10 tp ts s10 tpn htp hts => ⟨_, rfl, x, C, dx, _, rfl, s10 _ _ hx9, S.c, S.f3, (by show 2 < 1000; decide), ?_⟩⟩
        have hx10 := s10 _ _ hx9
        have hx11 : (upd H10 x (.ins C dx (putF "places" (.ref tp) [("languages", .ref tl), ("rows", .ref tr)]))) x = some (.ins C dx [("languages", .ref tl), ("rows", .ref tr), ("places", .ref tp)]) := upd_same
        have kp := KX.put (x := x) (H := H10) (o := .ins C dx (putF "places" (.ref tp) [("languages", .ref tl), ("rows", .ref tr)]))
        have tl11 := tf_kx hx10 kp (tf_sm s10 tl9)
        have tr11 := sqt_kx hx10 kp (sm_t s10 tr9)
        have rt11 := rwt_kx hx10 kp (rwt_same s10 rt9)
        have tp11 := tup_kx hx10 kp htp
        have ps11 := prs_kx hx10 kp hts
        have k11 := (k9.trans (KX.sm s10)).trans kp
        clear kp
        generalize (upd H10 x (.ins C dx (putF "places" (.ref tp) [("languages", .ref tl), ("rows", .ref tr)]))) = H11 at hx11 tl11 tr11 rt11 tp11 ps11 k11
        refine ⟨_, rfl, x, C, dx, _, _, rfl, hx11, S.c, S.f1, rfl, _, rfl, x, C, dx, _, _, rfl, hx11, S.c, S.f2, rfl, tl, tr, names, ys, css, rfl, tf_sq tl11, tr11, rt11, hn, hc, fun H12 tg gs s12 tgn htg hgs => ⟨_, rfl, x, C, dx, _, rfl, s12 _ _ hx11, S.c, S.f4, (by show 3 < 1000; decide), ?_⟩⟩
        have hx12 := s12 _ _ hx11
        have hx13 : (upd H12 x (.ins C dx (putF "gaps" (.ref tg) [("languages", .ref tl), ("rows", .ref tr), ("places", .ref tp)]))) x = some (.ins C dx [("languages", .ref tl), ("rows", .ref tr), ("places", .ref tp), ("gaps", .ref tg)]) := upd_same
        have kp := KX.put (x := x) (H := H12) (o := .ins C dx (putF "gaps" (.ref tg) [("languages", .ref tl), ("rows", .ref tr), ("places", .ref tp)]))
        have tl13 := tf_kx hx12 kp (tf_sm s12 tl11)
        have tr13 := sqt_kx hx12 kp (sm_t s12 tr11)
        have rt13 := rwt_kx hx12 kp (rwt_same s12 rt11)
        have tp13 := tup_kx hx12 kp (s12 _ _ tp11)
        have ps13 := prs_kx hx12 kp (prs_same s12 ps11)
        have tg13 := tup_kx hx12 kp htg
        have gs13 := prs_kx hx12 kp hgs
        have k13 := (k11.trans (KX.sm s12)).trans kp
        clear kp
        generalize (upd H12 x (.ins C dx (putF "gaps" (.ref tg) [("languages", .ref tl), ("rows", .ref tr), ("places", .ref tp)]))) = H13 at hx13 tl13 tr13 rt13 tp13 ps13 tg13 gs13 k13
        refine ⟨_, rfl, x, C, dx, _, _, rfl, hx13, S.c, S.f4, rfl, tg, gs, rfl, .inr (SqT.of tg13), rfl, _, rfl, x, C, dx, _, rfl, hx13, S.c, S.f5, (by show 4 < 1000; decide), ?_⟩
        have eg : decide (V.int (gs.length : Int) = V.int 0) = decide (gaps names css css.length = []) := by
          have el := gs13.1
          by_cases z : gaps names css css.length = []
          · rw [z] at el
            have el0 : gs.length = 0 := el
            rw [decide_eq_true z, el0]
            rfl
          · rw [decide_eq_false z]
            refine decide_eq_false fun e => z (List.length_eq_zero_iff.mp ?_)
            have := V.int.inj e
            omega
        have kp := KX.put (x := x) (H := H13) (o := .ins C dx (putF "is_whole" (.bl (decide (V.int (gs.length : Int) = V.int 0))) [("languages", .ref tl), ("rows", .ref tr), ("places", .ref tp), ("gaps", .ref tg)]))
        refine q _ (k13.trans kp) ⟨dx, tl, tr, tp, tg, ys, ts, gs, ?_, tf_kx hx13 kp tl13, sqt_kx hx13 kp tr13, rwt_kx hx13 kp rt13, tup_kx hx13 kp tp13, prs_kx hx13 kp ps13, tup_kx hx13 kp tg13, prs_kx hx13 kp gs13⟩
        rw [upd_same, eg]
        rfl
    · refine .inr ⟨_, rfl, a, rfl, ⟨_, h⟩, fun D hD => ?_⟩
      refine lc_it walk_tup (fun i H' => Same H6 H' ∧ ∃ ys, H' D = some (.lst ys) ∧ Rwt K H' ys (css.take i)) ⟨Sm.new hD, [], upd_same, rwt_nil⟩ (fun i H2 _ p => sm_t (p.1) h) ?_ ?_
      · rintro i y H7 H8 hi ⟨p1, ys, p2, p3⟩ ⟨rfl, hy⟩
        have hik : i < css.length := by
          rw [← hR6.1]
          exact hi
        have hr := List.getElem?_eq_getElem hik
        obtain ⟨a2, rfl, hS2⟩ := (rws_same p1 hR6).2 i y _ hy hr
        refine ⟨rfl, _, rfl, rd_tuple hS2 fun H9 t s9 hT9 => ?_⟩
        have hlen : ys.length ≤ i := by
          rw [p3.1, List.length_take]
          exact Nat.min_le_left _ _
        refine ⟨ys, s9 _ _ p2, small_lt (by omega), Sm.put (p1.trans s9) hD, ys ++ [.ref t], upd_same, ?_⟩
        rw [List.take_succ, hr]
        exact rwt_upd (s9 _ _ p2) (rwt_snoc (rwt_same s9 p3) hT9)
      · rintro H7 ⟨p1, ys, p2, p3⟩
        rw [hR6.1, List.take_length] at p3
        refine rd_tuple (.inl (SqL.of p2)) fun H8 tr s8 hT8 => ⟨_, rfl, x, C, dx, _, rfl, s8 _ _ (p1 _ _ hx6), S.c, S.f2, (by show 1 < 1000; decide), ?_⟩
        have s68 := p1.trans s8
        have hx8 := s68 _ _ hx6
        have hx9 : (upd H8 x (.ins C dx (putF "rows" (.ref tr) [("languages", .ref tl)]))) x = some (.ins C dx [("languages", .ref tl), ("rows", .ref tr)]) := upd_same
        have tl9 := tf_kx hx8 (KX.put (o := .ins C dx (putF "rows" (.ref tr) [("languages", .ref tl)]))) (tf_sm s68 hT6)
        have tr9 := sqt_kx hx8 (KX.put (o := .ins C dx (putF "rows" (.ref tr) [("languages", .ref tl)]))) hT8
        have rt9 := rwt_kx hx8 (KX.put (o := .ins C dx (putF "rows" (.ref tr) [("languages", .ref tl)]))) (rwt_same s8 p3)
        have k9 := (k6.trans (KX.sm s68)).trans (KX.put (o := .ins C dx (putF "rows" (.ref tr) [("languages", .ref tl)])))
        generalize (upd H8 x (.ins C dx (putF "rows" (.ref tr) [("languages", .ref tl)]))) = H9 at hx9 tl9 tr9 rt9 k9
        refine ⟨_, rfl, x, C, dx, _, _, rfl, hx9, S.c, S.f2, rfl, tr, ys, css, rfl, tr9, rwt_rws rt9, ho, hc, fun H10 tp ts s10 tpn htp hts => ⟨_, rfl, x, C, dx, _, rfl, s10 _ _ hx9, S.c, S.f3, (by show 2 < 1000; decide), ?_⟩⟩
        have hx10 := s10 _ _ hx9
        have hx11 : (upd H10 x (.ins C dx (putF "places" (.ref tp) [("languages", .ref tl), ("rows", .ref tr)]))) x = some (.ins C dx [("languages", .ref tl), ("rows", .ref tr), ("places", .ref tp)]) := upd_same
        have kp := KX.put (x := x) (H := H10) (o := .ins C dx (putF "places" (.ref tp) [("languages", .ref tl), ("rows", .ref tr)]))
        have tl11 := tf_kx hx10 kp (tf_sm s10 tl9)
        have tr11 := sqt_kx hx10 kp (sm_t s10 tr9)
        have rt11 := rwt_kx hx10 kp (rwt_same s10 rt9)
        have tp11 := tup_kx hx10 kp htp
        have ps11 := prs_kx hx10 kp hts
        have k11 := (k9.trans (KX.sm s10)).trans kp
        clear kp
        generalize (upd H10 x (.ins C dx (putF "places" (.ref tp) [("languages", .ref tl), ("rows", .ref tr)]))) = H11 at hx11 tl11 tr11 rt11 tp11 ps11 k11
        refine ⟨_, rfl, x, C, dx, _, _, rfl, hx11, S.c, S.f1, rfl, _, rfl, x, C, dx, _, _, rfl, hx11, S.c, S.f2, rfl, tl, tr, names, ys, css, rfl, tf_sq tl11, tr11, rt11, hn, hc, fun H12 tg gs s12 tgn htg hgs => ⟨_, rfl, x, C, dx, _, rfl, s12 _ _ hx11, S.c, S.f4, (by show 3 < 1000; decide), ?_⟩⟩
        have hx12 := s12 _ _ hx11
        have hx13 : (upd H12 x (.ins C dx (putF "gaps" (.ref tg) [("languages", .ref tl), ("rows", .ref tr), ("places", .ref tp)]))) x = some (.ins C dx [("languages", .ref tl), ("rows", .ref tr), ("places", .ref tp), ("gaps", .ref tg)]) := upd_same
        have kp := KX.put (x := x) (H := H12) (o := .ins C dx (putF "gaps" (.ref tg) [("languages", .ref tl), ("rows", .ref tr), ("places", .ref tp)]))
        have tl13 := tf_kx hx12 kp (tf_sm s12 tl11)
        have tr13 := sqt_kx hx12 kp (sm_t s12 tr11)
        have rt13 := rwt_kx hx12 kp (rwt_same s12 rt11)
        have tp13 := tup_kx hx12 kp (s12 _ _ tp11)
        have ps13 := prs_kx hx12 kp (prs_same s12 ps11)
        have tg13 := tup_kx hx12 kp htg
        have gs13 := prs_kx hx12 kp hgs
        have k13 := (k11.trans (KX.sm s12)).trans kp
        clear kp
        generalize (upd H12 x (.ins C dx (putF "gaps" (.ref tg) [("languages", .ref tl), ("rows", .ref tr), ("places", .ref tp)]))) = H13 at hx13 tl13 tr13 rt13 tp13 ps13 tg13 gs13 k13
        refine ⟨_, rfl, x, C, dx, _, _, rfl, hx13, S.c, S.f4, rfl, tg, gs, rfl, .inr (SqT.of tg13), rfl, _, rfl, x, C, dx, _, rfl, hx13, S.c, S.f5, (by show 4 < 1000; decide), ?_⟩
        have eg : decide (V.int (gs.length : Int) = V.int 0) = decide (gaps names css css.length = []) := by
          have el := gs13.1
          by_cases z : gaps names css css.length = []
          · rw [z] at el
            have el0 : gs.length = 0 := el
            rw [decide_eq_true z, el0]
            rfl
          · rw [decide_eq_false z]
            refine decide_eq_false fun e => z (List.length_eq_zero_iff.mp ?_)
            have := V.int.inj e
            omega
        have kp := KX.put (x := x) (H := H13) (o := .ins C dx (putF "is_whole" (.bl (decide (V.int (gs.length : Int) = V.int 0))) [("languages", .ref tl), ("rows", .ref tr), ("places", .ref tp), ("gaps", .ref tg)]))
        refine q _ (k13.trans kp) ⟨dx, tl, tr, tp, tg, ys, ts, gs, ?_, tf_kx hx13 kp tl13, sqt_kx hx13 kp tr13, rwt_kx hx13 kp rt13, tup_kx hx13 kp tp13, prs_kx hx13 kp ps13, tup_kx hx13 kp tg13, prs_kx hx13 kp gs13⟩
        rw [upd_same, eg]
        rfl
end
end K6
namespace K6
open PySem PySem.Spec PyProof.Rows L2 K0 K4
/-- what makes a sheet -/
structure ShOk (names : List (List Nat)) (css : List (List Cell)) : Prop where
  n0 : names ≠ []
  nm : ∀ l ∈ names, nmOk l = true
  nd : names.Nodup
  n4 : names.length ≤ 4
  r0 : css ≠ []
  r6 : css.length ≤ 6
  rl : ∀ r ∈ css, r.length = names.length
  rc : ∀ r ∈ css, ∀ l, some l ∈ r → celOk l = true ∧ l.length ≤ 10000
  re : ∀ r ∈ css, lens r ≠ [] ∧ evenB r = true
  rs : (css.map wid).sum ≤ 12
theorem lens_pos {r : List Cell} : ∀ n ∈ lens r, 0 ≤ n := fun n hn => by
  obtain ⟨c, _, hc⟩ := List.mem_filterMap.mp hn
  cases c with
  | none => cases hc
  | some l =>
    obtain rfl : (l.length : Int) = n := Option.some.inj hc
    omega
theorem wid_pos (r : List Cell) : 0 ≤ wid r := by
  unfold wid
  cases e : lens r with
  | nil => exact Int.le_refl _
  | cons n q => exact lens_pos n (by rw [e]; exact List.mem_cons_self)
theorem le_sum : ∀ {ns : List Int}, (∀ n ∈ ns, 0 ≤ n) → 0 ≤ ns.sum ∧ ∀ n ∈ ns, n ≤ ns.sum
  | [], _ => ⟨Int.le_refl _, fun n hn => by simp at hn⟩
  | m :: r, h => by
    obtain ⟨h1, h2⟩ := le_sum (ns := r) fun n hn => h n (List.mem_cons_of_mem _ hn)
    have h0 := h m List.mem_cons_self
    rw [List.sum_cons]
    refine ⟨by omega, fun n hn => ?_⟩
    rcases List.mem_cons.mp hn with rfl | hn
    · omega
    · have := h2 n hn
      omega
theorem ShOk.wd {names : List (List Nat)} {css : List (List Cell)} (h : ShOk names css) : ∀ r ∈ css, rowOk r ∧ 0 ≤ wid r ∧ wid r ≤ 100 := fun r hr => by
  have h1 := (le_sum (ns := css.map wid) fun n hn => by
    obtain ⟨q, _, rfl⟩ := List.mem_map.mp hn
    exact wid_pos q).2 (wid r) (List.mem_map.mpr ⟨r, hr, rfl⟩)
  have h2 := h.rs
  have h3 := h.rl r hr
  have h4 := h.n4
  exact ⟨⟨by omega, fun l hl => (h.rc r hr l hl).2, (h.re r hr).1⟩, wid_pos r, by omega⟩
theorem nm_len {l : List Nat} (h : nmOk l = true) : l.length ≤ 10000 := by
  unfold nmOk at h
  simp only [Bool.and_eq_true, decide_eq_true_eq] at h
  omega
theorem ft_none : ∀ (ks seen : List Key), (seen ++ ks).Nodup → ft seen ks = .non
  | [], _, _ => rfl
  | k :: r, seen, h => by
    have hk : k ∉ seen := fun z => by
      have := List.nodup_append.mp h
      exact this.2.2 k z k List.mem_cons_self rfl
    have e : (seen.any fun j => decide (j = k)) = false := by
      refine List.any_eq_false.mpr fun j hj => ?_
      simpa using fun z : j = k => hk (z ▸ hj)
    show (if (seen.any fun j => decide (j = k)) = true then kV k else ft (seen ++ [k]) r) = .non
    rw [e, if_neg Bool.false_ne_true]
    exact ft_none r (seen ++ [k]) (by rw [List.append_assoc]; exact h)
section
variable {K : PySem.W.Frag} {H : Hp}
theorem kd_l {b : Addr} {xs : List V} (h : SqLT K H b xs) : ∃ n, Kd K H (.ref b) n ∧ isLT n = true := by
  rcases h with h | h
  · rcases h with (h | ⟨o, h⟩) | ⟨o, its, n, h, c, _⟩
    · exact ⟨"list", ⟨.base (.lst h), by decide⟩, by decide⟩
    · exact ⟨"list", ⟨.base (.frz h), by decide⟩, by decide⟩
    · exact ⟨"list", ⟨.kList h c, by decide⟩, by decide⟩
  · rcases h with (h | ⟨o, h⟩) | ⟨o, its, n, h, c, _⟩
    · exact ⟨"tuple", ⟨.base (.tup h), by decide⟩, by decide⟩
    · exact ⟨"tuple", ⟨.fTuple h, by decide⟩, by decide⟩
    · exact ⟨"tuple", ⟨.kTuple h c, by decide⟩, by decide⟩
theorem cv_good {r : List Cell} (h : ∀ l, some l ∈ r → celOk l = true ∧ l.length ≤ 10000) : Cvs K H (r.map cx) (List.replicate r.length true) := by
  refine ⟨by rw [List.length_map, List.length_replicate], fun i x hx => ?_⟩
  obtain ⟨c, hc, rfl⟩ := cx_at hx
  have hi := (List.getElem?_eq_some_iff.mp hc).1
  have e : (List.replicate r.length true).getD i false = true := by
    rw [List.getD_eq_getElem?_getD, List.getElem?_replicate, if_pos hi]
    rfl
  rw [e]
  cases c with
  | none => exact .inl ⟨rfl, rfl⟩
  | some l =>
    obtain ⟨h1, h2⟩ := h l (List.mem_of_getElem? hc)
    exact .inr ⟨(fun z => (by cases z)), .inl ⟨l, rfl, h2, h1.symm⟩⟩
theorem has_good {r : List Cell} (h : lens r ≠ []) : hasC (r.map cx) = true := by
  cases e : lens r with
  | nil => exact absurd e h
  | cons n q =>
    have hn : n ∈ lens r := by rw [e]; exact List.mem_cons_self
    obtain ⟨c, hc, hc2⟩ := List.mem_filterMap.mp hn
    cases c with
    | none => cases hc2
    | some l => exact List.any_eq_true.mpr ⟨cx (some l), List.mem_map.mpr ⟨_, hc, rfl⟩, rfl⟩
theorem rv_good {names : List (List Nat)} {css : List (List Cell)} {xs : List V} (h : ShOk names css) (hR : Rws K H xs css) : Rvs K H names.length xs (List.replicate css.length true) := by
  refine ⟨by rw [hR.1, List.length_replicate], fun i x hx => ?_⟩
  have hi : i < css.length := by
    rw [← hR.1]
    exact (List.getElem?_eq_some_iff.mp hx).1
  have hr := List.getElem?_eq_getElem hi
  obtain ⟨a, rfl, hS⟩ := hR.2 i x _ hx hr
  have hm := List.getElem_mem hi
  obtain ⟨n, kd, hn⟩ := kd_l hS
  have e : (List.replicate css.length true).getD i false = true := by
    rw [List.getD_eq_getElem?_getD, List.getElem?_replicate, if_pos hi]
    rfl
  rw [e]
  have hl := h.rl _ hm
  have h4 := h.n4
  refine ⟨n, kd, .inr ⟨hn, a, _, _, rfl, hS, by rw [List.length_map]; omega, cv_good (h.rc _ hm), ?_⟩⟩
  rw [has_good (h.re _ hm).1, List.length_map, hl, decide_eq_true rfl]
  simp
variable {cs : Nat → Addr} {C x dx b a : Addr} {Q : VK} {E : XK}
/-- right names and rows make a sheet -/
theorem init_good {names : List (List Nat)} {css : List (List Cell)} {xs : List V} (h : ShOk names css) (hN : LTF K H b (tws names)) (hA : SqLT K H a xs) (hR : Rws K H xs css) (hx : H x = some (.ins C dx []))
    (k : ∀ H', (∀ c o, c ≠ x → H c = some o → H' c = some o) → SheetAt K C H' x names css → Q .non H') : spInitS K cs C [.ref x, .ref b, .ref a] H Q E := by
  obtain ⟨n1, kd1, hn1⟩ := kd_l (ltf_lt hN)
  obtain ⟨n2, kd2, hn2⟩ := kd_l hA
  have h4 := h.n4
  have h6 := h.r6
  have hne : tws names ≠ [] := fun z => h.n0 (List.length_eq_zero_iff.mp (by rw [← tws_len, z]; rfl))
  have hxe : xs ≠ [] := fun z => h.r0 (List.length_eq_zero_iff.mp (by rw [← hR.1, z]; rfl))
  have hall : ∀ n, (List.replicate n true).all id = true := fun n => by simp
  refine ⟨x, dx, _, _, rfl, ⟨_, n1, rfl, kd1, .inr ⟨hn1, b, tws names, List.replicate names.length true, rfl, ltf_lt hN, by rw [tws_len]; omega, ⟨by rw [tws_len, List.length_replicate], fun i y hy => ?_⟩, fun _ H1 s1 => ?_, fun z => absurd ⟨hne, hall _⟩ z⟩⟩⟩
  · obtain ⟨l, hl, rfl⟩ := tws_at hy
    have hi := (List.getElem?_eq_some_iff.mp hl).1
    have e : (List.replicate names.length true).getD i false = true := by
      rw [List.getD_eq_getElem?_getD, List.getElem?_replicate, if_pos hi]
      rfl
    rw [e]
    have hm := h.nm l (List.mem_of_getElem? hl)
    exact .inl ⟨l, rfl, nm_len hm, hm.symm⟩
  have ek : tws names = (names.map fun l => (Sum.inr (Tx l) : Key)).map kV := by
    rw [List.map_map]
    rfl
  have hft : ft [] (names.map fun l => (Sum.inr (Tx l) : Key)) = .non := ft_none _ [] (by
    rw [List.nil_append]
    exact List.pairwise_map.mpr (h.nd.imp fun ne e => ne (tx_inj (Sum.inr.inj e))))
  refine ⟨b, _, rfl, by rw [← ek]; exact lt_same s1 (ltf_lt hN), by rw [List.length_map]; omega, fun _ H2 s2 => ?_, fun z => absurd hft z⟩
  have s12 := s1.trans s2
  refine ⟨b, tws names, rfl, lt_same s12 (ltf_lt hN), ⟨_, n2, names.length, by rw [tws_len], ⟨tyx_same s12 kd2.1, kd2.2⟩, .inr ⟨hn2, a, xs, _, rfl, lt_same s12 hA, by rw [hR.1]; omega, rv_good h (rws_same s12 hR), fun _ H3 s3 => ?_, fun z => absurd ⟨hxe, hall _⟩ z⟩⟩⟩
  have s13 := s12.trans s3
  have hev : css.all evenB = true := List.all_eq_true.mpr fun r hr => (h.re r hr).2
  refine ⟨b, a, tws names, xs, css, rfl, lt_same s13 (ltf_lt hN), lt_same s13 hA, rws_same s13 hR, fun r hr => (h.wd r hr).1, by omega, (fun z => (by rw [hev] at z; cases z)), fun _ => ⟨(fun z => (by rw [tws_len] at z; omega)), fun _ => ⟨(fun z => (by rw [hR.1] at z; omega)), fun _ => ⟨(fun z => (by have := h.rs; omega)), fun _ H4 s4 => ?_⟩⟩⟩⟩
  have s14 := s13.trans s4
  exact ⟨b, a, names, xs, css, rfl, rfl, ltf_same s14 hN, lt_same s14 hA, rws_same s14 hR, h.wd, by omega, by omega, s14 _ _ hx, fun H' kp sh => k H' (fun c o n e => kp c o n (s14 _ _ e)) sh⟩
end
end K6
namespace K6
open PySem PySem.Spec PyProof.Rows L2 K0 K4
section
variable {P : Program} {w : World} {K : PySem.W.Frag} {mg : Str → Option Value} {base : Heap}
variable {cs : Nat → Addr} {C : Addr}
theorem sheet_kx {x y : Addr} {H H' : Hp} {names : List (List Nat)} {css : List (List Cell)} (s : Same H H') (h : SheetAt K C H x names css) : SheetAt K C H' x names css := by
  obtain ⟨dx, tl, tr, tp, tg, xs, ts, gs, e, h1, h2, h3, h4, h5, h6, h7⟩ := h
  exact ⟨dx, tl, tr, tp, tg, xs, ts, gs, s _ _ e, tf_sm s h1, sm_t s h2, rwt_same s h3, s _ _ h4, prs_same s h5, s _ _ h6, prs_same s h7⟩
/-- Sheet(names, rows) of right data -/
theorem make_good {b a : Addr} {names : List (List Nat)} {css : List (List Cell)} {xs : List V} {H : Hp} {Q : VK} {E : XK} (h : ShOk names css) (hN : LTF K H b (tws names)) (hA : SqLT K H a xs) (hR : Rws K H xs css)
    (k : ∀ H' x, Same H H' → H x = none → SheetAt K C H' x names css → Q (.ref x) H') : ∀ x dx, H x = none → H dx = none → dx ≠ x →
    spInitS K cs C (.ref x :: ([.ref b, .ref a] ++ [])) (upd (upd H dx (.own x)) x (.ins C dx [])) (fun v H2 => v = .non ∧ Q (.ref x) H2) E := by
  intro x dx nx nd ne
  have s1 : Same H (upd (upd H dx (.own x)) x (.ins C dx [])) := fun c o e => by
    rw [upd_ne (ne_of_none e nx), upd_ne (ne_of_none e nd)]
    exact e
  exact init_good h (ltf_same s1 hN) (lt_same s1 hA) (rws_same s1 hR) upd_same fun H' kp sh => ⟨rfl, k H' x (fun c o e => kp c o (ne_of_none e nx) (s1 _ _ e)) nx sh⟩
abbrev st_need_language : Stmt := top 50
abbrev nm_need_language : List Str := ["sheet", "language"]
theorem sc_need_language : FnScope nm_need_language ["sheet", "language"] (defScope st_need_language) := ⟨rfl, rfl, rfl, by decide +kernel, rfl, by decide +kernel, by decide +kernel⟩
def spNeedLang (K : PySem.W.Frag) (cs : Nat → Addr) (C : Addr) : Sp := fun vs H Q E => ∃ x v names css, vs = [.ref x, v] ∧ SheetAt K C H x names css ∧
  Sov K H v (fun l => (l ∈ names → Q .non H) ∧ (l ∉ names → Rq cs 5 [("value", v)] H E)) (Rq cs 5 [("value", v)] H E)
theorem inV_tws {l : List Nat} {names : List (List Nat)} : inV (.str (Tx l)) (tws names) = decide (l ∈ names) := by
  unfold inV tws
  rw [List.any_map]
  by_cases h : l ∈ names
  · rw [decide_eq_true h]
    exact List.any_eq_true.mpr ⟨l, h, by show (Tx l == Tx l) = true; simp⟩
  · rw [decide_eq_false h]
    refine List.any_eq_false.mpr fun m hm => ?_
    show ¬ (Tx m == Tx l) = true
    intro z
    exact h (tx_inj (eq_of_beq z) ▸ hm)
theorem ok_need_language {f : Addr} {fd : FuncData} (F : Fun K "need_language" "need_language" st_need_language f fd) (T : Blt mg) (S : ShC K C) (E_NoLanguage : Rs1 P w K mg base "NoLanguage" (cs 5) "value") :
    FnOk P w K mg base (L2.CX P w) 3 f fd ["sheet", "language"] (spNeedLang K cs C) := by
  refine F.okX sc_need_language (fun vs H Q E h => ?_) (fun cdv A outer s H vs Q E hr h => ?_)
  · obtain ⟨x, v, names, css, rfl, _⟩ := h
    rfl
  · refine ⟨_, (pss_one (ps_if (PW.pt (pw_or (pt_not (pt_val (pe_callB call_isi (by rfl) T.n_isinstance (by decide +kernel) (pa_cons (pv 1) (pa_cons (pe_bltn (v := .ty "str") (by rfl) T.n_str (by decide +kernel) rfl) pa_nil))))) (pw_or1 (pt_cmpR op_notIn_seq (pv 1) (pe_fld (pv 0) rfl) rfl)))) (pss_one (ps_raise1 E_NoLanguage (hr.mono (by decide)) rfl (takes_of rfl rfl rfl rfl) rfl (pa_cons (pv 1) pa_nil))) pss_nil)), ?_⟩
    obtain ⟨x, v, names, css, rfl, ⟨dx, tl, tr, tp, tg, xs, ts, gs, hx, hl, hr1, hw, _⟩, h⟩ := h
    rcases h with ⟨l, rfl, hlen, q1, q2⟩ | ⟨n, ⟨ty, hn⟩, ne, q⟩
    · obtain ⟨_, _, k3, _⟩ := kd_kit (K := K) (n := "str") (by decide)
      refine ⟨_, rfl, _, _, _, _, _, rfl, .ty "str", .base (.str _), k3, _, rfl, iteF ?_⟩
      refine ⟨_, rfl, _, rfl, x, C, dx, _, _, rfl, hx, S.c, S.f1, rfl, tl, tws names, rfl, .inr (tf_sq hl), rfl, ?_, _, rfl, ?_⟩
      · exact List.all_eq_true.mpr fun y hy => by
          obtain ⟨m, _, rfl⟩ := List.mem_map.mp hy
          rfl
      · rw [inV_tws]
        by_cases hl2 : l ∈ names
        · rw [decide_eq_true hl2]
          exact iteF (q1 hl2)
        · rw [decide_eq_false hl2]
          exact iteT ⟨_, rfl, raise1 (q2 hl2)⟩
    · obtain ⟨_, _, k3, _⟩ := kd_kit (K := K) hn
      refine ⟨_, rfl, v, _, _, _, _, rfl, .ty "str", ty, k3, _, rfl, ?_⟩
      rw [ne]
      exact iteT (iteT ⟨_, rfl, raise1 q⟩)
end
end K6
namespace K6
open PySem PySem.Spec PyProof.Rows L2 K0 K4
@[irreducible] def hLang (K : PySem.W.Frag) (cs : Nat → Addr) (C : Addr) : Sp := spNeedLang K cs C
theorem hLang_eq {K : PySem.W.Frag} {cs : Nat → Addr} {C : Addr} : hLang K cs C = spNeedLang K cs C := by
  unfold hLang
  rfl
end K6
namespace K6
open PySem PySem.Spec PyProof.Rows L2 K0 K4
/-- a class whose __init__ may raise, made by its name -/
structure MakX (P : Program) (w : World) (K : PySem.W.Frag) (mg : Str → Option Value) (base : Heap) (k : Nat) (x : Str) (C : Addr) (ps : List Str) (sp : Sp) : Prop where
  ex : ∃ (f : Addr) (fd : FuncData), Mk K C f ∧ mg x = some (.ref C) ∧ Binds K fd ps [] ∧ FnOk P w K mg base (L2.CX P w) k f fd ps sp
section
variable {X : Cx} {k : Nat} {C : Addr} {x : Str} {ps : List Str} {sp : Sp} {p pos : Pos} {e : Expr} {es : List Expr} {t : TA} {E : XK}
theorem pe_mkX (c : MakX X.prog X.w X.K X.mg X.base k x C ps sp) (hx : Passes (L2.CX X.prog X.w) X E) (hr : Room (k + 1) X.A) (hg : Gl X x) (ha : PA X (e :: es) t)
    (hdb : (x == ("__debug__" : Str)) = false := by decide) (he : starEach (e :: es) X.env = (false, eval e X.env) :: starEach es X.env := by rfl)
    (hpl : (backTo pos (starEach es X.env)).any (·.1) = false := by rfl) : PE X (.Call (.Name x p) (e :: es) [] pos) (tMake C sp [] E t) := by
  obtain ⟨f, fd, M, hm, hb, G⟩ := c.ex
  exact pe_make M G hr hg hm hb .nil hx ha hdb he hpl
end
section
variable {P : Program} {w : World} {K : PySem.W.Frag} {mg : Str → Option Value} {base : Heap}
variable {cs : Nat → Addr} {C : Addr}
abbrev CSheet (P : Program) (w : World) (K : PySem.W.Frag) (mg : Str → Option Value) (base : Heap) (cs : Nat → Addr) (C : Addr) : Prop := MakX P w K mg base 5 "Sheet" C ["self", "languages", "rows"] (spInitS K cs C)
end
end K6
namespace K6
open PySem PySem.Spec PyProof.Rows L2 K0 K4
theorem rws_snoc {K : PySem.W.Frag} {H : Hp} {xs : List V} {css : List (List Cell)} {y : V} {r : List Cell} (h : Rws K H xs css) (e : ∃ a, y = .ref a ∧ SqLT K H a (r.map cx)) : Rws K H (xs ++ [y]) (css ++ [r]) := by
  refine ⟨by rw [List.length_append, List.length_append, h.1]; rfl, fun i t p e1 e2 => ?_⟩
  by_cases hi : i < xs.length
  · rw [List.getElem?_append_left hi] at e1
    rw [List.getElem?_append_left (by rw [← h.1]; exact hi)] at e2
    exact h.2 i t p e1 e2
  · have hi2 : i = xs.length := by
      have := (List.getElem?_eq_some_iff.mp e1).1
      rw [List.length_append] at this
      have h1 : ([y] : List V).length = 1 := rfl
      omega
    subst hi2
    rw [List.getElem?_append_right (Nat.le_refl _)] at e1
    rw [h.1, List.getElem?_append_right (Nat.le_refl _)] at e2
    simp at e1 e2
    subst e1 e2
    exact e
end K6
namespace K6
open PySem PySem.Spec PyProof.Rows L2 K0 K4
section
variable {P : Program} {w : World} {K : PySem.W.Frag} {mg : Str → Option Value} {base : Heap}
variable {cs : Nat → Addr} {C : Addr}
def dN (names : List (List Nat)) : PyData := .tuple (names.map fun l => .str (Tx l))
theorem dpa {K : PySem.W.Frag} {H : Hp} {α : Type} {f : α → V} {d : α → PyData} : ∀ {xs : List α}, (∀ x ∈ xs, Dp K H (f x) (d x)) → DpAll K H (xs.map f) (xs.map d)
  | [], _ => .nil
  | x :: r, h => .cons (h x List.mem_cons_self) (dpa fun y hy => h y (List.mem_cons_of_mem _ hy))
structure KSh (K : PySem.W.Frag) (mg : Str → Option Value) (C : Addr) : Prop where
  g_Sheet : mg "Sheet" = some (.ref C)
  self : PySem.W.kitOne K (.ref C) (.ref C) = some true
  ha : PySem.W.findIn K (.ref C) "__class__" = some (some (.builtin "object.__class__"))
  hn : PySem.W.specialIn K (.builtin "object.__class__") "__get__" = some (some (.builtin "getset_descriptor.__get__"))
  htk : PySem.W.takesIn K (.builtin "object.__class__") = some true
  hm : PySem.W.mroIn K C (.type "object") = some true
end
end K6
namespace K6
open PySem PySem.Spec PyProof.Rows L2 K0 K4
theorem lay_all {α : Type} {d : α → PyData} : ∀ {xs : List α}, (∀ x ∈ xs, PyData.canLay0 (d x) = true) → PyData.canLayAll0 (xs.map d) = true
  | [], _ => rfl
  | x :: r, h => by
    rw [List.map_cons]
    unfold PyData.canLayAll0
    rw [h x List.mem_cons_self, lay_all fun y hy => h y (List.mem_cons_of_mem _ hy)]
    rfl
theorem depth_all {α : Type} {d : α → PyData} {b : Nat} : ∀ {xs : List α}, (∀ x ∈ xs, (d x).depth ≤ b) → PyData.depthAll (xs.map d) ≤ b
  | [], _ => Nat.zero_le _
  | x :: r, h => by
    have h1 := h x List.mem_cons_self
    have h2 := depth_all (xs := r) fun y hy => h y (List.mem_cons_of_mem _ hy)
    rw [List.map_cons]
    unfold PyData.depthAll
    omega
theorem str_low {l : List Nat} (h : ∀ c ∈ l, c < 1114112) : PyData.canLay0 (.str (Tx l)) = true := by
  unfold PyData.canLay0
  show (l.toArray).all (fun c => decide (c < 0x110000)) = true
  rw [List.all_toArray]
  exact List.all_eq_true.mpr fun c hc => decide_eq_true (h c hc)
theorem nm_low {l : List Nat} (h : nmOk l = true) : ∀ c ∈ l, c < 1114112 := fun c hc => by
  unfold nmOk at h
  simp only [Bool.and_eq_true] at h
  have := List.all_eq_true.mp h.1.2 c hc
  unfold isaz is09 at this
  simp only [Bool.or_eq_true, Bool.and_eq_true, decide_eq_true_eq] at this
  omega
theorem cel_low {l : List Nat} (h : celOk l = true) : ∀ c ∈ l, c < 1114112 := fun c hc => by
  unfold celOk lw at h
  simp only [Bool.and_eq_true] at h
  by_cases h45 : c = 45
  · omega
  · have := List.all_eq_true.mp h.2 c (List.mem_filter.mpr ⟨hc, by simpa using h45⟩)
    unfold isaz at this
    simp only [Bool.and_eq_true, decide_eq_true_eq] at this
    omega
theorem shaped_of {d : PyData} (h1 : PyData.canLay0 d = true) (h2 : d.depth ≤ 64) : SeqAt.shaped d = true := by
  unfold SeqAt.shaped
  rw [h1, decide_eq_true h2]
  rfl
end K6
namespace K6
open PySem PySem.Spec PyProof.Rows L2 K0 K4
section
variable {P : Program} {w : World} {K : PySem.W.Frag} {mg : Str → Option Value} {base : Heap}
variable {cs : Nat → Addr} {C : Addr}
/-- a sheet, or something else -/
def Shv (K : PySem.W.Frag) (C : Addr) (H : Hp) (v : V) (q : Addr → List (List Nat) → List (List Cell) → Prop) (r : Prop) : Prop :=
  (∃ t, TyX K H v t ∧ PySem.W.kitOne K t (.ref C) = some false ∧ r) ∨ ∃ y names css, v = .ref y ∧ SheetAt K C H y names css ∧ q y names css
theorem shv_sheet {H : Hp} {y : Addr} {names : List (List Nat)} {css : List (List Cell)} {q : Addr → List (List Nat) → List (List Cell) → Prop} {r : Prop} (h : SheetAt K C H y names css) (hq : q y names css) : Shv K C H (.ref y) q r := .inr ⟨y, names, css, rfl, h, hq⟩
abbrev st_need_sheet : Stmt := top 47
abbrev nm_need_sheet : List Str := ["value", "part"]
theorem sc_need_sheet : FnScope nm_need_sheet ["value", "part"] (defScope st_need_sheet) := ⟨rfl, rfl, rfl, by decide +kernel, rfl, by decide +kernel, by decide +kernel⟩
def spNeedSheet (K : PySem.W.Frag) (cs : Nat → Addr) (C : Addr) : Sp := fun vs H Q E => ∃ v z, vs = [v, .str z] ∧ Shv K C H v (fun _ _ _ => Q .non H) (XSheet cs z H E)
theorem ok_need_sheet {f : Addr} {fd : FuncData} (F : Fun K "need_sheet" "need_sheet" st_need_sheet f fd) (S : ShC K C) (T : Blt mg) (U : KSh K mg C) (E_BadSheet : Rs1 P w K mg base "BadSheet" (cs 0) "part") :
    FnOk P w K mg base (L2.CX P w) 3 f fd ["value", "part"] (spNeedSheet K cs C) := by
  refine F.okX sc_need_sheet (fun vs H Q E h => ?_) (fun cdv A outer s H vs Q E hr h => ?_)
  · obtain ⟨v, z, rfl, _⟩ := h
    rfl
  · refine ⟨_, (pss_one (ps_if (pt_not (pt_val (pe_callB call_isi (by rfl) T.n_isinstance (by decide +kernel) (pa_cons (pv 0) (pa_cons (pe_glob (v := .ref _) rfl (U.g_Sheet) rfl) pa_nil))))) (pss_one (ps_raise1 E_BadSheet (hr.mono (by decide)) rfl (takes_of rfl rfl rfl rfl) rfl (pa_cons (pv 1) pa_nil))) pss_nil)), ?_⟩
    obtain ⟨v, z, rfl, ⟨t, ty, hk, q⟩ | ⟨y, names, css, rfl, sh, q⟩⟩ := h
    · exact ⟨_, rfl, _, _, t, _, _, rfl, .own C, ty, hk, _, rfl, iteT ⟨_, rfl, raise1 q⟩⟩
    · obtain ⟨dx, tl, tr, tp, tg, xr, ts, gs, hx, _⟩ := sh
      exact ⟨_, rfl, _, _, .ref C, _, _, rfl, .own C, .base (.ins hx S.c U.ha U.hn U.htk U.hm), U.self, _, rfl, iteF q⟩
abbrev CNSh (P : Program) (w : World) (K : PySem.W.Frag) (mg : Str → Option Value) (base : Heap) (cs : Nat → Addr) (C : Addr) : Prop := CalX P w K mg base 3 "need_sheet" st_need_sheet ["value", "part"] (spNeedSheet K cs C)
abbrev st_need_whole : Stmt := top 48
abbrev nm_need_whole : List Str := ["value", "part"]
theorem sc_need_whole : FnScope nm_need_whole ["value", "part"] (defScope st_need_whole) := ⟨rfl, rfl, rfl, by decide +kernel, rfl, by decide +kernel, by decide +kernel⟩
def spNeedWhole (K : PySem.W.Frag) (cs : Nat → Addr) (C : Addr) : Sp := fun vs H Q E => ∃ v z, vs = [v, .str z] ∧ Shv K C H v (fun _ names css => (gaps names css css.length = [] → Q .non H) ∧ (gaps names css css.length ≠ [] → XSheet cs "gaps" H E)) (XSheet cs z H E)
theorem ok_need_whole {f : Addr} {fd : FuncData} (F : Fun K "need_whole" "need_whole" st_need_whole f fd) (S : ShC K C) (T : Blt mg) (E_BadSheet : Rs1 P w K mg base "BadSheet" (cs 0) "part") (C_need_sheet : CNSh P w K mg base cs C) :
    FnOk P w K mg base (L2.CX P w) 4 f fd ["value", "part"] (spNeedWhole K cs C) := by
  refine F.okX sc_need_whole (fun vs H Q E h => ?_) (fun cdv A outer s H vs Q E hr h => ?_)
  · obtain ⟨v, z, rfl, _⟩ := h
    rfl
  · refine ⟨_, (pss_cons (ps_expr (pe_clX C_need_sheet (passes_call (takes_of rfl rfl rfl rfl) fun _ _ _ _ z => z) (hr.mono (by decide)) rfl (pa_cons (pv 0) (pa_cons (pv 1) pa_nil))))
  (pss_one (ps_if (pt_not (pt_val (pe_fld (pv 0) rfl))) (pss_one (ps_raise1 E_BadSheet (hr.mono (by decide)) rfl (takes_of rfl rfl rfl rfl) rfl (pa_cons pe_str pa_nil))) pss_nil))), ?_⟩
    obtain ⟨v, z, rfl, ⟨t, ty, hk, q⟩ | ⟨y, names, css, rfl, sh, q1, q2⟩⟩ := h
    · exact ⟨_, rfl, _, rfl, _, _, rfl, .inl ⟨t, ty, hk, q⟩⟩
    · refine ⟨_, rfl, _, rfl, _, _, rfl, .inr ⟨y, names, css, rfl, sh, ?_⟩⟩
      obtain ⟨dx, tl, tr, tp, tg, xr, ts, gs, hx, _⟩ := sh
      refine ⟨_, rfl, y, C, dx, _, _, rfl, hx, S.c, S.f5, rfl, _, rfl, ?_⟩
      by_cases c : gaps names css css.length = []
      · rw [decide_eq_true c]
        exact iteF (q1 c)
      · rw [decide_eq_false c]
        exact iteT (raise1 (q2 c))
end
end K6
namespace K7
open PySem PySem.Spec PyProof.Rows L2
abbrev ZipO (h : Heap) (z TI TO : Addr) (f0 : Value) (b : Bool) : Prop :=
  h.get? z = some { cls := .type "zip", dict := none, data := .fields #[f0, .bool b, .bool false, .ref TI, .ref TO], slots := #[] }
abbrev TupO (h : Heap) (T : Addr) (xs : Array Value) : Prop := h.get? T = some { cls := .type "tuple", data := .seq xs }
def itsOf (N n : Nat) : List Value := (List.range n).map fun k => .ref (N + k)
theorem itsOf_len (N n : Nat) : (itsOf N n).length = n := by simp [itsOf]
theorem itsOf_at {N n k : Nat} (h : k < n) : (itsOf N n)[k]? = some (.ref (N + k)) := by simp [itsOf, h]
/-- the first m iterators stand one sign further -/
def Mix (N : Nat) (zs : List (Str × Tok)) (m i : Nat) (h : Heap) : Prop := ∀ k z, zs[k]? = some z → h.IsStrIter (N + k) (strIterType z.1) z.1 z.2 (if k < m then i + 1 else i)
theorem Mix.ext {N m i : Nat} {zs : List (Str × Tok)} {h h' : Heap} (M : Mix N zs m i h) (e : ∀ (b : Nat) o, N ≤ b → b < N + zs.length → h.get? b = some o → h'.get? b = some o) : Mix N zs m i h' := fun k z hk => by
  obtain ⟨o, ho, r⟩ := M k z hk
  have hl : k < zs.length := (List.getElem?_eq_some_iff.mp hk).1
  exact ⟨o, e (N + k) o (Nat.le_add_right _ _) (Nat.add_lt_add_left hl N) ho, r⟩
/-- the signs of all texts at one place -/
def SgnAt (zs : List (Str × Tok)) (i : Nat) (m : Nat) (arr : List Value) : Prop := ∀ k z, k < m → zs[k]? = some z → ∃ c u, z.1.cps[i]? = some c ∧ arr[k]? = some (.str ⟨#[c]⟩ u)
theorem zipIdx_cut {N n m : Nat} {x : Value × Nat} {rest : List (Value × Nat)} (h : x :: rest = ((itsOf N n).zipIdx).drop m) : m < n ∧ x = (.ref (N + m), m) ∧ rest = ((itsOf N n).zipIdx).drop (m + 1) := by
  have hl : ((itsOf N n).zipIdx).length = n := by rw [List.length_zipIdx, itsOf_len]
  have hm : m < n := by
    rcases Nat.lt_or_ge m n with q | q
    · exact q
    · rw [List.drop_of_length_le (by omega)] at h
      cases h
  rw [List.drop_eq_getElem_cons (by omega)] at h
  injection h with e1 e2
  refine ⟨hm, ?_, e2⟩
  rw [e1, List.getElem_zipIdx]
  simp [itsOf]
theorem its_cut {N n m : Nat} {x : Value} {rest : List Value} (h : x :: rest = (itsOf N n).drop m) : m < n ∧ x = .ref (N + m) ∧ rest = (itsOf N n).drop (m + 1) := by
  have hl := itsOf_len N n
  have hm : m < n := by
    rcases Nat.lt_or_ge m n with q | q
    · exact q
    · rw [List.drop_of_length_le (by omega)] at h
      cases h
  rw [List.drop_eq_getElem_cons (by omega)] at h
  injection h with e1 e2
  refine ⟨hm, ?_, e2⟩
  rw [e1]
  simp [itsOf]
theorem SgnAt.snoc {zs : List (Str × Tok)} {i m : Nat} {arr : List Value} (h : SgnAt zs i m arr) {z : Str × Tok} {c : Nat} {u : Tok} (hz : zs[m]? = some z) (hc : z.1.cps[i]? = some c) (ha : arr[m]? = some (.str ⟨#[c]⟩ u)) : SgnAt zs i (m + 1) arr := fun k z' hk hz' => by
  rcases Nat.lt_succ_iff_lt_or_eq.mp hk with q | q
  · exact h k z' q hz'
  · subst q
    rw [hz] at hz'
    cases hz'
    exact ⟨c, u, hc, ha⟩
theorem SgnAt.cong {zs : List (Str × Tok)} {i m : Nat} {arr arr' : List Value} (h : SgnAt zs i m arr) (e : ∀ k, k < m → arr'[k]? = arr[k]?) : SgnAt zs i m arr' := fun k z hk hz => by
  obtain ⟨c, u, h1, h2⟩ := h k z hk hz
  exact ⟨c, u, h1, (e k hk).trans h2⟩
section
variable {prog : Program} {w : World} {A : Around} {E : Value → Shared → Prop} {s : Shared} {N n i : Nat} {zs : List (Str × Tok)}
theorem zn_item_free {f0 : Value} {b : Bool} {arr : Array Value} {Q : Value → Shared → Prop} (hh : A.handled = none) (hn : zs.length = n) (h1 : 1 ≤ n) (h2 : n ≤ 1000) (hL : ∀ z ∈ zs, i < z.1.cps.size)
    (hz : ZipO s.heap (N + n + 2) (N + n) (N + n + 1) f0 b) (hTI : TupO s.heap (N + n) (itsOf N n).toArray) (hTO : TupO s.heap (N + n + 1) arr) (ha : arr.size = n) (M : Mix N zs 0 i s.heap)
    (hf : ∀ Q', Q' true s → wpAny (model prog w) A (Builtin.SmallTypes.ownedTupleIsFree (.ref (N + n + 2))) Q' E s)
    (hQ : ∀ h' tk xs, SgnAt zs i n xs → xs.length = n → (∃ f1 b1, ZipO h' (N + n + 2) (N + n) (N + n + 1) f1 b1 ∧ ∃ a : Nat, f1 = rawInt a) → (∃ arr1, arr1.size = n ∧ TupO h' (N + n + 1) arr1) → TupO h' (N + n) (itsOf N n).toArray → Mix N zs n i h' →
      TupO h' s.heap.objs.size xs.toArray → (∀ (c : Nat) o, (c < N ∨ N + n + 2 < c) → s.heap.get? c = some o → h'.get? c = some o) → Q (.ref s.heap.objs.size) { s with heap := h', toks := tk }) :
    wpAny (model prog w) A (Builtin.«zip.__next__» ⟨[.ref (N + n + 2)], []⟩) (fun fin s' => ∃ v, fin = .done (.ret v) ∧ Q v s') E s := by
  obtain ⟨hp, g, d, tk0, os⟩ := s
  unfold Builtin.«zip.__next__»
  refine wpAny_bind (wpAny_pure ?_)
  refine wpAny_bind (wpAny_field hz rfl (x := .bool false) rfl ?_)
  refine wpAny_bind (wpAny_field hz rfl (x := .ref (N + n)) rfl ?_)
  refine wpAny_bind (wpAny_seqItems hTI rfl ?_)
  dsimp only
  have e0 : (itsOf N n).toArray.isEmpty = false := by
    have : (itsOf N n).toArray.size = n := by simp [itsOf]
    rw [Array.isEmpty_eq_false_iff]
    intro z
    rw [z] at this
    simp at this
    omega
  rw [e0]
  simp only [Bool.false_eq_true, if_false]
  refine wpAny_bind (hf _ ?_)
  simp only [if_true]
  refine wpAny_bind (wpAny_rule ?_)
  refine wpAny_bind (wpAny_field hz rfl (x := .ref (N + n + 1)) rfl ?_)
  dsimp only
  refine wpAny_bind (wpAny_setField_rec hz (by simp) fun g0 hz0 hs0 => ?_)
  have q1 : (N + n + 1 : Nat) ≠ N + n + 2 := by omega
  have q2 : (N + n : Nat) ≠ N + n + 2 := by omega
  have q3 : (N + n : Nat) ≠ N + n + 1 := by omega
  refine wpAny_bind ?_
  refine wpAny_forIn_list _ (fun rest r s' => r = (none, ()) ∧ ∃ m h' tk arr', rest = ((itsOf N n).zipIdx).drop m ∧ m ≤ n ∧ s' = ⟨h', g, d, tk, os⟩ ∧ ZipO h' (N + n + 2) (N + n) (N + n + 1) .ellipsis b ∧ TupO h' (N + n + 1) arr' ∧ arr'.size = n ∧
    TupO h' (N + n) (itsOf N n).toArray ∧ SgnAt zs i m arr'.toList ∧ Mix N zs m i h' ∧ h'.objs.size = hp.objs.size ∧ (∀ (c : Nat) o, (c < N ∨ N + n + 2 < c) → hp.get? c = some o → h'.get? c = some o)) _ ?turn ?fin _ _ ?start
  case start =>
    refine ⟨rfl, 0, g0, tk0, arr, rfl, Nat.zero_le _, rfl, hz0, hs0.extBut _ _ q1 hTO, ha, hs0.extBut _ _ q2 hTI, fun k z q => absurd q (Nat.not_lt_zero _), M.ext fun c o h1 h2 e => hs0.extBut _ _ (show (c : Nat) ≠ N + n + 2 by omega) e, hs0.1, fun c o hc e => hs0.extBut _ _ (show (c : Nat) ≠ N + n + 2 by omega) e⟩
  case turn =>
    rintro x rest r s' ⟨rfl, m, h', tk, arr', hr, hm, rfl, z1, t1, a1, i1, sg, mx, sz, kp⟩
    obtain ⟨hmn, rfl, hr'⟩ := zipIdx_cut hr
    dsimp only
    obtain ⟨zz, hzz⟩ : ∃ zz, zs[m]? = some zz := ⟨zs[m]'(by omega), List.getElem?_eq_getElem (by omega)⟩
    have st := mx m zz hzz
    rw [if_neg (Nat.lt_irrefl _)] at st
    have hlt := hL zz (List.mem_of_getElem? hzz)
    refine wpAny_bind (wpAny_onRaise ?_)
    show wpAny _ _ (do return some (← Builtin.SmallTypes.nextOf (.ref (N + m)))) _ _ _
    have r1 : (N + m : Nat) ≠ N + n + 2 := by omega
    have r2 : (N + m : Nat) ≠ N + n + 1 := by omega
    have r3 : (N + m : Nat) ≠ N + n := by omega
    refine wpAny_bind ((Draws.text hh (N + m) zz.1 zz.2).item i _ _ _ hlt st fun x1 p1 tk1 hx1 sn1 hp1 => wpAny_pure ?_)
    replace hp1 : Heap.SameBut (N + m) h' p1 := hp1
    obtain ⟨c, u, hc, rfl⟩ := hx1
    have t2 : TupO p1 (N + n + 1) arr' := hp1.extBut _ _ r2.symm t1
    refine wpAny_bind (wpAny_seqItems (s := ⟨p1, g, d, tk1, os⟩) t2 rfl ?_)
    dsimp only
    refine wpAny_bind (wpAny_updateSeq (s := ⟨p1, g, d, tk1, os⟩) t2 rfl ?_ (hz := by rw [a1]; exact Nat.le_trans h2 (by decide)) (_hz' := by show (arr'.setIfInBounds m _).size ≤ _; rw [Array.size_setIfInBounds, a1]; exact Nat.le_trans h2 (by decide)))
    refine wpAny_bind (wpAny_letGo (wpAny_pure ?_))
    have t3 := Heap.get?_update_self (Obj.mapSeq (·.setIfInBounds m (Value.str ⟨#[c]⟩ u))) t2 rfl
    have sb : Heap.SameBut (N + n + 1) p1 (p1.update (N + n + 1) (Obj.mapSeq (·.setIfInBounds m (Value.str ⟨#[c]⟩ u)))) := Heap.SameBut.update ..
    have oth : ∀ (y : Nat) o, y ≠ N + m → y ≠ N + n + 1 → h'.get? y = some o → (p1.update (N + n + 1) (Obj.mapSeq (·.setIfInBounds m (Value.str ⟨#[c]⟩ u)))).get? y = some o := fun y o a b e => sb.extBut _ _ b (hp1.extBut _ _ a e)
    have hma : m < arr'.size := by omega
    refine ⟨rfl, m + 1, _, tk1, arr'.setIfInBounds m (Value.str ⟨#[c]⟩ u), hr', hmn, rfl, oth _ _ r1.symm q1.symm z1, ?_, by rw [Array.size_setIfInBounds, a1], oth _ _ r3.symm q3 i1, ?_, ?_, ?_, fun y o hy e => oth y o (show (y : Nat) ≠ N + m by omega) (show (y : Nat) ≠ N + n + 1 by omega) (kp y o hy e)⟩
    · exact t3.trans (by simp [Obj.mapSeq])
    · refine SgnAt.snoc (u := u) (SgnAt.cong sg fun k hk => ?_) hzz hc ?_
      · simp [Nat.ne_of_gt hk, Nat.ne_of_lt hk]
      · simp [hma]
    · intro k z hk
      rcases Nat.lt_trichotomy k m with q | q | q
      · have := mx k z hk
        rw [if_pos q] at this
        rw [if_pos (Nat.lt_succ_of_lt q)]
        obtain ⟨o, ho, r⟩ := this
        exact ⟨o, oth (N + k) o (fun z => Nat.ne_of_lt q (Nat.add_left_cancel z)) (fun z => Nat.ne_of_lt (Nat.lt_succ_of_lt (Nat.lt_trans q hmn)) (Nat.add_left_cancel z)) ho, r⟩
      · subst q
        rw [hzz] at hk
        cases hk
        rw [if_pos (Nat.lt_succ_self _)]
        obtain ⟨o, ho, r⟩ := sn1
        exact ⟨o, sb.extBut _ _ r2 ho, r⟩
      · have := mx k z hk
        rw [if_neg (Nat.lt_asymm q)] at this
        rw [if_neg (Nat.not_lt.mpr (Nat.succ_le_of_lt q))]
        obtain ⟨o, ho, r⟩ := this
        have hkl : k < n := by rw [← hn]; exact (List.getElem?_eq_some_iff.mp hk).1
        exact ⟨o, oth (N + k) o (fun z => Nat.ne_of_gt q (Nat.add_left_cancel z)) (fun z => Nat.ne_of_lt (Nat.lt_succ_of_lt hkl) (Nat.add_left_cancel z)) ho, r⟩
    · rw [sb.1, hp1.1, sz]
  case fin =>
    rintro r s' ⟨rfl, m, h', tk, arr', hr, hm, rfl, z1, t1, a1, i1, sg, mx, sz, kp⟩
    have hmn : m = n := by
      rcases Nat.lt_or_ge m n with q | q
      · exfalso
        have : ((itsOf N n).zipIdx).length ≤ m := by
          rcases Nat.lt_or_ge m ((itsOf N n).zipIdx).length with q' | q'
          · rw [List.drop_eq_getElem_cons q'] at hr
            cases hr
          · exact q'
        rw [List.length_zipIdx, itsOf_len] at this
        omega
      · omega
    subst hmn
    dsimp only
    refine wpAny_bind (wpAny_seqItems (s := ⟨h', g, d, tk, os⟩) t1 rfl ?_)
    dsimp only
    refine wpAny_bind (wpAny_newTuple ?_ (by rw [Array.length_toList, a1]; exact Nat.le_trans h2 (by decide)))
    have hlt : N + m + 2 < h'.objs.size := Heap.lt_size z1
    refine wpAny_bind ?_
    unfold Builtin.SmallTypes.ownedTupleHandOut
    have z6 : ZipO (h'.push { cls := .type "tuple", data := .seq arr'.toList.toArray }) (N + m + 2) (N + m) (N + m + 1) .ellipsis b := Heap.get?_push_of_some _ z1
    refine wpAny_bind (wpAny_setField_rec z6 (by simp) fun h7 z7 s7 => ?_)
    refine wpAny_setField_rec z7 (by simp) fun h8 z8 s8 => ?_
    replace s7 : Heap.SameBut (N + m + 2) (h'.push { cls := .type "tuple", data := .seq arr'.toList.toArray }) h7 := s7
    replace s8 : Heap.SameBut (N + m + 2) h7 h8 := s8
    have up : ∀ (y : Nat) o, y ≠ N + m + 2 → h'.get? y = some o → h8.get? y = some o := fun y o a e => s8.extBut _ _ a (s7.extBut _ _ a (Heap.get?_push_of_some _ e))
    have hne : (h'.objs.size : Nat) ≠ N + m + 2 := Nat.ne_of_gt hlt
    have t8 : TupO h8 h'.objs.size arr'.toList.toArray := s8.extBut _ _ hne (s7.extBut _ _ hne (Heap.get?_push_size _ rfl))
    rw [sz] at t8 z8
    refine wpAny_pure ⟨_, rfl, ?_⟩
    show Q (.ref h'.objs.size) ⟨h8, g, d, tk, os⟩
    rw [sz]
    exact hQ h8 tk arr'.toList sg (by rw [Array.length_toList]; exact a1) ⟨_, _, z8, _, rfl⟩ ⟨arr', a1, up _ _ q1 t1⟩ (up _ _ q2 i1) (mx.ext fun y o y1 y2 e => up y o (show (y : Nat) ≠ N + m + 2 by omega) e) t8 fun y o hy e => up y o (show (y : Nat) ≠ N + m + 2 by omega) (kp y o hy e)
theorem zn_item_held {f0 : Value} {b : Bool} {arr : Array Value} {Q : Value → Shared → Prop} (hh : A.handled = none) (hn : zs.length = n) (h1 : 1 ≤ n) (h2 : n ≤ 1000) (hL : ∀ z ∈ zs, i < z.1.cps.size)
    (hz : ZipO s.heap (N + n + 2) (N + n) (N + n + 1) f0 b) (hTI : TupO s.heap (N + n) (itsOf N n).toArray) (hTO : TupO s.heap (N + n + 1) arr) (ha : arr.size = n) (M : Mix N zs 0 i s.heap)
    (hf : ∀ Q', (∀ h', ZipO h' (N + n + 2) (N + n) (N + n + 1) f0 true → Heap.SameBut (N + n + 2) s.heap h' → Q' false { s with heap := h' }) → wpAny (model prog w) A (Builtin.SmallTypes.ownedTupleIsFree (.ref (N + n + 2))) Q' E s)
    (hQ : ∀ h' tk xs, SgnAt zs i n xs → xs.length = n → ZipO h' (N + n + 2) (N + n) (N + n + 1) f0 true → TupO h' (N + n + 1) arr → TupO h' (N + n) (itsOf N n).toArray → Mix N zs n i h' →
      TupO h' s.heap.objs.size xs.toArray → (∀ (c : Nat) o, (c < N ∨ N + n + 2 < c) → s.heap.get? c = some o → h'.get? c = some o) → Q (.ref s.heap.objs.size) { s with heap := h', toks := tk }) :
    wpAny (model prog w) A (Builtin.«zip.__next__» ⟨[.ref (N + n + 2)], []⟩) (fun fin s' => ∃ v, fin = .done (.ret v) ∧ Q v s') E s := by
  obtain ⟨hp, g, d, tk0, os⟩ := s
  have q1 : (N + n + 1 : Nat) ≠ N + n + 2 := by omega
  have q2 : (N + n : Nat) ≠ N + n + 2 := by omega
  have q3 : (N + n : Nat) ≠ N + n + 1 := by omega
  unfold Builtin.«zip.__next__»
  refine wpAny_bind (wpAny_pure ?_)
  refine wpAny_bind (wpAny_field hz rfl (x := .bool false) rfl ?_)
  refine wpAny_bind (wpAny_field hz rfl (x := .ref (N + n)) rfl ?_)
  refine wpAny_bind (wpAny_seqItems hTI rfl ?_)
  dsimp only
  have e0 : (itsOf N n).toArray.isEmpty = false := by
    have : (itsOf N n).toArray.size = n := by simp [itsOf]
    rw [Array.isEmpty_eq_false_iff]
    intro z
    rw [z] at this
    simp at this
    omega
  rw [e0]
  simp only [Bool.false_eq_true, if_false]
  refine wpAny_bind (hf _ fun g0 hz0 hs0 => ?_)
  simp only [Bool.false_eq_true, if_false]
  refine wpAny_bind ?_
  rw [← Array.forIn_toList]
  refine wpAny_forIn_list _ (fun rest r s' => ∃ m h' tk arr', r = (none, arr') ∧ rest = (itsOf N n).drop m ∧ m ≤ n ∧ s' = ⟨h', g, d, tk, os⟩ ∧ ZipO h' (N + n + 2) (N + n) (N + n + 1) f0 true ∧ TupO h' (N + n + 1) arr ∧ arr'.size = m ∧
    TupO h' (N + n) (itsOf N n).toArray ∧ SgnAt zs i m arr'.toList ∧ Mix N zs m i h' ∧ h'.objs.size = hp.objs.size ∧ (∀ (c : Nat) o, (c < N ∨ N + n + 2 < c) → hp.get? c = some o → h'.get? c = some o)) _ ?turn ?fin _ _ ?start
  case start =>
    refine ⟨0, g0, tk0, #[], rfl, rfl, Nat.zero_le _, rfl, hz0, hs0.extBut _ _ q1 hTO, rfl, hs0.extBut _ _ q2 hTI, fun k z q => absurd q (Nat.not_lt_zero _), M.ext fun c o h1 h2 e => hs0.extBut _ _ (show (c : Nat) ≠ N + n + 2 by omega) e, hs0.1, fun c o hc e => hs0.extBut _ _ (show (c : Nat) ≠ N + n + 2 by omega) e⟩
  case turn =>
    rintro x rest r s' ⟨m, h', tk, arr', rfl, hr, hm, rfl, z1, t1, a1, i1, sg, mx, sz, kp⟩
    obtain ⟨hmn, rfl, hr'⟩ := its_cut hr
    dsimp only
    obtain ⟨zz, hzz⟩ : ∃ zz, zs[m]? = some zz := ⟨zs[m]'(by omega), List.getElem?_eq_getElem (by omega)⟩
    have st := mx m zz hzz
    rw [if_neg (Nat.lt_irrefl _)] at st
    have hlt := hL zz (List.mem_of_getElem? hzz)
    refine wpAny_bind (wpAny_holding ?_)
    show wpAny _ _ (do return some (← Builtin.SmallTypes.nextOf (.ref (N + m)))) _ _ _
    have r1 : (N + m : Nat) ≠ N + n + 2 := by omega
    have r2 : (N + m : Nat) ≠ N + n + 1 := by omega
    have r3 : (N + m : Nat) ≠ N + n := by omega
    refine wpAny_bind ((Draws.text hh (N + m) zz.1 zz.2).item i _ _ _ hlt st fun x1 p1 tk1 hx1 sn1 hp1 => wpAny_pure ?_)
    replace hp1 : Heap.SameBut (N + m) h' p1 := hp1
    obtain ⟨c, u, hc, rfl⟩ := hx1
    dsimp only
    refine wpAny_pure ?_
    have oth : ∀ (y : Nat) o, y ≠ N + m → h'.get? y = some o → p1.get? y = some o := fun y o a e => hp1.extBut _ _ a e
    refine ⟨m + 1, _, tk1, arr'.push (Value.str ⟨#[c]⟩ u), rfl, hr', hmn, rfl, oth _ _ r1.symm z1, oth _ _ r2.symm t1, by rw [Array.size_push, a1], oth _ _ r3.symm i1, ?_, ?_, ?_, fun y o hy e => oth y o (show (y : Nat) ≠ N + m by omega) (kp y o hy e)⟩
    · refine SgnAt.snoc (u := u) (SgnAt.cong sg fun k hk => ?_) hzz hc ?_
      · rw [Array.toList_push, List.getElem?_append_left (by rw [Array.length_toList, a1]; exact hk)]
      · rw [Array.toList_push, List.getElem?_append_right (by rw [Array.length_toList, a1]; exact Nat.le_refl _), Array.length_toList, a1, Nat.sub_self]
        rfl
    · intro k z hk
      rcases Nat.lt_trichotomy k m with q | q | q
      · have := mx k z hk
        rw [if_pos q] at this
        rw [if_pos (Nat.lt_succ_of_lt q)]
        obtain ⟨o, ho, r⟩ := this
        exact ⟨o, oth (N + k) o (fun z => Nat.ne_of_lt q (Nat.add_left_cancel z)) ho, r⟩
      · subst q
        rw [hzz] at hk
        cases hk
        rw [if_pos (Nat.lt_succ_self _)]
        exact sn1
      · have := mx k z hk
        rw [if_neg (Nat.lt_asymm q)] at this
        rw [if_neg (Nat.not_lt.mpr (Nat.succ_le_of_lt q))]
        obtain ⟨o, ho, r⟩ := this
        exact ⟨o, oth (N + k) o (fun z => Nat.ne_of_gt q (Nat.add_left_cancel z)) ho, r⟩
    · rw [hp1.1, sz]
  case fin =>
    rintro r s' ⟨m, h', tk, arr', rfl, hr, hm, rfl, z1, t1, a1, i1, sg, mx, sz, kp⟩
    have hmn : m = n := by
      rcases Nat.lt_or_ge m n with q | q
      · exfalso
        have : (itsOf N n).length ≤ m := by
          rcases Nat.lt_or_ge m (itsOf N n).length with q' | q'
          · rw [List.drop_eq_getElem_cons q'] at hr
            cases hr
          · exact q'
        rw [itsOf_len] at this
        omega
      · omega
    subst hmn
    dsimp only
    refine wpAny_bind (wpAny_newTuple ?_ (by rw [Array.length_toList, a1]; exact Nat.le_trans h2 (by decide)))
    refine wpAny_pure ⟨_, rfl, ?_⟩
    show Q (.ref h'.objs.size) ⟨h'.push { cls := .type "tuple", data := .seq arr'.toList.toArray }, g, d, tk, os⟩
    have t8 : TupO (h'.push { cls := .type "tuple", data := .seq arr'.toList.toArray }) h'.objs.size arr'.toList.toArray := Heap.get?_push_size _ rfl
    rw [sz] at t8
    rw [sz]
    exact hQ _ tk arr'.toList sg (by rw [Array.length_toList]; exact a1) (Heap.get?_push_of_some _ z1) (Heap.get?_push_of_some _ t1) (Heap.get?_push_of_some _ i1) (mx.ext fun y o _ _ e => Heap.get?_push_of_some _ e) t8 fun y o hy e => Heap.get?_push_of_some _ (kp y o hy e)
theorem zn_done_free {f0 : Value} {b : Bool} {Q : Fin → Shared → Prop} (hh : A.handled = none) (hn : zs.length = n) (h1 : 1 ≤ n) (hL : ∀ z ∈ zs, i = z.1.cps.size)
    (hz : ZipO s.heap (N + n + 2) (N + n) (N + n + 1) f0 b) (hTI : TupO s.heap (N + n) (itsOf N n).toArray) (M : Mix N zs 0 i s.heap)
    (hf : ∀ Q', Q' true s → wpAny (model prog w) A (Builtin.SmallTypes.ownedTupleIsFree (.ref (N + n + 2))) Q' E s)
    (hE : ∀ h' e, (∀ (c : Nat) o, (c < N ∨ N + n + 2 < c) → s.heap.get? c = some o → h'.get? c = some o) → (∃ o, h'.get? e = some o ∧ o.cls = .type "StopIteration") → E (.ref e) { s with heap := h' }) :
    wpAny (model prog w) A (Builtin.«zip.__next__» ⟨[.ref (N + n + 2)], []⟩) Q E s := by
  obtain ⟨hp, g, d, tk0, os⟩ := s
  have q1 : (N + n + 1 : Nat) ≠ N + n + 2 := by omega
  have q2 : (N + n : Nat) ≠ N + n + 2 := by omega
  have q4 : (N + 0 : Nat) ≠ N + n + 2 := by omega
  unfold Builtin.«zip.__next__»
  refine wpAny_bind (wpAny_pure ?_)
  refine wpAny_bind (wpAny_field hz rfl (x := .bool false) rfl ?_)
  refine wpAny_bind (wpAny_field hz rfl (x := .ref (N + n)) rfl ?_)
  refine wpAny_bind (wpAny_seqItems hTI rfl ?_)
  dsimp only
  have e0 : (itsOf N n).toArray.isEmpty = false := by
    have : (itsOf N n).toArray.size = n := by simp [itsOf]
    rw [Array.isEmpty_eq_false_iff]
    intro z
    rw [z] at this
    simp at this
    omega
  rw [e0]
  simp only [Bool.false_eq_true, if_false]
  obtain ⟨z0, zr, rfl⟩ : ∃ z0 zr, zs = z0 :: zr := by
    cases zs with
    | nil => simp at hn; omega
    | cons a b => exact ⟨a, b, rfl⟩
  have hi0 : i = z0.1.cps.size := hL z0 List.mem_cons_self
  obtain ⟨rest, er⟩ : ∃ rest, itsOf N n = .ref (N + 0) :: rest := by
    cases hq : itsOf N n with
    | nil =>
      have := itsOf_len N n
      rw [hq] at this
      simp at this
      omega
    | cons a b =>
      have := itsOf_at (N := N) (n := n) (k := 0) h1
      rw [hq] at this
      simp at this
      exact ⟨b, by rw [this, Nat.add_zero]⟩
  refine wpAny_bind (hf _ ?_)
  simp only [if_true]
  refine wpAny_bind (wpAny_rule ?_)
  refine wpAny_bind (wpAny_field hz rfl (x := .ref (N + n + 1)) rfl ?_)
  dsimp only
  refine wpAny_bind (wpAny_setField_rec hz (by simp) fun g0 hz0 hs0 => ?_)
  refine wpAny_bind ?_
  rw [er]
  simp only [List.zipIdx_cons, List.forIn_cons]
  refine wpAny_bind (wpAny_bind (wpAny_onRaise ?_))
  show wpAny _ _ (do return some (← Builtin.SmallTypes.nextOf (.ref (N + 0)))) _ _ _
  have st := M.ext (h' := g0) (fun c o h1 h2 e => hs0.extBut _ _ (show (c : Nat) ≠ N + n + 2 by omega) e) 0 z0 rfl
  rw [if_neg (Nat.lt_irrefl _), hi0] at st
  refine wpAny_bind ((Draws.text hh (N + 0) z0.1 z0.2).done _ _ _ st fun q e hq he => ?_)
  replace hq : Heap.ExtBut (N + 0) g0 q := hq
  obtain ⟨oe, hoe, hce⟩ := he
  replace hoe : q.get? e = some oe := hoe
  have hzq := hq _ _ q4.symm hz0
  have hez : (e : Nat) ≠ N + n + 2 := fun x => by
    rw [x, hzq] at hoe
    cases hoe
    simp at hce
  refine wpAny_setField_rec (s := ⟨q, g, d, tk0, os⟩) hzq (by simp) fun q' _ hq' => ?_
  replace hq' : Heap.SameBut (N + n + 2) q q' := hq'
  exact hE q' e (fun c o hc x => hq'.extBut _ _ (show (c : Nat) ≠ N + n + 2 by omega) (hq _ _ (show (c : Nat) ≠ N + 0 by omega) (hs0.extBut _ _ (show (c : Nat) ≠ N + n + 2 by omega) x))) ⟨oe, hq'.extBut _ _ hez hoe, hce⟩
theorem zn_done_held {f0 : Value} {b : Bool} {Q : Fin → Shared → Prop} (hh : A.handled = none) (hn : zs.length = n) (h1 : 1 ≤ n) (hL : ∀ z ∈ zs, i = z.1.cps.size)
    (hz : ZipO s.heap (N + n + 2) (N + n) (N + n + 1) f0 b) (hTI : TupO s.heap (N + n) (itsOf N n).toArray) (M : Mix N zs 0 i s.heap)
    (hf : ∀ Q', (∀ h', ZipO h' (N + n + 2) (N + n) (N + n + 1) f0 true → Heap.SameBut (N + n + 2) s.heap h' → Q' false { s with heap := h' }) → wpAny (model prog w) A (Builtin.SmallTypes.ownedTupleIsFree (.ref (N + n + 2))) Q' E s)
    (hE : ∀ h' e, (∀ (c : Nat) o, (c < N ∨ N + n + 2 < c) → s.heap.get? c = some o → h'.get? c = some o) → (∃ o, h'.get? e = some o ∧ o.cls = .type "StopIteration") → E (.ref e) { s with heap := h' }) :
    wpAny (model prog w) A (Builtin.«zip.__next__» ⟨[.ref (N + n + 2)], []⟩) Q E s := by
  obtain ⟨hp, g, d, tk0, os⟩ := s
  have q1 : (N + n + 1 : Nat) ≠ N + n + 2 := by omega
  have q2 : (N + n : Nat) ≠ N + n + 2 := by omega
  have q4 : (N + 0 : Nat) ≠ N + n + 2 := by omega
  unfold Builtin.«zip.__next__»
  refine wpAny_bind (wpAny_pure ?_)
  refine wpAny_bind (wpAny_field hz rfl (x := .bool false) rfl ?_)
  refine wpAny_bind (wpAny_field hz rfl (x := .ref (N + n)) rfl ?_)
  refine wpAny_bind (wpAny_seqItems hTI rfl ?_)
  dsimp only
  have e0 : (itsOf N n).toArray.isEmpty = false := by
    have : (itsOf N n).toArray.size = n := by simp [itsOf]
    rw [Array.isEmpty_eq_false_iff]
    intro z
    rw [z] at this
    simp at this
    omega
  rw [e0]
  simp only [Bool.false_eq_true, if_false]
  obtain ⟨z0, zr, rfl⟩ : ∃ z0 zr, zs = z0 :: zr := by
    cases zs with
    | nil => simp at hn; omega
    | cons a b => exact ⟨a, b, rfl⟩
  have hi0 : i = z0.1.cps.size := hL z0 List.mem_cons_self
  obtain ⟨rest, er⟩ : ∃ rest, itsOf N n = .ref (N + 0) :: rest := by
    cases hq : itsOf N n with
    | nil =>
      have := itsOf_len N n
      rw [hq] at this
      simp at this
      omega
    | cons a b =>
      have := itsOf_at (N := N) (n := n) (k := 0) h1
      rw [hq] at this
      simp at this
      exact ⟨b, by rw [this, Nat.add_zero]⟩
  refine wpAny_bind (hf _ fun g0 hz0 hs0 => ?_)
  simp only [Bool.false_eq_true, if_false]
  refine wpAny_bind ?_
  rw [← Array.forIn_toList, er]
  simp only [List.forIn_cons]
  refine wpAny_bind (wpAny_bind (wpAny_holding ?_))
  show wpAny _ _ (do return some (← Builtin.SmallTypes.nextOf (.ref (N + 0)))) _ _ _
  have st := M.ext (h' := g0) (fun c o h1 h2 e => hs0.extBut _ _ (show (c : Nat) ≠ N + n + 2 by omega) e) 0 z0 rfl
  rw [if_neg (Nat.lt_irrefl _), hi0] at st
  refine wpAny_bind ((Draws.text hh (N + 0) z0.1 z0.2).done _ _ _ st fun q e hq he => ?_)
  replace hq : Heap.ExtBut (N + 0) g0 q := hq
  obtain ⟨oe, hoe, hce⟩ := he
  exact hE q e (fun c o hc x => hq _ _ (show (c : Nat) ≠ N + 0 by omega) (hs0.extBut _ _ (show (c : Nat) ≠ N + n + 2 by omega) x)) ⟨oe, hoe, hce⟩
/-- what the zip's first field may be: nothing, or the number of a tuple that it gave out -/
def F0 (f0 : Value) : Prop := f0 = .none ∨ ∃ a : Nat, f0 = rawInt a
theorem free_none {z TI TO : Addr} {b : Bool} {Q' : Bool → Shared → Prop} (hz : ZipO s.heap z TI TO .none b) (h : Q' true s) : wpAny (model prog w) A (Builtin.SmallTypes.ownedTupleIsFree (.ref z)) Q' E s := by
  unfold Builtin.SmallTypes.ownedTupleIsFree
  exact wpAny_bind (wpAny_field hz rfl (x := .none) rfl (wpAny_pure h))
theorem alive_none {a : Addr} {Q : Option Obj → Shared → Prop} (ho : s.heap.get? a = none) (h : Q none s) : wpAny (model prog w) A (loadIfAlive a) Q E s := by
  have h' : Q (s.heap.get? a) s := by rw [ho]; exact h
  exact fun _ _ _ => h'
theorem free_dead {z TI TO a : Addr} {b : Bool} {Q' : Bool → Shared → Prop} (hz : ZipO s.heap z TI TO (rawInt (a : Nat)) b) (hd : s.heap.get? a = none) (h : Q' true s) : wpAny (model prog w) A (Builtin.SmallTypes.ownedTupleIsFree (.ref z)) Q' E s := by
  unfold Builtin.SmallTypes.ownedTupleIsFree
  refine wpAny_bind (wpAny_field hz rfl (x := rawInt (a : Nat)) rfl ?_)
  show wpAny _ _ (loadIfAlive ((a : Int).toNat) >>= _) _ _ _
  rw [Int.toNat_natCast]
  exact wpAny_bind (alive_none hd (wpAny_pure h))
/-- where the zip stands ahead of turn i -/
def ZSt (N n : Nat) (zs : List (Str × Tok)) (i : Nat) (h : Heap) : Prop := ∃ f0 b, F0 f0 ∧ ZipO h (N + n + 2) (N + n) (N + n + 1) f0 b ∧ TupO h (N + n) (itsOf N n).toArray ∧ (∃ arr, arr.size = n ∧ TupO h (N + n + 1) arr) ∧ Mix N zs 0 i h
theorem Mix.all {h : Heap} (hn : zs.length = n) (M : Mix N zs n i h) : Mix N zs 0 (i + 1) h := fun k z hk => by
  have hl : k < n := by rw [← hn]; exact (List.getElem?_eq_some_iff.mp hk).1
  have := M k z hk
  rw [if_pos hl] at this
  rw [if_neg (Nat.not_lt_zero _)]
  exact this
theorem zn_next {Q : Value → Shared → Prop} (hh : A.handled = none) (hn : zs.length = n) (h1 : 1 ≤ n) (h2 : n ≤ 1000) (hL : ∀ z ∈ zs, i < z.1.cps.size) (st : ZSt N n zs i s.heap)
    (hQ : ∀ h' tk xs, SgnAt zs i n xs → xs.length = n → ZSt N n zs (i + 1) h' → TupO h' s.heap.objs.size xs.toArray → (∀ (c : Nat) o, (c < N ∨ N + n + 2 < c) → s.heap.get? c = some o → h'.get? c = some o) → Q (.ref s.heap.objs.size) { s with heap := h', toks := tk }) :
    wpAny (model prog w) A (Builtin.«zip.__next__» ⟨[.ref (N + n + 2)], []⟩) (fun fin s' => ∃ v, fin = .done (.ret v) ∧ Q v s') E s := by
  obtain ⟨f0, b, hf0, hz, hTI, ⟨arr, ha, hTO⟩, M⟩ := st
  have free : (∀ Q', Q' true s → wpAny (model prog w) A (Builtin.SmallTypes.ownedTupleIsFree (.ref (N + n + 2))) Q' E s) → _ := fun hf =>
    zn_item_free (Q := Q) hh hn h1 h2 hL hz hTI hTO ha M hf fun h' tk xs sg xl ⟨f1, b1, z1, a, e⟩ ⟨arr1, a1, t1⟩ i1 mx t8 kp => hQ h' tk xs sg xl ⟨f1, b1, .inr ⟨a, e⟩, z1, i1, ⟨arr1, a1, t1⟩, mx.all hn⟩ t8 kp
  rcases hf0 with rfl | ⟨a, rfl⟩
  · exact free fun Q' h => free_none hz h
  · cases hd : s.heap.get? a with
    | none => exact free fun Q' h => free_dead hz hd h
    | some o =>
      exact zn_item_held (Q := Q) hh hn h1 h2 hL hz hTI hTO ha M (fun Q' h => wpAny_tupleHeld_zip hz hd h) fun h' tk xs sg xl z1 t1 i1 mx t8 kp => hQ h' tk xs sg xl ⟨_, _, .inr ⟨a, rfl⟩, z1, i1, ⟨arr, ha, t1⟩, mx.all hn⟩ t8 kp
theorem zn_stop {Q : Fin → Shared → Prop} (hh : A.handled = none) (hn : zs.length = n) (h1 : 1 ≤ n) (hL : ∀ z ∈ zs, i = z.1.cps.size) (st : ZSt N n zs i s.heap)
    (hE : ∀ h' e, (∀ (c : Nat) o, (c < N ∨ N + n + 2 < c) → s.heap.get? c = some o → h'.get? c = some o) → (∃ o, h'.get? e = some o ∧ o.cls = .type "StopIteration") → E (.ref e) { s with heap := h' }) :
    wpAny (model prog w) A (Builtin.«zip.__next__» ⟨[.ref (N + n + 2)], []⟩) Q E s := by
  obtain ⟨f0, b, hf0, hz, hTI, ⟨arr, ha, hTO⟩, M⟩ := st
  rcases hf0 with rfl | ⟨a, rfl⟩
  · exact zn_done_free hh hn h1 hL hz hTI M (fun Q' h => free_none hz h) hE
  · cases hd : s.heap.get? a with
    | none => exact zn_done_free hh hn h1 hL hz hTI M (fun Q' h => free_dead hz hd h) hE
    | some o => exact zn_done_held hh hn h1 hL hz hTI M (fun Q' h => wpAny_tupleHeld_zip hz hd h) hE
theorem pn_next {Q : Option Value → Shared → Prop} (hh : A.handled = none) (hn : zs.length = n) (h1 : 1 ≤ n) (h2 : n ≤ 1000) (hL : ∀ z ∈ zs, i < z.1.cps.size) (st : ZSt N n zs i s.heap)
    (hQ : ∀ h' tk xs, SgnAt zs i n xs → xs.length = n → ZSt N n zs (i + 1) h' → TupO h' s.heap.objs.size xs.toArray → (∀ (c : Nat) o, (c < N ∨ N + n + 2 < c) → s.heap.get? c = some o → h'.get? c = some o) → Q (some (.ref s.heap.objs.size)) { s with heap := h', toks := tk }) :
    wpAny (model prog w) A (pyNext (.ref (N + n + 2))) Q E s := by
  have hT : s.TypeIs (.ref (N + n + 2)) "zip" := by
    obtain ⟨f0, b, _, hz, _⟩ := st
    exact ⟨_, hz, rfl⟩
  unfold pyNext
  refine wpAny_bind (wpAny_attempt (wpAny_callSpecial?_slot (name := Str.ofString "__next__") hT F.slot_zip_next ?_))
  exact wpAny_call_entry F.slot_zip_next hT F.entry_zip_next (zn_next (A := A.in1) hh hn h1 h2 hL st fun h' tk xs a b c d e => wpAny_pure (hQ h' tk xs a b c d e)) (F.args_zip_next_1 _)
theorem pn_stop {Q : Option Value → Shared → Prop} (hh : A.handled = none) (hn : zs.length = n) (h1 : 1 ≤ n) (hL : ∀ z ∈ zs, i = z.1.cps.size) (st : ZSt N n zs i s.heap)
    (hQ : ∀ h', (∀ (c : Nat) o, (c < N ∨ N + n + 2 < c) → s.heap.get? c = some o → h'.get? c = some o) → Q none { s with heap := h' }) :
    wpAny (model prog w) A (pyNext (.ref (N + n + 2))) Q E s := by
  have hT : s.TypeIs (.ref (N + n + 2)) "zip" := by
    obtain ⟨f0, b, _, hz, _⟩ := st
    exact ⟨_, hz, rfl⟩
  unfold pyNext
  refine wpAny_bind (wpAny_attempt (wpAny_callSpecial?_slot (name := Str.ofString "__next__") hT F.slot_zip_next ?_))
  refine wpAny_call_entry F.slot_zip_next hT F.entry_zip_next (zn_stop (A := A.in1) hh hn h1 hL st fun h' e hk he => ?_) (F.args_zip_next_1 _)
  obtain ⟨o, ho, hc⟩ := he
  exact wpAny_bind (wpAny_isInstance (T := "StopIteration") (b := true) ⟨o, ho, hc⟩ isSubtype_stop (wpAny_pure (hQ _ hk)))
def txs (zs : List (Str × Tok)) : List Value := zs.map fun z => .str z.1 z.2
theorem iterAll_at {Q : List Value → Shared → Prop} {N : Nat} (hn : zs.length = n) (hN : s.heap.objs.size = N)
    (hQ : ∀ h', Mix N zs 0 0 h' → h'.objs.size = N + n → (∀ c o, s.heap.get? c = some o → h'.get? c = some o) → Q (itsOf N n) { s with heap := h' }) :
    wpAny (model prog w) A (Builtin.SmallTypes.iterAll (txs zs)) Q E s := by
  obtain ⟨hp, g, d, tk, os⟩ := s
  unfold Builtin.SmallTypes.iterAll
  refine wpAny_bind (wpAny_forIn_list _ (fun rest r s' => ∃ m h', rest = (txs zs).drop m ∧ m ≤ n ∧ r = (itsOf N m).toArray ∧ s' = ⟨h', g, d, tk, os⟩ ∧ h'.objs.size = N + m ∧ (∀ k z, k < m → zs[k]? = some z → h'.IsStrIter (N + k) (strIterType z.1) z.1 z.2 0) ∧ (∀ c o, hp.get? c = some o → h'.get? c = some o)) _ ?turn ?fin _ _ ?start)
  case start => exact ⟨0, hp, rfl, Nat.zero_le _, rfl, rfl, hN, fun k z q => absurd q (Nat.not_lt_zero _), fun _ _ e => e⟩
  case turn =>
    rintro x rest r s' ⟨m, h', hr, hm, rfl, rfl, sz, its, kp⟩
    have hlen : (txs zs).length = n := by rw [txs, List.length_map, hn]
    have hmn : m < n := by
      rcases Nat.lt_or_ge m n with q | q
      · exact q
      · rw [List.drop_of_length_le (by omega)] at hr
        cases hr
    rw [List.drop_eq_getElem_cons (by omega)] at hr
    injection hr with e1 e2
    obtain ⟨zz, hzz⟩ : ∃ zz, zs[m]? = some zz := ⟨zs[m]'(by omega), List.getElem?_eq_getElem (by omega)⟩
    have ex : x = .str zz.1 zz.2 := by
      rw [e1]
      have e := (List.getElem?_eq_some_iff.mp hzz).2
      simp only [txs, List.getElem_map]
      rw [e]
    subst ex
    refine wpAny_bind (wpAny_holding ?_)
    refine (begins_text zz.1 zz.2).iter prog w _ _ ⟨h', g, d, tk, os⟩ _ trivial ?_
    have hnew : (h'.push { cls := .type (strIterType zz.1), data := .fields #[.str zz.1 zz.2, .int 0 0] }).get? h'.objs.size = some { cls := .type (strIterType zz.1), data := .fields #[.str zz.1 zz.2, .int 0 0] } := Heap.get?_push_size _ rfl
    rw [sz] at hnew
    refine wpAny_pure ⟨m + 1, _, e2, hmn, ?_, rfl, by rw [Heap.size_push, sz]; rfl, fun k z hk hz => ?_, fun c o e => Heap.get?_push_of_some _ (kp c o e)⟩
    · show (itsOf N m).toArray.push (.ref h'.objs.size) = _
      rw [sz]
      simp [itsOf, List.range_succ]
    · rcases Nat.lt_succ_iff_lt_or_eq.mp hk with q | q
      · obtain ⟨o, ho, r⟩ := its k z q hz
        exact ⟨o, Heap.get?_push_of_some _ ho, r⟩
      · subst q
        rw [hzz] at hz
        cases hz
        exact ⟨_, hnew, rfl, rfl⟩
  case fin =>
    rintro r s' ⟨m, h', hr, hm, rfl, rfl, sz, its, kp⟩
    have hlen : (txs zs).length = n := by rw [txs, List.length_map, hn]
    have hmn : m = n := by
      rcases Nat.lt_or_ge m n with q | q
      · rw [List.drop_eq_getElem_cons (by omega)] at hr
        cases hr
      · omega
    subst hmn
    refine wpAny_pure ?_
    show Q (itsOf N m).toArray.toList ⟨h', g, d, tk, os⟩
    rw [List.toList_toArray]
    refine hQ h' (fun k z hz => ?_) sz kp
    rw [if_neg (Nat.not_lt_zero _)]
    exact its k z (by rw [← hn]; exact (List.getElem?_eq_some_iff.mp hz).1) hz
theorem zip_new_meets (zs : List (Str × Tok)) (hn : zs.length = n) (h2 : n ≤ 1000) : Meets (Builtin.«zip.__new__» ⟨.type "zip" :: txs zs, []⟩) (fun _ R s => ∀ h', ZSt s.heap.objs.size n zs 0 h' → (∀ c o, s.heap.get? c = some o → h'.get? c = some o) →
    R (.ok (.ret (.ref (s.heap.objs.size + n + 2)))) { s with heap := h' }) := .of_wp fun prog w A R s h => by
  have hsub := sub_zip
  obtain ⟨hp, g, d, tk, os⟩ := s
  generalize hus : txs zs = us
  unfold Builtin.«zip.__new__»
  generalize hIA : Builtin.SmallTypes.iterAll = IA
  wp_walk
  subst hIA hus
  refine iterAll_at (N := hp.objs.size) hn rfl fun h' mx sz kp => ?_
  have i1 : (itsOf hp.objs.size n).length ≤ sizeLine := by rw [itsOf_len]; exact Nat.le_trans h2 (by decide)
  refine wpAny_bind (wpAny_newTuple ?_ i1)
  refine wpAny_bind (wpAny_newTuple ?_ (by rw [List.length_map]; exact i1))
  refine wpAny_bind ?_
  show wpAny _ _ (newObj (.type "zip") (.fields #[.none, .bool false, .bool false, .ref h'.objs.size, .ref (h'.push { cls := .type "tuple", data := .seq (itsOf hp.objs.size n).toArray }).objs.size])) _ _ _
  refine wpAny_newObj_type ?_ (by size_fits)
  refine wpAny_pure ⟨_, rfl, ?_⟩
  have s1 : (h'.push { cls := .type "tuple", data := .seq (itsOf hp.objs.size n).toArray }).objs.size = hp.objs.size + n + 1 := by rw [Heap.size_push, sz]
  have s2 : ((h'.push { cls := .type "tuple", data := .seq (itsOf hp.objs.size n).toArray }).push { cls := .type "tuple", data := .seq ((itsOf hp.objs.size n).map fun _ => Value.none).toArray }).objs.size = hp.objs.size + n + 2 := by rw [Heap.size_push, s1]
  have tI : (h'.push { cls := .type "tuple", data := .seq (itsOf hp.objs.size n).toArray }).get? h'.objs.size = some { cls := .type "tuple", data := .seq (itsOf hp.objs.size n).toArray } := Heap.get?_push_size _ rfl
  have tO : ((h'.push { cls := .type "tuple", data := .seq (itsOf hp.objs.size n).toArray }).push { cls := .type "tuple", data := .seq ((itsOf hp.objs.size n).map fun _ => Value.none).toArray }).get? (h'.push { cls := .type "tuple", data := .seq (itsOf hp.objs.size n).toArray }).objs.size = some { cls := .type "tuple", data := .seq ((itsOf hp.objs.size n).map fun _ => Value.none).toArray } := Heap.get?_push_size _ rfl
  rw [sz] at tI
  rw [s1] at tO
  have kk : ∀ c o, h'.get? c = some o → (((h'.push { cls := .type "tuple", data := .seq (itsOf hp.objs.size n).toArray }).push { cls := .type "tuple", data := .seq ((itsOf hp.objs.size n).map fun _ => Value.none).toArray }).push { cls := .type "zip", data := .fields #[.none, .bool false, .bool false, .ref h'.objs.size, .ref (h'.push { cls := .type "tuple", data := .seq (itsOf hp.objs.size n).toArray }).objs.size] }).get? c = some o := fun c o e => Heap.get?_push_of_some _ (Heap.get?_push_of_some _ (Heap.get?_push_of_some _ e))
  have hz := Heap.get?_push_size (h := (h'.push { cls := .type "tuple", data := .seq (itsOf hp.objs.size n).toArray }).push { cls := .type "tuple", data := .seq ((itsOf hp.objs.size n).map fun _ => Value.none).toArray }) (o := { cls := .type "zip", data := .fields #[.none, .bool false, .bool false, .ref h'.objs.size, .ref (h'.push { cls := .type "tuple", data := .seq (itsOf hp.objs.size n).toArray }).objs.size] }) rfl
  have q := h _ (?_ : ZSt hp.objs.size n zs 0 _) fun c o e => kk c o (kp c o e)
  · show R (.ok (.ret (.ref ((h'.push { cls := .type "tuple", data := .seq (itsOf hp.objs.size n).toArray }).push { cls := .type "tuple", data := .seq ((itsOf hp.objs.size n).map fun _ => Value.none).toArray }).objs.size))) _
    rw [s2]
    exact q
  · rw [s2, s1, sz] at hz
    refine ⟨.none, false, .inl rfl, ?_, Heap.get?_push_of_some _ (Heap.get?_push_of_some _ tI), ⟨_, ?_, Heap.get?_push_of_some _ tO⟩, mx.ext fun b o _ _ e => kk b o e⟩
    · rw [s1, sz]
      exact hz
    · simp [itsOf]
theorem zip_begin {zs : List (Str × Tok)} {Q : Value → Shared → Prop} (hn : zs.length = n) (h1 : 1 ≤ n) (h4 : n ≤ 4)
    (hQ : ∀ h', ZSt s.heap.objs.size n zs 0 h' → (∀ c o, s.heap.get? c = some o → h'.get? c = some o) → Q (.ref (s.heap.objs.size + n + 2)) { s with heap := h' }) :
    wpAny (model prog w) A (call (.type "zip") (txs zs)) Q E s := by
  have M := zip_new_meets zs hn (Nat.le_trans h4 (by decide))
  have fin : ∀ h', ZSt s.heap.objs.size n zs 0 h' → (∀ c o, s.heap.get? c = some o → h'.get? c = some o) → wants (fun obj s₁ => s₁.TypeIs obj "zip" ∧ Q obj s₁) E (.ok (.ret (.ref (s.heap.objs.size + n + 2)))) { s with heap := h' } := fun h' st kp => by
    refine ⟨?_, hQ h' st kp⟩
    obtain ⟨f0, b, _, hz, _⟩ := st
    exact ⟨_, hz, rfl⟩
  subst hn
  match zs, h1, h4 with
  | [a], _, _ => exact callType_new F.called_zip (by decide) (by kernel_rfl) (by kernel_rfl) (fun obj => by unfold argsOk; kernel_rfl) F.entry_zip_new M fin
  | [a, b], _, _ => exact callType_new F.called_zip (by decide) (by kernel_rfl) (by kernel_rfl) (fun obj => by unfold argsOk; kernel_rfl) F.entry_zip_new M fin
  | [a, b, c], _, _ => exact callType_new F.called_zip (by decide) (by kernel_rfl) (by kernel_rfl) (fun obj => by unfold argsOk; kernel_rfl) F.entry_zip_new M fin
  | [a, b, c, d], _, _ => exact callType_new F.called_zip (by decide) (by kernel_rfl) (by kernel_rfl) (fun obj => by unfold argsOk; kernel_rfl) F.entry_zip_new M fin
  | a :: b :: c :: d :: e :: r, _, h => simp at h
end
/-- the columns of texts of one length: new tuples -/
def Itn (xs : List Str) (L : Nat) : It :=
  ⟨fun i _ => i < L, fun i H v H' => ∃ T, v = .ref T ∧ H T = none ∧ H' = upd H T (.tup (xs.map fun x => V.str ⟨#[x.cps.getD i 0]⟩)), fun i _ => i = L⟩
abbrev zfp (N n : Nat) : List Addr := (List.range (n + 3)).map (N + ·)
theorem mem_zfp {N n : Nat} {b : Addr} (h : b ∈ zfp N n) : ∃ k, k < n + 3 ∧ b = N + k := by
  obtain ⟨k, hk, e⟩ := List.mem_map.mp h
  exact ⟨k, List.mem_range.mp hk, e.symm⟩
theorem in_zfp {N n k : Nat} (h : k < n + 3) : N + k ∈ zfp N n := List.mem_map.mpr ⟨k, List.mem_range.mpr h, rfl⟩
theorem not_zfp {N n : Nat} {b : Addr} (h : b ∉ zfp N n) : (b : Nat) < N ∨ N + n + 2 < (b : Nat) := by
  rcases Nat.lt_or_ge b N with q | q
  · exact .inl q
  · rcases Nat.lt_or_ge (N + n + 2) b with q' | q'
    · exact .inr q'
    · exfalso
      refine h ?_
      have := in_zfp (N := N) (n := n) (k := b - N) (by omega)
      rwa [show N + (b - N) = b by omega] at this
theorem sgn_vals {zs : List (Str × Tok)} {i n : Nat} {ws : List Value} (hn : zs.length = n) (hl : ws.length = n) (h : SgnAt zs i n ws) : Vals ((zs.map (·.1)).map fun x => V.str ⟨#[x.cps.getD i 0]⟩) ws := by
  have gen : ∀ (zs : List (Str × Tok)) (ws : List Value), zs.length = ws.length → (∀ (k : Nat) (z : Str × Tok), zs[k]? = some z → ∃ (c : Nat) (u : Tok), z.1.cps[i]? = some c ∧ ws[k]? = some (Value.str ⟨#[c]⟩ u)) → Vals ((zs.map (·.1)).map fun x => V.str ⟨#[x.cps.getD i 0]⟩) ws := by
    intro zs
    induction zs with
    | nil =>
      intro ws hl _
      cases ws with
      | nil => exact .nil
      | cons a b => simp at hl
    | cons z r ih =>
      intro ws hl h
      cases ws with
      | nil => simp at hl
      | cons a b =>
        obtain ⟨c, u, h1, h2⟩ := h 0 z rfl
        simp at h2
        subst h2
        refine .cons ⟨u, ?_⟩ (ih b (by simpa using hl) fun k z hk => ?_)
        · have : z.1.cps.getD i 0 = c := by
            rw [Array.getD_eq_getD_getElem?, h1]
            rfl
          rw [this]
        · have := h (k + 1) z (by simpa using hk)
          simpa using this
  exact gen zs ws (by omega) fun k z hk => h k z (by rw [← hn]; exact (List.getElem?_eq_some_iff.mp hk).1) hk
theorem turn_zn {P : Program} {w : World} {K : PySem.W.Frag} {nx : Str} {tpos : Pos} (N : Nat) {n L : Nat} {zs : List (Str × Tok)} (hn : zs.length = n) (h1 : 1 ≤ n) (h2 : n ≤ 1000) (hL : ∀ z ∈ zs, z.1.cps.size = L) :
    Turn P w K (.Name nx tpos) (Itn (zs.map (·.1)) L) (zfp N n) (N + n + 2) (ZSt N n zs) where
  mem := in_zfp (k := n + 2) (Nat.lt_succ_self _)
  obj := fun i h st c hc => by
    obtain ⟨f0, b, _, hz, hTI, ⟨arr, _, hTO⟩, M⟩ := st
    obtain ⟨k, hk, rfl⟩ := mem_zfp hc
    rcases Nat.lt_or_ge k n with q | q
    · obtain ⟨zz, hzz⟩ : ∃ zz, zs[k]? = some zz := ⟨zs[k]'(by omega), List.getElem?_eq_getElem (by omega)⟩
      obtain ⟨o, ho, _, hd⟩ := M k zz hzz
      exact ⟨o, ho, fun v q => by rw [hd] at q; cases q⟩
    · have : k = n ∨ k = n + 1 ∨ k = n + 2 := by omega
      rcases this with rfl | rfl | rfl
      · exact ⟨_, hTI, fun v q => nomatch q⟩
      · exact ⟨_, hTO, fun v q => nomatch q⟩
      · exact ⟨_, hz, fun v q => nomatch q⟩
  keep := fun i h h' st k => by
    obtain ⟨f0, b, hf, hz, hTI, ⟨arr, ha, hTO⟩, M⟩ := st
    refine ⟨f0, b, hf, k _ (in_zfp (k := n + 2) (by omega)) _ hz, k _ (in_zfp (k := n) (by omega)) _ hTI, ⟨arr, ha, k _ (in_zfp (k := n + 1) (by omega)) _ hTO⟩, fun j z hj => ?_⟩
    have hl : j < n := by rw [← hn]; exact (List.getElem?_eq_some_iff.mp hj).1
    obtain ⟨o, ho, r⟩ := M j z hj
    exact ⟨o, k _ (in_zfp (Nat.lt_add_right 3 hl)) _ ho, r⟩
  item := by
    intro X hP hw hK hc i pins s σ H E I hf st hg
    subst hP hw hK
    have hh : X.A.in1.handled = none := I.ok.hd hc
    refine pn_next (A := X.A) hh hn h1 h2 (fun z hz => by rw [hL z hz]; exact hg) st fun h' tk xs sg xl st' hT kp => ⟨_, rfl, wpAny_pure ?_⟩
    have r := sgn_vals hn xl sg
    have hlt : ∀ b ∈ zfp N n, b < s.heap.objs.size := fun b hb => by
      obtain ⟨o, ho, _⟩ : ∃ o, s.heap.get? b = some o ∧ ∀ v, o.data ≠ .cell v := by
        obtain ⟨f0, b', _, hz, hTI, ⟨arr, _, hTO⟩, M⟩ := st
        obtain ⟨k, hk, rfl⟩ := mem_zfp hb
        rcases Nat.lt_or_ge k n with q | q
        · obtain ⟨zz, hzz⟩ : ∃ zz, zs[k]? = some zz := ⟨zs[k]'(by omega), List.getElem?_eq_getElem (by omega)⟩
          obtain ⟨o, ho, _, hd⟩ := M k zz hzz
          exact ⟨o, ho, fun v q => by rw [hd] at q; cases q⟩
        · have : k = n ∨ k = n + 1 ∨ k = n + 2 := by omega
          rcases this with rfl | rfl | rfl
          · exact ⟨_, hTI, fun v q => nomatch q⟩
          · exact ⟨_, hTO, fun v q => nomatch q⟩
          · exact ⟨_, hz, fun v q => nomatch q⟩
      exact Heap.lt_size ho
    have new : ObjOk X.prog X.w (upd H s.heap.objs.size (.tup ((zs.map (·.1)).map fun x => V.str ⟨#[x.cps.getD i 0]⟩))) h' s.heap.objs.size (.tup ((zs.map (·.1)).map fun x => V.str ⟨#[x.cps.getD i 0]⟩)) :=
      ⟨by rw [List.length_map, List.length_map, hn]; exact Nat.le_trans h2 (by decide), xs, r, ⟨_, hT, rfl, _, rfl⟩⟩
    have I1 := I.turnedNew (t' := tk) (ch := zfp N n) (h' := h') (fun c o hb q => kp c o (not_zfp hb) q) hf (Nat.le_refl _) new
    exact ⟨.ref s.heap.objs.size, _, I1, rfl, ⟨_, rfl, I.hok.fresh (Nat.le_refl _), rfl⟩, st', fun b hb => by rw [upd_ne (Nat.ne_of_lt (hlt b hb))]; exact (hf b hb).1⟩
  done := by
    intro X hP hw hK hc i pins s σ H E I hf st hg
    subst hP hw hK
    have hh : X.A.in1.handled = none := I.ok.hd hc
    exact pn_stop (A := X.A) hh hn h1 (fun z hz => by rw [hL z hz]; exact hg) st fun h' hk => ⟨rfl, I.turnedL (t' := s.toks) (ch := zfp N n) (fun c o hb q => hk c o (not_zfp hb) q) hf⟩
  self := fun A i s Q E st h => by
    obtain ⟨f0, b, _, hz, _⟩ := st
    have hT : s.TypeIs (.ref (N + n + 2)) "zip" := ⟨_, hz, rfl⟩
    refine wpAny_pyIter_slot hT F.slot_zip_iter (wpAny_call_entry F.slot_zip_iter hT F.entry_zip_iter ?_ (F.args_zip_iter_1 _))
    show wpAny _ _ (ret (Value.ref (N + n + 2))) _ _ _
    exact wpAny_pure ⟨_, rfl, "zip", _, hT, F.slot_zip_next.lookup, h⟩
/-- zip(*e) -/
def iZipN (K : PySem.W.Frag) (te : TE) : TI := fun σ H R => te σ H fun v H1 => ∃ (a : Addr) (xs : List Str) (L : Nat), v = .ref a ∧ (SqT K H1 a (xs.map V.str) ∨ SqL K H1 a (xs.map V.str)) ∧ 1 ≤ xs.length ∧ xs.length ≤ 4 ∧ (∀ x ∈ xs, x.cps.size = L) ∧ R (Itn xs L) H1
theorem vals_zs : ∀ {xs : List Str} {us : List Value}, Vals (xs.map V.str) us → ∃ zs : List (Str × Tok), us = txs zs ∧ zs.map (·.1) = xs
  | [], _, .nil => ⟨[], rfl, rfl⟩
  | x :: r, _, .cons h t => by
    obtain ⟨zs, rfl, e⟩ := vals_zs t
    obtain ⟨u, rfl⟩ := h
    exact ⟨(x, u) :: zs, rfl, by rw [List.map_cons, e]⟩
theorem pi_zipN {X : Cx} {e : Expr} {te : TE} {p sp_ pos tpos : Pos} {nx : Str} (hg : Gl X "zip") (hm : X.mg "zip" = none) (he : PE X e te)
    (hst : starEach [.Starred e sp_] X.env = [(true, eval e X.env)] := by rfl) :
    PI X (.Name nx tpos) (.Call (.Name "zip" p) [.Starred e sp_] [] pos) (iZipN X.K te) := by
  refine ⟨fun pins s σ H R I h => ?_⟩
  refine Call_ (ld_blt I hg hm PyProof.Rows.boot_zip ?_)
  rw [hst]
  refine PySem.W.ks_call (P := fun _ => True) rfl (fun h _ => ⟨.machine, .inr (.inl rfl), ?_⟩) (PySem.W.ks_lone (thn (he.run pins s σ H _ I h) fun v s1 ⟨y, H1, I1, ry, a, xs, L, ey, hx, l1, l4, hL, q⟩ => ?_))
  · exact fun A' Q' E' s' _ q => wpAny_pure q
  subst ey
  obtain rfl : v = Value.ref a := ry
  refine StX.star_any I1 hx fun us s2 I2 rv => ⟨trivial, ?_⟩
  obtain ⟨zs, rfl, exs⟩ := vals_zs rv
  have hn : zs.length = xs.length := by rw [← exs, List.length_map]
  refine zip_begin hn l1 l4 fun h' st kp => ?_
  have I3 : Inv X pins σ H1 { s2 with heap := h' } := I2.kept (t' := s2.toks) kp
  have st2 := st
  refine (turn_zn (P := X.prog) (w := X.w) (K := X.K) (nx := nx) (tpos := tpos) s2.heap.objs.size hn l1 (Nat.le_trans l4 (by decide)) fun z hz => hL z.1 (by rw [← exs]; exact List.mem_map_of_mem hz)).self X.A 0 _ _ _ st ?_
  refine ⟨_, zfp s2.heap.objs.size xs.length, ZSt s2.heap.objs.size xs.length zs, Itn xs L, H1, rfl, I3, ?_, st2, fun b hb => ?_, q⟩
  · rw [← exs]
    rw [← exs] at hn l1 l4 hL
    exact turn_zn s2.heap.objs.size hn l1 (Nat.le_trans l4 (by decide)) fun z hz => hL z.1 (List.mem_map_of_mem hz)
  · obtain ⟨k, hk, rfl⟩ := mem_zfp hb
    exact I2.fpOk (Nat.le_add_right _ _) (I2.hok.fresh (Nat.le_add_right _ _))
end K7
namespace K7
open PySem PySem.Spec PyProof.Rows L2
theorem dset_t {X : Cx} {pins : List (Addr × Obj)} {σ : L2.St} {H : Hp} {s : Shared} {E : Value → Shared → Prop} {D b : Addr} {kvs : List (List Key × V)} {k : List Key} {v : V} {r : Value} {Q : Unit → Shared → Prop} (hu : X.A.units + 1 < cLine)
    (I : Inv X pins σ H s) (hD : H D = some (.dT kvs)) (hb : H b = some (.tup (k.map kV))) (hz : kvs.length < sizeLine) (rv : RelV v r) (h : ∀ s', Inv X pins σ (upd H D (.dT (putK kvs k v))) s' → Q () s') :
    wpAny (model X.prog X.w) X.A (dictSet D (.ref b) r) Q E s := by
  obtain ⟨z, hd, xs, rel, dd⟩ := dt_of I.hok hD
  have hx : xs.length ≤ sizeLine := by rw [← Paired.length rel]; exact z
  have hp : (putK kvs k v).length ≤ sizeLine := by have := length_putK kvs k v; omega
  refine wpAny_dictSet_heap (hsz := hx) (show X.A.units < cLine from Nat.lt_of_succ_lt hu) (key_of I.hok hb) dd fun h' ⟨q, es, ep, hq, h2, h3, h4, _, h5⟩ hs => h _ ?_
  refine d_write I (by rw [hD]; exact True.intro) hs ⟨q, hq⟩ ⟨hp, hd, _, (rel.put k hb rv).keeps fun c ys ec => ?_, q, es, ep, hq, h2, h3, h4, h5⟩
  exact (upd_ne (ne_of ec hD (fun z => nomatch z))).trans ec
section
variable {X : Cx}
/-- D the new dict; one turn: the target, the key (a tuple that stands at b), the value -/
def stepT (g : TG) (tk tv : TE) (vs : List Nat) (σ : L2.St) (D : Addr) (Nx : Hp → Prop) (x : V) (H' : Hp) : Prop := g x (wipe σ vs) H' fun σ2 H2 => wipe σ2 vs = wipe σ vs ∧ tk σ2 H2 fun y H4 => tv σ2 H4 fun z H5 =>
  ∃ (kvs : List (List Key × V)) (k : List Key) (b : Addr), y = .ref b ∧ H5 b = some (.tup (k.map kV)) ∧ H5 D = some (.dT kvs) ∧ kvs.length < sizeLine ∧ Nx (upd H5 D (.dT (putK kvs k z)))
def tDcT (wi : TI) (g : TG) (tk tv : TE) (vs : List Nat) : TE := fun σ H Q => wi σ H fun J H1 => ∀ D, H1 D = none → ∃ W : Nat → Nat → Hp → Prop, (∃ m, W 0 m (upd H1 D (.dT []))) ∧ ∀ i m H, W i m H →
  (J.stop i H ∧ Q (.ref D) H) ∨ (J.go i H ∧ ∃ Nx : Hp → Prop, (∀ H', Nx H' → ∃ m', m' < m ∧ W (i + 1) m' H') ∧ ∀ x H', J.yld i H x H' → stepT g tk tv vs σ D Nx x H')
theorem dcT_core {pins : List (Addr × Obj)} {s : Shared} {σ : L2.St} {H : Hp} {Q : VK} {kx vx tg iter : Expr} {scope : Scope} {own : List (Str × Nat)} {pos pos' : Pos} {wi : TI} {g : TG} {tk tv : TE} {Qf : Value → Shared → Prop}
    (hu : X.A.units + 1 < cLine) (hc : X.calm = true) (hN : X.N.Nodup) (I : Inv X pins σ H s) (hi : PI X tg iter wi) (ok : BlkOk X.N X.env.scope scope own)
    (hg : ∀ s H C cl fp, PG (X.blk s H scope (compEnvC scope cl C X.env) fp) tg g) (hk : ∀ s H C cl fp, PE (X.blk s H scope (compEnvC scope cl C X.env) fp) kx tk)
    (he : ∀ s H C cl fp, PE (X.blk s H scope (compEnvC scope cl C X.env) fp) vx tv) (hs : ∀ x, foldedSetIterable iter X.env x = pure x) (h : tDcT wi g tk tv (own.map (·.2)) σ H Q)
    (hRR : ∀ D C s' m H', Inv X pins σ H' s' → Q (.ref D) H' → s'.heap.Ns C m → FpOk X pins H' C → compPost (model X.prog X.w) X.A X.xe none Qf (.ref D) C (.ok .next) s') :
    wpAny (model X.prog X.w) X.A (comprehension (.DictComp kx vx [⟨tg, iter, [], 0⟩] scope pos) scope X.env pos' newDict false (eval iter X.env) none) Qf X.xe s := by
  have free : ∀ y ∈ scope.names, y.2 = .free → ∃ c, X.env.cells.lookup y.1 = some c := fun y hy e => (ok.free y hy e).elim (fun k => I.ok.has _ (.inl k)) fun k => I.ok.has _ (.inr k)
  refine wpAny_comprehension_free (use := none) rfl hs (closure_ok free) ok.kind (fun y hy e => by rw [ok.uniq y hy, e]) (thn (hi.run pins s σ H _ I h) fun xv s1 hx => thn hx fun itv s2 h2 => ?_)
  obtain ⟨it, fp, tn, J, H2, rfl, I2, T, st2, f2, q⟩ := h2
  refine wpAny_newObj_type (newEnv_comp ?_)
  obtain ⟨D, hD⟩ : ∃ D, s2.heap.objs.size = D := ⟨_, rfl⟩
  rw [hD]
  obtain ⟨W, ⟨m0, w0⟩, turn⟩ := q D (I2.hok.fresh (Nat.le_of_eq hD))
  generalize hs3 : ({ s2 with heap := s2.heap.push { cls := .type "dict", data := .dict #[] } } : Shared) = s3
  have h3 : s3.heap = s2.heap.push { cls := .type "dict", data := .dict #[] } := by rw [← hs3]
  obtain ⟨H3, hH3⟩ : ∃ H3, upd H2 D (.dT []) = H3 := ⟨_, rfl⟩
  have I3 : Inv X pins σ H3 s3 := by
    rw [← hs3, ← hH3]
    exact I2.laid (t' := s2.toks) (fun b o e => Heap.get?_push_of_some _ e) (Nat.le_of_eq hD) (by rw [← hD]; exact dt_empty s2.heap I2.big)
  have f3 : ∀ b ∈ fp, FpOk X pins H3 b ∧ b < s3.heap.objs.size := fun b hb => by
    obtain ⟨o, e, _⟩ := T.obj _ _ st2 b hb
    have lt := Heap.lt_size e
    exact ⟨⟨by rw [← hH3, upd_ne (by rw [← hD]; exact Nat.ne_of_lt lt)]; exact (f2 b hb).1, (f2 b hb).2⟩, by rw [h3, Heap.size_push]; exact Nat.lt_succ_of_lt lt⟩
  have st3 : tn 0 s3.heap := T.keep _ _ _ st2 fun b _ o e => by rw [h3]; exact Heap.get?_push_of_some _ e
  have I4 := block_start I3 ok hN f3
  rw [hH3] at w0
  obtain ⟨cl, hcl⟩ : ∃ cl, cellsFrom (s3.heap.objs.size + 1) scope.names (cloFrom X.env.cells scope.names []) = cl := ⟨_, rfl⟩
  obtain ⟨ce, hce⟩ : ∃ ce, compEnvC scope cl s3.heap.objs.size X.env = ce := ⟨_, rfl⟩
  have pg := hg s3 H3 s3.heap.objs.size cl fp
  have pk := hk s3 H3 s3.heap.objs.size cl fp
  have pe := he s3 H3 s3.heap.objs.size cl fp
  show codeAny _ _ (.compStart (.DictComp kx vx [⟨tg, iter, [], 0⟩] scope pos) 0 (.ref it) (.ref D) (compEnvC scope (cellsFrom (s3.heap.objs.size + 1) scope.names (cloFrom X.env.cells scope.names [])) s3.heap.objs.size X.env)) (compPost (model X.prog X.w) X.A X.xe none Qf (.ref D) s3.heap.objs.size) { s3 with heap := pushCells (s3.heap.push { cls := .type "dict", data := .dict #[] }) scope.names }
  rw [hcl] at I4 ⊢
  rw [hce] at I4 pg pk pe ⊢
  have cL : ce.locals = s3.heap.objs.size := by rw [← hce]; rfl
  generalize hs4 : ({ s3 with heap := pushCells (s3.heap.push { cls := .type "dict", data := .dict #[] }) scope.names } : Shared) = s4 at I4 ⊢
  have st4 : tn 0 s4.heap := T.keep _ _ _ st3 fun b _ o e => by rw [← hs4]; exact pushCells_keeps _ _ _ _ (Heap.get?_push_of_some _ e)
  have stat : ∀ {σ' : L2.St} {H' : Hp} {s' : Shared}, Inv (X.blk s3 H3 scope ce fp) [] σ' H' s' → (∀ b ∈ fp, H' b = none) → ∀ b ∈ fp, FpOk (X.blk s3 H3 scope ce fp) [] H' b := fun {σ' H' s'} I' hn b hb => by
    exact ⟨hn b hb, (I'.ok.exf b hb).1, I'.ok.exfs b hb, .inl hb, fun x c e => (I'.ok.exf b hb).2 x c e, fun p hp => absurd (show p ∈ ([] : List (Addr × Obj)) ++ [] from hp) (by simp)⟩
  have loop : codeAny (model X.prog X.w) X.A (.compLoop (.DictComp kx vx [⟨tg, iter, [], 0⟩] scope pos) 0 (.ref it) (.ref D) ce) (compPost (model X.prog X.w) X.A X.xe none Qf (.ref D) s3.heap.objs.size) s4 := by
    refine compLoop_anyD (fun n s' => ∃ i H', Inv (X.blk s3 H3 scope ce fp) [] (wipe σ (own.map (·.2))) H' s' ∧ tn i s'.heap ∧ (∀ b ∈ fp, H' b = none) ∧ W i n H') ?_ m0 ⟨0, H3, I4, st4, fun b hb => (f3 b hb).1.1, w0⟩
    rintro n s5 ⟨i, H5, I5, st5, n5, w5⟩
    rcases turn i n H5 w5 with ⟨stop, qq⟩ | ⟨go, Nx, hNx, step⟩
    · refine thnF (T.done (X.blk s3 H3 scope ce fp) rfl rfl rfl hc i [] s5 _ H5 (fun _ _ => False) I5 (stat I5 n5) st5 stop) fun r s6 ⟨hr, I6⟩ => ?_
      subst hr
      have nC : H5 s3.heap.objs.size = none := by rw [← cL]; exact I6.free
      obtain ⟨m, hn, _⟩ := I6.loc
      exact hRR D s3.heap.objs.size s6 m H5 (I3.call' (ch := fp) I6.os I6.base I6.hok I6.bare fun b hb => ⟨(f3 b hb).1.2.2.2.1, (f3 b hb).1.2.1, (f3 b hb).1.2.2.2.2.1, (f3 b hb).1.2.2.2.2.2⟩) qq (by rw [← cL]; exact hn) (I3.fpOk (Nat.le_refl _) nC)
    · refine thnF (T.item (X.blk s3 H3 scope ce fp) rfl rfl rfl hc i [] s5 _ H5 (fun _ _ => False) I5 (stat I5 n5) st5 go) fun r s6 ⟨u, hr, h6⟩ => ?_
      subst hr
      refine thnF h6 fun _ s7 ⟨x, H7, I7, r7, y7, st7, n7⟩ => ?_
      refine thnF (pg.run _ s7 _ H7 x u _ (I7.pinned (stat I7 n7) (T.obj _ _ st7)) r7 (step x H7 y7)) fun _ s8 ⟨σ8, H8, I8, hw8, q8⟩ => ?_
      rw [List.forIn_nil]
      refine wpAny_pure ?_
      rw [if_pos rfl]
      refine thnF (pk.run _ s8 σ8 H8 _ I8 q8) fun z s10 ⟨yk, H10, I10, r10, q10⟩ => ?_
      refine thnF (pe.run _ s10 σ8 H10 _ I10 q10) fun z2 s11 ⟨yv, H11, I11, r11, kvs, k, b, ek, hb11, hD11, hz11, nx⟩ => ?_
      subst ek
      obtain rfl : z = Value.ref b := r10
      have huY : (X.blk s3 H3 scope ce fp).A.units + 1 < cLine := hu
      have fin : ∀ {s' : Shared}, Inv (X.blk s3 H3 scope ce fp) ([] ++ pinsAt fp s7.heap) σ8 (upd H11 D (.dT (putK kvs k yv))) s' → ∃ m, m < n ∧ ∃ i H', Inv (X.blk s3 H3 scope ce fp) [] (wipe σ (own.map (·.2))) H' s' ∧ tn i s'.heap ∧ (∀ b ∈ fp, H' b = none) ∧ W i m H' := fun {s'} I' => by
        obtain ⟨m', hm, w'⟩ := hNx _ nx
        have pin' := fun b (hb : b ∈ fp) o (e : s7.heap.get? b = some o) => I'.pin (b, o) (List.mem_append_right _ (List.mem_append_right _ (mem_pinsAt hb e)))
        refine ⟨m', hm, i + 1, _, (I'.unpinned (pins := [])).weak (by rw [← hw8, wipe_length]) (fun j v e => ?_), T.keep _ _ _ st7 fun b hb o e => (pin' b hb o e).1, fun b hb => ?_, w'⟩
        · rw [← hw8] at e
          exact (wipe_some e).1
        · obtain ⟨o, e, _⟩ := T.obj _ _ st7 b hb
          exact (pin' b hb o e).2.1
      have key := dset_t (X := (X.blk s3 H3 scope ce fp)) (E := fun _ _ => False) (Q := fun _ s12 => ∃ m, m < n ∧ ∃ i H', Inv (X.blk s3 H3 scope ce fp) [] (wipe σ (own.map (·.2))) H' s12 ∧ tn i s12.heap ∧ (∀ b ∈ fp, H' b = none) ∧ W i m H') huY I11 hD11 hb11 hz11 r11 fun s12 I12 => fin I12
      exact wpAny_mono key (fun _ _ h => h) fun _ _ z => z.elim
  exact codeAny_compStart_dict loop (T.self X.A 0 _ _ _ st4 loop)
theorem pe_dcT {kx vx tg iter : Expr} {scope : Scope} {own : List (Str × Nat)} {pos : Pos} {wi : TI} {g : TG} {tk tv : TE} (hu : X.A.units + 1 < cLine) (hc : X.calm = true) (hN : X.N.Nodup) (hi : PI X tg iter wi) (ok : BlkOk X.N X.env.scope scope own)
    (hg : ∀ s H C cl fp, PG (X.blk s H scope (compEnvC scope cl C X.env) fp) tg g) (hk : ∀ s H C cl fp, PE (X.blk s H scope (compEnvC scope cl C X.env) fp) kx tk)
    (he : ∀ s H C cl fp, PE (X.blk s H scope (compEnvC scope cl C X.env) fp) vx tv) (hs : ∀ x, foldedSetIterable iter X.env x = pure x := by intro _; rfl) :
    PE X (.DictComp kx vx [⟨tg, iter, [], 0⟩] scope pos) (tDcT wi g tk tv (own.map (·.2))) := by
  refine ⟨fun pins s σ H Q I h => ?_⟩
  rw [arm_eval_DictComp]
  refine dcT_core hu hc hN I hi ok hg hk he hs h fun D C s' m H' I' q hn ⟨f0, f1, f2, f3, f4, f5⟩ => ⟨m, hn, fun h'' sb => ?_⟩
  exact ⟨.ref D, H', I'.turned (t' := s'.toks) (fun b o hb e => (sb.2 b hb).trans e) f0 f1 f3 f4 f5, rfl, q⟩
end
section
variable {J : It} {n : Nat} {G : Hp → Prop} {Y : Nat → Hp → V → Hp → Prop}
theorem dcT_it (w : Walk J n G Y) {g : TG} {tk tv : TE} {vs : List Nat} {σ : L2.St} {H1 : Hp} {D : Addr} {Qd : Hp → Prop} (Pv : Nat → Hp → Prop) (h0 : Pv 0 (upd H1 D (.dT []))) (hG : ∀ i H, i ≤ n → Pv i H → G H)
    (hs : ∀ i x H H', i < n → Pv i H → Y i H x H' → stepT g tk tv vs σ D (Pv (i + 1)) x H') (hd : ∀ H, Pv n H → Qd H) :
    ∃ W : Nat → Nat → Hp → Prop, (∃ m, W 0 m (upd H1 D (.dT []))) ∧ ∀ i m H, W i m H →
      (J.stop i H ∧ Qd H) ∨ (J.go i H ∧ ∃ Nx : Hp → Prop, (∀ H', Nx H' → ∃ m', m' < m ∧ W (i + 1) m' H') ∧ ∀ x H', J.yld i H x H' → stepT g tk tv vs σ D Nx x H') := by
  refine ⟨fun i m H => m = n - i ∧ i ≤ n ∧ Pv i H, ⟨n, rfl, Nat.zero_le _, h0⟩, fun i m H ⟨em, hi, p⟩ => ?_⟩
  subst em
  rcases Nat.lt_or_eq_of_le hi with q | rfl
  · exact .inr ⟨w.goes i H q (hG i H hi p), Pv (i + 1), fun H' p' => ⟨n - (i + 1), by omega, rfl, q, p'⟩, fun x H' y => hs i x H H' q p (w.yields i H x H' q (hG i H hi p) y)⟩
  · exact .inl ⟨w.stops H (hG i H hi p), hd H p⟩
end
end K7
namespace K6
open PySem PySem.Spec PyProof.Rows L2 K0 K4
def whole (ws : List (List (List Nat))) : List (List Cell) := ws.map fun r => r.map some
def widW (r : List (List Nat)) : Nat := (r.headD []).length
/-- the signs that stand at place j of a row -/
def colAt (r : List (List Nat)) (j : Nat) : List Nat := r.map fun l => l.getD j 0
def rowCols (r : List (List Nat)) (n : Nat) : List (List Nat) := (List.range n).map (colAt r)
def colsTo (ws : List (List (List Nat))) : Nat → List (List Nat)
  | 0 => []
  | i + 1 => colsTo ws i ++ rowCols (ws.getD i []) (widW (ws.getD i []))
def cols (ws : List (List (List Nat))) : List (List Nat) := colsTo ws ws.length
def colV (c : List Nat) : List V := c.map fun s => V.str (Tx [s])
/-- tuples of signs -/
def Cols (H : Hp) (ts : List V) (cl : List (List Nat)) : Prop := ts.length = cl.length ∧ ∀ (i : Nat) t c, ts[i]? = some t → cl[i]? = some c → ∃ a, t = .ref a ∧ H a = some (.tup (colV c))
theorem cols_nil {H : Hp} : Cols H [] [] := ⟨rfl, fun i t c h => by simp at h⟩
theorem cols_sm {H H' : Hp} {ts : List V} {cl : List (List Nat)} (s : Same H H') (h : Cols H ts cl) : Cols H' ts cl := ⟨h.1, fun i t c h1 h2 => by
  obtain ⟨a, e, q⟩ := h.2 i t c h1 h2
  exact ⟨a, e, s _ _ q⟩⟩
theorem cols_upd {H : Hp} {D : Addr} {o : HO} {xs : List V} {ts : List V} {cl : List (List Nat)} (hD : H D = some (.lst xs)) (h : Cols H ts cl) : Cols (upd H D o) ts cl := ⟨h.1, fun i t c h1 h2 => by
  obtain ⟨a, e, q⟩ := h.2 i t c h1 h2
  exact ⟨a, e, (upd_ne (ne_of q hD (fun z => nomatch z))).trans q⟩⟩
theorem cols_snoc {H : Hp} {ts : List V} {cl : List (List Nat)} {c : List Nat} {a : Addr} (h : Cols H ts cl) (ha : H a = some (.tup (colV c))) : Cols H (ts ++ [.ref a]) (cl ++ [c]) := ⟨by simp [h.1], fun i t d h1 h2 => by
  rcases Nat.lt_or_ge i ts.length with q | q
  · rw [List.getElem?_append_left q] at h1
    rw [List.getElem?_append_left (by rw [← h.1]; exact q)] at h2
    exact h.2 i t d h1 h2
  · rw [List.getElem?_append_right q] at h1
    rw [List.getElem?_append_right (by rw [← h.1]; exact q), ← h.1] at h2
    have e : i - ts.length = 0 := by
      have := (List.getElem?_eq_some_iff.mp h1).1
      simp at this
      omega
    rw [e] at h1 h2
    simp at h1 h2
    subst h1 h2
    exact ⟨a, rfl, ha⟩⟩
theorem whole_at {ws : List (List (List Nat))} {i : Nat} {r : List (List Nat)} (h : ws[i]? = some r) : (whole ws)[i]? = some (r.map some) := by
  unfold whole
  rw [List.getElem?_map, h]
  rfl
theorem lens_some (r : List (List Nat)) : lens (r.map some) = r.map fun l => (l.length : Int) := by
  unfold lens
  rw [List.filterMap_map]
  induction r with
  | nil => rfl
  | cons a b ih => simp [ih]
theorem cx_some (r : List (List Nat)) : (r.map some).map cx = (r.map Tx).map V.str := by
  rw [List.map_map, List.map_map]
  rfl
theorem col_eq (r : List (List Nat)) (j : Nat) : ((r.map Tx).map fun x => V.str ⟨#[x.cps.getD j 0]⟩) = colV (colAt r j) := by
  unfold colV colAt
  rw [List.map_map, List.map_map]
  refine List.map_congr_left fun l _ => ?_
  show V.str ⟨#[(Tx l).cps.getD j 0]⟩ = V.str (Tx [l.getD j 0])
  have : (Tx l).cps.getD j 0 = l.getD j 0 := by simp [Tx]
  rw [this]
  rfl
theorem walk_zn {xs : List Str} {L : Nat} : Walk (K7.Itn xs L) L (fun _ => True) (fun i H v H' => ∃ T, v = .ref T ∧ H T = none ∧ H' = upd H T (.tup (xs.map fun x => V.str ⟨#[x.cps.getD i 0]⟩))) :=
  ⟨fun _ _ hi _ => hi, fun _ _ => rfl, fun _ _ _ _ _ _ y => y⟩
theorem ShOk.evenW {names : List (List Nat)} {ws : List (List (List Nat))} (h : ShOk names (whole ws)) {r : List (List Nat)} (hr : r ∈ ws) : r ≠ [] ∧ (∀ l ∈ r, l.length = widW r) ∧ r.length = names.length ∧ widW r ≤ 12 := by
  have hm : r.map some ∈ whole ws := List.mem_map.mpr ⟨r, hr, rfl⟩
  obtain ⟨h1, h2⟩ := h.re _ hm
  rw [lens_some] at h1
  have h0 : r ≠ [] := fun z => h1 (by rw [z]; rfl)
  obtain ⟨a, b, rfl⟩ := List.exists_cons_of_ne_nil h0
  have hw : wid ((a :: b).map some) = ((widW (a :: b) : Nat) : Int) := by
    unfold wid
    rw [lens_some]
    rfl
  refine ⟨h0, fun l hl => ?_, ?_, ?_⟩
  · unfold evenB at h2
    rw [lens_some] at h2
    rcases List.mem_cons.mp hl with rfl | hl
    · rfl
    · have := List.all_eq_true.mp h2 (l.length : Int) (List.mem_map.mpr ⟨l, hl, rfl⟩)
      have e : (l.length : Int) = (a.length : Int) := of_decide_eq_true this
      exact Int.ofNat.inj e
  · have := h.rl _ hm
    rwa [List.length_map] at this
  · have := (le_sum (ns := (whole ws).map wid) fun n hn => by
      obtain ⟨q, _, rfl⟩ := List.mem_map.mp hn
      exact wid_pos q).2 (wid ((a :: b).map some)) (List.mem_map.mpr ⟨_, hm, rfl⟩)
    have := h.rs
    rw [hw] at *
    omega
section
variable {P : Program} {w : World} {K : PySem.W.Frag} {mg : Str → Option Value} {base : Heap}
variable {cs : Nat → Addr} {C : Addr}
abbrev st_columns_of : Stmt := top 58
abbrev nm_columns_of : List Str := ["sheet", "row", "column"]
theorem sc_columns_of : FnScope nm_columns_of ["sheet"] (defScope st_columns_of) := ⟨rfl, rfl, rfl, by decide +kernel, rfl, by decide +kernel, by decide +kernel⟩
def spColumnsOf (K : PySem.W.Frag) (C : Addr) : Sp := fun vs H Q _ => ∃ x names ws, vs = [.ref x] ∧ SheetAt K C H x names (whole ws) ∧ ShOk names (whole ws) ∧ ∀ H' p ts, Same H H' → H p = none → H' p = some (.lst ts) → Cols H' ts (cols ws) → Q (.ref p) H'
theorem ok_columns_of {f : Addr} {fd : FuncData} (F : Fun K "columns_of" "columns_of" st_columns_of f fd) (S : ShC K C) (T : Blt mg) : FnOk P w K mg base CX0 1 f fd ["sheet"] (spColumnsOf K C) := by
  refine F.ok sc_columns_of (fun vs H Q E h => ?_) (fun cdv A outer s H vs Q E hr h => ?_)
  · obtain ⟨x, names, ws, rfl, _⟩ := h
    rfl
  · refine ⟨_, (pss_one (ps_ret (pe_lc2 (own := [("row", 1), ("column", 2)]) (vs1 := [2]) (g := (gName 1)) (tt := tYes) (g1 := (gName 2)) (tt1 := tYes) (wi1 := K7.iZipN K (tVar 1)) rfl sc_columns_of.nd (pi_tup (pe_fld (pv 0) rfl)) (blkOk_by (N := nm_columns_of) (sc := defScope st_columns_of) (own := [("row", 1), ("column", 2)]) (by decide +kernel)) (by decide) (fun _ _ _ _ _ => by exact pg_name (i := 1) sc_columns_of.nd rfl (Or.inl rfl)) (fun _ _ _ _ _ => pts_nil) (fun _ _ _ _ _ => (K7.pi_zipN (by rfl) T.n_zip (pv 1))) (fun _ _ _ _ _ => by exact pg_name (i := 2) sc_columns_of.nd rfl (Or.inl rfl)) (fun _ _ _ _ _ => pts_nil) (fun _ _ _ _ _ => (pv 2))))), ?_⟩
    obtain ⟨x, names, ws, rfl, ⟨dx, tl, tr, tp, tg, xs, ts, gs, hx, hl, hr1, hw, hp1, hp2, _⟩, ok, q⟩ := h
    refine ⟨_, rfl, x, C, dx, _, _, rfl, hx, S.c, S.f2, rfl, tr, rfl, ⟨_, hr1⟩, fun D hD => ?_⟩
    refine lc2_it walk_tup (fun i H' => Same H H' ∧ ∃ ts, H' D = some (.lst ts) ∧ Cols H' ts (colsTo ws i) ∧ ts.length ≤ 100 * i) ⟨Sm.new hD, [], upd_same, cols_nil, Nat.zero_le _⟩ (fun i H2 _ p => sm_t p.1 hr1) ?_ ?_
    · rintro i y H2 H3 hi ⟨p1, ts, p2, p3, p4⟩ ⟨rfl, hy⟩
      have hik : i < ws.length := by
        have := hw.1
        rw [show (whole ws).length = ws.length from List.length_map _] at this
        omega
      have hwi := List.getElem?_eq_getElem hik
      obtain ⟨a2, rfl, hS2⟩ := (rwt_same p1 hw).2 i y _ hy (whole_at hwi)
      obtain ⟨e1, e2, e3, e4⟩ := ok.evenW (List.mem_of_getElem? hwi)
      have eg : ws.getD i [] = ws[i] := by
        rw [List.getD_eq_getElem?_getD, hwi]
        rfl
      have hS3 : SqT K H3 a2 (((ws[i]).map Tx).map V.str) := by
        rw [← cx_some]
        exact hS2
      have n4 := ok.n4
      have r6 : ws.length ≤ 6 := by
        have := ok.r6
        rwa [show (whole ws).length = ws.length from List.length_map _] at this
      have n1 : 1 ≤ (ws[i]).length := List.length_pos_iff.mpr e1
      refine ⟨rfl, _, rfl, a2, (ws[i]).map Tx, widW ws[i], rfl, .inl hS3, by rw [List.length_map]; exact n1, by rw [List.length_map]; omega, fun z hz => ?_, ?_⟩
      · obtain ⟨l, hl, rfl⟩ := List.mem_map.mp hz
        rw [tx_size]
        exact e2 l hl
      · refine in2_it (n := widW ws[i]) walk_zn (fun j H5 => Same H H5 ∧ ∃ ts, H5 D = some (.lst ts) ∧ Cols H5 ts (colsTo ws i ++ rowCols ws[i] j) ∧ ts.length ≤ 100 * i + j) ⟨p1, ts, p2, ?_, p4⟩ (fun _ _ _ _ => trivial) ?_ ?_
        · rw [show rowCols ws[i] 0 = [] from rfl, List.append_nil]
          exact p3
        · rintro j y H5 H6 hj ⟨r1, ts5, r2, r3, r4⟩ ⟨t2, rfl, ht2, rfl⟩
          have nD : D ≠ t2 := ne_of_none r2 ht2
          refine ⟨rfl, _, rfl, ts5, (upd_ne nD).trans r2, small_lt (by omega), Sm.put (r1.trans (Sm.new ht2)) hD, ts5 ++ [.ref t2], upd_same, ?_, by rw [List.length_append]; show ts5.length + 1 ≤ _; omega⟩
          have e1' : rowCols ws[i] (j + 1) = rowCols ws[i] j ++ [colAt ws[i] j] := by
            unfold rowCols
            rw [List.range_succ, List.map_append]
            rfl
          rw [e1', ← List.append_assoc]
          refine cols_upd ((upd_ne nD).trans r2) (cols_snoc (cols_sm (Sm.new ht2) r3) ?_)
          rw [upd_same, col_eq]
        · rintro H5 ⟨r1, ts5, r2, r3, r4⟩
          refine ⟨r1, ts5, r2, ?_, by omega⟩
          show Cols H5 ts5 (colsTo ws i ++ rowCols (ws.getD i []) (widW (ws.getD i [])))
          rw [eg]
          exact r3
    · rintro H2 ⟨p1, ts, p2, p3, p4⟩
      have en : xs.length = ws.length := by
        rw [hw.1]
        exact List.length_map _
      rw [en] at p3
      exact q H2 D ts p1 hD p2 p3
end
end K6
namespace K6
open PySem PySem.Spec PyProof.Rows L2 K0 K4
def prFrom (m i n : Nat) : List (V × V) := (List.range n).map fun j => (V.int (i : Nat), V.int ((i + 1 + j : Nat) : Int))
def prTo (m : Nat) : Nat → List (V × V)
  | 0 => []
  | i + 1 => prTo m i ++ prFrom m i (m - (i + 1))
section
variable {P : Program} {w : World} {K : PySem.W.Frag} {mg : Str → Option Value} {base : Heap}
variable {cs : Nat → Addr} {C : Addr}
abbrev st_pairs_of_places : Stmt := top 59
abbrev nm_pairs_of_places : List Str := ["many", "place", "other"]
theorem sc_pairs_of_places : FnScope nm_pairs_of_places ["many"] (defScope st_pairs_of_places) := ⟨rfl, rfl, rfl, by decide +kernel, rfl, by decide +kernel, by decide +kernel⟩
def spPairs : Sp := fun vs H Q _ => ∃ (m : Nat), vs = [.int (m : Int)] ∧ m ≤ 100 ∧ ∀ H' p ts, Same H H' → H p = none → H' p = some (.lst ts) → Prs H' ts (prTo m m) → Q (.ref p) H'
theorem ok_pairs {f : Addr} {fd : FuncData} (F : Fun K "pairs_of_places" "pairs_of_places" st_pairs_of_places f fd) (T : Blt mg) : FnOk P w K mg base CX0 1 f fd ["many"] spPairs := by
  refine F.ok sc_pairs_of_places (fun vs H Q E h => ?_) (fun cdv A outer s H vs Q E hr h => ?_)
  · obtain ⟨m, rfl, _⟩ := h
    rfl
  · refine ⟨_, (pss_one (ps_ret (pe_lc2 (own := [("place", 1), ("other", 2)]) (vs1 := [2]) (g := (gName 1)) (tt := tYes) (g1 := (gName 2)) (tt1 := tYes) rfl sc_pairs_of_places.nd (pi_range1 rfl T.n_range (pa_cons (pv 0) pa_nil)) (blkOk_by (N := nm_pairs_of_places) (sc := defScope st_pairs_of_places) (own := [("place", 1), ("other", 2)]) (by decide +kernel)) (by decide) (fun _ _ _ _ _ => by exact pg_name (i := 1) sc_pairs_of_places.nd rfl (Or.inl rfl)) (fun _ _ _ _ _ => pts_nil) (fun _ _ _ _ _ => (pi_range2 rfl T.n_range (pa_cons (pe_op op_add (pv 1) pe_int) (pa_cons (pv 0) pa_nil)))) (fun _ _ _ _ _ => by exact pg_name (i := 2) sc_pairs_of_places.nd rfl (Or.inl rfl)) (fun _ _ _ _ _ => pts_nil) (fun _ _ _ _ _ => (pe_tup (pa_cons (pv 1) (pa_cons (pv 2) pa_nil))))))), ?_⟩
    obtain ⟨m, rfl, hm, q⟩ := h
    refine ⟨_, rfl, _, rfl, by omega, by omega, fun D hD => ?_⟩
    refine lc2_it (n := m) walk_range (fun i H' => Same H H' ∧ ∃ ts, H' D = some (.lst ts) ∧ Prs H' ts (prTo m i) ∧ ts.length ≤ 100 * i) ⟨Sm.new hD, [], upd_same, prs_nil, Nat.zero_le _⟩ (fun i H2 _ p => trivial) ?_ ?_
    · rintro i y H2 H3 hi ⟨p1, ts, p2, p3, p4⟩ ⟨rfl, rfl⟩
      refine ⟨rfl, _, rfl, _, _, rfl, rfl, _, rfl, _, _, rfl, ⟨by omega, by omega, by omega, by omega⟩, ?_⟩
      show In2 _ _ _ _ _ _ _ (Itr (0 + (i : Int) + 1) ((m : Int) - (0 + (i : Int) + 1)).toNat) _
      rw [show ((m : Int) - (0 + (i : Int) + 1)).toNat = m - (i + 1) by omega]
      refine in2_it (n := m - (i + 1)) walk_range (fun j H5 => Same H H5 ∧ ∃ ts, H5 D = some (.lst ts) ∧ Prs H5 ts (prTo m i ++ prFrom m i j) ∧ ts.length ≤ 100 * i + j) ⟨p1, ts, p2, by rw [show prFrom m i 0 = [] from rfl, List.append_nil]; exact p3, p4⟩ (fun _ _ _ _ => trivial) ?_ ?_
      · rintro j x H5 H6 hj ⟨r1, ts5, r2, r3, r4⟩ ⟨rfl, rfl⟩
        refine ⟨rfl, _, rfl, _, rfl, small_line (by show 2 ≤ 1000000; decide), fun t2 ht2 => ?_⟩
        have nD : D ≠ t2 := ne_of_none r2 ht2
        refine ⟨ts5, (upd_ne nD).trans r2, small_lt (by omega), Sm.put (r1.trans (Sm.new ht2)) hD, ts5 ++ [.ref t2], upd_same, ?_, by rw [List.length_append]; show ts5.length + 1 ≤ _; omega⟩
        have e1 : prFrom m i (j + 1) = prFrom m i j ++ [(.int (i : Nat), .int ((i + 1 + j : Nat) : Int))] := by
          unfold prFrom
          rw [List.range_succ, List.map_append]
          rfl
        rw [e1, ← List.append_assoc]
        refine prs_upd ((upd_ne nD).trans r2) (prs_snoc (prs_same (Sm.new ht2) r3) ?_)
        rw [upd_same]
        have ea : (0 : Int) + (i : Int) = ((i : Nat) : Int) := by omega
        have eb : (0 : Int) + (i : Int) + 1 + (j : Int) = ((i + 1 + j : Nat) : Int) := by omega
        dsimp only
        rw [eb, ea]
      · rintro H5 ⟨r1, ts5, r2, r3, r4⟩
        exact ⟨r1, ts5, r2, r3, by omega⟩
    · rintro H2 ⟨p1, ts, p2, p3, p4⟩
      exact q H2 D ts p1 hD p2 p3
end
end K6
namespace K6
open PySem PySem.Spec PyProof.Rows L2 K0 K4
def keyC (c : List Nat) : List Key := c.map fun s => Sum.inr (Tx [s])
theorem keyC_V (c : List Nat) : (keyC c).map kV = colV c := by
  unfold keyC colV
  rw [List.map_map]
  rfl
theorem keyC_inj {c d : List Nat} (h : keyC c = keyC d) : c = d := by
  unfold keyC at h
  have : ∀ (c d : List Nat), (c.map fun s => (Sum.inr (Tx [s]) : Key)) = (d.map fun s => Sum.inr (Tx [s])) → c = d := by
    intro c
    induction c with
    | nil =>
      intro d h
      cases d with
      | nil => rfl
      | cons a b => cases h
    | cons a b ih =>
      intro d h
      cases d with
      | nil => cases h
      | cons a' b' =>
        simp only [List.map_cons, List.cons.injEq, Sum.inr.injEq] at h
        have e := tx_inj h.1
        rw [ih b' h.2]
        simp at e
        rw [e]
  exact this c d h
def uq (acc : List (List Nat)) (c : List Nat) : List (List Nat) := if c ∈ acc then acc else acc ++ [c]
def uniq (cl : List (List Nat)) : List (List Nat) := cl.foldl uq []
theorem uniq_take {cl : List (List Nat)} {i : Nat} {c : List Nat} (h : cl[i]? = some c) : uniq (cl.take (i + 1)) = uq (uniq (cl.take i)) c := by
  unfold uniq
  rw [List.take_succ, h, List.foldl_append]
  rfl
theorem uq_nodup {acc : List (List Nat)} {c : List Nat} (h : acc.Nodup) : (uq acc c).Nodup := by
  unfold uq
  split
  · exact h
  · rename_i hc
    rw [List.nodup_append]
    exact ⟨h, by simp, fun a ha b hb => by
      rw [List.mem_singleton.mp hb]
      exact fun z => hc (z ▸ ha)⟩
theorem foldl_nodup : ∀ (cl acc : List (List Nat)), acc.Nodup → (cl.foldl uq acc).Nodup
  | [], _, h => h
  | c :: r, acc, h => foldl_nodup r (uq acc c) (uq_nodup h)
theorem uniq_nodup (cl : List (List Nat)) : (uniq cl).Nodup := foldl_nodup cl [] List.nodup_nil
theorem foldl_mem : ∀ (cl acc : List (List Nat)) (c : List Nat), c ∈ cl.foldl uq acc ↔ c ∈ acc ∨ c ∈ cl
  | [], acc, c => by simp
  | d :: r, acc, c => by
    rw [List.foldl_cons, foldl_mem r (uq acc d) c]
    unfold uq
    split
    · rename_i hd
      constructor
      · rintro (h | h)
        · exact .inl h
        · exact .inr (List.mem_cons_of_mem _ h)
      · rintro (h | h)
        · exact .inl h
        · rcases List.mem_cons.mp h with rfl | h
          · exact .inl hd
          · exact .inr h
    · rw [List.mem_append, List.mem_singleton, List.mem_cons, or_assoc]
theorem uniq_mem {cl : List (List Nat)} {c : List Nat} : c ∈ uniq cl ↔ c ∈ cl := by
  unfold uniq
  rw [foldl_mem]
  simp
theorem foldl_len : ∀ (cl acc : List (List Nat)), (cl.foldl uq acc).length ≤ acc.length + cl.length
  | [], _ => Nat.le_refl _
  | c :: r, acc => by
    have := foldl_len r (uq acc c)
    have h2 : (uq acc c).length ≤ acc.length + 1 := by
      unfold uq
      split
      · omega
      · simp
    simp only [List.foldl_cons, List.length_cons]
    omega
theorem uniq_len (cl : List (List Nat)) : (uniq cl).length ≤ cl.length := by
  have := foldl_len cl []
  simpa [uniq] using this
def zeroL (cl : List (List Nat)) : List Nat := cl.map fun c => (uniq cl).idxOf c
section
variable {P : Program} {w : World} {K : PySem.W.Frag} {mg : Str → Option Value} {base : Heap}
variable {cs : Nat → Addr} {C : Addr}
theorem putK_key {α : Type} {acc : List (List Nat)} {f : List Nat → V} {c : List Nat} {v : V} (hv : ∀ d ∈ acc, f d = f d) (hc : c ∉ acc) : putK (acc.map fun d => (keyC d, f d)) (keyC c) v = (acc.map fun d => (keyC d, f d)) ++ [(keyC c, v)] := by
  unfold putK
  rw [if_neg]
  rw [Bool.not_eq_true, List.any_eq_false]
  intro kv hkv
  obtain ⟨d, hd, rfl⟩ := List.mem_map.mp hkv
  simp only [decide_eq_true_eq]
  exact fun z => hc (keyC_inj z ▸ hd)
theorem putK_old {acc : List (List Nat)} {c : List Nat} (hc : c ∈ acc) : putK (acc.map fun d => (keyC d, V.bl true)) (keyC c) (V.bl true) = acc.map fun d => (keyC d, V.bl true) := by
  unfold putK
  rw [if_pos (List.any_eq_true.mpr ⟨(keyC c, V.bl true), List.mem_map.mpr ⟨c, hc, rfl⟩, by simp⟩)]
  rw [List.map_map]
  refine List.map_congr_left fun d _ => ?_
  show (if keyC d = keyC c then (keyC d, V.bl true) else (keyC d, V.bl true)) = _
  split <;> rfl
def tK (acc : List (List Nat)) : List (List Key × V) := acc.map fun d => (keyC d, V.bl true)
theorem putK_uq {acc : List (List Nat)} {c : List Nat} : putK (tK acc) (keyC c) (V.bl true) = tK (uq acc c) := by
  unfold uq tK
  split
  · rename_i h
    exact putK_old h
  · rename_i h
    rw [putK_key (α := Nat) (f := fun _ => V.bl true) (fun _ _ => rfl) h, List.map_append]
    rfl
theorem isKeys_cols : ∀ {acc : List (List Nat)} {H : Hp} {bs : List Addr}, IsKeys H (tK acc) bs → Cols H (bs.map V.ref) acc
  | [], _, _, .nil => cols_nil
  | c :: r, H, _, .cons (l₂ := bs) h t => by
    have ih := isKeys_cols (acc := r) t
    refine ⟨by simp [ih.1], fun i x d h1 h2 => ?_⟩
    cases i with
    | zero =>
      simp at h1 h2
      subst h1 h2
      exact ⟨_, rfl, by rw [← keyC_V]; exact h⟩
    | succ i => exact ih.2 i x d (by simpa using h1) (by simpa using h2)
abbrev st_unlike_columns : Stmt := top 70
abbrev nm_unlike_columns : List Str := ["columns", "column"]
theorem sc_unlike_columns : FnScope nm_unlike_columns ["columns"] (defScope st_unlike_columns) := ⟨rfl, rfl, rfl, by decide +kernel, rfl, by decide +kernel, by decide +kernel⟩
def spUnlike (K : PySem.W.Frag) : Sp := fun vs H Q _ => ∃ a ts cl, vs = [.ref a] ∧ SqL K H a ts ∧ Cols H ts cl ∧ cl.length ≤ 1000 ∧ ∀ H' p us, Same H H' → H p = none → H' p = some (.lst us) → Cols H' us (uniq cl) → Q (.ref p) H'
theorem ok_unlike {f : Addr} {fd : FuncData} (F : Fun K "unlike_columns" "unlike_columns" st_unlike_columns f fd) (T : Blt mg) : FnOk P w K mg base CX0 1 f fd ["columns"] (spUnlike K) := by
  refine F.ok sc_unlike_columns (fun vs H Q E h => ?_) (fun cdv A outer s H vs Q E hr h => ?_)
  · obtain ⟨a, ts, cl, rfl, _⟩ := h
    rfl
  · refine ⟨_, (pss_one (ps_ret (pe_callTy (call_list_dT rfl) (by rfl) T.n_list (by decide +kernel) (pa_cons (K7.pe_dcT (own := [("column", 1)]) (g := (gName 1)) (hu_of hr) rfl sc_unlike_columns.nd (pi_list (pv 0)) (blkOk_by (N := nm_unlike_columns) (sc := defScope st_unlike_columns) (own := [("column", 1)]) (by decide +kernel)) (fun _ _ _ _ _ => by exact pg_name (i := 1) sc_unlike_columns.nd rfl (Or.inl rfl)) (fun _ _ _ _ _ => (pv 1)) (fun _ _ _ _ _ => pe_bl)) pa_nil)))), ?_⟩
    obtain ⟨a, ts, cl, rfl, hS, hC, hl, q⟩ := h
    refine ⟨_, rfl, a, rfl, ⟨_, hS⟩, fun D hD => ?_⟩
    refine K7.dcT_it walk_list (fun i H' => Same H H' ∧ H' D = some (.dT (tK (uniq (cl.take i))))) ⟨Sm.new hD, upd_same⟩ (fun i H2 _ p => sm_l p.1 hS) ?_ ?_
    · rintro i y H2 H3 hi ⟨p1, p2⟩ ⟨rfl, hy⟩
      have hik : i < cl.length := by
        rw [← hC.1]
        exact hi
      have hci := List.getElem?_eq_getElem hik
      obtain ⟨b, rfl, hb⟩ := (cols_sm p1 hC).2 i y _ hy hci
      refine ⟨rfl, _, rfl, _, keyC cl[i], b, rfl, by rw [keyC_V]; exact hb, p2, ?_, Sm.put p1 hD, ?_⟩
      · have := uniq_len (cl.take i)
        rw [List.length_take] at this
        unfold tK
        rw [List.length_map]
        exact small_lt (by omega)
      · rw [upd_same, putK_uq, uniq_take hci]
    · rintro H2 ⟨p1, p2⟩
      rw [hC.1, List.take_length] at p2
      refine ⟨D, _, rfl, .inl p2, fun p bs hp hk => ?_⟩
      refine q _ p _ (p1.trans (Sm.new hp)) (none_back p1 hp) upd_same (cols_sm (Sm.new hp) (isKeys_cols hk))
end
end K6
namespace K6
open PySem PySem.Spec PyProof.Rows L2 K0 K4
/-- each of U with its number, the first i of them -/
def nK (U : List (List Nat)) (i : Nat) : List (List Key × V) := (List.range i).map fun j => (keyC (U.getD j []), V.int (j : Nat))
theorem getD_at {U : List (List Nat)} {j : Nat} {c : List Nat} (h : U[j]? = some c) : U.getD j [] = c := by
  rw [List.getD_eq_getElem?_getD, h]
  rfl
theorem nK_put {U : List (List Nat)} {i : Nat} {c : List Nat} (hn : U.Nodup) (h : U[i]? = some c) : putK (nK U i) (keyC c) (.int (i : Nat)) = nK U (i + 1) := by
  unfold putK
  rw [if_neg]
  · unfold nK
    rw [List.range_succ, List.map_append, List.map_singleton, getD_at h]
  · rw [Bool.not_eq_true, List.any_eq_false]
    intro kv hkv
    obtain ⟨j, hj, rfl⟩ := List.mem_map.mp hkv
    have hj := List.mem_range.mp hj
    simp only [decide_eq_true_eq]
    intro z
    have hi := (List.getElem?_eq_some_iff.mp h).1
    have hjl : j < U.length := by omega
    have e1 := getD_at (List.getElem?_eq_getElem hjl)
    have := keyC_inj z
    rw [e1] at this
    have e2 : U[j]? = some c := by rw [List.getElem?_eq_getElem hjl, this]
    have := nodup_lt hn e2 h
    omega
theorem idx_at {U : List (List Nat)} {j : Nat} {c : List Nat} (hn : U.Nodup) (h : U[j]? = some c) : U.idxOf c = j := by
  obtain ⟨hl, e⟩ := List.getElem?_eq_some_iff.mp h
  subst e
  exact hn.idxOf_getElem j hl
theorem nK_get {U : List (List Nat)} (hn : U.Nodup) : ∀ (i : Nat) {j : Nat} {c : List Nat}, i ≤ U.length → U[j]? = some c → valV (nK U i) (keyC c) = if j < i then some (.int (j : Nat)) else none
  | 0, j, c, _, _ => by rw [if_neg (Nat.not_lt_zero _)]; rfl
  | i + 1, j, c, hi, h => by
    have hil : i < U.length := by omega
    have hU := List.getElem?_eq_getElem hil
    rw [← nK_put hn hU, valV_put]
    by_cases e : j = i
    · subst e
      rw [h] at hU
      cases hU
      rw [if_pos rfl, if_pos (Nat.lt_succ_self _)]
    · have ne : keyC c ≠ keyC U[i] := fun z => e (nodup_lt hn h (by rw [hU, keyC_inj z]))
      rw [if_neg ne, nK_get hn i (by omega) h]
      by_cases q : j < i
      · rw [if_pos q, if_pos (by omega)]
      · rw [if_neg q, if_neg (by omega)]
theorem zeroL_len (cl : List (List Nat)) : (zeroL cl).length = cl.length := List.length_map _
section
variable {P : Program} {w : World} {K : PySem.W.Frag} {mg : Str → Option Value} {base : Heap}
variable {cs : Nat → Addr} {C : Addr}
abbrev CUn (P : Program) (w : World) (K : PySem.W.Frag) (mg : Str → Option Value) (base : Heap) : Prop := Cal P w K mg base 1 "unlike_columns" st_unlike_columns ["columns"] (spUnlike K)
abbrev st_zero_of : Stmt := top 71
abbrev nm_zero_of : List Str := ["columns", "numbers", "number", "column"]
theorem sc_zero_of : FnScope nm_zero_of ["columns"] (defScope st_zero_of) := ⟨rfl, rfl, rfl, by decide +kernel, rfl, by decide +kernel, by decide +kernel⟩
def spZeroOf (K : PySem.W.Frag) : Sp := fun vs H Q _ => ∃ a ts cl, vs = [.ref a] ∧ SqL K H a ts ∧ Cols H ts cl ∧ cl.length ≤ 1000 ∧ ∀ H' p, Same H H' → TupF H' p ((zeroL cl).map fun n => V.int (n : Nat)) → Q (.ref p) H'
theorem ok_zero_of {f : Addr} {fd : FuncData} (F : Fun K "zero_of" "zero_of" st_zero_of f fd) (T : Blt mg) (C_unlike_columns : CUn P w K mg base) : FnOk P w K mg base CX0 2 f fd ["columns"] (spZeroOf K) := by
  refine F.ok sc_zero_of (fun vs H Q E h => ?_) (fun cdv A outer s H vs Q E hr h => ?_)
  · obtain ⟨a, ts, cl, rfl, _⟩ := h
    rfl
  · refine ⟨_, (pss_cons (ps_set (i := 1) sc_zero_of.nd rfl (Or.inr rfl) (K7.pe_dcT (own := [("number", 2), ("column", 3)]) (g := (gTup K 2 (gCons (gName 2) (gCons (gName 3) gNil)))) (hu_of hr) rfl sc_zero_of.nd (pi_enum (by rfl) T.n_enumerate (pa_cons (pe_cl C_unlike_columns (hr.mono (by decide)) rfl (pa_cons (pv 0) pa_nil)) pa_nil)) (blkOk_by (N := nm_zero_of) (sc := defScope st_zero_of) (own := [("number", 2), ("column", 3)]) (by decide +kernel)) (fun _ _ _ _ _ => by exact pg_tup rfl (pgs_cons (pg_name (i := 2) sc_zero_of.nd rfl (Or.inl rfl)) (pgs_cons (pg_name (i := 3) sc_zero_of.nd rfl (Or.inl rfl)) pgs_nil))) (fun _ _ _ _ _ => (pv 3)) (fun _ _ _ _ _ => (pv 2))))
  (pss_one (ps_ret (pe_callTy (call_tg : CallR _ (.type "tuple") (hTupG K)) (by rfl) T.n_tuple (by decide +kernel) (pa_cons (pe_lc (own := [("column", 3)]) (g := (gName 3)) (tt := tYes) rfl sc_zero_of.nd (pi_list (pv 0)) (blkOk_by (N := nm_zero_of) (sc := defScope st_zero_of) (own := [("column", 3)]) (by decide +kernel)) (fun _ _ _ _ _ => by exact pg_name (i := 3) sc_zero_of.nd rfl (Or.inl rfl)) (fun _ _ _ _ _ => pts_nil) (fun _ _ _ _ _ => (show PE _ _ (tDGet (tVar 1) (tVar 3)) from pe_dget (hu_of hr) (pv 1) (pv 3) (fun _ _ => rfl)))) pa_nil))))), ?_⟩
    obtain ⟨a, ts, cl, rfl, hS, hC, hl, q⟩ := h
    refine ⟨_, rfl, a, ts, cl, rfl, hS, hC, hl, fun H1 p us s1 np hp hU => ?_⟩
    have ul := uniq_len cl
    have un := uniq_nodup cl
    refine ⟨p, us, rfl, SqL.of hp, fun D hD => ?_⟩
    refine K7.dcT_it walk_enum (fun i H' => Same H1 H' ∧ H' D = some (.dT (nK (uniq cl) i))) ⟨Sm.new hD, upd_same⟩ (fun i H2 _ p1 => sm_l p1.1 (SqL.of hp)) ?_ ?_
    · rintro i y H2 H3 hi ⟨p1, p2⟩ ⟨t, u, v, rfl, ht, rfl, eu, hv⟩
      cases eu
      have hik : i < (uniq cl).length := by
        rw [← hU.1]
        exact hi
      have hci := List.getElem?_eq_getElem hik
      obtain ⟨b, rfl, hb⟩ := (cols_sm p1 hU).2 i v _ hv hci
      have s3 : Same H2 (upd H2 t (.tup [.int (i : Nat), .ref b])) := Sm.new ht
      refine ⟨t, _, rfl, SqT.of upd_same, rfl, _, _, rfl, _, _, rfl, rfl, rfl, ?_⟩
      have nD : D ≠ t := ne_of_none p2 ht
      refine ⟨_, rfl, _, rfl, nK (uniq cl) i, keyC (uniq cl)[i], b, rfl, by rw [keyC_V]; exact s3 _ _ hb, (upd_ne nD).trans p2, ?_, Sm.put (p1.trans s3) hD, ?_⟩
      · unfold nK
        rw [List.length_map, List.length_range]
        exact small_lt (by omega)
      · rw [upd_same, nK_put un hci]
    · rintro H2 ⟨p1, p2⟩
      have p2 : H2 D = some (.dT (nK (uniq cl) us.length)) := p2
      rw [hU.1] at p2
      have s12 := s1.trans p1
      refine ⟨_, rfl, a, rfl, ⟨_, sm_l s12 hS⟩, fun D2 hD2 => ?_⟩
      have nDD : D ≠ D2 := ne_of_none p2 hD2
      refine lc_it walk_list (SPv H2 D2 fun i => ((zeroL cl).take i).map fun n => V.int (n : Nat)) (spv0 hD2 rfl) (fun i H3 _ p3 => sm_l (s12.trans p3.1) hS) ?_ ?_
      · rintro i y H3 H4 hi ⟨r1, r2⟩ ⟨rfl, hy⟩
        have hik : i < cl.length := by
          rw [← hC.1]
          exact hi
        have hci := List.getElem?_eq_getElem hik
        obtain ⟨b, rfl, hb⟩ := (cols_sm (s12.trans r1) hC).2 i y _ hy hci
        have hm : cl[i] ∈ uniq cl := uniq_mem.mpr (List.getElem_mem hik)
        obtain ⟨j, hj, ej⟩ := List.getElem_of_mem hm
        have hj2 : (uniq cl)[j]? = some cl[i] := by rw [List.getElem?_eq_getElem hj, ej]
        have hg := nK_get un (uniq cl).length (Nat.le_refl _) hj2
        rw [if_pos hj] at hg
        refine ⟨rfl, _, rfl, _, rfl, D, V.int (j : Nat), rfl, ?_, ?_⟩
        · rw [← hg]
          exact DGet.t (r1 _ _ p2) (by rw [keyC_V]; exact hb)
        · refine spv_put hD2 r1 r2 ?_ ?_
          · rw [List.length_map, List.length_take, zeroL_len]
            omega
          · have hz : (zeroL cl)[i]? = some j := by
              unfold zeroL
              rw [List.getElem?_map, hci, Option.map_some, idx_at un hj2]
            rw [List.take_succ, hz]
            simp
      · rintro H3 ⟨r1, r2⟩
        have r2 : H3 D2 = some (.lst (((zeroL cl).take ts.length).map fun n => V.int (n : Nat))) := r2
        rw [hC.1, ← zeroL_len cl, List.take_length] at r2
        exact rd_tg (.inl (SqL.of r2)) fun H4 t s4 hT => q H4 t ((s12.trans r1).trans s4) hT
end
end K6
namespace K6
open PySem PySem.Spec PyProof.Rows L2 K0 K4
theorem cols_len6 {names : List (List Nat)} {ws : List (List (List Nat))} (h : ShOk names (whole ws)) : (cols ws).length ≤ 100 := by
  have r6 : ws.length ≤ 6 := by
    have := h.r6
    rwa [show (whole ws).length = ws.length from List.length_map _] at this
  have gen : ∀ i, i ≤ ws.length → (colsTo ws i).length ≤ 12 * i := by
    intro i
    induction i with
    | zero => intro _; exact Nat.le_refl _
    | succ i ih =>
      intro hi
      have hw := List.getElem?_eq_getElem (show i < ws.length by omega)
      have e4 := (h.evenW (List.mem_of_getElem? hw)).2.2.2
      have eg : ws.getD i [] = ws[i] := by
        rw [List.getD_eq_getElem?_getD, hw]
        rfl
      show (colsTo ws i ++ rowCols (ws.getD i []) (widW (ws.getD i []))).length ≤ _
      rw [List.length_append, eg]
      have := ih (by omega)
      unfold rowCols
      rw [List.length_map, List.length_range]
      omega
  have := gen ws.length (Nat.le_refl _)
  show (colsTo ws ws.length).length ≤ 100
  omega
section
variable {P : Program} {w : World} {K : PySem.W.Frag} {mg : Str → Option Value} {base : Heap}
variable {cs : Nat → Addr} {C : Addr}
abbrev CCo (P : Program) (w : World) (K : PySem.W.Frag) (mg : Str → Option Value) (base : Heap) (C : Addr) : Prop := Cal P w K mg base 1 "columns_of" st_columns_of ["sheet"] (spColumnsOf K C)
abbrev CZo (P : Program) (w : World) (K : PySem.W.Frag) (mg : Str → Option Value) (base : Heap) : Prop := Cal P w K mg base 2 "zero_of" st_zero_of ["columns"] (spZeroOf K)
abbrev CNW (P : Program) (w : World) (K : PySem.W.Frag) (mg : Str → Option Value) (base : Heap) (cs : Nat → Addr) (C : Addr) : Prop := CalX P w K mg base 4 "need_whole" st_need_whole ["value", "part"] (spNeedWhole K cs C)
/-- a value, told whole: a whole sheet, one with gaps, or something else -/
def Whv (K : PySem.W.Frag) (cs : Nat → Addr) (C : Addr) (z : Str) (H : Hp) (E : XK) (v : V) (q : Addr → List (List Nat) → List (List (List Nat)) → Prop) : Prop :=
  (∃ t, TyX K H v t ∧ PySem.W.kitOne K t (.ref C) = some false ∧ XSheet cs z H E) ∨ (∃ y names css, v = .ref y ∧ SheetAt K C H y names css ∧ gaps names css css.length ≠ [] ∧ XSheet cs "gaps" H E) ∨
  ∃ y names ws, v = .ref y ∧ SheetAt K C H y names (whole ws) ∧ ShOk names (whole ws) ∧ q y names ws
theorem gaps_whole {names : List (List Nat)} {ws : List (List (List Nat))} : ∀ n, gaps names (whole ws) n = []
  | 0 => rfl
  | n + 1 => by
    show gaps names (whole ws) n ++ _ = []
    rw [gaps_whole n, List.nil_append]
    refine List.flatMap_eq_nil_iff.mpr fun x hx => ?_
    have hx := List.mem_of_mem_take hx
    obtain ⟨a, c⟩ := x
    have hc := (List.of_mem_zip hx).2
    have e : (whole ws).getD n [] = (ws.getD n []).map some := by
      unfold whole
      rw [List.getD_eq_getElem?_getD, List.getElem?_map, List.getD_eq_getElem?_getD]
      cases ws[n]? <;> rfl
    rw [e] at hc
    obtain ⟨l, _, rfl⟩ := List.mem_map.mp hc
    rfl
@[irreducible] def hWhole (K : PySem.W.Frag) (cs : Nat → Addr) (C : Addr) : Sp := spNeedWhole K cs C
theorem hWhole_eq {K : PySem.W.Frag} {cs : Nat → Addr} {C : Addr} : hWhole K cs C = spNeedWhole K cs C := by
  unfold hWhole
  rfl
theorem whv_need {H : Hp} {v : V} {z : Str} {Q : VK} {E : XK} {q : Addr → List (List Nat) → List (List (List Nat)) → Prop} (h : Whv K cs C z H E v q) (k : ∀ y names ws, v = .ref y → SheetAt K C H y names (whole ws) → ShOk names (whole ws) → q y names ws → Q .non H) : hWhole K cs C [v, .str z] H Q E := by
  rw [hWhole_eq]
  rcases h with ⟨t, ty, hk, r⟩ | ⟨y, names, css, rfl, sh, g, r⟩ | ⟨y, names, ws, rfl, sh, ok, r⟩
  · exact ⟨_, z, rfl, .inl ⟨t, ty, hk, r⟩⟩
  · exact ⟨_, z, rfl, shv_sheet sh ⟨fun e => absurd e g, fun _ => r⟩⟩
  · exact ⟨_, z, rfl, shv_sheet sh ⟨fun _ => k y names ws rfl sh ok r, fun g => absurd (gaps_whole _) g⟩⟩
abbrev st_zero : Stmt := top 72
abbrev nm_zero : List Str := ["sheet"]
theorem sc_zero : FnScope nm_zero ["sheet"] (defScope st_zero) := ⟨rfl, rfl, rfl, by decide +kernel, rfl, by decide +kernel, by decide +kernel⟩
def spZero (K : PySem.W.Frag) (cs : Nat → Addr) (C : Addr) : Sp := fun vs H Q E => ∃ v, vs = [v] ∧ Whv K cs C "sheet" H E v fun _ _ ws => ∀ H' p, Same H H' → TupF H' p ((zeroL (cols ws)).map fun n => V.int (n : Nat)) → Q (.ref p) H'
theorem ok_zero {f : Addr} {fd : FuncData} (F : Fun K "zero" "zero" st_zero f fd) (T : Blt mg) (C_need_whole : CNW P w K mg base cs C) (C_columns_of : CCo P w K mg base C) (C_zero_of : CZo P w K mg base) : FnOk P w K mg base (L2.CX P w) 5 f fd ["sheet"] (spZero K cs C) := by
  have C_need_whole := calX_to C_need_whole hWhole_eq
  refine F.okX sc_zero (fun vs H Q E h => ?_) (fun cdv A outer s H vs Q E hr h => ?_)
  · obtain ⟨v, rfl, _⟩ := h
    rfl
  · refine ⟨_, (pss_cons (ps_expr (pe_clX C_need_whole (passes_call (takes_of rfl rfl rfl rfl) fun _ _ _ _ z => z) (hr.mono (by decide)) rfl (pa_cons (pv 0) (pa_cons pe_str pa_nil))))
  (pss_one (ps_ret (pe_cl C_zero_of (hr.mono (by decide)) rfl (pa_cons (pe_cl C_columns_of (hr.mono (by decide)) rfl (pa_cons (pv 0) pa_nil)) pa_nil))))), ?_⟩
    obtain ⟨v, rfl, h⟩ := h
    refine ⟨_, rfl, ?_⟩
    refine whv_need h fun y names ws ey sh ok q => ?_
    subst ey
    refine ⟨_, rfl, y, names, ws, rfl, sh, ok, fun H1 p ts s1 np hp hC => ?_⟩
    exact ⟨p, ts, cols ws, rfl, SqL.of hp, hC, by have := cols_len6 ok; omega, fun H2 p2 s2 hp2 => q H2 p2 (s1.trans s2) hp2⟩
end
end K6
namespace K6
open PySem PySem.Spec PyProof.Rows L2 K0 K4
def prNat (m : Nat) : Nat → List (Nat × Nat)
  | 0 => []
  | i + 1 => prNat m i ++ (List.range (m - (i + 1))).map fun j => (i, i + 1 + j)
theorem prTo_nat (m : Nat) : ∀ n, prTo m n = (prNat m n).map fun p => (V.int (p.1 : Nat), V.int (p.2 : Nat))
  | 0 => rfl
  | n + 1 => by
    show prTo m n ++ prFrom m n (m - (n + 1)) = _
    rw [prTo_nat m n]
    show _ = ((prNat m n) ++ (List.range (m - (n + 1))).map fun j => (n, n + 1 + j)).map _
    rw [List.map_append, List.map_map]
    rfl
theorem prNat_mem {m i j : Nat} : ∀ {n : Nat}, n ≤ m → ((i, j) ∈ prNat m n ↔ i < n ∧ i < j ∧ j < m)
  | 0, _ => by simp [prNat]
  | n + 1, h => by
    show (i, j) ∈ prNat m n ++ (List.range (m - (n + 1))).map (fun j => (n, n + 1 + j)) ↔ _
    rw [List.mem_append, prNat_mem (by omega), List.mem_map]
    constructor
    · rintro (q | ⟨k, hk, e⟩)
      · omega
      · cases e
        have := List.mem_range.mp hk
        omega
    · rintro ⟨h1, h2, h3⟩
      rcases Nat.lt_or_ge i n with q | q
      · exact .inl ⟨q, h2, h3⟩
      · refine .inr ⟨j - (n + 1), List.mem_range.mpr (by omega), ?_⟩
        have : i = n := by omega
        subst this
        rw [show i + 1 + (j - (i + 1)) = j by omega]
/-- joined in one, not in the other -/
def jB (dy ot : List Nat) (p : Nat × Nat) : Bool := decide (dy.getD p.1 0 = dy.getD p.2 0) && !decide (ot.getD p.1 0 = ot.getD p.2 0)
def ljR (dy ot : List Nat) : Option (Nat × Nat) := (prNat dy.length dy.length).find? (jB dy ot)
def inV' (l : List Nat) : List V := l.map fun n => V.int (n : Nat)
theorem inV_at {l : List Nat} {i : Nat} (h : i < l.length) : (inV' l)[i]? = some (.int (l.getD i 0 : Nat)) := by
  unfold inV'
  rw [List.getElem?_map, List.getElem?_eq_getElem h, List.getD_eq_getElem?_getD, List.getElem?_eq_getElem h]
  rfl
section
variable {P : Program} {w : World} {K : PySem.W.Frag} {mg : Str → Option Value} {base : Heap}
variable {cs : Nat → Addr} {C : Addr}
abbrev CPp (P : Program) (w : World) (K : PySem.W.Frag) (mg : Str → Option Value) (base : Heap) : Prop := Cal P w K mg base 1 "pairs_of_places" st_pairs_of_places ["many"] spPairs
abbrev st_least_joined : Stmt := top 76
abbrev nm_least_joined : List Str := ["dyeing", "other", "place", "beside"]
theorem sc_least_joined : FnScope nm_least_joined ["dyeing", "other"] (defScope st_least_joined) := ⟨rfl, rfl, rfl, by decide +kernel, rfl, by decide +kernel, by decide +kernel⟩
def spLeastJ (K : PySem.W.Frag) : Sp := fun vs H Q _ => ∃ a b dy ot, vs = [.ref a, .ref b] ∧ SqT K H a (inV' dy) ∧ SqT K H b (inV' ot) ∧ dy.length = ot.length ∧ dy.length ≤ 100 ∧
  (ljR dy ot = none → ∀ H', Same H H' → Q .non H') ∧ (∀ i j, ljR dy ot = some (i, j) → ∀ H' p, Same H H' → H p = none → H' p = some (.tup [.int (i : Nat), .int (j : Nat)]) → Q (.ref p) H')
theorem ok_least_joined {f : Addr} {fd : FuncData} (F : Fun K "least_joined" "least_joined" st_least_joined f fd) (T : Blt mg) (C_pairs_of_places : CPp P w K mg base) : FnOk P w K mg base CX0 2 f fd ["dyeing", "other"] (spLeastJ K) := by
  refine F.ok sc_least_joined (fun vs H Q E h => ?_) (fun cdv A outer s H vs Q E hr h => ?_)
  · obtain ⟨a, b, dy, ot, rfl, _⟩ := h
    rfl
  · refine ⟨_, (pss_cons (ps_for PassesOwn.never rfl (pi_list (pe_cl C_pairs_of_places (hr.mono (by decide)) rfl (pa_cons (pe_callB call_len_seq (by rfl) T.n_len (by decide +kernel) (pa_cons (pv 0) pa_nil)) pa_nil))) (pg_tup rfl (pgs_cons (pg_name (i := 2) sc_least_joined.nd rfl (Or.inl rfl)) (pgs_cons (pg_name (i := 3) sc_least_joined.nd rfl (Or.inl rfl)) pgs_nil))) (pss_one (ps_if (PW.pt (pw_and (pt_cmpR op_eq (pe_ix (ix_tup : IxR _ (rIxT K)) (pv 0) (pv 2) (fun _ _ => rfl)) (pe_ix (ix_tup : IxR _ (rIxT K)) (pv 0) (pv 3) (fun _ _ => rfl)) (nomark _)) (pw_and1 (pt_cmpR op_ne (pe_ix (ix_tup : IxR _ (rIxT K)) (pv 1) (pv 2) (fun _ _ => rfl)) (pe_ix (ix_tup : IxR _ (rIxT K)) (pv 1) (pv 3) (fun _ _ => rfl)) (nomark _))))) (pss_one (ps_ret (pe_tup (pa_cons (pv 2) (pa_cons (pv 3) pa_nil))))) pss_nil)))
  (pss_one (ps_ret pe_non))), ?_⟩
    obtain ⟨a, b, dy, ot, rfl, hA, hB, hl, h100, q1, q2⟩ := h
    have hlA : (inV' dy).length = dy.length := List.length_map _
    refine ⟨_, rfl, a, _, rfl, .inr hA, dy.length, by rw [hlA]; rfl, h100, fun H1 p ts s1 np hp hts => ?_⟩
    rw [prTo_nat] at hts
    have hA1 := sm_t s1 hA
    have hB1 := sm_t s1 hB
    have hlen : ts.length = (prNat dy.length dy.length).length := by rw [hts.1, List.length_map]
    refine ⟨p, rfl, ⟨_, SqL.of hp⟩, ?_⟩
    refine for_it walk_list (fun i σ H' => Same H1 H' ∧ (∃ u v, σ = [some (.ref a), some (.ref b), u, v]) ∧ ∀ k < i, ∀ pr, (prNat dy.length dy.length)[k]? = some pr → jB dy ot pr = false) ⟨Same.refl H1, ⟨none, none, rfl⟩, fun k hk => absurd hk (Nat.not_lt_zero _)⟩ (fun i σ H2 _ p1 => sm_l p1.1 (SqL.of hp)) ?_ ?_
    · rintro i y σ H2 H3 hi ⟨p1, ⟨u, v, rfl⟩, p2⟩ ⟨rfl, hy⟩
      have hik : i < (prNat dy.length dy.length).length := by
        rw [← hlen]
        exact hi
      have hpr := List.getElem?_eq_getElem hik
      generalize hpq : (prNat dy.length dy.length)[i] = pq at hpr
      obtain ⟨pi, pj⟩ := pq
      obtain ⟨t2, rfl, ht2⟩ := (prs_same p1 hts).2 i y _ hy (by rw [List.getElem?_map, hpr]; rfl)
      obtain ⟨_, h1, h2⟩ := (prNat_mem (Nat.le_refl _)).mp (List.mem_of_getElem? hpr)
      have gd1 := inV_at (l := dy) (i := pi) (by omega)
      have gd2 := inV_at (l := dy) (i := pj) (by omega)
      have go1 := inV_at (l := ot) (i := pi) (by omega)
      have go2 := inV_at (l := ot) (i := pj) (by omega)
      have eqI : ∀ x y : Nat, decide (V.int (x : Nat) = V.int (y : Nat)) = decide (x = y) := fun x y => by
        by_cases h : x = y
        · rw [h, decide_eq_true rfl, decide_eq_true rfl]
        · rw [decide_eq_false h]
          exact decide_eq_false fun z => h (Int.ofNat.inj (V.int.inj z))
      refine ⟨t2, _, rfl, SqT.of ht2, rfl, _, _, rfl, _, _, rfl, rfl, ?_⟩
      refine ⟨_, rfl, _, rfl, a, inV' dy, (pi : Nat), _, rfl, rfl, sm_t p1 hA1, atI_nat gd1, _, rfl, _, rfl, a, inV' dy, (pj : Nat), _, rfl, rfl, sm_t p1 hA1, atI_nat gd2, rfl, _, rfl, ?_⟩
      rw [eqI]
      have next : jB dy ot (pi, pj) = false → (Same H1 H3 ∧ (∃ u' v', [some (V.ref a), some (V.ref b), some (V.int (pi : Nat)), some (V.int (pj : Nat))] = [some (.ref a), some (.ref b), u', v']) ∧ ∀ k < i + 1, ∀ pr, (prNat dy.length dy.length)[k]? = some pr → jB dy ot pr = false) := fun hf => ⟨p1, ⟨_, _, rfl⟩, fun k hk pr h => by
        rcases Nat.lt_succ_iff_lt_or_eq.mp hk with q | rfl
        · exact p2 k q pr h
        · rw [hpr] at h
          cases h
          exact hf⟩
      by_cases c1 : dy.getD pi 0 = dy.getD pj 0
      · rw [decide_eq_true c1]
        refine iteT ⟨_, rfl, _, rfl, b, inV' ot, (pi : Nat), _, rfl, rfl, sm_t p1 hB1, atI_nat go1, _, rfl, _, rfl, b, inV' ot, (pj : Nat), _, rfl, rfl, sm_t p1 hB1, atI_nat go2, rfl, _, rfl, ?_⟩
        rw [eqI]
        by_cases c2 : ot.getD pi 0 = ot.getD pj 0
        · rw [decide_eq_true c2]
          refine iteF (next ?_)
          unfold jB
          rw [decide_eq_true c1, decide_eq_true c2]
          rfl
        · rw [decide_eq_false c2]
          have hj : jB dy ot (pi, pj) = true := by
            unfold jB
            rw [decide_eq_true c1, decide_eq_false c2]
            rfl
          refine iteT ⟨_, rfl, _, rfl, small_line (by show 2 ≤ 1000000; decide), fun t3 ht3 => ?_⟩
          refine q2 pi pj ?_ _ t3 ((s1.trans p1).trans (Sm.new ht3)) (none_back (s1.trans p1) ht3) upd_same
          unfold ljR
          refine List.find?_eq_some_iff_getElem.mpr ⟨hj, i, hik, hpq, fun j hj2 => ?_⟩
          rw [p2 j hj2 _ (List.getElem?_eq_getElem (by omega))]
          rfl
      · rw [decide_eq_false c1]
        refine iteF (next ?_)
        unfold jB
        rw [decide_eq_false c1]
        rfl
    · rintro σ H2 ⟨p1, ⟨u, v, rfl⟩, p2⟩
      refine q1 ?_ H2 (s1.trans p1)
      refine List.find?_eq_none.mpr fun pr hpr => ?_
      obtain ⟨k, hk, e⟩ := List.getElem_of_mem hpr
      rw [p2 k (by rw [hlen]; exact hk) pr (by rw [List.getElem?_eq_getElem hk, e])]
      exact Bool.false_ne_true
end
end K6
namespace K6
open PySem PySem.Spec PyProof.Rows L2 K0 K4
theorem eqvAll_mapD {α : Type} [DecidableEq α] {d : α → PyData} (h : ∀ a b, PyData.eqv (d a) (d b) = decide (a = b)) : ∀ (xs ys : List α), PyData.eqvAll (xs.map d) (ys.map d) = decide (xs = ys)
  | [], [] => rfl
  | [], y :: s => rfl
  | x :: r, [] => rfl
  | x :: r, y :: s => by
    show PyData.eqvAll (d x :: r.map d) (d y :: s.map d) = _
    rw [PyData.eqvAll, h x y, eqvAll_mapD h r s]
    by_cases a : x = y
    · by_cases b : r = s
      · rw [decide_eq_true a, decide_eq_true b, a, b, decide_eq_true rfl]
        rfl
      · rw [decide_eq_true a, decide_eq_false b]
        exact (decide_eq_false fun z => b (List.cons.inj z).2).symm
    · rw [decide_eq_false a]
      exact (decide_eq_false fun z => a (List.cons.inj z).1).symm
def plN (css : List (List Cell)) : Nat → List (Nat × Nat)
  | 0 => []
  | i + 1 => plN css i ++ (List.range (wid (css.getD i [])).toNat).map fun (j : Nat) => (i, j)
theorem places_nat (css : List (List Cell)) : ∀ n, places css n = (plN css n).map fun p => (V.int (p.1 : Nat), V.int (p.2 : Nat))
  | 0 => rfl
  | n + 1 => by
    show places css n ++ placesFrom n (css.getD n []) (wid (css.getD n [])).toNat = _
    rw [places_nat css n]
    show _ = ((plN css n) ++ (List.range (wid (css.getD n [])).toNat).map fun j => (n, j)).map _
    rw [List.map_append, List.map_map]
    rfl
def dPr (p : Nat × Nat) : PyData := .tuple [.int (p.1 : Nat), .int (p.2 : Nat)]
def dP (css : List (List Cell)) : PyData := .tuple ((plN css css.length).map dPr)
theorem eqv_dPr (a b : Nat × Nat) : PyData.eqv (dPr a) (dPr b) = decide (a = b) := by
  obtain ⟨i, j⟩ := a
  obtain ⟨k, l⟩ := b
  show PyData.eqv (.tuple [.int (i : Nat), .int (j : Nat)]) (.tuple [.int (k : Nat), .int (l : Nat)]) = _
  rw [PyData.eqv, PyData.eqvAll, PyData.eqvAll, PyData.eqvAll, PyData.eqv, PyData.eqv, Bool.and_true]
  by_cases a : i = k
  · by_cases b : j = l
    · subst a b
      simp
    · rw [decide_eq_false fun z => b (Prod.mk.inj z).2, (beq_eq_false_iff_ne (a := (j : Int)) (b := (l : Int))).mpr fun z => b (Int.ofNat.inj z), Bool.and_false]
  · rw [decide_eq_false fun z => a (Prod.mk.inj z).1, (beq_eq_false_iff_ne (a := (i : Int)) (b := (k : Int))).mpr fun z => a (Int.ofNat.inj z), Bool.false_and]
theorem eqv_dP (a b : List (List Cell)) : PyData.eqv (dP a) (dP b) = decide (plN a a.length = plN b b.length) := by
  unfold dP
  rw [PyData.eqv, eqvAll_mapD eqv_dPr]
theorem shaped_dP (css : List (List Cell)) : SeqAt.shaped (dP css) = true := by
  refine shaped_of ?_ ?_
  · unfold dP PyData.canLay0
    refine lay_all fun p _ => ?_
    unfold dPr PyData.canLay0 PyData.canLayAll0 PyData.canLay0 PyData.canLayAll0 PyData.canLay0 PyData.canLayAll0
    rfl
  · unfold dP PyData.depth
    have := depth_all (b := 2) (d := dPr) (xs := plN css css.length) fun p _ => by
      unfold dPr PyData.depth PyData.depthAll PyData.depth PyData.depthAll PyData.depth PyData.depthAll
      decide
    omega
theorem dp_prs {K : PySem.W.Frag} {H : Hp} : ∀ {ts : List V} {ps : List (Nat × Nat)}, Prs H ts (ps.map fun p => (V.int (p.1 : Nat), V.int (p.2 : Nat))) → DpAll K H ts (ps.map dPr)
  | [], [], _ => .nil
  | [], p :: q, h => by cases h.1
  | t :: r, [], h => by cases h.1
  | t :: r, p :: q, h => by
    obtain ⟨a, rfl, hS⟩ := h.2 0 t _ rfl rfl
    exact .cons (.tup (SqT.of hS) (.cons (.int _) (.cons (.int _) .nil))) (dp_prs ⟨Nat.succ.inj h.1, fun i y z e1 e2 => h.2 (i + 1) y z e1 e2⟩)
section
variable {P : Program} {w : World} {K : PySem.W.Frag} {mg : Str → Option Value} {base : Heap}
variable {cs : Nat → Addr} {C : Addr}
def standS (a b : Bool) : Str := if a then (if b then "alike" else "coarser") else (if b then "finer" else "across")
abbrev st_standing : Stmt := top 77
abbrev nm_standing : List Str := ["one", "other"]
theorem sc_standing : FnScope nm_standing ["one", "other"] (defScope st_standing) := ⟨rfl, rfl, rfl, by decide +kernel, rfl, by decide +kernel, by decide +kernel⟩
def spStanding (K : PySem.W.Frag) : Sp := fun vs H Q _ => ∃ u v, vs = [u, v] ∧ Q (.str (standS (decide (u = V.non)) (decide (v = V.non)))) H
theorem ok_standing {f : Addr} {fd : FuncData} (F : Fun K "standing" "standing" st_standing f fd) : FnOk P w K mg base CX0 1 f fd ["one", "other"] (spStanding K) := by
  refine F.ok sc_standing (fun vs H Q E h => ?_) (fun cdv A outer s H vs Q E hr h => ?_)
  · obtain ⟨u, v, rfl, _⟩ := h
    rfl
  · refine ⟨_, (pss_cons (ps_if (pt_cmpR op_isN (pv 0) pe_non (nomark _)) (pss_one (ps_ret (pe_ifExp (pt_cmpR op_isN (pv 1) pe_non (nomark _)) pe_str pe_str))) pss_nil)
  (pss_one (ps_ret (pe_ifExp (pt_cmpR op_isN (pv 1) pe_non (nomark _)) pe_str pe_str)))), ?_⟩
    obtain ⟨u, v, rfl, q⟩ := h
    refine ⟨_, rfl, rfl, _, rfl, ?_⟩
    cases a : decide (u = V.non) with
    | true =>
      rw [a] at q
      refine iteT ⟨_, rfl, rfl, _, rfl, ?_⟩
      cases b : decide (v = V.non) with
      | true =>
        rw [b] at q
        exact iteT q
      | false =>
        rw [b] at q
        exact iteF q
    | false =>
      rw [a] at q
      refine iteF ⟨_, rfl, rfl, _, rfl, ?_⟩
      cases b : decide (v = V.non) with
      | true =>
        rw [b] at q
        exact iteT q
      | false =>
        rw [b] at q
        exact iteF q
abbrev CSt (P : Program) (w : World) (K : PySem.W.Frag) (mg : Str → Option Value) (base : Heap) : Prop := Cal P w K mg base 1 "standing" st_standing ["one", "other"] (spStanding K)
abbrev CLj (P : Program) (w : World) (K : PySem.W.Frag) (mg : Str → Option Value) (base : Heap) : Prop := Cal P w K mg base 2 "least_joined" st_least_joined ["dyeing", "other"] (spLeastJ K)
theorem inV_map {l : List Nat} : (l.map fun n => V.int (n : Nat)) = inV' l := rfl
@[irreducible] def hLj (K : PySem.W.Frag) : Sp := spLeastJ K
theorem hLj_eq {K : PySem.W.Frag} : hLj K = spLeastJ K := by
  unfold hLj
  rfl
theorem cal_to' {P : Program} {w : World} {K : PySem.W.Frag} {mg : Str → Option Value} {base : Heap} {k : Nat} {x : Str} {st : Stmt} {ps : List Str} {sp sp' : Sp} (c : Cal P w K mg base k x st ps sp) (e : sp' = sp) : Cal P w K mg base k x st ps sp' := by
  rw [e]
  exact c
abbrev st_compared : Stmt := top 78
abbrev nm_compared : List Str := ["sheet", "other", "mine", "its", "one", "beside"]
theorem sc_compared : FnScope nm_compared ["sheet", "other"] (defScope st_compared) := ⟨rfl, rfl, rfl, by decide +kernel, rfl, by decide +kernel, by decide +kernel⟩
end
end K6
namespace K6
open PySem PySem.Spec PyProof.Rows L2 K0 K4
section
variable {P : Program} {w : World} {K : PySem.W.Frag} {mg : Str → Option Value} {base : Heap}
variable {cs : Nat → Addr} {C : Addr}
abbrev st_Sheet__of_languages : Stmt := inClass (top 56) 10
abbrev nm_Sheet__of_languages : List Str := ["self", "languages", "language", "indices", "row", "index"]
theorem sc_Sheet__of_languages : FnScope nm_Sheet__of_languages ["self", "languages"] (defScope st_Sheet__of_languages) := ⟨rfl, rfl, rfl, by decide +kernel, rfl, by decide +kernel, by decide +kernel⟩
theorem idx_get {l : List Nat} : ∀ {names : List (List Nat)}, l ∈ names → names[names.idxOf l]? = some l
  | a :: r, h => by
    rw [List.idxOf_cons]
    by_cases e : a = l
    · rw [show (a == l) = true from beq_iff_eq.mpr e]
      exact congrArg some e
    · rw [show (a == l) = false from beq_eq_false_iff_ne.mpr e]
      exact idx_get (names := r) ((List.mem_cons.mp h).resolve_left fun z => e z.symm)
theorem slt_ne {K : PySem.W.Frag} {H : Hp} {a D : Addr} {o : HO} {xs : List V} (n : a ≠ D) (h : SqLT K H a xs) : SqLT K (upd H D o) a xs := by
  rcases h with ((h | ⟨o, h⟩) | h) | ((h | ⟨o, h⟩) | h)
  · exact .inl (.inl (.inl ((upd_ne n).trans h)))
  · exact .inl (.inl (.inr ⟨o, (upd_ne n).trans h⟩))
  · exact .inl (.inr h)
  · exact .inr (.inl (.inl ((upd_ne n).trans h)))
  · exact .inr (.inl (.inr ⟨o, (upd_ne n).trans h⟩))
  · exact .inr (.inr h)
theorem rws_ne {K : PySem.W.Frag} {H : Hp} {D : Addr} {o : HO} {xs : List V} {css : List (List Cell)} (h : Rws K H xs css) (n : ∀ y ∈ xs, y ≠ .ref D) : Rws K (upd H D o) xs css :=
  ⟨h.1, fun i x r e1 e2 => by
    obtain ⟨a, rfl, hS⟩ := h.2 i x r e1 e2
    exact ⟨a, rfl, slt_ne (fun z => n _ (List.mem_of_getElem? e1) (by rw [z])) hS⟩⟩
def rTidx (K : PySem.W.Frag) : V → List V → Hp → VK → Prop := fun x xs H Q => ∃ p, ∃ ys : List Str, ∃ z j, x = .ref p ∧ xs = [.str z] ∧ SqT K H p (ys.map V.str) ∧ ys[j]? = some z ∧ (∀ m, m < j → ys[m]? ≠ some z) ∧ Q (.int (j : Nat)) H
/-- the cells of a row in these languages -/
def pickL (names : List (List Nat)) (css : List (List Cell)) (ls : List (List Nat)) : List (List Cell) := css.map fun r => ls.map fun l => r.getD (names.idxOf l) none
@[irreducible] def hNeedN (K : PySem.W.Frag) (cs : Nat → Addr) : Sp := spNeedNames K cs
theorem hNeedN_eq {K : PySem.W.Frag} {cs : Nat → Addr} : hNeedN K cs = spNeedNames K cs := by
  unfold hNeedN
  rfl
theorem nn_good {H : Hp} {b : Addr} {ls : List (List Nat)} {Q : VK} {E : XK} (hN : SqLT K H b (tws ls)) (hne : ls ≠ []) (hnm : ∀ l ∈ ls, nmOk l = true) (hl : ls.length ≤ 100) (k : ∀ H', Same H H' → Q .non H') : hNeedN K cs [.ref b] H Q E := by
  rw [hNeedN_eq]
  obtain ⟨n1, kd1, hn1⟩ := kd_l hN
  have hne : tws ls ≠ [] := fun z => hne (List.length_eq_zero_iff.mp (by rw [← tws_len, z]; rfl))
  have hall : ∀ n, (List.replicate n true).all id = true := fun n => by simp
  refine ⟨_, n1, rfl, kd1, .inr ⟨hn1, b, tws ls, List.replicate ls.length true, rfl, hN, by rw [tws_len]; omega, ⟨by rw [tws_len, List.length_replicate], fun i y hy => ?_⟩, fun _ H1 s1 => k H1 s1, fun z => absurd ⟨hne, hall _⟩ z⟩⟩
  obtain ⟨l, hl, rfl⟩ := tws_at hy
  have hi := (List.getElem?_eq_some_iff.mp hl).1
  have e : (List.replicate ls.length true).getD i false = true := by
    rw [List.getD_eq_getElem?_getD, List.getElem?_replicate, if_pos hi]
    rfl
  rw [e]
  have hm := hnm l (List.mem_of_getElem? hl)
  exact .inl ⟨l, rfl, nm_len hm, hm.symm⟩
theorem nl_good {H : Hp} {x : Addr} {l : List Nat} {names : List (List Nat)} {css : List (List Cell)} {Q : VK} {E : XK} (sh : SheetAt K C H x names css) (hl : l ∈ names) (hlen : l.length ≤ 10000) (k : Q .non H) : hLang K cs C [.ref x, .str (Tx l)] H Q E := by
  rw [hLang_eq]
  exact ⟨x, _, names, css, rfl, sh, .inl ⟨l, rfl, hlen, fun _ => k, fun z => absurd hl z⟩⟩
end
end K6
namespace K6
open PySem PySem.Spec PyProof.Rows L2 K0 K4
/-- two rows' cells one behind the other -/
def joinC (css css2 : List (List Cell)) : List (List Cell) := List.zipWith (· ++ ·) css css2
section
variable {P : Program} {w : World} {K : PySem.W.Frag} {mg : Str → Option Value} {base : Heap}
variable {cs : Nat → Addr} {C : Addr}
abbrev st_Sheet__joined : Stmt := inClass (top 56) 13
abbrev nm_Sheet__joined : List Str := ["self", "other", "language", "rows", "mine", "its"]
theorem sc_Sheet__joined : FnScope nm_Sheet__joined ["self", "other"] (defScope st_Sheet__joined) := ⟨rfl, rfl, rfl, by decide +kernel, rfl, by decide +kernel, by decide +kernel⟩
@[irreducible] def hNSh (K : PySem.W.Frag) (cs : Nat → Addr) (C : Addr) : Sp := spNeedSheet K cs C
theorem hNSh_eq {K : PySem.W.Frag} {cs : Nat → Addr} {C : Addr} : hNSh K cs C = spNeedSheet K cs C := by
  unfold hNSh
  rfl
theorem ns_good {H : Hp} {y : Addr} {names : List (List Nat)} {css : List (List Cell)} {z : Str} {Q : VK} {E : XK} (h : SheetAt K C H y names css) (k : Q .non H) : hNSh K cs C [.ref y, .str z] H Q E := by
  rw [hNSh_eq]
  exact ⟨_, z, rfl, shv_sheet h k⟩
def spJoined (K : PySem.W.Frag) (cs : Nat → Addr) (C : Addr) : Sp := fun vs H Q _ => ∃ x y names css names2 css2, vs = [.ref x, .ref y] ∧ SheetAt K C H x names css ∧ SheetAt K C H y names2 css2 ∧ css.length ≤ 100 ∧ css2.length = css.length ∧ names.length ≤ 100 ∧ names2.length ≤ 100 ∧
  (∀ r ∈ css, r.length ≤ 100) ∧ (∀ r ∈ css2, r.length ≤ 100) ∧ (∀ l ∈ names2, l ∉ names) ∧ plN css css.length = plN css2 css2.length ∧ ShOk (names ++ names2) (joinC css css2) ∧
  ∀ H' z, Same H H' → H z = none → SheetAt K C H' z (names ++ names2) (joinC css css2) → Q (.ref z) H'
theorem ok_joined {f : Addr} {fd : FuncData} (F : Fun K "joined" "Sheet.joined" st_Sheet__joined f fd) (S : ShC K C) (T : Blt mg) (E_Misfit : Rs1 P w K mg base "Misfit" (cs 2) "part") (E_Twice : Rs1 P w K mg base "Twice" (cs 3) "value") (C_need_sheet : CNSh P w K mg base cs C)
    (C_Sheet : CSheet P w K mg base cs C) : FnOk P w K mg base (L2.CX P w) 7 f fd ["self", "other"] (spJoined K cs C) := by
  have C_need_sheet := calX_to C_need_sheet hNSh_eq
  refine F.okX sc_Sheet__joined (fun vs H Q E h => ?_) (fun cdv A outer s H vs Q E hr h => ?_)
  · obtain ⟨x, y, names, css, names2, css2, rfl, _⟩ := h
    rfl
  · refine ⟨_, (pss_cons (ps_expr (pe_clX C_need_sheet (passes_call (takes_of rfl rfl rfl rfl) fun _ _ _ _ z => z) (hr.mono (by decide)) rfl (pa_cons (pv 1) (pa_cons pe_str pa_nil))))
  (pss_cons (ps_for (passes_of rfl) rfl (pi_tup (pe_fld (pv 1) rfl)) (pg_name (i := 2) sc_Sheet__joined.nd rfl (Or.inl rfl)) (pss_one (ps_if (pt_cmpR op_in_seq (pv 2) (pe_fld (pv 0) rfl) rfl) (pss_one (ps_raise1 E_Twice (hr.mono (by decide)) rfl (takes_of rfl rfl rfl rfl) rfl (pa_cons (pv 2) pa_nil))) pss_nil)))
  (pss_cons (ps_if (pt_cmpR (op_neD hr.units) (pe_fld (pv 0) rfl) (pe_fld (pv 1) rfl) (nomark _)) (pss_one (ps_raise1 E_Misfit (hr.mono (by decide)) rfl (takes_of rfl rfl rfl rfl) rfl (pa_cons pe_str pa_nil))) pss_nil)
  (pss_cons (ps_setLc (i := 3) (own := [("mine", 4), ("its", 5)]) (g := (gTup K 2 (gCons (gName 4) (gCons (gName 5) gNil)))) (tt := tYes) rfl sc_Sheet__joined.nd rfl rfl (sw_true rfl rfl rfl (by decide +kernel)) (RZ.pi_zipA (by rfl) T.n_zip (pa_cons (pe_fld (pv 0) rfl) (pa_cons (pe_fld (pv 1) rfl) pa_nil))) (blkOk_by (N := nm_Sheet__joined) (sc := defScope st_Sheet__joined) (own := [("mine", 4), ("its", 5)]) (by decide +kernel)) (fun _ _ _ _ _ => by exact pg_tup rfl (pgs_cons (pg_name (i := 4) sc_Sheet__joined.nd rfl (Or.inl rfl)) (pgs_cons (pg_name (i := 5) sc_Sheet__joined.nd rfl (Or.inl rfl)) pgs_nil))) (fun _ _ _ _ _ => pts_nil) (fun _ _ _ _ _ => (show PE _ _ (tLst (StX.tStar K (tVar 4) (StX.tStar K (tVar 5) tNil))) from pe_lst (StX.pa_star (pv 4) (StX.pa_star (pv 5) pa_nil)))))
  (pss_one (ps_ret (pe_mkX C_Sheet (passes_call (takes_of rfl rfl rfl rfl) fun _ _ _ _ z => z) (hr.mono (by decide)) rfl (pa_cons (pe_lst (StX.pa_star (pe_fld (pv 0) rfl) (StX.pa_star (pe_fld (pv 1) rfl) pa_nil))) (pa_cons (pv 3) pa_nil))))))))), ?_⟩
    obtain ⟨x, y, names, css, names2, css2, rfl, sh, sh2, hc, hc2, hn, hn2, hr1, hr2, hdis, hpl, hok, q⟩ := h
    refine ⟨_, rfl, ns_good sh2 ?_⟩
    have shx := sh
    obtain ⟨dx, tl, tr, tp, tg, xr, ts, gs, hx, hL, hq1, hw, hp1, hp2, _⟩ := sh
    obtain ⟨dx2, tl2, tr2, tp2, tg2, xr2, ts2, gs2, hx2, hL2, hq2, hw2, hp3, hp4, _⟩ := sh2
    rw [places_nat] at hp2 hp4
    refine ⟨_, rfl, y, C, dx2, _, _, rfl, hx2, S.c, S.f1, rfl, tl2, rfl, ⟨_, tf_sq hL2⟩, ?_⟩
    refine for_it walk_tup (fun i σ H' => H' = H ∧ ∃ v, σ = [some (.ref x), some (.ref y), v, none, none, none]) ⟨rfl, none, rfl⟩ (fun i σ H' _ p => by rw [p.1]; exact tf_sq hL2) ?_ ?_
    · rintro i u σ H2 H3 hi ⟨rfl, v, rfl⟩ ⟨rfl, hu⟩
      obtain ⟨l, hil, rfl⟩ := tws_at hu
      refine ⟨_, rfl, _, rfl, x, C, dx, _, _, rfl, hx, S.c, S.f1, rfl, tl, tws names, rfl, .inr (tf_sq hL), rfl, ?_, _, rfl, ?_⟩
      · exact List.all_eq_true.mpr fun y hy => by
          obtain ⟨m, _, rfl⟩ := List.mem_map.mp hy
          rfl
      · rw [inV_tws, decide_eq_false (hdis l (List.mem_of_getElem? hil))]
        exact iteF ⟨rfl, _, rfl⟩
    · rintro σ H2 ⟨rfl, v, rfl⟩
      refine ⟨_, rfl, x, C, dx, _, _, rfl, hx, S.c, S.f3, rfl, _, rfl, y, C, dx2, _, _, rfl, hx2, S.c, S.f3, rfl, dP css, dP css2, .tup (SqT.of hp1) (dp_prs hp2), .tup (SqT.of hp3) (dp_prs hp4), shaped_dP _, shaped_dP _, ?_⟩
      have e : PyData.eqv (dP css) (dP css2) = true := by
        rw [eqv_dP]
        exact decide_eq_true hpl
      rw [e]
      refine ⟨_, rfl, iteF ?_⟩
      refine ⟨_, rfl, x, C, dx, _, _, rfl, hx, S.c, S.f2, rfl, _, rfl, y, C, dx2, _, _, rfl, hx2, S.c, S.f2, rfl, tr, tr2, _, _, rfl, .inr ⟨hq1, hq2, fun D hD => ?_⟩⟩
      have wz := walk_zT (K := K) (a := tr) (b := tr2) (xs := xr) (ys := xr2) (n := css.length) (by rw [hw.1, hw2.1]; omega)
      have hjl : (joinC css css2).length = css.length := by
        unfold joinC
        rw [List.length_zipWith]
        omega
      refine lc_it wz (fun i H' => Same H2 H' ∧ ∃ acc, H' D = some (.lst acc) ∧ Rws K H' acc ((joinC css css2).take i) ∧ ∀ y ∈ acc, y ≠ .ref D) ⟨Sm.new hD, [], upd_same, ⟨rfl, fun i x r e => by simp at e⟩, fun y h => absurd h List.not_mem_nil⟩ (fun i H' _ p => ⟨sm_t p.1 hq1, sm_t p.1 hq2⟩) ?_ ?_
      · rintro i v H4 H5 hi ⟨p3, acc, hacc, hR, hnD⟩ ⟨t, y1, y2, rfl, ht, rfl, hy1, hy2⟩
        have hci := List.getElem?_eq_getElem hi
        have hci2 := List.getElem?_eq_getElem (show i < css2.length by omega)
        obtain ⟨a1, rfl, ha1⟩ := hw.2 i y1 _ hy1 hci
        obtain ⟨a2, rfl, ha2⟩ := hw2.2 i y2 _ hy2 hci2
        have s5 : Same H2 (upd H4 t (.tup [.ref a1, .ref a2])) := p3.trans (Sm.new ht)
        have hl1 := hr1 _ (List.getElem_mem hi)
        have hl2 := hr2 _ (List.getElem_mem (show i < css2.length by omega))
        refine ⟨t, _, rfl, SqT.of upd_same, rfl, _, _, rfl, _, _, rfl, rfl, rfl, ?_⟩
        refine ⟨_, rfl, a1, _, rfl, .inl (sm_t s5 ha1), _, rfl, a2, _, rfl, .inl (sm_t s5 ha2), small_line (by rw [List.length_append, List.length_append, List.length_map, List.length_map]; show _ + (_ + 0) ≤ _; omega), fun D4 hD4 => ?_⟩
        have hacc5 := (Sm.new (o := .tup [.ref a1, .ref a2]) ht) _ _ hacc
        have hl3 : acc.length = i := by
          rw [hR.1, List.length_take]
          omega
        have np : D ≠ D4 := ne_of_none hacc5 hD4
        refine ⟨_, (upd_ne np).trans hacc5, ?_, Sm.put (s5.trans (Sm.new hD4)) hD, _, upd_same, ?_⟩
        · rw [hl3]
          exact Nat.lt_of_lt_of_le (show i < 100000 by omega) (by decide)
        · have e : (joinC css css2).take (i + 1) = (joinC css css2).take i ++ [css[i] ++ css2[i]] := by
            have h : (joinC css css2)[i]? = some (css[i] ++ css2[i]) := by
              unfold joinC
              rw [List.getElem?_zipWith, hci, hci2]
            rw [List.take_succ, h]
            rfl
          rw [e]
          have hr4 : SqLT K (upd (upd H4 t (.tup [.ref a1, .ref a2])) D4 (.lst (css[i].map cx ++ (css2[i].map cx ++ [])))) D4 ((css[i] ++ css2[i]).map cx) := .inl (SqL.of (by
            rw [upd_same, List.append_nil, List.map_append]))
          have hn' : ∀ y ∈ acc ++ [.ref D4], y ≠ .ref D := fun y hy => by
            rcases List.mem_append.mp hy with hy | hy
            · exact hnD y hy
            · rw [List.mem_singleton.mp hy]
              exact fun z => np (V.ref.inj z).symm
          exact ⟨rws_ne (rws_snoc (rws_same ((Sm.new ht).trans (Sm.new hD4)) hR) ⟨D4, rfl, hr4⟩) hn', hn'⟩
      · rintro H4 ⟨p3, acc, hacc, hR, hnD⟩
        rw [← hjl, List.take_length] at hR
        refine ⟨_, rfl, x, C, dx, _, _, rfl, p3 _ _ hx, S.c, S.f1, rfl, tl, _, rfl, .inl (sm_t p3 (tf_sq hL)), _, rfl, y, C, dx2, _, _, rfl, p3 _ _ hx2, S.c, S.f1, rfl, tl2, _, rfl, .inl (sm_t p3 (tf_sq hL2)), small_line (by rw [List.length_append, List.length_append, tws_len, tws_len]; show _ + (_ + 0) ≤ _; omega), fun D9 hD9 => ?_⟩
        have s9 : Same H4 (upd H4 D9 (.lst (tws names ++ (tws names2 ++ [])))) := Sm.new hD9
        refine ⟨_, rfl, make_good hok (.inl (SqL.of ?_)) (.inl (SqL.of (s9 _ _ hacc))) (rws_same s9 hR) fun H' z s4 nz sh4 => q H' z ((p3.trans s9).trans s4) (none_back (p3.trans s9) nz) sh4⟩
        rw [upd_same, List.append_nil]
        unfold tws
        rw [List.map_append]
end
end K6
namespace K8
open PySem PySem.Spec PyProof.Rows L2
/-- a def's scope with no cells of its own, which reads __class__ alone from outside -/
structure SScope (N P : List Str) (sc : Scope) : Prop where
  kind : sc.kind = .function
  co : sc.isCoroutine = false
  gen : sc.isGenerator = false
  nd : N.Nodup
  pre : N.take P.length = P
  par : ∀ x ∈ P, sc.names.lookup x = some .local
  nocell : ∀ y ∈ sc.names, y.2 ≠ .cell
  frees : ∀ y ∈ sc.names, y.2 = .free → y.1 = "__class__"
def cxS (CX : CXT) (P : Program) (w : World) (K : PySem.W.Frag) (mg : Str → Option Value) (base : Heap) (N : List Str) (qual : Str) (scope : Scope) (f : Addr) (cd : Value) (cc : Addr) (A : Around) (outer : List Env) (s : Shared) (H : Hp) (E : XK) : Cx where
  prog := P
  w := w
  K := K
  mg := mg
  base := base
  A := A.deeper (PySem.W.ksEnv qual scope s.heap.objs.size f cd cc)
  N := N
  s_0 := s
  H_0 := H
  env := PySem.W.ksEnv qual scope s.heap.objs.size f cd cc
  outer := outer
  stack := PySem.W.ksEnv qual scope s.heap.objs.size f cd cc :: outer
  ex := []
  calm := true
  fn := fun _ => false
  pn := []
  xe := fun e s' => wpAny (model P w) (A.deeper (PySem.W.ksEnv qual scope s.heap.objs.size f cd cc)) (leaving (PySem.W.ksEnv qual scope s.heap.objs.size f cd cc) e) (fun _ s'' => CX outer H s E e s'') (fun e' s'' => CX outer H s E e' s'') s'
theorem look_uniq {α : Type} {x : Str} {u : α} : ∀ {l : List (Str × α)}, (∀ v, (x, v) ∈ l → v = u) → (x, u) ∈ l → l.lookup x = some u
  | (y, v) :: r, nd, h => by
    by_cases n : x = y
    · subst n
      rw [List.lookup_cons, show (x == x) = true by simp, nd v List.mem_cons_self]
    · rw [List.lookup_cons, show (x == y) = false by simpa using n]
      refine look_uniq (fun w hw => nd w (List.mem_cons_of_mem _ hw)) ((List.mem_cons.mp h).resolve_left fun z => ?_)
      cases z
      exact n rfl
theorem nd_ix {ps : List Str} {i j : Nat} {y : Str} (nd : ps.Nodup) (h1 : ps[i]? = some y) (h2 : ps[j]? = some y) : i = j := by
  obtain ⟨a1, e1⟩ := List.getElem?_eq_some_iff.mp h1
  obtain ⟨a2, e2⟩ := List.getElem?_eq_some_iff.mp h2
  exact (List.getElem_inj nd).mp (e1.trans e2.symm)
theorem look_rev {ps : List Str} {us : List Value} {i : Nat} {y : Str} {u : Value} (nd : ps.Nodup) (hp : ps[i]? = some y) (hu : us[i]? = some u) : (ps.zip us).reverse.lookup y = some u := by
  have hz : (ps.zip us)[i]? = some (y, u) := by
    rw [List.getElem?_zip_eq_some]
    exact ⟨hp, hu⟩
  refine look_uniq (fun v hv => ?_) (List.mem_reverse.mpr (List.mem_of_getElem? hz))
  obtain ⟨j, hj, e⟩ := List.getElem_of_mem (List.mem_reverse.mp hv)
  have hz2 : (ps.zip us)[j]? = some (y, v) := by rw [List.getElem?_eq_getElem hj, e]
  rw [List.getElem?_zip_eq_some] at hz2
  have := nd_ix nd hp hz2.1
  subst this
  rw [hu] at hz2
  exact (Option.some.inj hz2.2).symm
section
variable {CX : CXT} {P : Program} {w : World} {K : PySem.W.Frag} {mg : Str → Option Value} {base : Heap} {N ps : List Str} {qual : Str} {scope : Scope} {f cc : Addr} {cd : Value} {A : Around} {outer : List Env} {s : Shared} {H : Hp} {E : XK} {us : List Value} {vs : List V} {h1 : Heap} {tk : Nat}
theorem cls_only {c : Addr} {y : Str} (h : (PySem.W.ksEnv qual scope s.heap.objs.size f cd cc).cells.lookup y = some c) : y = "__class__" ∧ c = cc := by
  have h : ([(("__class__" : Str), cc)] : List (Str × Addr)).lookup y = some c := h
  rw [List.lookup_cons] at h
  cases e : (y == ("__class__" : Str)) with
  | true =>
    rw [e] at h
    exact ⟨eq_of_beq e, (Option.some.inj h).symm⟩
  | false =>
    rw [e] at h
    cases h
theorem inv_startS (S : SScope N ps scope) (hd : A.handled = none) (e0 : Env0 P w K mg base A outer s H) (hl : vs.length = ps.length) (r : Vals vs us) {v0 : Option Value} (hcc : base.IsCell cc v0)
    (hns : h1.Ns s.heap.objs.size fun y => (ps.zip us).reverse.lookup y) (hk : ∀ b o, s.heap.get? b = some o → h1.get? b = some o) : Inv (cxS CX P w K mg base N qual scope f cd cc A outer s H E) [] (L2.start N vs) H { s with heap := h1, toks := tk } := by
  have hpl : ps.length ≤ N.length := by have := congrArg List.length S.pre; rw [List.length_take] at this; omega
  have noA : ∀ b : Addr, b ∉ (cxS CX P w K mg base N qual scope f cd cc A outer s H E).ex := fun b z => absurd (show b ∈ ([] : List Addr) from z) (by simp)
  obtain ⟨oc, hoc, hoc2⟩ := hcc
  have hcb := e0.bs cc oc hoc
  refine ⟨⟨e0.mod, S.kind, rfl, rfl, Nat.le_refl _, fun y z c h1 h2 => (cls_only h1).1.trans (cls_only h2).1.symm, fun y hy => ?_, fun y c h => absurd (show false = true from h) Bool.false_ne_true, fun _ => hd, Around.frames_deeper e0.frames, .inr ⟨rfl, rfl⟩, fun b z => absurd z (noA b), e0.bs, e0.bsz, fun b _ _ => noA b, fun b z => absurd z (noA b), e0.funs, e0.frf⟩,
    rfl, e0.bare, Un.kept hk, ⟨_, hns, fun i y v q1 q2 q3 => ?_⟩, fun y c h => ⟨v0, ?_⟩, e0.hok.fresh (Nat.le_refl _), fun y c h => ?_, fun p hp => absurd (show p ∈ ([] : List (Addr × Obj)) from hp) (by simp), e0.hok.kept hk, ?_⟩
  · have hy : scope.names.lookup y = some .cell ∨ scope.names.lookup y = some .free := hy
    rcases hy with hy | hy
    · exact absurd rfl (S.nocell _ (PySem.mem_of_lookup hy))
    · have := S.frees _ (PySem.mem_of_lookup hy) rfl
      dsimp only at this
      rw [this]
      exact ⟨cc, rfl⟩
  · have hi : i < vs.length := by
      unfold L2.start at q2
      by_cases hi : i < vs.length
      · exact hi
      · rw [List.getElem?_append_right (by simpa using hi)] at q2
        rw [List.getElem?_replicate] at q2
        split at q2 <;> cases q2
    have ha : vs[i]? = some v := by
      unfold L2.start at q2
      rw [List.getElem?_append_left (by simpa using hi), List.getElem?_map] at q2
      cases e : vs[i]? with
      | none => rw [e] at q2; cases q2
      | some a => rw [e] at q2; cases q2; rfl
    obtain ⟨u, hu, rv⟩ := r.get ha
    have hp : ps[i]? = some y := by
      rw [← S.pre, List.getElem?_take_of_lt (by omega)]; exact q1
    have ndP : ps.Nodup := by rw [← S.pre]; exact S.nd.sublist (List.take_sublist _ _)
    exact ⟨u, rv, .inl ⟨S.par y (List.mem_of_getElem? hp), look_rev ndP hp hu⟩⟩
  · rw [(cls_only h).2]
    exact ⟨oc, hk _ _ hcb.1, hoc2⟩
  · rw [(cls_only h).2]
    exact hcb.2
  · unfold L2.start
    show _ = N.length
    rw [List.length_append, List.length_map, List.length_replicate]
    omega
end
/-- what is known of a class C, its __class__ cell and its base's method g -/
structure SupC (P : Program) (K : PySem.W.Frag) (mg : Str → Option Value) (C cda g : Addr) (m : Str) : Prop where
  code : ∃ ccl cdd vs ccs file tf, K.lookup cda = some ⟨ccl, cdd, .fields vs, ccs⟩ ∧ vs[2]? = some (.str file tf) ∧ ((P.main.file : Str) == file) = true
  cls : ∃ cd, PySem.W.clsIn K C = some cd
  sub : PySem.W.mroIn K C (.ref C) = some true
  opq : PySem.W.nsIn K cStatics "thirdparty.any" = some none
  found : PySem.W.ks_superIn K C C m = some (some (.ref g))
  fn : PySem.W.typeIn K (.ref g) = some (.type "function")
  fi : PySem.W.fnIn K g = true
  sup : mg "super" = none
  top : (P.main.scope.names.lookup ("super" : Str)).isSome = false
section
variable {CX CX2 : CXT} {P : Program} {w : World} {K : PySem.W.Frag} {mg : Str → Option Value} {base : Heap} {k j : Nat} {C f cda cc g : Addr} {name qual m : Str} {params : Arguments} {rest : List Stmt} {scope : Scope} {dV kV doc pm ct oc : Value} {an od : Option Addr}
  {osl : Array (Option Value)} {N ps : List Str} {sp spB : Sp} {p0 p1 apos pos epos : Pos} {e1 : Expr} {es : List Expr} {ar : Arg}
theorem fn_super {pl : Sem Bool} (lk : K.lookup f = some ⟨oc, od, .func (PySem.W.ksFn name qual params (.Expr (.Call (.Attribute (.Call (.Name "super" p0) [] [] p1) m apos) (e1 :: es) [] pos) epos :: rest) scope dV kV doc pm an (.ref cda) ct cc), osl⟩)
    (hcd : PySem.W.codeIn K (.ref cda) qual = true) (S : SScope N ps scope) (U : SupC P K mg C cda g m) (hcc : base.IsCell cc (some (.ref C))) (hp : (params.posonlyargs ++ params.args).head? = some ar) (hps : ps.head? = some ar.arg)
    (hks : scope.names.lookup ("super" : Str) = some .globalImplicit) (hkc : scope.names.lookup ("__class__" : Str) = some .free) (hm : (m == ("__class__" : Str)) = false)
    (F : FnR P w K mg base CX2 j g spB) (hj : j ≤ k) (len : ∀ vs H Q E, sp vs H Q E → vs.length = ps.length)
    (hx : ∀ (A : Around) (outer : List Env) (s : Shared) (H : Hp) (E : XK), Passes CX2 (cxS CX P w K mg base N qual scope f (.ref cda) cc A outer s H E) E0)
    (hbody : ∀ (A : Around) (outer : List Env) (s : Shared) (H : Hp) (vs : List V) (Q : VK) (E : XK), Room k (A.deeper (PySem.W.ksEnv qual scope s.heap.objs.size f (.ref cda) cc)) → sp vs H Q E →
      ∃ ta t x dx, PA (cxS CX P w K mg base N qual scope f (.ref cda) cc A outer s H E) (e1 :: es) ta ∧ PSs (cxS CX P w K mg base N qual scope f (.ref cda) cc A outer s H E) rest t ∧ vs.head? = some (.ref x) ∧ H x = some (.ins C dx []) ∧
        ∀ q, H q = none → ta (L2.start N vs) (upd H q (.met g x)) fun us H2 => H2 q = some (.met g x) ∧ spB (.ref x :: us) H2 (fun _ H3 => t { nx := fun _ H' => Q .non H', rt := Q } (L2.start N vs) H3) E0)
    (hst : ∀ (s : Shared), starEach (e1 :: es) (PySem.W.ksEnv qual scope s.heap.objs.size f (.ref cda) cc) = (false, eval e1 (PySem.W.ksEnv qual scope s.heap.objs.size f (.ref cda) cc)) :: starEach es (PySem.W.ksEnv qual scope s.heap.objs.size f (.ref cda) cc) := by intros; rfl)
    (hi : ∀ (s : Shared), interactive (PySem.W.ksEnv qual scope s.heap.objs.size f (.ref cda) cc) = false := by intros; rfl)
    (hs : ∀ (s : Shared), swapsWith (.Call (.Attribute (.Call (.Name "super" p0) [] [] p1) m apos) (e1 :: es) [] pos) none epos.line (PySem.W.ksEnv qual scope s.heap.objs.size f (.ref cda) cc) = pure false := by intros; rfl)
    (hpl : ∀ (s : Shared), (backTo pos (starEach es (PySem.W.ksEnv qual scope s.heap.objs.size f (.ref cda) cc))).any (·.1) = false := by intros; rfl)
    (he : ∀ env : Env, eval (.Call (.Attribute (.Call (.Name "super" p0) [] [] p1) m apos) (e1 :: es) [] pos) env = (do
      let ov ← attributeBase (.Call (.Name "super" p0) [] [] p1) m env (eval (.Call (.Name "super" p0) [] [] p1) env)
      standAt apos.atName
      let (f, first) ← holding [ov] (getMethod ov m pl)
      callWith pos f first (backTo pos (starEach (e1 :: es) env)) []) := by intros; rfl) :
    FnOk P w K mg base CX (k + 1) f (PySem.W.ksFn name qual params (.Expr (.Call (.Attribute (.Call (.Name "super" p0) [] [] p1) m apos) (e1 :: es) [] pos) epos :: rest) scope dV kV doc pm an (.ref cda) ct cc) ps sp := by
  refine ⟨len, fun A outer s H args us vs Q E hr e0 hb r hsp => ?_⟩
  have hl := len _ _ _ _ hsp
  have KX : K.In s.heap := e0.mod.kin.keeps fun b o e => (e0.bs b o e).1
  have lim : s.heap.NoLimit := e0.mod.nolimit.keeps fun b o e => (e0.bs b o e).1
  refine ks_codeAny_call_defAt (binds := ps.zip us) hr.depth (KX _ _ lk) rfl lim (PySem.W.codeRec_of KX hcd) rfl hb S.nocell (fun y hy => S.par _ (List.of_mem_zip hy).1) (fun h1 hns hk => ?_) S.co S.gen S.kind
  obtain ⟨ta, t, x, dx, hta, ht, hv0, hHx, hq⟩ := hbody A outer s H vs Q E (hr.deeper _) hsp
  have I : Inv (cxS CX P w K mg base N qual scope f (.ref cda) cc A outer s H E) [] (L2.start N vs) H { s with heap := h1, toks := s.toks + (ps.zip us).length } := inv_startS S hr.hd e0 hl r hcc hns hk
  obtain ⟨ccl, cdd, vv, ccs, file, tf, lcode, hvs, hfile⟩ := U.code
  obtain ⟨cdat, hcls⟩ := U.cls
  have hsup := U.found
  unfold PySem.W.ks_superIn at hsup
  rw [hcls] at hsup
  have kin := I.kIn
  obtain ⟨oD, hD1, hD2⟩ : ∃ oD, h1.get? C = some oD ∧ oD.data = .cls cdat := by
    unfold PySem.W.clsIn at hcls
    split at hcls
    · rename_i c d cd' sl ho
      cases hcls
      exact ⟨_, kin _ _ ho, rfl⟩
    · cases hcls
  obtain ⟨of, hof, hofc⟩ : ∃ of, K.lookup g = some of ∧ of.cls = .type "function" := by
    have ht' : (K.lookup g).map (·.cls) = some (.type "function") := U.fn
    cases z : K.lookup g with
    | none => rw [z] at ht'; cases ht'
    | some of => rw [z] at ht'; exact ⟨of, rfl, Option.some.inj ht'⟩
  obtain ⟨u0, hu0, rx⟩ : ∃ u, us[0]? = some u ∧ u = .ref x := by
    cases r with
    | nil => cases hv0
    | cons a b =>
      obtain rfl := Option.some.inj hv0
      exact ⟨_, rfl, a⟩
  subst rx
  have hp0 : ps[0]? = some ar.arg := by
    cases ps with
    | nil => cases hps
    | cons a b => exact hps
  have ndP : ps.Nodup := by rw [← S.pre]; exact S.nd.sublist (List.take_sublist _ _)
  have hself := look_rev ndP hp0 hu0
  obtain ⟨mA, O, _, _, _, _⟩ := ins_get I.hok hHx
  obtain ⟨odx, J, _⟩ := O.look
  obtain ⟨mb, hb1, hb2⟩ := I.ok.mod.blt
  obtain ⟨occ, hocc, hocc2⟩ := hcc
  refine ks_wpAt_execs_cons ?_
  refine ks_wpAt_Expr_any ?_ (hi s) (hs s)
  refine ks_wpAt_MethodCall (pl := pl) ?_ (he _)
  refine ks_wpAt_super_base hks hkc hm rfl (kin _ _ lk) rfl hp rfl (kin _ _ lcode) rfl hvs hfile U.top ?_
  refine PySem.W.ks_loadName_global S.kind hks (Calls.loadGlobal_builtin (I.ok.mod.glob.keeps I.bk) U.sup (hb1.keeps I.bk) ((hb2 _ (by decide)).trans rfl) ⟨rfl, ?_⟩)
  refine wpAny_loadName_free S.kind hkc rfl ⟨occ, hk _ _ (e0.bs _ _ hocc).1, hocc2⟩ ?_
  refine wpAny_loadName_local S.kind (S.par _ (List.mem_of_getElem? hp0)) hns hself ?_
  refine ks_wpAny_isType_cls hD1 hD2 ⟨rfl, ?_⟩
  refine ks_wpAny_call_super hD1 hD2 J.at_ J.cls (fun c e => ?_) (PySem.W.looks_mroIn kin U.sub) (fun h2 e2 k2 => ?_)
  · have := J.no
    unfold PySem.W.notCls at this
    rw [e] at this
    exact Bool.noConfusion this
  have I2 := I.kept (t' := s.toks + (ps.zip us).length) k2
  have kin2 := I2.kIn
  refine ks_wpAny_getMethod_super e2 (PySem.W.looks_opaque kin2 U.opq) (l₀ := cdat.mro) (fun A Q E s k q => wpAny_bind ((PySem.W.looks_clsIn kin2 hcls) A _ E s k (wpAny_pure q))) rfl kin2 hsup (kin2 _ _ hof) hofc (PySem.W.ks_ne kin J hcls) hm ?_
  have hqn : H h2.objs.size = none := I2.hok.fresh (Nat.le_refl _)
  have I3 := I2.laid (t' := s.toks + (ps.zip us).length + 1) (a := h2.objs.size) (o := .met g x) (fun b u z => Heap.get?_push_of_some _ z) (Nat.le_refl _)
    (show (h2.push (PySem.W.methodObj (.ref g) (.ref x))).get? h2.objs.size = some (PySem.W.methodObj (.ref g) (.ref x)) from Heap.get?_push_size h2 rfl)
  have hq := hq _ hqn
  have hst := hst s
  show wpAny (model P w) (A.deeper (PySem.W.ksEnv qual scope s.heap.objs.size f (.ref cda) cc)) (callWith pos (.ref h2.objs.size) [] (backTo pos (starEach (e1 :: es) (PySem.W.ksEnv qual scope s.heap.objs.size f (.ref cda) cc))) []) _ _ _
  rw [hst]
  refine callwith_met (a := x) (X := cxS CX P w K mg base N qual scope f (.ref cda) cc A outer s H E) (by show ((false || (backTo pos (starEach es _)).any (·.1)) || false) = false; rw [hpl s]; rfl) U.fi (Calls.evalArgs_plain ?_)
  have run := hta.run pos [] _ _ _ _ I3 hq
  rw [show starEach (e1 :: es) (cxS CX P w K mg base N qual scope f (.ref cda) cc A outer s H E).env = _ from hst] at run
  refine wpAny_mono run (fun us' s3 hs3 => ?_) fun _ _ z => z
  obtain ⟨vs', H4, I4, r4, hmet, hsp4⟩ := hs3
  refine ⟨met_P I4 hmet, wpAny_call (PySem.W.method_call (met_P I4 hmet).1 ?_)⟩
  refine codeAny_mono (run_fnR (us := .ref x :: us') (vs := .ref x :: vs') F ((hr.deeper _).mono hj) (hx A outer s H E) I4 (.cons rfl r4) hsp4) fun r s5 hr5 => ?_
  cases r with
  | error e => exact hr5
  | ok fl =>
    cases fl with
    | next => exact hr5.elim
    | brk => exact hr5.elim
    | cont => exact hr5.elim
    | ret u5 =>
      obtain ⟨v5, H5, I5, _, ht5⟩ := hr5
      refine PySem.wpAt_of_wpAny (wpAny_mono (ht.run [] _ _ _ _ I5 ht5) (fun fl s' hs => ?_) fun e s' hs => hs)
      have fin : ∀ {σ' : L2.St} {H' : Hp} {v : V} {u : Value}, Inv (cxS CX P w K mg base N qual scope f (.ref cda) cc A outer s H E) [] σ' H' s' → RelV v u → Q v H' → CE outer P w H s Q u s' :=
        fun {σ' H' v u} J rv q => ⟨v, H', J.os, J.bare, J.base, J.hok, rv, q⟩
      cases fl with
      | ret u =>
        obtain ⟨v, σ', H', J, rv, q⟩ := hs
        exact fin J rv q
      | next =>
        obtain ⟨σ', H', J, q⟩ := hs
        exact fin (v := V.non) (u := Value.none) J rfl q
      | brk =>
        obtain ⟨_, _, _, q⟩ := hs
        exact False.elim q
      | cont =>
        obtain ⟨_, _, _, q⟩ := hs
        exact False.elim q
end
end K8
namespace K8
open PySem PySem.Spec PyProof.Rows L2
def gFld (K : PySem.W.Frag) (to : TE) (f : Str) : TG := fun v σ H Q => to σ H fun x H1 => ∃ a C dx fs, x = .ref a ∧ H1 a = some (.ins C dx fs) ∧ Cls K C ∧ NoAttr K C f ∧ fs.length < 1000 ∧ Q σ (upd H1 a (.ins C dx (putF f v fs)))
theorem pg_fld {X : Cx} {o : Expr} {f : Str} {pos : Pos} {to : TE} (ho : PE X o to) : PG X (.Attribute o f pos) (gFld X.K to f) := by
  refine ⟨fun pins s σ H v u Q I r h => ?_⟩
  rw [assign_Attribute]
  refine wpAny_bind (wpAny_holding (thn (ho.run pins s σ H _ I h) fun ov s1 ⟨x, H1, I1, r1, a, C, dx, fs, ex, ea, c, n, l, q⟩ => ?_))
  subst ex
  obtain rfl : ov = Value.ref a := r1
  refine wpAny_bind (wpAny_standAt (wpAny_bind (wpAny_holding ?_)))
  exact setattr_ok I1 ea c n l r fun s3 I3 => wpAny_release ⟨σ, _, I3, q⟩
end K8
namespace K6
open PySem PySem.Spec PyProof.Rows L2 K0 K4
def Atm (v : V) (d : PyData) : Prop := (∃ i, v = .int i ∧ d = .int i) ∨ ∃ z, v = .str z ∧ d = .str z
/-- lists and tuples of these, to some depth, told as tuples -/
def FxN (K : PySem.W.Frag) (H : Hp) : Nat → V → PyData → Prop
  | 0, v, d => Atm v d
  | n + 1, v, d => Atm v d ∨ ∃ a xs ds, v = .ref a ∧ d = .tuple ds ∧ SqLT K H a xs ∧ xs.length ≤ 1000 ∧ xs.length = ds.length ∧ ∀ (i : Nat) x e, xs[i]? = some x → ds[i]? = some e → FxN K H n x e
/-- tuples alone -/
def FTN (H : Hp) : Nat → V → PyData → Prop
  | 0, v, d => Atm v d
  | n + 1, v, d => Atm v d ∨ ∃ a xs ds, v = .ref a ∧ d = .tuple ds ∧ TupF H a xs ∧ xs.length = ds.length ∧ ∀ (i : Nat) x e, xs[i]? = some x → ds[i]? = some e → FTN H n x e
theorem fx_same {K : PySem.W.Frag} {H H' : Hp} (s : Same H H') : ∀ {n : Nat} {v : V} {d : PyData}, FxN K H n v d → FxN K H' n v d
  | 0, _, _, h => h
  | n + 1, _, _, .inl h => .inl h
  | n + 1, _, _, .inr ⟨a, xs, ds, e1, e2, hS, hl, hl2, h⟩ => .inr ⟨a, xs, ds, e1, e2, lt_same s hS, hl, hl2, fun i x e h1 h2 => fx_same s (h i x e h1 h2)⟩
theorem ft_same {H H' : Hp} (s : Same H H') : ∀ {n : Nat} {v : V} {d : PyData}, FTN H n v d → FTN H' n v d
  | 0, _, _, h => h
  | n + 1, _, _, .inl h => .inl h
  | n + 1, _, _, .inr ⟨a, xs, ds, e1, e2, hS, hl2, h⟩ => .inr ⟨a, xs, ds, e1, e2, tf_sm s hS, hl2, fun i x e h1 h2 => ft_same s (h i x e h1 h2)⟩
theorem tf_ne {H : Hp} {D t : Addr} {xs : List V} {o : HO} (h : ∀ ob, H D ≠ some (.frz ob (.tup xs))) (g : TupF H t xs) : TupF (upd H D o) t xs := by
  obtain ⟨ob, e, r⟩ := g
  exact ⟨ob, (upd_ne fun z => h ob (by rw [← z]; exact e)).trans e, r⟩
theorem ft_upd {H : Hp} {D : Addr} {acc : List V} {o : HO} (hD : H D = some (.lst acc)) : ∀ {n : Nat} {v : V} {d : PyData}, FTN H n v d → FTN (upd H D o) n v d
  | 0, _, _, h => h
  | n + 1, _, _, .inl h => .inl h
  | n + 1, _, _, .inr ⟨a, xs, ds, e1, e2, hS, hl2, h⟩ => .inr ⟨a, xs, ds, e1, e2, tf_ne (fun o z => by rw [hD] at z; cases z) hS, hl2, fun i x e h1 h2 => ft_upd hD (h i x e h1 h2)⟩
theorem ft_ins {H : Hp} {x : Addr} {C dx : Addr} {fs : List (Str × V)} {o : HO} (hD : H x = some (.ins C dx fs)) : ∀ {n : Nat} {v : V} {d : PyData}, FTN H n v d → FTN (upd H x o) n v d
  | 0, _, _, h => h
  | n + 1, _, _, .inl h => .inl h
  | n + 1, _, _, .inr ⟨a, xs, ds, e1, e2, hS, hl2, h⟩ => .inr ⟨a, xs, ds, e1, e2, tf_ne (fun o z => by rw [hD] at z; cases z) hS, hl2, fun i x e h1 h2 => ft_ins hD (h i x e h1 h2)⟩
theorem ft_atm {H : Hp} {v : V} {d : PyData} (h : Atm v d) : ∀ {n : Nat}, FTN H n v d
  | 0 => h
  | _ + 1 => .inl h
theorem atm_dp {K : PySem.W.Frag} {H : Hp} {v : V} {d : PyData} (h : Atm v d) : Dp K H v d := by
  rcases h with ⟨i, rfl, rfl⟩ | ⟨z, rfl, rfl⟩
  · exact .int _
  · exact .str _
theorem dpa_ix {K : PySem.W.Frag} {H : Hp} : ∀ {xs : List V} {ds : List PyData}, xs.length = ds.length → (∀ (i : Nat) x e, xs[i]? = some x → ds[i]? = some e → Dp K H x e) → DpAll K H xs ds
  | [], [], _, _ => .nil
  | [], _ :: _, h, _ => by cases h
  | _ :: _, [], h, _ => by cases h
  | x :: r, e :: q, h, k => .cons (k 0 x e rfl rfl) (dpa_ix (Nat.succ.inj h) fun i y z e1 e2 => k (i + 1) y z e1 e2)
theorem ft_dp {K : PySem.W.Frag} {H : Hp} : ∀ {n : Nat} {v : V} {d : PyData}, FTN H n v d → Dp K H v d
  | 0, _, _, h => atm_dp h
  | n + 1, _, _, .inl h => atm_dp h
  | n + 1, _, _, .inr ⟨a, xs, ds, e1, e2, hS, hl2, h⟩ => by
    subst e1 e2
    exact .tup (tf_sq hS) (dpa_ix hl2 fun i x e h1 h2 => ft_dp (h i x e h1 h2))
theorem kd_atm {K : PySem.W.Frag} {H : Hp} {v : V} {d : PyData} (h : Atm v d) : ∃ n, Kd K H v n ∧ (n == "list" || n == "tuple") = false := by
  rcases h with ⟨i, rfl, rfl⟩ | ⟨z, rfl, rfl⟩
  · exact ⟨"int", ⟨.base (.int _), by decide⟩, rfl⟩
  · exact ⟨"str", ⟨.base (.str _), by decide⟩, rfl⟩
section
variable {P : Program} {w : World} {K : PySem.W.Frag} {mg : Str → Option Value} {base : Heap}
abbrev st_fixed : Stmt := top 64
abbrev nm_fixed : List Str := ["value", "item"]
theorem sc_fixed : FnScope nm_fixed ["value"] (defScope st_fixed) := ⟨rfl, rfl, rfl, by decide +kernel, rfl, by decide +kernel, by decide +kernel⟩
def spFixed (K : PySem.W.Frag) (n : Nat) : Sp := fun vs H Q _ => ∃ v d, vs = [v] ∧ FxN K H n v d ∧ ∀ H' v', Same H H' → FTN H' n v' d → Q v' H'
def spF (K : PySem.W.Frag) : Nat → Sp
  | 0 => fun _ _ _ _ => False
  | n + 1 => spFixed K n
@[irreducible] def hF (K : PySem.W.Frag) (n : Nat) : Sp := spF K n
theorem hF_eq {K : PySem.W.Frag} {n : Nat} : hF K n = spF K n := by
  unfold hF
  rfl
theorem hf_use {n : Nat} {H : Hp} {Q : VK} {E : XK} {v : V} {d : PyData} (h : FxN K H n v d) (k : ∀ H' v', Same H H' → FTN H' n v' d → Q v' H') : hF K (n + 1) [v] H Q E := by
  rw [hF_eq]
  exact ⟨v, d, rfl, h, k⟩
theorem ok_fixed {f : Addr} {fd : FuncData} (F : Fun K "fixed" "fixed" st_fixed f fd) (T : Blt mg) {n : Nat} (C_fixed : Cal P w K mg base n "fixed" st_fixed ["value"] (spF K n)) : FnOk P w K mg base CX0 (n + 1) f fd ["value"] (spF K (n + 1)) := by
  have C_fixed := cal_to' C_fixed hF_eq
  refine F.ok sc_fixed (fun vs H Q E h => ?_) (fun cdv A outer s H vs Q E hr h => ?_)
  · obtain ⟨v, d, rfl, _⟩ := h
    rfl
  · refine ⟨_, (pss_cons (ps_if (pt_val (pe_callB call_isiT (by rfl) T.n_isinstance (by decide +kernel) (pa_cons (pv 0) (pa_cons (pe_tup (pa_cons (pe_bltn (v := .ty "list") (by rfl) T.n_list (by decide +kernel) rfl) (pa_cons (pe_bltn (v := .ty "tuple") (by rfl) T.n_tuple (by decide +kernel) rfl) pa_nil))) pa_nil)))) (pss_one (ps_ret (pe_callTy (call_tupF : CallR _ (.type "tuple") (rTupF K)) (by rfl) T.n_tuple (by decide +kernel) (pa_cons (pe_lc (own := [("item", 1)]) (g := (gName 1)) (tt := tYes) rfl sc_fixed.nd (pi_lt (pv 0)) (blkOk_by (N := nm_fixed) (sc := defScope st_fixed) (own := [("item", 1)]) (by decide +kernel)) (fun _ _ _ _ _ => by exact pg_name (i := 1) sc_fixed.nd rfl (Or.inl rfl)) (fun _ _ _ _ _ => pts_nil) (fun _ _ _ _ _ => (pe_cl C_fixed hr rfl (pa_cons (pv 1) pa_nil)))) pa_nil)))) pss_nil)
  (pss_one (ps_ret (pv 0)))), ?_⟩
    obtain ⟨v, d, rfl, hv, q⟩ := h
    have isi : ∀ (t : String), Kd K H v t → PySem.W.kitAny K (.type t) [.type "list", .type "tuple"] = some (t == "list" || t == "tuple") := fun t kd => by
      obtain ⟨_, _, _, k4, k5⟩ := kd_kit (K := K) kd.2
      refine kitAny_cons k4 (fun e => ?_) (fun e => by rw [e]; rfl)
      rw [e, Bool.false_or]
      exact kitAny_cons k5 (fun e2 => by rw [e2]; exact kitAny_nil) (fun e2 => e2)
    have hk : ∃ t, Kd K H v t ∧ (((t == "list" || t == "tuple") = false ∧ Atm v d) ∨ ((t == "list" || t == "tuple") = true ∧ ∃ m a xs ds, n = m + 1 ∧ v = .ref a ∧ d = .tuple ds ∧ SqLT K H a xs ∧ xs.length ≤ 1000 ∧ xs.length = ds.length ∧ ∀ (i : Nat) x e, xs[i]? = some x → ds[i]? = some e → FxN K H m x e)) := by
      have atm : Atm v d → ∃ t, Kd K H v t ∧ (((t == "list" || t == "tuple") = false ∧ Atm v d) ∨ ((t == "list" || t == "tuple") = true ∧ ∃ m a xs ds, n = m + 1 ∧ v = .ref a ∧ d = .tuple ds ∧ SqLT K H a xs ∧ xs.length ≤ 1000 ∧ xs.length = ds.length ∧ ∀ (i : Nat) x e, xs[i]? = some x → ds[i]? = some e → FxN K H m x e)) := fun ha => by
        obtain ⟨t, k1, k2⟩ := kd_atm (K := K) (H := H) ha
        exact ⟨t, k1, .inl ⟨k2, ha⟩⟩
      cases n with
      | zero => exact atm hv
      | succ m =>
        rcases hv with ha | ⟨a, xs, ds, e1, e2, hS, hl, hl2, hx⟩
        · exact atm ha
        · subst e1
          obtain ⟨t, k1, k2⟩ := kd_l hS
          exact ⟨t, k1, .inr ⟨k2, m, a, xs, ds, rfl, rfl, e2, hS, hl, hl2, hx⟩⟩
    obtain ⟨t, kd, hc⟩ := hk
    refine ⟨_, rfl, (by show 2 ≤ sizeLine; decide), fun p hp => ?_⟩
    refine ⟨v, p, _, _, _, (t == "list" || t == "tuple"), rfl, upd_same, .cons (.ty "list") (.cons (.ty "tuple") .nil), tyx_same (Sm.new hp) kd.1, isi t kd, ?_⟩
    have s0 : Same H (upd H p (.tup [.ty "list", .ty "tuple"])) := Sm.new hp
    rcases hc with ⟨hf, ha⟩ | ⟨ht, m, a, xs, ds, rfl, rfl, rfl, hS, hl, hl2, hx⟩
    · refine ⟨_, rfl, ?_⟩
      rw [hf]
      exact iteF ⟨_, rfl, q _ _ s0 (ft_atm ha)⟩
    · refine ⟨_, rfl, ?_⟩
      rw [ht]
      refine iteT ?_
      generalize upd H p (.tup [.ty "list", .ty "tuple"]) = H1 at s0 ⊢
      have inv0 : ∀ D, H1 D = none → ∃ acc, (upd H1 D (.lst [])) D = some (.lst acc) ∧ acc.length = 0 ∧ ∀ (j : Nat) y e, acc[j]? = some y → ds[j]? = some e → FTN (upd H1 D (.lst [])) m y e := fun D hD => ⟨[], upd_same, rfl, fun j y e h => by cases h⟩
      have turn : ∀ D, H1 D = none → ∀ i y H2, (Same H1 H2 ∧ ∃ acc, H2 D = some (.lst acc) ∧ acc.length = i ∧ ∀ (j : Nat) y e, acc[j]? = some y → ds[j]? = some e → FTN H2 m y e) → xs[i]? = some y → ∀ (Q' : VK) (E' : XK),
          (∀ H3 v', (∃ acc, H3 D = some (.lst acc) ∧ acc.length < sizeLine ∧ (Same H1 (upd H3 D (.lst (acc ++ [v']))) ∧ ∃ acc', (upd H3 D (.lst (acc ++ [v']))) D = some (.lst acc') ∧ acc'.length = i + 1 ∧ ∀ (j : Nat) y e, acc'[j]? = some y → ds[j]? = some e → FTN (upd H3 D (.lst (acc ++ [v']))) m y e)) → Q' v' H3) → hF K (m + 1) [y] H2 Q' E' := by
        rintro D hD i y H2 ⟨p1, acc, hacc, hal, hft⟩ hy Q' E' k
        have hi := (List.getElem?_eq_some_iff.mp hy).1
        have hdi := List.getElem?_eq_getElem (show i < ds.length by omega)
        refine hf_use (fx_same (s0.trans p1) (hx i y _ hy hdi)) fun H3 v' s3 hv' => k H3 v' ⟨acc, s3 _ _ hacc, ?_, Sm.put (p1.trans s3) hD, acc ++ [v'], upd_same, ?_, fun j z e hz he => ?_⟩
        · rw [hal]
          exact Nat.lt_of_lt_of_le (show i < 100000 by omega) (by decide)
        · rw [List.length_append, hal]
          rfl
        · rcases Nat.lt_or_ge j acc.length with g | g
          · rw [List.getElem?_append_left g] at hz
            exact ft_upd (s3 _ _ hacc) (ft_same s3 (hft j z e hz he))
          · rw [List.getElem?_append_right g] at hz
            have hj : j - acc.length = 0 := by
              have := (List.getElem?_eq_some_iff.mp hz).1
              simpa using this
            rw [hj] at hz
            obtain rfl := Option.some.inj hz
            have : j = i := by omega
            subst this
            rw [hdi] at he
            obtain rfl := Option.some.inj he
            exact ft_upd (s3 _ _ hacc) hv'
      have fin : ∀ D H2, (Same H1 H2 ∧ ∃ acc, H2 D = some (.lst acc) ∧ acc.length = xs.length ∧ ∀ (j : Nat) y e, acc[j]? = some y → ds[j]? = some e → FTN H2 m y e) → rTupF K [V.ref D] H2 Q := by
        rintro D H2 ⟨p1, acc, hacc, hal, hft⟩
        refine ⟨D, acc, rfl, SqL.of hacc, fun l o hl od oc => ?_⟩
        exact q _ _ ((s0.trans p1).trans (Sm.new hl)) (.inr ⟨l, acc, ds, rfl, rfl, ⟨o, upd_same, od, oc⟩, by omega, fun j y e h1 h2 => ft_same (Sm.new hl) (hft j y e h1 h2)⟩)
      rcases lt_same s0 hS with h | h
      · refine .inl ⟨_, rfl, a, rfl, ⟨_, h⟩, fun D hD => ?_⟩
        refine lc_it walk_list (fun i H' => Same H1 H' ∧ ∃ acc, H' D = some (.lst acc) ∧ acc.length = i ∧ ∀ (j : Nat) y e, acc[j]? = some y → ds[j]? = some e → FTN H' m y e) ⟨Sm.new hD, inv0 D hD⟩ (fun i H3 _ p => sm_l p.1 h) ?_ (fun H4 p => fin D H4 p)
        rintro i y H3 H4 hi p ⟨rfl, hy⟩
        exact ⟨rfl, _, rfl, turn D hD i y _ p hy _ _ fun H5 v' z => z⟩
      · refine .inr ⟨_, rfl, a, rfl, ⟨_, h⟩, fun D hD => ?_⟩
        refine lc_it walk_tup (fun i H' => Same H1 H' ∧ ∃ acc, H' D = some (.lst acc) ∧ acc.length = i ∧ ∀ (j : Nat) y e, acc[j]? = some y → ds[j]? = some e → FTN H' m y e) ⟨Sm.new hD, inv0 D hD⟩ (fun i H3 _ p => sm_t p.1 h) ?_ (fun H4 p => fin D H4 p)
        rintro i y H3 H4 hi p ⟨rfl, hy⟩
        exact ⟨rfl, _, rfl, turn D hD i y _ p hy _ _ fun H5 v' z => z⟩
end
end K6
namespace K6
open PySem PySem.Spec PyProof.Rows L2 K0 K4
section
variable {P : Program} {w : World} {K : PySem.W.Frag} {mg : Str → Option Value} {base : Heap}
variable {cs : Nat → Addr} {C : Addr}
abbrev st_Paper____init__ : Stmt := inClass (top 67) 0
abbrev nm_Paper____init__ : List Str := ["self", "kind", "parts"]
theorem sc_Paper____init__ : FnScope nm_Paper____init__ ["self", "kind", "parts"] (defScope st_Paper____init__) := ⟨rfl, rfl, rfl, by decide +kernel, rfl, by decide +kernel, by decide +kernel⟩
/-- a class whose instances have kind and parts -/
structure PapC (K : PySem.W.Frag) (C : Addr) : Prop where
  c : Cls K C
  f1 : NoAttr K C "kind"
  f2 : NoAttr K C "parts"
theorem fx_kx {x dx : Addr} {fs : List (Str × V)} {H H' : Hp} (hx : H x = some (.ins C dx fs)) (k : KX x H H') : ∀ {n : Nat} {v : V} {d : PyData}, FxN K H n v d → FxN K H' n v d
  | 0, _, _, h => h
  | n + 1, _, _, .inl h => .inl h
  | n + 1, _, _, .inr ⟨a, xs, ds, e1, e2, hS, hl, hl2, h⟩ => .inr ⟨a, xs, ds, e1, e2, hS.imp (sql_kx hx k) (sqt_kx hx k), hl, hl2, fun i x e h1 h2 => fx_kx hx k (h i x e h1 h2)⟩
def spPaperI (K : PySem.W.Frag) : Sp := fun vs H Q _ => ∃ x C dx k p d, vs = [.ref x, .str k, .ref p] ∧ PapC K C ∧ H x = some (.ins C dx []) ∧ FxN K H 3 (.ref p) d ∧
  ∀ H' v, H' x = some (.ins C dx [("kind", .str k), ("parts", v)]) → (∀ c o, c ≠ x → H c = some o → H' c = some o) → FTN H' 3 v d → Q .non H'
theorem ok_Paper_init {f : Addr} {fd : FuncData} (F : Fun K "__init__" "Paper.__init__" st_Paper____init__ f fd) (T : Blt mg) (C_fixed : Cal P w K mg base 4 "fixed" st_fixed ["value"] (spF K 4)) :
    FnR P w K mg base CX0 5 f (fun vs H Q E => ∃ ws rest, vs = ws ++ rest ∧ ws.length = ["self", "kind"].length ∧ rest.length ≤ sizeLine ∧ ∀ p, H p = none → spPaperI K (ws ++ [V.ref p]) (upd H p (.tup rest)) Q E) := by
  have C_fixed := cal_to' C_fixed hF_eq
  obtain ⟨oc, od, kV, doc, pm, an, cdv, ct, osl, rfl, lk, hcd⟩ := F.ex
  refine StX.fn_star (k := 4) (ps := ["self", "kind"]) (pv := "parts") lk hcd sc_Paper____init__ StX.cxUp_none (StX.bind_star2 (B := fun l => bindArgs (PySem.W.fnOf "__init__" "Paper.__init__" (defArgs st_Paper____init__) (defBody st_Paper____init__) (defScope st_Paper____init__) .none kV doc pm an cdv ct) ⟨l, []⟩) (p1 := "self") (p2 := "kind") (pv := "parts") (fun a b => rfl) (fun a b r rs => rfl)) fun A outer s H vs Q E hr h => ?_
  have key : ∃ t, PSs (cxOf CX0 P w K mg base nm_Paper____init__ "Paper.__init__" (defScope st_Paper____init__) f cdv A outer s H E).nox (defBody st_Paper____init__) t ∧ t { nx := fun _ H' => Q .non H', rt := Q } (L2.start nm_Paper____init__ vs) H := by
    refine ⟨_, (pss_cons (ps_fld (pv 0) (pv 1) rfl)
  (pss_one (ps_fld (pv 0) (pe_cl C_fixed (hr.mono (by decide)) rfl (pa_cons (pv 2) pa_nil)) rfl))), ?_⟩
    obtain ⟨x, C, dx, k, p, d, rfl, S, hx, hf, q⟩ := h
    refine ⟨_, rfl, _, rfl, x, C, dx, [], rfl, hx, S.c, S.f1, (by decide), ?_⟩
    have hx1 : (upd H x (.ins C dx (putF "kind" (.str k) []))) x = some (.ins C dx [("kind", .str k)]) := upd_same
    have hf1 := fx_kx hx (KX.put (o := .ins C dx (putF "kind" (.str k) []))) hf
    have k1 : KX x H (upd H x (.ins C dx (putF "kind" (.str k) []))) := KX.put
    generalize (upd H x (.ins C dx (putF "kind" (.str k) []))) = H1 at hx1 hf1 k1 ⊢
    refine ⟨_, rfl, hf_use hf1 fun H2 v s2 hv => ⟨_, rfl, x, C, dx, _, rfl, s2 _ _ hx1, S.c, S.f2, (by show 1 < 1000; decide), ?_⟩⟩
    have hx2 := s2 _ _ hx1
    exact q _ v upd_same ((k1.trans (KX.sm s2)).trans KX.put) (ft_ins hx2 hv)
  obtain ⟨t, h1, h2⟩ := key
  exact ⟨t, h1.nox, h2⟩
end
end K6
namespace K6
open PySem PySem.Spec PyProof.Rows L2 K0 K4
/-- a def that stands in a class and says super() -/
structure FunS (K : PySem.W.Frag) (x qual : Str) (st : Stmt) (f cda cc : Addr) (fd : FuncData) : Prop where
  ex : ∃ (oc : Value) (od : Option Addr) (kV doc pm : Value) (an : Option Addr) (ct : Value) (osl : Array (Option Value)),
    fd = PySem.W.ksFn x qual (defArgs st) (defBody st) (defScope st) .none kV doc pm an (.ref cda) ct cc ∧ K.lookup f = some ⟨oc, od, .func fd, osl⟩ ∧ PySem.W.codeIn K (.ref cda) qual = true
end K6
namespace K6
open PySem PySem.Spec PyProof.Rows L2 K0 K4
def dInts (l : List Nat) : PyData := .tuple (l.map fun n => .int (n : Nat))
def dCol (c : List Nat) : PyData := .tuple (c.map fun s => .str (Tx [s]))
section
variable {P : Program} {w : World} {K : PySem.W.Frag} {mg : Str → Option Value} {base : Heap}
variable {cs : Nat → Addr} {C Z : Addr}
theorem cols_wide {names : List (List Nat)} {ws : List (List (List Nat))} (h : ShOk names (whole ws)) : ∀ c ∈ cols ws, c.length = names.length := by
  have gen : ∀ i, i ≤ ws.length → ∀ c ∈ colsTo ws i, c.length = names.length := by
    intro i
    induction i with
    | zero => intro _ c hc; cases hc
    | succ i ih =>
      intro hi c hc
      have hw := List.getElem?_eq_getElem (show i < ws.length by omega)
      have hc : c ∈ colsTo ws i ++ rowCols (ws.getD i []) (widW (ws.getD i [])) := hc
      rcases List.mem_append.mp hc with hc | hc
      · exact ih (by omega) c hc
      · have eg : ws.getD i [] = ws[i] := by
          rw [List.getD_eq_getElem?_getD, hw]
          rfl
        rw [eg] at hc
        obtain ⟨j, _, rfl⟩ := List.mem_map.mp hc
        unfold colAt
        rw [List.length_map]
        have := h.rl (ws[i].map some) (List.mem_map.mpr ⟨_, List.mem_of_getElem? hw, rfl⟩)
        rwa [List.length_map] at this
  exact gen ws.length (Nat.le_refl _)
end
end K6
namespace K6
open PySem PySem.Spec PyProof.Rows L2 K0 K4
def RlAt (H : Hp) (p : Addr) (T : Nat) : Prop := ∃ w t m : Int, H p = some (.lst [.int w, .int t, .int m]) ∧ 0 ≤ t ∧ t ≤ T ∧ 0 ≤ m ∧ m < 2147483249 ∧ 0 ≤ w
theorem rl_kp {H H' : Hp} {p q : Addr} {T : Nat} (n : p ≠ q) (k : KX q H H') (h : RlAt H p T) : RlAt H' p T := by
  obtain ⟨w, t, m, e, r⟩ := h
  exact ⟨w, t, m, k _ _ n e, r⟩
theorem rl_sm {H H' : Hp} {p : Addr} {T : Nat} (s : Same H H') (h : RlAt H p T) : RlAt H' p T := by
  obtain ⟨w, t, m, e, r⟩ := h
  exact ⟨w, t, m, s _ _ e, r⟩
section
variable {P : Program} {w : World} {K : PySem.W.Frag} {mg : Str → Option Value} {base : Heap}
abbrev st_l_reel : Stmt := top 84
abbrev nm_l_reel : List Str := ["_law_script", "_law_whole", "_law_cell"]
theorem sc_l_reel : FnScope nm_l_reel ["_law_script"] (defScope st_l_reel) := ⟨rfl, rfl, rfl, by decide +kernel, rfl, by decide +kernel, by decide +kernel⟩
def spReel (K : PySem.W.Frag) : Sp := fun vs H Q _ => ∃ (a : Addr) (ns : List Int), vs = [.ref a] ∧ SqL K H a (ns.map V.int) ∧ ns.length ≤ 63 ∧ ∀ H' p, Same H H' → RlAt H' p 0 → H p = none → Q (.ref p) H'
theorem ok_reel {f : Addr} {fd : FuncData} (F : Fun K "_law_reel" "_law_reel" st_l_reel f fd) (T : Blt mg) : FnOk P w K mg base CX0 1 f fd ["_law_script"] (spReel K) := by
  refine F.ok sc_l_reel (fun vs H Q E h => ?_) (fun cdv A outer s H vs Q E hr h => ?_)
  · obtain ⟨a, ns, rfl, _⟩ := h
    rfl
  · refine ⟨_, (pss_cons (ps_set (i := 1) sc_l_reel.nd rfl (Or.inl rfl) pe_int)
  (pss_cons (ps_for PassesOwn.never rfl (pi_list (pe_slice sl_list (pv 0) po_none (po_some pe_int))) (pg_name (i := 2) sc_l_reel.nd rfl (Or.inl rfl)) (pss_one (ps_set (i := 1) sc_l_reel.nd rfl (Or.inl rfl) (pe_op op_add (pe_op op_mul (pv 1) pe_int) (pe_op op_mod (pe_op op_add (pe_op op_mul pe_int (pe_callB call_abs (by rfl) T.n_abs (by decide +kernel) (pa_cons (pe_callTy call_int1 (by rfl) T.n_int (by decide +kernel) (pa_cons (pv 2) pa_nil)) pa_nil))) (pe_callTy call_int1 (by rfl) T.n_int (by decide +kernel) (pa_cons (pe_cmpR op_lt (pv 2) pe_int (nomark _)) pa_nil))) (pe_op op_pow pe_int pe_int))))))
  (pss_one (ps_ret (pe_lst (pa_cons (pv 1) (pa_cons pe_int (pa_cons (pe_op op_mod (pv 1) pe_int) pa_nil)))))))), ?_⟩
    obtain ⟨a, ns, rfl, hS, hl, q⟩ := h
    have e0 : cutV (ns.map V.int) none (some 40) = (ns.take 40).map V.int := by
      unfold cutV
      rw [HT.sIx_none, show ((40 : Int)) = ((40 : Nat) : Int) from rfl, HT.sIx_nat, List.length_map, List.drop_zero, Nat.sub_zero, List.map_take]
      by_cases c : 40 ≤ ns.length
      · rw [Nat.min_eq_left c]
      · rw [Nat.min_eq_right (by omega), List.take_of_length_le (by simp), List.take_of_length_le (by rw [List.length_map]; omega)]
    refine ⟨_, rfl, _, rfl, a, _, rfl, hS, fun c hc => ?_⟩
    rw [e0]
    have s1 : Same H (upd H c (.lst ((ns.take 40).map V.int))) := Sm.new hc
    have hc1 : (upd H c (.lst ((ns.take 40).map V.int))) c = some (.lst ((ns.take 40).map V.int)) := upd_same
    generalize (upd H c (.lst ((ns.take 40).map V.int))) = H1 at s1 hc1 ⊢
    refine ⟨c, rfl, ⟨_, SqL.of hc1⟩, ?_⟩
    refine for_it walk_list (fun i σ H' => H' = H1 ∧ ∃ w : Int, 0 ≤ w ∧ ∃ v, σ = [some (.ref a), some (.int w), v]) ⟨rfl, 239, by decide, none, rfl⟩ (fun i σ H' _ p => by rw [p.1]; exact SqL.of hc1) ?_ ?_
    · rintro i x σ H2 H3 hi ⟨rfl, w, hw, v, rfl⟩ ⟨rfl, hx⟩
      obtain ⟨z, rfl⟩ : ∃ z, x = V.int z := by
        rw [List.getElem?_map] at hx
        cases e : (ns.take 40)[i]? with
        | none =>
          rw [e] at hx
          cases hx
        | some z =>
          rw [e] at hx
          exact ⟨z, (Option.some.inj hx).symm⟩
      refine ⟨_, rfl, _, _, rfl, rfl, .inr ⟨by decide, by decide⟩, _, rfl, .inl ⟨z, rfl, z, rfl, _, _, rfl, rfl, .inl ⟨by decide, by decide⟩, _, rfl, _, _, rfl, rfl, .inr ⟨_, rfl, _, _, rfl, rfl, _, _, rfl, rfl, ⟨by decide, by decide, by decide⟩, _, _, rfl, rfl, (by show (0 : Int) < 10 ^ (Int.toNat 40); decide), _, _, rfl, rfl, rfl, _, ?_, _, rfl⟩⟩⟩
      exact Int.add_nonneg (Int.mul_nonneg hw (by decide)) (Int.emod_nonneg _ (by decide))
    · rintro σ H2 ⟨rfl, w, hw, v, rfl⟩
      refine ⟨_, rfl, _, rfl, _, _, rfl, rfl, (by show (0 : Int) < 2147483249; decide), (by show 3 ≤ sizeLine; decide), fun p hp => ?_⟩
      exact q _ p (s1.trans (Sm.new hp)) ⟨w, 0, _, upd_same, by decide, by decide, Int.emod_nonneg _ (by decide), Int.emod_lt_of_pos _ (by decide), hw⟩ (none_back s1 hp)
abbrev st_l_spin : Stmt := top 85
abbrev nm_l_spin : List Str := ["_law_reel_here", "_law_many", "_law_rest"]
theorem sc_l_spin : FnScope nm_l_spin ["_law_reel_here", "_law_many"] (defScope st_l_spin) := ⟨rfl, rfl, rfl, by decide +kernel, rfl, by decide +kernel, by decide +kernel⟩
def spSpin (K : PySem.W.Frag) : Sp := fun vs H Q _ => ∃ (p : Addr) (many : Int) (T : Nat), vs = [.ref p, .int many] ∧ RlAt H p T ∧ T < 1000000 ∧ 1 ≤ many ∧ many ≤ 1000 ∧ ∀ H' v, KX p H H' → RlAt H' p (T + 1) → 0 ≤ v → v < many → Q (.int v) H'
theorem ok_spin {f : Addr} {fd : FuncData} (F : Fun K "_law_spin" "_law_spin" st_l_spin f fd) (T : Blt mg) : FnOk P w K mg base CX0 1 f fd ["_law_reel_here", "_law_many"] (spSpin K) := by
  refine F.ok sc_l_spin (fun vs H Q E h => ?_) (fun cdv A outer s H vs Q E hr h => ?_)
  · obtain ⟨p, many, T, rfl, _⟩ := h
    rfl
  · refine ⟨_, (pss_cons (ps_if (pt_cmpR op_eq (pe_ix ix_list (pv 0) pe_int (fun _ _ => rfl)) pe_int (nomark _)) (pss_cons (ps_asg (pe_op op_add (pe_ix ix_list (pv 0) pe_int (fun _ _ => rfl)) pe_int) (pg_sub (pv 0) pe_int set_list))
  (pss_one (ps_asg (pe_op op_pow (pe_op op_add (pe_op op_add (pe_ix ix_list (pv 0) pe_int (fun _ _ => rfl)) (pe_op op_mul pe_int (pe_ix ix_list (pv 0) pe_int (fun _ _ => rfl)))) pe_int) pe_int) (pg_sub (pv 0) pe_int set_list)))) pss_nil)
  (pss_cons (ps_set (i := 2) sc_l_spin.nd rfl (Or.inl rfl) (pe_ix ix_list (pv 0) pe_int (fun _ _ => rfl)))
  (pss_cons (ps_asg (pe_op op_fdiv (pv 2) (pv 1)) (pg_sub (pv 0) pe_int set_list))
  (pss_one (ps_ret (pe_op op_mod (pe_callTy call_int1 (by rfl) T.n_int (by decide +kernel) (pa_cons (pv 2) pa_nil)) (pv 1))))))), ?_⟩
    obtain ⟨p, many, T, rfl, ⟨w, t, m, hp, ht0, htT, hm0, hm1, hw⟩, hT, hn1, hn2, q⟩ := h
    have last : ∀ (w' t' : Int) H', H' p = some (.lst [.int w', .int t', .int m]) → KX p H H' → 0 ≤ w' → 0 ≤ t' → t' ≤ T + 1 → Q (.int (w' % many)) (upd H' p (.lst [.int (w' / many), .int t', .int m])) := fun w' t' H' e k h1 h2 h3 =>
      q _ _ (k.trans KX.put) ⟨w' / many, t', m, upd_same, h2, by omega, hm0, hm1, Int.ediv_nonneg h1 (by omega)⟩ (Int.emod_nonneg _ (by omega)) (Int.emod_lt_of_pos _ (by omega))
    have tail : ∀ (w' t' : Int) H', H' p = some (.lst [.int w', .int t', .int m]) → KX p H H' → 0 ≤ w' → 0 ≤ t' → t' ≤ T + 1 →
        (tSeq (tAsg (tOp (rIxL K) (tVar 0) (tC (V.int 0))) (gName 2)) (tSeq (tAsg (tOp (rI CDiv fun i j => V.int (i / j)) (tVar 2) (tVar 1)) (gSub (tVar 0) (tC (V.int 0)) rSetL)) (tRet (tOp (rI (fun x j => 0 < j) fun i j => V.int (i % j)) (tCB (fun xs H Q => (∃ i, xs = [V.int i] ∧ Q (V.int i) H) ∨ ∃ k, xs = [V.bl k] ∧ Q (V.int (if k = true then 1 else 0)) H) (tCons (tVar 2) tNil)) (tVar 1)))))
          { nx := fun _ H' => Q .non H', rt := Q } [some (.ref p), some (.int many), none] H' := fun w' t' H' e k h1 h2 h3 => by
      refine ⟨_, rfl, p, _, 0, .int w', rfl, rfl, SqL.of e, rfl, ?_⟩
      refine ⟨_, rfl, _, rfl, _, _, rfl, rfl, ⟨by omega, by omega⟩, _, rfl, p, _, 0, 0, rfl, rfl, e, rfl, ?_⟩
      exact ⟨_, rfl, .inl ⟨_, rfl, _, rfl, _, _, rfl, rfl, (by show 0 < many; omega), last w' t' H' e k h1 h2 h3⟩⟩
    refine ⟨_, rfl, p, _, 0, .int w, rfl, rfl, SqL.of hp, rfl, ?_⟩
    refine ⟨rfl, _, rfl, ?_⟩
    refine ite2 (fun c => ?_) (fun c => ?_)
    · refine ⟨_, rfl, p, _, 1, .int t, rfl, rfl, SqL.of hp, rfl, _, _, rfl, rfl, _, rfl, p, _, 1, 1, rfl, rfl, hp, rfl, ?_⟩
      have hp1 : (upd H p (.lst [.int w, .int (t + 1), .int m])) p = some (.lst [.int w, .int (t + 1), .int m]) := upd_same
      have k1 : KX p H (upd H p (.lst [.int w, .int (t + 1), .int m])) := KX.put
      have hb : (m + 1319 * (t + 1) + 4093).natAbs < 2 ^ 64 := by omega
      have hpos : 0 ≤ (m + 1319 * (t + 1) + 4093) ^ (Int.toNat 5) := Int.pow_nonneg (by omega)
      refine ⟨_, rfl, p, _, 2, .int m, rfl, rfl, SqL.of hp1, rfl, _, rfl, p, _, 1, .int (t + 1), rfl, rfl, SqL.of hp1, rfl, _, _, rfl, rfl, .inl ⟨by decide, by decide⟩, _, _, rfl, rfl, _, _, rfl, rfl, _, _, rfl, rfl, ⟨by decide, by decide, hb⟩, _, rfl, p, _, 0, 0, rfl, rfl, hp1, rfl, ?_⟩
      exact tail _ (t + 1) _ upd_same (k1.trans KX.put) hpos (by omega) (by omega)
    · exact tail w t H hp (fun _ _ _ e => e) hw ht0 (by omega)
end
end K6
namespace K6
open PySem PySem.Spec PyProof.Rows L2 K0 K4
theorem at_in {α : Type} {xs : List α} {i : Int} (h0 : 0 ≤ i) (h1 : i < xs.length) : ∃ v, v ∈ xs ∧ atI xs i = some v ∧ xs[i.toNat]? = some v := by
  have hlt : i.toNat < xs.length := by omega
  refine ⟨xs[i.toNat], List.getElem_mem hlt, ?_, List.getElem?_eq_getElem hlt⟩
  have q := atI_nat (xs := xs) (j := i.toNat) (v := xs[i.toNat]) (List.getElem?_eq_getElem hlt)
  rw [Int.toNat_of_nonneg h0] at q
  exact q
theorem sql_kp {K : PySem.W.Frag} {H H' : Hp} {a p : Addr} {xs : List V} (n : a ≠ p) (k : KX p H H') (h : SqL K H a xs) : SqL K H' a xs := by
  rcases h with (h | ⟨o, h⟩) | h
  · exact .inl (.inl (k _ _ n h))
  · exact .inl (.inr ⟨o, k _ _ n h⟩)
  · exact .inr h
section
variable {P : Program} {w : World} {K : PySem.W.Frag} {mg : Str → Option Value} {base : Heap}
abbrev CSpin (P : Program) (w : World) (K : PySem.W.Frag) (mg : Str → Option Value) (base : Heap) : Prop := Cal P w K mg base 1 "_law_spin" st_l_spin ["_law_reel_here", "_law_many"] (spSpin K)
abbrev st_l_pick : Stmt := top 86
abbrev nm_l_pick : List Str := ["_law_reel_here", "_law_some"]
theorem sc_l_pick : FnScope nm_l_pick ["_law_reel_here", "_law_some"] (defScope st_l_pick) := ⟨rfl, rfl, rfl, by decide +kernel, rfl, by decide +kernel, by decide +kernel⟩
def spPick (K : PySem.W.Frag) : Sp := fun vs H Q _ => ∃ (p : Addr) (s : V) (T : Nat), vs = [.ref p, s] ∧ RlAt H p T ∧ T < 1000000 ∧
  ((∃ a xs, s = .ref a ∧ SqL K H a xs ∧ a ≠ p ∧ 1 ≤ xs.length ∧ xs.length ≤ 1000 ∧ ∀ H' v, KX p H H' → RlAt H' p (T + 1) → v ∈ xs → Q v H') ∨
   ∃ l : List Nat, s = .str (Tx l) ∧ 1 ≤ l.length ∧ l.length ≤ 1000 ∧ ∀ H' c, KX p H H' → RlAt H' p (T + 1) → c ∈ l → Q (.str (Tx [c])) H')
theorem ok_pick {f : Addr} {fd : FuncData} (F : Fun K "_law_pick" "_law_pick" st_l_pick f fd) (T : Blt mg) (C__law_spin : CSpin P w K mg base) : FnOk P w K mg base CX0 2 f fd ["_law_reel_here", "_law_some"] (spPick K) := by
  refine F.ok sc_l_pick (fun vs H Q E h => ?_) (fun cdv A outer s H vs Q E hr h => ?_)
  · obtain ⟨p, a, T, rfl, _⟩ := h
    rfl
  · refine ⟨_, (pss_one (ps_ret (pe_ix ix_seq (pv 1) (pe_cl C__law_spin (hr.mono (by decide)) rfl (pa_cons (pv 0) (pa_cons (pe_callB call_len (by rfl) T.n_len (by decide +kernel) (pa_cons (pv 1) pa_nil)) pa_nil))) (fun _ _ => rfl)))), ?_⟩
    obtain ⟨p, s, T, rfl, hp, hT, ⟨a, xs, rfl, ha, hap, h1, h2, q⟩ | ⟨l, rfl, h1, h2, q⟩⟩ := h
    · refine ⟨_, rfl, _, rfl, _, rfl, _, _, rfl, .inl ⟨xs, ha, rfl⟩, p, xs.length, T, rfl, hp, hT, by omega, by omega, fun H' v kb hp' v0 v1 => ?_⟩
      obtain ⟨u, hu, hat, _⟩ := at_in v0 v1
      exact .inl ⟨a, xs, v, u, rfl, rfl, sql_kp hap kb ha, hat, q H' u kb hp' hu⟩
    · refine ⟨_, rfl, _, rfl, _, rfl, _, _, rfl, ⟨by rw [tx_len]; exact small_line (by omega), rfl⟩, p, l.length, T, (by rw [tx_len]; rfl), hp, hT, by omega, by omega, fun H' v kb hp' v0 v1 => ?_⟩
      obtain ⟨u, hu, hat, _⟩ := at_in v0 v1
      exact .inr (.inr ⟨_, v, u, rfl, rfl, by rw [tx_len]; exact small_line (by omega), by rw [tx_list]; exact hat, q H' u kb hp' hu⟩)
abbrev CPick (P : Program) (w : World) (K : PySem.W.Frag) (mg : Str → Option Value) (base : Heap) : Prop := Cal P w K mg base 2 "_law_pick" st_l_pick ["_law_reel_here", "_law_some"] (spPick K)
end
end K6
namespace K6
open PySem PySem.Spec PyProof.Rows L2 K0 K4
theorem rcut_from {xs : List V} (k : Nat) : cutV xs (some (k : Nat)) none = xs.drop k := by
  unfold cutV
  rw [HT.sIx_none, HT.sIx_nat]
  rcases Nat.lt_or_ge k xs.length with h | h
  · rw [Nat.min_eq_left (by omega), List.take_of_length_le (by rw [List.length_drop]; omega)]
  · rw [Nat.min_eq_right h, List.drop_of_length_le (by omega), List.drop_of_length_le h, List.take_nil]
theorem rcut_to {xs : List V} (k : Nat) : cutV xs none (some (k : Nat)) = xs.take k := by
  unfold cutV
  rw [HT.sIx_none, HT.sIx_nat, List.drop_zero, Nat.sub_zero]
  rcases Nat.lt_or_ge k xs.length with h | h
  · rw [Nat.min_eq_left (by omega)]
  · rw [Nat.min_eq_right h, List.take_of_length_le (Nat.le_refl _), List.take_of_length_le h]
theorem rcut_from' {xs : List V} {k : Int} (h : 0 ≤ k) : cutV xs (some k) none = xs.drop k.toNat := by
  obtain ⟨n, rfl⟩ := Int.eq_ofNat_of_zero_le h
  exact rcut_from n
theorem rcut_to' {xs : List V} {k : Int} (h : 0 ≤ k) : cutV xs none (some k) = xs.take k.toNat := by
  obtain ⟨n, rfl⟩ := Int.eq_ofNat_of_zero_le h
  exact rcut_to n
def nmA : List (List Nat) := [[111, 110, 101], [116, 119, 111], [111, 108, 100], [110, 101, 119], [102, 97, 114]]
def nmB : List (List Nat) := [[97], [98, 50], [99], [122, 122], [98, 49, 48]]
def nmC : List (List Nat) := [[120, 49, 48], [120, 57], [109], [113, 49], [97, 98, 99, 100, 101, 102, 103, 104, 105, 106, 107, 108]]
def rot (l : List (List Nat)) (b m : Nat) : List (List Nat) := (l.drop b ++ l.take b).take m
theorem rot_ok : ∀ l ∈ [nmA, nmB, nmC], ∀ b < 5, ∀ m < 5, (rot l b m).length = m ∧ (rot l b m).Nodup ∧ ∀ x ∈ rot l b m, nmOk x = true := by decide +kernel
def gapN : List Nat := [103, 97, 112, 112, 101, 100]
def furN : List Nat := [102, 117, 114, 116, 104, 101, 114]
theorem rot_new : ∀ l ∈ [nmA, nmB, nmC], ∀ b < 5, ∀ m < 5, gapN ∉ rot l b m ∧ furN ∉ rot l b m := by decide +kernel
theorem vA : [V.str "one", V.str "two", V.str "old", V.str "new", V.str "far"] = tws nmA := by rfl
theorem vB : [V.str "a", V.str "b2", V.str "c", V.str "zz", V.str "b10"] = tws nmB := by rfl
theorem vC : [V.str "x10", V.str "x9", V.str "m", V.str "q1", V.str "abcdefghijkl"] = tws nmC := by rfl
section
variable {P : Program} {w : World} {K : PySem.W.Frag} {mg : Str → Option Value} {base : Heap}
abbrev st_l_names : Stmt := top 87
abbrev nm_l_names : List Str := ["_law_reel_here", "_law_many", "_law_names_here", "_law_begin"]
theorem sc_l_names : FnScope nm_l_names ["_law_reel_here", "_law_many"] (defScope st_l_names) := ⟨rfl, rfl, rfl, by decide +kernel, rfl, by decide +kernel, by decide +kernel⟩
def spNames (K : PySem.W.Frag) : Sp := fun vs H Q _ => ∃ (p : Addr) (T many : Nat), vs = [.ref p, .int (many : Nat)] ∧ many ≤ 4 ∧ RlAt H p T ∧ T + 2 < 1000000 ∧
  ∀ H' a ns, KX p H H' → RlAt H' p (T + 2) → H a = none → H' a = some (.lst (tws ns)) → ns.length = many → ns.Nodup → (∀ x ∈ ns, nmOk x = true) → gapN ∉ ns → furN ∉ ns → Q (.ref a) H'
theorem ok_names {f : Addr} {fd : FuncData} (F : Fun K "_law_names" "_law_names" st_l_names f fd) (T : Blt mg) (C__law_spin : CSpin P w K mg base) (C__law_pick : CPick P w K mg base) : FnOk P w K mg base CX0 3 f fd ["_law_reel_here", "_law_many"] (spNames K) := by
  refine F.ok sc_l_names (fun vs H Q E h => ?_) (fun cdv A outer s H vs Q E hr h => ?_)
  · obtain ⟨p, T, many, rfl, _⟩ := h
    rfl
  · refine ⟨_, (pss_cons (ps_par (i := 2) (j := 3) rfl sc_l_names.nd rfl rfl (by decide) rfl rfl (pa_cons (pe_cl C__law_pick (hr.mono (by decide)) rfl (pa_cons (pv 0) (pa_cons (pe_lst (pa_cons (pe_lst (pa_cons pe_str (pa_cons pe_str (pa_cons pe_str (pa_cons pe_str (pa_cons pe_str pa_nil)))))) (pa_cons (pe_lst (pa_cons pe_str (pa_cons pe_str (pa_cons pe_str (pa_cons pe_str (pa_cons pe_str pa_nil)))))) (pa_cons (pe_lst (pa_cons pe_str (pa_cons pe_str (pa_cons pe_str (pa_cons pe_str (pa_cons pe_str pa_nil)))))) pa_nil)))) pa_nil))) (pa_cons (pe_cl C__law_spin (hr.mono (by decide)) rfl (pa_cons (pv 0) (pa_cons pe_int pa_nil))) pa_nil)) rfl)
  (pss_one (ps_ret (pe_slice sl_list (pe_op op_cat (pe_slice sl_list (pv 2) (po_some (pv 3)) po_none) (pe_slice sl_list (pv 2) po_none (po_some (pv 3)))) po_none (po_some (pv 1)))))), ?_⟩
    obtain ⟨p, T, many, rfl, hm4, hp, hT, q⟩ := h
    refine ⟨_, rfl, by show 5 ≤ sizeLine; decide, fun a1 h1 => ⟨by show 5 ≤ sizeLine; decide, fun a2 h2 => ⟨by show 5 ≤ sizeLine; decide, fun a3 h3 => ⟨by show 3 ≤ sizeLine; decide, fun a4 h4 => ?_⟩⟩⟩⟩
    rw [vA] at h2 h3 h4 ⊢
    rw [vB] at h3 h4 ⊢
    rw [vC] at h4 ⊢
    have s1 : Same H (upd H a1 (.lst (tws nmA))) := Sm.new h1
    have e1 : (upd H a1 (.lst (tws nmA))) a1 = some (.lst (tws nmA)) := upd_same
    generalize (upd H a1 (.lst (tws nmA))) = H1 at s1 e1 h2 h3 h4 ⊢
    have s2 : Same H1 (upd H1 a2 (.lst (tws nmB))) := Sm.new h2
    have e2 : (upd H1 a2 (.lst (tws nmB))) a2 = some (.lst (tws nmB)) := upd_same
    generalize (upd H1 a2 (.lst (tws nmB))) = H2 at s2 e2 h3 h4 ⊢
    have s3 : Same H2 (upd H2 a3 (.lst (tws nmC))) := Sm.new h3
    have e3 : (upd H2 a3 (.lst (tws nmC))) a3 = some (.lst (tws nmC)) := upd_same
    generalize (upd H2 a3 (.lst (tws nmC))) = H3 at s3 e3 h4 ⊢
    have s4 : Same H3 (upd H3 a4 (.lst [.ref a1, .ref a2, .ref a3])) := Sm.new h4
    have e4 : (upd H3 a4 (.lst [.ref a1, .ref a2, .ref a3])) a4 = some (.lst [.ref a1, .ref a2, .ref a3]) := upd_same
    generalize (upd H3 a4 (.lst [.ref a1, .ref a2, .ref a3])) = H4 at s4 e4 ⊢
    have sA := ((s1.trans s2).trans s3).trans s4
    obtain ⟨w, t, m, hpw, _⟩ := id hp
    have np : ∀ {G : Hp} {a : Addr}, Same H G → G a = none → a ≠ p := fun s g z => by
      rw [z, s _ _ hpw] at g
      cases g
    refine ⟨p, _, T, rfl, rl_sm sA hp, by omega, .inl ⟨a4, [.ref a1, .ref a2, .ref a3], rfl, SqL.of e4, np ((s1.trans s2).trans s3) h4, (by show 1 ≤ 3; decide), (by show 3 ≤ 1000; decide), fun H5 v k5 rl5 hv => ?_⟩⟩
    have hl : ∃ a l, v = .ref a ∧ l ∈ [nmA, nmB, nmC] ∧ H5 a = some (.lst (tws l)) ∧ a ≠ p := by
      simp only [List.mem_cons, List.not_mem_nil, or_false] at hv
      rcases hv with rfl | rfl | rfl
      · exact ⟨a1, nmA, rfl, by simp, k5 _ _ (np (Same.refl H) h1) (s4 _ _ (s3 _ _ (s2 _ _ e1))), np (Same.refl H) h1⟩
      · exact ⟨a2, nmB, rfl, by simp, k5 _ _ (np s1 h2) (s4 _ _ (s3 _ _ e2)), np s1 h2⟩
      · exact ⟨a3, nmC, rfl, by simp, k5 _ _ (np (s1.trans s2) h3) (s4 _ _ e3), np (s1.trans s2) h3⟩
    obtain ⟨a, l, rfl, hlm, e5, nap⟩ := hl
    refine ⟨_, rfl, p, 5, T + 1, rfl, rl5, by omega, by decide, by decide, fun H6 b k6 rl6 b0 b5 => ?_⟩
    have e6 := k6 _ _ nap e5
    have kk : KX p H H6 := ((KX.sm sA).trans k5).trans k6
    obtain ⟨hr4, hrn, hro⟩ := rot_ok l hlm b.toNat (by omega) many (by omega)
    have hnew := rot_new l hlm b.toNat (by omega) many (by omega)
    have ll : l.length = 5 := by
      simp only [List.mem_cons, List.not_mem_nil, or_false] at hlm
      rcases hlm with rfl | rfl | rfl <;> rfl
    refine ⟨_, _, rfl, _, rfl, _, rfl, b, rfl, a, _, rfl, SqL.of e6, fun c1 n1 => ?_⟩
    rw [rcut_from' b0]
    have f1 : Same H6 (upd H6 c1 (.lst ((tws l).drop b.toNat))) := Sm.new n1
    have g1 : (upd H6 c1 (.lst ((tws l).drop b.toNat))) c1 = some (.lst ((tws l).drop b.toNat)) := upd_same
    generalize (upd H6 c1 (.lst ((tws l).drop b.toNat))) = H7 at f1 g1 ⊢
    refine ⟨_, rfl, _, rfl, b, rfl, a, _, rfl, SqL.of (f1 _ _ e6), fun c2 n2 => ?_⟩
    rw [rcut_to' b0]
    have f2 : Same H7 (upd H7 c2 (.lst ((tws l).take b.toNat))) := Sm.new n2
    have g2 : (upd H7 c2 (.lst ((tws l).take b.toNat))) c2 = some (.lst ((tws l).take b.toNat)) := upd_same
    generalize (upd H7 c2 (.lst ((tws l).take b.toNat))) = H8 at f2 g2 ⊢
    refine ⟨c1, c2, _, _, rfl, rfl, f2 _ _ g1, g2, small_line (by rw [List.length_drop, List.length_take, tws_len]; omega), fun c3 n3 => ?_⟩
    have f3 : Same H8 (upd H8 c3 (.lst ((tws l).drop b.toNat ++ (tws l).take b.toNat))) := Sm.new n3
    have g3 : (upd H8 c3 (.lst ((tws l).drop b.toNat ++ (tws l).take b.toNat))) c3 = some (.lst ((tws l).drop b.toNat ++ (tws l).take b.toNat)) := upd_same
    generalize (upd H8 c3 (.lst ((tws l).drop b.toNat ++ (tws l).take b.toNat))) = H9 at f3 g3 ⊢
    refine ⟨_, rfl, (many : Nat), rfl, c3, _, rfl, SqL.of g3, fun c4 n4 => ?_⟩
    rw [rcut_to many]
    have fA := (f1.trans f2).trans f3
    have ke := kk.trans (KX.sm (fA.trans (Sm.new (o := .lst (((tws l).drop b.toNat ++ (tws l).take b.toNat).take many)) n4)))
    have n0 : H c4 = none := by
      cases z : H c4 with
      | none => rfl
      | some o =>
        have ncp : c4 ≠ p := fun e => by
          obtain ⟨w', t', m', e', _⟩ := id rl6
          rw [e, fA _ _ e'] at n4
          cases n4
        rw [fA _ _ (kk _ _ ncp z)] at n4
        cases n4
    refine q _ c4 (rot l b.toNat many) ke (rl_sm (fA.trans (Sm.new n4)) rl6) n0 ?_ hr4 hrn hro hnew.1 hnew.2
    rw [upd_same]
    unfold rot tws
    rw [List.map_take, List.map_append, List.map_drop, List.map_take]
end
end K6
namespace K6
open PySem PySem.Spec PyProof.Rows L2 K0 K4
def sgA : List (List Nat) := [[97, 98], [115, 122, 45], [97, 98, 99], [97, 45], [107, 103, 116, 45], [97, 98, 99, 100, 101, 102, 103, 104, 105, 106, 107, 108, 109, 110, 111, 112, 113, 114, 115, 116, 117, 118, 119, 120, 121, 122, 45]]
/-- signs of which the law's cells are made -/
def sgOk (l : List Nat) : Bool := decide (1 ≤ l.length) && decide (l.length ≤ 100) && l.all fun c => isaz c || decide (c = 45)
theorem sg_all : ∀ l ∈ sgA, sgOk l = true := by decide +kernel
theorem vS : [V.str "ab", V.str "sz-", V.str "abc", V.str "a-", V.str "kgt-", V.str "abcdefghijklmnopqrstuvwxyz-"] = tws sgA := by rfl
section
variable {P : Program} {w : World} {K : PySem.W.Frag} {mg : Str → Option Value} {base : Heap}
abbrev st_l_signs : Stmt := top 88
abbrev nm_l_signs : List Str := ["_law_reel_here"]
theorem sc_l_signs : FnScope nm_l_signs ["_law_reel_here"] (defScope st_l_signs) := ⟨rfl, rfl, rfl, by decide +kernel, rfl, by decide +kernel, by decide +kernel⟩
def spSigns (K : PySem.W.Frag) : Sp := fun vs H Q _ => ∃ (p : Addr) (T : Nat), vs = [.ref p] ∧ RlAt H p T ∧ T < 1000000 ∧ ∀ H' l, KX p H H' → RlAt H' p (T + 1) → sgOk l = true → Q (.str (Tx l)) H'
theorem ok_signs {f : Addr} {fd : FuncData} (F : Fun K "_law_signs" "_law_signs" st_l_signs f fd) (C__law_pick : CPick P w K mg base) : FnOk P w K mg base CX0 3 f fd ["_law_reel_here"] (spSigns K) := by
  refine F.ok sc_l_signs (fun vs H Q E h => ?_) (fun cdv A outer s H vs Q E hr h => ?_)
  · obtain ⟨p, T, rfl, _⟩ := h
    rfl
  · refine ⟨_, (pss_one (ps_ret (pe_cl C__law_pick (hr.mono (by decide)) rfl (pa_cons (pv 0) (pa_cons (pe_lst (pa_cons pe_str (pa_cons pe_str (pa_cons pe_str (pa_cons pe_str (pa_cons pe_str (pa_cons pe_str pa_nil))))))) pa_nil))))), ?_⟩
    obtain ⟨p, T, rfl, hp, hT, q⟩ := h
    refine ⟨_, rfl, by show 6 ≤ sizeLine; decide, fun a1 h1 => ?_⟩
    rw [vS]
    have s1 : Same H (upd H a1 (.lst (tws sgA))) := Sm.new h1
    have np : a1 ≠ p := fun z => by
      obtain ⟨w, t, m, hpw, _⟩ := id hp
      rw [z, hpw] at h1
      cases h1
    refine ⟨p, _, T, rfl, rl_sm s1 hp, hT, .inl ⟨a1, tws sgA, rfl, SqL.of upd_same, np, (by decide), (by decide), fun H5 v k5 rl5 hv => ?_⟩⟩
    obtain ⟨l, hl, rfl⟩ := List.mem_map.mp hv
    exact q H5 l ((KX.sm s1).trans k5) rl5 (sg_all l hl)
abbrev CSigns (P : Program) (w : World) (K : PySem.W.Frag) (mg : Str → Option Value) (base : Heap) : Prop := Cal P w K mg base 3 "_law_signs" st_l_signs ["_law_reel_here"] (spSigns K)
abbrev CNames (P : Program) (w : World) (K : PySem.W.Frag) (mg : Str → Option Value) (base : Heap) : Prop := Cal P w K mg base 3 "_law_names" st_l_names ["_law_reel_here", "_law_many"] (spNames K)
end
end K6
namespace K6
open PySem PySem.Spec PyProof.Rows L2 K0 K4
theorem tx_app2 (a b : List Nat) : Tx (a ++ b) = Tx a ++ Tx b := by
  show (⟨(a ++ b).toArray⟩ : Str) = ⟨a.toArray ++ b.toArray⟩
  rw [List.append_toArray]
theorem rl_mono {H : Hp} {p : Addr} {T T' : Nat} (h : RlAt H p T) (l : T ≤ T') : RlAt H p T' := by
  obtain ⟨w, t, m, e, h1, h2, h3⟩ := h
  exact ⟨w, t, m, e, h1, by omega, h3⟩
theorem tws_app1 (r : List (List Nat)) (c : List Nat) : tws (r ++ [c]) = tws r ++ [.str (Tx c)] := by
  unfold tws
  rw [List.map_append]
  rfl
/-- a list of lists of texts, away from p -/
def RowsL (H : Hp) (p : Addr) (xs : List V) (ws : List (List (List Nat))) : Prop := xs.length = ws.length ∧ ∀ (i : Nat) x r, xs[i]? = some x → ws[i]? = some r → ∃ b, x = .ref b ∧ H b = some (.lst (tws r)) ∧ b ≠ p
/-- cells of so many signs -/
def RowOk (many n : Nat) (r : List (List Nat)) : Prop := r.length = many ∧ ∀ l ∈ r, l.length = n ∧ ∀ c ∈ l, (isaz c || decide (c = 45)) = true
def RowsOk (many : Nat) (sh : List Nat) (ws : List (List (List Nat))) : Prop := ws.length = sh.length ∧ ∀ (i : Nat) n r, sh[i]? = some n → ws[i]? = some r → RowOk many n r
theorem rowsL_kp {H H' : Hp} {p : Addr} {xs : List V} {ws : List (List (List Nat))} (k : KX p H H') (h : RowsL H p xs ws) : RowsL H' p xs ws := ⟨h.1, fun i x r e1 e2 => by
  obtain ⟨b, e, hb, n⟩ := h.2 i x r e1 e2
  exact ⟨b, e, k _ _ n hb, n⟩⟩
theorem rowsL_new {H : Hp} {p D : Addr} {o : HO} {xs : List V} {ws : List (List (List Nat))} (n : ∀ x ∈ xs, x ≠ .ref D) (h : RowsL H p xs ws) : RowsL (upd H D o) p xs ws := ⟨h.1, fun i x r e1 e2 => by
  obtain ⟨b, e, hb, nb⟩ := h.2 i x r e1 e2
  exact ⟨b, e, (upd_ne (fun z => n x (List.mem_of_getElem? e1) (by rw [e, z]))).trans hb, nb⟩⟩
theorem rowsL_snoc {H : Hp} {p b : Addr} {xs : List V} {ws : List (List (List Nat))} {r : List (List Nat)} (h : RowsL H p xs ws) (hb : H b = some (.lst (tws r))) (nb : b ≠ p) : RowsL H p (xs ++ [.ref b]) (ws ++ [r]) :=
  ⟨by rw [List.length_append, List.length_append, h.1]; rfl, fun i x q e1 e2 => by
    rcases Nat.lt_or_ge i xs.length with g | g
    · rw [List.getElem?_append_left g] at e1
      rw [List.getElem?_append_left (by rw [← h.1]; exact g)] at e2
      exact h.2 i x q e1 e2
    · rw [List.getElem?_append_right g] at e1
      rw [List.getElem?_append_right (by rw [← h.1]; exact g), ← h.1] at e2
      cases z : i - xs.length with
      | zero =>
        rw [z] at e1 e2
        cases e1
        cases e2
        exact ⟨b, rfl, hb, nb⟩
      | succ k =>
        rw [z] at e1
        cases e1⟩
theorem rowsOk_snoc {many n : Nat} {sh : List Nat} {ws : List (List (List Nat))} {r : List (List Nat)} (h : RowsOk many sh ws) (hr : RowOk many n r) : RowsOk many (sh ++ [n]) (ws ++ [r]) :=
  ⟨by rw [List.length_append, List.length_append, h.1]; rfl, fun i x q e1 e2 => by
    rcases Nat.lt_or_ge i sh.length with g | g
    · rw [List.getElem?_append_left g] at e1
      rw [List.getElem?_append_left (by rw [h.1]; exact g)] at e2
      exact h.2 i x q e1 e2
    · rw [List.getElem?_append_right g] at e1
      rw [List.getElem?_append_right (by rw [h.1]; exact g), h.1] at e2
      cases z : i - sh.length with
      | zero =>
        rw [z] at e1 e2
        cases e1
        cases e2
        exact hr
      | succ k =>
        rw [z] at e1
        cases e1⟩
theorem at_last {α : Type} (xs : List α) (x : α) : atI (xs ++ [x]) (-1) = some x := by
  have hl : (xs ++ [x]).length = xs.length + 1 := by rw [List.length_append]; rfl
  unfold atI ixN
  rw [if_neg (by decide), if_pos (by omega), hl]
  show (xs ++ [x])[((-1 : Int) + ((xs.length + 1 : Nat) : Int)).toNat]? = some x
  rw [show ((-1 : Int) + ((xs.length + 1 : Nat) : Int)).toNat = xs.length by omega, List.getElem?_concat_length]
def dLL (ws : List (List (List Nat))) : PyData := .list (ws.map fun r => .list (r.map fun l => .str (Tx l)))
theorem sh_dLL {ws : List (List (List Nat))} (h : ∀ r ∈ ws, ∀ l ∈ r, ∀ c ∈ l, c < 1114112) : SeqAt.shaped (dLL ws) = true := by
  refine shaped_of ?_ ?_
  · unfold dLL PyData.canLay0
    refine lay_all fun r hr => ?_
    unfold PyData.canLay0
    exact lay_all fun l hl => str_low (h r hr l hl)
  · unfold dLL PyData.depth
    have := depth_all (b := 2) (d := fun r : List (List Nat) => PyData.list (r.map fun l => .str (Tx l))) (xs := ws) fun r _ => by
      unfold PyData.depth
      have := depth_all (b := 1) (d := fun l : List Nat => PyData.str (Tx l)) (xs := r) fun l _ => by
        unfold PyData.depth
        omega
      omega
    omega
theorem eqv_dLL0 (ws : List (List (List Nat))) : PyData.eqv (dLL ws) (.list []) = decide (ws = []) := by
  unfold dLL
  rw [PyData.eqv]
  cases ws with
  | nil => rfl
  | cons a b => rfl
section
variable {P : Program} {w : World} {K : PySem.W.Frag} {mg : Str → Option Value} {base : Heap}
abbrev st_l_rows : Stmt := top 89
abbrev nm_l_rows : List Str := ["_law_reel_here", "_law_many", "_law_shape", "_law_signs_here", "_law_rows_here", "_law_places", "_law_cells", "_law_turn", "_law_cell", "_law_at"]
theorem sc_l_rows : FnScope nm_l_rows ["_law_reel_here", "_law_many", "_law_shape", "_law_signs_here"] (defScope st_l_rows) := ⟨rfl, rfl, rfl, by decide +kernel, rfl, by decide +kernel, by decide +kernel⟩
def spRows (K : PySem.W.Frag) : Sp := fun vs H Q _ => ∃ (p sh : Addr) (many T : Nat) (shape : List Nat) (l : List Nat), vs = [.ref p, .int (many : Nat), .ref sh, .str (Tx l)] ∧ RlAt H p T ∧ T + 100 < 1000000 ∧ SqL K H sh (shape.map fun n => V.int (n : Nat)) ∧ sh ≠ p ∧
  1 ≤ many ∧ many ≤ 4 ∧ shape.length ≤ 4 ∧ (∀ n ∈ shape, 1 ≤ n ∧ n ≤ 3) ∧ sgOk l = true ∧
  ∀ H' a xs ws, KX p H H' → RlAt H' p (T + 100) → H a = none → H' a = some (.lst xs) → a ≠ p → RowsL H' p xs ws → RowsOk many shape ws → Q (.ref a) H'
theorem ok_rows {f : Addr} {fd : FuncData} (F : Fun K "_law_rows" "_law_rows" st_l_rows f fd) (T : Blt mg) (C__law_spin : CSpin P w K mg base) (C__law_pick : CPick P w K mg base) : FnOk P w K mg base CX0 3 f fd ["_law_reel_here", "_law_many", "_law_shape", "_law_signs_here"] (spRows K) := by
  refine F.ok sc_l_rows (fun vs H Q E h => ?_) (fun cdv A outer s H vs Q E hr h => ?_)
  · obtain ⟨p, sh, many, T, shape, l, rfl, _⟩ := h
    rfl
  · refine ⟨_, (pss_cons (ps_set (i := 4) sc_l_rows.nd rfl (Or.inl rfl) (pe_lst pa_nil))
  (pss_cons (ps_for PassesOwn.never rfl (pi_list (pv 2)) (pg_name (i := 5) sc_l_rows.nd rfl (Or.inl rfl)) (pss_cons (ps_set (i := 6) sc_l_rows.nd rfl (Or.inl rfl) (pe_lst pa_nil))
  (pss_cons (ps_for PassesOwn.never rfl (pi_range1 rfl T.n_range (pa_cons (pv 1) pa_nil)) (pg_name (i := 7) sc_l_rows.nd rfl (Or.inl rfl)) (pss_cons (ps_set (i := 8) sc_l_rows.nd rfl (Or.inl rfl) pe_str)
  (pss_cons (ps_for PassesOwn.never rfl (pi_range1 rfl T.n_range (pa_cons (pv 5) pa_nil)) (pg_name (i := 9) sc_l_rows.nd rfl (Or.inl rfl)) (pss_one (ps_set (i := 8) sc_l_rows.nd rfl (Or.inl rfl) (pe_op op_add_str (pv 8) (pe_cl C__law_pick (hr.mono (by decide)) rfl (pa_cons (pv 0) (pa_cons (pv 3) pa_nil)))))))
  (pss_one (ps_expr (pe_bm PySem.F.plainAttrs_list PySem.F.slot_list_append PySem.F.type_list_append mt_append (pv 6) (pa_cons (pv 8) pa_nil)))))))
  (pss_cons (ps_if (PW.pt (pw_and (pt_cmpR (op_neD hr.units) (pv 4) (pe_lst pa_nil) (nomark _)) (pw_and (pt_cmpR op_eq (pe_callB call_len_str (by rfl) T.n_len (by decide +kernel) (pa_cons (pe_ix ix_list (pe_ix ix_list (pv 4) (pe_un un_neg pe_int) (fun _ _ => rfl)) pe_int (fun _ _ => rfl)) pa_nil)) (pv 5) (nomark _)) (pw_and1 (pt_cmpR op_eq (pe_cl C__law_spin (hr.mono (by decide)) rfl (pa_cons (pv 0) (pa_cons pe_int pa_nil))) pe_int (nomark _)))))) (pss_one (ps_set (i := 6) sc_l_rows.nd rfl (Or.inl rfl) (pe_op op_cat (pe_lst (pa_cons (pe_ix ix_list (pv 6) pe_int (fun _ _ => rfl)) pa_nil)) (pe_slice sl_list (pe_ix ix_list (pv 4) (pe_un un_neg pe_int) (fun _ _ => rfl)) (po_some pe_int) po_none)))) pss_nil)
  (pss_one (ps_expr (pe_bm PySem.F.plainAttrs_list PySem.F.slot_list_append PySem.F.type_list_append mt_append (pv 4) (pa_cons (pv 6) pa_nil))))))))
  (pss_one (ps_ret (pv 4))))), ?_⟩
    obtain ⟨p, sh, many, T, shape, l, rfl, hp, hT, hS, nsp, m1, m2, l4, h13, hsg, q⟩ := h
    have npn : ∀ {G : Hp} {a : Addr} {T'}, RlAt G p T' → G a = none → a ≠ p := fun h g z => by
      obtain ⟨w, t, m, hpw, _⟩ := h
      rw [z, hpw] at g
      cases g
    refine ⟨Nat.zero_le _, fun R hR => ?_⟩
    have nRp := npn hp hR
    have s1 : Same H (upd H R (.lst [])) := Sm.new hR
    have e1 : (upd H R (.lst [])) R = some (.lst []) := upd_same
    generalize (upd H R (.lst [])) = H1 at s1 e1 ⊢
    refine ⟨_, rfl, sh, rfl, ⟨_, sm_l s1 hS⟩, ?_⟩
    refine for_it walk_list (fun i σ H' => (∃ v5 v6 v7 v8 v9, σ = [some (.ref p), some (.int (many : Nat)), some (.ref sh), some (.str (Tx l)), some (.ref R), v5, v6, v7, v8, v9]) ∧ KX p H H' ∧ RlAt H' p (T + 13 * i) ∧ ∃ xs ws, H' R = some (.lst xs) ∧ (∀ x ∈ xs, x ≠ .ref R) ∧ RowsL H' p xs ws ∧ RowsOk many (shape.take i) ws) ⟨⟨none, none, none, none, none, rfl⟩, KX.sm s1, rl_sm s1 hp, [], [], e1, fun x h => absurd h List.not_mem_nil, ⟨rfl, fun i x r h => by cases h⟩, ⟨rfl, fun i x r h => by simp at h⟩⟩ (fun i σ H' _ p => sql_kp nsp p.2.1 hS) ?_ ?_
    · rintro i y σ H2 H3 hi ⟨⟨v5, v6, v7, v8, v9, rfl⟩, k2, rl2, xs, ws, hxs, hxR, hRL, hRO⟩ ⟨rfl, hy⟩
      have hil : i < shape.length := by
        rw [List.length_map] at hi
        exact hi
      have hni := List.getElem?_eq_getElem hil
      rw [List.getElem?_map, hni] at hy
      obtain rfl := Option.some.inj hy
      obtain ⟨n1, n3⟩ := h13 _ (List.getElem_mem hil)
      generalize hn : shape[i] = n at hni n1 n3 ⊢
      refine ⟨Nat.zero_le _, fun D hD => ?_⟩
      have nDp := npn rl2 hD
      have nDR : D ≠ R := fun z => by
        rw [z, hxs] at hD
        cases hD
      have nxD : ∀ x ∈ xs, x ≠ .ref D := fun x hx z => by
        obtain ⟨i', hi', e'⟩ := List.getElem_of_mem hx
        obtain ⟨b, eb, hb, _⟩ := hRL.2 i' x _ (by rw [List.getElem?_eq_getElem hi', e']) (List.getElem?_eq_getElem (by rw [← hRL.1]; exact hi'))
        rw [z] at eb
        cases eb
        rw [hD] at hb
        cases hb
      have hD0 : H D = none := by
        cases z : H D with
        | none => rfl
        | some o =>
          rw [k2 _ _ nDp z] at hD
          cases hD
      have kxD : ∀ {G : Hp} {o : HO}, KX p H G → KX p H (upd G D o) := fun k c o nc e => by
        rw [upd_ne (ne_of_none e hD0)]
        exact k c o nc e
      have s3 : Same H3 (upd H3 D (.lst [])) := Sm.new hD
      have eD : (upd H3 D (.lst [])) D = some (.lst (tws [])) := upd_same
      have rl3 := rl_sm s3 rl2
      have hxs3 := s3 _ _ hxs
      have hRL3 : RowsL (upd H3 D (.lst [])) p xs ws := rowsL_kp (KX.sm s3) hRL
      have k3 : KX p H (upd H3 D (.lst [])) := k2.trans (KX.sm s3)
      generalize (upd H3 D (.lst [])) = H4 at eD rl3 hxs3 hRL3 k3 ⊢
      refine ⟨_, rfl, (many : Nat), rfl, by omega, by omega, ?_⟩
      refine for_it walk_range (fun j σ H' => (∃ v7 v8 v9, σ = [some (.ref p), some (.int (many : Nat)), some (.ref sh), some (.str (Tx l)), some (.ref R), some (.int (n : Nat)), some (.ref D), v7, v8, v9]) ∧ KX p H H' ∧ RlAt H' p (T + 13 * i + 3 * j) ∧ H' R = some (.lst xs) ∧ RowsL H' p xs ws ∧ ∃ r, H' D = some (.lst (tws r)) ∧ RowOk j n r) ⟨⟨v7, v8, v9, rfl⟩, k3, rl3, hxs3, hRL3, [], eD, rfl, fun l h => absurd h List.not_mem_nil⟩ (fun _ _ _ _ _ => trivial) ?_ ?_
      · rintro j y σ H5 H6 hj ⟨⟨v7, v8, v9, rfl⟩, k5, rl5, hxs5, hRL5, r, hr5, hro⟩ ⟨rfl, rfl⟩
        refine ⟨_, rfl, (n : Nat), rfl, by omega, by omega, ?_⟩
        refine for_it walk_range (fun k σ H' => (∃ v9 c, σ = [some (.ref p), some (.int (many : Nat)), some (.ref sh), some (.str (Tx l)), some (.ref R), some (.int (n : Nat)), some (.ref D), some (.int (0 + (j : Nat))), some (.str (Tx c)), v9] ∧ c.length = k ∧ ∀ d ∈ c, (isaz d || decide (d = 45)) = true) ∧ KX p H6 H' ∧ RlAt H' p (T + 13 * i + 3 * j + k)) ⟨⟨v9, [], rfl, rfl, fun d h => absurd h List.not_mem_nil⟩, fun _ _ _ e => e, rl5⟩ (fun _ _ _ _ _ => trivial) ?_ ?_
        · rintro k y σ H7 H8 hk ⟨⟨v9, c, rfl, hcl, hco⟩, k7, rl7⟩ ⟨rfl, rfl⟩
          have hi4 : i < 4 := by omega
          unfold sgOk at hsg
          simp only [Bool.and_eq_true, decide_eq_true_eq] at hsg
          have hjm : j < many := by
            have hj : j < ((many : Nat) : Int).toNat := hj
            omega
          have hkn : k < n := by
            have hk : k < ((n : Nat) : Int).toNat := hk
            omega
          refine ⟨_, rfl, _, rfl, _, rfl, p, _, T + 13 * i + 3 * j + k, rfl, rl7, by omega, .inr ⟨l, rfl, hsg.1.1, by omega, fun H9 d k9 rl9 hd => ?_⟩⟩
          refine ⟨_, _, rfl, rfl, small_line (by rw [tx_len, tx_len, hcl]; show k + 1 ≤ _; omega), ⟨⟨some (.int (0 + (k : Nat))), c ++ [d], ?_, by rw [List.length_append, hcl]; rfl, fun e he => ?_⟩, k7.trans k9, rl9⟩⟩
          · show [some (V.ref p), some (V.int (many : Nat)), some (V.ref sh), some (V.str (Tx l)), some (V.ref R), some (V.int (n : Nat)), some (V.ref D), some (V.int (0 + (j : Nat))), some (V.str (Tx c ++ Tx [d])), some (V.int (0 + (k : Nat)))] = _
            rw [← tx_app2]
          · rcases List.mem_append.mp he with he | he
            · exact hco e he
            · rw [List.mem_singleton.mp he]
              exact List.all_eq_true.mp hsg.2 d hd
        · rintro σ H7 ⟨⟨v9, c, rfl, hcl, hco⟩, k7, rl7⟩
          have eD7 := k7 _ _ nDp hr5
          have hjm : j < many := by
            have hj : j < ((many : Nat) : Int).toNat := hj
            omega
          have hcn : c.length = n := by
            have : c.length = ((n : Nat) : Int).toNat := hcl
            omega
          have rl7 : RlAt H7 p (T + 13 * i + 3 * j + n) := by
            have : RlAt H7 p (T + 13 * i + 3 * j + ((n : Nat) : Int).toNat) := rl7
            rwa [Int.toNat_natCast] at this
          have hxs7 := k7 _ _ nRp hxs5
          have hRL7 := rowsL_kp k7 hRL5
          refine ⟨_, rfl, .inl ⟨rfl, _, SqL.of eD7⟩, _, rfl, D, tws r, .str (Tx c), rfl, rfl, eD7, small_lt (by rw [tws_len, hro.1]; omega), ⟨⟨_, _, _, rfl⟩, kxD (k5.trans k7), rl_mono (rl_kp (fun z => nDp z.symm) KX.put rl7) (by omega), (upd_ne (Ne.symm nDR)).trans hxs7, rowsL_new nxD hRL7, r ++ [c], ?_, ?_⟩⟩
          · rw [upd_same, tws_app1]
          · refine ⟨by rw [List.length_append, hro.1]; rfl, fun l' hl' => ?_⟩
            rcases List.mem_append.mp hl' with hl' | hl'
            · exact hro.2 l' hl'
            · rw [List.mem_singleton.mp hl']
              exact ⟨hcn, hco⟩
      · rintro σ H5 ⟨⟨v7, v8, v9, rfl⟩, k5, rl5, hxs5, hRL5, r, hr5, hro⟩
        have eD5 := hr5
        have hro : RowOk many n r := by
          have : RowOk ((many : Nat) : Int).toNat n r := hro
          rwa [Int.toNat_natCast] at this
        have rl5 : RlAt H5 p (T + 13 * i + 12) := by
          have : RlAt H5 p (T + 13 * i + 3 * ((many : Nat) : Int).toNat) := rl5
          rw [Int.toNat_natCast] at this
          exact rl_mono this (by omega)
        have hroi : RowsOk many (shape.take i) ws := hRO
        -- a row is put behind the rows
        have put : ∀ (H6 : Hp) (C : Addr) (r' : List (List Nat)), KX p H H6 → RlAt H6 p (T + 13 * (i + 1)) → H6 R = some (.lst xs) → RowsL H6 p xs ws → H6 C = some (.lst (tws r')) → C ≠ p → C ≠ R → RowOk many n r' → ∀ v8 v9 v7,
            (tDrop (tBM K "list" rAppend (tVar 4) (tCons (tVar 6) tNil))) { nx := fun σ H' => (∃ v5 v6 v7 v8 v9, σ = [some (.ref p), some (.int (many : Nat)), some (.ref sh), some (.str (Tx l)), some (.ref R), v5, v6, v7, v8, v9]) ∧ KX p H H' ∧ RlAt H' p (T + 13 * (i + 1)) ∧ ∃ xs ws, H' R = some (.lst xs) ∧ (∀ x ∈ xs, x ≠ .ref R) ∧ RowsL H' p xs ws ∧ RowsOk many (shape.take (i + 1)) ws, rt := Q } [some (.ref p), some (.int (many : Nat)), some (.ref sh), some (.str (Tx l)), some (.ref R), some (.int (n : Nat)), some (.ref C), v7, v8, v9] H6 := by
          intro H6 C r' k6 rl6 hx6 hR6 hC6 nCp nCR hr' v8 v9 v7
          have hxl : xs.length = i := by
            rw [hR6.1, hroi.1, List.length_take]
            omega
          refine ⟨_, rfl, .inl ⟨rfl, _, SqL.of hx6⟩, _, rfl, R, xs, .ref C, rfl, rfl, hx6, small_lt (by omega), ⟨⟨_, _, _, _, _, rfl⟩, ?_, rl_kp (fun z => nRp z.symm) KX.put rl6, xs ++ [.ref C], ws ++ [r'], upd_same, ?_, rowsL_snoc (rowsL_new hxR hR6) ((upd_ne nCR).trans hC6) nCp, ?_⟩⟩
          · intro c o nc e
            rw [upd_ne (ne_of_none e hR)]
            exact k6 c o nc e
          · intro x hx
            rcases List.mem_append.mp hx with hx | hx
            · exact hxR x hx
            · rw [List.mem_singleton.mp hx]
              exact fun z => nCR (V.ref.inj z)
          · rw [List.take_succ, hni]
            exact rowsOk_snoc hroi hr'
        have dat : ∀ {G : Hp}, G R = some (.lst xs) → RowsL G p xs ws → Dp K G (.ref R) (dLL ws) := fun hx hR => .lst (SqL.of hx) (dpa_ix (by rw [List.length_map]; exact hR.1) fun i' x e e1 e2 => by
          rw [List.getElem?_map] at e2
          cases z : ws[i']? with
          | none =>
            rw [z] at e2
            cases e2
          | some r' =>
            rw [z] at e2
            obtain rfl := Option.some.inj e2
            obtain ⟨b, rfl, hb, _⟩ := hR.2 i' x r' e1 z
            refine .lst (SqL.of hb) ?_
            rw [tws_str, List.map_map]
            exact dpa fun l _ => .str _)
        have lowW : ∀ r' ∈ ws, ∀ l' ∈ r', ∀ c ∈ l', c < 1114112 := fun r' hr' l' hl' c hc => by
          obtain ⟨i', hi', e'⟩ := List.getElem_of_mem hr'
          have h2 := (hroi.2 i' _ r' (List.getElem?_eq_getElem (by rw [← hroi.1]; exact hi')) (by rw [List.getElem?_eq_getElem hi', e'])).2 l' hl'
          have := h2.2 c hc
          unfold isaz at this
          simp only [Bool.or_eq_true, Bool.and_eq_true, decide_eq_true_eq] at this
          omega
        refine ⟨_, rfl, Nat.zero_le _, fun e he => ?_⟩
        have s6 : Same H5 (upd H5 e (.lst [])) := Sm.new he
        have ee : (upd H5 e (.lst [])) e = some (.lst []) := upd_same
        generalize (upd H5 e (.lst [])) = H6 at s6 ee ⊢
        have hx6 := s6 _ _ hxs5
        have hR6 := rowsL_kp (KX.sm s6) hRL5
        have k6 := k5.trans (KX.sm s6)
        have rl6 := rl_sm s6 rl5
        have eD6 := s6 _ _ eD5
        refine ⟨dLL ws, .list [], dat hx6 hR6, .lst (SqL.of ee) .nil, sh_dLL lowW, rfl, ?_⟩
        refine ⟨_, rfl, ?_⟩
        rw [eqv_dLL0]
        by_cases hw : ws = []
        · rw [decide_eq_true hw]
          exact iteF (iteF (put _ D r k6 (rl_mono rl6 (by omega)) hx6 hR6 eD6 nDp nDR hro _ _ _))
        rw [decide_eq_false hw]
        refine iteT ?_
        obtain ⟨ws0, r0, rfl⟩ := (List.eq_nil_or_concat ws).resolve_left hw
        have hxl : xs.length = ws0.length + 1 := by
          rw [hR6.1, List.concat_eq_append, List.length_append]
          rfl
        obtain ⟨xs0, x0, rfl⟩ := (List.eq_nil_or_concat xs).resolve_left fun z => by
          rw [z] at hxl
          cases hxl
        have hx0l : xs0.length = ws0.length := by
          rw [List.concat_eq_append, List.length_append] at hxl
          exact Nat.succ.inj hxl
        have hx0 : (xs0.concat x0)[ws0.length]? = some x0 := by
          rw [List.concat_eq_append, ← hx0l, List.getElem?_concat_length]
        have hr0 : (ws0.concat r0)[ws0.length]? = some r0 := by rw [List.concat_eq_append, List.getElem?_concat_length]
        obtain ⟨b0, rfl, hb0, nb0⟩ := hR6.2 _ _ _ hx0 hr0
        have hsh0 : ∃ n0, (shape.take i)[ws0.length]? = some n0 := by
          have := hroi.1
          rw [List.concat_eq_append, List.length_append] at this
          exact ⟨_, List.getElem?_eq_getElem (show ws0.length < (shape.take i).length by rw [← this]; exact Nat.lt_succ_self _)⟩
        obtain ⟨n0, hn0⟩ := hsh0
        have ro0 := hroi.2 _ n0 r0 hn0 hr0
        have at0 : atI (xs0.concat (V.ref b0)) (-1) = some (V.ref b0) := by
          rw [List.concat_eq_append]
          exact at_last xs0 _
        obtain ⟨l0, q0, rfl⟩ := List.exists_cons_of_length_pos (show 0 < r0.length by rw [ro0.1]; omega)
        have at00 : atI (tws (l0 :: q0)) 0 = some (.str (Tx l0)) := atI_nat (xs := tws (l0 :: q0)) (j := 0) rfl
        have hl0 := (ro0.2 l0 List.mem_cons_self).1
        have hn03 : n0 ≤ 3 := (h13 n0 (List.mem_of_mem_take (List.mem_of_getElem? hn0))).2
        refine ⟨_, rfl, 1, rfl, R, _, -1, _, rfl, rfl, SqL.of hx6, at0, b0, _, 0, _, rfl, rfl, SqL.of hb0, at00, Tx l0, rfl, small_line (by rw [tx_len]; omega), _, rfl, rfl, _, rfl, ?_⟩
        refine ite2 (fun c => ?_) (fun c => iteF (put _ D r k6 (rl_mono rl6 (by omega)) hx6 hR6 eD6 nDp nDR hro _ _ _))
        have hnn : n0 = n := by
          have c : decide (V.int ((Tx l0).length : Nat) = V.int (n : Nat)) = true := c
          have := V.int.inj (of_decide_eq_true c)
          rw [tx_len] at this
          omega
        subst hnn
        refine ⟨_, rfl, p, 4, T + 13 * i + 12, rfl, rl6, by omega, by decide, by decide, fun H7 b k7 rl7 b1 b2 => ⟨rfl, _, rfl, ?_⟩⟩
        have k67 := k6.trans k7
        have hx7 := k7 _ _ nRp hx6
        have hR7 := rowsL_kp k7 hR6
        have eD7 := k7 _ _ nDp eD6
        refine ite2 (fun c2 => ?_) (fun c2 => put _ D r k67 (rl_mono rl7 (by omega)) hx7 hR7 eD7 nDp nDR hro _ _ _)
        obtain ⟨l1, q1, rfl⟩ := List.exists_cons_of_length_pos (show 0 < r.length by rw [hro.1]; omega)
        have at10 : atI (tws (l1 :: q1)) 0 = some (.str (Tx l1)) := atI_nat (xs := tws (l1 :: q1)) (j := 0) rfl
        refine ⟨_, rfl, D, _, 0, _, rfl, rfl, SqL.of eD7, at10, by show 1 ≤ sizeLine; decide, fun a1 g1 => ?_⟩
        have f1 : Same H7 (upd H7 a1 (.lst [.str (Tx l1)])) := Sm.new g1
        have i1 : (upd H7 a1 (.lst [.str (Tx l1)])) a1 = some (.lst [.str (Tx l1)]) := upd_same
        generalize (upd H7 a1 (.lst [.str (Tx l1)])) = H8 at f1 i1 ⊢
        have hb8 := f1 _ _ (k7 _ _ nb0 hb0)
        refine ⟨_, rfl, 1, rfl, R, _, -1, _, rfl, rfl, SqL.of (f1 _ _ hx7), at0, 1, rfl, b0, _, rfl, SqL.of hb8, fun a2 g2 => ?_⟩
        rw [rcut_from' (by decide)]
        have f2 : Same H8 (upd H8 a2 (.lst ((tws (l0 :: q0)).drop (Int.toNat 1)))) := Sm.new g2
        have i2 : (upd H8 a2 (.lst ((tws (l0 :: q0)).drop (Int.toNat 1)))) a2 = some (.lst (tws q0)) := upd_same
        generalize (upd H8 a2 (.lst ((tws (l0 :: q0)).drop (Int.toNat 1)))) = H9 at f2 i2 ⊢
        refine ⟨a1, a2, [.str (Tx l1)], tws q0, rfl, rfl, f2 _ _ i1, i2, small_line (by rw [tws_len]; have := ro0.1; rw [List.length_cons] at this; show 1 + _ ≤ _; omega), fun a3 g3 => ?_⟩
        have f3 : Same H9 (upd H9 a3 (.lst ([.str (Tx l1)] ++ tws q0))) := Sm.new g3
        have i3 : (upd H9 a3 (.lst ([.str (Tx l1)] ++ tws q0))) a3 = some (.lst (tws (l1 :: q0))) := upd_same
        have fA := (f1.trans f2).trans f3
        have rl9 := rl_sm (f1.trans f2) rl7
        have hx9 := (f1.trans f2) _ _ hx7
        generalize (upd H9 a3 (.lst ([.str (Tx l1)] ++ tws q0))) = H10 at f3 i3 fA ⊢
        have n3R : a3 ≠ R := fun z => by
          rw [z, hx9] at g3
          cases g3
        refine put H10 a3 (l1 :: q0) (k67.trans (KX.sm fA)) (rl_mono (rl_sm fA rl7) (by omega)) (fA _ _ hx7) (rowsL_kp (KX.sm fA) hR7) i3 (npn rl9 g3) n3R ⟨?_, fun l' hl' => ?_⟩ _ _ _
        · have h1 := ro0.1
          rw [List.length_cons] at h1 ⊢
          exact h1
        · rcases List.mem_cons.mp hl' with rfl | hl'
          · exact hro.2 _ List.mem_cons_self
          · exact ro0.2 l' (List.mem_cons_of_mem _ hl')
    · rintro σ H2 ⟨⟨v5, v6, v7, v8, v9, rfl⟩, k2, rl2, xs, ws, hxs, hxR, hRL, hRO⟩
      have e : shape.take (shape.map fun n => V.int (n : Nat)).length = shape := by rw [List.length_map, List.take_length]
      rw [e] at hRO
      exact ⟨_, rfl, q H2 R xs ws k2 (rl_mono rl2 (by rw [List.length_map]; omega)) hR hxs nRp hRL hRO⟩
end
end K6
namespace K6
open PySem PySem.Spec PyProof.Rows L2 K0 K4
theorem hu65 {A : Around} {k : Nat} (hr : Room k A) : A.units + 65 < cLine := by
  have := hr.un
  omega
theorem K8.nd_ixA {α : Type} {ps : List α} {i j : Nat} {y : α} (nd : ps.Nodup) (h1 : ps[i]? = some y) (h2 : ps[j]? = some y) : i = j := by
  obtain ⟨a1, e1⟩ := List.getElem?_eq_some_iff.mp h1
  obtain ⟨a2, e2⟩ := List.getElem?_eq_some_iff.mp h2
  exact (List.getElem_inj nd).mp (e1.trans e2.symm)
section
variable {α : Type} [DecidableEq α]
def uqA (acc : List α) (c : α) : List α := if c ∈ acc then acc else acc ++ [c]
def uniqA (l : List α) : List α := l.foldl uqA []
/-- each thing's number by where it first stands -/
def zeroA (l : List α) : List Nat := l.map fun c => (uniqA l).idxOf c
theorem uniqA_take {l : List α} {i : Nat} {c : α} (h : l[i]? = some c) : uniqA (l.take (i + 1)) = uqA (uniqA (l.take i)) c := by
  unfold uniqA
  rw [List.take_succ, h, List.foldl_append]
  rfl
theorem foldA_mem : ∀ (cl acc : List α) (c : α), c ∈ cl.foldl uqA acc ↔ c ∈ acc ∨ c ∈ cl
  | [], acc, c => by simp
  | d :: r, acc, c => by
    rw [List.foldl_cons, foldA_mem r (uqA acc d) c]
    unfold uqA
    split
    · rename_i hd
      constructor
      · rintro (h | h)
        · exact .inl h
        · exact .inr (List.mem_cons_of_mem _ h)
      · rintro (h | h)
        · exact .inl h
        · rcases List.mem_cons.mp h with rfl | h
          · exact .inl hd
          · exact .inr h
    · rw [List.mem_append, List.mem_singleton, List.mem_cons, or_assoc]
theorem uniqA_mem {cl : List α} {c : α} : c ∈ uniqA cl ↔ c ∈ cl := by
  unfold uniqA
  rw [foldA_mem]
  simp
theorem uqA_nodup {acc : List α} {c : α} (h : acc.Nodup) : (uqA acc c).Nodup := by
  unfold uqA
  split
  · exact h
  · rename_i hc
    rw [List.nodup_append]
    exact ⟨h, by simp, fun a ha b hb => by
      rw [List.mem_singleton.mp hb]
      exact fun z => hc (z ▸ ha)⟩
theorem foldA_nodup : ∀ (cl acc : List α), acc.Nodup → (cl.foldl uqA acc).Nodup
  | [], _, h => h
  | c :: r, acc, h => foldA_nodup r (uqA acc c) (uqA_nodup h)
theorem uniqA_nodup (cl : List α) : (uniqA cl).Nodup := foldA_nodup cl [] List.nodup_nil
theorem idxA_get {l : α} : ∀ {names : List α}, l ∈ names → names[names.idxOf l]? = some l
  | a :: r, h => by
    rw [List.idxOf_cons]
    by_cases e : a = l
    · rw [show (a == l) = true from beq_iff_eq.mpr e]
      exact congrArg some e
    · rw [show (a == l) = false from beq_eq_false_iff_ne.mpr e]
      exact idxA_get (names := r) ((List.mem_cons.mp h).resolve_left fun z => e z.symm)
theorem idxA_app {l : α} : ∀ {a b : List α}, l ∈ a → (a ++ b).idxOf l = a.idxOf l
  | x :: r, b, h => by
    rw [List.cons_append, List.idxOf_cons, List.idxOf_cons]
    by_cases e : x = l
    · rw [show (x == l) = true from beq_iff_eq.mpr e]
      rfl
    · rw [show (x == l) = false from beq_eq_false_iff_ne.mpr e]
      show (r ++ b).idxOf l + 1 = r.idxOf l + 1
      rw [idxA_app ((List.mem_cons.mp h).resolve_left fun z => e z.symm)]
end
section
variable {P : Program} {w : World} {K : PySem.W.Frag} {mg : Str → Option Value} {base : Heap}
variable {α : Type} [DecidableEq α]
/-- things told as data, unlike ones unlike -/
structure Tells (d : α → PyData) : Prop where
  eq : ∀ a b, PyData.eqv (d a) (d b) = decide (a = b)
  sh : ∀ a, SeqAt.shaped (d a) = true
  lay : ∀ a, PyData.canLay0 (d a) = true
  dep : ∀ a, (d a).depth ≤ 8
end
end K6
namespace K6
open PySem PySem.Spec PyProof.Rows L2 K0 K4
theorem inV_app (a b : List Nat) : inV' (a ++ b) = inV' a ++ inV' b := List.map_append
theorem tells_nat : Tells (fun n : Nat => PyData.int (n : Nat)) where
  eq := fun a b => by
    rw [PyData.eqv]
    by_cases h : a = b
    · rw [h, decide_eq_true rfl]
      exact beq_self_eq_true _
    · rw [decide_eq_false h]
      exact (beq_eq_false_iff_ne (a := (a : Int)) (b := (b : Int))).mpr fun z => h (Int.ofNat.inj z)
  sh := fun a => shaped_of (by unfold PyData.canLay0; rfl) (by unfold PyData.depth; decide)
  lay := fun a => by
    unfold PyData.canLay0
    rfl
  dep := fun a => by
    unfold PyData.depth
    decide
end K6
namespace K6
open PySem PySem.Spec PyProof.Rows L2 K0 K4
section
variable {α β : Type} [DecidableEq α] [DecidableEq β]
theorem zeroA_len (l : List α) : (zeroA l).length = l.length := List.length_map _
theorem mem_take {l : List α} {i : Nat} {c : α} : c ∈ l.take i ↔ ∃ j, j < i ∧ l[j]? = some c := by
  constructor
  · intro h
    obtain ⟨j, hj⟩ := List.mem_iff_getElem?.mp h
    have hlt : j < (l.take i).length := (List.getElem?_eq_some_iff.mp hj).1
    rw [List.length_take] at hlt
    exact ⟨j, by omega, by rw [List.getElem?_take_of_lt (by omega)] at hj; exact hj⟩
  · rintro ⟨j, hj, e⟩
    exact List.mem_iff_getElem?.mpr ⟨j, by rw [List.getElem?_take_of_lt hj]; exact e⟩
theorem idxA_new {l : α} : ∀ {a : List α}, l ∉ a → (a ++ [l]).idxOf l = a.length
  | [], _ => by
    rw [List.nil_append, List.idxOf_cons, show (l == l) = true from beq_self_eq_true _]
    rfl
  | x :: r, h => by
    have e : x ≠ l := fun z => h (z ▸ List.mem_cons_self)
    rw [List.cons_append, List.idxOf_cons, show (x == l) = false from beq_eq_false_iff_ne.mpr e]
    show (r ++ [l]).idxOf l + 1 = r.length + 1
    rw [idxA_new fun z => h (List.mem_cons_of_mem _ z)]
/-- equal where equal: the same numbers -/
theorem zero_pat {l : List α} {l' : List β} (hl : l.length = l'.length) (h : ∀ (i j : Nat) a b a' b', l[i]? = some a → l[j]? = some b → l'[i]? = some a' → l'[j]? = some b' → (a = b ↔ a' = b')) : zeroA l = zeroA l' := by
  have key : ∀ i, i ≤ l.length → (uniqA (l.take i)).length = (uniqA (l'.take i)).length ∧ ∀ (j : Nat) a a', j < i → l[j]? = some a → l'[j]? = some a' → (uniqA (l.take i)).idxOf a = (uniqA (l'.take i)).idxOf a' := by
    intro i
    induction i with
    | zero => exact fun _ => ⟨rfl, fun j a a' h => absurd h (Nat.not_lt_zero _)⟩
    | succ i ih =>
      intro hi
      obtain ⟨i1, i2⟩ := ih (by omega)
      have hc := List.getElem?_eq_getElem (show i < l.length by omega)
      have hc' := List.getElem?_eq_getElem (show i < l'.length by omega)
      generalize l[i] = c at hc
      generalize l'[i] = c' at hc'
      have hmem : c ∈ uniqA (l.take i) ↔ c' ∈ uniqA (l'.take i) := by
        rw [uniqA_mem, uniqA_mem, mem_take, mem_take]
        constructor
        · rintro ⟨j, hj, e⟩
          have ej' := List.getElem?_eq_getElem (show j < l'.length by omega)
          exact ⟨j, hj, by rw [ej', (h j i c c _ c' e hc ej' hc').mp rfl]⟩
        · rintro ⟨j, hj, e⟩
          have ej := List.getElem?_eq_getElem (show j < l.length by omega)
          exact ⟨j, hj, by rw [ej, (h j i _ c c' c' ej hc e hc').mpr rfl]⟩
      have old : ∀ (j : Nat) a, j < i → l[j]? = some a → a ∈ uniqA (l.take i) := fun j a hj e => uniqA_mem.mpr (mem_take.mpr ⟨j, hj, e⟩)
      have old' : ∀ (j : Nat) a, j < i → l'[j]? = some a → a ∈ uniqA (l'.take i) := fun j a hj e => uniqA_mem.mpr (mem_take.mpr ⟨j, hj, e⟩)
      rw [uniqA_take hc, uniqA_take hc']
      unfold uqA
      by_cases m : c ∈ uniqA (l.take i)
      · rw [if_pos m, if_pos (hmem.mp m)]
        refine ⟨i1, fun j a a' hj e e' => ?_⟩
        rcases Nat.lt_succ_iff_lt_or_eq.mp hj with q | rfl
        · exact i2 j a a' q e e'
        · rw [hc] at e
          cases e
          rw [hc'] at e'
          cases e'
          obtain ⟨j2, hj2, ej2⟩ := mem_take.mp (uniqA_mem.mp m)
          have ej2' := List.getElem?_eq_getElem (show j2 < l'.length by omega)
          have := (h j2 j c c _ c' ej2 hc ej2' hc').mp rfl
          rw [this] at ej2'
          exact i2 j2 c c' hj2 ej2 ej2'
      · rw [if_neg m, if_neg fun z => m (hmem.mpr z)]
        refine ⟨by rw [List.length_append, List.length_append, i1]; rfl, fun j a a' hj e e' => ?_⟩
        rcases Nat.lt_succ_iff_lt_or_eq.mp hj with q | rfl
        · rw [idxA_app (old j a q e), idxA_app (old' j a' q e')]
          exact i2 j a a' q e e'
        · rw [hc] at e
          cases e
          rw [hc'] at e'
          cases e'
          rw [idxA_new m, idxA_new fun z => m (hmem.mpr z), i1]
  obtain ⟨_, k⟩ := key l.length (Nat.le_refl _)
  rw [List.take_length, hl, List.take_length] at k
  refine List.ext_getElem? fun i => ?_
  unfold zeroA
  rw [List.getElem?_map, List.getElem?_map]
  rcases Nat.lt_or_ge i l.length with q | q
  · have e := List.getElem?_eq_getElem q
    have e' := List.getElem?_eq_getElem (show i < l'.length by omega)
    rw [e, e']
    exact congrArg some (k i _ _ (by omega) e e')
  · rw [List.getElem?_eq_none q, List.getElem?_eq_none (by omega)]
    rfl
theorem idxA_inj {u : List α} {a b : α} (ha : a ∈ u) (hb : b ∈ u) (e : u.idxOf a = u.idxOf b) : a = b := by
  have h1 := idxA_get ha
  have h2 := idxA_get hb
  rw [e, h2] at h1
  exact (Option.some.inj h1).symm
/-- equal numbers: equal things -/
theorem zeroA_iff {l : List α} {i j : Nat} {a b : α} {m n : Nat} (hi : l[i]? = some a) (hj : l[j]? = some b) (zi : (zeroA l)[i]? = some m) (zj : (zeroA l)[j]? = some n) : m = n ↔ a = b := by
  unfold zeroA at zi zj
  rw [List.getElem?_map, hi] at zi
  rw [List.getElem?_map, hj] at zj
  obtain rfl := Option.some.inj zi
  obtain rfl := Option.some.inj zj
  exact ⟨fun e => idxA_inj (uniqA_mem.mpr (List.mem_of_getElem? hi)) (uniqA_mem.mpr (List.mem_of_getElem? hj)) e, fun e => by rw [e]⟩
end
end K6
namespace K6
open PySem PySem.Spec PyProof.Rows L2 K0 K4
def joinW (a b : List (List (List Nat))) : List (List (List Nat)) := List.zipWith (· ++ ·) a b
theorem zeroL_A (cl : List (List Nat)) : zeroL cl = zeroA cl := by
  have hu : ∀ (l acc : List (List Nat)), l.foldl uq acc = l.foldl uqA acc := by
    intro l
    induction l with
    | nil => exact fun _ => rfl
    | cons c r ih =>
      intro acc
      rw [List.foldl_cons, List.foldl_cons, ih]
      congr 1
      unfold uq uqA
      by_cases h : c ∈ acc
      · rw [if_pos h, if_pos h]
      · rw [if_neg h, if_neg h]
  have : uniq cl = uniqA cl := hu cl []
  unfold zeroL zeroA
  rw [this]
  refine List.map_congr_left fun c hc => ?_
  have hm : c ∈ uniqA cl := uniqA_mem.mpr hc
  have h1 := idxA_get hm
  have hn := uniqA_nodup cl
  obtain ⟨hl, e⟩ := List.getElem?_eq_some_iff.mp h1
  have h2 : (uniqA cl).idxOf c = (uniqA cl).idxOf c := rfl
  exact idx_at hn (by rw [h1])
theorem colAt_app (a b : List (List Nat)) (j : Nat) : colAt (a ++ b) j = colAt a j ++ colAt b j := List.map_append
theorem colsTo_join {a b : List (List (List Nat))} (hl : a.length = b.length) (hne : ∀ r ∈ a, r ≠ []) (hw : ∀ i, i < a.length → widW (a.getD i []) = widW (b.getD i [])) : ∀ i, i ≤ a.length → colsTo (joinW a b) i = List.zipWith (· ++ ·) (colsTo a i) (colsTo b i) ∧ (colsTo a i).length = (colsTo b i).length
  | 0, _ => ⟨rfl, rfl⟩
  | i + 1, hi => by
    obtain ⟨h1, h2⟩ := colsTo_join hl hne hw i (by omega)
    have ea := List.getElem?_eq_getElem (show i < a.length by omega)
    have eb := List.getElem?_eq_getElem (show i < b.length by omega)
    have ga : a.getD i [] = a[i] := by rw [List.getD_eq_getElem?_getD, ea]; rfl
    have gb : b.getD i [] = b[i] := by rw [List.getD_eq_getElem?_getD, eb]; rfl
    have gj : (joinW a b).getD i [] = a[i] ++ b[i] := by
      have : (joinW a b)[i]? = some (a[i] ++ b[i]) := by
        unfold joinW
        rw [List.getElem?_zipWith, ea, eb]
      rw [List.getD_eq_getElem?_getD, this]
      rfl
    have hwi := hw i (by omega)
    rw [ga, gb] at hwi
    have hwj : widW (a[i] ++ b[i]) = widW a[i] := by
      obtain ⟨c, r, e⟩ := List.exists_cons_of_ne_nil (hne _ (List.getElem_mem (show i < a.length by omega)))
      rw [e]
      rfl
    have hrow : rowCols (a[i] ++ b[i]) (widW a[i]) = List.zipWith (· ++ ·) (rowCols a[i] (widW a[i])) (rowCols b[i] (widW a[i])) := by
      refine List.ext_getElem? fun j => ?_
      unfold rowCols
      rw [List.getElem?_zipWith, List.getElem?_map, List.getElem?_map, List.getElem?_map]
      cases (List.range (widW a[i]))[j]? with
      | none => rfl
      | some k => exact congrArg some (colAt_app _ _ _)
    constructor
    · show colsTo (joinW a b) i ++ rowCols ((joinW a b).getD i []) (widW ((joinW a b).getD i [])) = List.zipWith _ (colsTo a i ++ rowCols (a.getD i []) (widW (a.getD i []))) (colsTo b i ++ rowCols (b.getD i []) (widW (b.getD i [])))
      rw [h1, gj, ga, gb, hwj, ← hwi, hrow, List.zipWith_append h2]
    · show (colsTo a i ++ rowCols (a.getD i []) (widW (a.getD i []))).length = (colsTo b i ++ rowCols (b.getD i []) (widW (b.getD i []))).length
      unfold rowCols
      rw [List.length_append, List.length_append, h2, ga, gb, List.length_map, List.length_map, hwi]
theorem cols_join {a b : List (List (List Nat))} (hl : a.length = b.length) (hne : ∀ r ∈ a, r ≠ []) (hw : ∀ i, i < a.length → widW (a.getD i []) = widW (b.getD i [])) : cols (joinW a b) = List.zipWith (· ++ ·) (cols a) (cols b) ∧ (cols a).length = (cols b).length := by
  have h := colsTo_join hl hne hw a.length (Nat.le_refl _)
  have e : (joinW a b).length = a.length := by
    unfold joinW
    rw [List.length_zipWith]
    omega
  unfold cols
  rw [e, ← hl]
  exact h
theorem app_inj {n : Nat} {a a' b b' : List Nat} (ha : a.length = n) (ha' : a'.length = n) (h : a ++ b = a' ++ b') : a = a' ∧ b = b' := List.append_inj h (by rw [ha, ha'])
section
variable {A B : List (List Nat)} {n m : Nat}
/-- what is joined in both is joined in each -/
theorem lj_none {α β : Type} [DecidableEq α] [DecidableEq β] {l : List α} {l' : List β} (hl : l.length = l'.length) (h : ∀ (i j : Nat) a b a' b', l[i]? = some a → l[j]? = some b → l'[i]? = some a' → l'[j]? = some b' → a = b → a' = b') : ljR (zeroA l) (zeroA l') = none := by
  unfold ljR
  refine List.find?_eq_none.mpr fun p hp => ?_
  obtain ⟨i, j⟩ := p
  obtain ⟨h1, h2, h3⟩ := (prNat_mem (Nat.le_refl _)).mp hp
  rw [zeroA_len] at h1 h3
  have gi := List.getElem?_eq_getElem h1
  have gj := List.getElem?_eq_getElem h3
  have gi' := List.getElem?_eq_getElem (show i < l'.length by omega)
  have gj' := List.getElem?_eq_getElem (show j < l'.length by omega)
  obtain ⟨nzi, zi⟩ : ∃ k, (zeroA l)[i]? = some k := ⟨_, List.getElem?_eq_getElem (by rw [zeroA_len]; omega)⟩
  obtain ⟨nzj, zj⟩ : ∃ k, (zeroA l)[j]? = some k := ⟨_, List.getElem?_eq_getElem (by rw [zeroA_len]; omega)⟩
  obtain ⟨nzi', zi'⟩ : ∃ k, (zeroA l')[i]? = some k := ⟨_, List.getElem?_eq_getElem (by rw [zeroA_len]; omega)⟩
  obtain ⟨nzj', zj'⟩ : ∃ k, (zeroA l')[j]? = some k := ⟨_, List.getElem?_eq_getElem (by rw [zeroA_len]; omega)⟩
  unfold jB
  simp only [List.getD_eq_getElem?_getD, zi, zj, zi', zj', Option.getD_some]
  by_cases e : nzi = nzj
  · have e2 := (zeroA_iff gi' gj' zi' zj').mpr (h i j _ _ _ _ gi gj gi' gj' ((zeroA_iff gi gj zi zj).mp e))
    simp [e2]
  · simp [e]
theorem lj_one (hl : A.length = B.length) (hA : ∀ c ∈ A, c.length = n) : ljR (zeroL (List.zipWith (· ++ ·) A B)) (zeroL A) = none := by
  rw [zeroL_A, zeroL_A]
  refine lj_none (by rw [List.length_zipWith]; omega) fun i j x y a a' h1 h2 h3 h4 e => ?_
  rw [List.getElem?_zipWith_eq_some] at h1 h2
  obtain ⟨c, d, hc, hd, rfl⟩ := h1
  obtain ⟨c', d', hc', hd', rfl⟩ := h2
  rw [hc] at h3
  cases h3
  rw [hc'] at h4
  cases h4
  exact (app_inj (hA _ (List.mem_of_getElem? hc)) (hA _ (List.mem_of_getElem? hc')) e).1
end
end K6
namespace K6
def nCol (l : List Nat) : Nat := l.foldl (fun m s => max m (s + 1)) 0
theorem foldm (l : List Nat) : ∀ m : Nat, m ≤ l.foldl (fun m s => max m (s + 1)) m ∧ ∀ s ∈ l, s < l.foldl (fun m s => max m (s + 1)) m := by
  induction l with
  | nil => exact fun m => ⟨Nat.le_refl _, fun s h => nomatch h⟩
  | cons a r ih =>
    intro m
    obtain ⟨h1, h2⟩ := ih (max m (a + 1))
    refine ⟨by have := Nat.le_max_left m (a + 1); exact Nat.le_trans this h1, fun s hs => ?_⟩
    rcases List.mem_cons.mp hs with rfl | hs
    · have : s < max m (s + 1) := by omega
      exact Nat.lt_of_lt_of_le this h1
    · exact h2 s hs
theorem nCol_lt {l : List Nat} {s : Nat} (h : s ∈ l) : s < nCol l := (foldm l 0).2 s h
theorem take_snoc {α : Type} {l : List α} {k : Nat} {s : α} (h : l[k]? = some s) : l.take (k + 1) = l.take k ++ [s] := by
  rw [List.take_succ, h]
  rfl
theorem getD_some {l : List Nat} {k s : Nat} (h : l[k]? = some s) : l.getD k 0 = s := by
  rw [List.getD_eq_getElem?_getD, h]
  rfl
end K6
namespace K7Y
open PySem PySem.Spec PyProof.Rows L2
abbrev ZipO (h : Heap) (z TI TO : Addr) (f0 : Value) (b : Bool) : Prop :=
  h.get? z = some { cls := .type "zip", dict := none, data := .fields #[f0, .bool b, .bool false, .ref TI, .ref TO], slots := #[] }
abbrev TupO (h : Heap) (T : Addr) (xs : Array Value) : Prop := h.get? T = some { cls := .type "tuple", data := .seq xs }
def itsOf (N n : Nat) : List Value := (List.range n).map fun k => .ref (N + k)
def Mix (N : Nat) (zs : List (Addr × Array Value)) (m i : Nat) (h : Heap) : Prop := ∀ k z, zs[k]? = some z → (z.1 : Nat) < N ∧ h.IsTupleIter (N + k) z.1 (if k < m then i + 1 else i) ∧ h.IsTuple z.1 z.2
theorem Mix.ext {N m i : Nat} {zs : List (Addr × Array Value)} {h h' : Heap} (M : Mix N zs m i h) (e : ∀ (b : Nat) o, b < N + zs.length → h.get? b = some o → h'.get? b = some o) : Mix N zs m i h' := fun k z hk => by
  obtain ⟨h0, h1, h2⟩ := M k z hk
  have hl : k < zs.length := (List.getElem?_eq_some_iff.mp hk).1
  exact ⟨h0, h1.at fun o q => e (N + k) o (Nat.add_lt_add_left hl N) q, h2.at fun o q => e z.1 o (Nat.lt_of_lt_of_le h0 (Nat.le_add_right _ _)) q⟩
/-- what stands at one place of all of them -/
def SgnAt (zs : List (Addr × Array Value)) (i : Nat) (m : Nat) (arr : List Value) : Prop := ∀ k z, k < m → zs[k]? = some z → ∃ v, z.2[i]? = some v ∧ arr[k]? = some v
theorem SgnAt.snoc {zs : List (Addr × Array Value)} {i m : Nat} {arr : List Value} (h : SgnAt zs i m arr) {z : Addr × Array Value} {v : Value} (hz : zs[m]? = some z) (hc : z.2[i]? = some v) (ha : arr[m]? = some v) : SgnAt zs i (m + 1) arr := fun k z' hk hz' => by
  rcases Nat.lt_succ_iff_lt_or_eq.mp hk with q | q
  · exact h k z' q hz'
  · subst q
    rw [hz] at hz'
    cases hz'
    exact ⟨v, hc, ha⟩
theorem SgnAt.cong {zs : List (Addr × Array Value)} {i m : Nat} {arr arr' : List Value} (h : SgnAt zs i m arr) (e : ∀ k, k < m → arr'[k]? = arr[k]?) : SgnAt zs i m arr' := fun k z hk hz => by
  obtain ⟨v, h1, h2⟩ := h k z hk hz
  exact ⟨v, h1, (e k hk).trans h2⟩
section
variable {prog : Program} {w : World} {A : Around} {E : Value → Shared → Prop} {s : Shared} {N n i : Nat} {zs : List (Addr × Array Value)}
/-- what the zip's first field may be: nothing, or the number of a tuple that it gave out -/
def F0 (f0 : Value) : Prop := f0 = .none ∨ ∃ a : Nat, f0 = rawInt a
/-- where the zip stands ahead of turn i -/
def ZSt (N n : Nat) (zs : List (Addr × Array Value)) (i : Nat) (h : Heap) : Prop := ∃ f0 b, F0 f0 ∧ ZipO h (N + n + 2) (N + n) (N + n + 1) f0 b ∧ TupO h (N + n) (itsOf N n).toArray ∧ (∃ arr, arr.size = n ∧ TupO h (N + n + 1) arr) ∧ Mix N zs 0 i h
theorem Mix.all {h : Heap} (hn : zs.length = n) (M : Mix N zs n i h) : Mix N zs 0 (i + 1) h := fun k z hk => by
  have hl : k < n := by rw [← hn]; exact (List.getElem?_eq_some_iff.mp hk).1
  have := M k z hk
  rw [if_pos hl] at this
  rw [if_neg (Nat.not_lt_zero _)]
  exact this
end
end K7Y
namespace K7Y
open PySem PySem.Spec PyProof.Rows L2
/-- the first i tuples of a zip, kept behind B -/
def Lz (B n : Nat) (zs : List (Addr × Array Value)) (i : Nat) (acc : Array Value) (h : Heap) : Prop := ∃ ts : List Nat, ts.length = i ∧ acc.toList = ts.map (fun (t : Nat) => Value.ref t) ∧ ts.Nodup ∧ (∀ t ∈ ts, B < t) ∧
  ∀ (j t : Nat), ts[j]? = some t → ∃ xs, SgnAt zs j n xs ∧ xs.length = n ∧ TupO h t xs.toArray
theorem Lz.keep {B n i : Nat} {zs : List (Addr × Array Value)} {acc : Array Value} {h h' : Heap} (x : Lz B n zs i acc h) (k : ∀ (c : Nat) o, B < c → h.get? c = some o → h'.get? c = some o) : Lz B n zs i acc h' := by
  obtain ⟨ts, e1, e2, e3, e4, e5⟩ := x
  exact ⟨ts, e1, e2, e3, e4, fun j t ht => let ⟨xs, a, b, c⟩ := e5 j t ht; ⟨xs, a, b, k t _ (e4 t (List.mem_of_getElem? ht)) c⟩⟩
theorem ZSt.ext {N n i : Nat} {zs : List (Addr × Array Value)} {h h' : Heap} (hn : zs.length = n) (x : ZSt N n zs i h) (k : ∀ (c : Nat) o, c < N + n + 3 → h.get? c = some o → h'.get? c = some o) : ZSt N n zs i h' := by
  obtain ⟨f0, b, hf, hz, hTI, ⟨arr, ha, hTO⟩, M⟩ := x
  exact ⟨f0, b, hf, k (N + n + 2) _ (by omega) hz, k (N + n) _ (by omega) hTI, ⟨arr, ha, k (N + n + 1) _ (by omega) hTO⟩, M.ext fun c o hc q => k c o (by omega) q⟩
end K7Y
namespace K7Y
open PySem PySem.Spec PyProof.Rows L2
theorem maxOf_ok : ∀ (xs : List Int) (x : Int), PySem.W.maxOf x xs ∈ x :: xs ∧ ∀ y ∈ x :: xs, y ≤ PySem.W.maxOf x xs
  | [], x => ⟨List.mem_cons_self, fun y hy => by
    rw [List.mem_singleton.mp hy]
    exact Int.le_refl _⟩
  | z :: r, x => by
    have e : PySem.W.maxOf x (z :: r) = PySem.W.maxOf (if x < z then z else x) r := by
      show r.foldl _ (if PySem.W.DatumOrd.lt x z = true then z else x) = _
      have : (PySem.W.DatumOrd.lt x z = true) = (x < z) := by
        show (decide (x < z) = true) = _
        simp
      simp only [this]
      rfl
    obtain ⟨h1, h2⟩ := maxOf_ok r (if x < z then z else x)
    rw [e]
    constructor
    · rcases List.mem_cons.mp h1 with h | h
      · rw [h]
        split
        · exact List.mem_cons_of_mem _ List.mem_cons_self
        · exact List.mem_cons_self
      · exact List.mem_cons_of_mem _ (List.mem_cons_of_mem _ h)
    · intro y hy
      have h0 := h2 _ List.mem_cons_self
      have h3 : ∀ y ∈ r, y ≤ PySem.W.maxOf (if x < z then z else x) r := fun y hy => h2 y (List.mem_cons_of_mem _ hy)
      generalize PySem.W.maxOf (if x < z then z else x) r = M at h0 h3 ⊢
      rcases List.mem_cons.mp hy with rfl | hy
      · split at h0 <;> omega
      · rcases List.mem_cons.mp hy with rfl | hy
        · split at h0 <;> omega
        · exact h3 y hy
def rMaxT (K : PySem.W.Frag) : List V → Hp → VK → Prop := fun vs H Q => ∃ (a : Addr) (ns : List Int), vs = [V.ref a] ∧ SqT K H a (ns.map V.int) ∧ 0 < ns.length ∧ ∀ m, m ∈ ns → (∀ y, y ∈ ns → y ≤ m) → Q (.int m) H
theorem cr_maxT {X : Cx} (hc : X.calm = true) (hu : X.A.units + 1 < cLine) : CallR X (.builtin "max") (rMaxT X.K) := by
  intro pins s σ H vs us Q I r h
  obtain ⟨a, ns, rfl, hs, hne, q⟩ := h
  obtain ⟨its, rv, hl, _⟩ := I.tuple hs
  rw [Vals.ref1 r]
  cases ns with
  | nil => cases hne
  | cons x xs =>
    obtain ⟨h1, h2⟩ := maxOf_ok xs x
    refine PySem.W.max_tuple_datum (vs := its.toArray) (x := x) (xs := xs) (I.ok.hd hc) (show s.heap.IsTuple a its.toArray from hl) (PySem.W.HoldAll.of_ints rv.ints) hu fun i v h' tk hv hh k => ?_
    obtain ⟨as, hr⟩ := hh
    have hr : Reads h' v (.int (PySem.W.maxOf x xs)) as := hr
    cases hr
    exact ⟨.int _, H, I.kept k, ⟨_, rfl⟩, q _ h1 h2⟩
/-- a method of the class at C, which may raise -/
structure MetX (P : Program) (w : World) (K : PySem.W.Frag) (mg : Str → Option Value) (base : Heap) (k : Nat) (C : Addr) (m : Str) (ps : List Str) (sp : Sp) : Prop where
  ex : ∃ (f : Addr) (fd : FuncData), Cls K C ∧ Meth K C m f ∧ Binds K fd ps [] ∧ FnOk P w K mg base (L2.CX P w) k f fd ps sp
theorem pe_mt {X : Cx} {k : Nat} {C : Addr} {m : Str} {ps : List Str} {sp : Sp} {E : XK} {o e : Expr} {es : List Expr} {ta : TE} {t : TA} {apos pos : Pos} {pl : Sem Bool} (M : MetX X.prog X.w X.K X.mg X.base k C m ps sp) (hr : Room k X.A) (hx : Passes (L2.CX X.prog X.w) X E) (he : PE X o ta) (ha : PA X (e :: es) t)
    (hst : starEach (e :: es) X.env = (false, eval e X.env) :: starEach es X.env := by rfl) (hpl : (backTo pos (starEach es X.env)).any (·.1) = false := by rfl)
    (ht : eval (.Call (.Attribute o m apos) (e :: es) [] pos) X.env = (do
      let ov ← eval o X.env
      standAt apos.atName
      let (f, first) ← holding [ov] (getMethod ov m pl)
      callWith pos f first (backTo pos (starEach (e :: es) X.env)) (backToKw pos (keywordEach [] X.env))) := by rfl) :
    PE X (.Call (.Attribute o m apos) (e :: es) [] pos) (tMeth C m sp [] E ta t) := by
  obtain ⟨f, fd, c, hm, hb, F⟩ := M.ex
  exact pe_meth he c hm F hr hb .nil hx ha hst hpl ht
end K7Y
namespace K6
open PySem PySem.Spec PyProof.Rows L2 K0 K4
theorem wid_some (r : List (List Nat)) : wid (r.map some) = (widW r : Nat) := by
  unfold wid
  rw [lens_some]
  cases r <;> rfl
theorem plN_cols (ws : List (List (List Nat))) : ∀ i, colsTo ws i = (plN (whole ws) i).map fun p => colAt (ws.getD p.1 []) p.2
  | 0 => rfl
  | i + 1 => by
    have e : wid ((whole ws).getD i []) = (widW (ws.getD i []) : Nat) := by
      have : (whole ws).getD i [] = (ws.getD i []).map some := by
        unfold whole
        rw [List.getD_eq_getElem?_getD, List.getElem?_map, List.getD_eq_getElem?_getD]
        cases ws[i]? <;> rfl
      rw [this, wid_some]
    show colsTo ws i ++ rowCols (ws.getD i []) (widW (ws.getD i [])) = (plN (whole ws) i ++ (List.range (wid ((whole ws).getD i [])).toNat).map fun (j : Nat) => (i, j)).map _
    rw [plN_cols ws i, e, Int.toNat_natCast, List.map_append, List.map_map]
    rfl
theorem plN_same {a b : List (List (List Nat))} (hw : ∀ i, widW (a.getD i []) = widW (b.getD i [])) : ∀ i, plN (whole a) i = plN (whole b) i
  | 0 => rfl
  | i + 1 => by
    have e : ∀ ws : List (List (List Nat)), wid ((whole ws).getD i []) = (widW (ws.getD i []) : Nat) := fun ws => by
      have : (whole ws).getD i [] = (ws.getD i []).map some := by
        unfold whole
        rw [List.getD_eq_getElem?_getD, List.getElem?_map, List.getD_eq_getElem?_getD]
        cases ws[i]? <;> rfl
      rw [this, wid_some]
    show plN (whole a) i ++ (List.range (wid ((whole a).getD i [])).toNat).map (fun (j : Nat) => (i, j)) = plN (whole b) i ++ (List.range (wid ((whole b).getD i [])).toNat).map fun (j : Nat) => (i, j)
    rw [plN_same hw i, e, e, hw i]
theorem whole_len (ws : List (List (List Nat))) : (whole ws).length = ws.length := List.length_map _
theorem whole_join (a b : List (List (List Nat))) : joinC (whole a) (whole b) = whole (joinW a b) := by
  unfold joinC joinW whole
  rw [List.zipWith_map_left, List.zipWith_map_right, List.map_zipWith]
  congr 1
  funext r q
  exact (List.map_append).symm
theorem pl_cols (ws : List (List (List Nat))) : (places (whole ws) (whole ws).length).length = (cols ws).length := by
  rw [places_nat, List.length_map, whole_len]
  unfold cols
  rw [plN_cols, List.length_map]
theorem pl_at {ws : List (List (List Nat))} {k : Nat} {c : List Nat} (h : (cols ws)[k]? = some c) : ∃ (i j : Nat), (places (whole ws) (whole ws).length)[k]? = some (.int (i : Nat), .int (j : Nat)) ∧ c = colAt (ws.getD i []) j ∧ i < ws.length ∧ j < widW (ws.getD i []) := by
  unfold cols at h
  rw [plN_cols, List.getElem?_map] at h
  cases z : (plN (whole ws) ws.length)[k]? with
  | none =>
    rw [z] at h
    cases h
  | some p =>
    rw [z] at h
    have gen : ∀ n, ∀ q ∈ plN (whole ws) n, q.1 < n ∧ q.2 < widW (ws.getD q.1 []) := by
      intro n
      induction n with
      | zero => exact fun q h => absurd h List.not_mem_nil
      | succ n ih =>
        intro q hq
        have hq : q ∈ plN (whole ws) n ++ (List.range (wid ((whole ws).getD n [])).toNat).map (fun (j : Nat) => (n, j)) := hq
        rcases List.mem_append.mp hq with hq | hq
        · have := ih q hq
          exact ⟨by omega, this.2⟩
        · obtain ⟨j, hj, rfl⟩ := List.mem_map.mp hq
          have hj := List.mem_range.mp hj
          have e : wid ((whole ws).getD n []) = (widW (ws.getD n []) : Nat) := by
            have : (whole ws).getD n [] = (ws.getD n []).map some := by
              unfold whole
              rw [List.getD_eq_getElem?_getD, List.getElem?_map, List.getD_eq_getElem?_getD]
              cases ws[n]? <;> rfl
            rw [this, wid_some]
          rw [e, Int.toNat_natCast] at hj
          exact ⟨Nat.lt_succ_self _, hj⟩
    obtain ⟨g1, g2⟩ := gen _ p (List.mem_of_getElem? z)
    refine ⟨p.1, p.2, ?_, (Option.some.inj h).symm, g1, g2⟩
    rw [places_nat, whole_len, List.getElem?_map, z]
    rfl
section
variable {P : Program} {w : World} {K : PySem.W.Frag} {mg : Str → Option Value} {base : Heap}
variable {cs : Nat → Addr} {C Z : Addr}
@[irreducible] def hZero (K : PySem.W.Frag) (cs : Nat → Addr) (C : Addr) : Sp := spZero K cs C
theorem hZero_eq {K : PySem.W.Frag} {cs : Nat → Addr} {C : Addr} : hZero K cs C = spZero K cs C := by
  unfold hZero
  rfl
@[irreducible] def hJoined (K : PySem.W.Frag) (cs : Nat → Addr) (C : Addr) : Sp := spJoined K cs C
theorem hJoined_eq {K : PySem.W.Frag} {cs : Nat → Addr} {C : Addr} : hJoined K cs C = spJoined K cs C := by
  unfold hJoined
  rfl
/-- a whole sheet that can be asked of -/
structure Wsh (K : PySem.W.Frag) (C : Addr) (H : Hp) (x : Addr) (names : List (List Nat)) (ws : List (List (List Nat))) : Prop where
  at_ : SheetAt K C H x names (whole ws)
  ok : ShOk names (whole ws)
theorem Wsh.sm {H H' : Hp} {x : Addr} {names : List (List Nat)} {ws : List (List (List Nat))} (s : Same H H') (h : Wsh K C H x names ws) : Wsh K C H' x names ws := ⟨sheet_kx (y := x) s h.at_, h.ok⟩
theorem zero_use {H : Hp} {Q : VK} {E : XK} {y : Addr} {names : List (List Nat)} {ws : List (List (List Nat))} (h : Wsh K C H y names ws) (k : ∀ H' p, Same H H' → TupF H' p (inV' (zeroL (cols ws))) → Q (.ref p) H') : hZero K cs C [.ref y] H Q E := by
  rw [hZero_eq]
  exact ⟨_, rfl, .inr (.inr ⟨y, names, ws, rfl, h.at_, h.ok, k⟩)⟩
theorem wsh_fld {H : Hp} {x : Addr} {names : List (List Nat)} {ws : List (List (List Nat))} (h : Wsh K C H x names ws) {m : Str} (hm : (["languages", "rows", "places", "gaps", "is_whole"] : List Str).all (fun n => !(m == n)) = true) : ∃ a dx fs, V.ref x = V.ref a ∧ H a = some (.ins C dx fs) ∧ fs.lookup m = none := by
  obtain ⟨dx, tl, tr, tp, tg, xs, ts, gs, hx, _⟩ := h.at_
  refine ⟨x, dx, _, rfl, hx, ?_⟩
  simp only [List.all_cons, List.all_nil, Bool.and_true, Bool.and_eq_true, Bool.not_eq_true', List.lookup_cons] at hm ⊢
  obtain ⟨h1, h2, h3, h4, h5⟩ := hm
  rw [h1, h2, h3, h4, h5]
  rfl
theorem metx_to {P : Program} {w : World} {K : PySem.W.Frag} {mg : Str → Option Value} {base : Heap} {k : Nat} {C : Addr} {m : Str} {ps : List Str} {sp sp' : Sp} (M : K7Y.MetX P w K mg base k C m ps sp) (e : sp' = sp) : K7Y.MetX P w K mg base k C m ps sp' := by
  rw [e]
  exact M
/-- sheets that may stand beside one another -/
structure Side (n1 n2 : List (List Nat)) (w1 w2 : List (List (List Nat))) : Prop where
  len : w1.length = w2.length
  wid : ∀ i, widW (w1.getD i []) = widW (w2.getD i [])
  dis : ∀ l ∈ n2, l ∉ n1
  ok : ShOk (n1 ++ n2) (whole (joinW w1 w2))
theorem joined_use {H : Hp} {Q : VK} {E : XK} {x y : Addr} {n1 n2 : List (List Nat)} {w1 w2 : List (List (List Nat))} (h1 : Wsh K C H x n1 w1) (h2 : Wsh K C H y n2 w2) (d : Side n1 n2 w1 w2) (k : ∀ H' z, Same H H' → Wsh K C H' z (n1 ++ n2) (joinW w1 w2) → Q (.ref z) H') : hJoined K cs C [.ref x, .ref y] H Q E := by
  rw [hJoined_eq]
  have a6 := h1.ok.r6
  have b6 := h2.ok.r6
  have a4 := h1.ok.n4
  have b4 := h2.ok.n4
  have el := d.len
  rw [whole_len] at a6 b6
  refine ⟨x, y, n1, whole w1, n2, whole w2, rfl, h1.at_, h2.at_, by rw [whole_len]; omega, by rw [whole_len, whole_len]; omega, by omega, by omega, fun r hr => by rw [h1.ok.rl r hr]; omega, fun r hr => by rw [h2.ok.rl r hr]; omega, d.dis, ?_, by rw [whole_join]; exact d.ok, fun H' z s _ sh => k H' z s ⟨by rw [← whole_join]; exact sh, d.ok⟩⟩
  rw [whole_len, whole_len, ← d.len]
  exact plN_same d.wid _
end
end K6
namespace K6
open PySem PySem.Spec PyProof.Rows L2 K0 K4
section
variable {P : Program} {w : World} {K : PySem.W.Frag} {mg : Str → Option Value} {base : Heap}
variable {cs : Nat → Addr} {C Z : Addr}
theorem wid_join {a b : List (List (List Nat))} (hl : a.length = b.length) (hne : ∀ r ∈ a, r ≠ []) (i : Nat) : widW ((joinW a b).getD i []) = widW (a.getD i []) := by
  unfold joinW
  rw [List.getD_eq_getElem?_getD, List.getElem?_zipWith, List.getD_eq_getElem?_getD]
  rcases Nat.lt_or_ge i a.length with q | q
  · have ea := List.getElem?_eq_getElem q
    rw [ea, List.getElem?_eq_getElem (show i < b.length by omega)]
    obtain ⟨c, r, e⟩ := List.exists_cons_of_ne_nil (hne _ (List.getElem_mem q))
    rw [e]
    rfl
  · rw [List.getElem?_eq_none q]
theorem eqv_dInts (a b : List Nat) : PyData.eqv (dInts a) (dInts b) = decide (a = b) := by
  unfold dInts
  rw [PyData.eqv, eqvAll_mapD tells_nat.eq]
theorem sh_dInts (l : List Nat) : SeqAt.shaped (dInts l) = true := by
  refine shaped_of ?_ ?_
  · unfold dInts PyData.canLay0
    exact lay_all fun n _ => tells_nat.lay n
  · unfold dInts PyData.depth
    have := depth_all (b := 8) (d := fun n : Nat => PyData.int (n : Nat)) (xs := l) fun n _ => tells_nat.dep n
    omega
theorem dp_ints {H : Hp} {p : Addr} {l : List Nat} (h : SqT K H p (inV' l)) : Dp K H (.ref p) (dInts l) := .tup h (dpa fun n _ => .int _)
theorem eqv_sign (a b : Nat) : PyData.eqv (.str (Tx [a])) (.str (Tx [b])) = decide (a = b) := by
  rw [PyData.eqv]
  by_cases h : a = b
  · rw [h, decide_eq_true rfl]
    exact beq_self_eq_true _
  · rw [decide_eq_false h]
    refine beq_eq_false_iff_ne.mpr fun z => h ?_
    have := tx_inj z
    exact (List.cons.inj this).1
theorem eqv_dCol (a b : List Nat) : PyData.eqv (dCol a) (dCol b) = decide (a = b) := by
  unfold dCol
  rw [PyData.eqv, eqvAll_mapD (d := fun s : Nat => PyData.str (Tx [s])) eqv_sign]
theorem lay_col {c : List Nat} (h : ∀ s ∈ c, s < 1114112) : PyData.canLay0 (dCol c) = true := by
  unfold dCol PyData.canLay0
  exact lay_all fun s hs => str_low (l := [s]) fun d hd => by
    rw [List.mem_singleton.mp hd]
    exact h s hs
theorem dep_col (c : List Nat) : (dCol c).depth ≤ 8 := by
  unfold dCol PyData.depth
  have := depth_all (b := 1) (d := fun s : Nat => PyData.str (Tx [s])) (xs := c) fun s _ => by
    unfold PyData.depth
    omega
  omega
theorem cols_low {names : List (List Nat)} {ws : List (List (List Nat))} (h : ShOk names (whole ws)) : ∀ c ∈ cols ws, ∀ s ∈ c, s < 1114112 := fun c hc s hs => by
  obtain ⟨k, hk, e⟩ := List.getElem_of_mem hc
  obtain ⟨i, j, _, e2, e3, e4⟩ := pl_at (show (cols ws)[k]? = some c by rw [List.getElem?_eq_getElem hk, e])
  have eg : ws.getD i [] = ws[i] := by rw [List.getD_eq_getElem?_getD, List.getElem?_eq_getElem e3]; rfl
  rw [eg] at e2
  subst e2
  obtain ⟨l, hl, rfl⟩ := List.mem_map.mp hs
  have hc := (h.rc (ws[i].map some) (List.mem_map.mpr ⟨_, List.getElem_mem e3, rfl⟩) l (List.mem_map.mpr ⟨l, hl, rfl⟩)).1
  rw [List.getD_eq_getElem?_getD]
  cases z : l[j]? with
  | none => decide
  | some d => exact cel_low hc d (List.mem_of_getElem? z)
theorem max_uniq {l : List (List Nat)} {m : Int} (hm : m ∈ (zeroL l).map fun (n : Nat) => (n : Int)) (hle : ∀ y ∈ (zeroL l).map (fun (n : Nat) => (n : Int)), y ≤ m) : m + 1 = ((uniq l).length : Nat) := by
  obtain ⟨n, hn, rfl⟩ := List.mem_map.mp hm
  obtain ⟨c, hc, rfl⟩ := List.mem_map.mp hn
  have h1 := (List.getElem?_eq_some_iff.mp (idx_get (uniq_mem.mpr hc))).1
  have hlast : (uniq l).length - 1 < (uniq l).length := by omega
  have hU := List.getElem?_eq_getElem hlast
  have hmem := uniq_mem.mp (List.mem_of_getElem? hU)
  have h2 := hle _ (List.mem_map.mpr ⟨_, List.mem_map.mpr ⟨_, hmem, rfl⟩, rfl⟩)
  have h3 : (uniq l).idxOf (uniq l)[(uniq l).length - 1] = (uniq l).length - 1 := idx_at (uniq_nodup l) hU
  rw [h3] at h2
  omega
theorem at_uniq {l : List (List Nat)} {k : Nat} (hk : k < (uniq l).length) : ∃ (j : Nat) (c : List Nat), (((zeroL l).map fun (n : Nat) => (n : Int))[j]? = some (k : Int) ∧ ((zeroL l).map fun (n : Nat) => (n : Int)).idxOf (k : Int) = j) ∧ l[j]? = some c ∧ (uniq l)[k]? = some c := by
  have hU := List.getElem?_eq_getElem hk
  have hmem := uniq_mem.mp (List.mem_of_getElem? hU)
  have hin : (k : Int) ∈ (zeroL l).map fun (n : Nat) => (n : Int) := List.mem_map.mpr ⟨k, List.mem_map.mpr ⟨_, hmem, idx_at (uniq_nodup l) hU⟩, rfl⟩
  have hg := idxA_get hin
  refine ⟨_, (uniq l)[k], ⟨hg, rfl⟩, ?_, hU⟩
  have hg2 := hg
  generalize ((zeroL l).map fun (n : Nat) => (n : Int)).idxOf (k : Int) = j at hg2 ⊢
  rw [List.getElem?_map] at hg2
  unfold zeroL at hg2
  rw [List.getElem?_map] at hg2
  cases z : l[j]? with
  | none =>
    rw [z] at hg2
    cases hg2
  | some c =>
    rw [z] at hg2
    have e : (uniq l).idxOf c = k := Int.ofNat.inj (Option.some.inj hg2)
    have h1 := idx_get (uniq_mem.mpr (List.mem_of_getElem? z))
    rw [e, hU] at h1
    exact h1.symm
theorem cols_pos {names : List (List Nat)} {ws : List (List (List Nat))} (h : ShOk names (whole ws)) : 0 < (cols ws).length := by
  rw [← pl_cols, places_nat, List.length_map, whole_len]
  have h0 : 0 < ws.length := by
    have := h.r0
    cases ws with
    | nil => exact absurd rfl this
    | cons a b => exact Nat.succ_pos _
  obtain ⟨a, b, rfl⟩ := List.exists_cons_of_length_pos h0
  have ev := h.evenW (r := a) List.mem_cons_self
  obtain ⟨l, r, rfl⟩ := List.exists_cons_of_ne_nil ev.1
  have hc := (h.rc ((l :: r).map some) (List.mem_map.mpr ⟨_, List.mem_cons_self, rfl⟩) l List.mem_cons_self).1
  have hl : 0 < l.length := by
    unfold celOk at hc
    simp only [Bool.and_eq_true] at hc
    cases l with
    | nil => simp at hc
    | cons => exact Nat.succ_pos _
  have gen : ∀ i, 1 ≤ i → 0 < (plN (whole ((l :: r) :: b)) i).length := by
    intro i
    induction i with
    | zero => exact fun h => absurd h (by decide)
    | succ i ih =>
      intro _
      show 0 < (plN (whole ((l :: r) :: b)) i ++ (List.range (wid ((whole ((l :: r) :: b)).getD i [])).toNat).map fun (j : Nat) => (i, j)).length
      rw [List.length_append]
      rcases Nat.eq_zero_or_pos i with rfl | q
      · rw [List.length_map, List.length_range]
        have : wid ((whole ((l :: r) :: b)).getD 0 []) = (widW (l :: r) : Nat) := wid_some (l :: r)
        rw [this, Int.toNat_natCast]
        show 0 < _ + l.length
        omega
      · have := ih q
        omega
  exact gen _ h0
end
end K6
namespace K6
open PySem PySem.Spec PyProof.Rows L2 K0 K4
def widths (ws : List (List (List Nat))) : List Nat := ws.map widW
def rowsW (ws : List (List (List Nat))) : List (List Nat) := ws.flatMap fun r => rowCols r (widW r)
theorem cols_flat (ws : List (List (List Nat))) : cols ws = rowsW ws := by
  have gen : ∀ i, i ≤ ws.length → colsTo ws i = rowsW (ws.take i) := by
    intro i
    induction i with
    | zero => exact fun _ => rfl
    | succ i ih =>
      intro hi
      have e := List.getElem?_eq_getElem (show i < ws.length by omega)
      show colsTo ws i ++ rowCols (ws.getD i []) (widW (ws.getD i [])) = _
      rw [ih (by omega), List.take_succ, e, List.getD_eq_getElem?_getD, e]
      unfold rowsW
      rw [List.flatMap_append]
      simp
  unfold cols
  rw [gen ws.length (Nat.le_refl _), List.take_length]
end K6
namespace K6
open PySem PySem.Spec PyProof.Rows L2 K0 K4
theorem cel_of {l : List Nat} (h0 : l ≠ []) (h : ∀ c ∈ l, (isaz c || decide (c = 45)) = true) : celOk l = true := by
  unfold celOk
  rw [decide_eq_false h0]
  show lw _ = true
  unfold lw
  refine List.all_eq_true.mpr fun c hc => ?_
  obtain ⟨h1, h2⟩ := List.mem_filter.mp hc
  have := h c h1
  have h2 : c ≠ 45 := of_decide_eq_true h2
  rw [decide_eq_false h2, Bool.or_false] at this
  exact this
theorem widW_of {many n : Nat} {r : List (List Nat)} (h : RowOk many n r) (hm : 1 ≤ many) : widW r = n := by
  obtain ⟨a, b, rfl⟩ := List.exists_cons_of_length_pos (show 0 < r.length by rw [h.1]; omega)
  exact (h.2 a List.mem_cons_self).1
theorem rows_at {many : Nat} {sh : List Nat} {ws : List (List (List Nat))} (h : RowsOk many sh ws) {r : List (List Nat)} (hr : r ∈ ws) : ∃ n ∈ sh, RowOk many n r := by
  obtain ⟨i, hi, e⟩ := List.getElem_of_mem hr
  have hs := List.getElem?_eq_getElem (show i < sh.length by rw [← h.1]; exact hi)
  exact ⟨_, List.mem_of_getElem? hs, h.2 i _ r hs (by rw [List.getElem?_eq_getElem hi, e])⟩
theorem widths_of {many : Nat} {sh : List Nat} {ws : List (List (List Nat))} (h : RowsOk many sh ws) (hm : 1 ≤ many) : widths ws = sh := by
  refine List.ext_getElem? fun i => ?_
  unfold widths
  rw [List.getElem?_map]
  rcases Nat.lt_or_ge i ws.length with q | q
  · have e := List.getElem?_eq_getElem q
    have e2 := List.getElem?_eq_getElem (show i < sh.length by rw [← h.1]; exact q)
    rw [e, e2]
    exact congrArg some (widW_of (h.2 i _ _ e2 e) hm)
  · rw [List.getElem?_eq_none q, List.getElem?_eq_none (by rw [← h.1]; exact q)]
    rfl
theorem rowsW_ok {many : Nat} {sh : List Nat} {ws : List (List (List Nat))} {names : List (List Nat)} (h : RowsOk many sh ws) (hm : 1 ≤ many) (h0 : sh ≠ []) (h6 : sh.length ≤ 6) (hp : ∀ n ∈ sh, 1 ≤ n ∧ n ≤ 12) (hs : sh.sum ≤ 12)
    (n1 : names.length = many) (n2 : ∀ l ∈ names, nmOk l = true) (n3 : names.Nodup) (n4 : names.length ≤ 4) : ShOk names (whole ws) := by
  have one : ∀ r ∈ whole ws, ∃ r0, r = r0.map some ∧ r0 ∈ ws ∧ ∃ n ∈ sh, RowOk many n r0 := fun r hr => by
    obtain ⟨r0, h1, rfl⟩ := List.mem_map.mp hr
    exact ⟨r0, rfl, h1, rows_at h h1⟩
  refine ⟨fun z => ?_, n2, n3, n4, fun z => ?_, by rw [whole_len, h.1]; exact h6, fun r hr => ?_, fun r hr l hl => ?_, fun r hr => ?_, ?_⟩
  · rw [z] at n1
    simp at n1
    omega
  · have := congrArg List.length z
    rw [whole_len, h.1] at this
    exact h0 (List.length_eq_zero_iff.mp this)
  · obtain ⟨r0, rfl, _, n, _, ho⟩ := one r hr
    rw [List.length_map, ho.1, n1]
  · obtain ⟨r0, rfl, _, n, hn, ho⟩ := one r hr
    obtain ⟨l', hl', e⟩ := List.mem_map.mp hl
    cases e
    obtain ⟨e1, e2⟩ := ho.2 l hl'
    obtain ⟨p1, p2⟩ := hp n hn
    refine ⟨cel_of (fun z => by rw [z] at e1; simp at e1; omega) e2, by omega⟩
  · obtain ⟨r0, rfl, _, n, hn, ho⟩ := one r hr
    rw [lens_some]
    have hl : 0 < r0.length := by rw [ho.1]; omega
    refine ⟨fun z => by have := congrArg List.length z; rw [List.length_map] at this; simp at this; rw [this] at hl; simp at hl, ?_⟩
    unfold evenB
    rw [lens_some]
    obtain ⟨a, b, rfl⟩ := List.exists_cons_of_length_pos hl
    show (b.map fun l => (l.length : Int)).all (fun n => decide (n = (a.length : Int))) = true
    refine List.all_eq_true.mpr fun m hm2 => ?_
    obtain ⟨l, hl2, rfl⟩ := List.mem_map.mp hm2
    have e1 := (ho.2 l (List.mem_cons_of_mem _ hl2)).1
    have e2 := (ho.2 a List.mem_cons_self).1
    exact decide_eq_true (by omega)
  · have e : (whole ws).map wid = (widths ws).map fun (n : Nat) => (n : Int) := by
      unfold whole widths
      rw [List.map_map, List.map_map]
      exact List.map_congr_left fun r _ => wid_some r
    have hsum : ∀ l : List Nat, (l.map fun (n : Nat) => (n : Int)).sum = (l.sum : Nat) := fun l => by
      induction l with
      | nil => rfl
      | cons a b ih =>
        rw [List.map_cons, List.sum_cons, List.sum_cons, ih]
        omega
    rw [e, hsum, widths_of h hm]
    omega
/-- rows of one shape, one behind the other -/
theorem rowsOk_join {m1 m2 : Nat} {sh : List Nat} {w1 w2 : List (List (List Nat))} (h1 : RowsOk m1 sh w1) (h2 : RowsOk m2 sh w2) : RowsOk (m1 + m2) sh (joinW w1 w2) := by
  refine ⟨by unfold joinW; rw [List.length_zipWith, h1.1, h2.1, Nat.min_self], fun i n r hn hr => ?_⟩
  unfold joinW at hr
  rw [List.getElem?_zipWith_eq_some] at hr
  obtain ⟨a, b, ha, hb, rfl⟩ := hr
  have o1 := h1.2 i n a hn ha
  have o2 := h2.2 i n b hn hb
  refine ⟨by rw [List.length_append, o1.1, o2.1], fun l hl => ?_⟩
  rcases List.mem_append.mp hl with hl | hl
  · exact o1.2 l hl
  · exact o2.2 l hl
theorem widths_at (ws : List (List (List Nat))) (i : Nat) : widW (ws.getD i []) = (widths ws).getD i 0 := by
  unfold widths
  rw [List.getD_eq_getElem?_getD, List.getD_eq_getElem?_getD, List.getElem?_map]
  cases ws[i]? <;> rfl
theorem side_of {m1 m2 : Nat} {sh : List Nat} {w1 w2 : List (List (List Nat))} {n1 n2 : List (List Nat)} (h1 : RowsOk m1 sh w1) (h2 : RowsOk m2 sh w2) (hm1 : 1 ≤ m1) (hm2 : 1 ≤ m2) (h0 : sh ≠ []) (h6 : sh.length ≤ 6) (hp : ∀ n ∈ sh, 1 ≤ n ∧ n ≤ 12) (hs : sh.sum ≤ 12)
    (l1 : n1.length = m1) (l2 : n2.length = m2) (ok : ∀ l ∈ n1 ++ n2, nmOk l = true) (nd : (n1 ++ n2).Nodup) (l4 : m1 + m2 ≤ 4) : Side n1 n2 w1 w2 := by
  refine ⟨h1.1.trans h2.1.symm, fun i => by rw [widths_at, widths_at, widths_of h1 hm1, widths_of h2 hm2], fun l h2' h1' => ?_, rowsW_ok (rowsOk_join h1 h2) (by omega) h0 h6 hp hs (by rw [List.length_append, l1, l2]) ok nd (by rw [List.length_append, l1, l2]; exact l4)⟩
  rw [List.nodup_append] at nd
  exact nd.2.2 l h1' l h2' rfl
end K6
namespace K6
open PySem PySem.Spec PyProof.Rows L2 K0 K4
theorem colsTo_mono (ws : List (List (List Nat))) (i : Nat) : ∀ k, (colsTo ws i).length ≤ (colsTo ws (i + k)).length
  | 0 => Nat.le_refl _
  | k + 1 => by
    have := colsTo_mono ws i k
    show _ ≤ (colsTo ws (i + k) ++ _).length
    rw [List.length_append]
    omega
theorem cols_app {H : Hp} {ts t2 : List V} {cl c2 : List (List Nat)} (h : Cols H ts cl) (g : Cols H t2 c2) : Cols H (ts ++ t2) (cl ++ c2) := ⟨by rw [List.length_append, List.length_append, h.1, g.1], fun i t d h1 h2 => by
  rcases Nat.lt_or_ge i ts.length with q | q
  · rw [List.getElem?_append_left q] at h1
    rw [List.getElem?_append_left (by rw [← h.1]; exact q)] at h2
    exact h.2 i t d h1 h2
  · rw [List.getElem?_append_right q] at h1
    rw [List.getElem?_append_right (by rw [← h.1]; exact q), ← h.1] at h2
    exact g.2 _ t d h1 h2⟩
section
variable {P : Program} {w : World} {K : PySem.W.Frag} {mg : Str → Option Value} {base : Heap}
variable {cs : Nat → Addr} {C : Addr}
abbrev st_l_column : Stmt := top 90
abbrev nm_l_column : List Str := ["_law_rows_here", "_law_row", "_law_at", "_law_cells"]
theorem sc_l_column : FnScope nm_l_column ["_law_rows_here", "_law_row", "_law_at"] (defScope st_l_column) := ⟨rfl, rfl, rfl, by decide +kernel, rfl, by decide +kernel, by decide +kernel⟩
def spLColumn (K : PySem.W.Frag) : Sp := fun vs H Q _ => ∃ (a p : Addr) (xs : List V) (ws : List (List (List Nat))) (r at_ : Nat) (row : List (List Nat)), vs = [.ref a, .int (r : Nat), .int (at_ : Nat)] ∧ SqL K H a xs ∧ RowsL H p xs ws ∧ ws[r]? = some row ∧ row.length ≤ 1000 ∧ (∀ l ∈ row, at_ < l.length ∧ l.length ≤ 1000) ∧
  ∀ H' t, Same H H' → H t = none → H' t = some (.tup (colV (colAt row at_))) → Q (.ref t) H'
theorem ok_lcolumn {f : Addr} {fd : FuncData} (F : Fun K "_law_column" "_law_column" st_l_column f fd) (T : Blt mg) : FnOk P w K mg base CX0 1 f fd ["_law_rows_here", "_law_row", "_law_at"] (spLColumn K) := by
  refine F.ok sc_l_column (fun vs H Q E h => ?_) (fun cdv A outer s H vs Q E hr h => ?_)
  · obtain ⟨a, p, xs, ws, r, at_, row, rfl, _⟩ := h
    rfl
  · refine ⟨_, (pss_one (ps_ret (pe_callTy call_tuple_of (by rfl) T.n_tuple (by decide +kernel) (pa_cons (pe_lc (own := [("_law_cells", 3)]) (g := (gName 3)) (tt := tYes) rfl sc_l_column.nd (pi_list (pe_ix ix_list (pv 0) (pv 1) (fun _ _ => rfl))) (blkOk_by (N := nm_l_column) (sc := defScope st_l_column) (own := [("_law_cells", 3)]) (by decide +kernel)) (fun _ _ _ _ _ => by exact pg_name (i := 3) sc_l_column.nd rfl (Or.inl rfl)) (fun _ _ _ _ _ => pts_nil) (fun _ _ _ _ _ => (pe_ix ix_str (pv 3) (pv 2) (fun _ _ => rfl)))) pa_nil)))), ?_⟩
    obtain ⟨a, p, xs, ws, r, at_, row, rfl, ha, hR, hw, hl, hc, q⟩ := h
    have hlt := (List.getElem?_eq_some_iff.mp hw).1
    have hx := List.getElem?_eq_getElem (show r < xs.length by rw [hR.1]; exact hlt)
    obtain ⟨b, eb, hb, _⟩ := hR.2 r _ _ hx hw
    rw [eb] at hx
    refine ⟨_, rfl, _, rfl, a, xs, (r : Nat), _, rfl, rfl, ha, atI_nat hx, b, rfl, ⟨_, SqL.of hb⟩, fun D hD => ?_⟩
    refine lc_it walk_list (SPv H D fun i => (colV (colAt row at_)).take i) (spv0 hD rfl) (fun i H' _ p => SqL.of (p.1 _ _ hb)) ?_ ?_
    · rintro i z H4 H5 hi pp ⟨rfl, hz⟩
      obtain ⟨l, hil, rfl⟩ := tws_at hz
      have hm := hc l (List.mem_of_getElem? hil)
      have hcl := List.getElem?_eq_getElem hm.1
      have hil2 := (List.getElem?_eq_some_iff.mp hil).1
      refine ⟨rfl, _, rfl, _, rfl, Tx l, (at_ : Nat), l[at_]'hm.1, rfl, rfl, ?_, ?_, spv_put hD pp.1 pp.2 ?_ ?_⟩
      · have : (Tx l).length = l.length := by simp [Tx, Str.length]
        rw [this]
        show _ ≤ 2 ^ 24
        omega
      · have : (Tx l).cps.toList = l := by simp [Tx]
        rw [this]
        exact atI_nat hcl
      · unfold colV colAt
        rw [List.length_take, List.length_map, List.length_map]
        omega
      · unfold colV colAt
        rw [List.take_succ, List.getElem?_map, List.getElem?_map, hil]
        show _ = _ ++ [V.str ⟨#[l[at_]'hm.1]⟩]
        rw [show l[at_]'hm.1 = l.getD at_ 0 by rw [List.getD_eq_getElem?_getD, hcl]; rfl]
        rfl
    · rintro H5 ⟨p5, hD5⟩
      have hD5 : H5 D = some (.lst ((colV (colAt row at_)).take (tws row).length)) := hD5
      rw [List.take_of_length_le (by unfold colV colAt tws; rw [List.length_map, List.length_map, List.length_map]; exact Nat.le_refl _)] at hD5
      refine ⟨D, _, rfl, .inl ⟨SqL.of hD5, fun l hl => ?_⟩⟩
      exact q _ l (p5.trans (Sm.new hl)) (p5.free hl) upd_same
abbrev CLC (P : Program) (w : World) (K : PySem.W.Frag) (mg : Str → Option Value) (base : Heap) : Prop := Cal P w K mg base 1 "_law_column" st_l_column ["_law_rows_here", "_law_row", "_law_at"] (spLColumn K)
@[irreducible] def hLCol (K : PySem.W.Frag) : Sp := spLColumn K
theorem hLCol_eq {K : PySem.W.Frag} : hLCol K = spLColumn K := by
  unfold hLCol
  rfl
abbrev st_l_columns : Stmt := top 91
abbrev nm_l_columns : List Str := ["_law_rows_here", "_law_found", "_law_row", "_law_cells", "_law_at"]
theorem sc_l_columns : FnScope nm_l_columns ["_law_rows_here"] (defScope st_l_columns) := ⟨rfl, rfl, rfl, by decide +kernel, rfl, by decide +kernel, by decide +kernel⟩
def spLColumns (K : PySem.W.Frag) : Sp := fun vs H Q _ => ∃ (a p : Addr) (xs : List V) (names : List (List Nat)) (ws : List (List (List Nat))), vs = [.ref a] ∧ SqL K H a xs ∧ RowsL H p xs ws ∧ ShOk names (whole ws) ∧
  ∀ H' t ts, Same H H' → H t = none → H' t = some (.lst ts) → Cols H' ts (cols ws) → Q (.ref t) H'
theorem ok_lcolumns {f : Addr} {fd : FuncData} (F : Fun K "_law_columns" "_law_columns" st_l_columns f fd) (T : Blt mg) (C__law_column : CLC P w K mg base) : FnOk P w K mg base CX0 2 f fd ["_law_rows_here"] (spLColumns K) := by
  have C__law_column := cal_to' C__law_column hLCol_eq
  refine F.ok sc_l_columns (fun vs H Q E h => ?_) (fun cdv A outer s H vs Q E hr h => ?_)
  · obtain ⟨a, p, xs, names, ws, rfl, _⟩ := h
    rfl
  · refine ⟨_, (pss_cons (ps_set (i := 1) sc_l_columns.nd rfl (Or.inl rfl) (pe_lst pa_nil))
  (pss_cons (ps_for PassesOwn.never rfl (pi_enum (by rfl) T.n_enumerate (pa_cons (pv 0) pa_nil)) (pg_tup rfl (pgs_cons (pg_name (i := 2) sc_l_columns.nd rfl (Or.inr rfl)) (pgs_cons (pg_name (i := 3) sc_l_columns.nd rfl (Or.inl rfl)) pgs_nil))) (pss_one (ps_expr (pe_bm PySem.F.plainAttrs_list PySem.F.slot_list_extend PySem.F.type_list_extend mt_extend (pv 1) (pa_cons (pe_lc (own := [("_law_at", 4)]) (g := (gName 4)) (tt := tYes) rfl sc_l_columns.nd (pi_range1 rfl T.n_range (pa_cons (pe_callB call_len_str (by rfl) T.n_len (by decide +kernel) (pa_cons (pe_ix ix_list (pv 3) pe_int (fun _ _ => rfl)) pa_nil)) pa_nil)) (blkOk_by (N := nm_l_columns) (sc := defScope st_l_columns) (own := [("_law_at", 4)]) (by decide +kernel)) (fun _ _ _ _ _ => by exact pg_name (i := 4) sc_l_columns.nd rfl (Or.inl rfl)) (fun _ _ _ _ _ => pts_nil) (fun _ _ _ _ _ => (pe_cl C__law_column (hr.mono (by decide)) rfl (pa_cons (pv 0) (pa_cons (pv 2) (pa_cons (pv 4) pa_nil)))))) pa_nil)))))
  (pss_one (ps_ret (pv 1))))), ?_⟩
    obtain ⟨a, p, xs, names, ws, rfl, ha, hR, ok, q⟩ := h
    refine ⟨Nat.zero_le _, fun D hD => ?_⟩
    have s1 : Same H (upd H D (.lst [])) := Sm.new hD
    have e1 : (upd H D (.lst [])) D = some (.lst []) := upd_same
    generalize (upd H D (.lst [])) = H1 at s1 e1 ⊢
    refine ⟨_, rfl, a, xs, rfl, sm_l s1 ha, ?_⟩
    refine for_it walk_enum (fun i σ H' => (∃ v2 v3 v4, σ = [some (.ref a), some (.ref D), v2, v3, v4]) ∧ Same H H' ∧ ∃ ts, H' D = some (.lst ts) ∧ Cols H' ts (colsTo ws i)) ⟨⟨none, none, none, rfl⟩, s1, [], e1, cols_nil⟩ (fun i σ H' _ p => sm_l p.2.1 ha) ?_ ?_
    · rintro i v σ H2 H3 hi ⟨⟨v2, v3, v4, rfl⟩, p1, ts, p2, p3⟩ ⟨t, x, y, rfl, ht, rfl, hx, hy⟩
      cases hx
      have hi9 : i < ws.length := by
        have : i < xs.length := hi
        rw [hR.1] at this
        exact this
      have hw := List.getElem?_eq_getElem hi9
      obtain ⟨b, rfl, hb, _⟩ := hR.2 i y _ hy hw
      have ev := ok.evenW (List.getElem_mem hi9)
      have n4 := ok.n4
      obtain ⟨l0, r0, e0⟩ := List.exists_cons_of_ne_nil ev.1
      have s3 : Same H2 (upd H2 t (.tup [V.int (i : Nat), V.ref b])) := Sm.new ht
      have g3 : (upd H2 t (.tup [V.int (i : Nat), V.ref b])) t = some (.tup [V.int (i : Nat), V.ref b]) := upd_same
      generalize (upd H2 t (.tup [V.int (i : Nat), V.ref b])) = H3 at s3 g3 ⊢
      have p13 := p1.trans s3
      have hb3 := p13 _ _ hb
      have hD3 := s3 _ _ p2
      rw [e0] at hb3
      have tl0 : (Tx l0).length = l0.length := by simp [Tx, Str.length]
      have hl0 : l0.length = widW ws[i] := ev.2.1 l0 (by rw [e0]; exact List.mem_cons_self)
      refine ⟨t, _, rfl, SqT.of g3, rfl, _, _, rfl, _, _, rfl, rfl, ?_⟩
      refine ⟨_, rfl, .inl ⟨rfl, _, SqL.of hD3⟩, ?_⟩
      dsimp only [tCons, tNil]
      refine ⟨_, rfl, b, _, (0 : Nat), V.str (Tx l0), rfl, rfl, SqL.of hb3, atI_nat (j := 0) rfl, Tx l0, rfl, ?_, ((Tx l0).length : Nat), rfl, ?_, ?_, fun D4 hD4 => ?_⟩
      · rw [tl0]
        show _ ≤ 2 ^ 24
        omega
      · rw [tl0]
        omega
      · rw [tl0]
        omega
      have ecl : (rowCols ws[i] l0.length).length = l0.length := by
        unfold rowCols
        rw [List.length_map, List.length_range]
      rw [tl0]
      refine lc_it walk_range (fun m H' => Same H3 H' ∧ ∃ t2, H' D4 = some (.lst t2) ∧ Cols H' t2 ((rowCols ws[i] l0.length).take m)) ⟨Sm.new hD4, [], upd_same, cols_nil⟩ (fun _ _ _ _ => trivial) ?_ ?_
      · rintro m y H4 H5 hm ⟨q1, t2, q2, q3⟩ ⟨rfl, rfl⟩
        have hm : m < l0.length := by
          have : m < ((l0.length : Nat) : Int).toNat := hm
          omega
        refine ⟨rfl, _, rfl, _, rfl, _, rfl, ?_⟩
        show hLCol K [.ref a, .int (i : Nat), .int (0 + (m : Nat))] _ _ _
        rw [Int.zero_add, hLCol_eq]
        refine ⟨a, p, xs, ws, i, m, ws[i], rfl, sm_l (p13.trans q1) ha, rowsL_kp (KX.sm (p13.trans q1)) hR, hw, by rw [ev.2.2.1]; omega, fun l hl => ?_, fun H6 t6 s6 n6 e6 => ?_⟩
        · have := ev.2.1 l hl
          omega
        · refine ⟨t2, s6 _ _ q2, small_lt (by rw [q3.1, List.length_take]; omega), Sm.put (q1.trans s6) hD4, _, upd_same, ?_⟩
          have e : (rowCols ws[i] l0.length).take (m + 1) = (rowCols ws[i] l0.length).take m ++ [colAt ws[i] m] := by
            rw [List.take_succ]
            congr 1
            unfold rowCols
            rw [List.getElem?_map, List.getElem?_range hm]
            rfl
          rw [e]
          refine cols_snoc (cols_upd (s6 _ _ q2) (cols_sm s6 q3)) ?_
          exact (upd_ne fun z => by
            rw [z, s6 _ _ q2] at e6
            cases e6).trans e6
      · rintro H5 ⟨q1, t2, q2, q3⟩
        have q3 : Cols H5 t2 ((rowCols ws[i] l0.length).take ((l0.length : Nat) : Int).toNat) := q3
        rw [Int.toNat_natCast, List.take_of_length_le (by omega)] at q3
        have l1 : ts.length ≤ 1000 := by
          rw [p3.1]
          have m1 := colsTo_mono ws i (ws.length - i)
          rw [show i + (ws.length - i) = ws.length by omega] at m1
          have := cols_len6 ok
          exact Nat.le_trans m1 (Nat.le_trans this (by decide))
        refine ⟨D, D4, ts, t2, rfl, rfl, q1 _ _ hD3, q2, ?_, ⟨_, _, _, rfl⟩, ?_, _, upd_same, ?_⟩
        · rw [q3.1, ecl]
          show _ ≤ 2 ^ 24
          omega
        · exact Sm.put (p13.trans q1) hD
        · have e : colsTo ws (i + 1) = colsTo ws i ++ rowCols ws[i] l0.length := by
            show colsTo ws i ++ rowCols (ws.getD i []) (widW (ws.getD i [])) = _
            rw [List.getD_eq_getElem?_getD, hw, hl0]
            rfl
          rw [e]
          exact cols_upd (q1 _ _ hD3) (cols_app (cols_sm (s3.trans q1) p3) q3)
    · rintro σ H2 ⟨⟨v2, v3, v4, rfl⟩, p1, ts, p2, p3⟩
      have p3 : Cols H2 ts (colsTo ws xs.length) := p3
      rw [hR.1] at p3
      exact ⟨_, rfl, q H2 D ts p1 hD p2 p3⟩
end
end K6
namespace K6
open PySem PySem.Spec PyProof.Rows L2 K0 K4
section
variable {P : Program} {w : World} {K : PySem.W.Frag} {mg : Str → Option Value} {base : Heap}
variable {cs : Nat → Addr} {C Z : Addr}
theorem rows_rws {H : Hp} {p : Addr} {xs : List V} {ws : List (List (List Nat))} (h : RowsL H p xs ws) : Rws K H xs (whole ws) := ⟨by rw [whole_len]; exact h.1, fun i x r e1 e2 => by
  unfold whole at e2
  rw [List.getElem?_map] at e2
  cases z : ws[i]? with
  | none =>
    rw [z] at e2
    cases e2
  | some r0 =>
    rw [z] at e2
    obtain rfl := Option.some.inj e2
    obtain ⟨b, rfl, hb, _⟩ := h.2 i x r0 e1 z
    refine ⟨b, rfl, .inl (SqL.of ?_)⟩
    rw [hb]
    unfold tws
    rw [List.map_map]
    rfl⟩
theorem make_gd {b a : Addr} {names : List (List Nat)} {css : List (List Cell)} {xs : List V} {H : Hp} {Q : Addr → Hp → Prop} {E : XK} (h : ShOk names css) (hN : LTF K H b (tws names)) (hA : SqLT K H a xs) (hR : Rws K H xs css)
    (k : ∀ H' x, Same H H' → H x = none → SheetAt K C H' x names css → Q x H') : ∀ x dx, H x = none → H dx = none → dx ≠ x →
    spInitS K cs C (.ref x :: ([.ref b, .ref a] ++ [])) (upd (upd H dx (.own x)) x (.ins C dx [])) (fun v H2 => v = .non ∧ Q x H2) E := by
  intro x dx nx nd ne
  have s1 : Same H (upd (upd H dx (.own x)) x (.ins C dx [])) := fun c o e => by
    rw [upd_ne (ne_of_none e nx), upd_ne (ne_of_none e nd)]
    exact e
  exact init_good h (ltf_same s1 hN) (lt_same s1 hA) (rws_same s1 hR) upd_same fun H' kp sh => ⟨rfl, k H' x (fun c o e => kp c o (ne_of_none e nx) (s1 _ _ e)) nx sh⟩
theorem sqt_lst {H H' : Hp} {p t : Addr} {l xs : List V} (hp : H p = some (.lst l)) (k : KX p H H') (h : SqT K H t xs) : SqT K H' t xs := by
  rcases h with (h | ⟨o, h⟩) | h
  · exact .inl (.inl (k _ _ (fun z => by rw [z, hp] at h; cases h) h))
  · exact .inl (.inr ⟨o, k _ _ (fun z => by rw [z, hp] at h; cases h) h⟩)
  · exact .inr h
theorem prs_lst {H H' : Hp} {p : Addr} {l ts : List V} {ps : List (V × V)} (hp : H p = some (.lst l)) (k : KX p H H') (h : Prs H ts ps) : Prs H' ts ps := ⟨h.1, fun i t q e1 e2 => by
  obtain ⟨a, et, ea⟩ := h.2 i t q e1 e2
  exact ⟨a, et, k _ _ (fun z => by rw [z, hp] at ea; cases ea) ea⟩⟩
theorem sheet_lst {H H' : Hp} {p x : Addr} {l : List V} {names : List (List Nat)} {css : List (List Cell)} (hp : H p = some (.lst l)) (k : KX p H H') (h : SheetAt K C H x names css) : SheetAt K C H' x names css := by
  obtain ⟨dx, tl, tr, tp, tg, xs, ts, gs, e, ⟨o, g1, g2, g3⟩, h2, h3, h4, h5, h6, h7⟩ := h
  exact ⟨dx, tl, tr, tp, tg, xs, ts, gs, k _ _ (fun z => by rw [z, hp] at e; cases e) e, ⟨o, k _ _ (fun z => by rw [z, hp] at g1; cases g1) g1, g2, g3⟩, sqt_lst hp k h2, ⟨h3.1, fun i y r e1 e2 => let ⟨a, ex, hS⟩ := h3.2 i y r e1 e2; ⟨a, ex, sqt_lst hp k hS⟩⟩,
    k _ _ (fun z => by rw [z, hp] at h4; cases h4) h4, prs_lst hp k h5, k _ _ (fun z => by rw [z, hp] at h6; cases h6) h6, prs_lst hp k h7⟩
theorem wsh_kp {H H' : Hp} {p x : Addr} {T : Nat} {n : List (List Nat)} {ws : List (List (List Nat))} (r : RlAt H p T) (k : KX p H H') (h : Wsh K C H x n ws) : Wsh K C H' x n ws := by
  obtain ⟨w', t', m', e', _⟩ := r
  exact ⟨sheet_lst e' k h.at_, h.ok⟩
theorem sum3 : ∀ {l : List Nat}, (∀ n ∈ l, n ≤ 3) → l.sum ≤ 3 * l.length
  | [], _ => Nat.le_refl _
  | a :: r, h => by
    have h1 := sum3 (l := r) fun n hn => h n (List.mem_cons_of_mem _ hn)
    have h2 := h a List.mem_cons_self
    rw [List.sum_cons, List.length_cons]
    omega
end
end K6
namespace K6
open PySem PySem.Spec PyProof.Rows L2 K0 K4
theorem cols_sum (ws : List (List (List Nat))) : (cols ws).length = (widths ws).sum := by
  rw [cols_flat]
  unfold rowsW widths
  induction ws with
  | nil => rfl
  | cons r l ih =>
    rw [List.flatMap_cons, List.length_append, ih, List.map_cons, List.sum_cons]
    congr 1
    unfold rowCols
    rw [List.length_map, List.length_range]
theorem wid_someN (r : List (List Nat)) : wid (r.map some) = (widW r : Int) := by
  unfold wid
  rw [lens_some]
  cases r <;> rfl
theorem cols12 {n : List (List Nat)} {ws : List (List (List Nat))} (h : ShOk n (whole ws)) : (cols ws).length ≤ 12 := by
  have e : ((whole ws).map wid).sum = ((widths ws).sum : Nat) := by
    unfold whole widths
    rw [List.map_map]
    clear h
    induction ws with
    | nil => rfl
    | cons r l ih =>
      rw [List.map_cons, List.sum_cons, ih, List.map_cons, List.sum_cons]
      show wid (r.map some) + _ = _
      rw [wid_someN]
      omega
  have := h.rs
  rw [e] at this
  rw [cols_sum]
  omega
end K6
namespace K6
open PySem PySem.Spec PyProof.Rows L2 K0 K4
def kg1 {α : Type} : List α → List α → List α
  | [], [a] => [a]
  | _, _ => []
theorem rel1 {vs zs : List V} {us ws : List Value} (r : Vals vs us) (rz : Vals zs ws) : Vals (kg1 vs zs) (kg1 us ws) := by
  cases r with
  | cons x y => exact .nil
  | nil =>
    cases rz with
    | nil => exact .nil
    | cons a b =>
      cases b with
      | nil => exact .cons a .nil
      | cons c d => exact .nil
theorem kb1 {K : PySem.W.Frag} {x qual : Str} {st : Stmt} {f : Addr} {fd : FuncData} {p : Str} (F : Fun K x qual st f fd) (h : ∀ kV doc pm an cdv ct u, bindArgs (fOf x qual st kV doc pm an cdv ct) ⟨[], [(p, u)]⟩ = pure [(p, u)]) : KBinds K fd [p] [p] kg1 kg1 := by
  obtain ⟨oc, od, kV, doc, pm, an, cdv, ct, osl, rfl, lk, hcd⟩ := F.ex
  refine ⟨fun s us ws _ hl => ?_, rel1⟩
  match us, ws, hl with
  | [], [u], _ => exact .of_eq (h _ _ _ _ _ _ u)
def tCallN (sp : Sp) (gV : List V → List V → List V) (E : XK) (tk : TA) : TE := fun σ H Q => tk σ H fun zs H2 => sp (gV [] zs) H2 Q E
theorem pe_clN {X : Cx} {k : Nat} {x : Str} {st : Stmt} {ps ks : List Str} {sp : Sp} {E : XK} {kws : List Keyword} {tk : TA} {p pos : Pos} {g : List Value → List Value → List Value} {gV : List V → List V → List V} (C : CalX X.prog X.w X.K X.mg X.base k x st ps sp)
    (kb : ∀ {f fd}, Fun X.K x x st f fd → KBinds X.K fd ps ks g gV) (hx : Passes (L2.CX X.prog X.w) X E) (hr : Room k X.A) (hg : Gl X x) (hkw : PK X kws tk)
    (hall : (backToKw pos (keywordEach kws X.env)).all (·.1.isSome) = true := by rfl) (hks : (backToKw pos (keywordEach kws X.env)).filterMap (·.1) = ks := by rfl)
    (hdb : (x == ("__debug__" : Str)) = false := by decide) (hpl : ((backTo pos (starEach [] X.env)).any (·.1) || (backToKw pos (keywordEach kws X.env)).any (·.1.isNone)) = false := by rfl) :
    PE X (.Call (.Name x p) [] kws pos) (tCallN sp gV E tk) := by
  obtain ⟨f, fd, F, hm, hb, G⟩ := C.ex
  refine ⟨fun pins s σ H Q I h => ?_⟩
  refine wpAny_Call_Name_kw (ld_glob I hg hm ?_ hdb)
  refine PySem.W.callWith_KW0 (h₀ := X.base) I.ok.mod.kin F.kp hall (thn (hkw.run pos pins s σ H _ I h) fun ws s1 ⟨zs, H1, I1, rz, q1⟩ => ⟨I1.kIn, ?_⟩) hpl
  rw [hks]
  exact run_fnk G hr (kb F) hx I1 .nil rz q1
end K6
namespace K6
open PySem PySem.Spec PyProof.Rows L2 K0 K4
/-- no pair, or this one -/
def LjV (H : Hp) (u : V) (o : Option (Nat × Nat)) : Prop := (o = none ∧ u = .non) ∨ ∃ (i j : Nat) (t : Addr), o = some (i, j) ∧ u = .ref t ∧ H t = some (.tup [.int (i : Nat), .int (j : Nat)])
theorem LjV.sm {H H' : Hp} {u : V} {o : Option (Nat × Nat)} (s : Same H H') (h : LjV H u o) : LjV H' u o := by
  rcases h with h | ⟨i, j, t, h1, h2, h3⟩
  · exact .inl h
  · exact .inr ⟨i, j, t, h1, h2, s _ _ h3⟩
theorem LjV.non {H : Hp} {u : V} {o : Option (Nat × Nat)} (h : LjV H u o) : decide (u = V.non) = o.isNone := by
  rcases h with ⟨rfl, rfl⟩ | ⟨i, j, t, rfl, rfl, _⟩
  · rfl
  · rfl
section
variable {P : Program} {w : World} {K : PySem.W.Frag} {mg : Str → Option Value} {base : Heap}
variable {cs : Nat → Addr} {C : Addr}
theorem lj_tell {H : Hp} {Q : VK} {E : XK} {a b : Addr} {dy ot : List Nat} (hA : SqT K H a (inV' dy)) (hB : SqT K H b (inV' ot)) (hl : dy.length = ot.length) (h100 : dy.length ≤ 100)
    (k : ∀ u H', Same H H' → LjV H' u (ljR dy ot) → Q u H') : hLj K [.ref a, .ref b] H Q E := by
  rw [hLj_eq]
  exact ⟨a, b, dy, ot, rfl, hA, hB, hl, h100, fun e H1 s => k _ H1 s (.inl ⟨e, rfl⟩), fun i j e H1 p s _ hp => k _ H1 s (.inr ⟨i, j, p, e, rfl, hp⟩)⟩
def spComp (K : PySem.W.Frag) (cs : Nat → Addr) (C : Addr) : Sp := fun vs H Q E => ∃ v u, vs = [v, u] ∧ Whv K cs C "sheet" H E v fun _ _ ws => Whv K cs C "other" H E u fun _ _ ws2 =>
  (plN (whole ws) (whole ws).length ≠ plN (whole ws2) (whole ws2).length → Rq cs 2 [("part", .str "places")] H E) ∧
  (plN (whole ws) (whole ws).length = plN (whole ws2) (whole ws2).length → (zeroL (cols ws)).length = (zeroL (cols ws2)).length ∧
    ∀ H' p i j, Same H H' → H p = none → LjV H' i (ljR (zeroL (cols ws2)) (zeroL (cols ws))) → LjV H' j (ljR (zeroL (cols ws)) (zeroL (cols ws2))) →
      H' p = some (.tup [.str (standS (ljR (zeroL (cols ws2)) (zeroL (cols ws))).isNone (ljR (zeroL (cols ws)) (zeroL (cols ws2))).isNone), i, j]) → Q (.ref p) H')
theorem ok_comp {f : Addr} {fd : FuncData} (F : Fun K "compared" "compared" st_compared f fd) (S : ShC K C) (T : Blt mg) (E_Misfit : Rs1 P w K mg base "Misfit" (cs 2) "part") (C_need_whole : CNW P w K mg base cs C) (C_columns_of : CCo P w K mg base C) (C_zero_of : CZo P w K mg base)
    (C_least_joined : CLj P w K mg base) (C_standing : CSt P w K mg base) : FnOk P w K mg base (L2.CX P w) 5 f fd ["sheet", "other"] (spComp K cs C) := by
  have C_need_whole := calX_to C_need_whole hWhole_eq
  have C_least_joined := cal_to' C_least_joined hLj_eq
  refine F.okX sc_compared (fun vs H Q E h => ?_) (fun cdv A outer s H vs Q E hr h => ?_)
  · obtain ⟨v, u, rfl, _⟩ := h
    rfl
  · refine ⟨_, (pss_cons (ps_expr (pe_clX C_need_whole (passes_call (takes_of rfl rfl rfl rfl) fun _ _ _ _ z => z) (hr.mono (by decide)) rfl (pa_cons (pv 0) (pa_cons pe_str pa_nil))))
  (pss_cons (ps_expr (pe_clX C_need_whole (passes_call (takes_of rfl rfl rfl rfl) fun _ _ _ _ z => z) (hr.mono (by decide)) rfl (pa_cons (pv 1) (pa_cons pe_str pa_nil))))
  (pss_cons (ps_if (pt_cmpR (op_neD hr.units) (pe_fld (pv 0) rfl) (pe_fld (pv 1) rfl) (nomark _)) (pss_one (ps_raise1 E_Misfit (hr.mono (by decide)) rfl (takes_of rfl rfl rfl rfl) rfl (pa_cons pe_str pa_nil))) pss_nil)
  (pss_cons (ps_set (i := 2) sc_compared.nd rfl (Or.inl rfl) (pe_cl C_zero_of (hr.mono (by decide)) rfl (pa_cons (pe_cl C_columns_of (hr.mono (by decide)) rfl (pa_cons (pv 0) pa_nil)) pa_nil)))
  (pss_cons (ps_set (i := 3) sc_compared.nd rfl (Or.inl rfl) (pe_cl C_zero_of (hr.mono (by decide)) rfl (pa_cons (pe_cl C_columns_of (hr.mono (by decide)) rfl (pa_cons (pv 1) pa_nil)) pa_nil)))
  (pss_cons (ps_set (i := 4) sc_compared.nd rfl (Or.inl rfl) (pe_cl C_least_joined (hr.mono (by decide)) rfl (pa_cons (pv 3) (pa_cons (pv 2) pa_nil))))
  (pss_cons (ps_set (i := 5) sc_compared.nd rfl (Or.inl rfl) (pe_cl C_least_joined (hr.mono (by decide)) rfl (pa_cons (pv 2) (pa_cons (pv 3) pa_nil))))
  (pss_one (ps_ret (pe_tup (pa_cons (pe_cl C_standing (hr.mono (by decide)) rfl (pa_cons (pv 4) (pa_cons (pv 5) pa_nil))) (pa_cons (pv 4) (pa_cons (pv 5) pa_nil))))))))))))), ?_⟩
    obtain ⟨v, u, rfl, h⟩ := h
    refine ⟨_, rfl, whv_need h fun x names ws ev sh ok h2 => ?_⟩
    refine ⟨_, rfl, whv_need h2 fun y names2 ws2 eu sh2 ok2 hq => ?_⟩
    subst ev eu
    obtain ⟨hq1, hq2⟩ := hq
    have shx := sh
    have shy := sh2
    obtain ⟨dx, tl, tr, tp, tg, xr, ts, gs, hx, hL, hr1, hw, hp1, hp2, _⟩ := sh
    obtain ⟨dx2, tl2, tr2, tp2, tg2, xr2, ts2, gs2, hx2, hL2, hr2, hw2, hp3, hp4, _⟩ := sh2
    rw [places_nat] at hp2 hp4
    refine ⟨_, rfl, x, C, dx, _, _, rfl, hx, S.c, S.f3, rfl, _, rfl, y, C, dx2, _, _, rfl, hx2, S.c, S.f3, rfl, dP (whole ws), dP (whole ws2), .tup (SqT.of hp1) (dp_prs hp2), .tup (SqT.of hp3) (dp_prs hp4), shaped_dP _, shaped_dP _, ?_⟩
    rw [eqv_dP]
    refine ⟨_, rfl, ?_⟩
    by_cases hpl : plN (whole ws) (whole ws).length = plN (whole ws2) (whole ws2).length
    · obtain ⟨hln, q⟩ := hq2 hpl
      rw [decide_eq_true hpl]
      refine iteF ?_
      refine ⟨_, rfl, x, names, ws, rfl, shx, ok, fun H1 p1 t1 s1 np1 hc1 hC1 => ?_⟩
      refine ⟨p1, t1, cols ws, rfl, SqL.of hc1, hC1, by have := cols_len6 ok; omega, fun H2 p2 s2 hz2 => ?_⟩
      refine ⟨_, rfl, y, names2, ws2, rfl, sheet_kx (y := y) (s1.trans s2) shy, ok2, fun H3 p3 t3 s3 np3 hc3 hC3 => ?_⟩
      refine ⟨p3, t3, cols ws2, rfl, SqL.of hc3, hC3, by have := cols_len6 ok2; omega, fun H4 p4 s4 hz4 => ?_⟩
      have sB : Same H2 H4 := s3.trans s4
      have sA : Same H H4 := (s1.trans s2).trans sB
      have l6 : (zeroL (cols ws)).length ≤ 100 := by
        rw [zeroL_len]
        exact cols_len6 ok
      have l7 : (zeroL (cols ws2)).length ≤ 100 := by omega
      have hm := sm_t (K := K) sB (tf_sq hz2)
      have hi := tf_sq (K := K) hz4
      rw [inV_map] at hm hi
      refine ⟨_, rfl, _, rfl, lj_tell hi hm hln.symm l7 fun u H5 s5 hu => ?_⟩
      refine ⟨_, rfl, _, rfl, lj_tell (sm_t s5 hm) (sm_t s5 hi) hln l6 fun v H6 s6 hv => ?_⟩
      refine ⟨_, rfl, _, rfl, u, v, rfl, _, rfl, _, rfl, small_line (by show 3 ≤ 1000000; decide), fun p np => ?_⟩
      have hu := hu.sm s6
      rw [hu.non, hv.non]
      have s7 := Sm.new (o := .tup [.str (standS (ljR (zeroL (cols ws2)) (zeroL (cols ws))).isNone (ljR (zeroL (cols ws)) (zeroL (cols ws2))).isNone), u, v]) np
      exact q _ p u v (((sA.trans s5).trans s6).trans s7) (none_back ((sA.trans s5).trans s6) np) (hu.sm s7) (hv.sm s7) upd_same
    · rw [decide_eq_false hpl]
      exact iteT (raise1 (hq1 hpl))
end
end K6
namespace K5
open PySem PySem.Spec PyProof.Rows Builtin Builtin.Itertools
abbrev tyC : Value := .type "itertools.combinations"
theorem sub_cmb : isSubtype tyC tyC = pure true := by rw [isSubtype_type]; kernel_rfl
theorem mro_cmb : mroOf tyC = pure [tyC, .type "object"] := by rw [mroOf_type]; kernel_rfl
theorem new_cmb : typeLookup tyC "__new__" = pure (some (.builtin "itertools.combinations.__new__")) := by rw [typeLookup_type, builtinLookup_eq_fast]; kernel_rfl
theorem init_cmb : Slot "itertools.combinations" "__init__" "object.__init__" :=
  Slot.of (owner := "object") (n := "__init__") (by rw [typeLookup_type, builtinLookup_eq_fast]; kernel_rfl) (by decide +kernel) (by decide +kernel) (by decide +kernel) (by first | exact .inl (by decide +kernel) | exact .inr (by decide +kernel)) (by rw [isSubtype_type]; kernel_rfl)
theorem called_cmb : TypeCalled "itertools.combinations" "itertools.combinations.__new__" "object.__init__" :=
  ⟨by decide +kernel, by decide +kernel, ⟨_, _, mro_cmb⟩, madeBy_type mro_cmb new_cmb (by decide +kernel), by decide +kernel, sub_cmb, init_cmb⟩
theorem typeCall_cmb (a b : Value) : checkTypeCall "itertools.combinations" ⟨[a, b], []⟩ = pure () := by kernel_rfl
theorem newCall_cmb (a b : Value) : checkBuiltinCall "itertools.combinations.__new__" ⟨[tyC, a, b], []⟩ = pure () := by kernel_rfl
theorem entry_cmb_new : entryFor table "itertools.combinations.__new__" = some Builtin.«itertools.combinations.__new__» := entryFor_of_tree (by kernel_rfl)
theorem slot_cmb_iter : Slot "itertools.combinations" "__iter__" "itertools.combinations.__iter__" :=
  Slot.of (owner := "itertools.combinations") (n := "__iter__") (by rw [typeLookup_type, builtinLookup_eq_fast]; kernel_rfl) (by decide +kernel) (by decide +kernel) (by decide +kernel) (by first | exact .inl (by decide +kernel) | exact .inr (by decide +kernel)) sub_cmb
theorem slot_cmb_next : Slot "itertools.combinations" "__next__" "itertools.combinations.__next__" :=
  Slot.of (owner := "itertools.combinations") (n := "__next__") (by rw [typeLookup_type, builtinLookup_eq_fast]; kernel_rfl) (by decide +kernel) (by decide +kernel) (by decide +kernel) (by first | exact .inl (by decide +kernel) | exact .inr (by decide +kernel)) sub_cmb
theorem entry_cmb_iter : entryFor table "itertools.combinations.__iter__" = some Builtin.«dict_keyiterator.__iter__» :=
  entryFor_alias (id' := "dict_keyiterator.__iter__") (by kernel_rfl) (by first | rfl | decide +kernel | (unfold String.splitOn; simp +decide [String.splitOnAux])) (by decide +kernel) (by kernel_rfl)
theorem entry_cmb_next : entryFor table "itertools.combinations.__next__" = some Builtin.«itertools.combinations.__next__» := entryFor_of_tree (by kernel_rfl)
theorem owner_cmb : Manifest.owners.lookup (String.ofList ['s', 'n', 'o', 'i', 't', 'a', 'n', 'i', 'b', 'm', 'o', 'c', '.', 's', 'l', 'o', 'o', 't', 'r', 'e', 't', 'i'].reverse) = some Manifest.sig_itertools_combinations := by kernel_rfl
theorem args_cmb_iter (a : Value) : argsOk "itertools.combinations.__iter__" ⟨[a], []⟩ := by
  unfold argsOk
  rw [signature?_of (id := "itertools.combinations.__iter__") (n := ['_', '_', 'r', 'e', 't', 'i', '_', '_']) (o := ['s', 'n', 'o', 'i', 't', 'a', 'n', 'i', 'b', 'm', 'o', 'c', '.', 's', 'l', 'o', 'o', 't', 'r', 'e', 't', 'i']) (by kernel_rfl) owner_cmb]
  kernel_rfl
theorem args_cmb_next (a : Value) : argsOk "itertools.combinations.__next__" ⟨[a], []⟩ := by
  unfold argsOk
  rw [signature?_of (id := "itertools.combinations.__next__") (n := ['_', '_', 't', 'x', 'e', 'n', '_', '_']) (o := ['s', 'n', 'o', 'i', 't', 'a', 'n', 'i', 'b', 'm', 'o', 'c', '.', 's', 'l', 'o', 'o', 't', 'r', 'e', 't', 'i']) (by kernel_rfl) owner_cmb]
  kernel_rfl
theorem noDict_cmb : typeHasDict tyC = false := by decide +kernel
theorem noLen_cmb : typeLookup tyC "__len__" = pure none := by rw [typeLookup_type, builtinLookup_eq_fast]; kernel_rfl
theorem noHint_cmb : typeLookup tyC "__length_hint__" = pure none := by rw [typeLookup_type, builtinLookup_eq_fast]; kernel_rfl
abbrev CmbO (h : Heap) (c pa : Addr) (st : Int) (last : Value) (ix : List Nat) : Prop := h.get? c = some { cls := .type "itertools.combinations", dict := none, data := .fields ([.ref pa, rawInt st, last] ++ ix.map fun (i : Nat) => rawInt i).toArray, slots := #[] }
abbrev PoolO (h : Heap) (pa : Addr) (its : List Value) : Prop := h.get? pa = some { cls := .type "tuple", dict := none, data := .seq its.toArray, slots := #[] }
theorem class_cmb (a b : Value) : itClassAndRest "combinations" ⟨[tyC, a, b], []⟩ = pure (tyC, [a, b]) := by
  unfold itClassAndRest
  simp only [isType, pure_bind, Bool.not_true, Bool.false_eq_true, if_false, show isSubtype tyC (.type ("itertools." ++ "combinations")) = pure true from sub_cmb]
theorem bind_cmb (a b : Value) : itBindNamed "combinations" ["iterable", "r"] 2 2 [a, b] [] = pure [some a, some b] := by
  first | rfl | kernel_rfl
theorem size_cmb {i : Int} {t : Tok} (h : -(2 ^ 63 : Int) ≤ i) (h2 : i < 2 ^ 63) : itSsizeArg (.int i t) = pure i := by
  unfold itSsizeArg
  rw [show asIndex (.int i t) = pure i from rfl, pure_bind, if_neg]
  · simp
    omega
end K5
namespace K5
open PySem PySem.Spec PyProof.Rows Builtin Builtin.Itertools
section
variable {prog : Program} {w : World}
/-- the ints 0, 1, .. below n -/
def Upto (n : Nat) (its : List Value) : Prop := its.length = n ∧ ∀ i, i < n → ∃ t, its[i]? = some (.int (i : Nat) t)
theorem upto_of {acc : Array Value} {n : Nat} (h : ItemsOf (fun i v => ∃ t, v = Value.int (0 + (i : Int) * 1) t) acc n) : Upto n acc.toList := by
  refine ⟨by rw [Array.length_toList, h.1], fun i hi => ?_⟩
  have hs : i < acc.size := by rw [h.1]; exact hi
  obtain ⟨t, e⟩ := h.2 i acc[i] (Array.getElem?_eq_getElem hs)
  exact ⟨t, by rw [Array.getElem?_toList, Array.getElem?_eq_getElem hs, e, Int.mul_one, Int.zero_add]⟩
theorem meets_cmb {R : Addr} {n r : Nat} {t u v tr : Tok} (hn : n ≤ 1000) (hr : r ≤ n) :
    MeetsIn prog w (Builtin.«itertools.combinations.__new__» ⟨[tyC, .ref R, .int (r : Nat) tr], []⟩)
      (fun A Rr s => A.handled = none ∧ IsRange s.heap R 0 (n : Nat) 1 t u v ∧ ∀ h' tk its pa ca, (∀ b o, s.heap.get? b = some o → h'.get? b = some o) → Upto n its → PoolO h' pa its → CmbO h' ca pa 0 .none (List.range r) → s.heap.get? pa = none → s.heap.get? ca = none → pa < ca → h'.objs.size = ca + 1 →
        Rr (.ok (.ret (.ref ca))) { s with heap := h', toks := tk }) :=
  .of_wp fun A Rr s h => by
    obtain ⟨hh, hR, hq⟩ := h
    unfold Builtin.«itertools.combinations.__new__»
    refine wpAny_bind ?_
    refine wpAny_bind ?_
    refine wpAny_of_eq (class_cmb _ _) ?_
    dsimp only
    refine wpAny_bind (wpAny_of_eq (bind_cmb _ _) ?_)
    dsimp only
    refine wpAny_bind (wpAny_of_eq (size_cmb (by omega) (by omega)) ?_)
    have hsz : Builtin.Range.rangeSize 0 (n : Nat) 1 = n := by
      unfold Builtin.Range.rangeSize
      simp
      omega
    have hsm : Builtin.Range.small 0 (n : Nat) 1 = true := by
      unfold Builtin.Range.small
      rw [hsz]
      unfold Builtin.Range.rangeFitsLong
      simp
      omega
    refine wpAny_bind (L2.collect_range (A := A.in1) hh hR hsm hsz (Nat.le_trans hn (by decide)) fun h1 tk1 acc k1 hacc => ?_)
    have ul := upto_of hacc
    rw [if_neg (by omega), if_neg (by unfold itTooMany; simp; omega)]
    refine wpAny_bind (wpAny_newTuple (s := { s with heap := h1, toks := tk1 }) (wpAny_pure ?_) (by rw [ul.1]; exact Nat.le_trans hn (by decide)))
    dsimp only
    refine wpAny_bind ?_
    unfold itNewRecord
    rw [noDict_cmb]
    simp only [Bool.not_false, if_true, Int.toNat_natCast]
    refine wpAny_newObj_type (wpAny_pure ⟨_, rfl, ?_⟩) ?_
    · have z1 : (h1.push { cls := .type "tuple", data := .seq acc.toList.toArray }).objs.size = h1.objs.size + 1 := Heap.size_push ..
      have e0 : (if r > acc.toList.length then (2 : Int) else 0) = 0 := if_neg (by rw [ul.1]; omega)
      rw [e0]
      have gC : ((h1.push { cls := .type "tuple", data := .seq acc.toList.toArray }).push { cls := tyC, data := .fields ([Value.ref h1.objs.size, rawInt 0, Value.none] ++ (List.range r).map fun (i : Nat) => rawInt i).toArray }).get? (h1.push { cls := .type "tuple", data := .seq acc.toList.toArray }).objs.size = some _ := Heap.get?_push_size _ rfl
      have new : ∀ b : Nat, h1.objs.size ≤ b → s.heap.get? b = none := fun b hb => by
        cases z : s.heap.get? b with
        | none => rfl
        | some o => exact absurd (Heap.lt_size (k1 _ _ z)) (Nat.not_lt.mpr hb)
      refine hq _ tk1 acc.toList h1.objs.size _ (fun b o e => Heap.get?_push_of_some _ (Heap.get?_push_of_some _ (k1 b o e))) ul (Heap.get?_push_of_some _ (Heap.get?_push_size _ rfl)) gC (new _ (Nat.le_refl _)) (new _ (by rw [z1]; exact Nat.le_succ _)) (by rw [z1]; exact Nat.lt_succ_self _) (by rw [Heap.size_push])
    · show (List.toArray _).size ≤ _
      rw [List.size_toArray, List.length_append, List.length_map, List.length_range]
      exact Nat.le_trans (show 3 + r ≤ 2000 by omega) (by decide)
theorem rest_ix (ix : List Nat) (a b c : Value) (f : Value → Nat) (hf : ∀ i : Nat, f (rawInt i) = i) : List.map f (List.drop 3 ([a, b, c] ++ List.map (fun (i : Nat) => rawInt i) ix)) = ix := by
  show ((ix.map fun (i : Nat) => rawInt i).map f) = ix
  rw [List.map_map]
  exact (List.map_congr_left fun i _ => hf i).trans (List.map_id _)
theorem set_1 (l : List Value) (a b c x : Value) : ([a, b, c] ++ l).toArray.setIfInBounds 1 x = ([a, x, c] ++ l).toArray := by simp
theorem cut_3 (l m : List Value) (a b c : Value) : ([a, b, c] ++ l).toArray.extract 0 3 ++ m.toArray = ([a, b, c] ++ m).toArray := by simp
theorem set_2 (l : List Value) (a b c x : Value) : ([a, b, c] ++ l).toArray.setIfInBounds 2 x = ([a, b, x] ++ l).toArray := by simp
def pickL (its : List Value) (ix : List Nat) : List Value := ix.map fun i => its.getD i .none
variable {A : Around} {E : Value → Shared → Prop} {s : Shared} {c pa : Addr} {its : List Value} {n : Nat} {last : Value} {ix : List Nat}
theorem hand_tail {s1 : Shared} {N : Addr} {Q : Fin → Shared → Prop} (hc : CmbO s1.heap c pa 1 last ix) (hQ : ∀ h', CmbO h' c pa 1 (.ref N) ix → Heap.SameBut c s1.heap h' → Q (.done (.ret (.ref N))) { s1 with heap := h' }) :
    wpAny (model prog w) A (do
      let before ← field (.ref c) 2
      setField (.ref c) 2 (.ref N)
      letGo [before] [.ref N]
      ret (.ref N)) Q E s1 := by
  refine wpAny_bind (wpAny_field hc rfl (x := last) rfl ?_)
  refine wpAny_bind (wpAny_setField_rec hc (by simp) fun h2 hc2 sb2 => ?_)
  rw [set_2] at hc2
  exact wpAny_bind (wpAny_letGo (wpAny_pure (hQ h2 hc2 sb2)))
theorem tup_of (its : List Value) (ix : List Nat) : (List.map (fun i => its.toArray.getD i Value.none) ix).toArray = (pickL its ix).toArray := by
  unfold pickL
  congr 1
  refine List.map_congr_left fun i _ => ?_
  simp [List.getD_eq_getElem?_getD]
/-- what has been handed out, and what stands -/
def Handed (c pa : Addr) (its : List Value) (ix : List Nat) (s : Shared) (h' : Heap) : Prop := CmbO h' c pa 1 (.ref s.heap.objs.size) ix ∧ PoolO h' s.heap.objs.size (pickL its ix) ∧ (∀ b o, b ≠ c → s.heap.get? b = some o → h'.get? b = some o) ∧ h'.objs.size = s.heap.objs.size + 1
theorem handed_of {h1 h2 : Heap} (sb1 : Heap.SameBut c s.heap h1) (hc2 : CmbO h2 c pa 1 (.ref h1.objs.size) ix) (sb2 : Heap.SameBut c (h1.push { cls := .type "tuple", data := .seq (List.map (fun i => its.toArray.getD i Value.none) ix).toArray }) h2) (hlt : c < s.heap.objs.size) : Handed c pa its ix s h2 := by
  have ez : h1.objs.size = s.heap.objs.size := sb1.1
  rw [ez] at hc2
  refine ⟨hc2, ?_, fun b o n e => ?_, by rw [sb2.1, Heap.size_push, ez]⟩
  · show h2.get? s.heap.objs.size = _
    rw [sb2.2 _ (Nat.ne_of_gt hlt), ← ez, tup_of]
    exact Heap.get?_push_size _ rfl
  · rw [sb2.2 _ n]
    exact Heap.get?_push_of_some _ ((sb1.2 _ n).trans e)
theorem cmb_first {Q : Fin → Shared → Prop} (hc : CmbO s.heap c pa 0 last ix) (hp : PoolO s.heap pa its) (hne : c ≠ pa) (hz : ix.length ≤ sizeLine)
    (hQ : ∀ h', Handed c pa its ix s h' → Q (.done (.ret (.ref s.heap.objs.size))) { s with heap := h' }) :
    wpAny (model prog w) A (Builtin.«itertools.combinations.__next__» ⟨[.ref c], []⟩) Q E s := by
  unfold Builtin.«itertools.combinations.__next__»
  refine wpAny_bind (m := slotArgs _ _ _) (wpAny_pure ?_)
  dsimp only
  refine wpAny_bind (wpAny_field hc rfl (x := .ref pa) rfl ?_)
  refine wpAny_bind ?_
  unfold itNumbersFrom
  refine wpAny_bind (wpAny_load hc ?_)
  dsimp only
  refine wpAny_pure ?_
  rw [rest_ix _ _ _ _ _ fun i => Int.toNat_natCast i]
  refine wpAny_bind ?_
  unfold itIntField
  refine wpAny_bind (wpAny_field hc rfl (x := rawInt 0) rfl (wpAny_pure ?_))
  refine wpAny_bind (wpAny_setField_rec hc (by simp) fun h1 hc1 sb1 => ?_)
  rw [set_1] at hc1
  refine wpAny_bind ?_
  refine wpAny_bind ?_
  unfold itPoolItems
  have hp1 : PoolO h1 pa its := (sb1.2 _ hne.symm).trans hp
  refine wpAny_bind (wpAny_seqItems (s := { s with heap := h1 }) hp1 rfl (wpAny_pure ?_))
  refine wpAny_newTuple ?_ (by rw [List.length_map]; exact hz)
  have hlt := Heap.lt_size hc
  have hc1' : CmbO (h1.push { cls := .type "tuple", data := .seq (List.map (fun i => its.toArray.getD i Value.none) ix).toArray }) c pa 1 last ix := Heap.get?_push_of_some _ hc1
  refine hand_tail hc1' fun h2 hc2 sb2 => ?_
  have ez : h1.objs.size = s.heap.objs.size := sb1.1
  have := hQ h2 (handed_of sb1 hc2 sb2 hlt)
  rw [← ez] at this
  exact this
/-- the lots of r of a list, in order -/
def lotsL : Nat → List Nat → List (List Nat)
  | 0, _ => [[]]
  | _ + 1, [] => []
  | r + 1, a :: t => (lotsL r t).map (a :: ·) ++ lotsL (r + 1) t
def lots (n r : Nat) : List (List Nat) := lotsL r (List.range n)
def StepOk (step : Nat → List Nat → Option (List Nat)) : Prop := ∀ n < 6, ∀ r < n + 1, ∀ i < (lots n r).length, step n ((lots n r).getD i []) = (lots n r)[i + 1]?
theorem cmb_more : ∃ step : Nat → List Nat → Option (List Nat), StepOk step ∧ ∀ {prog : Program} {w : World} {A : Around} {E : Value → Shared → Prop} {s : Shared} {c pa : Addr} {its : List Value} {last : Value} {ix : List Nat} {Q : Fin → Shared → Prop},
    CmbO s.heap c pa 1 last ix → PoolO s.heap pa its → c ≠ pa → ix.length ≤ 1000 →
    (∀ d, step its.length ix = some d → d.length ≤ 1000 ∧ ∀ h', Handed c pa its d s h' → Q (.done (.ret (.ref s.heap.objs.size))) { s with heap := h' }) →
    (step its.length ix = none → ∀ h1, CmbO h1 c pa 2 last ix → Heap.SameBut c s.heap h1 → wpAny (model prog w) A itStop Q E { s with heap := h1 }) →
    wpAny (model prog w) A (Builtin.«itertools.combinations.__next__» ⟨[.ref c], []⟩) Q E s := by
  apply Exists.intro
  refine And.intro ?tab ?run
  case run =>
    intro prog w A E s c pa its last ix Q hc hp hne hz h1 h2
    unfold Builtin.«itertools.combinations.__next__»
    refine wpAny_bind (m := slotArgs _ _ _) (wpAny_pure ?_)
    dsimp only
    refine wpAny_bind (wpAny_field hc rfl (x := .ref pa) rfl ?_)
    refine wpAny_bind ?_
    unfold itNumbersFrom
    refine wpAny_bind (wpAny_load hc ?_)
    dsimp only
    refine wpAny_pure ?_
    rw [rest_ix _ _ _ _ _ fun i => Int.toNat_natCast i]
    refine wpAny_bind ?_
    unfold itIntField
    refine wpAny_bind (wpAny_field hc rfl (x := rawInt 1) rfl (wpAny_pure ?_))
    refine wpAny_bind ?_
    unfold itPoolItems
    refine wpAny_bind (wpAny_seqItems hp rfl (wpAny_pure ?_))
    rw [List.size_toArray]
    split
    · rename_i d hd
      obtain ⟨dz, hQ⟩ := h1 d hd
      refine wpAny_bind ?_
      unfold itSetNumbersFrom
      dsimp only
      refine wpAny_updateFields hc rfl ?_ ?_
      · have hc1 := Heap.get?_update_self (Obj.mapFields fun fs => fs.extract 0 3 ++ (List.map (fun (n : Nat) => rawInt n) d).toArray) hc rfl
        have hc1 : CmbO (s.heap.update c (Obj.mapFields fun fs => fs.extract 0 3 ++ (List.map (fun (n : Nat) => rawInt n) d).toArray)) c pa 1 last d :=
          hc1.trans (congrArg (fun z => some ({ cls := tyC, dict := none, data := .fields z, slots := #[] } : Obj)) (cut_3 (List.map (fun (n : Nat) => rawInt n) ix) _ _ _ _))
        have sb1 : Heap.SameBut c s.heap (s.heap.update c (Obj.mapFields fun fs => fs.extract 0 3 ++ (List.map (fun (n : Nat) => rawInt n) d).toArray)) := Heap.SameBut.update ..
        generalize (s.heap.update c (Obj.mapFields fun fs => fs.extract 0 3 ++ (List.map (fun (n : Nat) => rawInt n) d).toArray)) = h3 at hc1 sb1 ⊢
        refine wpAny_bind ?_
        refine wpAny_bind ?_
        unfold itPoolItems
        have hp1 : PoolO h3 pa its := (sb1.2 _ hne.symm).trans hp
        refine wpAny_bind (wpAny_seqItems (s := { s with heap := h3 }) hp1 rfl (wpAny_pure ?_))
        refine wpAny_newTuple ?_ (by rw [List.length_map]; exact Nat.le_trans dz (by decide))
        have hc1' : CmbO (h3.push { cls := .type "tuple", data := .seq (List.map (fun i => its.toArray.getD i Value.none) d).toArray }) c pa 1 last d := Heap.get?_push_of_some _ hc1
        refine hand_tail hc1' fun h4 hc2 sb2 => ?_
        have ez : h3.objs.size = s.heap.objs.size := sb1.1
        have := hQ h4 (handed_of sb1 hc2 sb2 (Heap.lt_size hc))
        rw [← ez] at this
        exact this
      · show (Array.size _) ≤ _
        rw [cut_3, List.size_toArray, List.length_append, List.length_map]
        exact Nat.le_trans (show 3 + d.length ≤ 2000 by omega) (by decide)
    · rename_i hd
      refine wpAny_bind (wpAny_setField_rec hc (by simp) fun h3 hc3 sb3 => ?_)
      rw [set_1] at hc3
      exact h2 hd h3 hc3 sb3
  case tab =>
    unfold StepOk
    decide +kernel
end
end K5
namespace K5
open PySem PySem.Spec PyProof.Rows Builtin Builtin.Itertools
theorem lots_one : ∀ (r : Nat) (l : List Nat), r ≤ l.length → (lotsL r l)[0]? = some (l.take r)
  | 0, _, _ => by
    rw [lotsL.eq_def]
    rfl
  | r + 1, [], h => absurd h (Nat.not_succ_le_zero r)
  | r + 1, a :: t, h => by
    have ih := lots_one r t (by simpa using h)
    rw [lotsL.eq_def]
    show ((lotsL r t).map (a :: ·) ++ lotsL (r + 1) t)[0]? = _
    have h0 := (List.getElem?_eq_some_iff.mp ih).1
    rw [List.getElem?_append_left (by rw [List.length_map]; exact h0), List.getElem?_map, ih]
    rfl
theorem lots_head {n r : Nat} (h : r ≤ n) : (lots n r)[0]? = some (List.range r) := by
  unfold lots
  rw [lots_one r _ (by rw [List.length_range]; exact h), List.take_range, Nat.min_eq_left h]
/-- the lots of r of n, i of them handed out -/
def CSt (c pa : Addr) (its : List Value) (n r i : Nat) (h : Heap) : Prop := c ≠ pa ∧ its.length = n ∧ PoolO h pa its ∧ ((i = 0 ∧ CmbO h c pa 0 .none (List.range r)) ∨ (0 < i ∧ ∃ last, CmbO h c pa 1 last ((lots n r).getD (i - 1) [])))
theorem CSt.at_ {c pa : Addr} {its : List Value} {n r i : Nat} {h : Heap} (x : CSt c pa its n r i h) : ∃ o, h.get? c = some o ∧ o.cls = tyC := by
  obtain ⟨_, _, _, ⟨_, e⟩ | ⟨_, last, e⟩⟩ := x
  · exact ⟨_, e, rfl⟩
  · exact ⟨_, e, rfl⟩
theorem CSt.ext {c pa : Addr} {its : List Value} {n r i : Nat} {h h' : Heap} (x : CSt c pa its n r i h) (k1 : ∀ o, h.get? c = some o → h'.get? c = some o) (k2 : ∀ o, h.get? pa = some o → h'.get? pa = some o) : CSt c pa its n r i h' := by
  obtain ⟨a, b, p, ⟨e0, e⟩ | ⟨e0, last, e⟩⟩ := x
  · exact ⟨a, b, k2 _ p, .inl ⟨e0, k1 _ e⟩⟩
  · exact ⟨a, b, k2 _ p, .inr ⟨e0, last, k1 _ e⟩⟩
theorem lots_fit : ∀ n < 6, ∀ r < n + 1, (lots n r).length ≤ 64 ∧ ∀ d ∈ lots n r, d.length ≤ 1000 := by decide +kernel
section
variable {prog : Program} {w : World} {A : Around} {E : Value → Shared → Prop} {s : Shared} {c pa : Addr} {its : List Value} {n r i : Nat}
theorem cmb_next {Q : Option Value → Shared → Prop} (n6 : n < 6) (hr : r ≤ n) (st : CSt c pa its n r i s.heap) (hi : i < (lots n r).length)
    (hQ : ∀ h', CSt c pa its n r (i + 1) h' → PoolO h' s.heap.objs.size (pickL its ((lots n r).getD i [])) → (∀ b o, b ≠ c → s.heap.get? b = some o → h'.get? b = some o) → h'.objs.size = s.heap.objs.size + 1 → Q (some (.ref s.heap.objs.size)) { s with heap := h' }) :
    wpAny (model prog w) A (pyNext (.ref c)) Q E s := by
  have hT : s.TypeIs (.ref c) "itertools.combinations" := st.at_
  have hd := List.getElem?_eq_getElem hi
  have eg : (lots n r).getD i [] = (lots n r)[i] := by rw [List.getD_eq_getElem?_getD, hd]; rfl
  have fit := (lots_fit n n6 r (by omega)).2
  obtain ⟨ne, hl, hp, h⟩ := st
  unfold pyNext
  refine wpAny_bind (wpAny_attempt (wpAny_callSpecial?_slot (name := Str.ofString "__next__") hT slot_cmb_next (wpAny_call_entry slot_cmb_next hT entry_cmb_next ?_ (args_cmb_next _))))
  have fin : ∀ h', Handed c pa its ((lots n r).getD i []) s h' → CSt c pa its n r (i + 1) h' ∧ PoolO h' s.heap.objs.size (pickL its ((lots n r).getD i [])) ∧ (∀ b o, b ≠ c → s.heap.get? b = some o → h'.get? b = some o) ∧ h'.objs.size = s.heap.objs.size + 1 := fun h' ⟨g1, g2, g3, g4⟩ =>
    ⟨⟨ne, hl, g3 _ _ ne.symm hp, .inr ⟨Nat.succ_pos i, _, g1⟩⟩, g2, g3, g4⟩
  rcases h with ⟨rfl, hc⟩ | ⟨hi0, last, hc⟩
  · have e0 : (lots n r).getD 0 [] = List.range r := by rw [List.getD_eq_getElem?_getD, lots_head hr]; rfl
    refine cmb_first hc hp ne (by rw [List.length_range]; exact Nat.le_trans (show r ≤ 1000 by omega) (by decide)) fun h' hh => ?_
    rw [← e0] at hh
    obtain ⟨a, b, c', d⟩ := fin h' hh
    exact ⟨_, rfl, wpAny_pure (hQ h' a b c' d)⟩
  · obtain ⟨step, tab, run⟩ := cmb_more
    have hs := tab n n6 r (by omega) (i - 1) (by omega)
    rw [show i - 1 + 1 = i by omega] at hs
    have hz := fit _ (List.mem_of_getElem? (show (lots n r)[i - 1]? = some ((lots n r).getD (i - 1) []) by rw [List.getD_eq_getElem?_getD, List.getElem?_eq_getElem (by omega : i - 1 < (lots n r).length)]; rfl))
    refine run hc hp ne hz (fun d ed => ?_) fun en => ?_
    · rw [hl, hs, hd] at ed
      obtain rfl := Option.some.inj ed
      refine ⟨fit _ (List.getElem_mem hi), fun h' hh => ?_⟩
      rw [← eg] at hh
      obtain ⟨a, b, c', d⟩ := fin h' hh
      exact ⟨_, rfl, wpAny_pure (hQ h' a b c' d)⟩
    · rw [hl, hs, hd] at en
      cases en
theorem cmb_stop {Q : Option Value → Shared → Prop} (hh : A.handled = none) (n6 : n < 6) (hr : r ≤ n) (st : CSt c pa its n r i s.heap) (hi : i = (lots n r).length) (h1 : 0 < i)
    (hQ : ∀ h', (∀ b o, b ≠ c → s.heap.get? b = some o → h'.get? b = some o) → Q none { s with heap := h' }) :
    wpAny (model prog w) A (pyNext (.ref c)) Q E s := by
  have hT : s.TypeIs (.ref c) "itertools.combinations" := st.at_
  have fit := (lots_fit n n6 r (by omega)).2
  obtain ⟨ne, hl, hp, h⟩ := st
  unfold pyNext
  refine wpAny_bind (wpAny_attempt (wpAny_callSpecial?_slot (name := Str.ofString "__next__") hT slot_cmb_next (wpAny_call_entry slot_cmb_next hT entry_cmb_next ?_ (args_cmb_next _))))
  rcases h with ⟨rfl, hc⟩ | ⟨hi0, last, hc⟩
  · exact absurd h1 (Nat.lt_irrefl 0)
  · obtain ⟨step, tab, run⟩ := cmb_more
    have hs := tab n n6 r (by omega) (i - 1) (by omega)
    rw [show i - 1 + 1 = i by omega, List.getElem?_eq_none (by omega)] at hs
    have hz := fit _ (List.mem_of_getElem? (show (lots n r)[i - 1]? = some ((lots n r).getD (i - 1) []) by rw [List.getD_eq_getElem?_getD, List.getElem?_eq_getElem (by omega : i - 1 < (lots n r).length)]; rfl))
    refine run hc hp ne hz (fun d ed => ?_) fun en h3 hc3 sb3 => ?_
    · rw [hl, hs] at ed
      cases ed
    · unfold itStop
      refine wpAny_bind ?_
      simp only [newExc, newTuple]
      refine wpAny_bind (wpAny_newObj_type ?_ (by size_fits))
      refine wpAny_bind (m := firstArgMember _ _) (wpAny_of_eq (a := Value.none) (by first | rfl | (simp only [firstArgMember]; rfl)) ?_)
      refine wpAny_newObj_type ?_ (by size_fits)
      simp only [raiseNew]
      refine wpAny_bind (wpAny_handled ?_)
      rw [show A.in1.handled = none from hh]
      refine wpAny_bind (wpAny_pure (wpAny_throw ?_))
      refine wpAny_bind (wpAny_isInstance (T := "StopIteration") (b := true) ⟨_, Heap.get?_push_size _ rfl, rfl⟩ isSubtype_stop ?_)
      refine wpAny_pure (hQ _ fun b o n e => ?_)
      exact Heap.get?_push_of_some _ (Heap.get?_push_of_some _ ((sb3.2 _ n).trans e))
end
end K5
namespace K5
open PySem PySem.Spec PyProof.Rows Builtin Builtin.Itertools
abbrev LstC (h : Heap) (S : Addr) (acc : Array Value) (k : Nat) : Prop := h.get? S = some { cls := .type "list", dict := none, data := .seq acc k, slots := #[] }
/-- the first i lots, tuples behind S -/
def Lc (S : Addr) (its : List Value) (n r i : Nat) (acc : Array Value) (h : Heap) : Prop := ∃ ts : List Nat, ts.length = i ∧ acc.toList = ts.map (fun (t : Nat) => Value.ref t) ∧ ts.Nodup ∧ (∀ t ∈ ts, S < t) ∧ ∀ (j t : Nat), ts[j]? = some t → PoolO h t (pickL its ((lots n r).getD j []))
theorem Lc.keep {S : Addr} {its : List Value} {n r i : Nat} {acc : Array Value} {h h' : Heap} (x : Lc S its n r i acc h) (k : ∀ (y : Nat) o, S < y → h.get? y = some o → h'.get? y = some o) : Lc S its n r i acc h' := by
  obtain ⟨ts, e1, e2, e3, e4, e5⟩ := x
  exact ⟨ts, e1, e2, e3, e4, fun j t ht => k t _ (e4 t (List.mem_of_getElem? ht)) (e5 j t ht)⟩
/-- all that stood ahead of S, but for the iterator -/
def Kp (c S : Nat) (h h' : Heap) : Prop := ∀ (y : Nat) o, y < S → y ≠ c → h.get? y = some o → h'.get? y = some o
section
variable {prog : Program} {w : World} {A : Around} {E : Value → Shared → Prop} {s : Shared} {c pa : Addr} {its : List Value} {n r : Nat}
theorem cl_loop {R : Result → Shared → Prop} (hh : A.handled = none) (n6 : n < 6) (hr : r ≤ n) {S : Nat} (hcS : c < S) (hpS : pa < S) (s0 : Shared) (res : Value)
    (hR : ∀ h' acc k, Kp c S s0.heap h' → LstC h' S acc k → Lc S its n r (lots n r).length acc h' → R (.ok (.ret res)) { s0 with heap := h' }) :
    ∀ (m i : Nat) (h : Heap) (acc : Array Value) (k : Nat), (lots n r).length - i = m → i ≤ (lots n r).length → CSt c pa its n r i h → LstC h S acc k → Lc S its n r i acc h → Kp c S s0.heap h →
      codeAny (model prog w) A (.builtin "list.extend.loop" ⟨[.ref S, .ref c, res], []⟩) R { s0 with heap := h } := by
  have L1 : 0 < (lots n r).length := (List.getElem?_eq_some_iff.mp (lots_head hr)).1
  have L64 := (lots_fit n n6 r (by omega)).1
  have ncS : c ≠ S := Nat.ne_of_lt hcS
  intro m
  induction m with
  | zero =>
    intro i h acc k hk hi st hO hz kp
    have e : i = (lots n r).length := by omega
    refine codeAny_builtin (b := _) F.entry_extend_loop ?_
    rw [Around.under_plainId F.plain_extend_loop]
    show wpAny _ A.in1 (pyNext (.ref c) >>= _) _ _ _
    refine wpAny_bind (cmb_stop (s := { s0 with heap := h }) (A := A.in1) hh n6 hr st e (by omega) fun h' kk => wpAny_pure ?_)
    rw [e] at hz
    exact hR h' acc k (fun y o hy hc q => kk y o hc (kp y o hy hc q)) (kk S _ ncS.symm hO) (hz.keep fun y o hy q => kk y o (fun z => by rw [z] at hy; exact Nat.lt_asymm hcS hy) q)
  | succ m ih =>
    intro i h acc k hk hi st hO hz kp
    have hil : i < (lots n r).length := by omega
    refine codeAny_builtin (b := _) F.entry_extend_loop ?_
    rw [Around.under_plainId F.plain_extend_loop]
    show wpAny _ A.in1 (pyNext (.ref c) >>= _) _ _ _
    refine wpAny_bind (cmb_next (s := { s0 with heap := h }) (A := A.in1) n6 hr st hil fun h' st' hT kk hs => ?_)
    have hO' : LstC h' S acc k := kk S _ ncS.symm hO
    obtain ⟨ts, e1, e2, e3, e4, e5⟩ := hz
    have tlt : ∀ t ∈ ts, t < h.objs.size := fun t ht => by
      obtain ⟨j, hj, ej⟩ := List.getElem_of_mem ht
      exact Heap.lt_size (e5 j t (by rw [List.getElem?_eq_getElem hj, ej]))
    have hsz : acc.size = i := by rw [← Array.length_toList, e2, List.length_map, e1]
    have hSh : S < h.objs.size := Heap.lt_size hO
    show wpAny _ A.in1 (updateSeq S (·.push (Value.ref h.objs.size)) >>= _) _ _ _
    have oth : ∀ (y : Nat) o, y ≠ S → h'.get? y = some o → (h'.update S (Obj.mapSeq (·.push (Value.ref h.objs.size)))).get? y = some o := fun y o hy q => (Heap.get?_update_other _ _ (fun z => hy z.symm)).trans q
    refine wpAny_bind (wpAny_updateSeq (s := { s0 with heap := h' }) hO' rfl (wpAny_pure ⟨plainId_quiet F.plain_extend_loop _, ih (i + 1) _ (acc.push (Value.ref h.objs.size)) _ (by omega) hil (st'.ext (fun o q => oth c o ncS q) fun o q => oth pa o (Nat.ne_of_lt hpS) q) (Heap.get?_update_self _ hO' rfl) ?_ (fun y o hy hc q => oth y o (Nat.ne_of_lt hy) (kk y o hc (kp y o hy hc q)))⟩) (hz := by rw [hsz]; exact Nat.le_trans (show i ≤ 64 by omega) (by decide)) (_hz' := by show (acc.push _).size ≤ _; rw [Array.size_push, hsz]; exact Nat.le_trans (show i + 1 ≤ 65 by omega) (by decide)))
    refine ⟨ts ++ [h.objs.size], by rw [List.length_append, e1]; rfl, by rw [Array.toList_push, e2, List.map_append]; rfl, ?_, ?_, ?_⟩
    · rw [List.nodup_append]
      refine ⟨e3, by simp, fun x hx y hy => ?_⟩
      rw [List.mem_singleton.mp hy]
      exact Nat.ne_of_lt (tlt x hx)
    · intro t ht
      rcases List.mem_append.mp ht with ht | ht
      · exact e4 t ht
      · rw [List.mem_singleton.mp ht]
        exact hSh
    · intro j t ht
      rcases Nat.lt_or_ge j ts.length with q | q
      · rw [List.getElem?_append_left q] at ht
        have hSt := e4 t (List.mem_of_getElem? ht)
        exact oth t _ (Nat.ne_of_gt hSt) (kk t _ (fun z => by rw [z] at hSt; exact Nat.lt_asymm hcS hSt) (e5 j t ht))
      · rw [List.getElem?_append_right q] at ht
        have hj : j - ts.length = 0 := by
          have := (List.getElem?_eq_some_iff.mp ht).1
          simpa using this
        rw [hj] at ht
        obtain rfl := Option.some.inj ht
        have : j = i := by omega
        subst this
        exact oth _ _ (Nat.ne_of_gt hSh) hT
theorem cl_extend {R : Result → Shared → Prop} (hh : A.handled = none) (n6 : n < 6) (hr : r ≤ n) {S k0 : Nat} (hcS : c < S) (hpS : pa < S) (st : CSt c pa its n r 0 s.heap) (hO : LstC s.heap S #[] k0)
    (hR : ∀ h' acc k, Kp c S s.heap h' → LstC h' S acc k → Lc S its n r (lots n r).length acc h' → R (.ok (.ret .none)) { s with heap := h' }) :
    wpAny (model prog w) A.in1 (Builtin.List.listExtendWith (.ref S) (.ref c) .none)
      (fun fin s' => match fin with | .done f => R (.ok f) s' | .again c' => c'.quiet = true ∧ codeAny (model prog w) A c' R s') (fun e s' => R (.error e) s') s := by
  have hT : s.TypeIs (.ref c) "itertools.combinations" := st.at_
  have empty : ∀ h, Lc S its n r 0 #[] h := fun h => ⟨[], rfl, rfl, List.nodup_nil, fun t h => absurd h List.not_mem_nil, fun j t h => by cases h⟩
  have same : Builtin.List.listSameRef (.ref S) (.ref c) = false := by
    have : S ≠ c := Nat.ne_of_gt hcS
    simp [Builtin.List.listSameRef, this]
  have go := cl_loop (prog := prog) (w := w) (A := A) (R := R) (its := its) (pa := pa) hh n6 hr hcS hpS s .none hR (lots n r).length 0
  unfold Builtin.List.listExtendWith
  refine wpAny_bind (wpAny_typeOf (T := "itertools.combinations") hT ?_)
  rw [same]
  refine wpAny_bind (wpAny_pyIter_slot hT slot_cmb_iter (wpAny_call_entry slot_cmb_iter hT entry_cmb_iter ?_ (args_cmb_iter _)))
  show wpAny _ _ (ret (Value.ref c)) _ _ _
  refine wpAny_pure ⟨_, rfl, "itertools.combinations", _, hT, slot_cmb_next.lookup, ?_⟩
  refine wpAny_bind (wpAny_holding ?_)
  unfold Builtin.List.listLengthHint
  refine wpAny_bind (wpAny_specialOf (s := s) hT noLen_cmb ?_)
  show wpAny _ A.in1 (specialOf (Value.ref c) (Str.ofString "__length_hint__") >>= _) _ _ _
  refine wpAny_bind (wpAny_specialOf (s := s) hT noHint_cmb ?_)
  refine wpAny_pure ?_
  refine wpAny_ite_split (fun _ => ?_) (fun _ => wpAny_pure ⟨plainId_quiet F.plain_extend_loop _, go _ _ _ rfl (Nat.zero_le _) st hO (empty _) fun y o _ _ q => q⟩)
  refine wpAny_bind (wpAny_rule (wpAny_bind ?_))
  show wpAny _ A.in1 (do updateSeq S (·.push .none); updateSeq S (·.pop)) _ _ _
  refine wpAny_bind (wpAny_updateSeq (s := s) hO rfl ?_)
  have o1 := Heap.get?_update_self (Obj.mapSeq (·.push Value.none)) hO rfl
  refine wpAny_updateSeq (hz := by seq_fits) (s := { s with heap := s.heap.update S (Obj.mapSeq (·.push Value.none)) }) o1 rfl ?_
  have o2 := Heap.get?_update_self (Obj.mapSeq (·.pop)) o1 rfl
  have oth : ∀ (y : Nat) o, y ≠ S → s.heap.get? y = some o → ((s.heap.update S (Obj.mapSeq (·.push Value.none))).update S (Obj.mapSeq (·.pop))).get? y = some o := fun y o hy q =>
    (Heap.get?_update_other _ _ (fun z => hy z.symm)).trans ((Heap.get?_update_other _ _ (fun z => hy z.symm)).trans q)
  exact wpAny_pure ⟨plainId_quiet F.plain_extend_loop _, go _ _ _ rfl (Nat.zero_le _) (st.ext (fun o q => oth c o (Nat.ne_of_lt hcS) q) fun o q => oth pa o (Nat.ne_of_lt hpS) q) o2 (empty _) fun y o hy _ q => oth y o (Nat.ne_of_lt hy) q⟩
theorem cl_call {Q : Value → Shared → Prop} (hh : A.handled = none) (n6 : n < 6) (hr : r ≤ n) (hpc : pa < c) (st : CSt c pa its n r 0 s.heap)
    (hQ : ∀ h' acc k, Kp c s.heap.objs.size s.heap h' → LstC h' s.heap.objs.size acc k → Lc s.heap.objs.size its n r (lots n r).length acc h' → Q (.ref s.heap.objs.size) { s with heap := h' }) :
    wpAny (model prog w) A (call (.type "list") [.ref c]) Q E s := by
  have hlt : c < s.heap.objs.size := by
    obtain ⟨o, e, _⟩ := st.at_
    exact Heap.lt_size e
  have hlp : pa < s.heap.objs.size := Nat.lt_trans hpc hlt
  refine callType_codes (Q₁ := fun obj s₁ => obj = .ref s.heap.objs.size ∧ s₁ = { s with heap := s.heap.push ({ cls := .type "list", data := .seq #[] } : Obj) }) PySem.F.called_list (PySem.F.typeCall_list_1 _) PySem.F.entry_list_init
    (code_list_new _ ⟨rfl, rfl⟩) fun obj s₁ z => ?_
  obtain ⟨rfl, rfl⟩ := z
  have hO : LstC (s.heap.push ({ cls := .type "list", data := .seq #[] } : Obj)) s.heap.objs.size #[] 0 := Heap.get?_push_size _ rfl
  refine ⟨⟨_, hO, rfl⟩, PySem.F.args_list_init_2 _ _, ?_⟩
  show wpAny _ _ (do let mine ← Builtin.List.listItems (.ref s.heap.objs.size); Builtin.List.listUpdate (.ref s.heap.objs.size) (fun _ => #[]); letGo mine.toList.reverse; Builtin.List.listExtendWith (.ref s.heap.objs.size) (.ref c) .none) _ _ _
  unfold Builtin.List.listItems
  refine wpAny_bind (wpAny_bind (wpAny_seqItems (s := { s with heap := s.heap.push ({ cls := .type "list", data := .seq #[] } : Obj) }) hO rfl (wpAny_pure ?_)))
  show wpAny _ _ (do updateSeq s.heap.objs.size (fun _ => #[]); letGo (#[] : Array Value).toList.reverse; Builtin.List.listExtendWith (.ref s.heap.objs.size) (.ref c) .none) _ _ _
  refine wpAny_bind (wpAny_updateSeq (s := { s with heap := s.heap.push ({ cls := .type "list", data := .seq #[] } : Obj) }) hO rfl (wpAny_bind (wpAny_letGo ?_)))
  have o2 := Heap.get?_update_self (Obj.mapSeq (fun _ => (#[] : Array Value))) hO rfl
  have oth : ∀ (y : Nat) o, y < s.heap.objs.size → s.heap.get? y = some o → ((s.heap.push ({ cls := .type "list", data := .seq #[] } : Obj)).update s.heap.objs.size (Obj.mapSeq (fun _ => (#[] : Array Value)))).get? y = some o := fun y o hy q =>
    (Heap.get?_update_other _ _ (Nat.ne_of_gt hy)).trans (Heap.get?_push_of_some _ q)
  refine cl_extend (A := A.in1) hh n6 hr hlt hlp (st.ext (fun o q => oth c o hlt q) fun o q => oth pa o hlp q) o2 fun h' acc k kp hO' hz => ?_
  exact ⟨rfl, hQ h' acc k (fun y o hy hc q => kp y o hy hc (oth y o hy q)) hO' hz⟩
end
end K5
namespace L2
open PySem PySem.Spec PyProof.Rows
theorem stands {P : Program} {w : World} {H : Hp} {h : Heap} {a : Addr} {o : HO} (x : ObjOk P w H h a o) : ∃ u, h.get? a = some u := by
  cases o with
  | lst xs => obtain ⟨_, _, _, _, e⟩ := x; exact ⟨_, e⟩
  | tup xs => obtain ⟨_, _, _, p⟩ := x; obtain ⟨u, e, _⟩ := p; exact ⟨_, e⟩
  | dK kvs => obtain ⟨_, _, _, _, o, _, _, e, _⟩ := x; exact ⟨_, e⟩
  | dT kvs => obtain ⟨_, _, _, _, o, _, _, e, _⟩ := x; exact ⟨_, e⟩
  | set S n => obtain ⟨o, _, _, _, e, _⟩ := x; exact ⟨_, e⟩
  | ins C dx fs => obtain ⟨_, _, _, e, _⟩ := x; exact ⟨_, e⟩
  | own y => exact x
  | xd fs => obtain ⟨_, ⟨_, _, _, e, _⟩, _⟩ := x; exact ⟨_, e⟩
  | met f y => exact ⟨_, x⟩
  | rng lo hi => obtain ⟨_, _, _, e⟩ := x; exact ⟨_, e⟩
  | frz u v => exact ⟨_, x.1⟩
  | tbl ps => exact ⟨_, x⟩
  | ext φ => exact x.2.1
/-- a list of tuples of ints -/
def TupsI (H : Hp) (ts : List V) (L : List (List Nat)) : Prop := ts.length = L.length ∧ ∀ (i : Nat) t d, ts[i]? = some t → L[i]? = some d → ∃ a, t = .ref a ∧ H a = some (.tup (d.map fun n => V.int (n : Nat)))
def tListCmb (ta : TA) : TE := fun σ H Q => ta σ H fun vs H2 => ∃ (R : Addr) (n r : Nat), vs = [.ref R, .int (r : Nat)] ∧ H2 R = some (.rng 0 (n : Nat)) ∧ n < 6 ∧ r ≤ n ∧
  ∀ H' D ts, (∀ c o, H2 c = some o → H' c = some o) → H2 D = none → H' D = some (.lst ts) → TupsI H' ts (K5.lots n r) → Q (.ref D) H'
theorem lots_in : ∀ n < 6, ∀ r < n + 1, ∀ d ∈ K5.lots n r, ∀ i ∈ d, i < n := by decide +kernel
section
variable {X : Cx} {pins : List (Addr × Obj)} {σ : L2.St} {H H' : Hp} {s : Shared} {h' : Heap}
/-- new things are known of -/
theorem grown2 {t' : Nat} (I : Inv X pins σ H s) (k : ∀ b u, s.heap.get? b = some u → h'.get? b = some u) (hH : ∀ b o, s.heap.get? b = some o → H' b = H b) (ok : HOk X.prog X.w H' h') : Inv X pins σ H' { s with heap := h', toks := t' } := by
  have old : ∀ b o, H b = some o → H' b = some o := fun b o e => by
    obtain ⟨u, z⟩ := stands (I.hok b o e)
    rw [hH b u z]
    exact e
  exact I.un ⟨fun b o e _ _ _ => k b o e, fun b o e _ _ _ => ⟨o.slots, k b o e⟩, fun b o e n _ => by rw [hH b o e]; exact n, fun b o e _ => ⟨o, k b o e⟩, fun b xs e => old b _ e, fun b o u e => old b _ e, fun b ps e => ⟨#[], by rw [old b _ e]; simp⟩⟩ ok
theorem vals_refs' : ∀ ts : List Nat, Vals (ts.map fun (t : Nat) => V.ref t) (ts.map fun (t : Nat) => Value.ref t)
  | [] => .nil
  | t :: r => .cons rfl (vals_refs' r)
theorem pick_vals {its : List Value} {n : Nat} (u : K5.Upto n its) : ∀ d : List Nat, (∀ i ∈ d, i < n) → Vals (d.map fun i => V.int (i : Nat)) (K5.pickL its d)
  | [], _ => .nil
  | i :: r, h => by
    obtain ⟨t, e⟩ := u.2 i (h i List.mem_cons_self)
    refine .cons ⟨t, ?_⟩ (pick_vals u r fun j hj => h j (List.mem_cons_of_mem _ hj))
    show its.getD i Value.none = _
    rw [List.getD_eq_getElem?_getD, e]
    rfl
theorem pe_listCmb {e e2 : Expr} {ta : TA} {p p2 q pos : Pos} (hc : X.calm = true) (hg : Gl X "list") (hm : X.mg "list" = none) (hg2 : Gl X "combinations") (hm2 : X.mg "combinations" = some (.type "itertools.combinations")) (ha : PA X [e, e2] ta)
    (hs : starEach [e, e2] X.env = (false, eval e X.env) :: starEach [e2] X.env := by rfl) (hpl : (backTo q (starEach [e2] X.env)).any (·.1) = false := by rfl)
    (na : starEach [Expr.Call (.Name "combinations" p2) [e, e2] [] q] X.env = (false, eval (Expr.Call (.Name "combinations" p2) [e, e2] [] q) X.env) :: starEach [] X.env := by rfl) :
    PE X (.Call (.Name "list" p) [.Call (.Name "combinations" p2) [e, e2] [] q] [] pos) (tListCmb ta) := by
  refine ⟨fun pins s σ H Q I h => ?_⟩
  refine Call_ (ld_blt I hg hm boot_list (PyProof.Rows.callWith_type1 (args_cons (Call_ (ld_glob I hg2 hm2 (PyProof.Rows.callWith_type1 (thn (ha.run q pins s σ H _ I h) fun us s1 ⟨vs, H1, I1, r1, q1⟩ => ?_) hs hpl))) na) na))
  obtain ⟨R, n, r, rfl, hR, n6, hr, q2⟩ := q1
  cases r1 with
  | cons r' rr =>
    cases rr with
    | cons r'' rr =>
      cases rr
      cases r'
      obtain ⟨tr, rfl⟩ := r''
      obtain ⟨t, u, v, eR⟩ := I1.hok _ _ hR
      refine callType_newIn K5.called_cmb (by decide) (K5.typeCall_cmb _ _) (K5.newCall_cmb _ _) (fun obj => F.args_object_init_3 obj _ _) K5.entry_cmb_new (K5.meets_cmb (n := n) (r := r) (t := t) (u := u) (v := v) (by omega) hr) ?_
      refine ⟨I1.ok.hd hc, eR, fun h1 tk1 its pa ca k1 hU hP hC np nc hpc hsz => ⟨⟨_, hC, rfl⟩, args_nil ?_⟩⟩
      have hlc : ca < h1.objs.size := Heap.lt_size hC
      refine K5.cl_call (s := { s1 with heap := h1, toks := tk1 }) (n := n) (r := r) (I1.ok.hd hc) n6 hr hpc ⟨Nat.ne_of_gt hpc, hU.1, hP, .inl ⟨rfl, hC⟩⟩ fun h2 acc k kp hO hlz => ?_
      obtain ⟨ts, e1, e2', e3, e4, e5⟩ := hlz
      have kk : ∀ b o, s1.heap.get? b = some o → h2.get? b = some o := fun b o z => kp b o (Heap.lt_size (k1 b o z)) (fun y => by rw [y, nc] at z; cases z) (k1 b o z)
      have old : ∀ b o, s1.heap.get? b = some o → b ≠ h1.objs.size ∧ b ∉ ts := fun b o z => by
        have lt := Heap.lt_size (k1 b o z)
        exact ⟨Nat.ne_of_lt lt, fun y => Nat.lt_asymm lt (e4 b y)⟩
      let G : Hp := fun b => if (b : Nat) = h1.objs.size then some (.lst (ts.map fun (t : Nat) => V.ref t)) else if b ∈ ts then some (.tup (((K5.lots n r).getD (ts.idxOf b) []).map fun i => V.int (i : Nat))) else H1 b
      have gS : G h1.objs.size = some (.lst (ts.map fun (t : Nat) => V.ref t)) := if_pos rfl
      have gT : ∀ (j t : Nat), ts[j]? = some t → G t = some (.tup (((K5.lots n r).getD j []).map fun i => V.int (i : Nat))) := fun j t ht => by
        have hm := List.mem_of_getElem? ht
        have ne : (t : Nat) ≠ h1.objs.size := Nat.ne_of_gt (e4 t hm)
        obtain ⟨hjl, ej⟩ := List.getElem?_eq_some_iff.mp ht
        have hix : ts.idxOf t = j := by
          rw [← ej]
          exact e3.idxOf_getElem j hjl
        show (if (t : Nat) = h1.objs.size then _ else _) = _
        rw [if_neg ne, if_pos hm, hix]
      have gO : ∀ b o, s1.heap.get? b = some o → G b = H1 b := fun b o z => by
        obtain ⟨n1, n2⟩ := old b o z
        show (if (b : Nat) = h1.objs.size then _ else _) = _
        rw [if_neg n1, if_neg n2]
      have same : ∀ c o, H1 c = some o → G c = some o := fun c o z => by
        obtain ⟨u, z2⟩ := stands (I1.hok c o z)
        rw [gO c u z2]
        exact z
      have fit := K5.lots_fit n n6 r (by omega)
      have lin := lots_in n n6 r (by omega)
      have ok : HOk X.prog X.w G h2 := fun b o z => by
        by_cases hb : (b : Nat) = h1.objs.size
        · have zz : G b = some (.lst (ts.map fun (t : Nat) => V.ref t)) := if_pos hb
          rw [zz] at z
          obtain rfl := Option.some.inj z
          rw [hb]
          refine ⟨by rw [List.length_map, e1]; exact Nat.le_trans fit.1 (by decide), acc.toList, k, ?_, ?_⟩
          · rw [e2']
            exact vals_refs' ts
          · rw [Array.toArray_toList]
            exact hO
        · by_cases hm : b ∈ ts
          · obtain ⟨j, hj, ej⟩ := List.getElem_of_mem hm
            have ht : ts[j]? = some b := by rw [List.getElem?_eq_getElem hj, ej]
            rw [gT j b ht] at z
            obtain rfl := Option.some.inj z
            have hjl : j < (K5.lots n r).length := by omega
            have hd : (K5.lots n r).getD j [] ∈ K5.lots n r := by
              rw [List.getD_eq_getElem?_getD, List.getElem?_eq_getElem hjl]
              exact List.getElem_mem hjl
            refine ⟨by rw [List.length_map]; exact Nat.le_trans (fit.2 _ hd) (by decide), _, pick_vals hU _ (lin _ hd), ?_⟩
            exact ⟨_, e5 j b ht, rfl, _, rfl⟩
          · have zz : G b = H1 b := by
              show (if (b : Nat) = h1.objs.size then _ else _) = _
              rw [if_neg hb, if_neg hm]
            rw [zz] at z
            exact (I1.hok b o z).stay (fun c v _ q => kk c v q) (fun c q => same c _ q) fun c xs q => same c _ q
      have fS : H1 h1.objs.size = none := by
        cases z : H1 h1.objs.size with
        | none => rfl
        | some o =>
          obtain ⟨u, z2⟩ := stands (I1.hok _ _ z)
          exact absurd rfl (old _ _ z2).1
      refine ⟨.ref h1.objs.size, G, grown2 (s := s1) (t' := tk1) I1 kk gO ok, rfl, q2 G h1.objs.size _ same fS gS ⟨by rw [List.length_map, e1], fun i t d ht hd => ?_⟩⟩
      rw [List.getElem?_map] at ht
      cases z : ts[i]? with
      | none =>
        rw [z] at ht
        cases ht
      | some t0 =>
        rw [z] at ht
        obtain rfl := Option.some.inj ht
        refine ⟨t0, rfl, ?_⟩
        rw [gT i t0 z, List.getD_eq_getElem?_getD, hd]
        rfl
end
end L2
namespace K6
open PySem PySem.Spec PyProof.Rows L2 K0 K4
section
variable {P : Program} {w : World} {K : PySem.W.Frag} {mg : Str → Option Value} {base : Heap}
variable {C Z : Addr}
abbrev st_Telling____init__ : Stmt := inClass (top 69) 0
abbrev nm_Telling____init__ : List Str := ["self", "languages", "pairs"]
theorem sc_Telling____init__ : K8.SScope nm_Telling____init__ ["self", "languages", "pairs"] (defScope st_Telling____init__) := ⟨rfl, rfl, rfl, by decide +kernel, rfl, by decide +kernel, by decide +kernel, by decide +kernel⟩
/-- a telling's class -/
structure TlC (K : PySem.W.Frag) (C : Addr) : Prop where
  p : PapC K C
  f3 : NoAttr K C "languages"
  f4 : NoAttr K C "pairs"
/-- a telling of these languages and these pairs, its parts known -/
def ZmB (Z : Addr) (H : Hp) (x : Addr) (d1 d2 : PyData) : Prop := ∃ dx u1 u2 p, H x = some (.ins Z dx [("kind", .str "telling"), ("parts", p), ("languages", u1), ("pairs", u2)]) ∧ FTN H 2 u1 d1 ∧ FTN H 2 u2 d2 ∧ FTN H 3 p (.tuple [d1, d2])
theorem zmb_sm {H H' : Hp} {x : Addr} {d1 d2 : PyData} (s : Same H H') (h : ZmB Z H x d1 d2) : ZmB Z H' x d1 d2 := by
  obtain ⟨dx, u1, u2, p, e, f1, f2, f3⟩ := h
  exact ⟨dx, u1, u2, p, s _ _ e, ft_same s f1, ft_same s f2, ft_same s f3⟩
def spZmJ (K : PySem.W.Frag) (C : Addr) : Sp := fun vs H Q _ => ∃ x dx v1 v2 d1 d2, vs = [.ref x, v1, v2] ∧ H x = some (.ins C dx []) ∧ FxN K H 2 v1 d1 ∧ FxN K H 2 v2 d2 ∧
  ∀ H', ZmB C H' x d1 d2 → (∀ c o, c ≠ x → H c = some o → H' c = some o) → Q .non H'
theorem ok_ZM_initJ {f cda cc g : Addr} {fd : FuncData} (F : FunS K "__init__" "Telling.__init__" st_Telling____init__ f cda cc fd) (Z : TlC K C) (U : K8.SupC P K mg C cda g "__init__") (hcc : base.IsCell cc (some (.ref C)))
    (PI : FnR P w K mg base CX0 5 g (fun vs H Q E => ∃ ws rest, vs = ws ++ rest ∧ ws.length = ["self", "kind"].length ∧ rest.length ≤ sizeLine ∧ ∀ p, H p = none → spPaperI K (ws ++ [V.ref p]) (upd H p (.tup rest)) Q E)) :
    FnOk P w K mg base (L2.CX P w) 6 f fd ["self", "languages", "pairs"] (spZmJ K C) := by
  obtain ⟨oc, od, kV, doc, pm, an, ct, osl, rfl, lk, hcd⟩ := F.ex
  refine K8.fn_super (k := 5) (j := 5) lk hcd sc_Telling____init__ U hcc rfl rfl rfl rfl (by decide) PI (Nat.le_refl _) (fun vs H Q E h => ?_) (fun A outer s H E pins σ H s e s' I hq => hq.elim) fun A outer s H vs Q E hr h => ?_
  · obtain ⟨x, dx, v1, v2, d1, d2, rfl, _⟩ := h
    rfl
  · obtain ⟨x, dx, v1, v2, d1, d2, rfl, hx, h1, h2, q⟩ := h
    have SC := sc_Telling____init__
    refine ⟨_, _, x, dx, pa_cons pe_str (pa_cons (pv 1) (pa_cons (pv 2) pa_nil)), pss_one (ps_asg (pe_fld (pv 0) rfl) (pg_tup rfl (pgs_cons (K8.pg_fld (pv 0)) (pgs_cons (K8.pg_fld (pv 0)) pgs_nil)))), rfl, hx, fun q1 hq1 => ?_⟩
    have s1 : Same H (upd H q1 (.met g x)) := Sm.new hq1
    refine ⟨_, rfl, _, rfl, upd_same, [.ref x, .str "telling"], [v1, v2], rfl, rfl, (by show 2 ≤ sizeLine; decide), fun p hp => ?_⟩
    have s2 : Same H (upd (upd H q1 (.met g x)) p (.tup [v1, v2])) := s1.trans (Sm.new hp)
    refine ⟨x, C, dx, "telling", p, .tuple [d1, d2], rfl, Z.p, s2 _ _ hx, .inr ⟨p, [v1, v2], [d1, d2], rfl, rfl, .inr (SqT.of upd_same), (by show 2 ≤ 1000; decide), rfl, fun i y e e1 e2 => ?_⟩, fun H3 v hx3 kx hft => ?_⟩
    · match i, e1, e2 with
      | 0, e1, e2 =>
        obtain rfl := Option.some.inj e1
        obtain rfl := Option.some.inj e2
        exact fx_same s2 h1
      | 1, e1, e2 =>
        obtain rfl := Option.some.inj e1
        obtain rfl := Option.some.inj e2
        exact fx_same s2 h2
      | i + 2, e1, e2 => cases e1
    · have hft0 := hft
      rcases hft with ha | ⟨t, xs, ds, rfl, ed, ht, hl, hx'⟩
      · rcases ha with ⟨i, _, e⟩ | ⟨z, _, e⟩ <;> cases e
      cases ed
      obtain ⟨u1, u2, rfl⟩ : ∃ u1 u2, xs = [u1, u2] := by
        match xs, hl with
        | [a, b], _ => exact ⟨a, b, rfl⟩
      have hu1 := hx' 0 u1 d1 rfl rfl
      have hu2 := hx' 1 u2 d2 rfl rfl
      refine ⟨_, rfl, x, C, dx, _, _, rfl, hx3, Z.p.c, Z.p.f2, rfl, t, [u1, u2], rfl, tf_sq ht, rfl, _, _, rfl, ?_⟩
      refine ⟨_, rfl, x, C, dx, _, rfl, hx3, Z.p.c, Z.f3, (by show 2 < 1000; decide), _, _, rfl, ?_⟩
      refine ⟨_, rfl, x, C, dx, _, rfl, upd_same, Z.p.c, Z.f4, (by show 3 < 1000; decide), rfl, ?_⟩
      refine q _ ⟨dx, u1, u2, .ref t, upd_same, ft_ins upd_same (ft_ins hx3 hu1), ft_ins upd_same (ft_ins hx3 hu2), ft_ins upd_same (ft_ins hx3 hft0)⟩ (fun c o n e => ?_)
      rw [upd_ne n, upd_ne n]
      exact kx c o n (s2 _ _ e)
theorem zmb_make {v1 v2 : V} {d1 d2 : PyData} {H : Hp} {Q : VK} {E : XK} (h1 : FxN K H 2 v1 d1) (h2 : FxN K H 2 v2 d2) (k : ∀ H' x, Same H H' → H x = none → ZmB Z H' x d1 d2 → Q (.ref x) H') : ∀ x dx, H x = none → H dx = none → dx ≠ x →
    spZmJ K Z (.ref x :: ([v1, v2] ++ [])) (upd (upd H dx (.own x)) x (.ins Z dx [])) (fun v H2 => v = .non ∧ Q (.ref x) H2) E := by
  intro x dx nx nd ne
  have s1 : Same H (upd (upd H dx (.own x)) x (.ins Z dx [])) := fun c o e => by
    rw [upd_ne (ne_of_none e nx), upd_ne (ne_of_none e nd)]
    exact e
  refine ⟨x, dx, v1, v2, d1, d2, rfl, upd_same, fx_same s1 h1, fx_same s1 h2, fun H' hz kp => ⟨rfl, k H' x (fun c o e => kp c o (ne_of_none e nx) (s1 _ _ e)) nx hz⟩⟩
/-- what the text says of the class of tellings, for its name, its ==, its truth -/
structure ZmE (K : PySem.W.Frag) (mg : Str → Option Value) (Z Pp : Addr) : Prop where
  c : TlC K Z
  nm : ClsNm K Z "Telling"
  gP : mg "Paper" = some (.ref Pp)
  gZ : mg "Telling" = some (.ref Z)
  kP : PySem.W.kitOne K (.ref Z) (.ref Pp) = some true
  kZ : PySem.W.kitOne K (.ref Z) (.ref Z) = some true
theorem ZmE.g_Paper {Pp : Addr} (U : ZmE K mg Z Pp) : mg "Paper" = some (.ref Pp) := U.gP
theorem ZmE.g_Telling {Pp : Addr} (U : ZmE K mg Z Pp) : mg "Telling" = some (.ref Z) := U.gZ
theorem zm_tyx {Pp : Addr} {H : Hp} {x : Addr} {d1 d2 : PyData} (U : ZmE K mg Z Pp) (h : ZmB Z H x d1 d2) : TyX K H (.ref x) (.ref Z) := by
  obtain ⟨dx, u1, u2, p, e, _⟩ := h
  exact .base (.ins e U.c.p.c U.nm.fi U.nm.sp U.nm.tk U.nm.mro)
abbrev st_are_equal : Stmt := top 65
abbrev nm_are_equal : List Str := ["one", "other"]
theorem sc_are_equal : FnScope nm_are_equal ["one", "other"] (defScope st_are_equal) := ⟨rfl, rfl, rfl, by decide +kernel, rfl, by decide +kernel, by decide +kernel⟩
def spAreEq (K : PySem.W.Frag) (Z : Addr) : Sp := fun vs H Q _ => ∃ x y d1 d2 e1 e2, vs = [.ref x, .ref y] ∧ ZmB Z H x d1 d2 ∧ ZmB Z H y e1 e2 ∧ SeqAt.shaped (.tuple [d1, d2]) = true ∧ SeqAt.shaped (.tuple [e1, e2]) = true ∧
  Q (.bl (PyData.eqv (.tuple [d1, d2]) (.tuple [e1, e2]))) H
theorem ok_are_equal {f Pp : Addr} {fd : FuncData} (F : Fun K "are_equal" "are_equal" st_are_equal f fd) (U : ZmE K mg Z Pp) : FnOk P w K mg base CX0 1 f fd ["one", "other"] (spAreEq K Z) := by
  refine F.ok sc_are_equal (fun vs H Q E h => ?_) (fun cdv A outer s H vs Q E hr h => ?_)
  · obtain ⟨x, y, d1, d2, e1, e2, rfl, _⟩ := h
    rfl
  · refine ⟨_, (pss_cons (ps_if (pt_cmpR op_ne (pe_clsnm (pv 0) rfl rfl) (pe_clsnm (pv 1) rfl rfl) (nomark _)) (pss_one (ps_ret pe_bl)) pss_nil)
  (pss_one (ps_ret (pe_and (pe_cmpR op_eq (pe_fld (pv 0) rfl) (pe_fld (pv 1) rfl) (nomark _)) (pe_one (pe_cmpR (op_eqD hr.units) (pe_fld (pv 0) rfl) (pe_fld (pv 1) rfl) (nomark _))))))), ?_⟩
    obtain ⟨x, y, d1, d2, e1, e2, rfl, ⟨dx, u1, u2, p, hx, _, _, hp⟩, ⟨dy, v1, v2, r, hy, _, _, hr'⟩, s1, s2, q⟩ := h
    refine ⟨_, rfl, x, Z, dx, _, _, rfl, hx, U.nm, _, rfl, y, Z, dy, _, _, rfl, hy, U.nm, rfl, ?_⟩
    refine ⟨_, rfl, iteF ?_⟩
    refine ⟨_, rfl, x, Z, dx, _, _, rfl, hx, U.c.p.c, U.c.p.f1, rfl, _, rfl, y, Z, dy, _, _, rfl, hy, U.c.p.c, U.c.p.f1, rfl, rfl, _, rfl, ?_⟩
    refine ⟨_, rfl, x, Z, dx, _, _, rfl, hx, U.c.p.c, U.c.p.f2, rfl, _, rfl, y, Z, dy, _, _, rfl, hy, U.c.p.c, U.c.p.f2, rfl, _, _, ft_dp hp, ft_dp hr', s1, s2, q⟩
abbrev st_is_called : Stmt := top 66
abbrev nm_is_called : List Str := ["value", "name"]
theorem sc_is_called : FnScope nm_is_called ["value", "name"] (defScope st_is_called) := ⟨rfl, rfl, rfl, by decide +kernel, rfl, by decide +kernel, by decide +kernel⟩
def spIsCalled (K : PySem.W.Frag) (Z : Addr) : Sp := fun vs H Q _ => ∃ x z d1 d2, vs = [.ref x, .str z] ∧ ZmB Z H x d1 d2 ∧ Q (.bl (decide ((V.str "Telling") = .str z))) H
theorem ok_is_called {f Pp : Addr} {fd : FuncData} (F : Fun K "is_called" "is_called" st_is_called f fd) (U : ZmE K mg Z Pp) : FnOk P w K mg base CX0 1 f fd ["value", "name"] (spIsCalled K Z) := by
  refine F.ok sc_is_called (fun vs H Q E h => ?_) (fun cdv A outer s H vs Q E hr h => ?_)
  · obtain ⟨x, z, d1, d2, rfl, _⟩ := h
    rfl
  · refine ⟨_, (pss_one (ps_ret (pe_cmpR op_eq (pe_clsnm (pv 0) rfl rfl) (pv 1) (nomark _)))), ?_⟩
    obtain ⟨x, z, d1, d2, rfl, ⟨dx, u1, u2, p, hx, _, _, hp⟩, q⟩ := h
    exact ⟨_, rfl, x, Z, dx, _, _, rfl, hx, U.nm, _, rfl, rfl, q⟩
abbrev CAeq (P : Program) (w : World) (K : PySem.W.Frag) (mg : Str → Option Value) (base : Heap) (Z : Addr) : Prop := Cal P w K mg base 1 "are_equal" st_are_equal ["one", "other"] (spAreEq K Z)
abbrev CIsc (P : Program) (w : World) (K : PySem.W.Frag) (mg : Str → Option Value) (base : Heap) (Z : Addr) : Prop := Cal P w K mg base 1 "is_called" st_is_called ["value", "name"] (spIsCalled K Z)
end
end K6
namespace K6
open PySem PySem.Spec PyProof.Rows L2 K0 K4
section
variable {P : Program} {w : World} {K : PySem.W.Frag} {mg : Str → Option Value} {base : Heap}
variable {cs : Nat → Addr} {C Z : Addr}
abbrev st_Paper____eq__ : Stmt := inClass (top 67) 2
abbrev nm_Paper____eq__ : List Str := ["self", "other"]
theorem sc_Paper____eq__ : FnScope nm_Paper____eq__ ["self", "other"] (defScope st_Paper____eq__) := ⟨rfl, rfl, rfl, by decide +kernel, rfl, by decide +kernel, by decide +kernel⟩
@[irreducible] def hAeq (K : PySem.W.Frag) (Z : Addr) : Sp := spAreEq K Z
theorem hAeq_eq {K : PySem.W.Frag} {Z : Addr} : hAeq K Z = spAreEq K Z := by
  unfold hAeq
  rfl
theorem ok_Paper_eq {f Pp : Addr} {fd : FuncData} (F : Fun K "__eq__" "Paper.__eq__" st_Paper____eq__ f fd) (T : Blt mg) (U : ZmE K mg Z Pp) (C_are_equal : CAeq P w K mg base Z) : FnOk P w K mg base CX0 2 f fd ["self", "other"] (spAreEq K Z) := by
  have C_are_equal := cal_to' C_are_equal hAeq_eq
  refine F.ok sc_Paper____eq__ (fun vs H Q E h => ?_) (fun cdv A outer s H vs Q E hr h => ?_)
  · obtain ⟨x, y, d1, d2, e1, e2, rfl, _⟩ := h
    rfl
  · refine ⟨_, (pss_one (ps_ret (pe_and (pe_callB call_isi (by rfl) T.n_isinstance (by decide +kernel) (pa_cons (pv 1) (pa_cons (pe_glob (v := .ref _) rfl (U.g_Paper) rfl) pa_nil))) (pe_one (pe_cl C_are_equal (hr.mono (by decide)) rfl (pa_cons (pv 0) (pa_cons (pv 1) pa_nil))))))), ?_⟩
    obtain ⟨x, y, d1, d2, e1, e2, rfl, hx, hy, s1, s2, q⟩ := h
    refine ⟨_, rfl, _, _, .ref Z, _, _, rfl, .own Pp, zm_tyx U hy, U.kP, true, rfl, ?_⟩
    refine ⟨_, rfl, _, rfl, ?_⟩
    show hAeq K Z [.ref x, .ref y] H _ _
    rw [hAeq_eq]
    exact ⟨x, y, d1, d2, e1, e2, rfl, hx, hy, s1, s2, q⟩
abbrev st_Paper____bool__ : Stmt := inClass (top 67) 1
abbrev nm_Paper____bool__ : List Str := ["self"]
theorem sc_Paper____bool__ : FnScope nm_Paper____bool__ ["self"] (defScope st_Paper____bool__) := ⟨rfl, rfl, rfl, by decide +kernel, rfl, by decide +kernel, by decide +kernel⟩
def spPaperB (K : PySem.W.Frag) : Sp := fun vs H Q _ => ∃ x, vs = [.ref x] ∧ Q (.bl true) H
theorem ok_Paper_bool {f : Addr} {fd : FuncData} (F : Fun K "__bool__" "Paper.__bool__" st_Paper____bool__ f fd) : FnOk P w K mg base CX0 1 f fd ["self"] (spPaperB K) := by
  refine F.ok sc_Paper____bool__ (fun vs H Q E h => ?_) (fun cdv A outer s H vs Q E hr h => ?_)
  · obtain ⟨x, rfl, _⟩ := h
    rfl
  · refine ⟨_, (pss_one (ps_ret pe_bl)), ?_⟩
    obtain ⟨x, rfl, q⟩ := h
    exact q
end
end K6
namespace K6
open PySem PySem.Spec PyProof.Rows L2 K0 K4
/-- tuples of numbers -/
def DsT (H : Hp) (ts : List V) (ds : List (List Nat)) : Prop := ts.length = ds.length ∧ ∀ (i : Nat) t d, ts[i]? = some t → ds[i]? = some d → ∃ a, t = .ref a ∧ H a = some (.tup (inV' d))
theorem dst_kp {H H' : Hp} {ts : List V} {ds : List (List Nat)} (k : ∀ a xs, H a = some (.tup xs) → H' a = some (.tup xs)) (h : DsT H ts ds) : DsT H' ts ds := ⟨h.1, fun i t d e1 e2 => by
  obtain ⟨a, e, ha⟩ := h.2 i t d e1 e2
  exact ⟨a, e, k _ _ ha⟩⟩
theorem dst_sm {H H' : Hp} {ts : List V} {ds : List (List Nat)} (s : Same H H') (h : DsT H ts ds) : DsT H' ts ds := dst_kp (fun a xs e => s _ _ e) h
theorem dst_upd {H : Hp} {D : Addr} {l : List V} {o : HO} {ts : List V} {ds : List (List Nat)} (hD : H D = some (.lst l)) (h : DsT H ts ds) : DsT (upd H D o) ts ds := dst_kp (fun a xs e => (upd_ne fun z => by
  rw [z, hD] at e
  cases e).trans e) h
theorem dst_app {H : Hp} {ts t2 : List V} {ds d2 : List (List Nat)} (h : DsT H ts ds) (g : DsT H t2 d2) : DsT H (ts ++ t2) (ds ++ d2) := ⟨by rw [List.length_append, List.length_append, h.1, g.1], fun i t d h1 h2 => by
  rcases Nat.lt_or_ge i ts.length with q | q
  · rw [List.getElem?_append_left q] at h1
    rw [List.getElem?_append_left (by rw [← h.1]; exact q)] at h2
    exact h.2 i t d h1 h2
  · rw [List.getElem?_append_right q] at h1
    rw [List.getElem?_append_right (by rw [← h.1]; exact q), ← h.1] at h2
    exact g.2 _ t d h1 h2⟩
theorem dst_nil {H : Hp} : DsT H [] [] := ⟨rfl, fun i t d h => by cases h⟩
theorem dst_one {H : Hp} {a : Addr} {d : List Nat} (h : H a = some (.tup (inV' d))) : DsT H [.ref a] [d] := ⟨rfl, fun i t d' h1 h2 => by
  match i, h1, h2 with
  | 0, h1, h2 =>
    obtain rfl := Option.some.inj h1
    obtain rfl := Option.some.inj h2
    exact ⟨a, rfl, h⟩
  | i + 1, h1, h2 => cases h1⟩
theorem max_nCol {d : List Nat} {m : Int} (h1 : m ∈ (d.map fun n => ((n : Nat) : Int)) ++ [-1]) (h2 : ∀ y ∈ (d.map fun n => ((n : Nat) : Int)) ++ [-1], y ≤ m) : m + 1 = (nCol d : Nat) := by
  have gen : ∀ (l : List Nat) (k : Nat), l.foldl (fun m s => max m (s + 1)) k = k ∨ ∃ s ∈ l, l.foldl (fun m s => max m (s + 1)) k = s + 1 := by
    intro l
    induction l with
    | nil => exact fun k => .inl rfl
    | cons a r ih =>
      intro k
      rw [List.foldl_cons]
      rcases ih (max k (a + 1)) with e | ⟨s, hs, e⟩
      · rw [e]
        by_cases c : k ≤ a + 1
        · exact .inr ⟨a, List.mem_cons_self, by omega⟩
        · exact .inl (by omega)
      · exact .inr ⟨s, List.mem_cons_of_mem _ hs, e⟩
  have hlow : -1 ≤ m := h2 (-1) (List.mem_append_right _ List.mem_cons_self)
  have hup : m + 1 ≤ (nCol d : Nat) := by
    rcases List.mem_append.mp h1 with h | h
    · obtain ⟨n, hn, rfl⟩ := List.mem_map.mp h
      have := nCol_lt hn
      omega
    · rw [List.mem_singleton.mp h]
      omega
  have hdn : (nCol d : Int) ≤ m + 1 := by
    rcases gen d 0 with e | ⟨s, hs, e⟩
    · show ((d.foldl (fun m s => max m (s + 1)) 0 : Nat) : Int) ≤ _
      rw [e]
      omega
    · show ((d.foldl (fun m s => max m (s + 1)) 0 : Nat) : Int) ≤ _
      rw [e]
      have := h2 (s : Nat) (List.mem_append_left _ (List.mem_map.mpr ⟨s, hs, rfl⟩))
      omega
  omega
section
variable {P : Program} {w : World} {K : PySem.W.Frag} {mg : Str → Option Value} {base : Heap}
variable {cs : Nat → Addr} {C Z : Addr}
theorem cat_one {H : Hp} {Q : VK} {a b : Addr} {d : List V} {y : V} (ha : H a = some (.tup d)) (hb : H b = some (.tup [y])) (hl : d.length ≤ 1000) (k : ∀ c H', Same H H' → H' c = some (.tup (d ++ [y])) → Q (.ref c) H') : rCatA K (.ref a) (.ref b) H Q := by
  refine ⟨a, b, d, [y], rfl, rfl, SqT.of ha, SqT.of hb, small_line (by show d.length + 1 ≤ 1000000; omega), fun e => ?_, fun _ z => (by cases z), fun _ _ p hp => k p _ (Sm.new hp) upd_same⟩
  subst e
  exact k b H (fun _ _ e => e) hb
end
end K6
namespace K6
open PySem PySem.Spec PyProof.Rows L2 K0 K4
section
variable {P : Program} {w : World} {K : PySem.W.Frag} {mg : Str → Option Value} {base : Heap}
theorem cr_range1 {X : Cx} : CallR X (.type "range") (fun vs H Q => ∃ j, vs = [V.int j] ∧ ∀ p, H p = none → Q (.ref p) (upd H p (.rng 0 j))) := by
  intro pins s σ H vs us Q I r h
  obtain ⟨j, rfl, q⟩ := h
  obtain ⟨u, rfl, t, rfl⟩ := vals1 r
  refine call_range_1 ⟨.ref s.heap.objs.size, upd H s.heap.objs.size (.rng 0 j), I.laid (t' := s.toks + 1 + 1) (fun b o e => Heap.get?_push_of_some _ e) (Nat.le_refl _) ?_, rfl, q _ (I.hok.fresh (Nat.le_refl _))⟩
  exact ⟨s.toks, t, s.toks + 1, Heap.get?_push_size _ rfl⟩
def lotsB (m : Nat) : List (List Nat) := (List.range (m + 1)).flatMap (K5.lots m)
theorem lotsB_ok : ∀ m < 6, (lotsB m).length ≤ 64 ∧ ∀ d ∈ lotsB m, d.length ≤ m ∧ ∀ i ∈ d, i < m := by decide +kernel
theorem dst_of {H : Hp} {ts : List V} {L : List (List Nat)} (h : TupsI H ts L) : DsT H ts L := ⟨h.1, fun i t d e1 e2 => by
  obtain ⟨a, e, ha⟩ := h.2 i t d e1 e2
  exact ⟨a, e, ha⟩⟩
abbrev st_lots_of_size : Stmt := top 61
abbrev nm_lots_of_size : List Str := ["many", "size"]
theorem sc_lots_of_size : FnScope nm_lots_of_size ["many", "size"] (defScope st_lots_of_size) := ⟨rfl, rfl, rfl, by decide +kernel, rfl, by decide +kernel, by decide +kernel⟩
def spLotsOf : Sp := fun vs H Q _ => ∃ m r : Nat, vs = [.int (m : Nat), .int (r : Nat)] ∧ m < 6 ∧ r ≤ m ∧ ∀ H' D ts, Same H H' → H D = none → H' D = some (.lst ts) → DsT H' ts (K5.lots m r) → Q (.ref D) H'
theorem ok_lots_of {f : Addr} {fd : FuncData} (F : Fun K "lots_of_size" "lots_of_size" st_lots_of_size f fd) (T : Blt mg) (hcmb : mg "combinations" = some (.type "itertools.combinations")) : FnOk P w K mg base CX0 1 f fd ["many", "size"] spLotsOf := by
  refine F.ok sc_lots_of_size (fun vs H Q E h => ?_) (fun cdv A outer s H vs Q E hr h => ?_)
  · obtain ⟨m, r, rfl, _⟩ := h
    rfl
  · refine ⟨_, (pss_one (ps_ret (pe_listCmb rfl (by rfl) T.n_list (by rfl) hcmb (pa_cons (pe_callTy cr_range1 (by rfl) T.n_range (by decide +kernel) (pa_cons (pv 0) pa_nil)) (pa_cons (pe_callTy call_int1 (by rfl) T.n_int (by decide +kernel) (pa_cons (pv 1) pa_nil)) pa_nil))))), ?_⟩
    obtain ⟨m, r, rfl, m6, hr, q⟩ := h
    refine ⟨_, rfl, _, rfl, fun R hR => ⟨_, rfl, .inl ⟨_, rfl, R, m, r, rfl, upd_same, m6, hr, fun H' D ts k n e t => ?_⟩⟩⟩
    have s1 : Same H (upd H R (.rng 0 (m : Nat))) := Sm.new hR
    exact q H' D ts (s1.trans k) (none_back s1 n) e (dst_of t)
abbrev st_lots_below : Stmt := top 62
abbrev nm_lots_below : List Str := ["many", "lots", "size"]
theorem sc_lots_below : FnScope nm_lots_below ["many"] (defScope st_lots_below) := ⟨rfl, rfl, rfl, by decide +kernel, rfl, by decide +kernel, by decide +kernel⟩
def spLotsB : Sp := fun vs H Q _ => ∃ m : Nat, vs = [.int (m : Nat)] ∧ m < 6 ∧ ∀ H' D ts, Same H H' → H D = none → H' D = some (.lst ts) → DsT H' ts (lotsB m) → Q (.ref D) H'
abbrev CLots (P : Program) (w : World) (K : PySem.W.Frag) (mg : Str → Option Value) (base : Heap) : Prop := Cal P w K mg base 1 "lots_of_size" st_lots_of_size ["many", "size"] spLotsOf
@[irreducible] def hLots : Sp := spLotsOf
theorem hLots_eq : hLots = spLotsOf := by
  unfold hLots
  rfl
theorem ok_lots_below {f : Addr} {fd : FuncData} (F : Fun K "lots_below" "lots_below" st_lots_below f fd) (T : Blt mg) (C_lots_of_size : CLots P w K mg base) : FnOk P w K mg base CX0 2 f fd ["many"] spLotsB := by
  have C_lots_of_size := cal_to' C_lots_of_size hLots_eq
  refine F.ok sc_lots_below (fun vs H Q E h => ?_) (fun cdv A outer s H vs Q E hr h => ?_)
  · obtain ⟨m, rfl, _⟩ := h
    rfl
  · refine ⟨_, (pss_cons (ps_set (i := 1) sc_lots_below.nd rfl (Or.inl rfl) (pe_lst pa_nil))
  (pss_cons (ps_for PassesOwn.never rfl (pi_range1 rfl T.n_range (pa_cons (pe_op op_add (pv 0) pe_int) pa_nil)) (pg_name (i := 2) sc_lots_below.nd rfl (Or.inl rfl)) (pss_one (ps_expr (pe_bm PySem.F.plainAttrs_list PySem.F.slot_list_extend PySem.F.type_list_extend mt_extend (pv 1) (pa_cons (pe_cl C_lots_of_size (hr.mono (by decide)) rfl (pa_cons (pv 0) (pa_cons (pv 2) pa_nil))) pa_nil)))))
  (pss_one (ps_ret (pv 1))))), ?_⟩
    obtain ⟨m, rfl, m6, q⟩ := h
    rw [show L2.start nm_lots_below [V.int (m : Nat)] = [some (V.int (m : Nat)), none, none] from rfl]
    refine ⟨Nat.zero_le _, fun L hL => ?_⟩
    have s1 : Same H (upd H L (.lst [])) := Sm.new hL
    refine ⟨_, rfl, (m : Nat), 1, rfl, rfl, (m : Nat) + 1, rfl, by omega, by omega, ?_⟩
    refine for_it walk_range (fun i σ H' => (∃ v, σ = [some (.int (m : Nat)), some (.ref L), v]) ∧ Same H H' ∧ ∃ ts, H' L = some (.lst ts) ∧ DsT H' ts ((List.range i).flatMap (K5.lots m))) ⟨⟨none, rfl⟩, s1, [], upd_same, dst_nil⟩ (fun _ _ _ _ _ => trivial) ?_ ?_
    · rintro i y σ H1 H2 hi ⟨⟨v, rfl⟩, p1, ts, p2, p3⟩ ⟨rfl, rfl⟩
      have hi : i < m + 1 := by
        have : i < ((m : Nat) + 1 : Int).toNat := hi
        omega
      have htot := (lotsB_ok m m6).1
      have hstep : (List.range (i + 1)).flatMap (K5.lots m) = (List.range i).flatMap (K5.lots m) ++ K5.lots m i := by
        rw [List.range_succ, List.flatMap_append]
        simp
      have hle : ((List.range (i + 1)).flatMap (K5.lots m)).length ≤ 64 := by
        refine Nat.le_trans ?_ htot
        unfold lotsB
        rw [show List.range (m + 1) = List.range (i + 1) ++ (List.range (m - i)).map (i + 1 + ·) by
          rw [← List.range_add]
          congr 1
          omega, List.flatMap_append, List.length_append]
        omega
      rw [hstep, List.length_append] at hle
      refine ⟨_, rfl, .inl ⟨rfl, _, SqL.of p2⟩, _, rfl, _, rfl, ?_⟩
      show hLots [.int (m : Nat), .int (0 + (i : Nat))] _ _ _
      rw [hLots_eq, Int.zero_add]
      refine ⟨m, i, rfl, m6, by omega, fun H3 D t2 s3 nD eD dD => ?_⟩
      have eL := s3 _ _ p2
      refine ⟨L, D, ts, t2, rfl, rfl, eL, eD, ?_, ⟨_, rfl⟩, ?_, _, upd_same, ?_⟩
      · rw [p3.1, dD.1]
        exact Nat.le_trans hle (by decide)
      · exact Sm.put (p1.trans s3) hL
      · rw [hstep]
        exact dst_upd eL (dst_app (dst_sm s3 p3) dD)
    · rintro σ H1 ⟨⟨v, rfl⟩, p1, ts, p2, p3⟩
      have p3 : DsT H1 ts ((List.range ((m : Nat) + 1 : Int).toNat).flatMap (K5.lots m)) := p3
      rw [show ((m : Nat) + 1 : Int).toNat = m + 1 by omega] at p3
      exact ⟨_, rfl, q H1 L ts p1 hL p2 p3⟩
end
end K6
namespace K6
open PySem PySem.Spec PyProof.Rows L2 K0 K4
section
variable {P : Program} {w : World} {K : PySem.W.Frag} {mg : Str → Option Value} {base : Heap}
def partB (cl : List (List Nat)) (d : List Nat) (p q : Nat) : Bool := d.any fun i => decide ((cl.getD p []).getD i 0 ≠ (cl.getD q []).getD i 0)
theorem col_at {H : Hp} {ts : List V} {cl : List (List Nat)} (h : Cols H ts cl) {p : Nat} (hp : p < cl.length) : ∃ a, ts[p]? = some (.ref a) ∧ H a = some (.tup (colV (cl.getD p []))) := by
  have e1 := List.getElem?_eq_getElem (show p < ts.length by rw [h.1]; exact hp)
  have e2 := List.getElem?_eq_getElem hp
  obtain ⟨a, e, ha⟩ := h.2 p _ _ e1 e2
  refine ⟨a, by rw [e1, e], ?_⟩
  rw [List.getD_eq_getElem?_getD, e2]
  exact ha
theorem colV_at {c : List Nat} {i : Nat} (hi : i < c.length) : (colV c)[i]? = some (V.str (Tx [c.getD i 0])) := by
  unfold colV
  rw [List.getElem?_map, List.getD_eq_getElem?_getD, List.getElem?_eq_getElem hi]
  rfl
abbrev st_are_parted : Stmt := top 73
abbrev nm_are_parted : List Str := ["columns", "lot", "place", "other", "index"]
theorem sc_are_parted : FnScope nm_are_parted ["columns", "lot", "place", "other"] (defScope st_are_parted) := ⟨rfl, rfl, rfl, by decide +kernel, rfl, by decide +kernel, by decide +kernel⟩
def spParted (K : PySem.W.Frag) : Sp := fun vs H Q _ => ∃ (a t : Addr) (ts : List V) (cl : List (List Nat)) (d : List Nat) (p q : Nat), vs = [.ref a, .ref t, .int (p : Nat), .int (q : Nat)] ∧ SqL K H a ts ∧ Cols H ts cl ∧ SqT K H t (inV' d) ∧ p < cl.length ∧ q < cl.length ∧
  (∀ i ∈ d, i < (cl.getD p []).length ∧ i < (cl.getD q []).length) ∧ d.length ≤ 1000 ∧ ∀ H', Same H H' → Q (.bl (partB cl d p q)) H'
theorem ok_parted {f : Addr} {fd : FuncData} (F : Fun K "are_parted" "are_parted" st_are_parted f fd) (T : Blt mg) : FnOk P w K mg base CX0 1 f fd ["columns", "lot", "place", "other"] (spParted K) := by
  refine F.ok sc_are_parted (fun vs H Q E h => ?_) (fun cdv A outer s H vs Q E hr h => ?_)
  · obtain ⟨a, t, ts, cl, d, p, q, rfl, _⟩ := h
    rfl
  · refine ⟨_, (pss_one (ps_ret (pe_callB (cr_any rfl) (by rfl) T.n_any (by decide +kernel) (pa_cons (pe_lc (own := [("index", 4)]) (g := (gName 4)) (tt := tYes) rfl sc_are_parted.nd (pi_tup (pv 1)) (blkOk_by (N := nm_are_parted) (sc := defScope st_are_parted) (own := [("index", 4)]) (by decide +kernel)) (fun _ _ _ _ _ => by exact pg_name (i := 4) sc_are_parted.nd rfl (Or.inl rfl)) (fun _ _ _ _ _ => pts_nil) (fun _ _ _ _ _ => (pe_cmpR op_ne (pe_ix (ix_tup : IxR _ (rIxT K)) (pe_ix (ix_list : IxR _ (rIxL K)) (pv 0) (pv 2) (fun _ _ => rfl)) (pv 4) (fun _ _ => rfl)) (pe_ix (ix_tup : IxR _ (rIxT K)) (pe_ix (ix_list : IxR _ (rIxL K)) (pv 0) (pv 3) (fun _ _ => rfl)) (pv 4) (fun _ _ => rfl)) (nomark _)))) pa_nil)))), ?_⟩
    obtain ⟨a, t, ts, cl, d, p, q, rfl, hS, hC, hT, hp, hq, hd, hl, k⟩ := h
    rw [show L2.start nm_are_parted [V.ref a, .ref t, .int (p : Nat), .int (q : Nat)] = [some (V.ref a), some (.ref t), some (.int (p : Nat)), some (.int (q : Nat)), none] from rfl]
    obtain ⟨cp, ep, hcp⟩ := col_at hC hp
    obtain ⟨cq, eq, hcq⟩ := col_at hC hq
    refine ⟨_, rfl, t, rfl, ⟨_, hT⟩, fun D hD => ?_⟩
    refine lc_it walk_tup (fun i H' => Same H H' ∧ H' D = some (.lst ((d.take i).map fun j => V.bl (decide ((cl.getD p []).getD j 0 ≠ (cl.getD q []).getD j 0))))) ⟨Sm.new hD, upd_same⟩ (fun i H' _ z => sm_t z.1 hT) ?_ ?_
    · rintro i y H1 H2 hi ⟨p1, p2⟩ ⟨rfl, hy⟩
      have hi : i < (inV' d).length := hi
      have hi : i < d.length := by
        unfold inV' at hi
        rwa [List.length_map] at hi
      have hy : (inV' d)[i]? = some y := hy
      rw [inV_at hi] at hy
      obtain rfl := Option.some.inj hy
      have hm := hd _ (List.getElem_mem hi)
      have ed : d.getD i 0 = d[i] := by rw [List.getD_eq_getElem?_getD, List.getElem?_eq_getElem hi]; rfl
      rw [ed]
      refine ⟨rfl, _, rfl, _, rfl, a, ts, (p : Nat), .ref cp, rfl, rfl, sm_l p1 hS, atI_nat ep, _, rfl, cp, _, (d[i] : Nat), _, rfl, rfl, SqT.of (p1 _ _ hcp), atI_nat (colV_at hm.1), _, rfl, _, rfl, a, ts, (q : Nat), .ref cq, rfl, rfl, sm_l p1 hS, atI_nat eq, _, rfl, cq, _, (d[i] : Nat), _, rfl, rfl, SqT.of (p1 _ _ hcq), atI_nat (colV_at hm.2), ?_⟩
      refine ⟨rfl, _, p2, ?_, Sm.put p1 hD, ?_⟩
      · rw [List.length_map, List.length_take]
        exact small_lt (by omega)
      · rw [upd_same, take_snoc (List.getElem?_eq_getElem hi), List.map_append]
        congr 3
        show [V.bl _] = [V.bl _]
        congr 2
        by_cases z : (cl.getD p []).getD d[i] 0 = (cl.getD q []).getD d[i] 0
        · rw [z, decide_eq_true rfl, decide_eq_false (fun n => n rfl)]
          rfl
        · rw [decide_eq_false (fun n => z (by have := tx_inj (V.str.inj n); simpa using this)), decide_eq_true z]
          rfl
    · rintro H1 ⟨p1, p2⟩
      have p2 : H1 D = some (.lst ((d.take (inV' d).length).map fun j => V.bl (decide ((cl.getD p []).getD j 0 ≠ (cl.getD q []).getD j 0)))) := p2
      rw [show (inV' d).length = d.length by unfold inV'; rw [List.length_map], List.take_length] at p2
      refine ⟨D, d.map fun j => decide ((cl.getD p []).getD j 0 ≠ (cl.getD q []).getD j 0), rfl, ?_, ?_⟩
      · rw [List.map_map]
        exact SqL.of p2
      · rw [List.any_map]
        exact k _ p1
end
end K6
namespace K6
open PySem PySem.Spec PyProof.Rows L2 K0 K4
section
variable {P : Program} {w : World} {K : PySem.W.Frag} {mg : Str → Option Value} {base : Heap}
theorem sh_col {c : List Nat} (h : ∀ s ∈ c, s < 1114112) : SeqAt.shaped (dCol c) = true := shaped_of (lay_col h) (by have := dep_col c; omega)
def leftB (cl : List (List Nat)) (d : List Nat) (p : Nat × Nat) : Bool := decide (cl.getD p.1 [] ≠ cl.getD p.2 []) && !partB cl d p.1 p.2
def notP (cl : List (List Nat)) (d : List Nat) (ps : List (Nat × Nat)) : List (List Nat) := (ps.filter (leftB cl d)).map fun p => [p.1, p.2]
theorem notP_snoc {cl : List (List Nat)} {d : List Nat} {ps : List (Nat × Nat)} {i : Nat} {p : Nat × Nat} (e : ps[i]? = some p) : notP cl d (ps.take (i + 1)) = notP cl d (ps.take i) ++ (if leftB cl d p = true then [[p.1, p.2]] else []) := by
  unfold notP
  rw [take_snoc e, List.filter_append, List.map_append]
  congr 1
  rw [List.filter_cons, List.filter_nil]
  split <;> rfl
theorem prNat_lt {m : Nat} : ∀ p ∈ prNat m m, p.1 < m ∧ p.2 < m := fun ⟨i, j⟩ h => by
  have := (prNat_mem (Nat.le_refl m)).mp h
  exact ⟨this.1, this.2.2⟩
theorem prNat_len (m : Nat) : ∀ n, (prNat m n).length ≤ n * m
  | 0 => Nat.zero_le _
  | n + 1 => by
    show (prNat m n ++ (List.range (m - (n + 1))).map fun j => (n, n + 1 + j)).length ≤ _
    have := prNat_len m n
    rw [List.length_append, List.length_map, List.length_range, Nat.succ_mul]
    omega
theorem notP_len (cl : List (List Nat)) (d : List Nat) (ps : List (Nat × Nat)) : (notP cl d ps).length ≤ ps.length := by
  unfold notP
  rw [List.length_map]
  exact List.length_filter_le _ _
@[irreducible] def hParted (K : PySem.W.Frag) : Sp := spParted K
theorem hParted_eq {K : PySem.W.Frag} : hParted K = spParted K := by
  unfold hParted
  rfl
@[irreducible] def hPairs : Sp := spPairs
theorem hPairs_eq : hPairs = spPairs := by
  unfold hPairs
  rfl
abbrev st_pairs_not_parted : Stmt := top 74
abbrev nm_pairs_not_parted : List Str := ["columns", "lot", "place", "other"]
theorem sc_pairs_not_parted : FnScope nm_pairs_not_parted ["columns", "lot"] (defScope st_pairs_not_parted) := ⟨rfl, rfl, rfl, by decide +kernel, rfl, by decide +kernel, by decide +kernel⟩
def spNotP (K : PySem.W.Frag) : Sp := fun vs H Q _ => ∃ (a t : Addr) (ts : List V) (cl : List (List Nat)) (d : List Nat), vs = [.ref a, .ref t] ∧ SqL K H a ts ∧ Cols H ts cl ∧ SqT K H t (inV' d) ∧ cl.length ≤ 12 ∧ (∀ c ∈ cl, (∀ s ∈ c, s < 1114112) ∧ ∀ i ∈ d, i < c.length) ∧ d.length ≤ 1000 ∧
  ∀ H' D us, Same H H' → H D = none → H' D = some (.lst us) → DsT H' us (notP cl d (prNat cl.length cl.length)) → Q (.ref D) H'
theorem ok_notP {f : Addr} {fd : FuncData} (F : Fun K "pairs_not_parted" "pairs_not_parted" st_pairs_not_parted f fd) (T : Blt mg) (C_pairs_of_places : Cal P w K mg base 1 "pairs_of_places" st_pairs_of_places ["many"] spPairs)
    (C_are_parted : Cal P w K mg base 1 "are_parted" st_are_parted ["columns", "lot", "place", "other"] (spParted K)) : FnOk P w K mg base CX0 2 f fd ["columns", "lot"] (spNotP K) := by
  have C_pairs_of_places := cal_to' C_pairs_of_places hPairs_eq
  have C_are_parted := cal_to' C_are_parted hParted_eq
  refine F.ok sc_pairs_not_parted (fun vs H Q E h => ?_) (fun cdv A outer s H vs Q E hr h => ?_)
  · obtain ⟨a, t, ts, cl, d, rfl, _⟩ := h
    rfl
  · refine ⟨_, (pss_one (ps_ret (pe_lc (own := [("place", 2), ("other", 3)]) (g := (gTup K 2 (gCons (gName 2) (gCons (gName 3) gNil)))) rfl sc_pairs_not_parted.nd (pi_list (pe_cl C_pairs_of_places (hr.mono (by decide)) rfl (pa_cons (pe_callB call_len_seq (by rfl) T.n_len (by decide +kernel) (pa_cons (pv 0) pa_nil)) pa_nil))) (blkOk_by (N := nm_pairs_not_parted) (sc := defScope st_pairs_not_parted) (own := [("place", 2), ("other", 3)]) (by decide +kernel)) (fun _ _ _ _ _ => by exact pg_tup rfl (pgs_cons (pg_name (i := 2) sc_pairs_not_parted.nd rfl (Or.inl rfl)) (pgs_cons (pg_name (i := 3) sc_pairs_not_parted.nd rfl (Or.inl rfl)) pgs_nil))) (fun _ _ _ _ _ => pts_one (PW.pt (pw_and (pt_cmpR (op_neD (by exact hr.units) : OpR _ (compareOp .NotEq) (rNeD K)) (pe_ix (ix_list : IxR _ (rIxL K)) (pv 0) (pv 2) (fun _ _ => rfl)) (pe_ix (ix_list : IxR _ (rIxL K)) (pv 0) (pv 3) (fun _ _ => rfl)) (nomark _)) (pw_and1 (pt_not (pt_val (pe_cl C_are_parted (hr.mono (by decide)) rfl (pa_cons (pv 0) (pa_cons (pv 1) (pa_cons (pv 2) (pa_cons (pv 3) pa_nil))))))))))) (fun _ _ _ _ _ => (pe_tup (pa_cons (pv 2) (pa_cons (pv 3) pa_nil))))))), ?_⟩
    obtain ⟨a, t, ts, cl, d, rfl, hS, hC, hT, c12, hc, hl, k⟩ := h
    rw [show L2.start nm_pairs_not_parted [V.ref a, .ref t] = [some (V.ref a), some (.ref t), none, none] from rfl]
    refine ⟨_, rfl, a, ts, rfl, .inl hS, ?_⟩
    show hPairs [.int (ts.length : Nat)] _ _ _
    rw [hPairs_eq, hC.1]
    refine ⟨cl.length, rfl, by omega, fun H1 p us s1 np hp hP => ⟨p, rfl, ⟨_, SqL.of hp⟩, fun D hD => ?_⟩⟩
    rw [prTo_nat] at hP
    have nD := none_back s1 hD
    refine lc_it walk_list (fun i H' => Same H1 H' ∧ ∃ vs, H' D = some (.lst vs) ∧ DsT H' vs (notP cl d ((prNat cl.length cl.length).take i))) ⟨Sm.new hD, [], upd_same, dst_nil⟩ (fun i H' _ z => SqL.of (z.1 _ _ hp)) ?_ ?_
    · rintro i y H2 H3 hi ⟨p1, vs, p2, p3⟩ ⟨rfl, hy⟩
      have hi : i < us.length := hi
      have hin : i < (prNat cl.length cl.length).length := by
        rw [hP.1, List.length_map] at hi
        exact hi
      have epr := List.getElem?_eq_getElem hin
      have hlt := prNat_lt _ (List.getElem_mem hin)
      have hsn := notP_snoc (cl := cl) (d := d) epr
      obtain ⟨b, rfl, hb⟩ := hP.2 i y _ hy (by rw [List.getElem?_map, epr]; rfl)
      generalize (prNat cl.length cl.length)[i] = pq at epr hlt hsn hb
      obtain ⟨x, y⟩ := pq
      obtain ⟨hx, hy⟩ := hlt
      have s13 := s1.trans p1
      obtain ⟨ca, ea, hca⟩ := col_at hC hx
      obtain ⟨cb, eb, hcb⟩ := col_at hC hy
      have mem : ∀ {z : Nat}, z < cl.length → cl.getD z [] ∈ cl := fun {z} hz => by
        rw [List.getD_eq_getElem?_getD, List.getElem?_eq_getElem hz]
        exact List.getElem_mem hz
      refine ⟨b, _, rfl, SqT.of (p1 _ _ hb), rfl, _, _, rfl, _, _, rfl, rfl, rfl, ?_⟩
      refine ⟨_, rfl, _, rfl, a, ts, (x : Nat), .ref ca, rfl, rfl, sm_l s13 hS, atI_nat ea, _, rfl, _, rfl, a, ts, (y : Nat), .ref cb, rfl, rfl, sm_l s13 hS, atI_nat eb, dCol (cl.getD x []), dCol (cl.getD y []), .tup (SqT.of (s13 _ _ hca)) (dpa fun s _ => .str _), .tup (SqT.of (s13 _ _ hcb)) (dpa fun s _ => .str _), sh_col (hc _ (mem hx)).1, sh_col (hc _ (mem hy)).1, ?_⟩
      rw [eqv_dCol]
      have hpl := prNat_len cl.length cl.length
      have h144 : cl.length * cl.length ≤ 144 := Nat.le_trans (Nat.mul_le_mul c12 c12) (by decide)
      have hvs : vs.length ≤ 144 := by
        rw [p3.1]
        refine Nat.le_trans (notP_len _ _ _) ?_
        rw [List.length_take]
        omega
      by_cases hE : cl.getD x [] = cl.getD y []
      · rw [decide_eq_true hE]
        refine ⟨false, rfl, iteF ?_⟩
        refine ⟨p1, vs, p2, ?_⟩
        rw [hsn, if_neg (by unfold leftB; simp only [decide_eq_false (fun z : cl.getD x [] ≠ cl.getD y [] => z hE), Bool.false_and]; exact Bool.false_ne_true), List.append_nil]
        exact p3
      · rw [decide_eq_false hE]
        refine ⟨true, rfl, iteT ?_⟩
        refine ⟨_, rfl, _, rfl, _, rfl, _, rfl, ?_⟩
        show hParted K [.ref a, .ref t, .int (x : Nat), .int (y : Nat)] _ _ _
        rw [hParted_eq]
        refine ⟨a, t, ts, cl, d, x, y, rfl, sm_l s13 hS, cols_sm s13 hC, sm_t s13 hT, hx, hy, fun i hi => ⟨(hc _ (mem hx)).2 i hi, (hc _ (mem hy)).2 i hi⟩, hl, fun H4 s4 => ?_⟩
        have eL : leftB cl d (x, y) = !partB cl d x y := by
          unfold leftB
          simp only [decide_eq_true hE, Bool.true_and]
        rw [eL] at hsn
        have p24 := s4 _ _ p2
        cases hB : partB cl d x y with
        | true =>
          rw [hB] at hsn
          refine ⟨_, rfl, iteF ⟨p1.trans s4, vs, p24, ?_⟩⟩
          rw [hsn, if_neg (by decide), List.append_nil]
          exact dst_sm s4 p3
        | false =>
          rw [hB] at hsn
          refine ⟨_, rfl, iteT ⟨_, rfl, _, rfl, by show 2 ≤ sizeLine; decide, fun t2 ht2 => ?_⟩⟩
          have s5 : Same H4 (upd H4 t2 (.tup [V.int (x : Nat), V.int (y : Nat)])) := Sm.new ht2
          have p25 := s5 _ _ p24
          refine ⟨vs, p25, small_lt (by omega), Sm.put ((p1.trans s4).trans s5) hD, _, upd_same, ?_⟩
          rw [hsn, if_pos (by decide)]
          exact dst_upd p25 (dst_app (dst_sm (s4.trans s5) p3) (dst_one upd_same))
    · rintro H2 ⟨p1, vs, p2, p3⟩
      have p3 : DsT H2 vs (notP cl d ((prNat cl.length cl.length).take us.length)) := p3
      rw [show us.length = (prNat cl.length cl.length).length by rw [hP.1, List.length_map], List.take_length] at p3
      exact k H2 D vs (s1.trans p1) nD p2 p3
end
end K6
namespace K6
open PySem PySem.Spec PyProof.Rows L2 K0 K4
def leftL (cl : List (List Nat)) (d : List Nat) : List (List Nat) := notP cl d (prNat cl.length cl.length)
theorem dif_at {a b : List Nat} {m : Nat} (ha : a.length = m) (hb : b.length = m) (h : a ≠ b) : ∃ i, i < m ∧ a.getD i 0 ≠ b.getD i 0 := by
  refine Classical.byContradiction fun z => h (List.ext_getElem (ha.trans hb.symm) fun i h1 h2 => ?_)
  have := Classical.not_not.mp fun n => z ⟨i, by omega, n⟩
  rw [List.getD_eq_getElem?_getD, List.getD_eq_getElem?_getD, List.getElem?_eq_getElem h1, List.getElem?_eq_getElem h2] at this
  exact this
theorem mem_getD {cl : List (List Nat)} {z : Nat} (hz : z < cl.length) : cl.getD z [] ∈ cl := by
  rw [List.getD_eq_getElem?_getD, List.getElem?_eq_getElem hz]
  exact List.getElem_mem hz
theorem full_left {cl : List (List Nat)} {m : Nat} (h : ∀ c ∈ cl, c.length = m) : leftL cl (List.range m) = [] := by
  unfold leftL notP
  rw [List.map_eq_nil_iff, List.filter_eq_nil_iff]
  intro p hp z
  obtain ⟨h1, h2⟩ := prNat_lt p hp
  unfold leftB at z
  rw [Bool.and_eq_true, decide_eq_true_eq, Bool.not_eq_true'] at z
  obtain ⟨i, hi, e⟩ := dif_at (h _ (mem_getD h1)) (h _ (mem_getD h2)) z.1
  have : partB cl (List.range m) p.1 p.2 = true := List.any_eq_true.mpr ⟨i, List.mem_range.mpr hi, decide_eq_true e⟩
  rw [this] at z
  cases z.2
def fewAt (cl L : List (List Nat)) : Nat := L.findIdx fun d => (leftL cl d).isEmpty
def fewLot (cl L : List (List Nat)) : List Nat := L.getD (fewAt cl L) []
def fewPrs (cl L : List (List Nat)) : List (List Nat) := (L.take (fewAt cl L)).map fun d => (leftL cl d).headD []
theorem range_in : ∀ m < 6, List.range m ∈ lotsB m := by decide +kernel
theorem few_lt {cl : List (List Nat)} {m : Nat} (m6 : m < 6) (h : ∀ c ∈ cl, c.length = m) : fewAt cl (lotsB m) < (lotsB m).length := by
  unfold fewAt
  exact List.findIdx_lt_length_of_exists ⟨_, range_in m m6, by rw [full_left h]; rfl⟩
theorem few_at {cl L : List (List Nat)} {i : Nat} (hi : i < L.length) (h0 : ∀ j, j < i → ∀ d, L[j]? = some d → leftL cl d ≠ []) (e : leftL cl (L[i]) = []) : fewAt cl L = i := by
  unfold fewAt
  rw [List.findIdx_eq hi]
  refine ⟨by rw [e]; rfl, fun j hj => ?_⟩
  have := h0 j hj _ (List.getElem?_eq_getElem (Nat.lt_trans hj hi))
  cases z : leftL cl (L[j]) with
  | nil => exact absurd z this
  | cons a b => rfl
theorem left_two (cl : List (List Nat)) (d : List Nat) : ((leftL cl d).headD []).length ≤ 1000 := by
  unfold leftL notP
  cases (prNat cl.length cl.length).filter (leftB cl d) with
  | nil => exact Nat.zero_le _
  | cons p r => exact (by decide : 2 ≤ 1000)
theorem cols_updT {H : Hp} {D : Addr} {l : List V} {o : HO} {ts : List V} {cl : List (List Nat)} (hD : H D = some (.lst l)) (h : Cols H ts cl) : Cols (upd H D o) ts cl := ⟨h.1, fun i t c e1 e2 => by
  obtain ⟨a, e, ha⟩ := h.2 i t c e1 e2
  exact ⟨a, e, (upd_ne fun z => by rw [z, hD] at ha; cases ha).trans ha⟩⟩
def dPrs (ps : List (List Nat)) : PyData := .tuple (ps.map dInts)
theorem fx_txtL {K : PySem.W.Frag} {H : Hp} {a : Addr} {l : List (List Nat)} (h : SqL K H a (tws l)) (hl : l.length ≤ 1000) : FxN K H 2 (.ref a) (dN l) :=
  .inr ⟨a, _, l.map fun n => PyData.str (Tx n), rfl, rfl, .inl h, by unfold tws; rw [List.length_map]; exact hl, by unfold tws; rw [List.length_map, List.length_map], fun i x e h1 h2 => by
    unfold tws at h1
    rw [List.getElem?_map] at h1 h2
    cases z : l[i]? with
    | none =>
      rw [z] at h1
      cases h1
    | some n =>
      rw [z] at h1 h2
      obtain rfl := Option.some.inj h1
      obtain rfl := Option.some.inj h2
      exact .inl (.inr ⟨_, rfl, rfl⟩)⟩
theorem fx_dst {K : PySem.W.Frag} {H : Hp} {a : Addr} {ts : List V} {ps : List (List Nat)} (h : SqL K H a ts) (hd : DsT H ts ps) (hl : ps.length ≤ 1000) (h1 : ∀ d ∈ ps, d.length ≤ 1000) : FxN K H 2 (.ref a) (dPrs ps) :=
  .inr ⟨a, ts, ps.map dInts, rfl, rfl, .inl h, by rw [hd.1]; exact hl, by rw [hd.1, List.length_map], fun i x e e1 e2 => by
    rw [List.getElem?_map] at e2
    cases z : ps[i]? with
    | none =>
      rw [z] at e2
      cases e2
    | some d =>
      rw [z] at e2
      obtain rfl := Option.some.inj e2
      obtain ⟨b, rfl, hb⟩ := hd.2 i x d e1 z
      refine .inr ⟨b, _, d.map fun n => PyData.int (n : Nat), rfl, rfl, .inr (SqT.of hb), by unfold inV'; rw [List.length_map]; exact h1 d (List.mem_of_getElem? z), by unfold inV'; rw [List.length_map, List.length_map], fun j y _ e3 e4 => ?_⟩
      unfold inV' at e3
      rw [List.getElem?_map] at e3 e4
      cases z2 : d[j]? with
      | none =>
        rw [z2] at e3
        cases e3
      | some n =>
        rw [z2] at e3 e4
        obtain rfl := Option.some.inj e3
        obtain rfl := Option.some.inj e4
        exact .inl ⟨_, rfl, rfl⟩⟩
section
variable {P : Program} {w : World} {K : PySem.W.Frag} {mg : Str → Option Value} {base : Heap}
variable {cs : Nat → Addr} {C Z : Addr}
abbrev CTl (P : Program) (w : World) (K : PySem.W.Frag) (mg : Str → Option Value) (base : Heap) (Z : Addr) : Prop := MakX P w K mg base 6 "Telling" Z ["self", "languages", "pairs"] (spZmJ K Z)
@[irreducible] def hLotsB : Sp := spLotsB
theorem hLotsB_eq : hLotsB = spLotsB := by
  unfold hLotsB
  rfl
@[irreducible] def hNotP (K : PySem.W.Frag) : Sp := spNotP K
theorem hNotP_eq {K : PySem.W.Frag} : hNotP K = spNotP K := by
  unfold hNotP
  rfl
def fewOf (names : List (List Nat)) (ws : List (List (List Nat))) : List (List Nat) := (fewLot (cols ws) (lotsB names.length)).map fun i => names.getD i []
def fewPr (names : List (List Nat)) (ws : List (List (List Nat))) : List (List Nat) := fewPrs (cols ws) (lotsB names.length)
abbrev st_fewest_languages : Stmt := top 75
abbrev nm_fewest_languages : List Str := ["sheet", "columns", "pairs", "lot", "missed", "index"]
theorem sc_fewest_languages : FnScope nm_fewest_languages ["sheet"] (defScope st_fewest_languages) := ⟨rfl, rfl, rfl, by decide +kernel, rfl, by decide +kernel, by decide +kernel⟩
def spFewest (K : PySem.W.Frag) (cs : Nat → Addr) (C Z : Addr) : Sp := fun vs H Q E => ∃ v, vs = [v] ∧ Whv K cs C "sheet" H E v fun _ names ws => ∀ H' z, Same H H' → H z = none → ZmB Z H' z (dN (fewOf names ws)) (dPrs (fewPr names ws)) → Q (.ref z) H'
theorem ok_fewest {f : Addr} {fd : FuncData} (F : Fun K "fewest_languages" "fewest_languages" st_fewest_languages f fd) (T : Blt mg) (S : ShC K C) (C_need_whole : CNW P w K mg base cs C) (C_columns_of : CCo P w K mg base C) (C_lots_below : Cal P w K mg base 2 "lots_below" st_lots_below ["many"] spLotsB)
    (C_pairs_not_parted : Cal P w K mg base 2 "pairs_not_parted" st_pairs_not_parted ["columns", "lot"] (spNotP K)) (C_Telling : CTl P w K mg base Z) : FnOk P w K mg base (L2.CX P w) 8 f fd ["sheet"] (spFewest K cs C Z) := by
  have C_need_whole := calX_to C_need_whole hWhole_eq
  have C_lots_below := cal_to' C_lots_below hLotsB_eq
  have C_pairs_not_parted := cal_to' C_pairs_not_parted hNotP_eq
  refine F.okX sc_fewest_languages (fun vs H Q E h => ?_) (fun cdv A outer s H vs Q E hr h => ?_)
  · obtain ⟨v, rfl, _⟩ := h
    rfl
  · refine ⟨_, (pss_cons (ps_expr (pe_clX C_need_whole (passes_call (takes_of rfl rfl rfl rfl) fun _ _ _ _ z => z) (hr.mono (by decide)) rfl (pa_cons (pv 0) (pa_cons pe_str pa_nil))))
  (pss_cons (ps_set (i := 1) sc_fewest_languages.nd rfl (Or.inl rfl) (pe_cl C_columns_of (hr.mono (by decide)) rfl (pa_cons (pv 0) pa_nil)))
  (pss_cons (ps_set (i := 2) sc_fewest_languages.nd rfl (Or.inl rfl) (pe_lst pa_nil))
  (pss_cons (ps_for (passes_of rfl) rfl (pi_list (pe_cl C_lots_below (hr.mono (by decide)) rfl (pa_cons (pe_callB call_len_seq (by rfl) T.n_len (by decide +kernel) (pa_cons (pe_fld (pv 0) rfl) pa_nil)) pa_nil))) (pg_name (i := 3) sc_fewest_languages.nd rfl (Or.inl rfl)) (pss_cons (ps_set (i := 4) sc_fewest_languages.nd rfl (Or.inl rfl) (pe_cl C_pairs_not_parted (hr.mono (by decide)) rfl (pa_cons (pv 1) (pa_cons (pv 3) pa_nil))))
  (pss_cons (ps_if (pt_cmpR op_eq (pe_callB call_len_seq (by rfl) T.n_len (by decide +kernel) (pa_cons (pv 4) pa_nil)) pe_int (nomark _)) (pss_one (ps_ret (pe_mkX C_Telling (passes_call (takes_of rfl rfl rfl rfl) fun _ _ _ _ z => z) (hr.mono (by decide)) rfl (pa_cons (pe_lc (own := [("index", 5)]) (g := (gName 5)) (tt := tYes) rfl sc_fewest_languages.nd (pi_tup (pv 3)) (blkOk_by (N := nm_fewest_languages) (sc := defScope st_fewest_languages) (own := [("index", 5)]) (by decide +kernel)) (fun _ _ _ _ _ => by exact pg_name (i := 5) sc_fewest_languages.nd rfl (Or.inl rfl)) (fun _ _ _ _ _ => pts_nil) (fun _ _ _ _ _ => (pe_ix (ix_tup : IxR _ (rIxT K)) (show PE _ _ (tFld K (tVar 0) _) from pe_fld (pv 0) rfl) (pv 5) (fun _ _ => rfl)))) (pa_cons (pv 2) pa_nil))))) pss_nil)
  (pss_one (ps_expr (pe_bm PySem.F.plainAttrs_list PySem.F.slot_list_append PySem.F.type_list_append mt_append (pv 2) (pa_cons (pe_ix ix_list (pv 4) pe_int (fun _ _ => rfl)) pa_nil)))))))
  (pss_one (ps_ret pe_non)))))), ?_⟩
    obtain ⟨v, rfl, h⟩ := h
    rw [show L2.start nm_fewest_languages [v] = [some v, none, none, none, none, none] from rfl]
    refine ⟨_, rfl, whv_need h fun y names ws ev sh ok q => ?_⟩
    subst ev
    refine ⟨_, rfl, y, names, ws, rfl, sh, ok, fun H1 p1 t1 s1 np1 hp1 hC1 => ?_⟩
    dsimp only [gName, List.set_cons_succ, List.set_cons_zero]
    have l6 := cols_len6 ok
    have n4 := ok.n4
    refine ⟨Nat.zero_le _, fun L hL => ?_⟩
    have s2 : Same H1 (upd H1 L (.lst [])) := Sm.new hL
    have e2 : (upd H1 L (.lst [])) L = some (.lst []) := upd_same
    have nL := none_back s1 hL
    generalize (upd H1 L (.lst [])) = H2 at s2 e2 ⊢
    dsimp only [gName, List.set_cons_succ, List.set_cons_zero]
    have s02 := s1.trans s2
    obtain ⟨dy, tl, tr, tp, tg, xs, ts, gs, hy, hl, _⟩ := id (sheet_kx (y := y) s02 sh)
    refine ⟨_, rfl, y, C, dy, _, _, rfl, hy, S.c, S.f1, rfl, tl, _, rfl, .inr (tf_sq hl), ?_⟩
    show hLotsB [.int ((tws names).length : Nat)] _ _ _
    rw [hLotsB_eq, tws_len]
    refine ⟨names.length, rfl, by omega, fun H3 LL ls s3 nLL hLL dLL => ⟨LL, rfl, ⟨_, SqL.of hLL⟩, ?_⟩⟩
    have hcl : ∀ c ∈ cols ws, c.length = names.length := fun c hc => cols_wide ok c hc
    have clow := cols_low ok
    have l12 := cols12 ok
    have s3a := s2.trans s3
    have nLL0 := none_back s02 nLL
    have lots := lotsB_ok names.length (by omega)
    have fl := few_lt (by omega) hcl
    have lsn : ls.length = (lotsB names.length).length := dLL.1
    refine for_it walk_list (fun i σ H' => (∃ v3 v4 v5, σ = [some (.ref y), some (.ref p1), some (.ref L), v3, v4, v5]) ∧ Same H H' ∧ H' p1 = some (.lst t1) ∧ Cols H' t1 (cols ws) ∧ H' LL = some (.lst ls) ∧ DsT H' ls (lotsB names.length) ∧ (∃ us, H' L = some (.lst us) ∧ DsT H' us (((lotsB names.length).take i).map fun d => (leftL (cols ws) d).headD [])) ∧
      ∀ j, j < i → ∀ d, (lotsB names.length)[j]? = some d → leftL (cols ws) d ≠ []) ⟨⟨none, none, none, rfl⟩, s02.trans s3, s3a _ _ hp1, cols_sm s3a hC1, hLL, dLL, ⟨[], s3 _ _ e2, dst_nil⟩, fun j hj => absurd hj (Nat.not_lt_zero j)⟩ (fun i σ H' _ p => SqL.of p.2.2.2.2.1) ?_ ?_
    · rintro i x σ H4 H5 hi ⟨⟨v3, v4, v5, rfl⟩, q1, q2, q3, q4, q5, ⟨us, q6, q7⟩, q8⟩ ⟨rfl, hx⟩
      have hi : i < ls.length := hi
      have hil : i < (lotsB names.length).length := by omega
      have ed := List.getElem?_eq_getElem hil
      have hok := lots.2 _ (List.getElem_mem hil)
      obtain ⟨b, rfl, hb⟩ := q5.2 i x _ hx ed
      have hwhere := few_at (cl := cols ws) hil q8
      generalize (lotsB names.length)[i] = d at ed hok hb hwhere
      dsimp only [gName, List.set_cons_succ, List.set_cons_zero]
      refine ⟨_, rfl, _, rfl, ?_⟩
      show hNotP K [.ref p1, .ref b] _ _ _
      rw [hNotP_eq]
      refine ⟨p1, b, t1, cols ws, d, rfl, SqL.of q2, q3, SqT.of hb, by omega, fun c hc => ⟨clow c hc, fun k hk => by rw [hcl c hc]; exact hok.2 k hk⟩, by omega, fun H6 Mi ms s6 nMi hMi dMi => ?_⟩
      dsimp only [gName, List.set_cons_succ, List.set_cons_zero]
      have eM : DsT H6 ms (leftL (cols ws) d) := dMi
      refine ⟨_, rfl, Mi, ms, rfl, .inl (SqL.of hMi), rfl, ?_⟩
      have s06 := q1.trans s6
      have ML := s6 _ _ q6
      have msl := eM.1
      cases zz : leftL (cols ws) d with
      | nil =>
        rw [zz] at msl
        have msl : ms.length = 0 := msl
        rw [msl]
        refine ⟨true, rfl, iteT ?_⟩
        have eW := hwhere zz
        obtain ⟨dy2, tl2, tr2, tp2, tg2, xs2, ts2, gs2, hy2, hl2, _⟩ := id (sheet_kx (y := y) s06 sh)
        refine ⟨_, rfl, b, rfl, ⟨_, SqT.of (s6 _ _ hb)⟩, fun D hD => ?_⟩
        refine lc_it walk_tup (fun j H' => Same H6 H' ∧ H' D = some (.lst (tws ((d.take j).map fun k => names.getD k [])))) ⟨Sm.new hD, upd_same⟩ (fun j H' _ z => SqT.of (z.1 _ _ (s6 _ _ hb))) ?_ ?_
        · rintro j x H7 H8 hj ⟨r1, r2⟩ ⟨rfl, hx⟩
          have hj : j < (inV' d).length := hj
          have hj : j < d.length := by
            unfold inV' at hj
            rwa [List.length_map] at hj
          have hx : (inV' d)[j]? = some x := hx
          rw [inV_at hj] at hx
          obtain rfl := Option.some.inj hx
          have edj : d.getD j 0 = d[j] := by rw [List.getD_eq_getElem?_getD, List.getElem?_eq_getElem hj]; rfl
          rw [edj]
          have hlt := hok.2 _ (List.getElem_mem hj)
          have en : (tws names)[d[j]]? = some (V.str (Tx (names.getD d[j] []))) := by
            unfold tws
            rw [List.getElem?_map, List.getD_eq_getElem?_getD, List.getElem?_eq_getElem hlt]
            rfl
          refine ⟨rfl, _, rfl, y, C, dy2, _, _, rfl, r1 _ _ hy2, S.c, S.f1, rfl, _, rfl, tl2, _, (d[j] : Nat), _, rfl, rfl, tf_sq (tf_sm r1 hl2), atI_nat en, _, r2, ?_, Sm.put r1 hD, ?_⟩
          · unfold tws
            rw [List.length_map, List.length_map, List.length_take]
            exact small_lt (by omega)
          · rw [upd_same, take_snoc (List.getElem?_eq_getElem hj)]
            unfold tws
            rw [List.map_append, List.map_append]
            rfl
        · rintro H7 ⟨r1, r2⟩
          have r2 : H7 D = some (.lst (tws ((d.take (inV' d).length).map fun k => names.getD k []))) := r2
          rw [show (inV' d).length = d.length by unfold inV'; rw [List.length_map], List.take_length] at r2
          refine ⟨_, rfl, ?_⟩
          have s67 := s6.trans r1
          have e1 : fewLot (cols ws) (lotsB names.length) = d := by
            unfold fewLot
            rw [eW, List.getD_eq_getElem?_getD, ed]
            rfl
          have e2 : fewPrs (cols ws) (lotsB names.length) = ((lotsB names.length).take i).map fun d => (leftL (cols ws) d).headD [] := by
            unfold fewPrs
            rw [eW]
          refine zmb_make (fx_txtL (SqL.of r2) (by rw [List.length_map]; omega)) (fx_dst (SqL.of (r1 _ _ ML)) (dst_sm s67 q7) (by rw [List.length_map, List.length_take]; omega) fun p hp => ?_) fun H8 z s8 nz hz => ?_
          · obtain ⟨e, _, rfl⟩ := List.mem_map.mp hp
            exact left_two _ _
          · have s78 := s06.trans (r1.trans s8)
            have q' := q H8 z s78 (none_back (s06.trans r1) nz)
            unfold fewOf fewPr at q'
            rw [e1, e2] at q'
            exact q' hz
      | cons a r =>
        rw [zz] at msl
        have msl : ms.length = r.length + 1 := msl
        rw [msl]
        refine ⟨false, by rw [decide_eq_false (fun n => by have := V.int.inj n; omega)], iteF ?_⟩
        rw [zz] at eM
        obtain ⟨m0, em0⟩ : ∃ m0, ms[0]? = some m0 := ⟨_, List.getElem?_eq_getElem (by omega)⟩
        obtain ⟨g, rfl, hg⟩ := eM.2 0 m0 a em0 rfl
        refine ⟨_, rfl, .inl ⟨rfl, _, SqL.of ML⟩, _, rfl, Mi, ms, (0 : Nat), .ref g, rfl, rfl, SqL.of hMi, atI_nat em0, L, us, _, rfl, rfl, ML, small_lt (by rw [q7.1, List.length_map, List.length_take]; omega), ?_⟩
        have nLp : p1 ≠ L := fun z => by
          rw [← z, hp1] at hL
          cases hL
        have nLLL : LL ≠ L := fun z => by
          rw [z, e2] at nLL
          cases nLL
        refine ⟨⟨_, _, _, rfl⟩, Sm.put s06 nL, (upd_ne nLp).trans (s6 _ _ q2), cols_updT ML (cols_sm s6 q3), (upd_ne nLLL).trans (s6 _ _ q4), dst_upd ML (dst_sm s6 q5), ⟨_, upd_same, ?_⟩, fun j hj d' hd' => ?_⟩
        · rw [take_snoc ed, List.map_append]
          show DsT _ _ (_ ++ [(leftL (cols ws) d).headD []])
          rw [zz]
          exact dst_upd ML (dst_app (dst_sm s6 q7) (dst_one hg))
        · rcases Nat.lt_or_ge j i with lt | ge
          · exact q8 j lt d' hd'
          · have : j = i := by omega
            subst this
            rw [ed] at hd'
            obtain rfl := Option.some.inj hd'
            rw [zz]
            exact List.cons_ne_nil _ _
    · rintro σ H4 ⟨⟨v3, v4, v5, rfl⟩, q1, q2, q3, q4, q5, q6, q8⟩
      rw [lsn] at q8
      obtain ⟨j, hj, e⟩ := List.getElem_of_mem (range_in names.length (by omega))
      exact absurd (full_left hcl) (q8 j hj _ (by rw [List.getElem?_eq_getElem hj, e]))
end
end K6
namespace K6
open PySem PySem.Spec PyProof.Rows L2 K0 K4
def nxtD (m : Nat) (d : List Nat) : List (List Nat) := ((List.range m).filter fun k => decide (nCol d ≤ k)).map fun k => d ++ [k]
def sizeL (m : Nat) : Nat → List (List Nat)
  | 0 => [[]]
  | k + 1 => (sizeL m k).flatMap (nxtD m)
def setsTo (m k : Nat) : List (List Nat) := (List.range (k + 1)).flatMap (sizeL m)
theorem sets_all : ∀ m < 6, setsTo m m = lotsB m := by decide +kernel
theorem sets_fit : ∀ m < 6, ∀ k < m + 1, (sizeL m k).length ≤ 64 ∧ (setsTo m k).length ≤ 64 ∧ ∀ d ∈ sizeL m k, d.length ≤ 10 := by decide +kernel
theorem sets_step (m k : Nat) : setsTo m (k + 1) = setsTo m k ++ sizeL m (k + 1) := by
  unfold setsTo
  rw [List.range_succ, List.flatMap_append]
  simp
theorem flat_snoc {α β : Type} {l : List α} {f : α → List β} {j : Nat} {d : α} (h : l[j]? = some d) : (l.take (j + 1)).flatMap f = (l.take j).flatMap f ++ f d := by
  rw [take_snoc h, List.flatMap_append]
  simp
theorem flat_len {α β : Type} (l : List α) (f : α → List β) (j : Nat) : ((l.take j).flatMap f).length ≤ (l.flatMap f).length := by
  conv => rhs; rw [← List.take_append_drop j l]
  rw [List.flatMap_append, List.length_append]
  omega
section
variable {P : Program} {w : World} {K : PySem.W.Frag} {mg : Str → Option Value} {base : Heap}
abbrev st_l_sets : Stmt := top 93
abbrev nm_l_sets : List Str := ["_law_many", "_law_turn", "_law_found", "_law_size", "_law_longer", "_law_some", "_law_number"]
theorem sc_l_sets : FnScope nm_l_sets ["_law_many"] (defScope st_l_sets) := ⟨rfl, rfl, rfl, by decide +kernel, rfl, by decide +kernel, by decide +kernel⟩
def spSets : Sp := fun vs H Q _ => ∃ m : Nat, vs = [.int (m : Nat)] ∧ m < 6 ∧ ∀ H' D ts, Same H H' → H D = none → H' D = some (.lst ts) → DsT H' ts (lotsB m) → Q (.ref D) H'
theorem ok_sets {f : Addr} {fd : FuncData} (F : Fun K "_law_sets" "_law_sets" st_l_sets f fd) (T : Blt mg) : FnOk P w K mg base CX0 1 f fd ["_law_many"] spSets := by
  refine F.ok sc_l_sets (fun vs H Q E h => ?_) (fun cdv A outer s H vs Q E hr h => ?_)
  · obtain ⟨m, rfl, _⟩ := h
    rfl
  · refine ⟨_, (pss_cons (ps_par (i := 2) (j := 3) rfl sc_l_sets.nd rfl rfl (by decide) rfl rfl (pa_cons (pe_lst (pa_cons (pe_tup pa_nil) pa_nil)) (pa_cons (pe_lst (pa_cons (pe_tup pa_nil) pa_nil)) pa_nil)) rfl)
  (pss_cons (ps_for PassesOwn.never rfl (pi_range1 rfl T.n_range (pa_cons (pv 0) pa_nil)) (pg_name (i := 1) sc_l_sets.nd rfl (Or.inl rfl)) (pss_cons (ps_set (i := 4) sc_l_sets.nd rfl (Or.inl rfl) (pe_lst pa_nil))
  (pss_cons (ps_for PassesOwn.never rfl (pi_list (pv 3)) (pg_name (i := 5) sc_l_sets.nd rfl (Or.inr rfl)) (pss_one (ps_expr (pe_bm PySem.F.plainAttrs_list PySem.F.slot_list_extend PySem.F.type_list_extend mt_extend (pv 4) (pa_cons (pe_lc (own := [("_law_number", 6)]) (g := (gName 6)) rfl sc_l_sets.nd (pi_range1 rfl T.n_range (pa_cons (pv 0) pa_nil)) (blkOk_by (N := nm_l_sets) (sc := defScope st_l_sets) (own := [("_law_number", 6)]) (by decide +kernel)) (fun _ _ _ _ _ => by exact pg_name (i := 6) sc_l_sets.nd rfl (Or.inl rfl)) (fun _ _ _ _ _ => pts_one (pt_cmpR op_gt (pv 6) (pe_callB (K7Y.cr_maxT rfl (by exact hu_of hr) : CallR _ (.builtin "max") (K7Y.rMaxT K)) (by rfl) T.n_max (by decide +kernel) (pa_cons (pe_op (op_catA : OpR _ (binaryOp .Add) (rCatA K)) (pv 5) (pe_tup (pa_cons (pe_un un_neg pe_int) pa_nil))) pa_nil)) (nomark _))) (fun _ _ _ _ _ => (pe_op (op_catA : OpR _ (binaryOp .Add) (rCatA K)) (pv 5) (pe_tup (pa_cons (pv 6) pa_nil))))) pa_nil)))))
  (pss_cons (ps_set (i := 3) sc_l_sets.nd rfl (Or.inl rfl) (pe_callTy call_list_of (by rfl) T.n_list (by decide +kernel) (pa_cons (pv 4) pa_nil)))
  (pss_one (ps_expr (pe_bm PySem.F.plainAttrs_list PySem.F.slot_list_extend PySem.F.type_list_extend mt_extend (pv 2) (pa_cons (pv 3) pa_nil))))))))
  (pss_one (ps_ret (pv 2))))), ?_⟩
    obtain ⟨m, rfl, m6, q⟩ := h
    rw [show L2.start nm_l_sets [V.int (m : Nat)] = [some (V.int (m : Nat)), none, none, none, none, none, none] from rfl]
    refine ⟨by show 0 ≤ sizeLine; decide, fun t ht => ⟨by show 1 ≤ sizeLine; decide, fun D hD => ?_⟩⟩
    have s1 : Same H (upd H t (.tup [])) := Sm.new ht
    have e1 : (upd H t (.tup [])) t = some (.tup (inV' [])) := upd_same
    generalize (upd H t (.tup [])) = H1 at s1 e1 hD ⊢
    have s2 : Same H (upd H1 D (.lst [.ref t])) := s1.trans (Sm.new hD)
    have e2 : (upd H1 D (.lst [.ref t])) D = some (.lst [.ref t]) := upd_same
    have d2 : DsT (upd H1 D (.lst [.ref t])) [.ref t] (setsTo m 0) := dst_one (Sm.new hD _ _ e1)
    have nD := none_back s1 hD
    generalize (upd H1 D (.lst [.ref t])) = H2 at s2 e2 d2 ⊢
    refine ⟨by show 0 ≤ sizeLine; decide, fun t' ht' => ⟨by show 1 ≤ sizeLine; decide, fun S hS => ?_⟩⟩
    have s3 : Same H2 (upd H2 t' (.tup [])) := Sm.new ht'
    have e3 : (upd H2 t' (.tup [])) t' = some (.tup (inV' [])) := upd_same
    generalize (upd H2 t' (.tup [])) = H3 at s3 e3 hS ⊢
    have s4 : Same H2 (upd H3 S (.lst [.ref t'])) := s3.trans (Sm.new hS)
    have e4 : (upd H3 S (.lst [.ref t'])) S = some (.lst [.ref t']) := upd_same
    have d4 : DsT (upd H3 S (.lst [.ref t'])) [.ref t'] (sizeL m 0) := dst_one (Sm.new hS _ _ e3)
    have nSD : S ≠ D := fun z => by
      rw [z, s3 _ _ e2] at hS
      cases hS
    have nS := none_back s2 (none_back s3 hS)
    generalize (upd H3 S (.lst [.ref t'])) = H4 at s4 e4 d4 ⊢
    refine ⟨_, _, rfl, ?_⟩
    dsimp only [gName, List.set_cons_succ, List.set_cons_zero]
    refine ⟨_, rfl, (m : Nat), rfl, by omega, by omega, ?_⟩
    refine for_it walk_range (fun i σ H' => (∃ S v1 v4 v5 v6, σ = [some (.int (m : Nat)), v1, some (.ref D), some (.ref S), v4, v5, v6] ∧ S ≠ D ∧ H S = none ∧ ∃ zs, H' S = some (.lst zs) ∧ DsT H' zs (sizeL m i)) ∧ Same H H' ∧ ∃ ts, H' D = some (.lst ts) ∧ DsT H' ts (setsTo m i)) ⟨⟨S, none, none, none, none, rfl, nSD, nS, _, e4, d4⟩, s2.trans s4, _, s4 _ _ e2, dst_sm s4 d2⟩ (fun _ _ _ _ _ => trivial) ?_ ?_
    · rintro i y σ H5 H6 hi ⟨⟨S, v1, v4, v5, v6, rfl, nSD, nS, zs, eS, dS⟩, q1, ts, eD, dD⟩ ⟨rfl, rfl⟩
      have hi : i < m := by
        have : i < ((m : Nat) : Int).toNat := hi
        omega
      obtain ⟨z1, z2, z3⟩ := sets_fit m m6 i (by omega)
      obtain ⟨y1, y2, y3⟩ := sets_fit m m6 (i + 1) (by omega)
      dsimp only [gName, List.set_cons_succ, List.set_cons_zero]
      refine ⟨Nat.zero_le _, fun L hL => ?_⟩
      have s6 : Same H6 (upd H6 L (.lst [])) := Sm.new hL
      have eL : (upd H6 L (.lst [])) L = some (.lst []) := upd_same
      have nL := none_back q1 hL
      have nLD : D ≠ L := fun z => by rw [← z, eD] at hL; cases hL
      have nLS : S ≠ L := fun z => by rw [← z, eS] at hL; cases hL
      generalize (upd H6 L (.lst [])) = H7 at s6 eL ⊢
      dsimp only [gName, List.set_cons_succ, List.set_cons_zero]
      refine ⟨_, rfl, S, rfl, ⟨zs, SqL.of (s6 _ _ eS)⟩, ?_⟩
      refine for_it walk_list (fun j σ H' => (∃ v5 v6, σ = [some (.int (m : Nat)), some (.int (0 + (i : Nat))), some (.ref D), some (.ref S), some (.ref L), v5, v6]) ∧ Same H H' ∧ H' S = some (.lst zs) ∧ DsT H' zs (sizeL m i) ∧ H' D = some (.lst ts) ∧ DsT H' ts (setsTo m i) ∧ ∃ ls, H' L = some (.lst ls) ∧ DsT H' ls (((sizeL m i).take j).flatMap (nxtD m))) ⟨⟨v5, v6, rfl⟩, q1.trans s6, s6 _ _ eS, dst_sm s6 dS, s6 _ _ eD, dst_sm s6 dD, [], eL, dst_nil⟩ (fun j σ H' _ p => SqL.of p.2.2.1) ?_ ?_
      · rintro j y σ H8 H9 hj ⟨⟨v5, v6, rfl⟩, q7, f1, f2, f3, f4, ls, f5, f6⟩ ⟨rfl, hy⟩
        have hjl : j < (sizeL m i).length := by
          rw [← f2.1]
          exact hj
        have ed := List.getElem?_eq_getElem hjl
        have d10 := z3 _ (List.getElem_mem hjl)
        obtain ⟨a, rfl, ha⟩ := f2.2 j y _ hy ed
        have hstep := flat_snoc (f := nxtD m) ed
        have hle := flat_len (sizeL m i) (nxtD m) (j + 1)
        rw [hstep, List.length_append] at hle
        have hle : _ ≤ (sizeL m (i + 1)).length := hle
        generalize (sizeL m i)[j] = d at ed d10 ha hstep hle
        dsimp only [gName, List.set_cons_succ, List.set_cons_zero]
        refine ⟨_, rfl, .inl ⟨rfl, _, SqL.of f5⟩, ?_⟩
        dsimp only [tCons, tNil]
        refine ⟨_, rfl, (m : Nat), rfl, by omega, by omega, fun D4 hD4 => ?_⟩
        have nD4 := none_back q7 hD4
        refine lc_it walk_range (fun k H' => Same H9 H' ∧ ∃ t2, H' D4 = some (.lst t2) ∧ DsT H' t2 (((List.range k).filter fun k => decide (nCol d ≤ k)).map fun k => d ++ [k])) ⟨Sm.new hD4, [], upd_same, dst_nil⟩ (fun _ _ _ _ => trivial) ?_ ?_
        · rintro k y H11 H12 hk ⟨g1, t2, g2, g3⟩ ⟨rfl, rfl⟩
          have hk : k < m := by
            have : k < ((m : Nat) : Int).toNat := hk
            omega
          have hn : ((List.range (k + 1)).filter fun k => decide (nCol d ≤ k)).map (fun k => d ++ [k]) = ((List.range k).filter fun k => decide (nCol d ≤ k)).map (fun k => d ++ [k]) ++ (if nCol d ≤ k then [d ++ [k]] else []) := by
            rw [List.range_succ, List.filter_append, List.map_append]
            congr 1
            rw [List.filter_cons, List.filter_nil]
            by_cases z : nCol d ≤ k
            · rw [if_pos z, decide_eq_true z]
              rfl
            · rw [if_neg z, decide_eq_false z]
              rfl
          rw [hn]
          refine ⟨rfl, _, rfl, _, rfl, 1, rfl, (by show 1 ≤ sizeLine; decide), fun t hm => ?_⟩
          have s12 : Same H12 (upd H12 t (.tup [V.int (-1)])) := Sm.new hm
          have g12 : (upd H12 t (.tup [V.int (-1)])) t = some (.tup [V.int (-1)]) := upd_same
          generalize (upd H12 t (.tup [V.int (-1)])) = H13 at s12 g12 ⊢
          refine cat_one ((g1.trans s12) _ _ ha) g12 (by unfold inV'; rw [List.length_map]; omega) fun c H14 s14 hc14 => ?_
          have ec : inV' d ++ [V.int (-1)] = ((d.map fun n => ((n : Nat) : Int)) ++ [-1]).map V.int := by
            unfold inV'
            rw [List.map_append, List.map_map]
            rfl
          rw [ec] at hc14
          refine ⟨c, _, rfl, SqT.of hc14, (by rw [List.length_append]; exact Nat.succ_pos _), fun mx m1 m2 => ?_⟩
          have em := max_nCol m1 m2
          have s1214 := s12.trans s14
          have G14 := g1.trans s1214
          have g2' := s1214 _ _ g2
          refine ⟨(0 + (k : Nat) : Int), mx, rfl, rfl, ?_⟩
          by_cases z : nCol d ≤ k
          · rw [if_pos z]
            refine ⟨true, congrArg V.bl (decide_eq_true (show mx < 0 + (k : Nat) by omega)), iteT ?_⟩
            refine ⟨_, rfl, _, rfl, (by show 1 ≤ sizeLine; decide), fun t3 h3 => ?_⟩
            have s15 : Same H14 (upd H14 t3 (.tup [V.int (0 + (k : Nat))])) := Sm.new h3
            have g15 : (upd H14 t3 (.tup [V.int (0 + (k : Nat))])) t3 = some (.tup [V.int (0 + (k : Nat))]) := upd_same
            generalize (upd H14 t3 (.tup [V.int (0 + (k : Nat))])) = H15 at s15 g15 ⊢
            refine cat_one ((G14.trans s15) _ _ ha) g15 (by unfold inV'; rw [List.length_map]; omega) fun c2 H16 s16 hc2 => ?_
            have ec2 : inV' d ++ [V.int (0 + (k : Nat))] = inV' (d ++ [k]) := by
              unfold inV'
              rw [List.map_append, Int.zero_add]
              rfl
            rw [ec2] at hc2
            have s1416 := s15.trans s16
            have e16 := s1416 _ _ g2'
            refine ⟨t2, e16, small_lt ?_, Sm.put (G14.trans s1416) hD4, _, upd_same, ?_⟩
            · rw [g3.1, List.length_map]
              refine Nat.le_trans (List.length_filter_le _ _) ?_
              rw [List.length_range]
              omega
            · exact dst_upd e16 (dst_app (dst_sm (s1214.trans s1416) g3) (dst_one hc2))
          · rw [if_neg z, List.append_nil]
            refine ⟨false, congrArg V.bl (decide_eq_false (show ¬ mx < 0 + (k : Nat) by omega)), iteF ?_⟩
            exact ⟨G14, t2, g2', dst_sm s1214 g3⟩
        · rintro H11 ⟨g1, t2, g2, g3⟩
          have g3 : DsT H11 t2 (((List.range ((m : Nat) : Int).toNat).filter fun k => decide (nCol d ≤ k)).map fun k => d ++ [k]) := g3
          rw [Int.toNat_natCast] at g3
          have g3 : DsT H11 t2 (nxtD m d) := g3
          have l11 := g1 _ _ f5
          refine ⟨L, D4, ls, t2, rfl, rfl, l11, g2, ?_, ⟨_, _, rfl⟩, Sm.put (q7.trans g1) nL, (upd_ne nLS).trans (g1 _ _ f1), dst_upd l11 (dst_sm g1 f2), (upd_ne nLD).trans (g1 _ _ f3), dst_upd l11 (dst_sm g1 f4), _, upd_same, ?_⟩
          · rw [g3.1, f6.1]
            exact Nat.le_trans hle (Nat.le_trans y1 (by decide))
          · rw [hstep]
            exact dst_upd l11 (dst_app (dst_sm g1 f6) g3)
      · rintro σ H8 ⟨⟨v5, v6, rfl⟩, q7, f1, f2, f3, f4, ls, f5, f6⟩
        have f6 : DsT H8 ls (((sizeL m i).take zs.length).flatMap (nxtD m)) := f6
        rw [f2.1, List.take_length] at f6
        have f6 : DsT H8 ls (sizeL m (i + 1)) := f6
        dsimp only [gName, List.set_cons_succ, List.set_cons_zero]
        refine ⟨_, rfl, L, ls, rfl, .inl (SqL.of f5), fun S2 hS2 => ?_⟩
        have s8 : Same H8 (upd H8 S2 (.lst ls)) := Sm.new hS2
        have e8 : (upd H8 S2 (.lst ls)) S2 = some (.lst ls) := upd_same
        have nS2 : S2 ≠ D := fun z => by rw [z, f3] at hS2; cases hS2
        have nS2' := none_back q7 hS2
        generalize (upd H8 S2 (.lst ls)) = H9 at s8 e8 ⊢
        dsimp only [gName, List.set_cons_succ, List.set_cons_zero]
        have eD9 := s8 _ _ f3
        refine ⟨_, rfl, .inl ⟨rfl, _, SqL.of eD9⟩, _, rfl, D, S2, ts, ls, rfl, rfl, eD9, e8, ?_, ⟨S2, _, _, _, _, rfl, nS2, nS2', ls, (upd_ne nS2).trans e8, dst_upd eD9 (dst_sm s8 f6)⟩, Sm.put (q7.trans s8) nD, _, upd_same, ?_⟩
        · rw [f4.1, f6.1]
          exact Nat.le_trans (show _ ≤ 128 by omega) (by decide)
        · rw [sets_step]
          exact dst_upd eD9 (dst_app (dst_sm s8 f4) (dst_sm s8 f6))
    · rintro σ H5 ⟨⟨S, v1, v4, v5, v6, rfl, nSD, nS, zs, eS, dS⟩, q1, ts, eD, dD⟩
      have dD : DsT H5 ts (setsTo m ((m : Nat) : Int).toNat) := dD
      rw [Int.toNat_natCast, sets_all m m6] at dD
      exact ⟨_, rfl, q H5 D ts q1 nD eD dD⟩
end
end K6
namespace K6
open PySem PySem.Spec PyProof.Rows L2 K0 K4
def dIntL (l : List Nat) : PyData := .list (l.map fun n => .int (n : Nat))
theorem sh_dIntL (l : List Nat) : SeqAt.shaped (dIntL l) = true := by
  refine shaped_of ?_ ?_
  · unfold dIntL PyData.canLay0
    exact lay_all fun n _ => rfl
  · unfold dIntL PyData.depth
    have := depth_all (b := 1) (d := fun n : Nat => PyData.int (n : Nat)) (xs := l) fun n _ => by
      unfold PyData.depth
      omega
    omega
theorem eqv_dIntL0 (l : List Nat) : PyData.eqv (dIntL l) (.list []) = decide (l = []) := by
  cases l with
  | nil => rfl
  | cons a r => rfl
def difL (c b : List Nat) (d : List Nat) : List Nat := d.filter fun i => decide (c.getD i 0 ≠ b.getD i 0)
theorem dif_part (cl : List (List Nat)) (d : List Nat) (p q : Nat) : (difL (cl.getD q []) (cl.getD p []) d = []) ↔ partB cl d p q = false := by
  unfold difL partB
  rw [List.filter_eq_nil_iff, List.any_eq_false]
  constructor
  · intro h i hi z
    exact h i hi (decide_eq_true fun e => of_decide_eq_true z e.symm)
  · intro h i hi z
    exact h i hi (decide_eq_true fun e => of_decide_eq_true z e.symm)
theorem dif_app (c b l : List Nat) (x : Nat) : difL c b (l ++ [x]) = difL c b l ++ (if c.getD x 0 ≠ b.getD x 0 then [x] else []) := by
  unfold difL
  rw [List.filter_append]
  congr 1
  rw [List.filter_cons, List.filter_nil]
  by_cases z : c.getD x 0 = b.getD x 0 <;> simp [z]
theorem inV_len (l : List Nat) : (inV' l).length = l.length := by
  unfold inV'
  rw [List.length_map]
/-- the others left with the i-th column -/
def othL (cl : List (List Nat)) (d : List Nat) (i k : Nat) : List Nat := ((List.range k).map fun j => i + 1 + j).filter fun j => leftB cl d (i, j)
theorem oth_snoc (cl : List (List Nat)) (d : List Nat) (i k : Nat) : othL cl d i (k + 1) = othL cl d i k ++ (if leftB cl d (i, i + 1 + k) = true then [i + 1 + k] else []) := by
  unfold othL
  rw [List.range_succ, List.map_append, List.filter_append]
  congr 1
  rw [List.map_cons, List.map_nil, List.filter_cons, List.filter_nil]
theorem oth_len (cl : List (List Nat)) (d : List Nat) (i k : Nat) : (othL cl d i k).length ≤ k := by
  unfold othL
  refine Nat.le_trans (List.length_filter_le _ _) ?_
  rw [List.length_map, List.length_range]
  exact Nat.le_refl _
theorem left_step (cl : List (List Nat)) (d : List Nat) (m i : Nat) : notP cl d (prNat m (i + 1)) = notP cl d (prNat m i) ++ (othL cl d i (m - (i + 1))).map fun j => [i, j] := by
  show notP cl d (prNat m i ++ (List.range (m - (i + 1))).map fun j => (i, i + 1 + j)) = _
  unfold notP othL
  rw [List.filter_append, List.map_append]
  congr 1
  rw [List.filter_map, List.filter_map, List.map_map, List.map_map]
  rfl
theorem left_pre (cl : List (List Nat)) (d : List Nat) (m i : Nat) : ∀ k, ∃ r, notP cl d (prNat m (i + k)) = notP cl d (prNat m i) ++ r
  | 0 => ⟨[], by rw [List.append_nil]; rfl⟩
  | k + 1 => by
    obtain ⟨r, e⟩ := left_pre cl d m i k
    refine ⟨r ++ (othL cl d (i + k) (m - (i + k + 1))).map fun j => [i + k, j], ?_⟩
    rw [show i + (k + 1) = (i + k) + 1 by omega, left_step, e, List.append_assoc]
theorem left_head {cl : List (List Nat)} {d : List Nat} {i j : Nat} {r : List Nat} (hi : i < cl.length) (h0 : notP cl d (prNat cl.length i) = []) (e : othL cl d i (cl.length - (i + 1)) = j :: r) : ∃ r', leftL cl d = [i, j] :: r' := by
  obtain ⟨r', e'⟩ := left_pre cl d cl.length (i + 1) (cl.length - (i + 1))
  rw [show i + 1 + (cl.length - (i + 1)) = cl.length by omega, left_step, h0, e] at e'
  exact ⟨_, e'⟩
section
variable {P : Program} {w : World} {K : PySem.W.Frag} {mg : Str → Option Value} {base : Heap}
abbrev st_l_left : Stmt := top 94
abbrev nm_l_left : List Str := ["_law_columns_here", "_law_some", "_law_place", "_law_one", "_law_left_here", "_law_other", "_law_at"]
theorem sc_l_left : FnScope nm_l_left ["_law_columns_here", "_law_some"] (defScope st_l_left) := ⟨rfl, rfl, rfl, by decide +kernel, rfl, by decide +kernel, by decide +kernel⟩
def scLf : Scope := { kind := .function, names := [(".0", .local), ("_law_other", .cell), ("_law_columns_here", .cell), ("_law_one", .cell), ("_law_some", .cell)], isGenerator := false, isCoroutine := false }
def spLeft (K : PySem.W.Frag) : Sp := fun vs H Q _ => ∃ (a t : Addr) (ts : List V) (cl : List (List Nat)) (d : List Nat), vs = [.ref a, .ref t] ∧ SqL K H a ts ∧ Cols H ts cl ∧ SqT K H t (inV' d) ∧ cl.length ≤ 12 ∧ (∀ c ∈ cl, (∀ s ∈ c, s < 1114112) ∧ ∀ i ∈ d, i < c.length) ∧ d.length ≤ 1000 ∧
  (leftL cl d = [] → ∀ H', Same H H' → Q .non H') ∧ (∀ p r, leftL cl d = p :: r → ∀ H' z, Same H H' → H z = none → H' z = some (.tup (inV' p)) → Q (.ref z) H')
theorem ok_left {f : Addr} {fd : FuncData} (F : Fun K "_law_left" "_law_left" st_l_left f fd) (T : Blt mg) : FnOk P w K mg base CX0 1 f fd ["_law_columns_here", "_law_some"] (spLeft K) := by
  refine F.ok sc_l_left (fun vs H Q E h => ?_) (fun cdv A outer s H vs Q E hr h => ?_)
  · obtain ⟨a, t, ts, cl, d, rfl, _⟩ := h
    rfl
  · refine ⟨_, (pss_cons (ps_for PassesOwn.never rfl (pi_enum (by rfl) T.n_enumerate (pa_cons (pv 0) pa_nil)) (pg_tup rfl (pgs_cons (pg_name (i := 2) sc_l_left.nd rfl (Or.inl rfl)) (pgs_cons (pg_name (i := 3) sc_l_left.nd rfl (Or.inr rfl)) pgs_nil))) (pss_cons (ps_setLc (i := 4) (own := [("_law_other", 5)]) (g := (gName 5)) rfl sc_l_left.nd rfl rfl (sw_true rfl rfl rfl (by decide +kernel)) (pi_range2 rfl T.n_range (pa_cons (pe_op op_add (pv 2) pe_int) (pa_cons (pe_callB call_len_seq (by rfl) T.n_len (by decide +kernel) (pa_cons (pv 0) pa_nil)) pa_nil))) (blkOk_by (N := nm_l_left) (sc := defScope st_l_left) (own := [("_law_other", 5)]) (by decide +kernel)) (fun _ _ _ _ _ => by exact pg_name (i := 5) sc_l_left.nd rfl (Or.inr rfl)) (fun _ _ _ _ _ => pts_one (PW.pt (pw_and (pt_cmpR (op_neD (by exact hr.units) : OpR _ (compareOp .NotEq) (rNeD K)) (pe_ix (ix_list : IxR _ (rIxL K)) (pv 0) (pv 5) (fun _ _ => rfl)) (pv 3) (nomark _)) (pw_and1 (pt_cmpR (op_eqD (by exact hr.units) : OpR _ (compareOp .Eq) (rEqD K))
      (pe_lc (own := [("_law_at", 6)]) (g := (gName 6)) rfl sc_l_left.nd (by refine (?_ : PI _ _ _ (iTup K (tVar 1))); exact pi_tup (pv 1)) (blkOk_by (N := nm_l_left) (sc := scLf) (own := [("_law_at", 6)]) (by decide +kernel)) (fun _ _ _ _ _ => by exact pg_name (i := 6) sc_l_left.nd rfl (Or.inl rfl)) (fun _ _ _ _ _ => pts_one (pt_cmpR op_ne (pe_ix (ix_tup : IxR _ (rIxT K)) (pe_ix (ix_list : IxR _ (rIxL K)) (pv 0) (pv 5) (fun _ _ => rfl)) (pv 6) (fun _ _ => rfl)) (pe_ix (ix_tup : IxR _ (rIxT K)) (pv 3) (pv 6) (fun _ _ => rfl)) (nomark _))) (fun _ _ _ _ _ => (pv 6)))
      (pe_lst pa_nil) (nomark _)))))) (fun _ _ _ _ _ => (pv 5)))
  (pss_one (ps_if (pt_cmpR (op_neD hr.units) (pv 4) (pe_lst pa_nil) (nomark _)) (pss_one (ps_ret (pe_tup (pa_cons (pv 2) (pa_cons (pe_ix ix_list (pv 4) pe_int (fun _ _ => rfl)) pa_nil))))) pss_nil))))
  (pss_one (ps_ret pe_non))), ?_⟩
    obtain ⟨a, t, ts, cl, d, rfl, hS, hC, hT, c12, hc, hl, k0, k1⟩ := h
    rw [show L2.start nm_l_left [V.ref a, .ref t] = [some (V.ref a), some (.ref t), none, none, none, none, none] from rfl]
    refine ⟨_, rfl, a, ts, rfl, hS, ?_⟩
    refine for_it walk_enum (fun i σ H' => (∃ v2 v3 v4 v5 v6, σ = [some (.ref a), some (.ref t), v2, v3, v4, v5, v6]) ∧ Same H H' ∧ notP cl d (prNat cl.length i) = []) ⟨⟨none, none, none, none, none, rfl⟩, fun _ _ e => e, rfl⟩ (fun i σ H' _ p => sm_l p.2.1 hS) ?_ ?_
    · rintro i v σ H2 H3 hi ⟨⟨v2, v3, v4, v5, v6, rfl⟩, p1, p2⟩ ⟨u, x, y, rfl, hu, rfl, hx, hy⟩
      cases hx
      have hi : i < cl.length := by
        have : i < ts.length := hi
        rw [hC.1] at this
        exact this
      obtain ⟨c, ec, hcc⟩ := col_at hC hi
      have hy : ts[i]? = some y := hy
      rw [ec] at hy
      obtain rfl := Option.some.inj hy
      have s3 : Same H2 (upd H2 u (.tup [V.int (i : Nat), V.ref c])) := Sm.new hu
      have g3 : (upd H2 u (.tup [V.int (i : Nat), V.ref c])) u = some (.tup [V.int (i : Nat), V.ref c]) := upd_same
      generalize (upd H2 u (.tup [V.int (i : Nat), V.ref c])) = H3 at s3 g3 ⊢
      have p13 := p1.trans s3
      refine ⟨u, _, rfl, SqT.of g3, rfl, _, _, rfl, _, _, rfl, rfl, ?_⟩
      refine ⟨_, rfl, (i : Nat), 1, rfl, rfl, _, rfl, a, ts, rfl, .inl (sm_l p13 hS), _, _, rfl, by rw [hC.1]; omega, fun D hD => ?_⟩
      have nD := none_back p13 hD
      have eN : (((ts.length : Nat) : Int) - ((i : Nat) + 1)).toNat = cl.length - (i + 1) := by
        rw [hC.1]
        omega
      rw [eN]
      refine lc_it walk_range (fun k H' => Same H3 H' ∧ H' D = some (.lst (inV' (othL cl d i k)))) ⟨Sm.new hD, upd_same⟩ (fun _ _ _ _ => trivial) ?_ ?_
      · rintro k y H4 H5 hk ⟨q1, q2⟩ ⟨rfl, rfl⟩
        have eJ : ((i : Nat) : Int) + 1 + (k : Nat) = ((i + 1 + k : Nat) : Int) := by omega
        have hJ : i + 1 + k < cl.length := by omega
        dsimp only [gName, List.set_cons_succ, List.set_cons_zero]
        rw [eJ]
        rw [oth_snoc]
        generalize eg : i + 1 + k = j at hJ ⊢
        have hol := oth_len cl d i k
        generalize othL cl d i k = os at q2 hol ⊢
        obtain ⟨b, eb, hb⟩ := col_at hC hJ
        have s14 := p13.trans q1
        have mi := mem_getD hi
        have mj := mem_getD hJ
        refine ⟨rfl, _, rfl, _, rfl, a, ts, (j : Nat), .ref b, rfl, rfl, sm_l s14 hS, atI_nat eb, _, rfl, dCol (cl.getD j []), dCol (cl.getD i []), .tup (SqT.of (s14 _ _ hb)) (dpa fun s _ => .str _), .tup (SqT.of (s14 _ _ hcc)) (dpa fun s _ => .str _), sh_col (hc _ mj).1, sh_col (hc _ mi).1, ?_⟩
        rw [eqv_dCol]
        by_cases hE : cl.getD j [] = cl.getD i []
        · rw [decide_eq_true hE]
          refine ⟨false, rfl, iteF ?_⟩
          have eL : leftB cl d (i, j) = false := by
            unfold leftB
            simp only [decide_eq_false (fun z : cl.getD i [] ≠ cl.getD j [] => z hE.symm), Bool.false_and]
          rw [eL, if_neg Bool.false_ne_true, List.append_nil]
          exact ⟨q1, q2⟩
        rw [decide_eq_false hE]
        refine ⟨true, rfl, iteT ?_⟩
        refine ⟨_, rfl, t, rfl, ⟨_, sm_t s14 hT⟩, fun D2 hD2 => ?_⟩
        have nD2 : D2 ≠ D := fun z => by
          rw [z, q2] at hD2
          cases hD2
        refine lc_it walk_tup (fun n H' => Same H5 H' ∧ H' D2 = some (.lst (inV' (difL (cl.getD j []) (cl.getD i []) (d.take n))))) ⟨Sm.new hD2, upd_same⟩ (fun n H' _ z => sm_t (s14.trans z.1) hT) ?_ ?_
        · rintro n y H6 H7 hn ⟨r1, r2⟩ ⟨rfl, hy⟩
          have hn : n < (inV' d).length := hn
          have hn : n < d.length := by
            unfold inV' at hn
            rwa [List.length_map] at hn
          have hy : (inV' d)[n]? = some y := hy
          rw [inV_at hn] at hy
          obtain rfl := Option.some.inj hy
          have hm := List.getElem_mem hn
          have ed : d.getD n 0 = d[n] := by rw [List.getD_eq_getElem?_getD, List.getElem?_eq_getElem hn]; rfl
          rw [ed, take_snoc (List.getElem?_eq_getElem hn)]
          have s16 := s14.trans r1
          have li := (hc _ mi).2 _ hm
          have lj := (hc _ mj).2 _ hm
          have hdl : (difL (cl.getD j []) (cl.getD i []) (d.take n)).length ≤ 1000 := by
            unfold difL
            refine Nat.le_trans (List.length_filter_le _ _) ?_
            rw [List.length_take]
            omega
          rw [dif_app]
          generalize difL (cl.getD j []) (cl.getD i []) (d.take n) = zs at r2 hdl ⊢
          refine ⟨rfl, _, rfl, _, rfl, a, ts, (j : Nat), .ref b, rfl, rfl, sm_l s16 hS, atI_nat eb, _, rfl, b, _, (d[n] : Nat), _, rfl, rfl, SqT.of (s16 _ _ hb), atI_nat (colV_at lj), _, rfl, _, rfl, c, _, (d[n] : Nat), _, rfl, rfl, SqT.of (s16 _ _ hcc), atI_nat (colV_at li), rfl, ?_⟩
          by_cases z : (cl.getD j []).getD d[n] 0 = (cl.getD i []).getD d[n] 0
          · rw [z, decide_eq_true (rfl : V.str _ = V.str _)]
            refine ⟨false, rfl, iteF ?_⟩
            rw [if_neg (fun k => k rfl), List.append_nil]
            exact ⟨r1, r2⟩
          · rw [decide_eq_false (fun n => z (by have := tx_inj (V.str.inj n); simpa using this)), if_pos z]
            refine ⟨true, rfl, iteT ⟨_, rfl, _, r2, ?_⟩⟩
            rw [inV_len]
            refine ⟨small_lt (by omega), Sm.put r1 hD2, ?_⟩
            rw [upd_same, inV_app]
            rfl
        · rintro H6 ⟨r1, r2⟩
          have r2 : H6 D2 = some (.lst (inV' (difL (cl.getD j []) (cl.getD i []) (d.take (inV' d).length)))) := r2
          rw [show (inV' d).length = d.length by unfold inV'; rw [List.length_map], List.take_length] at r2
          refine ⟨by show 0 ≤ sizeLine; decide, fun L hL => ?_⟩
          have s7 : Same H6 (upd H6 L (.lst [])) := Sm.new hL
          refine ⟨dIntL (difL (cl.getD j []) (cl.getD i []) d), .list [], .lst (SqL.of (s7 _ _ r2)) (dpa fun n _ => .int _), .lst (SqL.of upd_same) .nil, sh_dIntL _, rfl, ?_⟩
          rw [eqv_dIntL0]
          have q5 := (r1.trans s7) _ _ q2
          have s57 := q1.trans (r1.trans s7)
          have eL : leftB cl d (i, j) = !partB cl d i j := by
            unfold leftB
            simp only [decide_eq_true (show cl.getD i [] ≠ cl.getD j [] from fun z => hE z.symm), Bool.true_and]
          by_cases hP : difL (cl.getD j []) (cl.getD i []) d = []
          · rw [decide_eq_true hP]
            rw [eL, (dif_part cl d i j).mp hP]
            refine ⟨true, rfl, iteT ⟨_, rfl, _, q5, ?_⟩⟩
            rw [inV_len]
            refine ⟨small_lt (by omega), Sm.put s57 hD, ?_⟩
            rw [upd_same, if_pos (by decide), inV_app]
            rfl
          · rw [decide_eq_false hP]
            refine ⟨false, rfl, iteF ?_⟩
            rw [eL]
            cases hB : partB cl d i j with
            | false => exact absurd ((dif_part cl d i j).mpr hB) hP
            | true =>
              rw [if_neg (by decide), List.append_nil]
              exact ⟨s57, q5⟩
      · rintro H4 ⟨q1, q2⟩
        have q2 : H4 D = some (.lst (inV' (othL cl d i (cl.length - (i + 1))))) := q2
        have s14 := p13.trans q1
        dsimp only [gName, List.set_cons_succ, List.set_cons_zero]
        refine ⟨_, rfl, ?_⟩
        refine ⟨by show 0 ≤ sizeLine; decide, fun L hL => ?_⟩
        have s5 : Same H4 (upd H4 L (.lst [])) := Sm.new hL
        have s15 := s14.trans s5
        refine ⟨dIntL (othL cl d i (cl.length - (i + 1))), .list [], .lst (SqL.of (s5 _ _ q2)) (dpa fun n _ => .int _), .lst (SqL.of upd_same) .nil, sh_dIntL _, rfl, ?_⟩
        rw [eqv_dIntL0]
        have q5 := s5 _ _ q2
        generalize (upd H4 L (.lst [])) = H5 at s15 q5 ⊢
        cases eo : othL cl d i (cl.length - (i + 1)) with
        | nil =>
          refine ⟨false, rfl, iteF ?_⟩
          refine ⟨⟨_, _, _, _, _, rfl⟩, s15, ?_⟩
          rw [left_step, p2, eo]
          rfl
        | cons j r =>
          obtain ⟨r', er⟩ := left_head hi p2 eo
          refine ⟨true, rfl, iteT ?_⟩
          rw [eo] at q5
          refine ⟨_, rfl, _, rfl, D, inV' (j :: r), (0 : Nat), .int (j : Nat), rfl, rfl, SqL.of q5, atI_nat rfl, by show 2 ≤ sizeLine; decide, fun z hz => ?_⟩
          exact k1 _ _ er _ z (s15.trans (Sm.new hz)) (none_back s15 hz) upd_same
    · rintro σ H2 ⟨_, p1, p2⟩
      have p2 : notP cl d (prNat cl.length ts.length) = [] := p2
      rw [hC.1] at p2
      exact k0 p2 H2 p1
end
end K6
namespace K6
open PySem PySem.Spec PyProof.Rows L2 K0 K4
section
variable {P : Program} {w : World} {K : PySem.W.Frag} {mg : Str → Option Value} {base : Heap}
@[irreducible] def hSets : Sp := spSets
theorem hSets_eq : hSets = spSets := by
  unfold hSets
  rfl
@[irreducible] def hLeft (K : PySem.W.Frag) : Sp := spLeft K
theorem hLeft_eq {K : PySem.W.Frag} : hLeft K = spLeft K := by
  unfold hLeft
  rfl
abbrev st_l_due : Stmt := top 95
abbrev nm_l_due : List Str := ["_law_columns_here", "_law_many", "_law_pairs", "_law_some", "_law_left_here"]
theorem sc_l_due : FnScope nm_l_due ["_law_columns_here", "_law_many"] (defScope st_l_due) := ⟨rfl, rfl, rfl, by decide +kernel, rfl, by decide +kernel, by decide +kernel⟩
def spDue (K : PySem.W.Frag) : Sp := fun vs H Q _ => ∃ (a : Addr) (m : Nat) (ts : List V) (cl : List (List Nat)), vs = [.ref a, .int (m : Nat)] ∧ SqL K H a ts ∧ Cols H ts cl ∧ m < 6 ∧ cl.length ≤ 12 ∧ (∀ c ∈ cl, (∀ s ∈ c, s < 1114112) ∧ c.length = m) ∧
  ∀ H' z t p us, Same H H' → H' z = some (.tup [.ref t, .ref p]) → H' t = some (.tup (inV' (fewLot cl (lotsB m)))) → H' p = some (.tup us) → DsT H' us (fewPrs cl (lotsB m)) → Q (.ref z) H'
theorem ok_due {f : Addr} {fd : FuncData} (F : Fun K "_law_due" "_law_due" st_l_due f fd) (T : Blt mg) (C__law_sets : Cal P w K mg base 1 "_law_sets" st_l_sets ["_law_many"] spSets) (C__law_left : Cal P w K mg base 1 "_law_left" st_l_left ["_law_columns_here", "_law_some"] (spLeft K)) : FnOk P w K mg base CX0 2 f fd ["_law_columns_here", "_law_many"] (spDue K) := by
  have C__law_sets := cal_to' C__law_sets hSets_eq
  have C__law_left := cal_to' C__law_left hLeft_eq
  refine F.ok sc_l_due (fun vs H Q E h => ?_) (fun cdv A outer s H vs Q E hr h => ?_)
  · obtain ⟨a, m, ts, cl, rfl, _⟩ := h
    rfl
  · refine ⟨_, (pss_cons (ps_set (i := 2) sc_l_due.nd rfl (Or.inl rfl) (pe_lst pa_nil))
  (pss_cons (ps_for PassesOwn.never rfl (pi_list (pe_cl C__law_sets (hr.mono (by decide)) rfl (pa_cons (pv 1) pa_nil))) (pg_name (i := 3) sc_l_due.nd rfl (Or.inl rfl)) (pss_cons (ps_set (i := 4) sc_l_due.nd rfl (Or.inl rfl) (pe_cl C__law_left (hr.mono (by decide)) rfl (pa_cons (pv 0) (pa_cons (pv 3) pa_nil))))
  (pss_cons (ps_if (pt_cmpR op_isN (pv 4) pe_non (nomark _)) (pss_one (ps_ret (pe_tup (pa_cons (pv 3) (pa_cons (pe_callTy call_tuple_of (by rfl) T.n_tuple (by decide +kernel) (pa_cons (pv 2) pa_nil)) pa_nil))))) pss_nil)
  (pss_one (ps_expr (pe_bm PySem.F.plainAttrs_list PySem.F.slot_list_append PySem.F.type_list_append mt_append (pv 2) (pa_cons (pv 4) pa_nil)))))))
  (pss_one (ps_ret (pe_tup (pa_cons pe_non (pa_cons (pe_callTy call_tuple_of (by rfl) T.n_tuple (by decide +kernel) (pa_cons (pv 2) pa_nil)) pa_nil))))))), ?_⟩
    obtain ⟨a, m, ts, cl, rfl, hS, hC, m6, c12, hc, k⟩ := h
    rw [show L2.start nm_l_due [V.ref a, .int (m : Nat)] = [some (V.ref a), some (.int (m : Nat)), none, none, none] from rfl]
    have lots := lotsB_ok m m6
    have hcl : ∀ c ∈ cl, c.length = m := fun c h => (hc c h).2
    refine ⟨Nat.zero_le _, fun L hL => ?_⟩
    have s1 : Same H (upd H L (.lst [])) := Sm.new hL
    have e1 : (upd H L (.lst [])) L = some (.lst []) := upd_same
    generalize (upd H L (.lst [])) = H1 at s1 e1 ⊢
    dsimp only [gName, List.set_cons_succ, List.set_cons_zero]
    refine ⟨_, rfl, ?_⟩
    show hSets [.int (m : Nat)] _ _ _
    rw [hSets_eq]
    refine ⟨m, rfl, m6, fun H2 S ls s2 nS hS2 dS => ⟨S, rfl, ⟨ls, SqL.of hS2⟩, ?_⟩⟩
    have s02 := s1.trans s2
    have lsn : ls.length = (lotsB m).length := dS.1
    have nSL : S ≠ L := fun z => by
      rw [z, e1] at nS
      cases nS
    refine for_it walk_list (fun i σ H' => (∃ v3 v4, σ = [some (.ref a), some (.int (m : Nat)), some (.ref L), v3, v4]) ∧ Same H H' ∧ H' S = some (.lst ls) ∧ DsT H' ls (lotsB m) ∧ (∃ us, H' L = some (.lst us) ∧ DsT H' us (((lotsB m).take i).map fun d => (leftL cl d).headD [])) ∧
      ∀ j, j < i → ∀ d, (lotsB m)[j]? = some d → leftL cl d ≠ []) ⟨⟨none, none, rfl⟩, s02, hS2, dS, ⟨[], s2 _ _ e1, dst_nil⟩, fun j hj => absurd hj (Nat.not_lt_zero j)⟩ (fun i σ H' _ p => SqL.of p.2.2.1) ?_ ?_
    · rintro i y σ H3 H4 hi ⟨⟨v3, v4, rfl⟩, q1, q2, q3, ⟨us, q4, q5⟩, q6⟩ ⟨rfl, hy⟩
      have hil : i < (lotsB m).length := by
        have : i < ls.length := hi
        omega
      have ed := List.getElem?_eq_getElem hil
      have hok := lots.2 _ (List.getElem_mem hil)
      have hwhere := fun h0 => few_at (cl := cl) hil h0
      obtain ⟨b, rfl, hb⟩ := q3.2 i y _ hy ed
      generalize (lotsB m)[i] = d at ed hok hb hwhere
      dsimp only [gName, List.set_cons_succ, List.set_cons_zero]
      refine ⟨_, rfl, _, rfl, ?_⟩
      show hLeft K [.ref a, .ref b] _ _ _
      rw [hLeft_eq]
      refine ⟨a, b, ts, cl, d, rfl, sm_l q1 hS, cols_sm q1 hC, SqT.of hb, c12, fun c hcm => ⟨(hc c hcm).1, fun i hi => by rw [(hc c hcm).2]; exact hok.2 i hi⟩, by omega, fun e0 H5 s5 => ?_, fun p r ep H5 z s5 nz hz => ?_⟩
      · have q15 := q1.trans s5
        dsimp only [gName, List.set_cons_succ, List.set_cons_zero]
        refine ⟨_, rfl, rfl, true, rfl, iteT ?_⟩
        have e2 := hwhere q6 e0
        refine ⟨_, rfl, _, rfl, L, _, rfl, .inl ⟨SqL.of (s5 _ _ q4), fun l hl => ?_⟩⟩
        have s6 : Same H5 (upd H5 l (.tup us)) := Sm.new hl
        have e6 : (upd H5 l (.tup us)) l = some (.tup us) := upd_same
        generalize (upd H5 l (.tup us)) = H6 at s6 e6 ⊢
        refine ⟨by show 2 ≤ sizeLine; decide, fun z hz => ?_⟩
        have s7 : Same H6 (upd H6 z (.tup [.ref b, .ref l])) := Sm.new hz
        have s57 := s5.trans (s6.trans s7)
        refine k _ z b l us (q1.trans s57) upd_same ?_ (s7 _ _ e6) ?_
        · unfold fewLot
          rw [e2, List.getD_eq_getElem?_getD, ed]
          exact s57 _ _ hb
        · unfold fewPrs
          rw [e2]
          exact dst_sm s57 q5
      · have q15 := q1.trans s5
        dsimp only [gName, List.set_cons_succ, List.set_cons_zero]
        refine ⟨_, rfl, rfl, false, rfl, iteF ?_⟩
        have q4' := s5 _ _ q4
        refine ⟨_, rfl, .inl ⟨rfl, _, SqL.of q4'⟩, _, rfl, L, us, _, rfl, rfl, q4', small_lt (by rw [q5.1, List.length_map, List.length_take]; omega), ?_⟩
        refine ⟨⟨_, _, rfl⟩, Sm.put q15 hL, (upd_ne nSL).trans (s5 _ _ q2), dst_upd q4' (dst_sm s5 q3), ⟨_, upd_same, ?_⟩, fun j hj d' hd' => ?_⟩
        · rw [take_snoc ed, List.map_append]
          show DsT _ _ (_ ++ [(leftL cl d).headD []])
          rw [ep]
          exact dst_upd q4' (dst_app (dst_sm s5 q5) (dst_one hz))
        · rcases Nat.lt_or_ge j i with lt | ge
          · exact q6 j lt d' hd'
          · have : j = i := by omega
            subst this
            rw [ed] at hd'
            obtain rfl := Option.some.inj hd'
            rw [ep]
            exact List.cons_ne_nil _ _
    · rintro σ H4 ⟨⟨v3, v4, rfl⟩, q1, q2, q3, q4, q6⟩
      rw [lsn] at q6
      obtain ⟨j, hj, e⟩ := List.getElem_of_mem (range_in m m6)
      exact absurd (full_left hcl) (q6 j hj _ (by rw [List.getElem?_eq_getElem hj, e]))
end
end K6
namespace K6
open PySem PySem.Spec PyProof.Rows L2 K0 K4
def dPrL (ps : List (List Nat)) : PyData := .list (ps.map dInts)
theorem sh_dPrL (ps : List (List Nat)) : SeqAt.shaped (dPrL ps) = true := by
  refine shaped_of ?_ ?_
  · unfold dPrL PyData.canLay0
    refine lay_all fun l _ => ?_
    unfold dInts PyData.canLay0
    exact lay_all fun n _ => rfl
  · unfold dPrL PyData.depth
    have := depth_all (b := 2) (d := dInts) (xs := ps) fun l _ => by
      unfold dInts PyData.depth
      have := depth_all (b := 1) (d := fun n : Nat => PyData.int (n : Nat)) (xs := l) fun n _ => by
        unfold PyData.depth
        omega
      omega
    omega
section
variable {P : Program} {w : World} {K : PySem.W.Frag} {mg : Str → Option Value} {base : Heap}
theorem dp_prL {H : Hp} {m : Addr} {ms : List V} {L : List (List Nat)} (h : SqL K H m ms) (hd : DsT H ms L) : Dp K H (.ref m) (dPrL L) :=
  .lst h (dpa_ix (by rw [List.length_map]; exact hd.1) fun i x e e1 e2 => by
    rw [List.getElem?_map] at e2
    cases z : L[i]? with
    | none =>
      rw [z] at e2
      cases e2
    | some d =>
      rw [z] at e2
      obtain rfl := Option.some.inj e2
      obtain ⟨b, rfl, hb⟩ := hd.2 i x d e1 z
      exact dp_ints (SqT.of hb))
@[irreducible] def hIsNums (K : PySem.W.Frag) : Sp := spIsNumbers K
theorem hIsNums_eq {K : PySem.W.Frag} : hIsNums K = spIsNumbers K := by
  unfold hIsNums
  rfl
abbrev st_is_pair_among : Stmt := top 80
abbrev nm_is_pair_among : List Str := ["value", "pairs"]
theorem sc_is_pair_among : FnScope nm_is_pair_among ["value", "pairs"] (defScope st_is_pair_among) := ⟨rfl, rfl, rfl, by decide +kernel, rfl, by decide +kernel, by decide +kernel⟩
def spAmong (K : PySem.W.Frag) : Sp := fun vs H Q _ => ∃ (b m : Addr) (ms : List V) (p : List Nat) (L : List (List Nat)), vs = [.ref b, .ref m] ∧ TupF H b (inV' p) ∧ SqL K H m ms ∧ DsT H ms L ∧ p ∈ L ∧ p.length ≤ 1000 ∧ ∀ H', Same H H' → Q (.bl true) H'
theorem ok_among {f : Addr} {fd : FuncData} (F : Fun K "is_pair_among" "is_pair_among" st_is_pair_among f fd) (T : Blt mg) (C_is_numbers : Cal P w K mg base 2 "is_numbers" st_is_numbers ["value"] (spIsNumbers K)) : FnOk P w K mg base CX0 3 f fd ["value", "pairs"] (spAmong K) := by
  have C_is_numbers := cal_to' C_is_numbers hIsNums_eq
  refine F.ok sc_is_pair_among (fun vs H Q E h => ?_) (fun cdv A outer s H vs Q E hr h => ?_)
  · obtain ⟨b, m, ms, p, L, rfl, _⟩ := h
    rfl
  · refine ⟨_, (pss_one (ps_ret (pe_and (pe_cl C_is_numbers (hr.mono (by decide)) rfl (pa_cons (pv 0) pa_nil)) (pe_one (pe_cmpR (op_inD (hu65 hr)) (pv 0) (pv 1) rfl))))), ?_⟩
    obtain ⟨b, m, ms, p, L, rfl, hb, hm, hd, hp, hl, q⟩ := h
    refine ⟨_, rfl, ?_⟩
    show hIsNums K [.ref b] _ _ _
    rw [hIsNums_eq]
    refine ⟨.ref b, "tuple", rfl, ⟨.fTuple hb.choose_spec.1, by decide⟩, .inr ⟨rfl, b, inV' p, p.map fun _ => "int", rfl, .inr (tf_sq hb), by rw [inV_len]; exact hl, ⟨by rw [inV_len, List.length_map], fun i x e => ?_⟩, fun H1 s1 => ⟨_, rfl, ?_⟩⟩⟩
    · have hi : i < p.length := by
        have := (List.getElem?_eq_some_iff.mp e).1
        rwa [inV_len] at this
      rw [inV_at hi] at e
      obtain rfl := Option.some.inj e
      rw [show (p.map fun _ => "int").getD i "" = "int" by rw [List.getD_eq_getElem?_getD, List.getElem?_map, List.getElem?_eq_getElem hi]; rfl]
      exact kd_int
    · rw [show ((p.map fun _ => "int").all fun x => x == "int") = true from List.all_eq_true.mpr fun x hx => by
        obtain ⟨_, _, rfl⟩ := List.mem_map.mp hx
        rfl]
      refine iteT ?_
      refine ⟨_, rfl, _, rfl, dInts p, L.map dInts, dp_ints (tf_sq (tf_sm s1 hb)), dp_prL (sm_l s1 hm) (dst_sm s1 hd), sh_dInts p, sh_dPrL L, ?_⟩
      rw [show ((L.map dInts).any fun z => PyData.eqv z (dInts p)) = true from List.any_eq_true.mpr ⟨dInts p, List.mem_map.mpr ⟨p, hp, rfl⟩, by rw [eqv_dInts]; exact decide_eq_true rfl⟩]
      exact q H1 s1
end
end K6
namespace K6
open PySem PySem.Spec PyProof.Rows L2 K0 K4
section
variable {P : Program} {w : World} {K : PySem.W.Frag} {mg : Str → Option Value} {base : Heap}
variable {cs : Nat → Addr} {C Z : Addr}
def spIsTelling (K : PySem.W.Frag) (C Z : Addr) : Sp := fun vs H Q _ => ∃ (y z : Addr) (names : List (List Nat)) (ws : List (List (List Nat))), vs = [.ref y, .ref z] ∧ SheetAt K C H y names (whole ws) ∧ ShOk names (whole ws) ∧
  ZmB Z H z (dN (fewOf names ws)) (dPrs (fewPr names ws)) ∧ ∀ H', Same H H' → Q (.bl true) H'
@[irreducible] def hIsTl (K : PySem.W.Frag) (C Z : Addr) : Sp := spIsTelling K C Z
theorem hIsTl_eq {K : PySem.W.Frag} : hIsTl K C Z = spIsTelling K C Z := by
  unfold hIsTl
  rfl
@[irreducible] def hCld (K : PySem.W.Frag) (Z : Addr) : Sp := spIsCalled K Z
theorem hCld_eq {K : PySem.W.Frag} : hCld K Z = spIsCalled K Z := by
  unfold hCld
  rfl
abbrev st_is_tellingL : Stmt := top 81
abbrev st_shows_telling : Stmt := top 82
abbrev nm_shows_telling : List Str := ["sheet", "value"]
theorem sc_shows_telling : FnScope nm_shows_telling ["sheet", "value"] (defScope st_shows_telling) := ⟨rfl, rfl, rfl, by decide +kernel, rfl, by decide +kernel, by decide +kernel⟩
def spShows (K : PySem.W.Frag) (C Z : Addr) : Sp := spIsTelling K C Z
theorem ok_shows {f Pp : Addr} {fd : FuncData} (F : Fun K "shows_telling" "shows_telling" st_shows_telling f fd) (T : Blt mg) (S : ShC K C) (U : ZmE K mg Z Pp) (C_need_whole : CNW P w K mg base cs C)
    (C_is_called : CIsc P w K mg base Z) (C_is_telling : Cal P w K mg base 8 "is_telling" st_is_tellingL ["sheet", "value"] (spIsTelling K C Z)) : FnOk P w K mg base (L2.CX P w) 9 f fd ["sheet", "value"] (spShows K C Z) := by
  have C_need_whole := calX_to C_need_whole hWhole_eq
  have C_is_called := cal_to' C_is_called hCld_eq
  have C_is_telling := cal_to' C_is_telling hIsTl_eq
  refine F.okX sc_shows_telling (fun vs H Q E h => ?_) (fun cdv A outer s H vs Q E hr h => ?_)
  · obtain ⟨y, z, names, ws, rfl, _⟩ := h
    rfl
  · refine ⟨_, (pss_cons (ps_expr (pe_clX C_need_whole (passes_call (takes_of rfl rfl rfl rfl) fun _ _ _ _ z => z) (hr.mono (by decide)) rfl (pa_cons (pv 0) (pa_cons pe_str pa_nil))))
  (pss_cons (ps_if (PW.pt (pw_or (pt_not (pt_val (pe_callB call_isi (by rfl) T.n_isinstance (by decide +kernel) (pa_cons (pv 1) (pa_cons (pe_glob (v := .ref _) rfl (U.g_Telling) rfl) pa_nil))))) (pw_or1 (pt_not (pt_val (pe_cl C_is_called (hr.mono (by decide)) rfl (pa_cons (pv 1) (pa_cons pe_str pa_nil)))))))) (pss_one (ps_ret pe_bl)) pss_nil)
  (pss_one (ps_ret (pe_cl C_is_telling (hr.mono (by decide)) rfl (pa_cons (pv 0) (pa_cons (pv 1) pa_nil))))))), ?_⟩
    obtain ⟨y, z, names, ws, rfl, sh, ok, hz, q⟩ := h
    rw [show L2.start nm_shows_telling [V.ref y, .ref z] = [some (V.ref y), some (.ref z)] from rfl]
    refine ⟨_, rfl, whv_need (.inr (.inr ⟨y, names, ws, rfl, sh, ok, trivial⟩) : Whv K cs C "sheet" H E (.ref y) fun _ _ _ => True) fun _ _ _ ev _ _ _ => ?_⟩
    clear ev
    have hz0 := hz
    refine ⟨_, rfl, _, _, .ref Z, _, _, rfl, .own Z, zm_tyx U hz, U.kZ, true, rfl, ?_⟩
    refine iteF ?_
    refine ⟨_, rfl, ?_⟩
    show hCld K Z [.ref z, .str (Str.ofString "Telling")] _ _ _
    rw [hCld_eq]
    obtain ⟨dx, u1, u2, p, hz1⟩ := hz
    refine ⟨z, _, _, _, rfl, ⟨dx, u1, u2, p, hz1⟩, true, rfl, ?_⟩
    refine iteF ?_
    refine ⟨_, rfl, _, rfl, ?_⟩
    show hIsTl K C Z [.ref y, .ref z] _ _ _
    rw [hIsTl_eq]
    exact ⟨y, z, names, ws, rfl, sh, ok, hz0, q⟩
end
end K6
namespace K6
open PySem PySem.Spec PyProof.Rows L2 K0 K4
theorem lots_sorted : ∀ m < 6, (lotsB m).Pairwise fun a b => a.length ≤ b.length := by decide +kernel
theorem lots_up : ∀ m < 5, ∀ d ∈ lotsB m, d ∈ lotsB (m + 1) := by decide +kernel
theorem lots_nodup : ∀ m < 6, (lotsB m).Nodup := by decide +kernel
theorem few_mem {cl : List (List Nat)} {m : Nat} (m6 : m < 6) (h : ∀ c ∈ cl, c.length = m) : fewLot cl (lotsB m) ∈ lotsB m := by
  have := few_lt m6 h
  unfold fewLot
  rw [List.getD_eq_getElem?_getD, List.getElem?_eq_getElem this]
  exact List.getElem_mem this
theorem few_tells {cl : List (List Nat)} {m : Nat} (m6 : m < 6) (h : ∀ c ∈ cl, c.length = m) : leftL cl (fewLot cl (lotsB m)) = [] := by
  have hl := few_lt m6 h
  have := List.findIdx_getElem (p := fun d => (leftL cl d).isEmpty) (xs := lotsB m) (w := hl)
  unfold fewLot
  rw [List.getD_eq_getElem?_getD, List.getElem?_eq_getElem hl]
  exact List.isEmpty_iff.mp this
/-- no lot that tells is shorter -/
theorem few_min {cl : List (List Nat)} {m : Nat} (m6 : m < 6) (h : ∀ c ∈ cl, c.length = m) {d : List Nat} (hd : d ∈ lotsB m) (e : leftL cl d = []) : (fewLot cl (lotsB m)).length ≤ d.length := by
  have hl := few_lt m6 h
  obtain ⟨j, hj, rfl⟩ := List.getElem_of_mem hd
  have le : fewAt cl (lotsB m) ≤ j := by
    refine Nat.le_of_not_lt fun lt => ?_
    have := List.not_of_lt_findIdx (p := fun d => (leftL cl d).isEmpty) (xs := lotsB m) lt
    rw [e] at this
    cases this
  unfold fewLot
  rw [List.getD_eq_getElem?_getD, List.getElem?_eq_getElem hl]
  rcases Nat.lt_or_ge (fewAt cl (lotsB m)) j with lt | ge
  · exact List.pairwise_iff_getElem.mp (lots_sorted m m6) _ _ hl hj lt
  · have : fewAt cl (lotsB m) = j := by omega
    show (lotsB m)[fewAt cl (lotsB m)].length ≤ _
    simp only [this]
    exact Nat.le_refl _
/-- a lot tells when it parts every two unlike columns -/
theorem left_nil {cl : List (List Nat)} {d : List Nat} : leftL cl d = [] ↔ ∀ p q, p < q → q < cl.length → cl.getD p [] ≠ cl.getD q [] → partB cl d p q = true := by
  unfold leftL notP
  rw [List.map_eq_nil_iff, List.filter_eq_nil_iff]
  constructor
  · intro h p q pq hq ne
    have := h (p, q) ((prNat_mem (Nat.le_refl _)).mpr ⟨by omega, pq, hq⟩)
    unfold leftB at this
    simp only [decide_eq_true ne, Bool.true_and, Bool.not_eq_true, Bool.not_eq_false'] at this
    exact this
  · rintro h ⟨p, q⟩ hp z
    obtain ⟨_, pq, hq⟩ := (prNat_mem (Nat.le_refl _)).mp hp
    unfold leftB at z
    rw [Bool.and_eq_true, decide_eq_true_eq, Bool.not_eq_true'] at z
    rw [h p q pq hq z.1] at z
    cases z.2
/-- one more cell in each column -/
structure Wider (cl cl2 : List (List Nat)) (m : Nat) : Prop where
  len : cl2.length = cl.length
  old : ∀ p, p < cl.length → (cl.getD p []).length = m
  wid : ∀ p, p < cl.length → (cl2.getD p []).length = m + 1
  pre : ∀ p, p < cl.length → ∀ i, i < m → (cl2.getD p []).getD i 0 = (cl.getD p []).getD i 0
theorem Wider.part {cl cl2 : List (List Nat)} {m : Nat} (W : Wider cl cl2 m) {d : List Nat} (hd : ∀ i ∈ d, i < m) {p q : Nat} (hp : p < cl.length) (hq : q < cl.length) : partB cl2 d p q = partB cl d p q := by
  unfold partB
  rw [Bool.eq_iff_iff, List.any_eq_true, List.any_eq_true]
  constructor
  · rintro ⟨i, hi, z⟩
    exact ⟨i, hi, by rwa [W.pre p hp i (hd i hi), W.pre q hq i (hd i hi)] at z⟩
  · rintro ⟨i, hi, z⟩
    exact ⟨i, hi, by rwa [W.pre p hp i (hd i hi), W.pre q hq i (hd i hi)]⟩
theorem ext_getD {a b : List Nat} {m : Nat} (ha : a.length = m) (hb : b.length = m) (h : ∀ i, i < m → a.getD i 0 = b.getD i 0) : a = b := by
  refine Classical.byContradiction fun z => ?_
  obtain ⟨i, hi, e⟩ := dif_at ha hb z
  exact e (h i hi)
theorem Wider.finer {cl cl2 : List (List Nat)} {m : Nat} (W : Wider cl cl2 m) {p q : Nat} (hp : p < cl.length) (hq : q < cl.length) (e : cl2.getD p [] = cl2.getD q []) : cl.getD p [] = cl.getD q [] :=
  ext_getD (W.old p hp) (W.old q hq) fun i hi => by rw [← W.pre p hp i hi, ← W.pre q hq i hi, e]
/-- nothing new is parted: no more languages are wanted -/
theorem Wider.few {cl cl2 : List (List Nat)} {m : Nat} (W : Wider cl cl2 m) (m5 : m < 5) (hc : ∀ c ∈ cl, c.length = m) (hc2 : ∀ c ∈ cl2, c.length = m + 1) (al : ∀ p q, p < cl.length → q < cl.length → cl.getD p [] = cl.getD q [] → cl2.getD p [] = cl2.getD q []) :
    (fewLot cl2 (lotsB (m + 1))).length ≤ (fewLot cl (lotsB m)).length := by
  have hm := few_mem (by omega) hc
  have ht := left_nil.mp (few_tells (by omega) hc)
  refine few_min (by omega) hc2 (lots_up m m5 _ hm) (left_nil.mpr fun p q pq hq ne => ?_)
  rw [W.len] at hq
  rw [W.part ((lotsB_ok m (by omega)).2 _ hm).2 (by omega) hq]
  exact ht p q pq hq fun z => ne (al p q (by omega) hq z)
/-- something new is parted: the further language is in every lot that tells -/
theorem Wider.need {cl cl2 : List (List Nat)} {m : Nat} (W : Wider cl cl2 m) (m5 : m < 5) (hc2 : ∀ c ∈ cl2, c.length = m + 1) {p q : Nat} (pq : p < q) (hq : q < cl.length) (e : cl.getD p [] = cl.getD q []) (ne : cl2.getD p [] ≠ cl2.getD q []) :
    m ∈ fewLot cl2 (lotsB (m + 1)) := by
  have hm := few_mem (by omega) hc2
  have ht := left_nil.mp (few_tells (by omega) hc2) p q pq (by rw [W.len]; exact hq) ne
  refine Classical.byContradiction fun z => ?_
  have hd : ∀ i ∈ fewLot cl2 (lotsB (m + 1)), i < m := fun i hi => by
    have := ((lotsB_ok (m + 1) (by omega)).2 _ hm).2 i hi
    have : i ≠ m := fun k => z (k ▸ hi)
    omega
  rw [W.part hd (by omega) hq] at ht
  unfold partB at ht
  rw [e] at ht
  obtain ⟨i, _, hi⟩ := List.any_eq_true.mp ht
  exact of_decide_eq_true hi rfl
end K6
namespace K6
open PySem PySem.Spec PyProof.Rows L2 K0 K4
theorem zeroL_same {cl : List (List Nat)} {p q : Nat} (hp : p < cl.length) (hq : q < cl.length) : (zeroL cl).getD p 0 = (zeroL cl).getD q 0 ↔ cl.getD p [] = cl.getD q [] := by
  rw [zeroL_A]
  have gp := List.getElem?_eq_getElem hp
  have gq := List.getElem?_eq_getElem hq
  obtain ⟨a, za⟩ : ∃ k, (zeroA cl)[p]? = some k := ⟨_, List.getElem?_eq_getElem (by rw [zeroA_len]; exact hp)⟩
  obtain ⟨b, zb⟩ : ∃ k, (zeroA cl)[q]? = some k := ⟨_, List.getElem?_eq_getElem (by rw [zeroA_len]; exact hq)⟩
  simp only [List.getD_eq_getElem?_getD, za, zb, gp, gq, Option.getD_some]
  exact zeroA_iff gp gq za zb
theorem lj_iff {a b : List (List Nat)} (hl : a.length = b.length) : ljR (zeroL a) (zeroL b) = none ↔ ∀ p q, p < q → q < a.length → a.getD p [] = a.getD q [] → b.getD p [] = b.getD q [] := by
  unfold ljR
  rw [List.find?_eq_none, zeroL_len]
  constructor
  · intro h p q pq hq e
    have := h (p, q) ((prNat_mem (Nat.le_refl _)).mpr ⟨by omega, pq, hq⟩)
    unfold jB at this
    simp only [decide_eq_true ((zeroL_same (by omega) hq).mpr e), Bool.true_and, Bool.not_eq_true, Bool.not_eq_false', decide_eq_true_eq] at this
    exact (zeroL_same (by omega) (by omega)).mp this
  · rintro h ⟨p, q⟩ hp z
    obtain ⟨_, pq, hq⟩ := (prNat_mem (Nat.le_refl _)).mp hp
    unfold jB at z
    rw [Bool.and_eq_true, decide_eq_true_eq, Bool.not_eq_true', decide_eq_false_iff_not] at z
    exact z.2 ((zeroL_same (by omega) (by omega)).mpr (h p q pq hq ((zeroL_same (by omega) hq).mp z.1)))
theorem wider_of {A B : List (List Nat)} {n : Nat} (hl : A.length = B.length) (hA : ∀ c ∈ A, c.length = n) (hB : ∀ c ∈ B, c.length = 1) : Wider A (List.zipWith (· ++ ·) A B) n := by
  have at2 : ∀ p, p < A.length → ∃ a b, a ∈ A ∧ b ∈ B ∧ A.getD p [] = a ∧ (List.zipWith (· ++ ·) A B).getD p [] = a ++ b := fun p hp => by
    have ga := List.getElem?_eq_getElem hp
    have gb := List.getElem?_eq_getElem (show p < B.length by omega)
    refine ⟨A[p], B[p], List.getElem_mem _, List.getElem_mem _, by rw [List.getD_eq_getElem?_getD, ga]; rfl, ?_⟩
    rw [List.getD_eq_getElem?_getD, List.getElem?_zipWith, ga, gb]
    rfl
  refine ⟨by rw [List.length_zipWith]; omega, fun p hp => hA _ (mem_getD hp), fun p hp => ?_, fun p hp i hi => ?_⟩
  · obtain ⟨a, b, ma, mb, _, e⟩ := at2 p hp
    rw [e, List.length_append, hA a ma, hB b mb]
  · obtain ⟨a, b, ma, mb, e1, e⟩ := at2 p hp
    rw [e, e1, List.getD_eq_getElem?_getD, List.getD_eq_getElem?_getD, List.getElem?_append_left (by rw [hA a ma]; exact hi)]
theorem Wider.alike {cl cl2 : List (List Nat)} {m : Nat} (W : Wider cl cl2 m) (h : ljR (zeroL cl) (zeroL cl2) = none) : ∀ p q, p < cl.length → q < cl.length → cl.getD p [] = cl.getD q [] → cl2.getD p [] = cl2.getD q [] := fun p q hp hq e => by
  have h := (lj_iff W.len.symm).mp h
  rcases Nat.lt_trichotomy p q with z | z | z
  · exact h p q z hq e
  · rw [z]
  · exact (h q p z hp e.symm).symm
theorem Wider.parted {cl cl2 : List (List Nat)} {m : Nat} (W : Wider cl cl2 m) (h : ljR (zeroL cl) (zeroL cl2) ≠ none) : ∃ p q, p < q ∧ q < cl.length ∧ cl.getD p [] = cl.getD q [] ∧ cl2.getD p [] ≠ cl2.getD q [] :=
  Classical.byContradiction fun z => h ((lj_iff W.len.symm).mpr fun p q pq hq e => Classical.byContradiction fun n => z ⟨p, q, pq, hq, e, n⟩)
theorem Wider.zero {cl cl2 : List (List Nat)} {m : Nat} (W : Wider cl cl2 m) : zeroL cl2 = zeroL cl ↔ ljR (zeroL cl) (zeroL cl2) = none := by
  constructor
  · intro h
    refine (lj_iff W.len.symm).mpr fun p q pq hq e => ?_
    have h2 : q < cl2.length := by rw [W.len]; exact hq
    refine (zeroL_same (by omega) h2).mp ?_
    rw [h]
    exact (zeroL_same (by omega) hq).mpr e
  · intro h
    rw [zeroL_A, zeroL_A]
    refine zero_pat W.len fun i j x y x' y' h1 h2 h3 h4 => ?_
    have li := (List.getElem?_eq_some_iff.mp h3).1
    have lj := (List.getElem?_eq_some_iff.mp h4).1
    have e1 : cl2.getD i [] = x := by rw [List.getD_eq_getElem?_getD, h1]; rfl
    have e2 : cl2.getD j [] = y := by rw [List.getD_eq_getElem?_getD, h2]; rfl
    have e3 : cl.getD i [] = x' := by rw [List.getD_eq_getElem?_getD, h3]; rfl
    have e4 : cl.getD j [] = y' := by rw [List.getD_eq_getElem?_getD, h4]; rfl
    constructor
    · intro e
      rw [← e3, ← e4]
      exact W.finer li lj (by rw [e1, e2, e])
    · intro e
      rw [← e1, ← e2]
      exact W.alike h i j li lj (by rw [e3, e4, e])
end K6
namespace K6
open PySem PySem.Spec PyProof.Rows L2 K0 K4
section
variable {P : Program} {w : World} {K : PySem.W.Frag} {mg : Str → Option Value} {base : Heap}
variable {cs : Nat → Addr} {C Z : Addr}
@[irreducible] def hCmp (K : PySem.W.Frag) (cs : Nat → Addr) (C : Addr) : Sp := spComp K cs C
theorem hCmp_eq {K : PySem.W.Frag} {cs : Nat → Addr} {C : Addr} : hCmp K cs C = spComp K cs C := by
  unfold hCmp
  rfl
@[irreducible] def hFew (K : PySem.W.Frag) (cs : Nat → Addr) (C Z : Addr) : Sp := spFewest K cs C Z
theorem hFew_eq {K : PySem.W.Frag} {cs : Nat → Addr} {C Z : Addr} : hFew K cs C Z = spFewest K cs C Z := by
  unfold hFew
  rfl
theorem cmp_use {H : Hp} {Q : VK} {E : XK} {x y : Addr} {n1 n2 : List (List Nat)} {w1 w2 : List (List (List Nat))} (h1 : Wsh K C H x n1 w1) (h2 : Wsh K C H y n2 w2) (hl : w1.length = w2.length) (hw : ∀ i, widW (w1.getD i []) = widW (w2.getD i []))
    (k : ∀ H' p u v, Same H H' → H p = none → LjV H' u (ljR (zeroL (cols w2)) (zeroL (cols w1))) → LjV H' v (ljR (zeroL (cols w1)) (zeroL (cols w2))) →
      H' p = some (.tup [.str (standS (ljR (zeroL (cols w2)) (zeroL (cols w1))).isNone (ljR (zeroL (cols w1)) (zeroL (cols w2))).isNone), u, v]) → Q (.ref p) H') : hCmp K cs C [.ref x, .ref y] H Q E := by
  rw [hCmp_eq]
  have e : plN (whole w1) (whole w1).length = plN (whole w2) (whole w2).length := by
    rw [whole_len, whole_len, ← hl]
    exact plN_same hw _
  refine ⟨_, _, rfl, .inr (.inr ⟨x, n1, w1, rfl, h1.at_, h1.ok, .inr (.inr ⟨y, n2, w2, rfl, h2.at_, h2.ok, fun n => absurd e n, fun _ => ⟨?_, fun H' p i j s n l1 l2 hp => k H' p i j s n l1 l2 hp⟩⟩)⟩)⟩
  rw [zeroL_len, zeroL_len, ← pl_cols, ← pl_cols, places_nat, places_nat, List.length_map, List.length_map, whole_len, whole_len, ← hl, plN_same hw]
theorem few_use {H : Hp} {Q : VK} {E : XK} {x : Addr} {n : List (List Nat)} {ws : List (List (List Nat))} (h : Wsh K C H x n ws) (k : ∀ H' z, Same H H' → H z = none → ZmB Z H' z (dN (fewOf n ws)) (dPrs (fewPr n ws)) → Q (.ref z) H') : hFew K cs C Z [.ref x] H Q E := by
  rw [hFew_eq]
  exact ⟨_, rfl, .inr (.inr ⟨x, n, ws, rfl, h.at_, h.ok, k⟩)⟩
theorem ftn_tup {H : Hp} {n : Nat} {v : V} {ds : List PyData} (h : FTN H (n + 1) v (.tuple ds)) : ∃ t xs, v = .ref t ∧ TupF H t xs ∧ xs.length = ds.length ∧ ∀ (i : Nat) x e, xs[i]? = some x → ds[i]? = some e → FTN H n x e := by
  rcases h with ha | ⟨t, xs, ds, rfl, ed, ht, hl, hx'⟩
  · rcases ha with ⟨i, _, e⟩ | ⟨z, _, e⟩ <;> cases e
  cases ed
  exact ⟨t, xs, rfl, ht, hl, hx'⟩
theorem ftn_tws {H : Hp} {n : Nat} {xs : List V} {l : List (List Nat)} (hl : xs.length = (l.map fun n => PyData.str (Tx n)).length) (h : ∀ (i : Nat) x e, xs[i]? = some x → (l.map fun n => PyData.str (Tx n))[i]? = some e → FTN H n x e) : xs = tws l := by
  refine List.ext_getElem? fun i => ?_
  unfold tws
  rw [List.getElem?_map]
  cases e : l[i]? with
  | none =>
    rw [List.length_map] at hl
    exact List.getElem?_eq_none (by rw [hl]; exact List.getElem?_eq_none_iff.mp e)
  | some a =>
    have hi := (List.getElem?_eq_some_iff.mp e).1
    obtain ⟨x, hx⟩ : ∃ x, xs[i]? = some x := ⟨_, List.getElem?_eq_getElem (by rw [hl, List.length_map]; exact hi)⟩
    have := h i _ _ hx (by rw [List.getElem?_map, e]; rfl)
    rw [hx]
    refine congrArg some ?_
    clear hx
    cases n with
    | zero => rcases this with ⟨_, _, z⟩ | ⟨z, rfl, e⟩ <;> cases ‹_ = _› <;> rfl
    | succ n =>
      rcases this with (⟨_, _, z⟩ | ⟨z, rfl, e⟩) | ⟨_, _, _, _, z, _⟩
      · cases z
      · cases e
        rfl
      · cases z
abbrev st_l_wider_right : Stmt := top 96
abbrev nm_l_wider_right : List Str := ["_law_reel_here", "_law_sheet", "_law_names_here", "_law_rows_here", "_law_paper", "_law_shape", "_law_more", "_law_wide", "_law_word", "_law_one", "_law_other", "_law_cells"]
theorem sc_l_wider_right : FnScope nm_l_wider_right ["_law_reel_here", "_law_sheet", "_law_names_here", "_law_rows_here", "_law_paper"] (defScope st_l_wider_right) := ⟨rfl, rfl, rfl, by decide +kernel, rfl, by decide +kernel, by decide +kernel⟩
def spWider (K : PySem.W.Frag) (C Z : Addr) : Sp := fun vs H Q _ => ∃ (p y an ar z0 : Addr) (T : Nat) (names : List (List Nat)) (ws : List (List (List Nat))) (xs : List V) (sh : List Nat), vs = [.ref p, .ref y, .ref an, .ref ar, .ref z0] ∧ RlAt H p T ∧ T + 200 < 1000000 ∧ Wsh K C H y names ws ∧
  H ar = some (.lst xs) ∧ ar ≠ p ∧ RowsL H p xs ws ∧ RowsOk names.length sh ws ∧ sh ≠ [] ∧ sh.length ≤ 4 ∧ (∀ n ∈ sh, 1 ≤ n ∧ n ≤ 3) ∧ sh.sum ≤ 12 ∧ 1 ≤ names.length ∧ names.length ≤ 3 ∧ (∀ l ∈ names, nmOk l = true) ∧ names.Nodup ∧ furN ∉ names ∧
  ZmB Z H z0 (dN (fewOf names ws)) (dPrs (fewPr names ws)) ∧ ∀ H', KX p H H' → Q (.bl true) H'
theorem ok_wider {f Pp : Addr} {fd : FuncData} (F : Fun K "_law_wider_right" "_law_wider_right" st_l_wider_right f fd) (T : Blt mg) (S : ShC K C) (U : ZmE K mg Z Pp) (C__law_signs : CSigns P w K mg base)
    (C__law_rows : Cal P w K mg base 3 "_law_rows" st_l_rows ["_law_reel_here", "_law_many", "_law_shape", "_law_signs_here"] (spRows K)) (C_Sheet : CSheet P w K mg base cs C) (M_joined : K7Y.MetX P w K mg base 7 C "joined" ["self", "other"] (spJoined K cs C))
    (C_compared : CalX P w K mg base 5 "compared" st_compared ["sheet", "other"] (spComp K cs C)) (C_zero : CalX P w K mg base 5 "zero" st_zero ["sheet"] (spZero K cs C)) (C_fewest_languages : CalX P w K mg base 8 "fewest_languages" st_fewest_languages ["sheet"] (spFewest K cs C Z)) : FnOk P w K mg base CX0 9 f fd ["_law_reel_here", "_law_sheet", "_law_names_here", "_law_rows_here", "_law_paper"] (spWider K C Z) := by
  have C_zero := calX_to C_zero hZero_eq
  have C_compared := calX_to C_compared hCmp_eq
  have C_fewest_languages := calX_to C_fewest_languages hFew_eq
  have M_joined := metx_to M_joined hJoined_eq
  refine F.ok sc_l_wider_right (fun vs H Q E h => ?_) (fun cdv A outer s H vs Q E hr h => ?_)
  · obtain ⟨p, y, an, ar, z0, T, names, ws, xs, sh, rfl, _⟩ := h
    rfl
  · refine ⟨_, (pss_cons (ps_setLc (i := 5) (own := [("_law_cells", 11)]) (g := (gName 11)) (tt := tYes) rfl sc_l_wider_right.nd rfl rfl (sw_true rfl rfl rfl (by decide +kernel)) (pi_list (pv 3)) (blkOk_by (N := nm_l_wider_right) (sc := defScope st_l_wider_right) (own := [("_law_cells", 11)]) (by decide +kernel)) (fun _ _ _ _ _ => by exact pg_name (i := 11) sc_l_wider_right.nd rfl (Or.inl rfl)) (fun _ _ _ _ _ => pts_nil) (fun _ _ _ _ _ => (pe_callB call_len_str (by rfl) T.n_len (by decide +kernel) (pa_cons (pe_ix (ix_list : IxR _ (rIxL K)) (pv 11) pe_int (fun _ _ => rfl)) pa_nil))))
  (pss_cons (ps_set (i := 6) sc_l_wider_right.nd rfl (Or.inl rfl) (K7Y.pe_mt M_joined (hr.mono (by decide)) px0 (pv 1) (pa_cons (pe_mkX C_Sheet px0 (hr.mono (by decide)) rfl (pa_cons (pe_lst (pa_cons pe_str pa_nil)) (pa_cons (pe_cl C__law_rows (hr.mono (by decide)) rfl (pa_cons (pv 0) (pa_cons pe_int (pa_cons (pv 5) (pa_cons (pe_cl C__law_signs (hr.mono (by decide)) rfl (pa_cons (pv 0) pa_nil)) pa_nil))))) pa_nil))) pa_nil)))
  (pss_cons (ps_asg (pe_clX C_compared px0 (hr.mono (by decide)) rfl (pa_cons (pv 6) (pa_cons (pv 1) pa_nil))) (pg_tup rfl (pgs_cons (pg_name (i := 8) sc_l_wider_right.nd rfl (Or.inl rfl)) (pgs_cons (pg_name (i := 9) sc_l_wider_right.nd rfl (Or.inl rfl)) (pgs_cons (pg_name (i := 10) sc_l_wider_right.nd rfl (Or.inl rfl)) pgs_nil)))))
  (pss_cons (ps_if (PW.pt (pw_or (pt_cmpR op_notN (pv 10) pe_non (nomark _)) (pw_or (pt_cmpR op_ne (pv 8) (pe_ifExp (pt_cmpR op_isN (pv 9) pe_non (nomark _)) pe_str pe_str) (nomark _)) (pw_or1 (pt_cmpR op_ne (pe_cmpR (op_eqD hr.units) (pe_clX C_zero px0 (hr.mono (by decide)) rfl (pa_cons (pv 6) pa_nil)) (pe_clX C_zero px0 (hr.mono (by decide)) rfl (pa_cons (pv 1) pa_nil)) (nomark _)) (pe_cmpR op_eq (pv 8) pe_str (nomark _)) (nomark _)))))) (pss_one (ps_ret pe_bl)) pss_nil)
  (pss_cons (ps_set (i := 7) sc_l_wider_right.nd rfl (Or.inl rfl) (pe_clX C_fewest_languages px0 (hr.mono (by decide)) rfl (pa_cons (pv 6) pa_nil)))
  (pss_cons (ps_if (PW.pt (pw_and (pt_cmpR op_eq (pv 8) pe_str (nomark _)) (pw_and1 (pt_cmpR op_gt (pe_callB call_len_seq (by rfl) T.n_len (by decide +kernel) (pa_cons (pe_fld (pv 7) rfl) pa_nil)) (pe_callB call_len_seq (by rfl) T.n_len (by decide +kernel) (pa_cons (pe_fld (pv 4) rfl) pa_nil)) (nomark _))))) (pss_one (ps_ret pe_bl)) pss_nil)
  (pss_one (ps_ret (pe_or (pe_cmpR op_eq (pv 8) pe_str (nomark _)) (pe_one (pe_cmpR op_in_seq pe_str (pe_fld (pv 7) rfl) rfl))))))))))), ?_⟩
    obtain ⟨p, y, an, ar, z0, T, names, ws, xs, sh, rfl, r0, hT, W0, e0, nap, rL0, ro, sh0, l4, h13, hs12, n1, n3, ok, nd, fur, hz, q⟩ := h
    rw [show L2.start nm_l_wider_right [V.ref p, .ref y, .ref an, .ref ar, .ref z0] = [some (V.ref p), some (.ref y), some (.ref an), some (.ref ar), some (.ref z0), none, none, none, none, none, none, none] from rfl]
    obtain ⟨_, _, _, e0p, _⟩ := id r0
    have s6 : sh.length ≤ 6 := by omega
    have h112 : ∀ n ∈ sh, 1 ≤ n ∧ n ≤ 12 := fun n hn => ⟨(h13 n hn).1, by have := (h13 n hn).2; omega⟩
    -- the shape
    refine ⟨_, rfl, ar, rfl, ⟨_, SqL.of e0⟩, fun D hD => ?_⟩
    refine lc_it walk_list (fun i H' => Same H H' ∧ H' D = some (.lst ((sh.take i).map fun n => V.int (n : Nat)))) ⟨Sm.new hD, upd_same⟩ (fun i H' _ z => SqL.of (z.1 _ _ e0)) ?_ ?_
    · rintro i v H1 H2 hi ⟨p1, p2⟩ ⟨rfl, hv⟩
      have hi : i < xs.length := hi
      have hiw : i < ws.length := by rw [← rL0.1]; exact hi
      have hw := List.getElem?_eq_getElem hiw
      obtain ⟨b, rfl, hb, _⟩ := rL0.2 i v _ hv hw
      have his : i < sh.length := by rw [← ro.1]; exact hiw
      have hs := List.getElem?_eq_getElem his
      have okb := ro.2 i _ _ hs hw
      obtain ⟨l0, t0, el⟩ : ∃ l0 t0, ws[i] = l0 :: t0 := by
        cases h0 : ws[i] with
        | nil =>
          have := okb.1
          rw [h0, List.length_nil] at this
          omega
        | cons a t => exact ⟨a, t, rfl⟩
      have ll := (okb.2 l0 (by rw [el]; exact List.mem_cons_self)).1
      have l3 := (h13 _ (List.getElem_mem his)).2
      rw [el] at hb
      have tl : (Tx l0).length = l0.length := by simp [Tx, Str.length]
      refine ⟨rfl, _, rfl, b, _, (0 : Nat), V.str (Tx l0), rfl, rfl, SqL.of (p1 _ _ hb), atI_nat (j := 0) rfl, Tx l0, rfl, ?_, ?_⟩
      · rw [tl]
        show _ ≤ 2 ^ 24
        omega
      · refine ⟨_, p2, small_lt (by rw [List.length_map, List.length_take]; omega), Sm.put p1 hD, ?_⟩
        rw [upd_same, take_snoc hs, List.map_append, tl, ll]
        rfl
    rintro H1 ⟨p1, p2⟩
    have p2 : H1 D = some (.lst ((sh.take xs.length).map fun n => V.int (n : Nat))) := p2
    rw [show xs.length = sh.length by rw [rL0.1, ro.1], List.take_length] at p2
    have nDp : D ≠ p := fun z => by
      rw [z, e0p] at hD
      cases hD
    have r1 := rl_sm p1 r0
    dsimp only [gName, List.set_cons_succ, List.set_cons_zero]
    have W1 := W0.sm p1
    have e1 := p1 _ _ e0
    have rL1 := rowsL_kp (KX.sm p1) rL0
    have hz1 := zmb_sm p1 hz
    obtain ⟨_, _, _, e1p, _⟩ := id r1
    obtain ⟨dx, u1, u2, pz, hzi, hz2, _⟩ := id hz1
    -- the further sheet
    obtain ⟨dx1, cx1, fs1, f1, f2, f3⟩ := wsh_fld (m := "joined") W1 (by decide)
    refine ⟨_, rfl, dx1, cx1, fs1, f1, f2, f3, ?_⟩
    refine ⟨by show 1 ≤ sizeLine; decide, fun b2 hb2 => ?_⟩
    have s2 : Same H1 (upd H1 b2 (.lst [V.str "further"])) := Sm.new hb2
    have g2 : (upd H1 b2 (.lst [V.str "further"])) b2 = some (.lst [V.str "further"]) := upd_same
    have nb2 : b2 ≠ p := fun z => by
      rw [z, e1p] at hb2
      cases hb2
    generalize (upd H1 b2 (.lst [V.str "further"])) = H2 at s2 g2 ⊢
    have r2 := rl_sm s2 r1
    refine ⟨_, rfl, _, rfl, _, rfl, p, T, rfl, r2, by omega, fun H3 l k3 r3 hl => ?_⟩
    have k13 := (KX.sm s2).trans k3
    refine ⟨p, D, 1, T + 1, sh, l, rfl, r3, by omega, SqL.of (k13 _ _ nDp p2), nDp, by decide, by decide, l4, h13, hl, fun H4 a4 xs4 w4 k4 r4 na4 e4 nap4 rL4 ro4 => ?_⟩
    have k24 := k3.trans k4
    have k14 := k13.trans k4
    have oF : nmOk furN = true := by decide +kernel
    have okF : ShOk [furN] (whole w4) := rowsW_ok ro4 (by decide) sh0 s6 h112 hs12 rfl (fun l hl => by
      rw [List.mem_singleton.mp hl]
      exact oF) (by simp) (by decide)
    have dF : Side names [furN] ws w4 := side_of ro ro4 n1 (by decide) sh0 s6 h112 hs12 rfl rfl (fun l hl => by
      rcases List.mem_append.mp hl with hl | hl
      · exact ok l hl
      · rw [List.mem_singleton.mp hl]
        exact oF) (List.nodup_append.mpr ⟨nd, by simp, fun l hl m hm z => by
      rw [List.mem_singleton.mp hm] at z
      exact fur (z ▸ hl)⟩) (by omega)
    refine make_gd okF (.inl (SqL.of (k24 _ _ nb2 g2))) (.inl (SqL.of e4)) (rows_rws rL4) fun H5 x5 s5 nx5 sh5 => ?_
    have W5 := (wsh_kp r1 k14 W1).sm s5
    refine joined_use W5 ⟨sh5, okF⟩ dF fun H6 z6 s6' W6 => ?_
    dsimp only [gName, List.set_cons_succ, List.set_cons_zero]
    have W6y := W5.sm s6'
    have ne : ∀ r ∈ ws, r ≠ [] := fun r hr => (W0.ok.evenW hr).1
    have hj := cols_join dF.len ne fun i _ => dF.wid i
    have hA : ∀ c ∈ cols ws, c.length = names.length := cols_wide W0.ok
    have hB : ∀ c ∈ cols w4, c.length = 1 := cols_wide okF
    have Wd : Wider (cols ws) (cols (joinW ws w4)) names.length := by
      rw [hj.1]
      exact wider_of hj.2 hA hB
    have hlj : ljR (zeroL (cols (joinW ws w4))) (zeroL (cols ws)) = none := by
      rw [hj.1]
      exact lj_one hj.2 hA
    refine ⟨_, rfl, _, rfl, ?_⟩
    show hCmp K cs C [.ref z6, .ref y] _ _ _
    refine cmp_use W6 W6y (by unfold joinW; rw [List.length_zipWith, dF.len]; omega) (fun i => wid_join dF.len ne i) fun H7 t7 u v s7 nt7 lu lv e7 => ⟨t7, _, rfl, SqT.of e7, rfl, _, _, rfl, _, _, rfl, _, _, rfl, rfl, ?_⟩
    obtain rfl : v = .non := by
      rcases lv with ⟨_, rfl⟩ | ⟨i, j, t, es, _⟩
      · rfl
      · rw [hlj] at es
        cases es
    have s57 := s6'.trans s7
    have W7 := W6.sm s7
    have W7y := W6y.sm s7
    have k17 := k14.trans (KX.sm (s5.trans s57))
    have hA2 : ∀ c ∈ cols (joinW ws w4), c.length = names.length + 1 := fun c hc => by
      have := cols_wide dF.ok c hc
      rw [List.length_append] at this
      exact this
    have n5 : names.length < 5 := by omega
    have nz0 : z0 ≠ p := fun z => by
      rw [z, e1p] at hzi
      cases hzi
    have hzi7 := k17 _ _ nz0 hzi
    have qe : ∀ H', KX p H7 H' → Q (.bl true) H' := fun H' k => q H' ((KX.sm p1).trans (k17.trans k))
    rcases lu with ⟨en, rfl⟩ | ⟨i, j, tt, es, rfl, htt⟩
    · have ew : standS (ljR (zeroL (cols ws)) (zeroL (cols (joinW ws w4)))).isNone (ljR (zeroL (cols (joinW ws w4))) (zeroL (cols ws))).isNone = "alike" := by
        rw [en, hlj]
        rfl
      rw [ew]
      refine ⟨_, rfl, rfl, false, rfl, iteF ?_⟩
      refine ⟨_, rfl, _, rfl, rfl, true, rfl, iteT ?_⟩
      refine ⟨rfl, ?_⟩
      rw [decide_eq_true (rfl : V.str (Str.ofString "alike") = V.str (Str.ofString "alike"))]
      refine ⟨false, rfl, iteF ?_⟩
      refine ⟨_, rfl, zero_use W7 fun H8 g8 s8 t8 => ⟨_, rfl, zero_use (W7y.sm s8) fun H9 g9 s9 t9 => ⟨dInts _, dInts _, dp_ints (tf_sq (tf_sm s9 t8)), dp_ints (tf_sq t9), sh_dInts _, sh_dInts _, ?_⟩⟩⟩
      rw [eqv_dInts, decide_eq_true (Wd.zero.mpr en)]
      refine ⟨_, rfl, rfl, ?_⟩
      rw [decide_eq_true (rfl : V.str (Str.ofString "alike") = V.str (Str.ofString "alike"))]
      refine ⟨rfl, ?_⟩
      rw [decide_eq_true (rfl : V.bl true = V.bl true)]
      refine ⟨false, rfl, iteF ?_⟩
      have s89 := s8.trans s9
      -- the wider sheet's paper
      refine ⟨_, rfl, few_use (W7.sm s89) fun H10 z10 s10 nz10 hz10 => ?_⟩
      dsimp only [gName, List.set_cons_succ, List.set_cons_zero]
      obtain ⟨dx2, v1, v2, pz2, hzi2, hv2, _⟩ := id hz10
      refine ⟨_, rfl, rfl, ?_⟩
      rw [decide_eq_true (rfl : V.str (Str.ofString "alike") = V.str (Str.ofString "alike"))]
      refine ⟨true, rfl, iteT ?_⟩
      obtain ⟨ta, xa, rfl, hta, hla, hxa⟩ := ftn_tup hv2
      obtain ⟨tb, xb, rfl, htb, hlb, _⟩ := ftn_tup hz2
      have s1_10 := (s8.trans s9).trans s10
      have htb10 : TupF H10 tb xb := by
        obtain ⟨ob, hb, rb⟩ := htb
        have ntb : tb ≠ p := fun z => by
          rw [z, e1p] at hb
          cases hb
        exact ⟨ob, s1_10 _ _ (k17 _ _ ntb hb), rb⟩
      refine ⟨_, rfl, z10, Z, dx2, _, _, rfl, hzi2, U.c.p.c, U.c.f3, rfl, ta, xa, rfl, .inr (tf_sq hta), _, rfl, z0, Z, dx, _, _, rfl, s1_10 _ _ hzi7, U.c.p.c, U.c.f3, rfl, tb, xb, rfl, .inr (tf_sq htb10), _, _, rfl, rfl, ?_⟩
      have hle := Wd.few n5 hA hA2 (Wd.alike en)
      have hle : xa.length ≤ xb.length := by
        rw [hla, hlb, List.length_map, List.length_map]
        unfold fewOf
        rw [List.length_map, List.length_map, List.length_append]
        exact hle
      refine ⟨false, congrArg V.bl (decide_eq_false (by omega)), iteF ?_⟩
      refine ⟨_, rfl, rfl, ?_⟩
      rw [decide_eq_true (rfl : V.str (Str.ofString "alike") = V.str (Str.ofString "alike"))]
      exact ⟨true, rfl, iteT (qe _ (KX.sm s1_10))⟩
    · have ew : standS (ljR (zeroL (cols ws)) (zeroL (cols (joinW ws w4)))).isNone (ljR (zeroL (cols (joinW ws w4))) (zeroL (cols ws))).isNone = "finer" := by
        rw [es, hlj]
        rfl
      have nn : ljR (zeroL (cols ws)) (zeroL (cols (joinW ws w4))) ≠ none := by
        rw [es]
        exact fun z => nomatch z
      have naf : ¬ V.str (Str.ofString "finer") = V.str (Str.ofString "alike") := by decide
      rw [ew]
      refine ⟨_, rfl, rfl, false, rfl, iteF ?_⟩
      refine ⟨_, rfl, _, rfl, rfl, false, rfl, iteF ?_⟩
      refine ⟨rfl, ?_⟩
      rw [decide_eq_true (rfl : V.str (Str.ofString "finer") = V.str (Str.ofString "finer"))]
      refine ⟨false, rfl, iteF ?_⟩
      refine ⟨_, rfl, zero_use W7 fun H8 g8 s8 t8 => ⟨_, rfl, zero_use (W7y.sm s8) fun H9 g9 s9 t9 => ⟨dInts _, dInts _, dp_ints (tf_sq (tf_sm s9 t8)), dp_ints (tf_sq t9), sh_dInts _, sh_dInts _, ?_⟩⟩⟩
      rw [eqv_dInts, decide_eq_false (fun z => nn (Wd.zero.mp z))]
      refine ⟨_, rfl, rfl, ?_⟩
      rw [decide_eq_false naf]
      refine ⟨rfl, ?_⟩
      rw [decide_eq_true (rfl : V.bl false = V.bl false)]
      refine ⟨false, rfl, iteF ?_⟩
      have s89 := s8.trans s9
      refine ⟨_, rfl, few_use (W7.sm s89) fun H10 z10 s10 nz10 hz10 => ?_⟩
      dsimp only [gName, List.set_cons_succ, List.set_cons_zero]
      obtain ⟨dx2, v1, v2, pz2, hzi2, hv2, _⟩ := id hz10
      refine ⟨_, rfl, rfl, ?_⟩
      rw [decide_eq_false naf]
      refine ⟨false, rfl, iteF ?_⟩
      have s1_10 := (s8.trans s9).trans s10
      refine ⟨_, rfl, rfl, ?_⟩
      rw [decide_eq_false naf]
      refine ⟨false, rfl, iteF ?_⟩
      obtain ⟨ta, xa, rfl, hta, hla, hxa⟩ := ftn_tup hv2
      have exa : xa = tws (fewOf (names ++ [furN]) (joinW ws w4)) := ftn_tws hla hxa
      refine ⟨_, rfl, z10, Z, dx2, _, _, rfl, hzi2, U.c.p.c, U.c.f3, rfl, ta, xa, rfl, .inr (tf_sq hta), rfl, ?_, ?_⟩
      · rw [exa]
        exact List.all_eq_true.mpr fun v hv => by
          obtain ⟨n, _, rfl⟩ := List.mem_map.mp hv
          rfl
      · obtain ⟨pp, qq, pq, hq, he, hne⟩ := Wd.parted nn
        have hm := Wd.need n5 hA2 pq hq he hne
        have hmem : furN ∈ fewOf (names ++ [furN]) (joinW ws w4) := by
          unfold fewOf
          rw [List.length_append]
          refine List.mem_map.mpr ⟨names.length, hm, ?_⟩
          rw [List.getD_eq_getElem?_getD, List.getElem?_append_right (Nat.le_refl _), Nat.sub_self]
          rfl
        rw [exa, show V.str (Str.ofString "further") = V.str (Tx furN) from rfl, inV_tws, decide_eq_true hmem]
        exact qe _ (KX.sm s1_10)
end
end K6
namespace K6
open PySem PySem.Spec PyProof.Rows L2 K0 K4
theorem pick_at {A : List (List Nat)} {o : List Nat} {p : Nat} (hp : p < A.length) : (A.map fun c => o.map fun i => c.getD i 0)[p]? = some (o.map fun i => (A.getD p []).getD i 0) := by
  rw [List.getElem?_map, List.getD_eq_getElem?_getD, List.getElem?_eq_getElem hp]
  rfl
/-- a lot that tells stains as the whole sheet does -/
theorem zero_tell {A : List (List Nat)} {o : List Nat} (h : leftL A o = []) : zeroL (A.map fun c => o.map fun i => c.getD i 0) = zeroL A := by
  rw [zeroL_A, zeroL_A]
  refine zero_pat (List.length_map _) fun i j x y x' y' h1 h2 h3 h4 => ?_
  have li := (List.getElem?_eq_some_iff.mp h3).1
  have lj := (List.getElem?_eq_some_iff.mp h4).1
  rw [pick_at li] at h1
  rw [pick_at lj] at h2
  have e3 : A.getD i [] = x' := by rw [List.getD_eq_getElem?_getD, h3]; rfl
  have e4 : A.getD j [] = y' := by rw [List.getD_eq_getElem?_getD, h4]; rfl
  rw [e3] at h1
  rw [e4] at h2
  obtain rfl := Option.some.inj h1
  obtain rfl := Option.some.inj h2
  constructor
  · intro e
    have same : ∀ k ∈ o, x'.getD k 0 = y'.getD k 0 := fun k hk => List.map_inj_left.mp e k hk
    have tell := left_nil.mp h
    refine Classical.byContradiction fun ne => ?_
    have no : ∀ p q, p < q → q < A.length → (A.getD p [] = x' ∧ A.getD q [] = y' ∨ A.getD p [] = y' ∧ A.getD q [] = x') → False := fun p q pq hq z => by
      have := tell p q pq hq (by rcases z with ⟨a, b⟩ | ⟨a, b⟩ <;> rw [a, b] <;> first | exact ne | exact fun k => ne k.symm)
      unfold partB at this
      obtain ⟨k, hk, hd⟩ := List.any_eq_true.mp this
      have hd := of_decide_eq_true hd
      rcases z with ⟨a, b⟩ | ⟨a, b⟩ <;> rw [a, b] at hd
      · exact hd (same k hk)
      · exact hd (same k hk).symm
    rcases Nat.lt_trichotomy i j with z | z | z
    · exact no i j z lj (.inl ⟨e3, e4⟩)
    · subst z
      exact ne (e3.symm.trans e4)
    · exact no j i z li (.inr ⟨e4, e3⟩)
  · intro e
    rw [e]
theorem few_nil {cl : List (List Nat)} {m : Nat} (m6 : m < 6) (h : ∀ c ∈ cl, c.length = m) : fewLot cl (lotsB m) = [] ↔ leftL cl [] = [] := by
  constructor
  · intro e
    have := few_tells m6 h
    rwa [e] at this
  · intro e
    have h0 : ∀ m < 6, ([] : List Nat) ∈ lotsB m := by decide +kernel
    have := few_min m6 h (h0 m m6) e
    exact List.eq_nil_of_length_eq_zero (Nat.le_zero.mp this)
theorem left_none {cl : List (List Nat)} : leftL cl [] = [] ↔ ∀ p q, p < q → q < cl.length → cl.getD p [] = cl.getD q [] := by
  rw [left_nil]
  constructor
  · intro h p q pq hq
    exact Classical.byContradiction fun ne => absurd (h p q pq hq ne) (by unfold partB; exact Bool.false_ne_true)
  · intro h p q pq hq ne
    exact absurd (h p q pq hq) ne
theorem few_max {cl : List (List Nat)} {m : Nat} {mx : Int} (m6 : m < 6) (h : ∀ c ∈ cl, c.length = m) (hm : mx ∈ (zeroL cl).map fun (n : Nat) => (n : Int)) (hle : ∀ y ∈ (zeroL cl).map (fun (n : Nat) => (n : Int)), y ≤ mx) : fewLot cl (lotsB m) = [] ↔ mx = 0 := by
  rw [few_nil m6 h, left_none]
  have at0 : ∀ p, p < cl.length → (((zeroL cl).getD p 0 : Nat) : Int) ∈ (zeroL cl).map fun (n : Nat) => (n : Int) := fun p hp => by
    refine List.mem_map.mpr ⟨_, ?_, rfl⟩
    rw [List.getD_eq_getElem?_getD, List.getElem?_eq_getElem (by rw [zeroL_len]; exact hp)]
    exact List.getElem_mem _
  have hu := max_uniq hm hle
  constructor
  · intro al
    refine Classical.byContradiction fun ne => ?_
    have m0 : 0 ≤ mx := by
      obtain ⟨n, _, rfl⟩ := List.mem_map.mp hm
      omega
    obtain ⟨j0, c0, ⟨z0, _⟩, _⟩ := at_uniq (l := cl) (k := 0) (by omega)
    obtain ⟨j1, c1, ⟨z1, _⟩, _⟩ := at_uniq (l := cl) (k := 1) (by omega)
    have g : ∀ {j k : Nat}, ((zeroL cl).map fun (n : Nat) => (n : Int))[j]? = some (k : Int) → j < cl.length ∧ (zeroL cl).getD j 0 = k := fun {j k} z => by
      have hj := (List.getElem?_eq_some_iff.mp z).1
      rw [List.length_map, zeroL_len] at hj
      refine ⟨hj, ?_⟩
      rw [List.getElem?_map] at z
      rw [List.getD_eq_getElem?_getD]
      cases e : (zeroL cl)[j]? with
      | none =>
        rw [e] at z
        cases z
      | some n =>
        rw [e] at z
        have : ((n : Nat) : Int) = ((k : Nat) : Int) := Option.some.inj z
        show n = k
        omega
    obtain ⟨h0, g0⟩ := g (k := 0) z0
    obtain ⟨h1, g1⟩ := g (k := 1) z1
    have same : cl.getD j0 [] = cl.getD j1 [] := by
      rcases Nat.lt_trichotomy j0 j1 with z | z | z
      · exact al _ _ z h1
      · rw [z]
      · exact (al _ _ z h0).symm
    have := (zeroL_same h0 h1).mpr same
    omega
  · rintro rfl p q pq hq
    have a := hle _ (at0 p (by omega))
    have b := hle _ (at0 q hq)
    exact (zeroL_same (by omega) hq).mp (by omega)
end K6
namespace K6
open PySem PySem.Spec PyProof.Rows L2 K0 K4
structure MakS (P : Program) (w : World) (K : PySem.W.Frag) (mg : Str → Option Value) (base : Heap) (k : Nat) (x qual : Str) (st : Stmt) (C : Addr) (ps : List Str) (sp : Sp) : Prop where
  ex : ∃ (f cda cc : Addr) (fd : FuncData), Mk K C f ∧ mg x = some (.ref C) ∧ FunS K "__init__" qual st f cda cc fd ∧ Binds K fd ps [] ∧ FnOk P w K mg base (L2.CX P w) k f fd ps sp
theorem MakS.plain {P : Program} {w : World} {K : PySem.W.Frag} {mg : Str → Option Value} {base : Heap} {k : Nat} {x qual : Str} {st : Stmt} {C : Addr} {ps : List Str} {sp : Sp} (c : MakS P w K mg base k x qual st C ps sp) : MakX P w K mg base k x C ps sp := by
  obtain ⟨f, cda, cc, fd, M, hm, _, hb, G⟩ := c.ex
  exact ⟨⟨f, fd, M, hm, hb, G⟩⟩
def tMkK (C : Addr) (sp : Sp) (gV : List V → List V → List V) (m : Nat) (E : XK) (tk : TA) : TE := fun σ H Q => tk σ H fun zs H2 => zs.length = m ∧ ∀ x dx, H2 x = none → H2 dx = none → dx ≠ x →
  sp (gV [.ref x] zs) (upd (upd H2 dx (.own x)) x (.ins C dx [])) (fun v H3 => v = .non ∧ Q (.ref x) H3) E
theorem pe_mkK {X : Cx} {k : Nat} {x qual : Str} {st : Stmt} {C : Addr} {ps ks : List Str} {sp : Sp} {E : XK} {p pos : Pos} {kws : List Keyword} {tk : TA} {g : List Value → List Value → List Value} {gV : List V → List V → List V} (c : MakS X.prog X.w X.K X.mg X.base k x qual st C ps sp)
    (kb : ∀ {f cda cc fd}, FunS X.K "__init__" qual st f cda cc fd → KBn X.K fd ps 1 ks g gV) (hx : Passes (L2.CX X.prog X.w) X E) (hr : Room (k + 1) X.A) (hg : Gl X x) (hkw : PK X kws tk)
    (hall : (backToKw pos (keywordEach kws X.env)).all (·.1.isSome) = true := by rfl) (hks : (backToKw pos (keywordEach kws X.env)).filterMap (·.1) = ks := by rfl)
    (hdb : (x == ("__debug__" : Str)) = false := by decide) (hpl : ((backTo pos (starEach [] X.env)).any (·.1) || (backToKw pos (keywordEach kws X.env)).any (·.1.isNone)) = false := by rfl) :
    PE X (.Call (.Name x p) [] kws pos) (tMkK C sp gV ks.length E tk) := by
  obtain ⟨f, cda, cc, fd, M, hm, F, _, G⟩ := c.ex
  refine ⟨fun pins s σ H Q I h => ?_⟩
  refine wpAny_Call_Name_kw (ld_glob I hg hm ?_ hdb)
  refine PySem.W.callWith_KW0 (h₀ := X.base) I.ok.mod.kin M.kp hall (thn (hkw.run pos pins s σ H _ I h) fun ws s1 ⟨zs, H1, I1, rz, l2, q1⟩ => ⟨I1.kIn, ?_⟩) hpl
  rw [hks]
  exact run_makeK (n := 0) M G hr (kb F) hx I1 .nil rz rfl l2 q1
def gR {α : Type} : List α → List α → List α
  | [s], [c, d] => [s, d, c]
  | _, _ => []
theorem kbZ {K : PySem.W.Frag} {f cda cc : Addr} {fd : FuncData} (F : FunS K "__init__" "Telling.__init__" st_Telling____init__ f cda cc fd) : KBn K fd ["self", "languages", "pairs"] 1 ["pairs", "languages"] gR gR := by
  obtain ⟨oc, od, kV, doc, pm, an, ct, osl, rfl, lk, hcd⟩ := F.ex
  refine ⟨fun s us ws _ h1 h2 => ?_, fun r rz => ?_⟩
  · match us, ws, h1, h2 with
    | [a], [b, c], _, _ => exact .of_eq rfl
  · cases r with
    | nil => exact .nil
    | cons r1 r2 =>
      cases r2 with
      | nil =>
        cases rz with
        | nil => exact .nil
        | cons z1 z2 =>
          cases z2 with
          | nil => exact .nil
          | cons z3 z4 =>
            cases z4 with
            | nil => exact .cons r1 (.cons z3 (.cons z1 .nil))
            | cons _ _ => exact .nil
      | cons _ _ => exact .nil
end K6
namespace K6
open PySem PySem.Spec PyProof.Rows L2 K0 K4
theorem dN_sh (l : List (List Nat)) (h : ∀ n ∈ l, ∀ s ∈ n, s < 1114112) : PyData.canLay0 (dN l) = true := by
  unfold dN PyData.canLay0
  exact lay_all fun n hn => str_low (h n hn)
theorem dPrs_lay (ps : List (List Nat)) : PyData.canLay0 (dPrs ps) = true := by
  unfold dPrs PyData.canLay0
  refine lay_all fun l _ => ?_
  unfold dInts PyData.canLay0
  exact lay_all fun n _ => rfl
theorem dN_dep (l : List (List Nat)) : (dN l).depth ≤ 4 := by
  unfold dN PyData.depth
  have := depth_all (b := 1) (d := fun n : List Nat => PyData.str (Tx n)) (xs := l) fun n _ => by
    unfold PyData.depth
    omega
  omega
theorem dPrs_dep (ps : List (List Nat)) : (dPrs ps).depth ≤ 4 := by
  unfold dPrs PyData.depth
  have := depth_all (b := 2) (d := dInts) (xs := ps) fun l _ => by
    unfold dInts PyData.depth
    have := depth_all (b := 1) (d := fun n : Nat => PyData.int (n : Nat)) (xs := l) fun n _ => by
      unfold PyData.depth
      omega
    omega
  omega
theorem eqv_dNs (a b : List (List Nat)) : PyData.eqv (dN a) (dN b) = decide (a = b) := by
  unfold dN
  rw [PyData.eqv, eqvAll_mapD fun x y => ?_]
  show decide (Tx x = Tx y) = _
  by_cases z : x = y
  · rw [z, decide_eq_true rfl, decide_eq_true rfl]
  · rw [decide_eq_false z, decide_eq_false fun k => z (tx_inj k)]
theorem eqv_two (a b c d : PyData) : PyData.eqv (.tuple [a, b]) (.tuple [c, d]) = (PyData.eqv a c && PyData.eqv b d) := by
  rw [PyData.eqv, PyData.eqvAll, PyData.eqvAll, PyData.eqvAll, Bool.and_true]
theorem eqv_dPrs (a b : List (List Nat)) : PyData.eqv (dPrs a) (dPrs b) = decide (a = b) := by
  unfold dPrs
  rw [PyData.eqv, eqvAll_mapD eqv_dInts]
theorem sh_tl {l : List (List Nat)} {ps : List (List Nat)} (h : ∀ n ∈ l, ∀ s ∈ n, s < 1114112) : SeqAt.shaped (.tuple [dN l, dPrs ps]) = true := by
  refine shaped_of ?_ ?_
  · unfold PyData.canLay0
    rw [PyData.canLayAll0, PyData.canLayAll0, PyData.canLayAll0, dN_sh l h, dPrs_lay]
    rfl
  · have h1 := dN_dep l
    have h2 := dPrs_dep ps
    unfold PyData.depth
    rw [PyData.depthAll, PyData.depthAll, PyData.depthAll]
    omega
theorem neq_tl {K : PySem.W.Frag} {Z : Addr} {H : Hp} {Q : VK} {x y : Addr} {l : List (List Nat)} {ps : List (List Nat)} (h1 : ZmB Z H x (dN l) (dPrs ps)) (h2 : ZmB Z H y (dN l) (dPrs ps)) (hl : ∀ n ∈ l, ∀ s ∈ n, s < 1114112) (q : Q (.bl false) H) : rEqO Z (spAreEq K Z) true (.ref x) (.ref y) H Q := by
  obtain ⟨dx, u1, u2, p, e, _⟩ := id h1
  obtain ⟨dy, v1, v2, r, g, _⟩ := id h2
  refine ⟨x, y, dx, dy, _, _, rfl, rfl, e, g, x, y, _, _, _, _, rfl, h1, h2, sh_tl hl, sh_tl hl, ?_⟩
  rw [eqv_two, eqv_dNs, eqv_dPrs, decide_eq_true rfl, decide_eq_true rfl]
  exact ⟨true, rfl, q⟩
theorem zmt_use {K : PySem.W.Frag} {Z : Addr} {v1 v2 : V} {d1 d2 : PyData} {H : Hp} {Q : VK} {E : XK} (h1 : FxN K H 2 v1 d1) (h2 : FxN K H 2 v2 d2) {x dx : Addr} (nx : H x = none) (nd : H dx = none) (ne : dx ≠ x) (k : ∀ H', Same H H' → ZmB Z H' x d1 d2 → Q .non H') :
    spZmJ K Z [.ref x, v1, v2] (upd (upd H dx (.own x)) x (.ins Z dx [])) Q E := by
  have s1 : Same H (upd (upd H dx (.own x)) x (.ins Z dx [])) := fun c o e => by
    rw [upd_ne (ne_of_none e nx), upd_ne (ne_of_none e nd)]
    exact e
  exact ⟨x, dx, v1, v2, d1, d2, rfl, upd_same, fx_same s1 h1, fx_same s1 h2, fun H' hz kp => k H' (fun c o e => kp c o (ne_of_none e nx) (s1 _ _ e)) hz⟩
/-- list(x) -/
def rLstOf (K : PySem.W.Frag) : List V → Hp → VK → Prop := fun xs H Q => ∃ p ys, xs = [.ref p] ∧ (SqL K H p ys ∨ SqT K H p ys) ∧ ∀ l, H l = none → Q (.ref l) (upd H l (.lst ys))
theorem call_lstK {X : Cx} : CallR X (.type "list") (rLstOf X.K) := call_list_of
/-- .. and what its == and its truth are -/
structure ZmF (K : PySem.W.Frag) (mg : Str → Option Value) (Z Pp fe fb : Addr) : Prop extends ZmE K mg Z Pp where
  ne : PySem.W.findIn K (.ref Z) "__ne__" = some (some (.builtin "object.__ne__"))
  eq : PySem.W.findIn K (.ref Z) "__eq__" = some (some (.ref fe))
  fn : PySem.W.isFn K (.ref fe) = true
  bo : PySem.W.findIn K (.ref Z) "__bool__" = some (some (.ref fb))
  fb : PySem.W.isFn K (.ref fb) = true
end K6
namespace K6
open PySem PySem.Spec PyProof.Rows L2 K0 K4
section
variable {P : Program} {w : World} {K : PySem.W.Frag} {mg : Str → Option Value} {base : Heap}
variable {cs : Nat → Addr} {C : Addr}
def spOfLangsT (K : PySem.W.Frag) (cs : Nat → Addr) (C : Addr) : Sp := fun vs H Q _ => ∃ x b names css ls, vs = [.ref x, .ref b] ∧ SheetAt K C H x names css ∧ css.length ≤ 100 ∧ names.length ≤ 100 ∧ (∀ r ∈ css, r.length = names.length) ∧ TupF H b (tws ls) ∧ ls ≠ [] ∧ ls.length ≤ 100 ∧ (∀ l ∈ ls, nmOk l = true ∧ l ∈ names) ∧ names.Nodup ∧ ShOk ls (pickL names css ls) ∧
  ∀ H' y, Same H H' → H y = none → SheetAt K C H' y ls (pickL names css ls) → Q (.ref y) H'
theorem ok_of_langsT {f : Addr} {fd : FuncData} (F : Fun K "of_languages" "Sheet.of_languages" st_Sheet__of_languages f fd) (S : ShC K C) (T : Blt mg) (C_need_names : CalX P w K mg base 3 "need_names" st_need_names ["languages"] (spNeedNames K cs))
    (C_need_language : CalX P w K mg base 3 "need_language" st_need_language ["sheet", "language"] (spNeedLang K cs C)) (C_Sheet : CSheet P w K mg base cs C) : FnOk P w K mg base (L2.CX P w) 7 f fd ["self", "languages"] (spOfLangsT K cs C) := by
  have C_need_names := calX_to C_need_names hNeedN_eq
  have C_need_language := calX_to C_need_language hLang_eq
  refine F.okX sc_Sheet__of_languages (fun vs H Q E h => ?_) (fun cdv A outer s H vs Q E hr h => ?_)
  · obtain ⟨x, b, names, css, ls, rfl, _⟩ := h
    rfl
  · refine ⟨_, (pss_cons (ps_expr (pe_clX C_need_names (passes_call (takes_of rfl rfl rfl rfl) fun _ _ _ _ z => z) (hr.mono (by decide)) rfl (pa_cons (pv 1) pa_nil)))
  (pss_cons (ps_for (passes_of rfl) rfl (pi_tup (pv 1)) (pg_name (i := 2) sc_Sheet__of_languages.nd rfl (Or.inl rfl)) (pss_one (ps_expr (pe_clX C_need_language (passes_call (takes_of rfl rfl rfl rfl) fun _ _ _ _ z => z) (hr.mono (by decide)) rfl (pa_cons (pv 0) (pa_cons (pv 2) pa_nil))))))
  (pss_cons (ps_set (i := 3) sc_Sheet__of_languages.nd rfl (Or.inr rfl) (pe_lc (own := [("language", 2)]) (g := (gName 2)) (tt := tYes) rfl sc_Sheet__of_languages.nd (pi_tup (pv 1)) (blkOk_by (N := nm_Sheet__of_languages) (sc := defScope st_Sheet__of_languages) (own := [("language", 2)]) (by decide +kernel)) (fun _ _ _ _ _ => by exact pg_name (i := 2) sc_Sheet__of_languages.nd rfl (Or.inl rfl)) (fun _ _ _ _ _ => pts_nil) (fun _ _ _ _ _ => (show PE _ _ (tT1 (rTidx K) (tFld K (tVar 0) "languages") (tVar 2)) from pe_tindex (show PE _ _ (tFld K (tVar 0) _) from pe_fld (pv 0) rfl) (pv 2)))))
  (pss_one (ps_ret (pe_mkX C_Sheet (passes_call (takes_of rfl rfl rfl rfl) fun _ _ _ _ z => z) (hr.mono (by decide)) rfl (pa_cons (pv 1) (pa_cons (pe_lc (own := [("row", 4)]) (g := (gName 4)) (tt := tYes) rfl sc_Sheet__of_languages.nd (pi_tup (pe_fld (pv 0) rfl)) (blkOk_by (N := nm_Sheet__of_languages) (sc := defScope st_Sheet__of_languages) (own := [("row", 4)]) (by decide +kernel)) (fun _ _ _ _ _ => by exact pg_name (i := 4) sc_Sheet__of_languages.nd rfl (Or.inr rfl)) (fun _ _ _ _ _ => pts_nil) (fun _ _ _ _ _ => (show PE _ _ (tLc (iList K (tVar 3)) (gName 5) tYes (tOp (rIxT K) (tVar 4) (tVar 5)) [5]) from (pe_lc (own := [("index", 5)]) (g := (gName 5)) (tt := tYes) rfl sc_Sheet__of_languages.nd (pi_list (pv 3)) (blkOk_by (N := nm_Sheet__of_languages) (sc := { kind := .function, names := [(".0", .local), ("row", .cell), ("indices", .cell)], isGenerator := false, isCoroutine := false }) (own := [("index", 5)]) (by decide +kernel)) (fun _ _ _ _ _ => by exact pg_name (i := 5) sc_Sheet__of_languages.nd rfl (Or.inl rfl)) (fun _ _ _ _ _ => pts_nil) (fun _ _ _ _ _ => (pe_ix (ix_tup : IxR _ (rIxT K)) (pv 4) (pv 5) (fun _ _ => rfl))))))) pa_nil)))))))), ?_⟩
    obtain ⟨x, b, names, css, ls, rfl, sh, hc, hn, hrl, hS, hne, hl, hm, hnd, hok, q⟩ := h
    refine ⟨_, rfl, nn_good (.inr (tf_sq hS)) hne (fun l h => (hm l h).1) hl fun H1 s1 => ?_⟩
    have sh1 := sheet_kx (y := x) s1 sh
    obtain ⟨dx, tl, tr, tp, tg, xr, ts, gs, hx, hL, hr1, hw, _⟩ := sh1
    have hS1 := tf_sm s1 hS
    have hnl : ∀ l ∈ ls, names[names.idxOf l]? = some l := fun l hl => idx_get (hm l hl).2
    refine ⟨_, rfl, b, rfl, ⟨_, tf_sq hS1⟩, ?_⟩
    refine for_it walk_tup (fun i σ H' => Same H1 H' ∧ ∃ v, σ = [some (.ref x), some (.ref b), v, none, none, none]) ⟨Same.refl H1, none, rfl⟩ (fun i σ H' _ p => sm_t p.1 (tf_sq hS1)) ?_ ?_
    · rintro i y σ H2 H3 hi ⟨p1, v, rfl⟩ ⟨rfl, hy⟩
      obtain ⟨l, hil, rfl⟩ := tws_at hy
      have hml := hm l (List.mem_of_getElem? hil)
      exact ⟨_, rfl, _, rfl, nl_good (sheet_kx (y := x) (s1.trans p1) sh) hml.2 (nm_len hml.1) ⟨p1, _, rfl⟩⟩
    · rintro σ H2 ⟨p1, v, rfl⟩
      have hS2 := tf_sm p1 hS1
      have hS2' := tf_sm p1 hS1
      have hL2 := tf_sm p1 hL
      obtain ⟨o, o1, o2, o3⟩ := hL2
      refine ⟨_, rfl, b, rfl, ⟨_, tf_sq hS2⟩, fun D hD => ?_⟩
      refine lc_it walk_tup (SPv H2 D fun i => (ls.take i).map fun l => V.int (names.idxOf l : Nat)) (spv0 hD rfl) (fun i H3 _ p => sm_t p.1 (tf_sq hS2)) ?_ ?_
      · rintro i y H3 H4 hi p ⟨rfl, hy⟩
        obtain ⟨l, hil, rfl⟩ := tws_at hy
        have hjl := hnl l (List.mem_of_getElem? hil)
        refine ⟨rfl, _, rfl, x, C, dx, _, _, rfl, p.1 _ _ (p1 _ _ hx), S.c, S.f1, rfl, ⟨tl, o, _, rfl, p.1 _ _ o1, o2, o3⟩, _, rfl, tl, names.map Tx, Tx l, names.idxOf l, rfl, rfl, (by rw [← tws_str]; exact sm_t p.1 (tf_sq (tf_sm p1 hL))), (by rw [List.getElem?_map, hjl]; rfl), fun m hm2 z => ?_, spv_put hD p.1 p.2 ?_ ?_⟩
        · rw [List.getElem?_map] at z
          cases hm3 : names[m]? with
          | none =>
            rw [hm3] at z
            cases z
          | some l2 =>
            rw [hm3] at z
            have e : l2 = l := tx_inj (Option.some.inj z)
            rw [e] at hm3
            have := nodup_lt hnd hm3 hjl
            omega
        · rw [List.length_map, List.length_take]
          omega
        · rw [List.take_succ, hil]
          simp
      · rintro H3 ⟨p2, hD3⟩
        have p13 : Same H1 H3 := p1.trans p2
        have hD3 : H3 D = some (.lst ((ls.take (tws ls).length).map fun l => V.int (names.idxOf l : Nat))) := hD3
        rw [tws_len, List.take_length] at hD3
        refine ⟨_, rfl, _, rfl, x, C, dx, _, _, rfl, p13 _ _ hx, S.c, S.f2, rfl, tr, rfl, ⟨_, sm_t p13 hr1⟩, fun D2 hD2 => ?_⟩
        refine lc_it walk_tup (fun i H' => Same H3 H' ∧ ∃ acc, H' D2 = some (.lst acc) ∧ Rws K H' acc (pickL names (css.take i) ls) ∧ ∀ y ∈ acc, y ≠ .ref D2) ⟨Sm.new hD2, [], upd_same, ⟨rfl, fun i x r e => by simp at e⟩, fun y h => absurd h List.not_mem_nil⟩ (fun i H' _ p => sm_t p.1 (sm_t p13 hr1)) ?_ ?_
        · rintro i y H4 H5 hi ⟨p3, acc, hacc, hR, hnD⟩ ⟨rfl, hy⟩
          have hic : i < css.length := by
            rw [← hw.1]
            exact hi
          have hci := List.getElem?_eq_getElem hic
          obtain ⟨a, rfl, ha⟩ := hw.2 i y _ hy hci
          have ha5 := sm_t p3 (sm_t p13 ha)
          refine ⟨rfl, ?_⟩
          refine ⟨_, rfl, D, rfl, ⟨_, SqL.of (p3 _ _ hD3)⟩, fun D4 hD4 => ?_⟩
          refine lc_it walk_list (SPv H5 D4 fun k => (ls.take k).map fun l => cx (css[i].getD (names.idxOf l) none)) (spv0 hD4 rfl) (fun k H' _ p => SqL.of (p.1 _ _ (p3 _ _ hD3))) ?_ ?_
          · rintro k z H6 H7 hk p ⟨rfl, hz⟩
            have hkl : k < ls.length := by
              rw [List.length_map] at hk
              exact hk
            have hlk := List.getElem?_eq_getElem hkl
            have hz : (ls.map fun l => V.int (names.idxOf l : Nat))[k]? = some z := hz
            rw [List.getElem?_map, hlk] at hz
            obtain rfl := Option.some.inj hz
            have hjl := hnl ls[k] (List.getElem_mem hkl)
            have hjn := (List.getElem?_eq_some_iff.mp hjl).1
            have hjr : names.idxOf ls[k] < css[i].length := by
              rw [hrl _ (List.getElem_mem hic)]
              exact hjn
            have hcell : (css[i].map cx)[names.idxOf ls[k]]? = some (cx (css[i].getD (names.idxOf ls[k]) none)) := by
              rw [List.getElem?_map, List.getD_eq_getElem?_getD, List.getElem?_eq_getElem hjr]
              rfl
            refine ⟨rfl, _, rfl, _, rfl, a, _, (names.idxOf ls[k] : Nat), _, rfl, rfl, sm_t p.1 ha5, atI_nat hcell, spv_put hD4 p.1 p.2 ?_ ?_⟩
            · rw [List.length_map, List.length_take]
              omega
            · rw [List.take_succ, hlk, List.map_append]
              rfl
          · rintro H6 ⟨p6, hD6⟩
            have hD6 : H6 D4 = some (.lst ((ls.take (ls.map fun l => V.int (names.idxOf l : Nat)).length).map fun l => cx (css[i].getD (names.idxOf l) none))) := hD6
            rw [List.length_map, List.take_length] at hD6
            have hl2 : acc.length = i := by
              rw [hR.1]
              unfold pickL
              rw [List.length_map, List.length_take]
              omega
            have np : D2 ≠ D4 := fun z => by
              rw [← z, hacc] at hD4
              cases hD4
            refine ⟨_, p6 _ _ hacc, ?_, Sm.put (p3.trans p6) hD2, _, upd_same, ?_⟩
            · rw [hl2]
              exact Nat.lt_of_lt_of_le (show i < 100000 by omega) (by decide)
            · have e : pickL names (css.take (i + 1)) ls = pickL names (css.take i) ls ++ [ls.map fun l => css[i].getD (names.idxOf l) none] := by
                unfold pickL
                rw [List.take_succ, hci, List.map_append]
                rfl
              rw [e]
              have hr4 : SqLT K H6 D4 ((ls.map fun l => css[i].getD (names.idxOf l) none).map cx) := .inl (SqL.of (by
                rw [hD6, List.map_map]
                rfl))
              refine ⟨rws_ne (rws_snoc (rws_same p6 hR) ⟨D4, rfl, hr4⟩) ?_, ?_⟩
              · intro y hy
                rcases List.mem_append.mp hy with hy | hy
                · exact hnD y hy
                · rw [List.mem_singleton.mp hy]
                  exact fun z => np (V.ref.inj z).symm
              · intro y hy
                rcases List.mem_append.mp hy with hy | hy
                · exact hnD y hy
                · rw [List.mem_singleton.mp hy]
                  exact fun z => np (V.ref.inj z).symm
        · rintro H4 ⟨p3, acc, hacc, hR, hnD⟩
          have e : css.take xr.length = css := by
            rw [hw.1, List.take_length]
          rw [e] at hR
          exact make_good hok (.inr (tf_sm (p2.trans p3) hS2)) (.inl (SqL.of hacc)) hR fun H' y s4 ny sh4 => q H' y (((s1.trans p13).trans p3).trans s4) (none_back ((s1.trans p13).trans p3) ny) sh4
end
end K6
namespace K6
open PySem PySem.Spec PyProof.Rows L2 K0 K4
theorem lots_uniq : ∀ m < 6, ∀ d ∈ lotsB m, d.Nodup := by decide +kernel
def pickW (o : List Nat) (ws : List (List (List Nat))) : List (List (List Nat)) := ws.map fun r => o.map fun i => r.getD i []
def pickN (o : List Nat) (nms : List (List Nat)) : List (List Nat) := o.map fun i => nms.getD i []
theorem pickN_idx {nms : List (List Nat)} (nd : nms.Nodup) {i : Nat} (hi : i < nms.length) : nms.idxOf (nms.getD i []) = i := by
  have e : nms.getD i [] = nms[i] := by
    rw [List.getD_eq_getElem?_getD, List.getElem?_eq_getElem hi]
    rfl
  rw [e]
  exact idx_at nd (List.getElem?_eq_getElem hi)
theorem pickN_mem {nms o : _} (ho : ∀ i ∈ o, i < nms.length) : ∀ l ∈ pickN o nms, l ∈ nms := fun l hl => by
  obtain ⟨i, hi, rfl⟩ := List.mem_map.mp hl
  rw [List.getD_eq_getElem?_getD, List.getElem?_eq_getElem (ho i hi)]
  exact List.getElem_mem _
theorem pickN_nodup {nms : List (List Nat)} (nd : nms.Nodup) : ∀ {o : List Nat}, o.Nodup → (∀ i ∈ o, i < nms.length) → (pickN o nms).Nodup
  | [], _, _ => List.nodup_nil
  | i :: o, h, ho => by
    obtain ⟨h1, h2⟩ := List.nodup_cons.mp h
    refine List.nodup_cons.mpr ⟨fun z => ?_, pickN_nodup nd h2 fun k hk => ho k (List.mem_cons_of_mem _ hk)⟩
    obtain ⟨k, hk, e⟩ := List.mem_map.mp z
    have a := pickN_idx nd (ho i List.mem_cons_self)
    have b := pickN_idx nd (ho k (List.mem_cons_of_mem _ hk))
    rw [e, a] at b
    exact h1 (b ▸ hk)
theorem pick_whole {nms o : _} {ws : List (List (List Nat))} (nd : nms.Nodup) (hr : ∀ r ∈ ws, r.length = nms.length) (ho : ∀ i ∈ o, i < nms.length) : pickL nms (whole ws) (pickN o nms) = whole (pickW o ws) := by
  unfold pickL whole pickW pickN
  rw [List.map_map, List.map_map]
  refine List.map_congr_left fun r hr' => ?_
  show ((o.map fun i => nms.getD i []).map fun l => (r.map some).getD (nms.idxOf l) none) = (o.map fun i => r.getD i []).map some
  rw [List.map_map, List.map_map]
  refine List.map_congr_left fun i hi => ?_
  show (r.map some).getD (nms.idxOf (nms.getD i [])) none = some (r.getD i [])
  rw [pickN_idx nd (ho i hi), List.getD_eq_getElem?_getD, List.getD_eq_getElem?_getD, List.getElem?_map, List.getElem?_eq_getElem (by rw [hr r hr']; exact ho i hi)]
  rfl
theorem pick_rows {many : Nat} {sh o : List Nat} {ws : List (List (List Nat))} (h : RowsOk many sh ws) (ho : ∀ i ∈ o, i < many) : RowsOk o.length sh (pickW o ws) := ⟨by unfold pickW; rw [List.length_map]; exact h.1, fun i n r e1 e2 => by
  unfold pickW at e2
  rw [List.getElem?_map] at e2
  cases z : ws[i]? with
  | none =>
    rw [z] at e2
    cases e2
  | some r0 =>
    rw [z] at e2
    obtain rfl := Option.some.inj e2
    have ok := h.2 i n r0 e1 z
    refine ⟨List.length_map _, fun l hl => ?_⟩
    obtain ⟨k, hk, rfl⟩ := List.mem_map.mp hl
    refine ok.2 _ ?_
    rw [List.getD_eq_getElem?_getD, List.getElem?_eq_getElem (by rw [ok.1]; exact ho k hk)]
    exact List.getElem_mem _⟩
theorem pick_to {many : Nat} {sh o : List Nat} {ws : List (List (List Nat))} (h : RowsOk many sh ws) (ho : ∀ i ∈ o, i < many) (hm : 1 ≤ many) (o0 : 1 ≤ o.length) : ∀ i, i ≤ ws.length → colsTo (pickW o ws) i = (colsTo ws i).map fun c => o.map fun k => c.getD k 0
  | 0, _ => rfl
  | i + 1, hi => by
    have ih := pick_to h ho hm o0 i (by omega)
    have e := List.getElem?_eq_getElem (show i < ws.length by omega)
    have e2 := List.getElem?_eq_getElem (show i < sh.length by rw [← h.1]; omega)
    have g : ws.getD i [] = ws[i] := by
      rw [List.getD_eq_getElem?_getD, e]
      rfl
    have ep : (pickW o ws)[i]? = some (o.map fun k => ws[i].getD k []) := by
      unfold pickW
      rw [List.getElem?_map, e]
      rfl
    have gp : (pickW o ws).getD i [] = o.map fun k => ws[i].getD k [] := by
      rw [List.getD_eq_getElem?_getD, ep]
      rfl
    have hw : widW (o.map fun k => ws[i].getD k []) = widW ws[i] := by
      rw [widW_of (h.2 i _ _ e2 e) hm]
      exact widW_of ((pick_rows h ho).2 i _ _ e2 ep) o0
    show colsTo (pickW o ws) i ++ rowCols ((pickW o ws).getD i []) (widW ((pickW o ws).getD i [])) = (colsTo ws i ++ rowCols (ws.getD i []) (widW (ws.getD i []))).map _
    rw [ih, gp, g, hw, List.map_append]
    congr 1
    unfold rowCols
    rw [List.map_map]
    refine List.map_congr_left fun j _ => ?_
    show colAt (o.map fun k => ws[i].getD k []) j = o.map fun k => (colAt ws[i] j).getD k 0
    unfold colAt
    rw [List.map_map]
    refine List.map_congr_left fun k _ => ?_
    show (ws[i].getD k []).getD j 0 = (ws[i].map fun l => l.getD j 0).getD k 0
    simp only [List.getD_eq_getElem?_getD, List.getElem?_map]
    cases ws[i][k]? with
    | none => simp
    | some l => rfl
theorem pick_cols {many : Nat} {sh o : List Nat} {ws : List (List (List Nat))} (h : RowsOk many sh ws) (ho : ∀ i ∈ o, i < many) (hm : 1 ≤ many) (o0 : 1 ≤ o.length) : cols (pickW o ws) = (cols ws).map fun c => o.map fun k => c.getD k 0 := by
  have e : (pickW o ws).length = ws.length := by
    unfold pickW
    exact List.length_map _
  have := pick_to h ho hm o0 ws.length (Nat.le_refl _)
  unfold cols
  rw [e]
  exact this
section
variable {K : PySem.W.Frag} {cs : Nat → Addr} {C : Addr}
@[irreducible] def hOfT (K : PySem.W.Frag) (cs : Nat → Addr) (C : Addr) : Sp := spOfLangsT K cs C
theorem hOfT_eq {K : PySem.W.Frag} {cs : Nat → Addr} {C : Addr} : hOfT K cs C = spOfLangsT K cs C := by
  unfold hOfT
  rfl
theorem ofT_use {H : Hp} {Q : VK} {E : XK} {x b : Addr} {nms : List (List Nat)} {ws : List (List (List Nat))} {sh o : List Nat} (h : Wsh K C H x nms ws) (ro : RowsOk nms.length sh ws) (sh0 : sh ≠ []) (s6 : sh.length ≤ 6) (h112 : ∀ n ∈ sh, 1 ≤ n ∧ n ≤ 12) (hs : sh.sum ≤ 12)
    (m1 : 1 ≤ nms.length) (o1 : 1 ≤ o.length) (o4 : o.length ≤ 4) (ho : ∀ i ∈ o, i < nms.length) (od : o.Nodup) (hb : TupF H b (tws (pickN o nms)))
    (k : ∀ H' y, Same H H' → H y = none → Wsh K C H' y (pickN o nms) (pickW o ws) → Q (.ref y) H') : hOfT K cs C [.ref x, .ref b] H Q E := by
  rw [hOfT_eq]
  have lo : (pickN o nms).length = o.length := List.length_map _
  have hm := pickN_mem (nms := nms) ho
  have ok2 : ShOk (pickN o nms) (whole (pickW o ws)) := rowsW_ok (pick_rows ro ho) o1 sh0 s6 h112 hs lo (fun l hl => h.ok.nm l (hm l hl)) (pickN_nodup h.ok.nd od ho) (by omega)
  have a6 := h.ok.r6
  have a4 := h.ok.n4
  have rl : ∀ r ∈ ws, r.length = nms.length := fun r hr => by
    have := h.ok.rl (r.map some) (List.mem_map.mpr ⟨r, hr, rfl⟩)
    rwa [List.length_map] at this
  have ep := pick_whole h.ok.nd rl ho
  refine ⟨x, b, nms, whole ws, pickN o nms, rfl, h.at_, by omega, by omega, h.ok.rl, hb, fun z => by rw [z] at lo; simp at lo; omega, by omega, fun l hl => ⟨h.ok.nm l (hm l hl), hm l hl⟩, h.ok.nd, by rw [ep]; exact ok2, fun H' y s n sh' => k H' y s n ⟨by rw [← ep]; exact sh', ok2⟩⟩
end
end K6
namespace K6
open PySem PySem.Spec PyProof.Rows L2 K0 K4
/-- tuples of texts -/
def TwT (H : Hp) (ts : List V) (L : List (List (List Nat))) : Prop := ts.length = L.length ∧ ∀ (i : Nat) t l, ts[i]? = some t → L[i]? = some l → ∃ a, t = .ref a ∧ H a = some (.tup (tws l))
theorem twt_sm {H H' : Hp} {ts : List V} {L : List (List (List Nat))} (s : Same H H') (h : TwT H ts L) : TwT H' ts L := ⟨h.1, fun i t d e1 e2 => by
  obtain ⟨a, e, q⟩ := h.2 i t d e1 e2
  exact ⟨a, e, s _ _ q⟩⟩
theorem twt_upd {H : Hp} {D : Addr} {l : List V} {o : HO} {ts : List V} {L : List (List (List Nat))} (hD : H D = some (.lst l)) (h : TwT H ts L) : TwT (upd H D o) ts L := ⟨h.1, fun i t d e1 e2 => by
  obtain ⟨a, e, q⟩ := h.2 i t d e1 e2
  exact ⟨a, e, (upd_ne (ne_of q hD (fun z => nomatch z))).trans q⟩⟩
theorem twt_nil {H : Hp} : TwT H [] [] := ⟨rfl, fun i t d h => by cases h⟩
theorem twt_snoc {H : Hp} {ts : List V} {L : List (List (List Nat))} {c : List (List Nat)} {a : Addr} (h : TwT H ts L) (ha : H a = some (.tup (tws c))) : TwT H (ts ++ [.ref a]) (L ++ [c]) := ⟨by simp [h.1], fun i t d h1 h2 => by
  rcases Nat.lt_or_ge i ts.length with q | q
  · rw [List.getElem?_append_left q] at h1
    rw [List.getElem?_append_left (by rw [← h.1]; exact q)] at h2
    exact h.2 i t d h1 h2
  · rw [List.getElem?_append_right q] at h1
    rw [List.getElem?_append_right (by rw [← h.1]; exact q), ← h.1] at h2
    have e : i - ts.length = 0 := by
      have := (List.getElem?_eq_some_iff.mp h1).1
      simp at this
      omega
    rw [e] at h1 h2
    simp at h1 h2
    subst h1 h2
    exact ⟨a, rfl, ha⟩⟩
def dNL (L : List (List (List Nat))) : PyData := .list (L.map dN)
theorem sh_dNL (L : List (List (List Nat))) (h : ∀ l ∈ L, ∀ n ∈ l, ∀ s ∈ n, s < 1114112) : SeqAt.shaped (dNL L) = true := by
  refine shaped_of ?_ ?_
  · unfold dNL PyData.canLay0
    exact lay_all fun l hl => dN_sh l (h l hl)
  · unfold dNL PyData.depth
    have := depth_all (b := 4) (d := dN) (xs := L) fun l _ => dN_dep l
    omega
theorem dp_nL {K : PySem.W.Frag} {H : Hp} {m : Addr} {ms : List V} {L : List (List (List Nat))} (h : SqL K H m ms) (hd : TwT H ms L) : Dp K H (.ref m) (dNL L) :=
  .lst h (dpa_ix (by rw [List.length_map]; exact hd.1) fun i x e e1 e2 => by
    rw [List.getElem?_map] at e2
    cases z : L[i]? with
    | none =>
      rw [z] at e2
      cases e2
    | some d =>
      rw [z] at e2
      obtain rfl := Option.some.inj e2
      obtain ⟨b, rfl, hb⟩ := hd.2 i x d e1 z
      exact .tup (SqT.of hb) (dpa fun n _ => .str _))
theorem pickN_inj {nms o p : List _} (nd : nms.Nodup) (ho : ∀ i ∈ o, i < nms.length) (hp : ∀ i ∈ p, i < nms.length) (e : pickN o nms = pickN p nms) : o = p := by
  have back : ∀ q : List Nat, (∀ i ∈ q, i < nms.length) → (pickN q nms).map (fun l => nms.idxOf l) = q := fun q hq => by
    unfold pickN
    rw [List.map_map]
    exact (List.map_congr_left fun i hi => pickN_idx nd (hq i hi)).trans (List.map_id _)
  rw [← back o ho, e, back p hp]
theorem few_low {nms : List (List Nat)} {ws : List (List (List Nat))} (ok : ShOk nms (whole ws)) (n6 : nms.length < 6) (hA : ∀ c ∈ cols ws, c.length = nms.length) (h : ∀ n ∈ nms, nmOk n = true) : ∀ n ∈ fewOf nms ws, ∀ s ∈ n, s < 1114112 := by
  intro n hn
  have hm := (lotsB_ok nms.length n6).2 _ (few_mem n6 hA)
  unfold fewOf at hn
  obtain ⟨i, hi, rfl⟩ := List.mem_map.mp hn
  refine nm_low (h _ ?_)
  rw [List.getD_eq_getElem?_getD, List.getElem?_eq_getElem (hm.2 i hi)]
  exact List.getElem_mem _
theorem ftn_int {H : Hp} {n : Nat} {v : V} {i : Int} (h : FTN H n v (.int i)) : v = .int i := by
  have at_ : Atm v (.int i) → v = .int i := fun ha => by
    rcases ha with ⟨j, rfl, e⟩ | ⟨z, rfl, e⟩ <;> cases e
    rfl
  cases n with
  | zero => exact at_ h
  | succ n =>
    rcases h with ha | ⟨t, xs, ds, rfl, ed, _⟩
    · exact at_ ha
    · cases ed
/-- a frozen tuple of frozen tuples of numbers: one of them -/
theorem ftn_pr {H : Hp} {n : Nat} {xs : List V} {L : List (List Nat)} {i : Nat} {x : V} {p : List Nat} (h : ∀ (i : Nat) x e, xs[i]? = some x → (L.map dInts)[i]? = some e → FTN H (n + 1) x e) (hx : xs[i]? = some x) (hp : L[i]? = some p) : ∃ b, x = .ref b ∧ TupF H b (inV' p) := by
  have h1 := h i x (dInts p) hx (by rw [List.getElem?_map, hp]; rfl)
  obtain ⟨t, ys, rfl, ht, hl, hy⟩ := ftn_tup h1
  refine ⟨t, rfl, ?_⟩
  have : ys = inV' p := by
    refine List.ext_getElem? fun k => ?_
    unfold inV'
    rw [List.getElem?_map]
    cases e : p[k]? with
    | none =>
      rw [List.length_map] at hl
      exact List.getElem?_eq_none (by rw [hl]; exact List.getElem?_eq_none_iff.mp e)
    | some a =>
      have hi := (List.getElem?_eq_some_iff.mp e).1
      obtain ⟨y, hy'⟩ : ∃ y, ys[k]? = some y := ⟨_, List.getElem?_eq_getElem (by rw [hl, List.length_map]; exact hi)⟩
      have z := hy k y _ hy' (by rw [List.getElem?_map, e]; rfl)
      rw [hy', ftn_int z]
      rfl
  rw [← this]
  exact ht
section
variable {P : Program} {w : World} {K : PySem.W.Frag} {mg : Str → Option Value} {base : Heap}
variable {cs : Nat → Addr} {C Z : Addr}
theorem call_tupK {X : Cx} : CallR X (.type "tuple") (rTupOf X.K) := call_tuple_of
@[irreducible] def hAmg (K : PySem.W.Frag) : Sp := spAmong K
theorem hAmg_eq {K : PySem.W.Frag} : hAmg K = spAmong K := by
  unfold hAmg
  rfl
@[irreducible] def hIsLst (K : PySem.W.Frag) : Sp := spIsList K
theorem hIsLst_eq {K : PySem.W.Frag} : hIsLst K = spIsList K := by
  unfold hIsLst
  rfl
abbrev st_is_telling : Stmt := top 81
abbrev nm_is_telling : List Str := ["sheet", "value", "columns", "lots", "sets", "at", "ahead", "lot", "index", "pair"]
theorem sc_is_telling : FnScope nm_is_telling ["sheet", "value"] (defScope st_is_telling) := ⟨rfl, rfl, rfl, by decide +kernel, rfl, by decide +kernel, by decide +kernel⟩
theorem ok_is_telling {f Pp : Addr} {fd : FuncData} (F : Fun K "is_telling" "is_telling" st_is_telling f fd) (T : Blt mg) (S : ShC K C) (U : ZmE K mg Z Pp) (C_columns_of : CCo P w K mg base C) (C_lots_below : Cal P w K mg base 2 "lots_below" st_lots_below ["many"] spLotsB)
    (C_is_list : Cal P w K mg base 1 "is_list" st_is_list ["value"] (spIsList K)) (C_pairs_not_parted : Cal P w K mg base 2 "pairs_not_parted" st_pairs_not_parted ["columns", "lot"] (spNotP K))
    (C_is_pair_among : Cal P w K mg base 3 "is_pair_among" st_is_pair_among ["value", "pairs"] (spAmong K)) : FnOk P w K mg base CX0 8 f fd ["sheet", "value"] (spIsTelling K C Z) := by
  have C_lots_below := cal_to' C_lots_below hLotsB_eq
  have C_pairs_not_parted := cal_to' C_pairs_not_parted hNotP_eq
  have C_is_pair_among := cal_to' C_is_pair_among hAmg_eq
  have C_is_list := cal_to' C_is_list hIsLst_eq
  refine F.ok sc_is_telling (fun vs H Q E h => ?_) (fun cdv A outer s H vs Q E hr h => ?_)
  · obtain ⟨y, z, names, ws, rfl, _⟩ := h
    rfl
  · refine ⟨_, (pss_cons (ps_set (i := 2) sc_is_telling.nd rfl (Or.inr rfl) (pe_cl C_columns_of (hr.mono (by decide)) rfl (pa_cons (pv 0) pa_nil)))
  (pss_cons (ps_set (i := 3) sc_is_telling.nd rfl (Or.inl rfl) (pe_cl C_lots_below (hr.mono (by decide)) rfl (pa_cons (pe_callB call_len_seq (by rfl) T.n_len (by decide +kernel) (pa_cons (pe_fld (pv 0) rfl) pa_nil)) pa_nil)))
  (pss_cons (ps_setLc (i := 4) (own := [("lot", 7)]) (g := (gName 7)) (tt := tYes) rfl sc_is_telling.nd rfl rfl (sw_true rfl rfl rfl (by decide +kernel)) (pi_list (pv 3)) (blkOk_by (N := nm_is_telling) (sc := defScope st_is_telling) (own := [("lot", 7)]) (by decide +kernel)) (fun _ _ _ _ _ => by exact pg_name (i := 7) sc_is_telling.nd rfl (Or.inl rfl)) (fun _ _ _ _ _ => pts_nil) (fun _ _ _ _ _ => (pe_callTy (call_tupK : CallR _ (.type "tuple") (rTupOf K)) (by rfl) T.n_tuple (by decide +kernel) (pa_cons (show PE _ _ (tLc (iTup K (tVar 7)) (gName 8) tYes (tOp (rIxT K) (tFld K (tVar 0) "languages") (tVar 8)) [8]) from (pe_lc (own := [("index", 8)]) (g := (gName 8)) (tt := tYes) rfl sc_is_telling.nd (by refine (?_ : PI _ _ _ (iTup K (tVar 7))); exact pi_tup (pv 7)) (blkOk_by (N := nm_is_telling) (sc := { kind := .function, names := [(".0", .local), ("lot", .local), ("tuple", .globalImplicit), ("sheet", .cell)], isGenerator := false, isCoroutine := false }) (own := [("index", 8)]) (by decide +kernel)) (fun _ _ _ _ _ => by exact pg_name (i := 8) sc_is_telling.nd rfl (Or.inl rfl)) (fun _ _ _ _ _ => pts_nil) (fun _ _ _ _ _ => (pe_ix (ix_tup : IxR _ (rIxT K)) (show PE _ _ (tFld K (tVar 0) _) from pe_fld (pv 0) rfl) (pv 8) (fun _ _ => rfl))))) pa_nil))))
  (pss_cons (ps_if (PW.pt (pw_or (pt_cmpR (op_notInD (hu65 hr)) (pe_fld (pv 1) rfl) (pv 4) rfl) (pw_or1 (pt_not (pt_val (pe_cl C_is_list (hr.mono (by decide)) rfl (pa_cons (pe_fld (pv 1) rfl) pa_nil))))))) (pss_one (ps_ret pe_bl)) pss_nil)
  (pss_cons (ps_set (i := 5) sc_is_telling.nd rfl (Or.inl rfl) (pe_bm PySem.F.plainAttrs_list PySem.F.slot_list_index PySem.F.type_list_index (mt_indexD (hu65 hr)) (pv 4) (pa_cons (pe_fld (pv 1) rfl) pa_nil)))
  (pss_cons (ps_if (PW.pt (pw_or (pt_cmpR op_ne (pe_callB call_len_seq (by rfl) T.n_len (by decide +kernel) (pa_cons (pe_fld (pv 1) rfl) pa_nil)) (pv 5) (nomark _)) (pw_or1 (pt_cmpR op_gt (pe_callB call_len_seq (by rfl) T.n_len (by decide +kernel) (pa_cons (pe_cl C_pairs_not_parted (hr.mono (by decide)) rfl (pa_cons (pv 2) (pa_cons (pe_ix ix_list (pv 3) (pv 5) (fun _ _ => rfl)) pa_nil))) pa_nil)) pe_int (nomark _))))) (pss_one (ps_ret pe_bl)) pss_nil)
  (pss_cons (ps_set (i := 6) sc_is_telling.nd rfl (Or.inl rfl) (K5S.pe_zipM (by rfl) T.n_zip (pa_cons (pe_fld (pv 1) rfl) (pa_cons (pv 3) pa_nil))))
  (pss_one (ps_ret (pe_callB (cr_all rfl) (by rfl) T.n_all (by decide +kernel) (pa_cons (pe_lc (own := [("pair", 9), ("lot", 7)]) (g := (gTup K 2 (gCons (gName 9) (gCons (gName 7) gNil)))) (tt := tYes) rfl sc_is_telling.nd (K5S.pi_zipM (pv 6) rfl) (blkOk_by (N := nm_is_telling) (sc := defScope st_is_telling) (own := [("pair", 9), ("lot", 7)]) (by decide +kernel)) (fun _ _ _ _ _ => by exact pg_tup rfl (pgs_cons (pg_name (i := 9) sc_is_telling.nd rfl (Or.inl rfl)) (pgs_cons (pg_name (i := 7) sc_is_telling.nd rfl (Or.inl rfl)) pgs_nil))) (fun _ _ _ _ _ => pts_nil) (fun _ _ _ _ _ => (pe_cl C_is_pair_among (hr.mono (by decide)) rfl (pa_cons (pv 9) (pa_cons (pe_cl C_pairs_not_parted (hr.mono (by decide)) rfl (pa_cons (pv 2) (pa_cons (pv 7) pa_nil))) pa_nil))))) pa_nil))))))))))), ?_⟩
    obtain ⟨y, z, names, ws, rfl, sh, ok, hz, q⟩ := h
    rw [show L2.start nm_is_telling [V.ref y, .ref z] = [some (V.ref y), some (.ref z), none, none, none, none, none, none, none, none] from rfl]
    refine ⟨_, rfl, y, names, ws, rfl, sh, ok, fun H1 p1 t1 s1 np1 hp1 hC1 => ?_⟩
    dsimp only [gName, List.set_cons_succ, List.set_cons_zero]
    have l6 := cols_len6 ok
    have n4 := ok.n4
    have m6 : names.length < 6 := by omega
    obtain ⟨dy, tl, tr, tp, tg, xs, ts, gs, hy, hl, _⟩ := id (sheet_kx (y := y) s1 sh)
    refine ⟨_, rfl, y, C, dy, _, _, rfl, hy, S.c, S.f1, rfl, tl, _, rfl, .inr (tf_sq hl), ?_⟩
    show hLotsB [.int ((tws names).length : Nat)] _ _ _
    rw [hLotsB_eq, tws_len]
    refine ⟨names.length, rfl, m6, fun H3 LL ls s3 nLL hLL dLL => ?_⟩
    dsimp only [gName, List.set_cons_succ, List.set_cons_zero]
    have hcl : ∀ c ∈ cols ws, c.length = names.length := fun c hc => cols_wide ok c hc
    have clow := cols_low ok
    have l12 := cols12 ok
    have lots := lotsB_ok names.length m6
    have fl := few_lt m6 hcl
    have lsn : ls.length = (lotsB names.length).length := dLL.1
    have s13 := s1.trans s3
    have hy3 := s3 _ _ hy
    have hl3 := tf_sm s3 hl
    -- the sets
    refine ⟨_, rfl, LL, rfl, ⟨_, SqL.of hLL⟩, fun D hD => ?_⟩
    refine lc_it walk_list (fun i H' => Same H3 H' ∧ ∃ acc, H' D = some (.lst acc) ∧ TwT H' acc (((lotsB names.length).take i).map fun d => pickN d names)) ⟨Sm.new hD, [], upd_same, twt_nil⟩ (fun i H' _ z => SqL.of (z.1 _ _ hLL)) ?_ ?_
    · rintro i v H4 H5 hi ⟨q1, acc, q2, q3⟩ ⟨rfl, hv⟩
      have hi : i < ls.length := hi
      have hil : i < (lotsB names.length).length := by omega
      have ed := List.getElem?_eq_getElem hil
      have hok := lots.2 _ (List.getElem_mem hil)
      obtain ⟨b, rfl, hb⟩ := dLL.2 i v _ hv ed
      generalize (lotsB names.length)[i] = d at ed hok hb
      have hb5 := q1 _ _ hb
      refine ⟨rfl, ?_⟩
      refine ⟨_, rfl, b, rfl, ⟨_, SqT.of hb5⟩, fun D2 hD2 => ?_⟩
      refine lc_it walk_tup (fun j H' => Same H5 H' ∧ H' D2 = some (.lst (tws ((d.take j).map fun k => names.getD k [])))) ⟨Sm.new hD2, upd_same⟩ (fun j H' _ z => SqT.of (z.1 _ _ hb5)) ?_ ?_
      · rintro j x H7 H8 hj ⟨r1, r2⟩ ⟨rfl, hx⟩
        have hj : j < (inV' d).length := hj
        have hj : j < d.length := by rwa [inV_len] at hj
        have hx : (inV' d)[j]? = some x := hx
        rw [inV_at hj] at hx
        obtain rfl := Option.some.inj hx
        have edj : d.getD j 0 = d[j] := by rw [List.getD_eq_getElem?_getD, List.getElem?_eq_getElem hj]; rfl
        rw [edj]
        have hlt := hok.2 _ (List.getElem_mem hj)
        have en : (tws names)[d[j]]? = some (V.str (Tx (names.getD d[j] []))) := by
          unfold tws
          rw [List.getElem?_map, List.getD_eq_getElem?_getD, List.getElem?_eq_getElem hlt]
          rfl
        have s38 := q1.trans r1
        refine ⟨rfl, _, rfl, y, C, dy, _, _, rfl, s38 _ _ hy3, S.c, S.f1, rfl, _, rfl, tl, _, (d[j] : Nat), _, rfl, rfl, tf_sq (tf_sm s38 hl3), atI_nat en, _, r2, ?_, Sm.put r1 hD2, ?_⟩
        · rw [tws_len, List.length_map, List.length_take]
          exact small_lt (by omega)
        · rw [upd_same, take_snoc (List.getElem?_eq_getElem hj)]
          unfold tws
          rw [List.map_append, List.map_append]
          rfl
      · rintro H7 ⟨r1, r2⟩
        have r2 : H7 D2 = some (.lst (tws ((d.take (inV' d).length).map fun k => names.getD k []))) := r2
        rw [inV_len, List.take_length] at r2
        have r2 : H7 D2 = some (.lst (tws (pickN d names))) := r2
        refine ⟨D2, _, rfl, .inl ⟨SqL.of r2, fun t hT => ?_⟩⟩
        have r3 : Same H7 (upd H7 t (.tup (tws (pickN d names)))) := Sm.new hT
        have e3 : (upd H7 t (.tup (tws (pickN d names)))) t = some (.tup (tws (pickN d names))) := upd_same
        generalize (upd H7 t (.tup (tws (pickN d names)))) = H8 at r3 e3 ⊢
        have s58 := r1.trans r3
        have q2' := s58 _ _ q2
        refine ⟨acc, q2', small_lt (by rw [q3.1, List.length_map, List.length_take]; omega), Sm.put (q1.trans s58) hD, acc ++ [.ref t], upd_same, ?_⟩
        rw [take_snoc ed, List.map_append]
        exact twt_upd q2' (twt_snoc (twt_sm s58 q3) e3)
    rintro H4 ⟨s4, acc, eD, tD⟩
    have tD : TwT H4 acc (((lotsB names.length).take ls.length).map fun d => pickN d names) := tD
    rw [lsn, List.take_length] at tD
    generalize eL : ((lotsB names.length).map fun d => pickN d names) = L at tD
    dsimp only [gName, List.set_cons_succ, List.set_cons_zero]
    have s04 := s13.trans s4
    have hz4 := zmb_sm s04 hz
    obtain ⟨dx, u1, u2, pz, hzi, hf1, hf2, _⟩ := id hz4
    have efew : fewOf names ws = pickN (fewLot (cols ws) (lotsB names.length)) names := rfl
    have flow : ∀ n ∈ fewOf names ws, ∀ s ∈ n, s < 1114112 := few_low ok m6 hcl ok.nm
    have Llow : ∀ l ∈ L, ∀ n ∈ l, ∀ s ∈ n, s < 1114112 := fun l hl n hn => by
      rw [← eL] at hl
      obtain ⟨d, hd, rfl⟩ := List.mem_map.mp hl
      exact nm_low (ok.nm n (pickN_mem (lots.2 d hd).2 n hn))
    have hat : (lotsB names.length)[fewAt (cols ws) (lotsB names.length)]? = some (fewLot (cols ws) (lotsB names.length)) := by
      unfold fewLot
      rw [List.getD_eq_getElem?_getD, List.getElem?_eq_getElem fl]
      rfl
    have hok := lots.2 _ (List.mem_of_getElem? hat)
    have hLat : L[fewAt (cols ws) (lotsB names.length)]? = some (fewOf names ws) := by
      rw [← eL, List.getElem?_map, hat]
      rfl
    have hin : fewOf names ws ∈ L := List.mem_of_getElem? hLat
    have DL := dp_nL (K := K) (SqL.of eD) tD
    have shf := shaped_of (dN_sh _ flow) (by have := dN_dep (fewOf names ws); omega)
    refine ⟨_, rfl, z, Z, dx, _, _, rfl, hzi, U.c.p.c, U.c.f3, rfl, _, rfl, dN (fewOf names ws), L.map dN, ft_dp hf1, DL, shf, sh_dNL L Llow, ?_⟩
    rw [show ((L.map dN).any fun z => PyData.eqv z (dN (fewOf names ws))) = true from List.any_eq_true.mpr ⟨_, List.mem_map.mpr ⟨_, hin, rfl⟩, by rw [eqv_dNs]; exact decide_eq_true rfl⟩]
    refine ⟨false, rfl, iteF ?_⟩
    obtain ⟨tb, xb, rfl, htb, hlb, hxb⟩ := ftn_tup hf2
    rw [List.length_map] at hlb
    have hat' := hLat
    have lfp : (fewPr names ws).length = fewAt (cols ws) (lotsB names.length) := by
      unfold fewPr fewPrs
      rw [List.length_map, List.length_take]
      omega
    refine ⟨_, rfl, z, Z, dx, _, _, rfl, hzi, U.c.p.c, U.c.f4, rfl, ?_⟩
    show hIsLst K [.ref tb] _ _ _
    rw [hIsLst_eq]
    refine ⟨.ref tb, "tuple", rfl, ⟨.fTuple htb.choose_spec.1, by decide⟩, fun H5 s5 => ⟨true, rfl, iteF ?_⟩⟩
    have hzi5 := s5 _ _ hzi
    have eD5 := s5 _ _ eD
    have tD5 := twt_sm s5 tD
    have htb5 := tf_sm s5 htb
    have hf15 := ft_same s5 hf1
    have s35 := s4.trans s5
    have hLL5 := s35 _ _ hLL
    have dLL5 := dst_sm s35 dLL
    have hp5 := (s3.trans s35) _ _ hp1
    have hC5 := cols_sm (s3.trans s35) hC1
    have s05 := s04.trans s5
    have lnd := lots_nodup names.length m6
    have eLm : L = (lotsB names.length).map fun d => pickN d names := eL.symm
    have lotlt : ∀ d ∈ lotsB names.length, ∀ i ∈ d, i < names.length := fun d hd => (lots.2 d hd).2
    generalize ej : fewAt (cols ws) (lotsB names.length) = j at hat hLat lfp fl
    generalize edl : fewLot (cols ws) (lotsB names.length) = o at hat hok efew
    have tells : leftL (cols ws) o = [] := by
      rw [← edl]
      exact few_tells m6 hcl
    -- at
    refine ⟨_, rfl, .inl ⟨rfl, _, SqL.of eD5⟩, _, rfl, z, Z, dx, _, _, rfl, hzi5, U.c.p.c, U.c.f3, rfl, D, u1, dN (fewOf names ws), L.map dN, j, dN (fewOf names ws), rfl, rfl, dp_nL (SqL.of eD5) tD5, ft_dp hf15, sh_dNL L Llow, shf, by rw [List.getElem?_map, hLat]; rfl, by rw [eqv_dNs]; exact decide_eq_true rfl, fun m z' hm e => ?_, ?_⟩
    · rw [List.getElem?_map] at e
      cases e1 : L[m]? with
      | none =>
        rw [e1] at e
        cases e
      | some l =>
        rw [e1] at e
        obtain rfl := Option.some.inj e
        rw [eqv_dNs]
        refine decide_eq_false fun el => ?_
        rw [eLm, List.getElem?_map] at e1
        cases e2 : (lotsB names.length)[m]? with
        | none =>
          rw [e2] at e1
          cases e1
        | some d' =>
          rw [e2] at e1
          have e1 : pickN d' names = l := Option.some.inj e1
          rw [el, efew] at e1
          have := pickN_inj ok.nd (lotlt _ (List.mem_of_getElem? e2)) (lotlt _ (List.mem_of_getElem? hat)) e1
          rw [this] at e2
          have := K8.nd_ixA lnd e2 hat
          omega
    dsimp only [gName, List.set_cons_succ, List.set_cons_zero]
    obtain ⟨b, hbj, hb5⟩ : ∃ b, ls[j]? = some (.ref b) ∧ H5 b = some (.tup (inV' o)) := by
      have e := List.getElem?_eq_getElem (show j < ls.length by omega)
      obtain ⟨b, eb, hb⟩ := dLL5.2 j _ o e hat
      exact ⟨b, by rw [e, eb], hb⟩
    refine ⟨_, rfl, z, Z, dx, _, _, rfl, hzi5, U.c.p.c, U.c.f4, rfl, tb, xb, rfl, .inr (tf_sq htb5), _, rfl, rfl, ?_⟩
    rw [hlb, lfp, decide_eq_true (rfl : V.int ((j : Nat) : Int) = V.int ((j : Nat) : Int))]
    refine ⟨false, rfl, iteF ?_⟩
    refine ⟨_, rfl, _, rfl, _, rfl, LL, ls, (j : Nat), .ref b, rfl, rfl, SqL.of hLL5, atI_nat hbj, ?_⟩
    show hNotP K [.ref p1, .ref b] _ _ _
    rw [hNotP_eq]
    refine ⟨p1, b, t1, cols ws, o, rfl, SqL.of hp5, hC5, SqT.of hb5, by omega, fun c hc => ⟨clow c hc, fun k hk => by rw [hcl c hc]; exact hok.2 k hk⟩, by omega, fun H6 Mi ms s6 nMi hMi dMi => ⟨Mi, ms, rfl, .inl (SqL.of hMi), _, _, rfl, rfl, false, congrArg V.bl (decide_eq_false ?_), iteF ?_⟩⟩
    · have := dMi.1
      rw [show notP (cols ws) o (prNat (cols ws).length (cols ws).length) = [] from tells] at this
      rw [this]
      decide
    have hzi6 := s6 _ _ hzi5
    have htb6 := tf_sm s6 htb5
    have hLL6 := s6 _ _ hLL5
    have dLL6 := dst_sm s6 dLL5
    have hp6 := s6 _ _ hp5
    have hC6 := cols_sm s6 hC5
    have s06 := s05.trans s6
    -- ahead
    refine ⟨_, rfl, z, Z, dx, _, _, rfl, hzi6, U.c.p.c, U.c.f4, rfl, _, rfl, tb, LL, xb, ls, rfl, tf_sq htb6, SqL.of hLL6, fun N la lb hN => ?_⟩
    dsimp only [gName, List.set_cons_succ, List.set_cons_zero]
    refine ⟨_, rfl, N, tb, LL, H6, rfl, rfl, la, lb, fun c hc => ⟨(hN c hc).1, none_back s06 (hN c hc).1, (hN c hc).2⟩, fun D7 hD7 => ?_⟩
    have hle : xb.length ≤ ls.length := by omega
    refine lc_it (K5S.walk_zM hle) (fun i H' => Same H6 H' ∧ H' D7 = some (.lst ((List.replicate i true).map V.bl))) ⟨Sm.new hD7, upd_same⟩ (fun i H' _ p => ⟨tf_sq (tf_sm p.1 htb6), SqL.of (p.1 _ _ hLL6)⟩) ?_ ?_
    · rintro i v G1 G2 hi ⟨q1, q2⟩ ⟨T7, x, l, rfl, hT7, rfl, hx, hl'⟩
      have hij : i < j := by omega
      have hil : i < (lotsB names.length).length := by omega
      have ed := List.getElem?_eq_getElem hil
      have hokd := lots.2 _ (List.getElem_mem hil)
      have hne : leftL (cols ws) (lotsB names.length)[i] ≠ [] := by
        have : i < (lotsB names.length).findIdx fun d => (leftL (cols ws) d).isEmpty := by
          unfold fewAt at ej
          omega
        have := List.not_of_lt_findIdx this
        intro z
        rw [z] at this
        exact absurd this (by decide)
      have hpr : (fewPr names ws)[i]? = some ((leftL (cols ws) (lotsB names.length)[i]).headD []) := by
        unfold fewPr fewPrs
        rw [ej, List.getElem?_map, List.getElem?_take, if_pos hij, ed]
        rfl
      obtain ⟨b1, rfl, hb1⟩ := ftn_pr hxb hx hpr
      obtain ⟨b2, rfl, hb2⟩ := dLL6.2 i l _ hl' ed
      generalize (lotsB names.length)[i] = d at ed hokd hne hpr hb1 hb2
      have g12 : Same G1 (upd G1 T7 (.tup [V.ref b1, .ref b2])) := Sm.new hT7
      have e12 : (upd G1 T7 (.tup [V.ref b1, .ref b2])) T7 = some (.tup [V.ref b1, .ref b2]) := upd_same
      generalize (upd G1 T7 (.tup [V.ref b1, .ref b2])) = G2 at g12 e12 ⊢
      have q62 := q1.trans g12
      refine ⟨T7, _, rfl, SqT.of e12, rfl, _, _, rfl, _, _, rfl, rfl, rfl, ?_⟩
      refine ⟨_, rfl, _, rfl, _, rfl, ?_⟩
      refine ⟨p1, b2, t1, cols ws, d, rfl, SqL.of (q62 _ _ hp6), cols_sm q62 hC6, SqT.of (q62 _ _ hb2), by omega, fun c hc => ⟨clow c hc, fun k hk => by rw [hcl c hc]; exact hokd.2 k hk⟩, by omega, fun G3 M3 ms3 g3 nM3 hM3 dM3 => ?_⟩
      show hAmg K [.ref b1, .ref M3] _ _ _
      rw [hAmg_eq]
      have dM3 : DsT G3 ms3 (leftL (cols ws) d) := dM3
      refine ⟨b1, M3, ms3, (leftL (cols ws) d).headD [], leftL (cols ws) d, rfl, tf_sm (((s5.trans s6).trans q62).trans g3) hb1, SqL.of hM3, dM3, ?_, left_two _ _, fun G4 g4 => ?_⟩
      · cases z : leftL (cols ws) d with
        | nil => exact absurd z hne
        | cons a r => exact List.mem_cons_self
      · have g14 := (g12.trans g3).trans g4
        refine ⟨_, g14 _ _ q2, small_lt (by rw [List.length_map, List.length_replicate]; omega), Sm.put (q1.trans g14) hD7, ?_⟩
        rw [upd_same, List.replicate_succ', List.map_append]
        rfl
    rintro H7 ⟨q1, q2⟩
    have q2 : H7 D7 = some (.lst ((List.replicate xb.length true).map V.bl)) := q2
    refine ⟨D7, List.replicate xb.length true, rfl, SqL.of q2, ?_⟩
    rw [show (List.replicate xb.length true).all id = true by simp]
    exact q H7 (s06.trans q1)
end
end K6
namespace K6
open PySem PySem.Spec PyProof.Rows L2 K0 K4
section
variable {P : Program} {w : World} {K : PySem.W.Frag} {mg : Str → Option Value} {base : Heap}
variable {cs : Nat → Addr} {C Z : Addr}
theorem tail_rows {R : Hp → Addr → Prop} {Cond : Hp → Addr → Prop} {G : Prop} (h : (∀ H1 a, Cond H1 a → R H1 a) → G) (t : ∀ H1 a, Cond H1 a → R H1 a) : G := h t
theorem tail_hp {R : Hp → Prop} {Cond : Hp → Prop} {G : Prop} (h : (∀ H1, Cond H1 → R H1) → G) (t : ∀ H1, Cond H1 → R H1) : G := h t
theorem inV_int (d : List Nat) : inV' d = (d.map fun n => ((n : Nat) : Int)).map V.int := by
  unfold inV'
  rw [List.map_map]
  rfl
/-- lists of their own that say numbers -/
def LNs (H : Hp) (D : Addr) (ts : List V) (L : List (List Nat)) : Prop := ts.length = L.length ∧ ∀ (i : Nat) t c, ts[i]? = some t → L[i]? = some c → ∃ b, t = .ref b ∧ b ≠ D ∧ H b = some (.lst (inV' c))
theorem lns_sm {H H' : Hp} {D : Addr} {ts : List V} {L : List (List Nat)} (s : Same H H') (h : LNs H D ts L) : LNs H' D ts L := ⟨h.1, fun i t c e1 e2 => by
  obtain ⟨b, e, n, hb⟩ := h.2 i t c e1 e2
  exact ⟨b, e, n, s _ _ hb⟩⟩
theorem lns_put {H : Hp} {D : Addr} {o : HO} {ts : List V} {L : List (List Nat)} (h : LNs H D ts L) : LNs (upd H D o) D ts L := ⟨h.1, fun i t c e1 e2 => by
  obtain ⟨b, e, n, hb⟩ := h.2 i t c e1 e2
  exact ⟨b, e, n, (upd_ne n).trans hb⟩⟩
theorem lns_snoc {H : Hp} {D b : Addr} {ts : List V} {L : List (List Nat)} {c : List Nat} (h : LNs H D ts L) (n : b ≠ D) (e : H b = some (.lst (inV' c))) : LNs H D (ts ++ [.ref b]) (L ++ [c]) := ⟨by rw [List.length_append, List.length_append, h.1]; rfl, fun i t d h1 h2 => by
  rcases Nat.lt_or_ge i ts.length with q | q
  · rw [List.getElem?_append_left q] at h1
    rw [List.getElem?_append_left (by rw [← h.1]; exact q)] at h2
    exact h.2 i t d h1 h2
  · have hb := (List.getElem?_eq_some_iff.mp h1).1
    rw [List.length_append] at hb
    have hb : i < ts.length + 1 := hb
    have hi2 : i = ts.length := by omega
    subst hi2
    rw [List.getElem?_append_right (Nat.le_refl _), Nat.sub_self] at h1
    rw [h.1, List.getElem?_append_right (Nat.le_refl _), Nat.sub_self] at h2
    obtain rfl := Option.some.inj h1
    obtain rfl := Option.some.inj h2
    exact ⟨b, rfl, n, e⟩⟩
theorem fx_lns {K : PySem.W.Frag} {H : Hp} {D : Addr} {ts : List V} {L : List (List Nat)} (h : H D = some (.lst ts)) (hd : LNs H D ts L) (hl : L.length ≤ 1000) (h1 : ∀ d ∈ L, d.length ≤ 1000) : FxN K H 2 (.ref D) (dPrs L) :=
  .inr ⟨D, ts, L.map dInts, rfl, rfl, .inl (SqL.of h), by rw [hd.1]; exact hl, by rw [hd.1, List.length_map], fun i x e e1 e2 => by
    rw [List.getElem?_map] at e2
    cases z : L[i]? with
    | none =>
      rw [z] at e2
      cases e2
    | some d =>
      rw [z] at e2
      obtain rfl := Option.some.inj e2
      obtain ⟨b, rfl, _, hb⟩ := hd.2 i x d e1 z
      refine .inr ⟨b, _, d.map fun n => PyData.int (n : Nat), rfl, rfl, .inl (SqL.of hb), by rw [inV_len]; exact h1 d (List.mem_of_getElem? z), by rw [inV_len, List.length_map], fun j y _ e3 e4 => ?_⟩
      unfold inV' at e3
      rw [List.getElem?_map] at e3 e4
      cases z2 : d[j]? with
      | none =>
        rw [z2] at e3
        cases e3
      | some n =>
        rw [z2] at e3 e4
        obtain rfl := Option.some.inj e3
        obtain rfl := Option.some.inj e4
        exact .inl ⟨_, rfl, rfl⟩⟩
/-- rows whose last language says what the first says -/
def clsW (ws : List (List (List Nat))) : List (List (List Nat)) := ws.map fun r => r.dropLast ++ [r.headD []]
theorem cls_ok {many : Nat} {sh : List Nat} {ws : List (List (List Nat))} (m1 : 1 ≤ many) (h1 : ∀ n ∈ sh, 1 ≤ n) (h : RowsOk many sh ws) : RowsOk many sh (clsW ws) := by
  refine ⟨by unfold clsW; rw [List.length_map]; exact h.1, fun i n r e1 e2 => ?_⟩
  unfold clsW at e2
  rw [List.getElem?_map] at e2
  cases z : ws[i]? with
  | none =>
    rw [z] at e2
    cases e2
  | some r0 =>
    rw [z] at e2
    obtain rfl := Option.some.inj e2
    have ok := h.2 i n r0 e1 z
    obtain ⟨l0, t0, rfl⟩ : ∃ l0 t0, r0 = l0 :: t0 := by
      cases r0 with
      | nil =>
        have := ok.1
        rw [List.length_nil] at this
        omega
      | cons a t => exact ⟨a, t, rfl⟩
    refine ⟨?_, fun l hl => ?_⟩
    · have := ok.1
      rw [List.length_cons] at this
      rw [List.length_append, List.length_dropLast, List.length_cons]
      show t0.length + 1 - 1 + 1 = many
      omega
    · rcases List.mem_append.mp hl with hl | hl
      · exact ok.2 l ((List.dropLast_sublist _).subset hl)
      · rw [List.mem_singleton.mp hl]
        exact ok.2 l0 List.mem_cons_self
theorem cut_last {l : List Nat} {r : List (List Nat)} : cutV (tws (l :: r)) none (some (-1)) = tws (l :: r).dropLast := by
  unfold cutV
  show ((tws (l :: r)).drop 0).take ((-1 + (((tws (l :: r)).length : Nat) : Int)).toNat - 0) = _
  rw [List.drop_zero, tws_len]
  unfold tws
  rw [← List.map_take, List.dropLast_eq_take]
  congr 2
  omega
theorem dp_prT {K : PySem.W.Frag} {H : Hp} {m : Addr} {ms : List V} {L : List (List Nat)} (h : H m = some (.tup ms)) (hd : DsT H ms L) : Dp K H (.ref m) (dPrs L) :=
  .tup (SqT.of h) (dpa_ix (by rw [List.length_map]; exact hd.1) fun i x e e1 e2 => by
    rw [List.getElem?_map] at e2
    cases z : L[i]? with
    | none =>
      rw [z] at e2
      cases e2
    | some d =>
      rw [z] at e2
      obtain rfl := Option.some.inj e2
      obtain ⟨b, rfl, hb⟩ := hd.2 i x d e1 z
      exact dp_ints (SqT.of hb))
@[irreducible] def hDue (K : PySem.W.Frag) : Sp := spDue K
theorem hDue_eq {K : PySem.W.Frag} : hDue K = spDue K := by
  unfold hDue
  rfl
@[irreducible] def hShw (K : PySem.W.Frag) (C Z : Addr) : Sp := spShows K C Z
theorem hShw_eq {K : PySem.W.Frag} {C Z : Addr} : hShw K C Z = spShows K C Z := by
  unfold hShw
  rfl
@[irreducible] def hWid (K : PySem.W.Frag) (C Z : Addr) : Sp := spWider K C Z
theorem hWid_eq {K : PySem.W.Frag} {C Z : Addr} : hWid K C Z = spWider K C Z := by
  unfold hWid
  rfl
abbrev st_law : Stmt := top 97
abbrev nm_law : List Str := ["_law_script", "_law_reel_here", "_law_shape", "_law_many", "_law_paper", "_law_made", "_law_names_here", "_law_rows_here", "_law_sheet", "_law_columns_here", "_law_some", "_law_pairs", "_law_turn", "_law_cells", "_law_pair", "_law_at"]
theorem sc_law : FnScope nm_law ["_law_script"] (defScope st_law) := ⟨rfl, rfl, rfl, by decide +kernel, rfl, by decide +kernel, by decide +kernel⟩
def spLaw (K : PySem.W.Frag) : Sp := fun vs H Q _ => ∃ (a : Addr) (ns : List Int), vs = [.ref a] ∧ SqL K H a (ns.map V.int) ∧ ns.length ≤ 63 ∧ ∀ H', Q (.bl true) H'
theorem ok_law {f Pp fe fb : Addr} {fd fde fdb : FuncData} (F : Fun K "law" "law" st_law f fd) (T : Blt mg) (S : ShC K C) (U : ZmF K mg Z Pp fe fb) (G_eq : FnOk P w K mg base CX0 2 fe fde ["self", "other"] (spAreEq K Z)) (B_eq : Binds K fde ["self", "other"] []) (G_bool : FnOk P w K mg base CX0 1 fb fdb ["self"] (spPaperB K)) (B_bool : Binds K fdb ["self"] [])
    (C__law_reel : Cal P w K mg base 1 "_law_reel" st_l_reel ["_law_script"] (spReel K)) (C__law_spin : CSpin P w K mg base) (C__law_names : CNames P w K mg base) (C__law_signs : CSigns P w K mg base)
    (C__law_rows : Cal P w K mg base 3 "_law_rows" st_l_rows ["_law_reel_here", "_law_many", "_law_shape", "_law_signs_here"] (spRows K)) (C__law_columns : Cal P w K mg base 2 "_law_columns" st_l_columns ["_law_rows_here"] (spLColumns K))
    (C__law_due : Cal P w K mg base 2 "_law_due" st_l_due ["_law_columns_here", "_law_many"] (spDue K)) (C_fewest_languages : CalX P w K mg base 8 "fewest_languages" st_fewest_languages ["sheet"] (spFewest K cs C Z))
    (C_zero : CalX P w K mg base 5 "zero" st_zero ["sheet"] (spZero K cs C)) (M_of_languages : K7Y.MetX P w K mg base 7 C "of_languages" ["self", "languages"] (spOfLangsT K cs C)) (C_shows_telling : CalX P w K mg base 9 "shows_telling" st_shows_telling ["sheet", "value"] (spShows K C Z)) (C_Sheet : CSheet P w K mg base cs C) (C_Telling : MakS P w K mg base 6 "Telling" "Telling.__init__" st_Telling____init__ Z ["self", "languages", "pairs"] (spZmJ K Z))
    (C__law_wider_right : Cal P w K mg base 9 "_law_wider_right" st_l_wider_right ["_law_reel_here", "_law_sheet", "_law_names_here", "_law_rows_here", "_law_paper"] (spWider K C Z)) : FnOk P w K mg base CX0 12 f fd ["_law_script"] (spLaw K) := by
  have C_zero := calX_to C_zero hZero_eq
  have C__law_due := cal_to' C__law_due hDue_eq
  have C_shows_telling := calX_to C_shows_telling hShw_eq
  have C__law_wider_right := cal_to' C__law_wider_right hWid_eq
  have C_fewest_languages := calX_to C_fewest_languages hFew_eq
  have M_of_languages := metx_to M_of_languages hOfT_eq
  refine F.ok sc_law (fun vs H Q E h => ?_) (fun cdv A outer s H vs Q E hr h => ?_)
  · obtain ⟨a, ns, rfl, _⟩ := h
    rfl
  · refine ⟨_, (pss_cons (ps_set (i := 1) sc_law.nd rfl (Or.inr rfl) (pe_cl C__law_reel (hr.mono (by decide)) rfl (pa_cons (pv 0) pa_nil)))
  (pss_cons (ps_setLc (i := 2) (own := [("_law_turn", 12)]) (g := (gName 12)) (tt := tYes) rfl sc_law.nd rfl rfl (sw_true rfl rfl rfl (by decide +kernel)) (pi_range1 rfl T.n_range (pa_cons (pe_op op_add pe_int (pe_cl C__law_spin (hr.mono (by decide)) rfl (pa_cons (pv 1) (pa_cons pe_int pa_nil)))) pa_nil)) (blkOk_by (N := nm_law) (sc := defScope st_law) (own := [("_law_turn", 12)]) (by decide +kernel)) (fun _ _ _ _ _ => by exact pg_name (i := 12) sc_law.nd rfl (Or.inl rfl)) (fun _ _ _ _ _ => pts_nil) (fun _ _ _ _ _ => (pe_op op_add pe_int (pe_cl C__law_spin (hr.mono (by decide)) rfl (pa_cons (pv 1) (pa_cons pe_int pa_nil))))))
  (pss_cons (ps_set (i := 3) sc_law.nd rfl (Or.inl rfl) (pe_op op_add pe_int (pe_cl C__law_spin (hr.mono (by decide)) rfl (pa_cons (pv 1) (pa_cons pe_int pa_nil)))))
  (pss_cons (ps_asg (pe_tup (pa_cons (pe_cl C__law_names (hr.mono (by decide)) rfl (pa_cons (pv 1) (pa_cons (pv 3) pa_nil))) (pa_cons (pe_cl C__law_rows (hr.mono (by decide)) rfl (pa_cons (pv 1) (pa_cons (pv 3) (pa_cons (pv 2) (pa_cons (pe_cl C__law_signs (hr.mono (by decide)) rfl (pa_cons (pv 1) pa_nil)) pa_nil))))) pa_nil))) (pg_tup rfl (pgs_cons (pg_name (i := 6) sc_law.nd rfl (Or.inr rfl)) (pgs_cons (pg_name (i := 7) sc_law.nd rfl (Or.inl rfl)) pgs_nil))))
  (pss_cons (ps_if (PW.pt (pw_and (pt_cmpR op_gt (pv 3) pe_int (nomark _)) (pw_and1 (pt_cmpR op_eq (pe_cl C__law_spin (hr.mono (by decide)) rfl (pa_cons (pv 1) (pa_cons pe_int pa_nil))) pe_int (nomark _))))) (pss_one (ps_setLc (i := 7) (own := [("_law_cells", 13)]) (g := (gName 13)) (tt := tYes) rfl sc_law.nd rfl rfl (sw_true rfl rfl rfl (by decide +kernel)) (pi_list (pv 7)) (blkOk_by (N := nm_law) (sc := defScope st_law) (own := [("_law_cells", 13)]) (by decide +kernel)) (fun _ _ _ _ _ => by exact pg_name (i := 13) sc_law.nd rfl (Or.inl rfl)) (fun _ _ _ _ _ => pts_nil) (fun _ _ _ _ _ => (pe_op op_cat (pe_slice (sl_list : SlR _ (rSlL K)) (pv 13) po_none (po_some (pe_un un_neg pe_int))) (show PE _ _ (tLst (tCons (tOp (rIxL K) (tVar 13) (tC (.int 0))) tNil)) from pe_lst (pa_cons (pe_ix (ix_list : IxR _ (rIxL K)) (pv 13) pe_int (fun _ _ => rfl)) pa_nil)))))) pss_nil)
  (pss_cons (ps_par (i := 8) (j := 9) rfl sc_law.nd rfl rfl (by decide) rfl rfl (pa_cons (pe_mkX C_Sheet px0 (hr.mono (by decide)) rfl (pa_cons (pv 6) (pa_cons (pv 7) pa_nil))) (pa_cons (pe_cl C__law_columns (hr.mono (by decide)) rfl (pa_cons (pv 7) pa_nil)) pa_nil)) rfl)
  (pss_cons (ps_asg (pe_cl C__law_due (hr.mono (by decide)) rfl (pa_cons (pv 9) (pa_cons (pv 3) pa_nil))) (pg_tup rfl (pgs_cons (pg_name (i := 10) sc_law.nd rfl (Or.inl rfl)) (pgs_cons (pg_name (i := 11) sc_law.nd rfl (Or.inl rfl)) pgs_nil))))
  (pss_cons (ps_set (i := 4) sc_law.nd rfl (Or.inl rfl) (pe_clX C_fewest_languages px0 (hr.mono (by decide)) rfl (pa_cons (pv 8) pa_nil)))
  (pss_cons (ps_if (PW.pt (pw_or (pt_not (pt_val (pe_callB call_isi (by rfl) T.n_isinstance (by decide +kernel) (pa_cons (pv 4) (pa_cons (pe_glob (v := .ref _) rfl (U.g_Telling) rfl) pa_nil))))) (pw_or (pt_not (pt_truthR (pv 4) (tru_own G_bool U.bo U.fb B_bool pass0 (hr.mono (by decide))) (fun _ => rfl))) (pw_or (pt_cmpR op_ne (pe_fld (pv 4) rfl) pe_str (nomark _)) (pw_or1 (pt_cmpR (op_neD hr.units) (pe_fld (pv 4) rfl) (pe_tup (pa_cons (pe_fld (pv 4) rfl) (pa_cons (pe_fld (pv 4) rfl) pa_nil))) (nomark _))))))) (pss_one (ps_ret pe_bl)) pss_nil)
  (pss_cons (ps_if (PW.pt (pw_or (pt_cmpR (op_neD hr.units) (pe_fld (pv 4) rfl) (pe_callTy call_tuple_of (by rfl) T.n_tuple (by decide +kernel) (pa_cons (pe_lc (own := [("_law_at", 15)]) (g := (gName 15)) (tt := tYes) rfl sc_law.nd (pi_tup (pv 10)) (blkOk_by (N := nm_law) (sc := defScope st_law) (own := [("_law_at", 15)]) (by decide +kernel)) (fun _ _ _ _ _ => by exact pg_name (i := 15) sc_law.nd rfl (Or.inl rfl)) (fun _ _ _ _ _ => pts_nil) (fun _ _ _ _ _ => (pe_ix (ix_list : IxR _ (rIxL K)) (pv 6) (pv 15) (fun _ _ => rfl)))) pa_nil)) (nomark _)) (pw_or (pt_cmpR (op_neD hr.units) (pe_fld (pv 4) rfl) (pv 11) (nomark _)) (pw_or1 (pt_cmpR (op_neO G_eq U.ne U.eq U.fn U.nm.mro B_eq pass0 (hr.mono (by decide))) (pe_clN C_fewest_languages (fun F => kb1 F fun _ _ _ _ _ _ _ => rfl) px0 (hr.mono (by decide)) rfl (pk_cons (pv 8) pk_nil)) (pv 4) (nomark _)))))) (pss_one (ps_ret pe_bl)) pss_nil)
  (pss_cons (ps_if (PW.pt (pw_or (PW.pt (pw_and (pt_cmpR (op_neD hr.units) (pv 10) (pe_tup pa_nil) (nomark _)) (pw_and1 (pt_cmpR (op_neD hr.units) (pe_clX C_zero px0 (hr.mono (by decide)) rfl (pa_cons (K7Y.pe_mt M_of_languages (hr.mono (by decide)) px0 (pv 8) (pa_cons (pe_fld (pv 4) rfl) pa_nil)) pa_nil)) (pe_clX C_zero px0 (hr.mono (by decide)) rfl (pa_cons (pv 8) pa_nil)) (nomark _))))) (pw_or1 (pt_cmpR op_ne (pe_cmpR (op_eqD hr.units) (pv 10) (pe_tup pa_nil) (nomark _)) (pe_cmpR op_eq (pe_callB (K7Y.cr_maxT rfl (hu_of hr)) (by rfl) T.n_max (by decide +kernel) (pa_cons (pe_clX C_zero px0 (hr.mono (by decide)) rfl (pa_cons (pv 8) pa_nil)) pa_nil)) pe_int (nomark _)) (nomark _))))) (pss_one (ps_ret pe_bl)) pss_nil)
  (pss_cons (ps_set (i := 5) sc_law.nd rfl (Or.inl rfl) (pe_mkK C_Telling (fun F => kbZ F) px0 (hr.mono (by decide)) rfl (pk_cons (pe_lc (own := [("_law_pair", 14)]) (g := (gName 14)) (tt := tYes) rfl sc_law.nd (pi_tup (pv 11)) (blkOk_by (N := nm_law) (sc := defScope st_law) (own := [("_law_pair", 14)]) (by decide +kernel)) (fun _ _ _ _ _ => by exact pg_name (i := 14) sc_law.nd rfl (Or.inl rfl)) (fun _ _ _ _ _ => pts_nil) (fun _ _ _ _ _ => (pe_callTy (call_lstK : CallR _ (.type "list") (rLstOf K)) (by rfl) T.n_list (by decide +kernel) (pa_cons (pv 14) pa_nil)))) (pk_cons (pe_callTy call_list_of (by rfl) T.n_list (by decide +kernel) (pa_cons (pe_fld (pv 4) rfl) pa_nil)) pk_nil))))
  (pss_cons (ps_if (PW.pt (pw_or (pt_cmpR op_isnot_bl (pe_clX C_shows_telling px0 (hr.mono (by decide)) rfl (pa_cons (pv 8) (pa_cons (pv 4) pa_nil))) pe_bl (nomark _)) (pw_or (pt_cmpR op_isnot_bl (pe_clN C_shows_telling (fun F => kb2r F fun _ _ _ _ _ _ _ _ => rfl) px0 (hr.mono (by decide)) rfl (pk_cons (pv 5) (pk_cons (pv 8) pk_nil))) pe_bl (nomark _)) (pw_or1 (pt_cmpR (op_neO G_eq U.ne U.eq U.fn U.nm.mro B_eq pass0 (hr.mono (by decide))) (pv 5) (pv 4) (nomark _)))))) (pss_one (ps_ret pe_bl)) pss_nil)
  (pss_one (ps_ret (pe_or (pe_cmpR op_eq (pe_callB call_len_seq (by rfl) T.n_len (by decide +kernel) (pa_cons (pv 6) pa_nil)) pe_int (nomark _)) (pe_one (pe_cl C__law_wider_right (hr.mono (by decide)) rfl (pa_cons (pv 1) (pa_cons (pv 8) (pa_cons (pv 6) (pa_cons (pv 7) (pa_cons (pv 4) pa_nil))))))))))))))))))))))), ?_⟩
    obtain ⟨a, ns, rfl, hS, h63, q⟩ := h
    rw [show L2.start nm_law [V.ref a] = [some (V.ref a), none, none, none, none, none, none, none, none, none, none, none, none, none, none, none] from rfl]
    -- the reel
    refine ⟨_, rfl, a, ns, rfl, hS, h63, fun H1 p s1 r1 np => ?_⟩
    dsimp only [gName, List.set_cons_succ, List.set_cons_zero]
    -- the shape
    refine ⟨_, rfl, p, 4, 0, rfl, r1, by decide, by decide, by decide, fun H2 b k2 r2 b0 b4 => ⟨1, b, rfl, rfl, 1 + b, rfl, by omega, by omega, fun D hD => ?_⟩⟩
    obtain ⟨c, rfl⟩ := Int.eq_ofNat_of_zero_le b0
    have nDp : D ≠ p := fun z => by
      obtain ⟨w', t', m', e', _⟩ := id r2
      rw [z, e'] at hD
      cases hD
    have sD := Sm.new (o := .lst []) hD
    refine lc_it walk_range (fun m H' => RlAt H' p (1 + m) ∧ ∃ sh : List Nat, H' D = some (.lst (inV' sh)) ∧ sh.length = m ∧ ∀ n ∈ sh, 1 ≤ n ∧ n ≤ 3) ⟨rl_sm sD r2, [], upd_same, rfl, fun n h => absurd h List.not_mem_nil⟩ (fun _ _ _ _ => trivial) ?_ ?_
    · rintro m y H3 H4 hm ⟨q1, sh, q2, q3, q4⟩ ⟨rfl, rfl⟩
      have hm4 : m < (1 + ((c : Nat) : Int)).toNat := hm
      refine ⟨rfl, _, rfl, p, 3, 1 + m, rfl, q1, by omega, by decide, by decide, fun H5 b5 k5 r5 b0' b3 => ⟨1, b5, rfl, rfl, _, k5 _ _ nDp q2, ?_, rl_kp nDp.symm KX.put (rl_mono r5 (by omega)), sh ++ [(1 + b5).toNat], ?_, by rw [List.length_append, q3]; rfl, fun n hn => ?_⟩⟩
      · exact small_lt (by unfold inV'; rw [List.length_map, q3]; omega)
      · rw [upd_same, inV_app]
        show _ = some (HO.lst (inV' sh ++ [V.int ((1 + b5).toNat : Nat)]))
        rw [Int.toNat_of_nonneg (by omega)]
      · rcases List.mem_append.mp hn with hn | hn
        · exact q4 n hn
        · rw [List.mem_singleton.mp hn]
          omega
    rintro H3 ⟨r3, sh, e3, l3, h13⟩
    have r3 : RlAt H3 p 10 := rl_mono r3 (by omega)
    have l4 : sh.length ≤ 4 := by omega
    have l1 : 1 ≤ sh.length := by omega
    clear l3 sD hD k2 r2 r1 s1 hS h63
    dsimp only [gName, List.set_cons_succ, List.set_cons_zero]
    -- how many languages
    refine ⟨_, rfl, p, 4, 10, rfl, r3, by decide, by decide, by decide, fun H4 b4' k4 r4 b40 b44 => ⟨1, b4', rfl, rfl, ?_⟩⟩
    obtain ⟨c4, rfl⟩ := Int.eq_ofNat_of_zero_le b40
    obtain ⟨_, _, _, e3p, _⟩ := id r3
    dsimp only [gName, List.set_cons_succ, List.set_cons_zero]
    rw [show (1 : Int) + ((c4 : Nat) : Int) = ((1 + c4 : Nat) : Int) by omega]
    generalize em : 1 + c4 = many
    have m1 : 1 ≤ many := by omega
    have m4 : many ≤ 4 := by omega
    -- names, rows
    refine ⟨_, rfl, _, rfl, p, 11, many, rfl, m4, r4, by decide, fun H5 an nms k5 r5 na5 e5 nl5 nd5 ok5 gap5 fur5 => ?_⟩
    obtain ⟨_, _, _, e4p, _⟩ := id r4
    have sh5 := (k4.trans k5) _ _ nDp e3
    have nap : an ≠ p := fun z => by
      rw [z] at na5
      rw [na5] at e4p
      cases e4p
    refine ⟨_, rfl, _, rfl, _, rfl, _, rfl, p, 13, rfl, r5, by decide, fun H6 l6 k6 r6 hl6 => ?_⟩
    refine ⟨p, D, many, 14, sh, l6, rfl, r6, by decide, SqL.of (k6 _ _ nDp sh5), nDp, m1, m4, l4, h13, hl6, fun H7 a7 xs ws k7 r7 na7 e7 nap7 rL7 ro7 => ?_⟩
    refine ⟨by show 2 ≤ sizeLine; decide, fun t2 ht2 => ?_⟩
    obtain ⟨_, _, _, e5p, _⟩ := id r5
    obtain ⟨_, _, _, e6p, _⟩ := id r6
    have e7n := (k6.trans k7) _ _ nap e5
    have s8 : Same H7 (upd H7 t2 (.tup [V.ref an, V.ref a7])) := Sm.new ht2
    have g8 : (upd H7 t2 (.tup [V.ref an, V.ref a7])) t2 = some (.tup [V.ref an, V.ref a7]) := upd_same
    generalize (upd H7 t2 (.tup [V.ref an, V.ref a7])) = H8 at s8 g8 ⊢
    have r8 := rl_sm s8 r7
    have e8n := s8 _ _ e7n
    have e8 := s8 _ _ e7
    have rL8 := rowsL_kp (KX.sm s8) rL7
    refine ⟨t2, _, rfl, SqT.of g8, rfl, _, _, rfl, _, _, rfl, rfl, ?_⟩
    clear k4 k5 k6 k7 s8 g8 ht2 e7 e7n rL7 r7 r6 r5 r4 r3 e3 sh5 na5 e5 na7 e3p e4p e5p e6p
    dsimp only [gName, List.set_cons_succ, List.set_cons_zero]
    apply tail_rows (Cond := fun H9 a9 => ∃ xs ws, RlAt H9 p 120 ∧ H9 an = some (.lst (tws nms)) ∧ H9 a9 = some (.lst xs) ∧ a9 ≠ p ∧ RowsL H9 p xs ws ∧ RowsOk many sh ws)
    · intro tail
      by_cases hm : 1 < many
      · refine ⟨_, rfl, _, _, rfl, rfl, true, congrArg V.bl (decide_eq_true (by omega)), iteT ?_⟩
        refine ⟨_, rfl, p, 4, 114, rfl, r8, by decide, by decide, by decide, fun H9 b9 k9 r9 b90 b94 => ?_⟩
        have e8p := r8
        obtain ⟨_, _, _, e8p, _⟩ := e8p
        have e9n := k9 _ _ nap e8n
        have e9 := k9 _ _ nap7 e8
        have rL9 := rowsL_kp k9 rL8
        by_cases h0 : b9 = 0
        · refine ⟨rfl, true, congrArg V.bl (decide_eq_true (by rw [h0])), iteT ?_⟩
          refine ⟨_, rfl, a7, rfl, ⟨_, SqL.of e9⟩, fun D9 hD9 => ?_⟩
          refine lc_it walk_list (fun i H' => Same H9 H' ∧ ∃ ys, H' D9 = some (.lst ys) ∧ (∀ x ∈ ys, x ≠ .ref D9) ∧ RowsL H' p ys ((clsW ws).take i)) ⟨Sm.new hD9, [], upd_same, fun x h => absurd h List.not_mem_nil, by rw [List.take_zero]; exact ⟨rfl, fun i x r h => by cases h⟩⟩ (fun i H' _ z => SqL.of (z.1 _ _ e9)) ?_ ?_
          · rintro i z H' H'' hi ⟨p1, ys, p2, p3, p4⟩ ⟨rfl, hz⟩
            have hiw : i < ws.length := by
              have : i < xs.length := hi
              rw [← rL8.1]
              exact this
            have hw := List.getElem?_eq_getElem hiw
            obtain ⟨bb, rfl, hbb, _⟩ := rL9.2 i z _ hz hw
            have okb := ro7.2 i _ _ (List.getElem?_eq_getElem (show i < sh.length by rw [← ro7.1]; exact hiw)) hw
            obtain ⟨l0, t0, e0⟩ : ∃ l0 t0, ws[i] = l0 :: t0 := by
              cases h0 : ws[i] with
              | nil =>
                have := okb.1
                rw [h0, List.length_nil] at this
                omega
              | cons a t => exact ⟨a, t, rfl⟩
            have lb := okb.1
            rw [e0] at hbb lb
            have hb' := p1 _ _ hbb
            refine ⟨rfl, _, rfl, _, rfl, _, rfl, bb, _, rfl, SqL.of hb', fun q1 hq1 => ?_⟩
            rw [show cutV (tws (l0 :: t0)) none (some (-1)) = tws (l0 :: t0).dropLast from cut_last]
            have sq1 : Same H'' (upd H'' q1 (.lst (tws (l0 :: t0).dropLast))) := Sm.new hq1
            have gq1 : (upd H'' q1 (.lst (tws (l0 :: t0).dropLast))) q1 = some (.lst (tws (l0 :: t0).dropLast)) := upd_same
            generalize (upd H'' q1 (.lst (tws (l0 :: t0).dropLast))) = G1 at sq1 gq1 ⊢
            refine ⟨_, rfl, bb, _, (0 : Nat), V.str (Tx l0), rfl, rfl, SqL.of (sq1 _ _ hb'), atI_nat (j := 0) rfl, by show 1 ≤ sizeLine; decide, fun q2 hq2 => ?_⟩
            have sq2 : Same G1 (upd G1 q2 (.lst [V.str (Tx l0)])) := Sm.new hq2
            have gq2 : (upd G1 q2 (.lst [V.str (Tx l0)])) q2 = some (.lst [V.str (Tx l0)]) := upd_same
            generalize (upd G1 q2 (.lst [V.str (Tx l0)])) = G2 at sq2 gq2 ⊢
            refine ⟨q1, q2, _, _, rfl, rfl, sq2 _ _ gq1, gq2, ?_, fun q3 hq3 => ?_⟩
            · rw [tws_len, List.length_dropLast, lb]
              show many - 1 + 1 ≤ sizeLine
              exact Nat.le_trans (show _ ≤ 8 by omega) (by decide)
            have s12 := sq1.trans sq2
            have hD2 := s12 _ _ p2
            have nDq : D9 ≠ q3 := fun z => by
              rw [z, hq3] at hD2
              cases hD2
            have eq3 : tws (l0 :: t0).dropLast ++ [V.str (Tx l0)] = tws ((l0 :: t0).dropLast ++ [l0]) := by
              unfold tws
              rw [List.map_append]
              rfl
            rw [eq3]
            refine ⟨ys, (upd_ne nDq).trans hD2, small_lt ?_, Sm.put ((p1.trans s12).trans (Sm.new hq3)) hD9, ys ++ [.ref q3], upd_same, fun x hx => ?_, ?_⟩
            · have hw7 := ro7.1
              rw [p4.1, List.length_take]
              omega
            · rcases List.mem_append.mp hx with hx | hx
              · exact p3 x hx
              · rw [List.mem_singleton.mp hx]
                exact fun z => nDq (V.ref.inj z).symm
            · have et : (clsW ws).take (i + 1) = (clsW ws).take i ++ [(l0 :: t0).dropLast ++ [l0]] := by
                rw [List.take_succ]
                congr 1
                unfold clsW
                rw [List.getElem?_map, hw, e0]
                rfl
              rw [et]
              refine rowsL_snoc (rowsL_new p3 (rowsL_kp (KX.sm (s12.trans (Sm.new hq3))) p4)) ?_ fun z => ?_
              · rw [upd_ne nDq.symm, upd_same]
              · obtain ⟨_, _, _, e9p, _⟩ := id r9
                have := (p1.trans s12) _ _ e9p
                rw [← z, hq3] at this
                cases this
          · rintro H10 ⟨p10, ys, hD10, _, rL10⟩
            have rL10 : RowsL H10 p ys ((clsW ws).take xs.length) := rL10
            rw [List.take_of_length_le (by unfold clsW; rw [List.length_map, ← rL8.1]; exact Nat.le_refl _)] at rL10
            dsimp only [gName, List.set_cons_succ, List.set_cons_zero]
            have nD9 : D9 ≠ p := fun z => by
              obtain ⟨_, _, _, e9p, _⟩ := id r9
              rw [z, e9p] at hD9
              cases hD9
            exact tail H10 D9 ⟨ys, clsW ws, rl_mono (rl_sm p10 r9) (by decide), p10 _ _ e9n, hD10, nD9, rL10, cls_ok m1 (fun n hn => (h13 n hn).1) ro7⟩
        · refine ⟨rfl, false, congrArg V.bl (decide_eq_false (fun z => h0 (V.int.inj z))), iteF ?_⟩
          exact tail H9 a7 ⟨xs, ws, rl_mono r9 (by decide), e9n, e9, nap7, rL9, ro7⟩
      · refine ⟨_, rfl, _, _, rfl, rfl, false, congrArg V.bl (decide_eq_false (by omega)), iteF ?_⟩
        refine iteF ?_
        exact tail H8 a7 ⟨xs, ws, rl_mono r8 (by decide), e8n, e8, nap7, rL8, ro7⟩
    · rintro H9 a9 ⟨xs, ws, r9, e9n, e9, nap9, rL9, ro9⟩
      have sh0 : sh ≠ [] := fun z => by rw [z] at l1; simp at l1
      have h112 : ∀ n ∈ sh, 1 ≤ n ∧ n ≤ 12 := fun n hn => ⟨(h13 n hn).1, by have := (h13 n hn).2; omega⟩
      have hs12 : sh.sum ≤ 12 := by
        have := sum3 fun n hn => (h13 n hn).2
        omega
      have ok1 : ShOk nms (whole ws) := rowsW_ok ro9 m1 sh0 (by omega) h112 hs12 nl5 ok5 nd5 (by omega)
      have l12 := cols12 ok1
      have clow := cols_low ok1
      have hA : ∀ c ∈ cols ws, c.length = nms.length := cols_wide ok1
      have n6 : nms.length < 6 := by omega
      -- the sheet, its columns
      refine ⟨_, rfl, _, rfl, make_gd ok1 (.inl (SqL.of e9n)) (.inl (SqL.of e9)) (rows_rws rL9) fun H10 x s10 nx sh10 => ?_⟩
      have W10 : Wsh K C H10 x nms ws := ⟨sh10, ok1⟩
      refine ⟨_, rfl, a9, p, xs, nms, ws, rfl, SqL.of (s10 _ _ e9), rowsL_kp (KX.sm s10) rL9, ok1, fun H11 tc ts s11 ntc htc hC11 => ?_⟩
      dsimp only [gName, List.set_cons_succ, List.set_cons_zero]
      -- what is due
      refine ⟨_, _, rfl, ?_⟩
      refine ⟨_, rfl, _, rfl, ?_⟩
      show hDue K [.ref tc, .int (many : Nat)] _ _ _
      rw [hDue_eq, ← nl5]
      refine ⟨tc, nms.length, ts, cols ws, rfl, SqL.of htc, hC11, n6, l12, fun c hc => ⟨clow c hc, hA c hc⟩, fun H12 zt tS tP us s12 ezt etS etP dsP => ⟨zt, _, rfl, SqT.of ezt, rfl, _, _, rfl, _, _, rfl, rfl, ?_⟩⟩
      dsimp only [gName, List.set_cons_succ, List.set_cons_zero]
      have s1012 := s11.trans s12
      have W12 := W10.sm s1012
      have e12n := (s10.trans s1012) _ _ e9n
      have e12 := (s10.trans s1012) _ _ e9
      have rL12 := rowsL_kp (KX.sm (s10.trans s1012)) rL9
      have r12 := rl_sm (s10.trans s1012) r9
      clear s10 s11 s12 s1012 W10 sh10 nx ntc htc hC11 e9n e9 rL9 r9 ezt
      -- the paper
      refine ⟨_, rfl, few_use W12 fun H13 z1 s13 nz1 hz1 => ?_⟩
      dsimp only [gName, List.set_cons_succ, List.set_cons_zero]
      have W13 := W12.sm s13
      have etS13 := s13 _ _ etS
      have etP13 := s13 _ _ etP
      have dsP13 := dst_sm s13 dsP
      obtain ⟨dx, u1, u2, pz, hzi, hf1, hf2, hf3⟩ := id hz1
      refine ⟨_, rfl, _, _, .ref Z, _, _, rfl, .own Z, zm_tyx U.toZmE hz1, U.kZ, true, rfl, ?_⟩
      refine iteF ?_
      refine ⟨_, rfl, z1, dx, _, rfl, hzi, z1, rfl, true, rfl, iteF ?_⟩
      refine ⟨_, rfl, z1, Z, dx, _, _, rfl, hzi, U.c.p.c, U.c.p.f1, rfl, rfl, _, rfl, iteF ?_⟩
      refine ⟨_, rfl, z1, Z, dx, _, _, rfl, hzi, U.c.p.c, U.c.p.f2, rfl, _, rfl, z1, Z, dx, _, _, rfl, hzi, U.c.p.c, U.c.f3, rfl, _, rfl, z1, Z, dx, _, _, rfl, hzi, U.c.p.c, U.c.f4, rfl, by show 2 ≤ sizeLine; decide, fun t14 ht14 => ?_⟩
      have s14 : Same H13 (upd H13 t14 (.tup [u1, u2])) := Sm.new ht14
      have e14 : (upd H13 t14 (.tup [u1, u2])) t14 = some (.tup [u1, u2]) := upd_same
      generalize (upd H13 t14 (.tup [u1, u2])) = H14 at s14 e14 ⊢
      have flow := few_low ok1 n6 hA ok5
      refine ⟨.tuple [dN (fewOf nms ws), dPrs (fewPr nms ws)], .tuple [dN (fewOf nms ws), dPrs (fewPr nms ws)], ft_dp (ft_same s14 hf3), .tup (SqT.of e14) (.cons (ft_dp (ft_same s14 hf1)) (.cons (ft_dp (ft_same s14 hf2)) .nil)), sh_tl flow, sh_tl flow, _, rfl, ?_⟩
      rw [eqv_two, eqv_dNs, eqv_dPrs, decide_eq_true rfl, decide_eq_true rfl]
      refine iteF ?_
      -- its languages
      have hzi14 := s14 _ _ hzi
      refine ⟨_, rfl, z1, Z, dx, _, _, rfl, hzi14, U.c.p.c, U.c.f3, rfl, ?_⟩
      refine ⟨_, rfl, tS, rfl, ⟨_, SqT.of (s14 _ _ etS13)⟩, fun D15 hD15 => ?_⟩
      have lots := lotsB_ok nms.length n6
      have hok := lots.2 _ (few_mem n6 hA)
      have e14n := (s13.trans s14) _ _ e12n
      have efew : fewOf nms ws = (fewLot (cols ws) (lotsB nms.length)).map fun k => nms.getD k [] := rfl
      generalize edd : fewLot (cols ws) (lotsB nms.length) = d at hok efew etS13 ⊢
      refine lc_it walk_tup (fun i H' => Same H14 H' ∧ H' D15 = some (.lst (tws ((d.take i).map fun k => nms.getD k [])))) ⟨Sm.new hD15, upd_same⟩ (fun i H' _ z => SqT.of (z.1 _ _ (s14 _ _ etS13))) ?_ ?_
      · rintro i y G1 G2 hi ⟨q1, q2⟩ ⟨rfl, hy⟩
        have hi : i < (inV' d).length := hi
        have hi : i < d.length := by rwa [inV_len] at hi
        have hy : (inV' d)[i]? = some y := hy
        rw [inV_at hi] at hy
        obtain rfl := Option.some.inj hy
        have ed : d.getD i 0 = d[i] := by rw [List.getD_eq_getElem?_getD, List.getElem?_eq_getElem hi]; rfl
        have hlt := hok.2 _ (List.getElem_mem hi)
        rw [ed]
        refine ⟨rfl, _, rfl, _, rfl, an, _, (d[i] : Nat), V.str (Tx (nms.getD d[i] [])), rfl, rfl, SqL.of (q1 _ _ e14n), ?_, _, q2, ?_, Sm.put q1 hD15, ?_⟩
        · rw [atI_nat]
          unfold tws
          rw [List.getElem?_map, List.getD_eq_getElem?_getD, List.getElem?_eq_getElem hlt]
          rfl
        · rw [tws_len, List.length_map, List.length_take]
          exact small_lt (by omega)
        · rw [upd_same, take_snoc (List.getElem?_eq_getElem hi)]
          unfold tws
          rw [List.map_append, List.map_append]
          rfl
      rintro H15 ⟨s15, e15⟩
      have e15 : H15 D15 = some (.lst (tws ((d.take (inV' d).length).map fun k => nms.getD k []))) := e15
      rw [inV_len, List.take_length, ← efew] at e15
      refine ⟨D15, _, rfl, .inl ⟨SqL.of e15, fun t16 ht16 => ?_⟩⟩
      have s16 : Same H15 (upd H15 t16 (.tup (tws (fewOf nms ws)))) := Sm.new ht16
      have e16 : (upd H15 t16 (.tup (tws (fewOf nms ws)))) t16 = some (.tup (tws (fewOf nms ws))) := upd_same
      generalize (upd H15 t16 (.tup (tws (fewOf nms ws)))) = H16 at s16 e16 ⊢
      have s1416 := s15.trans s16
      have s1316 := s14.trans s1416
      refine ⟨dN (fewOf nms ws), dN (fewOf nms ws), ft_dp (ft_same s1316 hf1), .tup (SqT.of e16) (dpa fun n _ => .str _), shaped_of (dN_sh _ flow) (by have := dN_dep (fewOf nms ws); omega), shaped_of (dN_sh _ flow) (by have := dN_dep (fewOf nms ws); omega), _, rfl, ?_⟩
      rw [eqv_dNs, decide_eq_true rfl]
      refine iteF ?_
      -- its pairs
      have shP : SeqAt.shaped (dPrs (fewPr nms ws)) = true := shaped_of (dPrs_lay _) (by have := dPrs_dep (fewPr nms ws); omega)
      have etP16 := s1316 _ _ etP13
      have dsP16 : DsT H16 us (fewPr nms ws) := dst_sm s1316 dsP13
      refine ⟨_, rfl, z1, Z, dx, _, _, rfl, s1416 _ _ hzi14, U.c.p.c, U.c.f4, rfl, _, rfl, dPrs (fewPr nms ws), dPrs (fewPr nms ws), ft_dp (ft_same s1316 hf2), dp_prT etP16 dsP16, shP, shP, _, rfl, ?_⟩
      rw [eqv_dPrs, decide_eq_true rfl]
      refine iteF ?_
      -- told again
      have W16 := W13.sm s1316
      refine ⟨_, rfl, ?_⟩
      show hFew K cs C Z [.ref x] _ _ _
      refine few_use W16 fun H17 y17 s17 _ hy17 => ⟨_, rfl, neq_tl hy17 (zmb_sm (s1316.trans s17) hz1) flow ⟨false, rfl, iteF ?_⟩⟩
      have W17 := W16.sm s17
      have s1317 := s1316.trans s17
      have etS17 := s1317 _ _ etS13
      have hzi17 := s1317 _ _ hzi
      have hz17 := zmb_sm s1317 hz1
      have hf17 := ft_same s1317 hf1
      obtain ⟨ta, xa, rfl, hta, hla, hxa⟩ := ftn_tup hf17
      have exa : xa = tws (fewOf nms ws) := ftn_tws hla hxa
      rw [exa, efew] at hta
      have hta : TupF H17 ta (tws (pickN d nms)) := hta
      have ro9' : RowsOk nms.length sh ws := by
        rw [nl5]
        exact ro9
      have duq : d.Nodup := by
        rw [← edd]
        exact lots_uniq _ n6 _ (few_mem n6 hA)
      have dtl : leftL (cols ws) d = [] := by
        rw [← edd]
        exact few_tells n6 hA
      apply tail_hp (Cond := fun H18 => Same H17 H18)
      · intro tail
        refine ⟨_, rfl, Nat.zero_le _, fun t18 ht18 => ?_⟩
        have s18 : Same H17 (upd H17 t18 (.tup [])) := Sm.new ht18
        have e18 : (upd H17 t18 (.tup [])) t18 = some (.tup (inV' [])) := upd_same
        generalize (upd H17 t18 (.tup [])) = H18 at s18 e18 ⊢
        refine ⟨dInts d, dInts [], dp_ints (SqT.of (s18 _ _ etS17)), dp_ints (SqT.of e18), sh_dInts _, sh_dInts _, ?_⟩
        rw [eqv_dInts]
        by_cases hd : d = []
        · rw [decide_eq_true hd]
          refine ⟨false, rfl, iteF ?_⟩
          exact tail H18 s18
        · rw [decide_eq_false hd]
          refine ⟨true, rfl, iteT ?_⟩
          have W18 := W17.sm s18
          have d1 : 1 ≤ d.length := List.length_pos_iff.mpr hd
          obtain ⟨dx1, cx1, fs1, f1, f2, f3⟩ := wsh_fld (m := "of_languages") W18 (by decide)
          refine ⟨_, rfl, dx1, cx1, fs1, f1, f2, f3, ?_⟩
          refine ⟨_, rfl, z1, Z, dx, _, _, rfl, s18 _ _ hzi17, U.c.p.c, U.c.f3, rfl, ?_⟩
          refine ofT_use W18 ro9' sh0 (by omega) h112 hs12 (by omega) d1 (by omega) hok.2 duq (tf_sm s18 hta) fun H19 y19 s19 n19 W19 => ?_
          refine zero_use W19 fun H20 p20 s20 t20 => ⟨_, rfl, zero_use (W18.sm (s19.trans s20)) fun H21 p21 s21 t21 => ⟨dInts _, dInts _, dp_ints (tf_sq (tf_sm s21 t20)), dp_ints (tf_sq t21), sh_dInts _, sh_dInts _, ?_⟩⟩
          rw [eqv_dInts, pick_cols ro9' hok.2 (by omega) d1, zero_tell dtl, decide_eq_true rfl]
          refine ⟨false, rfl, iteF ?_⟩
          exact tail H21 (((s18.trans s19).trans s20).trans s21)
      · rintro H18 s18
        have W18 := W17.sm s18
        have etS18 := s18 _ _ etS17
        refine ⟨_, rfl, Nat.zero_le _, fun t19 ht19 => ?_⟩
        have s19 : Same H18 (upd H18 t19 (.tup [])) := Sm.new ht19
        have e19 : (upd H18 t19 (.tup [])) t19 = some (.tup (inV' [])) := upd_same
        generalize (upd H18 t19 (.tup [])) = H19 at s19 e19 ⊢
        refine ⟨dInts d, dInts [], dp_ints (SqT.of (s19 _ _ etS18)), dp_ints (SqT.of e19), sh_dInts _, sh_dInts _, ?_⟩
        rw [eqv_dInts]
        have W19 := W18.sm s19
        refine ⟨_, rfl, zero_use W19 fun H20 p20 s20 t20 => ⟨p20, (zeroL (cols ws)).map fun n => ((n : Nat) : Int), rfl, by rw [← inV_int]; exact tf_sq t20, by rw [List.length_map, zeroL_len]; exact cols_pos ok1, fun mx m1 m2 => ?_⟩⟩
        have fm := few_max n6 hA m1 m2
        rw [edd] at fm
        have em : decide (V.int mx = V.int 0) = decide (d = []) := by
          by_cases hd : d = []
          · rw [decide_eq_true hd, decide_eq_true (by rw [fm.mp hd])]
          · rw [decide_eq_false hd, decide_eq_false fun z => hd (fm.mpr (V.int.inj z))]
        refine ⟨rfl, ?_⟩
        rw [em]
        refine ⟨rfl, ?_⟩
        rw [decide_eq_true (rfl : V.bl (decide (d = [])) = V.bl (decide (d = [])))]
        refine ⟨false, rfl, iteF ?_⟩
        -- the same anew
        have s1720 := (s18.trans s19).trans s20
        have s1320 := s1317.trans s1720
        have W20 := W19.sm s20
        have etP20 := s1320 _ _ etP13
        have dsP20 : DsT H20 us (fewPr nms ws) := dst_sm s1320 dsP13
        have hzi20 := s1320 _ _ hzi
        have hta20 := tf_sm s1720 hta
        have hz20 := zmb_sm s1320 hz1
        have s1220 := s13.trans s1320
        have e20n := s1220 _ _ e12n
        have e20 := s1220 _ _ e12
        have rL20 := rowsL_kp (KX.sm s1220) rL12
        have r20 := rl_sm s1220 r12
        have lP : (fewPr nms ws).length ≤ 64 := by
          have := few_lt (cl := cols ws) n6 hA
          have := lots.1
          unfold fewPr fewPrs
          rw [List.length_map, List.length_take]
          omega
        clear s18 s19 s20 s1720 s1320 s1220 W18 W19 etS18 e19 t20
        refine ⟨_, rfl, tP, rfl, ⟨_, SqT.of etP20⟩, fun D21 hD21 => ?_⟩
        refine lc_it walk_tup (fun i H' => Same H20 H' ∧ ∃ acc, H' D21 = some (.lst acc) ∧ LNs H' D21 acc ((fewPr nms ws).take i)) ⟨Sm.new hD21, [], upd_same, rfl, fun i t c e => by cases e⟩ (fun i H' _ z => SqT.of (z.1 _ _ etP20)) ?_ ?_
        · rintro i y G1 G2 hi ⟨q1, acc, q2, q3⟩ ⟨rfl, hy⟩
          have hi : i < us.length := hi
          have ec := List.getElem?_eq_getElem (show i < (fewPr nms ws).length by rw [← dsP20.1]; exact hi)
          obtain ⟨b, rfl, hb⟩ := dsP20.2 i y _ hy ec
          refine ⟨rfl, _, rfl, b, _, rfl, .inr (SqT.of (q1 _ _ hb)), fun l hl => ⟨acc, (upd_ne (fun z => by rw [← z, q2] at hl; cases hl)).trans q2, small_lt (by rw [q3.1, List.length_take]; omega), Sm.put (q1.trans (Sm.new hl)) hD21, acc ++ [.ref l], upd_same, ?_⟩⟩
          rw [take_snoc ec]
          have nl : l ≠ D21 := fun z => by
            rw [z, q2] at hl
            cases hl
          exact lns_put (lns_snoc (lns_sm (Sm.new hl) q3) nl upd_same)
        rintro H21 ⟨s21, acc, e21, l21⟩
        have l21 : LNs H21 D21 acc ((fewPr nms ws).take us.length) := l21
        rw [dsP20.1, List.take_length] at l21
        refine ⟨_, rfl, z1, Z, dx, _, _, rfl, s21 _ _ hzi20, U.c.p.c, U.c.f3, rfl, ta, _, rfl, .inr (tf_sq (tf_sm s21 hta20)), fun l22 h22 => ?_⟩
        have s22 : Same H21 (upd H21 l22 (.lst (tws (pickN d nms)))) := Sm.new h22
        have e22 : (upd H21 l22 (.lst (tws (pickN d nms)))) l22 = some (.lst (tws (pickN d nms))) := upd_same
        generalize (upd H21 l22 (.lst (tws (pickN d nms)))) = H22 at s22 e22 ⊢
        refine ⟨rfl, fun y23 dx23 n1 n2 n3 => ?_⟩
        show spZmJ K Z [.ref y23, .ref l22, .ref D21] _ _ _
        have lpk : (pickN d nms).length = d.length := List.length_map _
        refine zmt_use (fx_txtL (SqL.of e22) (by omega)) (fx_lns (s22 _ _ e21) (lns_sm s22 l21) (by omega) (fun p hp => ?_)) n1 n2 n3 fun H23 s23 hy23 => ⟨rfl, ?_⟩
        · unfold fewPr fewPrs at hp
          obtain ⟨e, _, rfl⟩ := List.mem_map.mp hp
          exact left_two _ _
        have hy23 : ZmB Z H23 y23 (dN (fewOf nms ws)) (dPrs (fewPr nms ws)) := by
          rw [efew]
          exact hy23
        have s2023 := (s21.trans s22).trans s23
        dsimp only [gName, List.set_cons_succ, List.set_cons_zero]
        have W23 := W20.sm s2023
        refine ⟨_, rfl, _, rfl, ?_⟩
        show hShw K C Z [.ref x, .ref z1] _ _ _
        rw [hShw_eq]
        refine ⟨x, z1, nms, ws, rfl, W23.at_, ok1, zmb_sm s2023 hz20, fun H24 s24 => ⟨_, _, rfl, rfl, _, rfl, iteF ?_⟩⟩
        refine ⟨_, rfl, _, rfl, ?_⟩
        refine ⟨x, y23, nms, ws, rfl, (W23.sm s24).at_, ok1, zmb_sm s24 hy23, fun H25 s25 => ⟨_, _, rfl, rfl, _, rfl, iteF ?_⟩⟩
        have s2325 := s24.trans s25
        have s2025 := s2023.trans s2325
        refine ⟨_, rfl, _, rfl, neq_tl (zmb_sm s2325 hy23) (zmb_sm s2025 hz20) flow ⟨false, rfl, iteF ?_⟩⟩
        refine ⟨_, rfl, an, _, rfl, .inl (SqL.of (s2025 _ _ e20n)), rfl, ?_⟩
        by_cases h4 : nms.length = 4
        · rw [tws_len, decide_eq_true (show V.int ((nms.length : Nat) : Int) = V.int 4 by rw [h4]; rfl)]
          exact ⟨true, rfl, iteT (q _)⟩
        · rw [tws_len, decide_eq_false (show ¬ V.int ((nms.length : Nat) : Int) = V.int 4 from fun z => h4 (by have := V.int.inj z; omega))]
          refine ⟨false, rfl, iteF ?_⟩
          refine ⟨_, rfl, _, rfl, _, rfl, _, rfl, _, rfl, ?_⟩
          show hWid K C Z [.ref p, .ref x, .ref an, .ref a9, .ref z1] _ _ _
          rw [hWid_eq]
          exact ⟨p, x, an, a9, z1, 120, nms, ws, _, sh, rfl, rl_sm s2025 r20, by decide, W20.sm s2025, s2025 _ _ e20, nap9, rowsL_kp (KX.sm s2025) rL20, ro9', sh0, l4, h13, hs12, by omega, by omega, ok5, nd5, fur5, zmb_sm s2025 hz20, fun H' _ => q H'⟩
end
end K6
namespace K6
open PySem PySem.Spec PyProof.Rows L2 K0 K4
section
variable {P : Program} {w : World} {K : PySem.W.Frag} {mg : Str → Option Value} {base : Heap}
abbrev st_i_BadSheet : Stmt := inClass (top 19) 0
theorem sc_i_BadSheet : FnScope ["self", "part"] ["self", "part"] (defScope st_i_BadSheet) := ⟨rfl, rfl, rfl, by decide +kernel, rfl, by decide +kernel, by decide +kernel⟩
theorem ok_i_BadSheet {f : Addr} {fd : FuncData} (F : Fun K "__init__" "BadSheet.__init__" st_i_BadSheet f fd) : FnOk P w K mg base CX0 1 f fd ["self", "part"] (spInit1 K "part") := by
  refine F.ok sc_i_BadSheet (fun vs H Q E h => ?_) (fun cdv A outer s H vs Q E hr h => ?_)
  · obtain ⟨a, C, v, rfl, _⟩ := h
    rfl
  · obtain ⟨a, C, v, rfl, T, hno, ha, k⟩ := h
    exact ⟨_, pss_one (ps_ost (pv 0) (pv 1)), _, rfl, _, rfl, a, C, rfl, T, hno, .inl ⟨ha, fun dx n ne => k dx n ne⟩⟩
abbrev st_i_BadNumber : Stmt := inClass (top 20) 0
theorem sc_i_BadNumber : FnScope ["self", "part"] ["self", "part"] (defScope st_i_BadNumber) := ⟨rfl, rfl, rfl, by decide +kernel, rfl, by decide +kernel, by decide +kernel⟩
theorem ok_i_BadNumber {f : Addr} {fd : FuncData} (F : Fun K "__init__" "BadNumber.__init__" st_i_BadNumber f fd) : FnOk P w K mg base CX0 1 f fd ["self", "part"] (spInit1 K "part") := by
  refine F.ok sc_i_BadNumber (fun vs H Q E h => ?_) (fun cdv A outer s H vs Q E hr h => ?_)
  · obtain ⟨a, C, v, rfl, _⟩ := h
    rfl
  · obtain ⟨a, C, v, rfl, T, hno, ha, k⟩ := h
    exact ⟨_, pss_one (ps_ost (pv 0) (pv 1)), _, rfl, _, rfl, a, C, rfl, T, hno, .inl ⟨ha, fun dx n ne => k dx n ne⟩⟩
abbrev st_i_Misfit : Stmt := inClass (top 21) 0
theorem sc_i_Misfit : FnScope ["self", "part"] ["self", "part"] (defScope st_i_Misfit) := ⟨rfl, rfl, rfl, by decide +kernel, rfl, by decide +kernel, by decide +kernel⟩
theorem ok_i_Misfit {f : Addr} {fd : FuncData} (F : Fun K "__init__" "Misfit.__init__" st_i_Misfit f fd) : FnOk P w K mg base CX0 1 f fd ["self", "part"] (spInit1 K "part") := by
  refine F.ok sc_i_Misfit (fun vs H Q E h => ?_) (fun cdv A outer s H vs Q E hr h => ?_)
  · obtain ⟨a, C, v, rfl, _⟩ := h
    rfl
  · obtain ⟨a, C, v, rfl, T, hno, ha, k⟩ := h
    exact ⟨_, pss_one (ps_ost (pv 0) (pv 1)), _, rfl, _, rfl, a, C, rfl, T, hno, .inl ⟨ha, fun dx n ne => k dx n ne⟩⟩
abbrev st_i_Missing : Stmt := inClass (top 22) 0
theorem sc_i_Missing : FnScope ["self", "value"] ["self", "value"] (defScope st_i_Missing) := ⟨rfl, rfl, rfl, by decide +kernel, rfl, by decide +kernel, by decide +kernel⟩
theorem ok_i_Missing {f : Addr} {fd : FuncData} (F : Fun K "__init__" "Missing.__init__" st_i_Missing f fd) : FnOk P w K mg base CX0 1 f fd ["self", "value"] (spInit1 K "value") := by
  refine F.ok sc_i_Missing (fun vs H Q E h => ?_) (fun cdv A outer s H vs Q E hr h => ?_)
  · obtain ⟨a, C, v, rfl, _⟩ := h
    rfl
  · obtain ⟨a, C, v, rfl, T, hno, ha, k⟩ := h
    exact ⟨_, pss_one (ps_ost (pv 0) (pv 1)), _, rfl, _, rfl, a, C, rfl, T, hno, .inl ⟨ha, fun dx n ne => k dx n ne⟩⟩
abbrev st_i_Twice : Stmt := inClass (top 26) 0
theorem sc_i_Twice : FnScope ["self", "value"] ["self", "value"] (defScope st_i_Twice) := ⟨rfl, rfl, rfl, by decide +kernel, rfl, by decide +kernel, by decide +kernel⟩
theorem ok_i_Twice {f : Addr} {fd : FuncData} (F : Fun K "__init__" "Twice.__init__" st_i_Twice f fd) : FnOk P w K mg base CX0 1 f fd ["self", "value"] (spInit1 K "value") := by
  refine F.ok sc_i_Twice (fun vs H Q E h => ?_) (fun cdv A outer s H vs Q E hr h => ?_)
  · obtain ⟨a, C, v, rfl, _⟩ := h
    rfl
  · obtain ⟨a, C, v, rfl, T, hno, ha, k⟩ := h
    exact ⟨_, pss_one (ps_ost (pv 0) (pv 1)), _, rfl, _, rfl, a, C, rfl, T, hno, .inl ⟨ha, fun dx n ne => k dx n ne⟩⟩
abbrev st_i_TooMany : Stmt := inClass (top 27) 0
theorem sc_i_TooMany : FnScope ["self", "what", "most"] ["self", "what", "most"] (defScope st_i_TooMany) := ⟨rfl, rfl, rfl, by decide +kernel, rfl, by decide +kernel, by decide +kernel⟩
theorem ok_i_TooMany {f : Addr} {fd : FuncData} (F : Fun K "__init__" "TooMany.__init__" st_i_TooMany f fd) : FnOk P w K mg base CX0 1 f fd ["self", "what", "most"] (spInit2 K "what" "most") := by
  refine F.ok sc_i_TooMany (fun vs H Q E h => ?_) (fun cdv A outer s H vs Q E hr h => ?_)
  · obtain ⟨a, C, u, v, rfl, _⟩ := h
    rfl
  · obtain ⟨a, C, u, v, rfl, T, h1, h2, ha, k⟩ := h
    exact ⟨_, pss_cons (ps_ost (pv 0) (pv 1)) (pss_one (ps_ost (pv 0) (pv 2))), _, rfl, _, rfl, a, C, rfl, T, h1, .inl ⟨ha, fun dx n ne =>
      ⟨_, rfl, _, rfl, a, C, rfl, T, h2, .inr ⟨dx, _, upd_same, (upd_ne ne).trans upd_same, (by show 1 ≤ 900; decide), k dx n ne⟩⟩⟩⟩
theorem ok_fixed0 {f : Addr} {fd : FuncData} : FnOk P w K mg base CX0 0 f fd ["value"] (spF K 0) :=
  ⟨fun vs H Q E (h : False) => h.elim, fun A outer s H args us vs Q E _ _ _ _ (h : False) => h.elim⟩
theorem binds_S {x qual : Str} {st : Stmt} {f cda cc : Addr} {fd : FuncData} {ps : List Str} (F : FunS K x qual st f cda cc fd)
    (h : ∀ (kV doc pm : Value) (an : Option Addr) (ct : Value) (us : List Value), us.length = ps.length → bindArgs (PySem.W.ksFn x qual (defArgs st) (defBody st) (defScope st) .none kV doc pm an (.ref cda) ct cc) { pos := us } = pure (ps.zip us)) : Binds K fd ps [] := by
  obtain ⟨oc, od, kV, doc, pm, an, ct, osl, rfl, _⟩ := F.ex
  intro s us _ hl
  rw [List.append_nil] at hl ⊢
  exact .of_eq (h kV doc pm an ct us hl)
theorem funS_mk {x qual : Str} {st : Stmt} {f cda cc : Addr} {oc : Value} {od an : Option Addr} {osl : Array (Option Value)} {kV doc pm ct : Value} (l : K.lookup f = some ⟨oc, od, .func (PySem.W.ksFn x qual (defArgs st) (defBody st) (defScope st) .none kV doc pm an (.ref cda) ct cc), osl⟩)
    (c : PySem.W.codeIn K (.ref cda) qual = true) : FunS K x qual st f cda cc (PySem.W.ksFn x qual (defArgs st) (defBody st) (defScope st) .none kV doc pm an (.ref cda) ct cc) := ⟨⟨oc, od, kV, doc, pm, an, ct, osl, rfl, l, c⟩⟩
theorem cell_mk {cc C : Addr} {cl : Value} {cld : Option Addr} {csl : Array (Option Value)} (l : K.lookup cc = some ⟨cl, cld, .cell (some (.ref C)), csl⟩) : ∃ (cl : Value) (cld : Option Addr) (csl : Array (Option Value)), K.lookup cc = some ⟨cl, cld, .cell (some (.ref C)), csl⟩ := ⟨cl, cld, csl, l⟩
theorem code_mk {l : PySem.W.OpenLaw} {cda : Addr} {ccl : Value} {cdd : Option Addr} {vs : Array Value} {ccs : Array (Option Value)} {file : Str} {tf : Tok} (h1 : K.lookup cda = some ⟨ccl, cdd, .fields vs, ccs⟩) (h2 : vs[2]? = some (.str file tf)) (h3 : ((l.prog.main.file : Str) == file) = true) :
    ∃ (ccl : Value) (cdd : Option Addr) (vs : Array Value) (ccs : Array (Option Value)) (file : Str) (tf : Tok), K.lookup cda = some ⟨ccl, cdd, .fields vs, ccs⟩ ∧ vs[2]? = some (.str file tf) ∧ ((l.prog.main.file : Str) == file) = true := ⟨ccl, cdd, vs, ccs, file, tf, h1, h2, h3⟩
theorem cls_mk {C : Addr} {cd : ClassData} (l : PySem.W.clsIn K C = some cd) : ∃ cd : ClassData, PySem.W.clsIn K C = some cd := ⟨cd, l⟩
theorem kept_mk {C : Addr} {nm : Str} {o : Obj} {t : Tok} (l : K.lookup C = some o) (c : o.slots[2]? = some (some (.str nm t))) : K5.KeptName K C nm := ⟨o, t, l, c⟩
theorem kit_self {C : Addr} : PySem.W.kitOne K (.ref C) (.ref C) = some true := by
  unfold PySem.W.kitOne
  rw [if_pos (by simp)]
end
end K6
namespace K6
open PySem PySem.Spec PyProof.Rows L2 K0 K4
def csF (a b c d e f g h : Addr) : Nat → Addr
  | 0 => a
  | 1 => b
  | 2 => c
  | 3 => d
  | 4 => e
  | 5 => f
  | 6 => g
  | _ => h
set_option maxHeartbeats 4000000 in
theorem all_mk {l : PySem.W.OpenLaw} {w : World} {K : PySem.W.Frag} {h : Heap} {mg : Str → Option Value} {fa : Addr} {c_BadSheet c_BadNumber c_Misfit c_Twice c_NoRow c_NoLanguage c_NoPlace c_TooMany f_BadSheet f_BadNumber f_Misfit f_Twice f_Missing f_TooMany c_Sheet f_Sheet m_of_languages m_joined c_Telling c_Paper f_Telling cda_Z cc_Z f_Paper f_Peq f_Pbo a_is_integer a_is_list a_is_long_word a_is_name a_is_numbers a_first_twice a_is_cell a_is_row a_has_cell a_lengths_of a_is_even a_width_of a_need_names a_need_once a_need_rows a_need_sizes a_need_sheet a_need_whole a_need_language a_places_in a_gaps_in a_columns_of a_pairs_of_places a_lots_of_size a_lots_below a_fixed a_are_equal a_is_called a_unlike_columns a_zero_of a_zero a_are_parted a_pairs_not_parted a_fewest_languages a_least_joined a_standing a_compared a_is_pair_among a_is_telling a_shows_telling a__law_reel a__law_spin a__law_pick a__law_names a__law_signs a__law_rows a__law_column a__law_columns a__law_sets a__law_left a__law_due a__law_wider_right a_law : Addr} {t_MOST_LANGUAGES t_MOST_ROWS t_MOST_PLACES : Tok} (X : K.In h) (G : h.Ns mainGlobals mg) (hfa : mg "law" = some (.ref fa))
    (z_len : PySem.W.nsIn K mainGlobals "len" = some none)
    (z_isinstance : PySem.W.nsIn K mainGlobals "isinstance" = some none)
    (z_int : PySem.W.nsIn K mainGlobals "int" = some none)
    (z_bool : PySem.W.nsIn K mainGlobals "bool" = some none)
    (z_str : PySem.W.nsIn K mainGlobals "str" = some none)
    (z_list : PySem.W.nsIn K mainGlobals "list" = some none)
    (z_tuple : PySem.W.nsIn K mainGlobals "tuple" = some none)
    (z_all : PySem.W.nsIn K mainGlobals "all" = some none)
    (z_any : PySem.W.nsIn K mainGlobals "any" = some none)
    (z_zip : PySem.W.nsIn K mainGlobals "zip" = some none)
    (z_abs : PySem.W.nsIn K mainGlobals "abs" = some none)
    (z_range : PySem.W.nsIn K mainGlobals "range" = some none)
    (z_enumerate : PySem.W.nsIn K mainGlobals "enumerate" = some none)
    (z_set : PySem.W.nsIn K mainGlobals "set" = some none)
    (z_min : PySem.W.nsIn K mainGlobals "min" = some none)
    (z_max : PySem.W.nsIn K mainGlobals "max" = some none)
    (z_sum : PySem.W.nsIn K mainGlobals "sum" = some none)
    (z_repr : PySem.W.nsIn K mainGlobals "repr" = some none)
    (z_super : PySem.W.nsIn K mainGlobals "super" = some none)
    (k_MOST_LANGUAGES : PySem.W.nsIn K mainGlobals "MOST_LANGUAGES" = some (some (.int 4 t_MOST_LANGUAGES)))
    (k_MOST_ROWS : PySem.W.nsIn K mainGlobals "MOST_ROWS" = some (some (.int 6 t_MOST_ROWS)))
    (k_MOST_PLACES : PySem.W.nsIn K mainGlobals "MOST_PLACES" = some (some (.int 12 t_MOST_PLACES)))
    (n_BadSheet : PySem.W.nsIn K mainGlobals "BadSheet" = some (some (.ref c_BadSheet)))
    (o_BadSheet : OexC K c_BadSheet)
    (i_BadSheet : PySem.W.findIn K (.ref c_BadSheet) "__init__" = some (some (.ref f_BadSheet)))
    (p_BadSheet_part : PySem.W.findIn K (.ref c_BadSheet) "part" = some none)
    (n_BadNumber : PySem.W.nsIn K mainGlobals "BadNumber" = some (some (.ref c_BadNumber)))
    (o_BadNumber : OexC K c_BadNumber)
    (i_BadNumber : PySem.W.findIn K (.ref c_BadNumber) "__init__" = some (some (.ref f_BadNumber)))
    (p_BadNumber_part : PySem.W.findIn K (.ref c_BadNumber) "part" = some none)
    (n_Misfit : PySem.W.nsIn K mainGlobals "Misfit" = some (some (.ref c_Misfit)))
    (o_Misfit : OexC K c_Misfit)
    (i_Misfit : PySem.W.findIn K (.ref c_Misfit) "__init__" = some (some (.ref f_Misfit)))
    (p_Misfit_part : PySem.W.findIn K (.ref c_Misfit) "part" = some none)
    (n_Twice : PySem.W.nsIn K mainGlobals "Twice" = some (some (.ref c_Twice)))
    (o_Twice : OexC K c_Twice)
    (i_Twice : PySem.W.findIn K (.ref c_Twice) "__init__" = some (some (.ref f_Twice)))
    (p_Twice_value : PySem.W.findIn K (.ref c_Twice) "value" = some none)
    (n_NoRow : PySem.W.nsIn K mainGlobals "NoRow" = some (some (.ref c_NoRow)))
    (o_NoRow : OexC K c_NoRow)
    (i_NoRow : PySem.W.findIn K (.ref c_NoRow) "__init__" = some (some (.ref f_Missing)))
    (p_NoRow_value : PySem.W.findIn K (.ref c_NoRow) "value" = some none)
    (n_NoLanguage : PySem.W.nsIn K mainGlobals "NoLanguage" = some (some (.ref c_NoLanguage)))
    (o_NoLanguage : OexC K c_NoLanguage)
    (i_NoLanguage : PySem.W.findIn K (.ref c_NoLanguage) "__init__" = some (some (.ref f_Missing)))
    (p_NoLanguage_value : PySem.W.findIn K (.ref c_NoLanguage) "value" = some none)
    (n_NoPlace : PySem.W.nsIn K mainGlobals "NoPlace" = some (some (.ref c_NoPlace)))
    (o_NoPlace : OexC K c_NoPlace)
    (i_NoPlace : PySem.W.findIn K (.ref c_NoPlace) "__init__" = some (some (.ref f_Missing)))
    (p_NoPlace_value : PySem.W.findIn K (.ref c_NoPlace) "value" = some none)
    (n_TooMany : PySem.W.nsIn K mainGlobals "TooMany" = some (some (.ref c_TooMany)))
    (o_TooMany : OexC K c_TooMany)
    (i_TooMany : PySem.W.findIn K (.ref c_TooMany) "__init__" = some (some (.ref f_TooMany)))
    (p_TooMany_what : PySem.W.findIn K (.ref c_TooMany) "what" = some none)
    (p_TooMany_most : PySem.W.findIn K (.ref c_TooMany) "most" = some none)
    (t_BadSheet : PySem.W.typeIn K (.ref f_BadSheet) = some (.type "function"))
    (G_BadSheet : ∃ fd : FuncData, Fun K "__init__" "BadSheet.__init__" st_i_BadSheet f_BadSheet fd)
    (t_BadNumber : PySem.W.typeIn K (.ref f_BadNumber) = some (.type "function"))
    (G_BadNumber : ∃ fd : FuncData, Fun K "__init__" "BadNumber.__init__" st_i_BadNumber f_BadNumber fd)
    (t_Misfit : PySem.W.typeIn K (.ref f_Misfit) = some (.type "function"))
    (G_Misfit : ∃ fd : FuncData, Fun K "__init__" "Misfit.__init__" st_i_Misfit f_Misfit fd)
    (t_Twice : PySem.W.typeIn K (.ref f_Twice) = some (.type "function"))
    (G_Twice : ∃ fd : FuncData, Fun K "__init__" "Twice.__init__" st_i_Twice f_Twice fd)
    (t_Missing : PySem.W.typeIn K (.ref f_Missing) = some (.type "function"))
    (G_Missing : ∃ fd : FuncData, Fun K "__init__" "Missing.__init__" st_i_Missing f_Missing fd)
    (t_TooMany : PySem.W.typeIn K (.ref f_TooMany) = some (.type "function"))
    (G_TooMany : ∃ fd : FuncData, Fun K "__init__" "TooMany.__init__" st_i_TooMany f_TooMany fd)
    (n_Sheet : PySem.W.nsIn K mainGlobals "Sheet" = some (some (.ref c_Sheet)))
    (cl_Sheet : Cls K c_Sheet)
    (na_Sheet_languages : PySem.W.findIn K (.ref c_Sheet) "languages" = some none)
    (na_Sheet_rows : PySem.W.findIn K (.ref c_Sheet) "rows" = some none)
    (na_Sheet_places : PySem.W.findIn K (.ref c_Sheet) "places" = some none)
    (na_Sheet_gaps : PySem.W.findIn K (.ref c_Sheet) "gaps" = some none)
    (na_Sheet_is_whole : PySem.W.findIn K (.ref c_Sheet) "is_whole" = some none)
    (mk_Sheet : Mk K c_Sheet f_Sheet)
    (G_Sheet : ∃ fd : FuncData, Fun K "__init__" "Sheet.__init__" st_i_Sheet f_Sheet fd)
    (ks_ha : PySem.W.findIn K (.ref c_Sheet) "__class__" = some (some (.builtin "object.__class__")))
    (ks_hn : PySem.W.specialIn K (.builtin "object.__class__") "__get__" = some (some (.builtin "getset_descriptor.__get__")))
    (ks_ht : PySem.W.takesIn K (.builtin "object.__class__") = some true)
    (ks_hm : PySem.W.mroIn K c_Sheet (.type "object") = some true)
    (me_of_languages : Meth K c_Sheet "of_languages" m_of_languages)
    (H_of_languages : ∃ fd : FuncData, Fun K "of_languages" "Sheet.of_languages" st_Sheet__of_languages m_of_languages fd)
    (me_joined : Meth K c_Sheet "joined" m_joined)
    (H_joined : ∃ fd : FuncData, Fun K "joined" "Sheet.joined" st_Sheet__joined m_joined fd)
    (n_Telling : PySem.W.nsIn K mainGlobals "Telling" = some (some (.ref c_Telling)))
    (cl_Telling : Cls K c_Telling)
    (na_Telling_kind : PySem.W.findIn K (.ref c_Telling) "kind" = some none)
    (na_Telling_parts : PySem.W.findIn K (.ref c_Telling) "parts" = some none)
    (na_Telling_languages : PySem.W.findIn K (.ref c_Telling) "languages" = some none)
    (na_Telling_pairs : PySem.W.findIn K (.ref c_Telling) "pairs" = some none)
    (mk_Telling : Mk K c_Telling f_Telling)
    (G_Telling : ∃ fd : FuncData, FunS K "__init__" "Telling.__init__" st_Telling____init__ f_Telling cda_Z cc_Z fd)
    (su_cell : ∃ (cl : Value) (cld : Option Addr) (csl : Array (Option Value)), K.lookup cc_Z = some ⟨cl, cld, .cell (some (.ref c_Telling)), csl⟩)
    (su_code : ∃ (ccl : Value) (cdd : Option Addr) (vs : Array Value) (ccs : Array (Option Value)) (file : Str) (tf : Tok), K.lookup cda_Z = some ⟨ccl, cdd, .fields vs, ccs⟩ ∧ vs[2]? = some (.str file tf) ∧ ((l.prog.main.file : Str) == file) = true)
    (su_cls : ∃ cd : ClassData, PySem.W.clsIn K c_Telling = some cd)
    (su_sub : PySem.W.mroIn K c_Telling (.ref c_Telling) = some true)
    (su_opq : PySem.W.nsIn K cStatics "thirdparty.any" = some none)
    (su_found : PySem.W.ks_superIn K c_Telling c_Telling "__init__" = some (some (.ref f_Paper)))
    (su_fn : PySem.W.typeIn K (.ref f_Paper) = some (.type "function"))
    (su_fi : PySem.W.fnIn K f_Paper = true)
    (su_top : (l.prog.main.scope.names.lookup ("super" : Str)).isSome = false)
    (G_Paper : ∃ fd : FuncData, Fun K "__init__" "Paper.__init__" st_Paper____init__ f_Paper fd)
    (n_Paper : PySem.W.nsIn K mainGlobals "Paper" = some (some (.ref c_Paper)))
    (n_comb : PySem.W.nsIn K mainGlobals "combinations" = some (some (.type "itertools.combinations")))
    (zn_pg : PySem.W.plainGet K c_Telling "__class__" = true)
    (zn_hd : PySem.W.hasDictIn K c_Telling = true)
    (zn_fi : PySem.W.findIn K (.ref c_Telling) "__class__" = some (some (.builtin "object.__class__")))
    (zn_mro : PySem.W.mroIn K c_Telling (.type "object") = some true)
    (zn_rd : PySem.W.readsIn K c_Telling (.type "type") = true)
    (zn_fn : PySem.W.findCls K (.ref c_Telling) (.type "type") "__name__" = some (.get (.builtin "getset_descriptor.__get__") (.builtin "type.__name__") (.ref c_Telling) (.type "type")))
    (zn_ty : PySem.W.typeIn K (.ref c_Telling) = some (.type "type"))
    (zn_nm : K5.KeptName K c_Telling "Telling")
    (zn_kP : PySem.W.kitOne K (.ref c_Telling) (.ref c_Paper) = some true)
    (zn_ne : PySem.W.findIn K (.ref c_Telling) "__ne__" = some (some (.builtin "object.__ne__")))
    (zn_eq : PySem.W.findIn K (.ref c_Telling) "__eq__" = some (some (.ref f_Peq)))
    (zn_ef : PySem.W.isFn K (.ref f_Peq) = true)
    (zn_bo : PySem.W.findIn K (.ref c_Telling) "__bool__" = some (some (.ref f_Pbo)))
    (zn_bf : PySem.W.isFn K (.ref f_Pbo) = true)
    (G_Peq : ∃ fd : FuncData, Fun K "__eq__" "Paper.__eq__" st_Paper____eq__ f_Peq fd)
    (G_Pbo : ∃ fd : FuncData, Fun K "__bool__" "Paper.__bool__" st_Paper____bool__ f_Pbo fd)
    (d_is_integer : PySem.W.nsIn K mainGlobals "is_integer" = some (some (.ref a_is_integer)))
    (d_is_list : PySem.W.nsIn K mainGlobals "is_list" = some (some (.ref a_is_list)))
    (d_is_long_word : PySem.W.nsIn K mainGlobals "is_long_word" = some (some (.ref a_is_long_word)))
    (d_is_name : PySem.W.nsIn K mainGlobals "is_name" = some (some (.ref a_is_name)))
    (d_is_numbers : PySem.W.nsIn K mainGlobals "is_numbers" = some (some (.ref a_is_numbers)))
    (d_first_twice : PySem.W.nsIn K mainGlobals "first_twice" = some (some (.ref a_first_twice)))
    (d_is_cell : PySem.W.nsIn K mainGlobals "is_cell" = some (some (.ref a_is_cell)))
    (d_is_row : PySem.W.nsIn K mainGlobals "is_row" = some (some (.ref a_is_row)))
    (d_has_cell : PySem.W.nsIn K mainGlobals "has_cell" = some (some (.ref a_has_cell)))
    (d_lengths_of : PySem.W.nsIn K mainGlobals "lengths_of" = some (some (.ref a_lengths_of)))
    (d_is_even : PySem.W.nsIn K mainGlobals "is_even" = some (some (.ref a_is_even)))
    (d_width_of : PySem.W.nsIn K mainGlobals "width_of" = some (some (.ref a_width_of)))
    (d_need_names : PySem.W.nsIn K mainGlobals "need_names" = some (some (.ref a_need_names)))
    (d_need_once : PySem.W.nsIn K mainGlobals "need_once" = some (some (.ref a_need_once)))
    (d_need_rows : PySem.W.nsIn K mainGlobals "need_rows" = some (some (.ref a_need_rows)))
    (d_need_sizes : PySem.W.nsIn K mainGlobals "need_sizes" = some (some (.ref a_need_sizes)))
    (d_need_sheet : PySem.W.nsIn K mainGlobals "need_sheet" = some (some (.ref a_need_sheet)))
    (d_need_whole : PySem.W.nsIn K mainGlobals "need_whole" = some (some (.ref a_need_whole)))
    (d_need_language : PySem.W.nsIn K mainGlobals "need_language" = some (some (.ref a_need_language)))
    (d_places_in : PySem.W.nsIn K mainGlobals "places_in" = some (some (.ref a_places_in)))
    (d_gaps_in : PySem.W.nsIn K mainGlobals "gaps_in" = some (some (.ref a_gaps_in)))
    (d_columns_of : PySem.W.nsIn K mainGlobals "columns_of" = some (some (.ref a_columns_of)))
    (d_pairs_of_places : PySem.W.nsIn K mainGlobals "pairs_of_places" = some (some (.ref a_pairs_of_places)))
    (d_lots_of_size : PySem.W.nsIn K mainGlobals "lots_of_size" = some (some (.ref a_lots_of_size)))
    (d_lots_below : PySem.W.nsIn K mainGlobals "lots_below" = some (some (.ref a_lots_below)))
    (d_fixed : PySem.W.nsIn K mainGlobals "fixed" = some (some (.ref a_fixed)))
    (d_are_equal : PySem.W.nsIn K mainGlobals "are_equal" = some (some (.ref a_are_equal)))
    (d_is_called : PySem.W.nsIn K mainGlobals "is_called" = some (some (.ref a_is_called)))
    (d_unlike_columns : PySem.W.nsIn K mainGlobals "unlike_columns" = some (some (.ref a_unlike_columns)))
    (d_zero_of : PySem.W.nsIn K mainGlobals "zero_of" = some (some (.ref a_zero_of)))
    (d_zero : PySem.W.nsIn K mainGlobals "zero" = some (some (.ref a_zero)))
    (d_are_parted : PySem.W.nsIn K mainGlobals "are_parted" = some (some (.ref a_are_parted)))
    (d_pairs_not_parted : PySem.W.nsIn K mainGlobals "pairs_not_parted" = some (some (.ref a_pairs_not_parted)))
    (d_fewest_languages : PySem.W.nsIn K mainGlobals "fewest_languages" = some (some (.ref a_fewest_languages)))
    (d_least_joined : PySem.W.nsIn K mainGlobals "least_joined" = some (some (.ref a_least_joined)))
    (d_standing : PySem.W.nsIn K mainGlobals "standing" = some (some (.ref a_standing)))
    (d_compared : PySem.W.nsIn K mainGlobals "compared" = some (some (.ref a_compared)))
    (d_is_pair_among : PySem.W.nsIn K mainGlobals "is_pair_among" = some (some (.ref a_is_pair_among)))
    (d_is_telling : PySem.W.nsIn K mainGlobals "is_telling" = some (some (.ref a_is_telling)))
    (d_shows_telling : PySem.W.nsIn K mainGlobals "shows_telling" = some (some (.ref a_shows_telling)))
    (d__law_reel : PySem.W.nsIn K mainGlobals "_law_reel" = some (some (.ref a__law_reel)))
    (d__law_spin : PySem.W.nsIn K mainGlobals "_law_spin" = some (some (.ref a__law_spin)))
    (d__law_pick : PySem.W.nsIn K mainGlobals "_law_pick" = some (some (.ref a__law_pick)))
    (d__law_names : PySem.W.nsIn K mainGlobals "_law_names" = some (some (.ref a__law_names)))
    (d__law_signs : PySem.W.nsIn K mainGlobals "_law_signs" = some (some (.ref a__law_signs)))
    (d__law_rows : PySem.W.nsIn K mainGlobals "_law_rows" = some (some (.ref a__law_rows)))
    (d__law_column : PySem.W.nsIn K mainGlobals "_law_column" = some (some (.ref a__law_column)))
    (d__law_columns : PySem.W.nsIn K mainGlobals "_law_columns" = some (some (.ref a__law_columns)))
    (d__law_sets : PySem.W.nsIn K mainGlobals "_law_sets" = some (some (.ref a__law_sets)))
    (d__law_left : PySem.W.nsIn K mainGlobals "_law_left" = some (some (.ref a__law_left)))
    (d__law_due : PySem.W.nsIn K mainGlobals "_law_due" = some (some (.ref a__law_due)))
    (d__law_wider_right : PySem.W.nsIn K mainGlobals "_law_wider_right" = some (some (.ref a__law_wider_right)))
    (d_law : PySem.W.nsIn K mainGlobals "law" = some (some (.ref a_law)))
    (F_is_integer : ∃ fd : FuncData, Fun K "is_integer" "is_integer" st_is_integer a_is_integer fd)
    (F_is_list : ∃ fd : FuncData, Fun K "is_list" "is_list" st_is_list a_is_list fd)
    (F_is_long_word : ∃ fd : FuncData, Fun K "is_long_word" "is_long_word" st_is_long_word a_is_long_word fd)
    (F_is_name : ∃ fd : FuncData, Fun K "is_name" "is_name" st_is_name a_is_name fd)
    (F_is_numbers : ∃ fd : FuncData, Fun K "is_numbers" "is_numbers" st_is_numbers a_is_numbers fd)
    (F_first_twice : ∃ fd : FuncData, Fun K "first_twice" "first_twice" st_first_twice a_first_twice fd)
    (F_is_cell : ∃ fd : FuncData, Fun K "is_cell" "is_cell" st_is_cell a_is_cell fd)
    (F_is_row : ∃ fd : FuncData, Fun K "is_row" "is_row" st_is_row a_is_row fd)
    (F_has_cell : ∃ fd : FuncData, Fun K "has_cell" "has_cell" st_has_cell a_has_cell fd)
    (F_lengths_of : ∃ fd : FuncData, Fun K "lengths_of" "lengths_of" st_lengths_of a_lengths_of fd)
    (F_is_even : ∃ fd : FuncData, Fun K "is_even" "is_even" st_is_even a_is_even fd)
    (F_width_of : ∃ fd : FuncData, Fun K "width_of" "width_of" st_width_of a_width_of fd)
    (F_need_names : ∃ fd : FuncData, Fun K "need_names" "need_names" st_need_names a_need_names fd)
    (F_need_once : ∃ fd : FuncData, Fun K "need_once" "need_once" st_need_once a_need_once fd)
    (F_need_rows : ∃ fd : FuncData, Fun K "need_rows" "need_rows" st_need_rows a_need_rows fd)
    (F_need_sizes : ∃ fd : FuncData, Fun K "need_sizes" "need_sizes" st_need_sizes a_need_sizes fd)
    (F_need_sheet : ∃ fd : FuncData, Fun K "need_sheet" "need_sheet" st_need_sheet a_need_sheet fd)
    (F_need_whole : ∃ fd : FuncData, Fun K "need_whole" "need_whole" st_need_whole a_need_whole fd)
    (F_need_language : ∃ fd : FuncData, Fun K "need_language" "need_language" st_need_language a_need_language fd)
    (F_places_in : ∃ fd : FuncData, Fun K "places_in" "places_in" st_places_in a_places_in fd)
    (F_gaps_in : ∃ fd : FuncData, Fun K "gaps_in" "gaps_in" st_gaps_in a_gaps_in fd)
    (F_columns_of : ∃ fd : FuncData, Fun K "columns_of" "columns_of" st_columns_of a_columns_of fd)
    (F_pairs_of_places : ∃ fd : FuncData, Fun K "pairs_of_places" "pairs_of_places" st_pairs_of_places a_pairs_of_places fd)
    (F_lots_of_size : ∃ fd : FuncData, Fun K "lots_of_size" "lots_of_size" st_lots_of_size a_lots_of_size fd)
    (F_lots_below : ∃ fd : FuncData, Fun K "lots_below" "lots_below" st_lots_below a_lots_below fd)
    (F_fixed : ∃ fd : FuncData, Fun K "fixed" "fixed" st_fixed a_fixed fd)
    (F_are_equal : ∃ fd : FuncData, Fun K "are_equal" "are_equal" st_are_equal a_are_equal fd)
    (F_is_called : ∃ fd : FuncData, Fun K "is_called" "is_called" st_is_called a_is_called fd)
    (F_unlike_columns : ∃ fd : FuncData, Fun K "unlike_columns" "unlike_columns" st_unlike_columns a_unlike_columns fd)
    (F_zero_of : ∃ fd : FuncData, Fun K "zero_of" "zero_of" st_zero_of a_zero_of fd)
    (F_zero : ∃ fd : FuncData, Fun K "zero" "zero" st_zero a_zero fd)
    (F_are_parted : ∃ fd : FuncData, Fun K "are_parted" "are_parted" st_are_parted a_are_parted fd)
    (F_pairs_not_parted : ∃ fd : FuncData, Fun K "pairs_not_parted" "pairs_not_parted" st_pairs_not_parted a_pairs_not_parted fd)
    (F_fewest_languages : ∃ fd : FuncData, Fun K "fewest_languages" "fewest_languages" st_fewest_languages a_fewest_languages fd)
    (F_least_joined : ∃ fd : FuncData, Fun K "least_joined" "least_joined" st_least_joined a_least_joined fd)
    (F_standing : ∃ fd : FuncData, Fun K "standing" "standing" st_standing a_standing fd)
    (F_compared : ∃ fd : FuncData, Fun K "compared" "compared" st_compared a_compared fd)
    (F_is_pair_among : ∃ fd : FuncData, Fun K "is_pair_among" "is_pair_among" st_is_pair_among a_is_pair_among fd)
    (F_is_telling : ∃ fd : FuncData, Fun K "is_telling" "is_telling" st_is_telling a_is_telling fd)
    (F_shows_telling : ∃ fd : FuncData, Fun K "shows_telling" "shows_telling" st_shows_telling a_shows_telling fd)
    (F__law_reel : ∃ fd : FuncData, Fun K "_law_reel" "_law_reel" st_l_reel a__law_reel fd)
    (F__law_spin : ∃ fd : FuncData, Fun K "_law_spin" "_law_spin" st_l_spin a__law_spin fd)
    (F__law_pick : ∃ fd : FuncData, Fun K "_law_pick" "_law_pick" st_l_pick a__law_pick fd)
    (F__law_names : ∃ fd : FuncData, Fun K "_law_names" "_law_names" st_l_names a__law_names fd)
    (F__law_signs : ∃ fd : FuncData, Fun K "_law_signs" "_law_signs" st_l_signs a__law_signs fd)
    (F__law_rows : ∃ fd : FuncData, Fun K "_law_rows" "_law_rows" st_l_rows a__law_rows fd)
    (F__law_column : ∃ fd : FuncData, Fun K "_law_column" "_law_column" st_l_column a__law_column fd)
    (F__law_columns : ∃ fd : FuncData, Fun K "_law_columns" "_law_columns" st_l_columns a__law_columns fd)
    (F__law_sets : ∃ fd : FuncData, Fun K "_law_sets" "_law_sets" st_l_sets a__law_sets fd)
    (F__law_left : ∃ fd : FuncData, Fun K "_law_left" "_law_left" st_l_left a__law_left fd)
    (F__law_due : ∃ fd : FuncData, Fun K "_law_due" "_law_due" st_l_due a__law_due fd)
    (F__law_wider_right : ∃ fd : FuncData, Fun K "_law_wider_right" "_law_wider_right" st_l_wider_right a__law_wider_right fd)
    (F_law : ∃ fd : FuncData, Fun K "law" "law" st_law a_law fd)
    : ∃ fd : FuncData, (∀ (s : Shared) (v : Value), BindsTo s fd ⟨[v], []⟩ [("_law_script", v)]) ∧ ∀ base : Heap, K.In base → base.Ns mainGlobals mg → FnOk l.prog w K mg base CX0 12 fa fd ["_law_script"] (spLaw K) := by
  have ehfa := hfa.symm.trans (PySem.W.mg_of X G d_law)
  cases ehfa
  obtain ⟨fi_BadSheet, G_BadSheet⟩ := G_BadSheet
  obtain ⟨fi_BadNumber, G_BadNumber⟩ := G_BadNumber
  obtain ⟨fi_Misfit, G_Misfit⟩ := G_Misfit
  obtain ⟨fi_Twice, G_Twice⟩ := G_Twice
  obtain ⟨fi_Missing, G_Missing⟩ := G_Missing
  obtain ⟨fi_TooMany, G_TooMany⟩ := G_TooMany
  obtain ⟨fi_Sheet, G_Sheet⟩ := G_Sheet
  obtain ⟨fi_Telling, G_Telling⟩ := G_Telling
  obtain ⟨fi_Paper, G_Paper⟩ := G_Paper
  obtain ⟨fi_Peq, G_Peq⟩ := G_Peq
  obtain ⟨fi_Pbo, G_Pbo⟩ := G_Pbo
  obtain ⟨fm_of_languages, H_of_languages⟩ := H_of_languages
  obtain ⟨fm_joined, H_joined⟩ := H_joined
  obtain ⟨fd_is_integer, F_is_integer⟩ := F_is_integer
  obtain ⟨fd_is_list, F_is_list⟩ := F_is_list
  obtain ⟨fd_is_long_word, F_is_long_word⟩ := F_is_long_word
  obtain ⟨fd_is_name, F_is_name⟩ := F_is_name
  obtain ⟨fd_is_numbers, F_is_numbers⟩ := F_is_numbers
  obtain ⟨fd_first_twice, F_first_twice⟩ := F_first_twice
  obtain ⟨fd_is_cell, F_is_cell⟩ := F_is_cell
  obtain ⟨fd_is_row, F_is_row⟩ := F_is_row
  obtain ⟨fd_has_cell, F_has_cell⟩ := F_has_cell
  obtain ⟨fd_lengths_of, F_lengths_of⟩ := F_lengths_of
  obtain ⟨fd_is_even, F_is_even⟩ := F_is_even
  obtain ⟨fd_width_of, F_width_of⟩ := F_width_of
  obtain ⟨fd_need_names, F_need_names⟩ := F_need_names
  obtain ⟨fd_need_once, F_need_once⟩ := F_need_once
  obtain ⟨fd_need_rows, F_need_rows⟩ := F_need_rows
  obtain ⟨fd_need_sizes, F_need_sizes⟩ := F_need_sizes
  obtain ⟨fd_need_sheet, F_need_sheet⟩ := F_need_sheet
  obtain ⟨fd_need_whole, F_need_whole⟩ := F_need_whole
  obtain ⟨fd_need_language, F_need_language⟩ := F_need_language
  obtain ⟨fd_places_in, F_places_in⟩ := F_places_in
  obtain ⟨fd_gaps_in, F_gaps_in⟩ := F_gaps_in
  obtain ⟨fd_columns_of, F_columns_of⟩ := F_columns_of
  obtain ⟨fd_pairs_of_places, F_pairs_of_places⟩ := F_pairs_of_places
  obtain ⟨fd_lots_of_size, F_lots_of_size⟩ := F_lots_of_size
  obtain ⟨fd_lots_below, F_lots_below⟩ := F_lots_below
  obtain ⟨fd_fixed, F_fixed⟩ := F_fixed
  obtain ⟨fd_are_equal, F_are_equal⟩ := F_are_equal
  obtain ⟨fd_is_called, F_is_called⟩ := F_is_called
  obtain ⟨fd_unlike_columns, F_unlike_columns⟩ := F_unlike_columns
  obtain ⟨fd_zero_of, F_zero_of⟩ := F_zero_of
  obtain ⟨fd_zero, F_zero⟩ := F_zero
  obtain ⟨fd_are_parted, F_are_parted⟩ := F_are_parted
  obtain ⟨fd_pairs_not_parted, F_pairs_not_parted⟩ := F_pairs_not_parted
  obtain ⟨fd_fewest_languages, F_fewest_languages⟩ := F_fewest_languages
  obtain ⟨fd_least_joined, F_least_joined⟩ := F_least_joined
  obtain ⟨fd_standing, F_standing⟩ := F_standing
  obtain ⟨fd_compared, F_compared⟩ := F_compared
  obtain ⟨fd_is_pair_among, F_is_pair_among⟩ := F_is_pair_among
  obtain ⟨fd_is_telling, F_is_telling⟩ := F_is_telling
  obtain ⟨fd_shows_telling, F_shows_telling⟩ := F_shows_telling
  obtain ⟨fd__law_reel, F__law_reel⟩ := F__law_reel
  obtain ⟨fd__law_spin, F__law_spin⟩ := F__law_spin
  obtain ⟨fd__law_pick, F__law_pick⟩ := F__law_pick
  obtain ⟨fd__law_names, F__law_names⟩ := F__law_names
  obtain ⟨fd__law_signs, F__law_signs⟩ := F__law_signs
  obtain ⟨fd__law_rows, F__law_rows⟩ := F__law_rows
  obtain ⟨fd__law_column, F__law_column⟩ := F__law_column
  obtain ⟨fd__law_columns, F__law_columns⟩ := F__law_columns
  obtain ⟨fd__law_sets, F__law_sets⟩ := F__law_sets
  obtain ⟨fd__law_left, F__law_left⟩ := F__law_left
  obtain ⟨fd__law_due, F__law_due⟩ := F__law_due
  obtain ⟨fd__law_wider_right, F__law_wider_right⟩ := F__law_wider_right
  obtain ⟨fd_law, F_law⟩ := F_law
  let cs : Nat → Addr := csF c_BadSheet c_BadNumber c_Misfit c_Twice c_NoRow c_NoLanguage c_NoPlace c_TooMany
  let C : Addr := c_Sheet
  let Z : Addr := c_Telling
  have T : Blt mg := ⟨PySem.W.mg_none_of X G z_len, PySem.W.mg_none_of X G z_isinstance, PySem.W.mg_none_of X G z_int, PySem.W.mg_none_of X G z_bool, PySem.W.mg_none_of X G z_str, PySem.W.mg_none_of X G z_list, PySem.W.mg_none_of X G z_tuple, PySem.W.mg_none_of X G z_all, PySem.W.mg_none_of X G z_any, PySem.W.mg_none_of X G z_zip, PySem.W.mg_none_of X G z_abs, PySem.W.mg_none_of X G z_range, PySem.W.mg_none_of X G z_enumerate, PySem.W.mg_none_of X G z_set, PySem.W.mg_none_of X G z_min, PySem.W.mg_none_of X G z_max, PySem.W.mg_none_of X G z_sum, PySem.W.mg_none_of X G z_repr⟩
  have TC : Cst mg := ⟨⟨_, PySem.W.mg_of X G k_MOST_LANGUAGES⟩, ⟨_, PySem.W.mg_of X G k_MOST_ROWS⟩, ⟨_, PySem.W.mg_of X G k_MOST_PLACES⟩⟩
  have S : ShC K C := ⟨cl_Sheet, na_Sheet_languages, na_Sheet_rows, na_Sheet_places, na_Sheet_gaps, na_Sheet_is_whole⟩
  have U : KSh K mg C := ⟨PySem.W.mg_of X G n_Sheet, kit_self, ks_ha, ks_hn, ks_ht, ks_hm⟩
  have ZC : TlC K Z := ⟨⟨cl_Telling, na_Telling_kind, na_Telling_parts⟩, na_Telling_languages, na_Telling_pairs⟩
  have SU : K8.SupC l.prog K mg Z cda_Z f_Paper "__init__" := ⟨su_code, su_cls, su_sub, su_opq, su_found, su_fn, su_fi, PySem.W.mg_none_of X G z_super, su_top⟩
  have UE : ZmE K mg Z c_Paper := ⟨ZC, ⟨zn_pg, zn_hd, zn_fi, ks_hn, ks_ht, zn_mro, zn_rd, zn_fn, zn_ty, zn_nm⟩, PySem.W.mg_of X G n_Paper, PySem.W.mg_of X G n_Telling, zn_kP, kit_self⟩
  have UF : ZmF K mg Z c_Paper f_Peq f_Pbo := ⟨UE, zn_ne, zn_eq, zn_ef, zn_bo, zn_bf⟩
  have hcmb : mg "combinations" = some (.type "itertools.combinations") := PySem.W.mg_of X G n_comb
  have b_BadSheet : Binds K fi_BadSheet ["self", "part"] [] := (G_BadSheet.binds (ps := ["self", "part"]) fun _ _ _ _ _ _ us hl => match us, hl with | [_, _], _ => rfl)
  have b_BadNumber : Binds K fi_BadNumber ["self", "part"] [] := (G_BadNumber.binds (ps := ["self", "part"]) fun _ _ _ _ _ _ us hl => match us, hl with | [_, _], _ => rfl)
  have b_Misfit : Binds K fi_Misfit ["self", "part"] [] := (G_Misfit.binds (ps := ["self", "part"]) fun _ _ _ _ _ _ us hl => match us, hl with | [_, _], _ => rfl)
  have b_Twice : Binds K fi_Twice ["self", "value"] [] := (G_Twice.binds (ps := ["self", "value"]) fun _ _ _ _ _ _ us hl => match us, hl with | [_, _], _ => rfl)
  have b_Missing : Binds K fi_Missing ["self", "value"] [] := (G_Missing.binds (ps := ["self", "value"]) fun _ _ _ _ _ _ us hl => match us, hl with | [_, _], _ => rfl)
  have b_TooMany : Binds K fi_TooMany ["self", "what", "most"] [] := (G_TooMany.binds (ps := ["self", "what", "most"]) fun _ _ _ _ _ _ us hl => match us, hl with | [_, _, _], _ => rfl)
  have b_Sheet : Binds K fi_Sheet ["self", "languages", "rows"] [] := (G_Sheet.binds (ps := ["self", "languages", "rows"]) fun _ _ _ _ _ _ us hl => match us, hl with | [_, _, _], _ => rfl)
  have b_Telling : Binds K fi_Telling ["self", "languages", "pairs"] [] := binds_S G_Telling fun _ _ _ _ _ us hl => match us, hl with | [_, _, _], _ => rfl
  have b_Peq : Binds K fi_Peq ["self", "other"] [] := (G_Peq.binds (ps := ["self", "other"]) fun _ _ _ _ _ _ us hl => match us, hl with | [_, _], _ => rfl)
  have b_Pbo : Binds K fi_Pbo ["self"] [] := (G_Pbo.binds (ps := ["self"]) fun _ _ _ _ _ _ us hl => match us, hl with | [_], _ => rfl)
  have bm_of_languages : Binds K fm_of_languages ["self", "languages"] [] := (H_of_languages.binds (ps := ["self", "languages"]) fun _ _ _ _ _ _ us hl => match us, hl with | [_, _], _ => rfl)
  have bm_joined : Binds K fm_joined ["self", "other"] [] := (H_joined.binds (ps := ["self", "other"]) fun _ _ _ _ _ _ us hl => match us, hl with | [_, _], _ => rfl)
  have b_is_integer : Binds K fd_is_integer ["value"] [] := (F_is_integer.binds (ps := ["value"]) fun _ _ _ _ _ _ us hl => match us, hl with | [_], _ => rfl)
  have b_is_list : Binds K fd_is_list ["value"] [] := (F_is_list.binds (ps := ["value"]) fun _ _ _ _ _ _ us hl => match us, hl with | [_], _ => rfl)
  have b_is_long_word : Binds K fd_is_long_word ["value"] [] := (F_is_long_word.binds (ps := ["value"]) fun _ _ _ _ _ _ us hl => match us, hl with | [_], _ => rfl)
  have b_is_name : Binds K fd_is_name ["value"] [] := (F_is_name.binds (ps := ["value"]) fun _ _ _ _ _ _ us hl => match us, hl with | [_], _ => rfl)
  have b_is_numbers : Binds K fd_is_numbers ["value"] [] := (F_is_numbers.binds (ps := ["value"]) fun _ _ _ _ _ _ us hl => match us, hl with | [_], _ => rfl)
  have b_first_twice : Binds K fd_first_twice ["values"] [] := (F_first_twice.binds (ps := ["values"]) fun _ _ _ _ _ _ us hl => match us, hl with | [_], _ => rfl)
  have b_is_cell : Binds K fd_is_cell ["value"] [] := (F_is_cell.binds (ps := ["value"]) fun _ _ _ _ _ _ us hl => match us, hl with | [_], _ => rfl)
  have b_is_row : Binds K fd_is_row ["value", "many"] [] := (F_is_row.binds (ps := ["value", "many"]) fun _ _ _ _ _ _ us hl => match us, hl with | [_, _], _ => rfl)
  have b_has_cell : Binds K fd_has_cell ["row"] [] := (F_has_cell.binds (ps := ["row"]) fun _ _ _ _ _ _ us hl => match us, hl with | [_], _ => rfl)
  have b_lengths_of : Binds K fd_lengths_of ["row"] [] := (F_lengths_of.binds (ps := ["row"]) fun _ _ _ _ _ _ us hl => match us, hl with | [_], _ => rfl)
  have b_is_even : Binds K fd_is_even ["row"] [] := (F_is_even.binds (ps := ["row"]) fun _ _ _ _ _ _ us hl => match us, hl with | [_], _ => rfl)
  have b_width_of : Binds K fd_width_of ["row"] [] := (F_width_of.binds (ps := ["row"]) fun _ _ _ _ _ _ us hl => match us, hl with | [_], _ => rfl)
  have b_need_names : Binds K fd_need_names ["languages"] [] := (F_need_names.binds (ps := ["languages"]) fun _ _ _ _ _ _ us hl => match us, hl with | [_], _ => rfl)
  have b_need_once : Binds K fd_need_once ["values"] [] := (F_need_once.binds (ps := ["values"]) fun _ _ _ _ _ _ us hl => match us, hl with | [_], _ => rfl)
  have b_need_rows : Binds K fd_need_rows ["rows", "many"] [] := (F_need_rows.binds (ps := ["rows", "many"]) fun _ _ _ _ _ _ us hl => match us, hl with | [_, _], _ => rfl)
  have b_need_sizes : Binds K fd_need_sizes ["languages", "rows"] [] := (F_need_sizes.binds (ps := ["languages", "rows"]) fun _ _ _ _ _ _ us hl => match us, hl with | [_, _], _ => rfl)
  have b_need_sheet : Binds K fd_need_sheet ["value", "part"] [] := (F_need_sheet.binds (ps := ["value", "part"]) fun _ _ _ _ _ _ us hl => match us, hl with | [_, _], _ => rfl)
  have b_need_whole : Binds K fd_need_whole ["value", "part"] [] := (F_need_whole.binds (ps := ["value", "part"]) fun _ _ _ _ _ _ us hl => match us, hl with | [_, _], _ => rfl)
  have b_need_language : Binds K fd_need_language ["sheet", "language"] [] := (F_need_language.binds (ps := ["sheet", "language"]) fun _ _ _ _ _ _ us hl => match us, hl with | [_, _], _ => rfl)
  have b_places_in : Binds K fd_places_in ["rows"] [] := (F_places_in.binds (ps := ["rows"]) fun _ _ _ _ _ _ us hl => match us, hl with | [_], _ => rfl)
  have b_gaps_in : Binds K fd_gaps_in ["languages", "rows"] [] := (F_gaps_in.binds (ps := ["languages", "rows"]) fun _ _ _ _ _ _ us hl => match us, hl with | [_, _], _ => rfl)
  have b_columns_of : Binds K fd_columns_of ["sheet"] [] := (F_columns_of.binds (ps := ["sheet"]) fun _ _ _ _ _ _ us hl => match us, hl with | [_], _ => rfl)
  have b_pairs_of_places : Binds K fd_pairs_of_places ["many"] [] := (F_pairs_of_places.binds (ps := ["many"]) fun _ _ _ _ _ _ us hl => match us, hl with | [_], _ => rfl)
  have b_lots_of_size : Binds K fd_lots_of_size ["many", "size"] [] := (F_lots_of_size.binds (ps := ["many", "size"]) fun _ _ _ _ _ _ us hl => match us, hl with | [_, _], _ => rfl)
  have b_lots_below : Binds K fd_lots_below ["many"] [] := (F_lots_below.binds (ps := ["many"]) fun _ _ _ _ _ _ us hl => match us, hl with | [_], _ => rfl)
  have b_fixed : Binds K fd_fixed ["value"] [] := (F_fixed.binds (ps := ["value"]) fun _ _ _ _ _ _ us hl => match us, hl with | [_], _ => rfl)
  have b_are_equal : Binds K fd_are_equal ["one", "other"] [] := (F_are_equal.binds (ps := ["one", "other"]) fun _ _ _ _ _ _ us hl => match us, hl with | [_, _], _ => rfl)
  have b_is_called : Binds K fd_is_called ["value", "name"] [] := (F_is_called.binds (ps := ["value", "name"]) fun _ _ _ _ _ _ us hl => match us, hl with | [_, _], _ => rfl)
  have b_unlike_columns : Binds K fd_unlike_columns ["columns"] [] := (F_unlike_columns.binds (ps := ["columns"]) fun _ _ _ _ _ _ us hl => match us, hl with | [_], _ => rfl)
  have b_zero_of : Binds K fd_zero_of ["columns"] [] := (F_zero_of.binds (ps := ["columns"]) fun _ _ _ _ _ _ us hl => match us, hl with | [_], _ => rfl)
  have b_zero : Binds K fd_zero ["sheet"] [] := (F_zero.binds (ps := ["sheet"]) fun _ _ _ _ _ _ us hl => match us, hl with | [_], _ => rfl)
  have b_are_parted : Binds K fd_are_parted ["columns", "lot", "place", "other"] [] := (F_are_parted.binds (ps := ["columns", "lot", "place", "other"]) fun _ _ _ _ _ _ us hl => match us, hl with | [_, _, _, _], _ => rfl)
  have b_pairs_not_parted : Binds K fd_pairs_not_parted ["columns", "lot"] [] := (F_pairs_not_parted.binds (ps := ["columns", "lot"]) fun _ _ _ _ _ _ us hl => match us, hl with | [_, _], _ => rfl)
  have b_fewest_languages : Binds K fd_fewest_languages ["sheet"] [] := (F_fewest_languages.binds (ps := ["sheet"]) fun _ _ _ _ _ _ us hl => match us, hl with | [_], _ => rfl)
  have b_least_joined : Binds K fd_least_joined ["dyeing", "other"] [] := (F_least_joined.binds (ps := ["dyeing", "other"]) fun _ _ _ _ _ _ us hl => match us, hl with | [_, _], _ => rfl)
  have b_standing : Binds K fd_standing ["one", "other"] [] := (F_standing.binds (ps := ["one", "other"]) fun _ _ _ _ _ _ us hl => match us, hl with | [_, _], _ => rfl)
  have b_compared : Binds K fd_compared ["sheet", "other"] [] := (F_compared.binds (ps := ["sheet", "other"]) fun _ _ _ _ _ _ us hl => match us, hl with | [_, _], _ => rfl)
  have b_is_pair_among : Binds K fd_is_pair_among ["value", "pairs"] [] := (F_is_pair_among.binds (ps := ["value", "pairs"]) fun _ _ _ _ _ _ us hl => match us, hl with | [_, _], _ => rfl)
  have b_is_telling : Binds K fd_is_telling ["sheet", "value"] [] := (F_is_telling.binds (ps := ["sheet", "value"]) fun _ _ _ _ _ _ us hl => match us, hl with | [_, _], _ => rfl)
  have b_shows_telling : Binds K fd_shows_telling ["sheet", "value"] [] := (F_shows_telling.binds (ps := ["sheet", "value"]) fun _ _ _ _ _ _ us hl => match us, hl with | [_, _], _ => rfl)
  have b__law_reel : Binds K fd__law_reel ["_law_script"] [] := (F__law_reel.binds (ps := ["_law_script"]) fun _ _ _ _ _ _ us hl => match us, hl with | [_], _ => rfl)
  have b__law_spin : Binds K fd__law_spin ["_law_reel_here", "_law_many"] [] := (F__law_spin.binds (ps := ["_law_reel_here", "_law_many"]) fun _ _ _ _ _ _ us hl => match us, hl with | [_, _], _ => rfl)
  have b__law_pick : Binds K fd__law_pick ["_law_reel_here", "_law_some"] [] := (F__law_pick.binds (ps := ["_law_reel_here", "_law_some"]) fun _ _ _ _ _ _ us hl => match us, hl with | [_, _], _ => rfl)
  have b__law_names : Binds K fd__law_names ["_law_reel_here", "_law_many"] [] := (F__law_names.binds (ps := ["_law_reel_here", "_law_many"]) fun _ _ _ _ _ _ us hl => match us, hl with | [_, _], _ => rfl)
  have b__law_signs : Binds K fd__law_signs ["_law_reel_here"] [] := (F__law_signs.binds (ps := ["_law_reel_here"]) fun _ _ _ _ _ _ us hl => match us, hl with | [_], _ => rfl)
  have b__law_rows : Binds K fd__law_rows ["_law_reel_here", "_law_many", "_law_shape", "_law_signs_here"] [] := (F__law_rows.binds (ps := ["_law_reel_here", "_law_many", "_law_shape", "_law_signs_here"]) fun _ _ _ _ _ _ us hl => match us, hl with | [_, _, _, _], _ => rfl)
  have b__law_column : Binds K fd__law_column ["_law_rows_here", "_law_row", "_law_at"] [] := (F__law_column.binds (ps := ["_law_rows_here", "_law_row", "_law_at"]) fun _ _ _ _ _ _ us hl => match us, hl with | [_, _, _], _ => rfl)
  have b__law_columns : Binds K fd__law_columns ["_law_rows_here"] [] := (F__law_columns.binds (ps := ["_law_rows_here"]) fun _ _ _ _ _ _ us hl => match us, hl with | [_], _ => rfl)
  have b__law_sets : Binds K fd__law_sets ["_law_many"] [] := (F__law_sets.binds (ps := ["_law_many"]) fun _ _ _ _ _ _ us hl => match us, hl with | [_], _ => rfl)
  have b__law_left : Binds K fd__law_left ["_law_columns_here", "_law_some"] [] := (F__law_left.binds (ps := ["_law_columns_here", "_law_some"]) fun _ _ _ _ _ _ us hl => match us, hl with | [_, _], _ => rfl)
  have b__law_due : Binds K fd__law_due ["_law_columns_here", "_law_many"] [] := (F__law_due.binds (ps := ["_law_columns_here", "_law_many"]) fun _ _ _ _ _ _ us hl => match us, hl with | [_, _], _ => rfl)
  have b__law_wider_right : Binds K fd__law_wider_right ["_law_reel_here", "_law_sheet", "_law_names_here", "_law_rows_here", "_law_paper"] [] := (F__law_wider_right.binds (ps := ["_law_reel_here", "_law_sheet", "_law_names_here", "_law_rows_here", "_law_paper"]) fun _ _ _ _ _ _ us hl => match us, hl with | [_, _, _, _, _], _ => rfl)
  refine ⟨fd_law, ?_, fun base KB GB => ?_⟩
  · obtain ⟨oc, od, kV, doc, pm, an, cdv, ct, osl, rfl, lk, hcd⟩ := F_law.ex
    exact fun s v => .of_eq rfl
  have E_BadSheet : Rs1 l.prog w K mg base "BadSheet" (cs 0) "part" := ⟨PySem.W.mg_of X G n_BadSheet, o_BadSheet, p_BadSheet_part, f_BadSheet, fi_BadSheet, i_BadSheet, t_BadSheet, ok_i_BadSheet G_BadSheet, b_BadSheet⟩
  have E_BadNumber : Rs1 l.prog w K mg base "BadNumber" (cs 1) "part" := ⟨PySem.W.mg_of X G n_BadNumber, o_BadNumber, p_BadNumber_part, f_BadNumber, fi_BadNumber, i_BadNumber, t_BadNumber, ok_i_BadNumber G_BadNumber, b_BadNumber⟩
  have E_Misfit : Rs1 l.prog w K mg base "Misfit" (cs 2) "part" := ⟨PySem.W.mg_of X G n_Misfit, o_Misfit, p_Misfit_part, f_Misfit, fi_Misfit, i_Misfit, t_Misfit, ok_i_Misfit G_Misfit, b_Misfit⟩
  have E_Twice : Rs1 l.prog w K mg base "Twice" (cs 3) "value" := ⟨PySem.W.mg_of X G n_Twice, o_Twice, p_Twice_value, f_Twice, fi_Twice, i_Twice, t_Twice, ok_i_Twice G_Twice, b_Twice⟩
  have E_NoRow : Rs1 l.prog w K mg base "NoRow" (cs 4) "value" := ⟨PySem.W.mg_of X G n_NoRow, o_NoRow, p_NoRow_value, f_Missing, fi_Missing, i_NoRow, t_Missing, ok_i_Missing G_Missing, b_Missing⟩
  have E_NoLanguage : Rs1 l.prog w K mg base "NoLanguage" (cs 5) "value" := ⟨PySem.W.mg_of X G n_NoLanguage, o_NoLanguage, p_NoLanguage_value, f_Missing, fi_Missing, i_NoLanguage, t_Missing, ok_i_Missing G_Missing, b_Missing⟩
  have E_NoPlace : Rs1 l.prog w K mg base "NoPlace" (cs 6) "value" := ⟨PySem.W.mg_of X G n_NoPlace, o_NoPlace, p_NoPlace_value, f_Missing, fi_Missing, i_NoPlace, t_Missing, ok_i_Missing G_Missing, b_Missing⟩
  have E_TooMany : Rs2 l.prog w K mg base "TooMany" (cs 7) "what" "most" := ⟨PySem.W.mg_of X G n_TooMany, o_TooMany, p_TooMany_what, p_TooMany_most, f_TooMany, fi_TooMany, i_TooMany, t_TooMany, ok_i_TooMany G_TooMany, b_TooMany⟩
  have C_is_integer : Cal l.prog w K mg base 1 "is_integer" st_is_integer ["value"] (spIsInteger K) := ⟨a_is_integer, fd_is_integer, F_is_integer, PySem.W.mg_of X G d_is_integer, b_is_integer, ok_is_integer F_is_integer T⟩
  have C_is_list : Cal l.prog w K mg base 1 "is_list" st_is_list ["value"] (spIsList K) := ⟨a_is_list, fd_is_list, F_is_list, PySem.W.mg_of X G d_is_list, b_is_list, ok_is_list F_is_list T⟩
  have C_is_long_word : Cal l.prog w K mg base 1 "is_long_word" st_is_long_word ["value"] (spIsLongWord K) := ⟨a_is_long_word, fd_is_long_word, F_is_long_word, PySem.W.mg_of X G d_is_long_word, b_is_long_word, ok_is_long_word F_is_long_word T⟩
  have C_is_name : Cal l.prog w K mg base 1 "is_name" st_is_name ["value"] (spIsName K) := ⟨a_is_name, fd_is_name, F_is_name, PySem.W.mg_of X G d_is_name, b_is_name, ok_is_name F_is_name T⟩
  have C_is_numbers : Cal l.prog w K mg base 2 "is_numbers" st_is_numbers ["value"] (spIsNumbers K) := ⟨a_is_numbers, fd_is_numbers, F_is_numbers, PySem.W.mg_of X G d_is_numbers, b_is_numbers, ok_is_numbers F_is_numbers T C_is_list C_is_integer⟩
  have C_first_twice : Cal l.prog w K mg base 1 "first_twice" st_first_twice ["values"] (spFirstTwice K) := ⟨a_first_twice, fd_first_twice, F_first_twice, PySem.W.mg_of X G d_first_twice, b_first_twice, ok_first_twice F_first_twice T⟩
  have C_is_cell : Cal l.prog w K mg base 2 "is_cell" st_is_cell ["value"] (spIsCell K) := ⟨a_is_cell, fd_is_cell, F_is_cell, PySem.W.mg_of X G d_is_cell, b_is_cell, ok_is_cell F_is_cell T C_is_long_word⟩
  have C_is_row : Cal l.prog w K mg base 3 "is_row" st_is_row ["value", "many"] (spIsRow K) := ⟨a_is_row, fd_is_row, F_is_row, PySem.W.mg_of X G d_is_row, b_is_row, ok_is_row F_is_row T C_is_list C_is_cell⟩
  have C_has_cell : Cal l.prog w K mg base 1 "has_cell" st_has_cell ["row"] (spHasCell K) := ⟨a_has_cell, fd_has_cell, F_has_cell, PySem.W.mg_of X G d_has_cell, b_has_cell, ok_has_cell F_has_cell T⟩
  have C_lengths_of : Cal l.prog w K mg base 1 "lengths_of" st_lengths_of ["row"] (spLengths K) := ⟨a_lengths_of, fd_lengths_of, F_lengths_of, PySem.W.mg_of X G d_lengths_of, b_lengths_of, ok_lengths_of F_lengths_of T⟩
  have C_is_even : Cal l.prog w K mg base 2 "is_even" st_is_even ["row"] (spIsEven K) := ⟨a_is_even, fd_is_even, F_is_even, PySem.W.mg_of X G d_is_even, b_is_even, ok_is_even F_is_even T C_lengths_of⟩
  have C_width_of : Cal l.prog w K mg base 2 "width_of" st_width_of ["row"] (spWidth K) := ⟨a_width_of, fd_width_of, F_width_of, PySem.W.mg_of X G d_width_of, b_width_of, ok_width_of F_width_of T C_lengths_of⟩
  have C_need_names : CalX l.prog w K mg base 3 "need_names" st_need_names ["languages"] (spNeedNames K cs) := ⟨a_need_names, fd_need_names, F_need_names, PySem.W.mg_of X G d_need_names, b_need_names, ok_need_names F_need_names T E_BadSheet C_is_list C_is_name⟩
  have C_need_once : CalX l.prog w K mg base 3 "need_once" st_need_once ["values"] (spNeedOnce K cs) := ⟨a_need_once, fd_need_once, F_need_once, PySem.W.mg_of X G d_need_once, b_need_once, ok_need_once F_need_once E_Twice C_first_twice⟩
  have C_need_rows : CalX l.prog w K mg base 4 "need_rows" st_need_rows ["rows", "many"] (spNeedRows K cs) := ⟨a_need_rows, fd_need_rows, F_need_rows, PySem.W.mg_of X G d_need_rows, b_need_rows, ok_need_rows F_need_rows T E_BadSheet C_is_list C_is_row C_has_cell⟩
  have C_need_sizes : CalX l.prog w K mg base 3 "need_sizes" st_need_sizes ["languages", "rows"] (spNeedSizes K cs) := ⟨a_need_sizes, fd_need_sizes, F_need_sizes, PySem.W.mg_of X G d_need_sizes, b_need_sizes, ok_need_sizes F_need_sizes T TC E_Misfit E_TooMany C_is_even C_width_of⟩
  have C_need_sheet : CalX l.prog w K mg base 3 "need_sheet" st_need_sheet ["value", "part"] (spNeedSheet K cs C) := ⟨a_need_sheet, fd_need_sheet, F_need_sheet, PySem.W.mg_of X G d_need_sheet, b_need_sheet, ok_need_sheet F_need_sheet S T U E_BadSheet⟩
  have C_need_whole : CalX l.prog w K mg base 4 "need_whole" st_need_whole ["value", "part"] (spNeedWhole K cs C) := ⟨a_need_whole, fd_need_whole, F_need_whole, PySem.W.mg_of X G d_need_whole, b_need_whole, ok_need_whole F_need_whole S T E_BadSheet C_need_sheet⟩
  have C_need_language : CalX l.prog w K mg base 3 "need_language" st_need_language ["sheet", "language"] (spNeedLang K cs C) := ⟨a_need_language, fd_need_language, F_need_language, PySem.W.mg_of X G d_need_language, b_need_language, ok_need_language F_need_language T S E_NoLanguage⟩
  have C_places_in : Cal l.prog w K mg base 3 "places_in" st_places_in ["rows"] (spPlacesIn K) := ⟨a_places_in, fd_places_in, F_places_in, PySem.W.mg_of X G d_places_in, b_places_in, ok_places_in F_places_in T C_width_of⟩
  have C_gaps_in : Cal l.prog w K mg base 1 "gaps_in" st_gaps_in ["languages", "rows"] (spGapsIn K) := ⟨a_gaps_in, fd_gaps_in, F_gaps_in, PySem.W.mg_of X G d_gaps_in, b_gaps_in, ok_gaps_in F_gaps_in T⟩
  have C_Sheet : CSheet l.prog w K mg base cs C := ⟨f_Sheet, fi_Sheet, mk_Sheet, PySem.W.mg_of X G n_Sheet, b_Sheet, ok_i_Sheet G_Sheet T S C_need_names C_need_once C_need_rows C_need_sizes C_places_in C_gaps_in⟩
  have M_of_languages : K7Y.MetX l.prog w K mg base 7 C "of_languages" ["self", "languages"] (spOfLangsT K cs C) := ⟨m_of_languages, fm_of_languages, cl_Sheet, me_of_languages, bm_of_languages, ok_of_langsT H_of_languages S T C_need_names C_need_language C_Sheet⟩
  have M_joined : K7Y.MetX l.prog w K mg base 7 C "joined" ["self", "other"] (spJoined K cs C) := ⟨m_joined, fm_joined, cl_Sheet, me_joined, bm_joined, ok_joined H_joined S T E_Misfit E_Twice C_need_sheet C_Sheet⟩
  have C_columns_of : Cal l.prog w K mg base 1 "columns_of" st_columns_of ["sheet"] (spColumnsOf K C) := ⟨a_columns_of, fd_columns_of, F_columns_of, PySem.W.mg_of X G d_columns_of, b_columns_of, ok_columns_of F_columns_of S T⟩
  have C_pairs_of_places : Cal l.prog w K mg base 1 "pairs_of_places" st_pairs_of_places ["many"] (spPairs) := ⟨a_pairs_of_places, fd_pairs_of_places, F_pairs_of_places, PySem.W.mg_of X G d_pairs_of_places, b_pairs_of_places, ok_pairs F_pairs_of_places T⟩
  have C_lots_of_size : Cal l.prog w K mg base 1 "lots_of_size" st_lots_of_size ["many", "size"] (spLotsOf) := ⟨a_lots_of_size, fd_lots_of_size, F_lots_of_size, PySem.W.mg_of X G d_lots_of_size, b_lots_of_size, ok_lots_of F_lots_of_size T hcmb⟩
  have C_lots_below : Cal l.prog w K mg base 2 "lots_below" st_lots_below ["many"] (spLotsB) := ⟨a_lots_below, fd_lots_below, F_lots_below, PySem.W.mg_of X G d_lots_below, b_lots_below, ok_lots_below F_lots_below T C_lots_of_size⟩
  have C_fixed0 : Cal l.prog w K mg base 0 "fixed" st_fixed ["value"] (spF K 0) := ⟨a_fixed, fd_fixed, F_fixed, PySem.W.mg_of X G d_fixed, b_fixed, ok_fixed0⟩
  have C_fixed1 : Cal l.prog w K mg base 1 "fixed" st_fixed ["value"] (spF K 1) := ⟨a_fixed, fd_fixed, F_fixed, PySem.W.mg_of X G d_fixed, b_fixed, ok_fixed F_fixed T C_fixed0⟩
  have C_fixed2 : Cal l.prog w K mg base 2 "fixed" st_fixed ["value"] (spF K 2) := ⟨a_fixed, fd_fixed, F_fixed, PySem.W.mg_of X G d_fixed, b_fixed, ok_fixed F_fixed T C_fixed1⟩
  have C_fixed3 : Cal l.prog w K mg base 3 "fixed" st_fixed ["value"] (spF K 3) := ⟨a_fixed, fd_fixed, F_fixed, PySem.W.mg_of X G d_fixed, b_fixed, ok_fixed F_fixed T C_fixed2⟩
  have C_fixed4 : Cal l.prog w K mg base 4 "fixed" st_fixed ["value"] (spF K 4) := ⟨a_fixed, fd_fixed, F_fixed, PySem.W.mg_of X G d_fixed, b_fixed, ok_fixed F_fixed T C_fixed3⟩
  have PI := ok_Paper_init (P := l.prog) (w := w) (base := base) G_Paper T C_fixed4
  obtain ⟨_, _, _, hcell⟩ := su_cell
  have hcc : base.IsCell cc_Z (some (.ref Z)) := ⟨_, KB _ _ hcell, rfl⟩
  have C_Telling : MakS l.prog w K mg base 6 "Telling" "Telling.__init__" st_Telling____init__ Z ["self", "languages", "pairs"] (spZmJ K Z) := ⟨f_Telling, cda_Z, cc_Z, fi_Telling, mk_Telling, PySem.W.mg_of X G n_Telling, G_Telling, b_Telling, ok_ZM_initJ G_Telling ZC SU hcc PI⟩
  have C_are_equal : Cal l.prog w K mg base 1 "are_equal" st_are_equal ["one", "other"] (spAreEq K Z) := ⟨a_are_equal, fd_are_equal, F_are_equal, PySem.W.mg_of X G d_are_equal, b_are_equal, ok_are_equal F_are_equal UE⟩
  have C_is_called : Cal l.prog w K mg base 1 "is_called" st_is_called ["value", "name"] (spIsCalled K Z) := ⟨a_is_called, fd_is_called, F_is_called, PySem.W.mg_of X G d_is_called, b_is_called, ok_is_called F_is_called UE⟩
  have C_unlike_columns : Cal l.prog w K mg base 1 "unlike_columns" st_unlike_columns ["columns"] (spUnlike K) := ⟨a_unlike_columns, fd_unlike_columns, F_unlike_columns, PySem.W.mg_of X G d_unlike_columns, b_unlike_columns, ok_unlike F_unlike_columns T⟩
  have C_zero_of : Cal l.prog w K mg base 2 "zero_of" st_zero_of ["columns"] (spZeroOf K) := ⟨a_zero_of, fd_zero_of, F_zero_of, PySem.W.mg_of X G d_zero_of, b_zero_of, ok_zero_of F_zero_of T C_unlike_columns⟩
  have C_zero : CalX l.prog w K mg base 5 "zero" st_zero ["sheet"] (spZero K cs C) := ⟨a_zero, fd_zero, F_zero, PySem.W.mg_of X G d_zero, b_zero, ok_zero F_zero T C_need_whole C_columns_of C_zero_of⟩
  have C_are_parted : Cal l.prog w K mg base 1 "are_parted" st_are_parted ["columns", "lot", "place", "other"] (spParted K) := ⟨a_are_parted, fd_are_parted, F_are_parted, PySem.W.mg_of X G d_are_parted, b_are_parted, ok_parted F_are_parted T⟩
  have C_pairs_not_parted : Cal l.prog w K mg base 2 "pairs_not_parted" st_pairs_not_parted ["columns", "lot"] (spNotP K) := ⟨a_pairs_not_parted, fd_pairs_not_parted, F_pairs_not_parted, PySem.W.mg_of X G d_pairs_not_parted, b_pairs_not_parted, ok_notP F_pairs_not_parted T C_pairs_of_places C_are_parted⟩
  have C_fewest_languages : CalX l.prog w K mg base 8 "fewest_languages" st_fewest_languages ["sheet"] (spFewest K cs C Z) := ⟨a_fewest_languages, fd_fewest_languages, F_fewest_languages, PySem.W.mg_of X G d_fewest_languages, b_fewest_languages, ok_fewest F_fewest_languages T S C_need_whole C_columns_of C_lots_below C_pairs_not_parted C_Telling.plain⟩
  have C_least_joined : Cal l.prog w K mg base 2 "least_joined" st_least_joined ["dyeing", "other"] (spLeastJ K) := ⟨a_least_joined, fd_least_joined, F_least_joined, PySem.W.mg_of X G d_least_joined, b_least_joined, ok_least_joined F_least_joined T C_pairs_of_places⟩
  have C_standing : Cal l.prog w K mg base 1 "standing" st_standing ["one", "other"] (spStanding K) := ⟨a_standing, fd_standing, F_standing, PySem.W.mg_of X G d_standing, b_standing, ok_standing F_standing ⟩
  have C_compared : CalX l.prog w K mg base 5 "compared" st_compared ["sheet", "other"] (spComp K cs C) := ⟨a_compared, fd_compared, F_compared, PySem.W.mg_of X G d_compared, b_compared, ok_comp F_compared S T E_Misfit C_need_whole C_columns_of C_zero_of C_least_joined C_standing⟩
  have C_is_pair_among : Cal l.prog w K mg base 3 "is_pair_among" st_is_pair_among ["value", "pairs"] (spAmong K) := ⟨a_is_pair_among, fd_is_pair_among, F_is_pair_among, PySem.W.mg_of X G d_is_pair_among, b_is_pair_among, ok_among F_is_pair_among T C_is_numbers⟩
  have C_is_telling : Cal l.prog w K mg base 8 "is_telling" st_is_telling ["sheet", "value"] (spIsTelling K C Z) := ⟨a_is_telling, fd_is_telling, F_is_telling, PySem.W.mg_of X G d_is_telling, b_is_telling, ok_is_telling F_is_telling T S UE C_columns_of C_lots_below C_is_list C_pairs_not_parted C_is_pair_among⟩
  have C_shows_telling : CalX l.prog w K mg base 9 "shows_telling" st_shows_telling ["sheet", "value"] (spShows K C Z) := ⟨a_shows_telling, fd_shows_telling, F_shows_telling, PySem.W.mg_of X G d_shows_telling, b_shows_telling, ok_shows F_shows_telling T S UE C_need_whole C_is_called C_is_telling⟩
  have C__law_reel : Cal l.prog w K mg base 1 "_law_reel" st_l_reel ["_law_script"] (spReel K) := ⟨a__law_reel, fd__law_reel, F__law_reel, PySem.W.mg_of X G d__law_reel, b__law_reel, ok_reel F__law_reel T⟩
  have C__law_spin : Cal l.prog w K mg base 1 "_law_spin" st_l_spin ["_law_reel_here", "_law_many"] (spSpin K) := ⟨a__law_spin, fd__law_spin, F__law_spin, PySem.W.mg_of X G d__law_spin, b__law_spin, ok_spin F__law_spin T⟩
  have C__law_pick : Cal l.prog w K mg base 2 "_law_pick" st_l_pick ["_law_reel_here", "_law_some"] (spPick K) := ⟨a__law_pick, fd__law_pick, F__law_pick, PySem.W.mg_of X G d__law_pick, b__law_pick, ok_pick F__law_pick T C__law_spin⟩
  have C__law_names : Cal l.prog w K mg base 3 "_law_names" st_l_names ["_law_reel_here", "_law_many"] (spNames K) := ⟨a__law_names, fd__law_names, F__law_names, PySem.W.mg_of X G d__law_names, b__law_names, ok_names F__law_names T C__law_spin C__law_pick⟩
  have C__law_signs : Cal l.prog w K mg base 3 "_law_signs" st_l_signs ["_law_reel_here"] (spSigns K) := ⟨a__law_signs, fd__law_signs, F__law_signs, PySem.W.mg_of X G d__law_signs, b__law_signs, ok_signs F__law_signs C__law_pick⟩
  have C__law_rows : Cal l.prog w K mg base 3 "_law_rows" st_l_rows ["_law_reel_here", "_law_many", "_law_shape", "_law_signs_here"] (spRows K) := ⟨a__law_rows, fd__law_rows, F__law_rows, PySem.W.mg_of X G d__law_rows, b__law_rows, ok_rows F__law_rows T C__law_spin C__law_pick⟩
  have C__law_column : Cal l.prog w K mg base 1 "_law_column" st_l_column ["_law_rows_here", "_law_row", "_law_at"] (spLColumn K) := ⟨a__law_column, fd__law_column, F__law_column, PySem.W.mg_of X G d__law_column, b__law_column, ok_lcolumn F__law_column T⟩
  have C__law_columns : Cal l.prog w K mg base 2 "_law_columns" st_l_columns ["_law_rows_here"] (spLColumns K) := ⟨a__law_columns, fd__law_columns, F__law_columns, PySem.W.mg_of X G d__law_columns, b__law_columns, ok_lcolumns F__law_columns T C__law_column⟩
  have C__law_sets : Cal l.prog w K mg base 1 "_law_sets" st_l_sets ["_law_many"] (spSets) := ⟨a__law_sets, fd__law_sets, F__law_sets, PySem.W.mg_of X G d__law_sets, b__law_sets, ok_sets F__law_sets T⟩
  have C__law_left : Cal l.prog w K mg base 1 "_law_left" st_l_left ["_law_columns_here", "_law_some"] (spLeft K) := ⟨a__law_left, fd__law_left, F__law_left, PySem.W.mg_of X G d__law_left, b__law_left, ok_left F__law_left T⟩
  have C__law_due : Cal l.prog w K mg base 2 "_law_due" st_l_due ["_law_columns_here", "_law_many"] (spDue K) := ⟨a__law_due, fd__law_due, F__law_due, PySem.W.mg_of X G d__law_due, b__law_due, ok_due F__law_due T C__law_sets C__law_left⟩
  have C__law_wider_right : Cal l.prog w K mg base 9 "_law_wider_right" st_l_wider_right ["_law_reel_here", "_law_sheet", "_law_names_here", "_law_rows_here", "_law_paper"] (spWider K C Z) := ⟨a__law_wider_right, fd__law_wider_right, F__law_wider_right, PySem.W.mg_of X G d__law_wider_right, b__law_wider_right, ok_wider F__law_wider_right T S UE C__law_signs C__law_rows C_Sheet M_joined C_compared C_zero C_fewest_languages⟩
  have Q_eq := ok_Paper_eq (P := l.prog) (w := w) (base := base) G_Peq T UE C_are_equal
  have Q_bool := ok_Paper_bool (P := l.prog) (w := w) (K := K) (mg := mg) (base := base) G_Pbo
  exact ok_law F_law T S UF Q_eq b_Peq Q_bool b_Pbo C__law_reel C__law_spin C__law_names C__law_signs C__law_rows C__law_columns C__law_due C_fewest_languages C_zero M_of_languages C_shows_telling C_Sheet C_Telling C__law_wider_right
theorem walk {l : PySem.W.OpenLaw} {q : Program} {loose : List Str} {XP : (Str → Option Value) → Heap → Prop} {YP : World → Heap → Prop} {d : DefRec} {K : Params → PySem.W.Frag} (hn : l.most = some 63) (hdf : d.params.defaults = [])
    (hY : ∀ (w : World) (h : Heap), YP w h → (K w.params).In h)
    (F : ∀ (w : World) (mg : Str → Option Value) (fa : Addr) (h : Heap), (K w.params).In h → h.Ns mainGlobals mg → mg d.name = some (.ref fa) →
      ∃ fd : FuncData, (∀ (s : Shared) (u : Value), BindsTo s fd ⟨[u], []⟩ [("_law_script", u)]) ∧ ∀ base : Heap, (K w.params).In base → base.Ns mainGlobals mg → FnOk l.prog w (K w.params) mg base CX0 12 fa fd ["_law_script"] (spLaw (K w.params))) :
    PySem.W.WalkO q loose XP YP l.row.toRowW d [] (fun f vs => PySem.call f vs) :=
  L2.walk_of (n := 63) (k := 12) (x := "_law_script") (CX := fun _ => CX0) (sp := fun w => spLaw (K w.params)) hn (by decide) hdf ⟨rfl, by decide, by decide⟩ hY F (fun _ _ a ns hl _ hS => ⟨a, ns, rfl, hS, hl, fun _ => rfl⟩) fun _ _ _ _ _ z => z
end K6
open PySem PySem.W PyProof.Rows
namespace K6
theorem split3 {a b c d : Type _} {o : Option a} {f : a → b} {g : a → c} {h : a → d} {x : b} {y : c} {z : d} (h1 : o.map f = some x) (h2 : o.map g = some y) (h3 : o.map h = some z) : o.map (fun q => (f q, g q, h q)) = some (x, y, z) := by
  cases o with
  | none => cases h1
  | some q =>
    cases h1
    cases h2
    cases h3
    rfl
end K6
namespace K6
theorem split2 {a b c : Type _} {o : Option a} {f : a → b × c} {v : b × c} (h1 : o.map (fun q => (f q).1) = some v.1) (h2 : o.map (fun q => (f q).2) = some v.2) : o.map f = some v := by
  cases o with
  | none => cases h1
  | some q =>
    have e1 := Option.some.inj h1
    have e2 := Option.some.inj h2
    exact congrArg some (Prod.ext e1 e2)
open HeadRun PySem.W.Fast in
theorem seen9 {q : Program} {loose mods : List Str} {Xt : Shared → Bool} {o : Option (Shared × SharedT)}
    (h1 : o.map (fun x => (seenQ q loose mods Xt x.2.abs).1) = some (expectedOf q))
    (h2 : o.map (fun x => (seenQ q loose mods Xt x.2.abs).2.1) = some bltViewBooted)
    (h3 : o.map (fun x => (seenQ q loose mods Xt x.2.abs).2.2.1) = some true)
    (h4 : o.map (fun x => (seenQ q loose mods Xt x.2.abs).2.2.2.1) = some true)
    (h5 : o.map (fun x => (seenQ q loose mods Xt x.2.abs).2.2.2.2.1) = some (pinGoodD (tw3247288618530077131 q)))
    (h6 : o.map (fun x => (seenQ q loose mods Xt x.2.abs).2.2.2.2.2.1) = some ((tw210736558901404530 q (tw821141287760084731 q loose)).map fun c => some (tw12515865711710729776 c).plainShape))
    (h7 : o.map (fun x => (seenQ q loose mods Xt x.2.abs).2.2.2.2.2.2.1) = some (plainGoodD q loose))
    (h8 : o.map (fun x => (seenQ q loose mods Xt x.2.abs).2.2.2.2.2.2.2.1) = some ((tw694669760492028198 q).map (fun d => some d.1.shape), true))
    (h9 : o.map (fun x => (seenQ q loose mods Xt x.2.abs).2.2.2.2.2.2.2.2) = some ((tw1571739515156823405 q loose).map fun c => (wclsGood c, (some (c.plainShape, true) : Option (PlainShape × Bool))))) : o.map (fun x => seenQ q loose mods Xt x.2.abs) = some (openGood q loose) := by
  rw [← te3247288618530077131] at h5
  rw [← te210736558901404530, ← te821141287760084731, ← te12515865711710729776] at h6
  rw [← te694669760492028198] at h8
  rw [← te1571739515156823405] at h9
  exact split2 h1 (split2 h2 (split2 h3 (split2 h4 (split2 h5 (split2 h6 (split2 h7 (split2 h8 h9)))))))
def hd1 {a : Type _} (l : List a) : Option a := match l with
  | [] => none
  | x :: _ => some x
def tl1 {a : Type _} (l : List a) : List a := match l with
  | [] => []
  | _ :: r => r
theorem split_hd {a b : Type _} {o : Option a} {f : a → List b} {v : List b} (h1 : o.map (fun q => (f q).head?) = some (hd1 v)) (h2 : o.map (fun q => (f q).tail) = some (tl1 v)) : o.map f = some v := by
  cases o with
  | none => cases h1
  | some q =>
    have e1 : (f q).head? = hd1 v := Option.some.inj h1
    have e2 : (f q).tail = tl1 v := Option.some.inj h2
    refine congrArg some ?_
    show f q = v
    cases hf : f q with
    | nil =>
      rw [hf] at e1
      cases v with
      | nil => rfl
      | cons x r => cases e1
    | cons y s =>
      rw [hf] at e1 e2
      cases v with
      | nil => cases e1
      | cons x r =>
        cases e1
        have e2 : s = r := e2
        rw [e2]
def tkA {a : Type _} (n : Nat) (l : List a) : List a := match n with
  | 0 => []
  | m + 1 => match l with
    | [] => []
    | x :: r => x :: tkA m r
def drA {a : Type _} (n : Nat) (l : List a) : List a := match n with
  | 0 => l
  | m + 1 => match l with
    | [] => []
    | _ :: r => drA m r
theorem tkA_eq {a : Type _} : ∀ (n : Nat) (l : List a), tkA n l = l.take n
  | 0, _ => rfl
  | _ + 1, [] => rfl
  | m + 1, x :: r => congrArg (x :: ·) (tkA_eq m r)
theorem drA_eq {a : Type _} : ∀ (n : Nat) (l : List a), drA n l = l.drop n
  | 0, _ => rfl
  | _ + 1, [] => rfl
  | m + 1, _ :: r => drA_eq m r
theorem split_seen {a : Type _} {o : Option a} {f : a → Seen} {p : Program} (h1 : o.map (fun q => (f q).defs.take 30) = some (tkA 30 ((PySem.W.Fast.tw3399658132070893891 p).map fun d => some d.shape))) (h2 : o.map (fun q => (f q).defs.drop 30) = some (drA 30 ((PySem.W.Fast.tw3399658132070893891 p).map fun d => some d.shape)))
    (h3 : o.map (fun q => (f q).ownsOk) = some true) (h4 : o.map (fun q => ((f q).names, (f q).globalsOk, (f q).builtinsOk, (f q).noLimit, (f q).gens)) = some ([], true, true, true, 0)) : o.map f = some (expectedOf p) := by
  cases o with
  | none => cases h1
  | some q =>
    have e1 : (f q).defs.take 30 = tkA 30 ((PySem.W.Fast.tw3399658132070893891 p).map fun d => some d.shape) := Option.some.inj h1
    have e2 : (f q).defs.drop 30 = drA 30 ((PySem.W.Fast.tw3399658132070893891 p).map fun d => some d.shape) := Option.some.inj h2
    have e3 : (f q).ownsOk = true := Option.some.inj h3
    have e4 : ((f q).names, (f q).globalsOk, (f q).builtinsOk, (f q).noLimit, (f q).gens) = ([], true, true, true, 0) := Option.some.inj h4
    refine congrArg some ?_
    show f q = expectedOf p
    rw [← PySem.W.Fast.te3399658132070893891] at e1 e2
    rw [tkA_eq] at e1
    rw [drA_eq] at e2
    have e5 : (f q).defs = (recsOf p).map fun d => some d.shape := by
      rw [← List.take_append_drop 30 (f q).defs, e1, e2, List.take_append_drop]
    generalize f q = s at e3 e4 e5
    obtain ⟨s1, s2, s3, s4, s5, s6, s7⟩ := s
    cases e3
    cases e4
    cases e5
    rfl
class HeldP (p : Prop) : Prop where
  out : p
abbrev dn {p : Prop} (_ : ¬ p) : Prop := p
theorem heldNo {p : Prop} (h : ¬ p) (i : HeldP (dn h)) : False := h i.out
end K6
local macro_rules
  | `(tactic| kernel_rfl%$tk) => do
    if let .atom (.synthetic ⟨7⟩ ⟨7⟩ _) _ := tk then Lean.Macro.throwUnsupported
    let k : Lean.TSyntax `tactic := ⟨Lean.Syntax.node .none `tacticKernel_rfl #[Lean.Syntax.atom (.synthetic ⟨7⟩ ⟨7⟩) "kernel_rfl"]⟩
    `(tactic| first | ((with_reducible refine K6.split3 ?_ (K6.seen9 (K6.split_seen ?_ ?_ ?_ ?_) ?_ ?_ ?_ ?_ (K6.split_hd ?_ ?_) ?_ ?_ ?_) ?_) <;> (apply Classical.byContradiction; intro hn; letI i : K6.HeldP (K6.dn hn) := ⟨by $k:tactic⟩; exact K6.heldNo hn (inferInstanceAs (K6.HeldP (K6.dn hn))))) | $k:tactic)
set_option maxHeartbeats 0 in
theorem PySem.Challenge.cw_foretongue_k31_the_fewest_languages_that_holds : PySem.Challenge.rw_foretongue_k31_the_fewest_languages_that.Holds := by
  w_on; o_law; k_headL; (case hw => w_witness2)
  k_fill
  refine K6.walk (l := PySem.Challenge.rw_foretongue_k31_the_fewest_languages_that) rfl rfl (fun w h Y => PySem.W.kIn_of Y) ?F
  case F =>
    intro w mg fa h KX G hmg
    refine' K6.all_mk KX G hmg ?z_len ?z_isinstance ?z_int ?z_bool ?z_str ?z_list ?z_tuple ?z_all ?z_any ?z_zip ?z_abs ?z_range ?z_enumerate ?z_set ?z_min ?z_max ?z_sum ?z_repr ?z_super ?k_MOST_LANGUAGES ?k_MOST_ROWS ?k_MOST_PLACES ?n_BadSheet ?o_BadSheet ?i_BadSheet ?p_BadSheet_part ?n_BadNumber ?o_BadNumber ?i_BadNumber ?p_BadNumber_part ?n_Misfit ?o_Misfit ?i_Misfit ?p_Misfit_part ?n_Twice ?o_Twice ?i_Twice ?p_Twice_value ?n_NoRow ?o_NoRow ?i_NoRow ?p_NoRow_value ?n_NoLanguage ?o_NoLanguage ?i_NoLanguage ?p_NoLanguage_value ?n_NoPlace ?o_NoPlace ?i_NoPlace ?p_NoPlace_value ?n_TooMany ?o_TooMany ?i_TooMany ?p_TooMany_what ?p_TooMany_most ?t_BadSheet ?G_BadSheet ?t_BadNumber ?G_BadNumber ?t_Misfit ?G_Misfit ?t_Twice ?G_Twice ?t_Missing ?G_Missing ?t_TooMany ?G_TooMany ?n_Sheet ?cl_Sheet ?na_Sheet_languages ?na_Sheet_rows ?na_Sheet_places ?na_Sheet_gaps ?na_Sheet_is_whole ?mk_Sheet ?G_Sheet ?ks_ha ?ks_hn ?ks_ht ?ks_hm ?me_of_languages ?H_of_languages ?me_joined ?H_joined ?n_Telling ?cl_Telling ?na_Telling_kind ?na_Telling_parts ?na_Telling_languages ?na_Telling_pairs ?mk_Telling ?G_Telling ?su_cell ?su_code ?su_cls ?su_sub ?su_opq ?su_found ?su_fn ?su_fi ?su_top ?G_Paper ?n_Paper ?n_comb ?zn_pg ?zn_hd ?zn_fi ?zn_mro ?zn_rd ?zn_fn ?zn_ty ?zn_nm ?zn_kP ?zn_ne ?zn_eq ?zn_ef ?zn_bo ?zn_bf ?G_Peq ?G_Pbo ?d_is_integer ?d_is_list ?d_is_long_word ?d_is_name ?d_is_numbers ?d_first_twice ?d_is_cell ?d_is_row ?d_has_cell ?d_lengths_of ?d_is_even ?d_width_of ?d_need_names ?d_need_once ?d_need_rows ?d_need_sizes ?d_need_sheet ?d_need_whole ?d_need_language ?d_places_in ?d_gaps_in ?d_columns_of ?d_pairs_of_places ?d_lots_of_size ?d_lots_below ?d_fixed ?d_are_equal ?d_is_called ?d_unlike_columns ?d_zero_of ?d_zero ?d_are_parted ?d_pairs_not_parted ?d_fewest_languages ?d_least_joined ?d_standing ?d_compared ?d_is_pair_among ?d_is_telling ?d_shows_telling ?d__law_reel ?d__law_spin ?d__law_pick ?d__law_names ?d__law_signs ?d__law_rows ?d__law_column ?d__law_columns ?d__law_sets ?d__law_left ?d__law_due ?d__law_wider_right ?d_law ?F_is_integer ?F_is_list ?F_is_long_word ?F_is_name ?F_is_numbers ?F_first_twice ?F_is_cell ?F_is_row ?F_has_cell ?F_lengths_of ?F_is_even ?F_width_of ?F_need_names ?F_need_once ?F_need_rows ?F_need_sizes ?F_need_sheet ?F_need_whole ?F_need_language ?F_places_in ?F_gaps_in ?F_columns_of ?F_pairs_of_places ?F_lots_of_size ?F_lots_below ?F_fixed ?F_are_equal ?F_is_called ?F_unlike_columns ?F_zero_of ?F_zero ?F_are_parted ?F_pairs_not_parted ?F_fewest_languages ?F_least_joined ?F_standing ?F_compared ?F_is_pair_among ?F_is_telling ?F_shows_telling ?F__law_reel ?F__law_spin ?F__law_pick ?F__law_names ?F__law_signs ?F__law_rows ?F__law_column ?F__law_columns ?F__law_sets ?F__law_left ?F__law_due ?F__law_wider_right ?F_law
    (case z_len => k_is)
    (case z_isinstance => k_is)
    (case z_int => k_is)
    (case z_bool => k_is)
    (case z_str => k_is)
    (case z_list => k_is)
    (case z_tuple => k_is)
    (case z_all => k_is)
    (case z_any => k_is)
    (case z_zip => k_is)
    (case z_abs => k_is)
    (case z_range => k_is)
    (case z_enumerate => k_is)
    (case z_set => k_is)
    (case z_min => k_is)
    (case z_max => k_is)
    (case z_sum => k_is)
    (case z_repr => k_is)
    (case z_super => k_is)
    (case k_MOST_LANGUAGES => k_is)
    (case k_MOST_ROWS => k_is)
    (case k_MOST_PLACES => k_is)
    (case n_BadSheet => k_is)
    (case o_BadSheet => refine' ⟨⟨_, _, _, _, [.ref _, .type "ValueError", .type "Exception", .type "BaseException", .type "object"], _, _, _, _, _, _, _, _, _, _, ?x_o_BadSheet, ?r_o_BadSheet⟩, ?s_o_BadSheet, ?e_o_BadSheet, ?t_o_BadSheet, ?k_o_BadSheet⟩; (case x_o_BadSheet => exact rfl); (case r_o_BadSheet => decide +kernel); (case s_o_BadSheet => k_is); (case e_o_BadSheet => k_is); (case t_o_BadSheet => k_is); (case k_o_BadSheet => k_is))
    (case i_BadSheet => k_is)
    (case p_BadSheet_part => k_is)
    (case n_BadNumber => k_is)
    (case o_BadNumber => refine' ⟨⟨_, _, _, _, [.ref _, .type "ValueError", .type "Exception", .type "BaseException", .type "object"], _, _, _, _, _, _, _, _, _, _, ?x_o_BadNumber, ?r_o_BadNumber⟩, ?s_o_BadNumber, ?e_o_BadNumber, ?t_o_BadNumber, ?k_o_BadNumber⟩; (case x_o_BadNumber => exact rfl); (case r_o_BadNumber => decide +kernel); (case s_o_BadNumber => k_is); (case e_o_BadNumber => k_is); (case t_o_BadNumber => k_is); (case k_o_BadNumber => k_is))
    (case i_BadNumber => k_is)
    (case p_BadNumber_part => k_is)
    (case n_Misfit => k_is)
    (case o_Misfit => refine' ⟨⟨_, _, _, _, [.ref _, .type "ValueError", .type "Exception", .type "BaseException", .type "object"], _, _, _, _, _, _, _, _, _, _, ?x_o_Misfit, ?r_o_Misfit⟩, ?s_o_Misfit, ?e_o_Misfit, ?t_o_Misfit, ?k_o_Misfit⟩; (case x_o_Misfit => exact rfl); (case r_o_Misfit => decide +kernel); (case s_o_Misfit => k_is); (case e_o_Misfit => k_is); (case t_o_Misfit => k_is); (case k_o_Misfit => k_is))
    (case i_Misfit => k_is)
    (case p_Misfit_part => k_is)
    (case n_Twice => k_is)
    (case o_Twice => refine' ⟨⟨_, _, _, _, [.ref _, .type "ValueError", .type "Exception", .type "BaseException", .type "object"], _, _, _, _, _, _, _, _, _, _, ?x_o_Twice, ?r_o_Twice⟩, ?s_o_Twice, ?e_o_Twice, ?t_o_Twice, ?k_o_Twice⟩; (case x_o_Twice => exact rfl); (case r_o_Twice => decide +kernel); (case s_o_Twice => k_is); (case e_o_Twice => k_is); (case t_o_Twice => k_is); (case k_o_Twice => k_is))
    (case i_Twice => k_is)
    (case p_Twice_value => k_is)
    (case n_NoRow => k_is)
    (case o_NoRow => refine' ⟨⟨_, _, _, _, [.ref _, .ref _, .type "ValueError", .type "Exception", .type "BaseException", .type "object"], _, _, _, _, _, _, _, _, _, _, ?x_o_NoRow, ?r_o_NoRow⟩, ?s_o_NoRow, ?e_o_NoRow, ?t_o_NoRow, ?k_o_NoRow⟩; (case x_o_NoRow => exact rfl); (case r_o_NoRow => decide +kernel); (case s_o_NoRow => k_is); (case e_o_NoRow => k_is); (case t_o_NoRow => k_is); (case k_o_NoRow => k_is))
    (case i_NoRow => k_is)
    (case p_NoRow_value => k_is)
    (case n_NoLanguage => k_is)
    (case o_NoLanguage => refine' ⟨⟨_, _, _, _, [.ref _, .ref _, .type "ValueError", .type "Exception", .type "BaseException", .type "object"], _, _, _, _, _, _, _, _, _, _, ?x_o_NoLanguage, ?r_o_NoLanguage⟩, ?s_o_NoLanguage, ?e_o_NoLanguage, ?t_o_NoLanguage, ?k_o_NoLanguage⟩; (case x_o_NoLanguage => exact rfl); (case r_o_NoLanguage => decide +kernel); (case s_o_NoLanguage => k_is); (case e_o_NoLanguage => k_is); (case t_o_NoLanguage => k_is); (case k_o_NoLanguage => k_is))
    (case i_NoLanguage => k_is)
    (case p_NoLanguage_value => k_is)
    (case n_NoPlace => k_is)
    (case o_NoPlace => refine' ⟨⟨_, _, _, _, [.ref _, .ref _, .type "ValueError", .type "Exception", .type "BaseException", .type "object"], _, _, _, _, _, _, _, _, _, _, ?x_o_NoPlace, ?r_o_NoPlace⟩, ?s_o_NoPlace, ?e_o_NoPlace, ?t_o_NoPlace, ?k_o_NoPlace⟩; (case x_o_NoPlace => exact rfl); (case r_o_NoPlace => decide +kernel); (case s_o_NoPlace => k_is); (case e_o_NoPlace => k_is); (case t_o_NoPlace => k_is); (case k_o_NoPlace => k_is))
    (case i_NoPlace => k_is)
    (case p_NoPlace_value => k_is)
    (case n_TooMany => k_is)
    (case o_TooMany => refine' ⟨⟨_, _, _, _, [.ref _, .type "ValueError", .type "Exception", .type "BaseException", .type "object"], _, _, _, _, _, _, _, _, _, _, ?x_o_TooMany, ?r_o_TooMany⟩, ?s_o_TooMany, ?e_o_TooMany, ?t_o_TooMany, ?k_o_TooMany⟩; (case x_o_TooMany => exact rfl); (case r_o_TooMany => decide +kernel); (case s_o_TooMany => k_is); (case e_o_TooMany => k_is); (case t_o_TooMany => k_is); (case k_o_TooMany => k_is))
    (case i_TooMany => k_is)
    (case p_TooMany_what => k_is)
    (case p_TooMany_most => k_is)
    (case t_BadSheet => k_is)
    (case G_BadSheet => refine' ⟨_, L2.fun_mk ?l_G_BadSheet ?c_G_BadSheet ?k_G_BadSheet⟩; (case l_G_BadSheet => k_is); (case c_G_BadSheet => k_is); (case k_G_BadSheet => k_is))
    (case t_BadNumber => k_is)
    (case G_BadNumber => refine' ⟨_, L2.fun_mk ?l_G_BadNumber ?c_G_BadNumber ?k_G_BadNumber⟩; (case l_G_BadNumber => k_is); (case c_G_BadNumber => k_is); (case k_G_BadNumber => k_is))
    (case t_Misfit => k_is)
    (case G_Misfit => refine' ⟨_, L2.fun_mk ?l_G_Misfit ?c_G_Misfit ?k_G_Misfit⟩; (case l_G_Misfit => k_is); (case c_G_Misfit => k_is); (case k_G_Misfit => k_is))
    (case t_Twice => k_is)
    (case G_Twice => refine' ⟨_, L2.fun_mk ?l_G_Twice ?c_G_Twice ?k_G_Twice⟩; (case l_G_Twice => k_is); (case c_G_Twice => k_is); (case k_G_Twice => k_is))
    (case t_Missing => k_is)
    (case G_Missing => refine' ⟨_, L2.fun_mk ?l_G_Missing ?c_G_Missing ?k_G_Missing⟩; (case l_G_Missing => k_is); (case c_G_Missing => k_is); (case k_G_Missing => k_is))
    (case t_TooMany => k_is)
    (case G_TooMany => refine' ⟨_, L2.fun_mk ?l_G_TooMany ?c_G_TooMany ?k_G_TooMany⟩; (case l_G_TooMany => k_is); (case c_G_TooMany => k_is); (case k_G_TooMany => k_is))
    (case n_Sheet => k_is)
    (case cl_Sheet => refine' ⟨?a_cl_Sheet, ?b_cl_Sheet, ?d_cl_Sheet, ?e_cl_Sheet⟩; (case a_cl_Sheet => k_is); (case b_cl_Sheet => k_is); (case d_cl_Sheet => k_is); (case e_cl_Sheet => k_is))
    (case na_Sheet_languages => k_is)
    (case na_Sheet_rows => k_is)
    (case na_Sheet_places => k_is)
    (case na_Sheet_gaps => k_is)
    (case na_Sheet_is_whole => k_is)
    (case mk_Sheet => refine' ⟨?a_mk_Sheet, ?b_mk_Sheet, ?d_mk_Sheet, ?e_mk_Sheet⟩; (case a_mk_Sheet => k_is); (case b_mk_Sheet => k_is); (case d_mk_Sheet => k_is); (case e_mk_Sheet => k_is))
    (case G_Sheet => refine' ⟨_, L2.fun_mk ?l_G_Sheet ?c_G_Sheet ?k_G_Sheet⟩; (case l_G_Sheet => k_is); (case c_G_Sheet => k_is); (case k_G_Sheet => k_is))
    (case ks_ha => k_is)
    (case ks_hn => k_is)
    (case ks_ht => k_is)
    (case ks_hm => k_is)
    (case me_of_languages => refine' ⟨?a_me_of_languages, ?b_me_of_languages, ?d_me_of_languages⟩; (case a_me_of_languages => k_is); (case b_me_of_languages => k_is); (case d_me_of_languages => k_is))
    (case H_of_languages => refine' ⟨_, L2.fun_mk ?l_H_of_languages ?c_H_of_languages ?k_H_of_languages⟩; (case l_H_of_languages => k_is); (case c_H_of_languages => k_is); (case k_H_of_languages => k_is))
    (case me_joined => refine' ⟨?a_me_joined, ?b_me_joined, ?d_me_joined⟩; (case a_me_joined => k_is); (case b_me_joined => k_is); (case d_me_joined => k_is))
    (case H_joined => refine' ⟨_, L2.fun_mk ?l_H_joined ?c_H_joined ?k_H_joined⟩; (case l_H_joined => k_is); (case c_H_joined => k_is); (case k_H_joined => k_is))
    (case n_Telling => k_is)
    (case cl_Telling => refine' ⟨?a_cl_Telling, ?b_cl_Telling, ?d_cl_Telling, ?e_cl_Telling⟩; (case a_cl_Telling => k_is); (case b_cl_Telling => k_is); (case d_cl_Telling => k_is); (case e_cl_Telling => k_is))
    (case na_Telling_kind => k_is)
    (case na_Telling_parts => k_is)
    (case na_Telling_languages => k_is)
    (case na_Telling_pairs => k_is)
    (case mk_Telling => refine' ⟨?a_mk_Telling, ?b_mk_Telling, ?d_mk_Telling, ?e_mk_Telling⟩; (case a_mk_Telling => k_is); (case b_mk_Telling => k_is); (case d_mk_Telling => k_is); (case e_mk_Telling => k_is))
    (case G_Telling => refine' ⟨_, K6.funS_mk ?l_G_Telling ?c_G_Telling⟩; (case l_G_Telling => k_is); (case c_G_Telling => k_is))
    (case su_cell => refine' K6.cell_mk ?l_su_cell; (case l_su_cell => k_is))
    (case su_code => refine' K6.code_mk ?l_su_code ?c_su_code ?k_su_code; (case l_su_code => k_is); (case c_su_code => exact rfl); (case k_su_code => first | exact rfl | decide +kernel))
    (case su_cls => refine' K6.cls_mk ?l_su_cls; (case l_su_cls => k_is))
    (case su_sub => k_is)
    (case su_opq => k_is)
    (case su_found => ks_is)
    (case su_fn => k_is)
    (case su_fi => k_is)
    (case su_top => first | exact rfl | decide +kernel)
    (case G_Paper => refine' ⟨_, L2.fun_mk ?l_G_Paper ?c_G_Paper ?k_G_Paper⟩; (case l_G_Paper => k_is); (case c_G_Paper => k_is); (case k_G_Paper => k_is))
    (case n_Paper => k_is)
    (case n_comb => k_is)
    (case zn_pg => k_is)
    (case zn_hd => k_is)
    (case zn_fi => k_is)
    (case zn_mro => k_is)
    (case zn_rd => k_is)
    (case zn_fn => kernel_rfl)
    (case zn_ty => k_is)
    (case zn_nm => refine' K6.kept_mk ?l_zn_nm ?c_zn_nm; (case l_zn_nm => k_is); (case c_zn_nm => exact rfl))
    (case zn_kP => kernel_rfl)
    (case zn_ne => k_is)
    (case zn_eq => k_is)
    (case zn_ef => k_is)
    (case zn_bo => k_is)
    (case zn_bf => k_is)
    (case G_Peq => refine' ⟨_, L2.fun_mk ?l_G_Peq ?c_G_Peq ?k_G_Peq⟩; (case l_G_Peq => k_is); (case c_G_Peq => k_is); (case k_G_Peq => k_is))
    (case G_Pbo => refine' ⟨_, L2.fun_mk ?l_G_Pbo ?c_G_Pbo ?k_G_Pbo⟩; (case l_G_Pbo => k_is); (case c_G_Pbo => k_is); (case k_G_Pbo => k_is))
    (case d_is_integer => k_is)
    (case d_is_list => k_is)
    (case d_is_long_word => k_is)
    (case d_is_name => k_is)
    (case d_is_numbers => k_is)
    (case d_first_twice => k_is)
    (case d_is_cell => k_is)
    (case d_is_row => k_is)
    (case d_has_cell => k_is)
    (case d_lengths_of => k_is)
    (case d_is_even => k_is)
    (case d_width_of => k_is)
    (case d_need_names => k_is)
    (case d_need_once => k_is)
    (case d_need_rows => k_is)
    (case d_need_sizes => k_is)
    (case d_need_sheet => k_is)
    (case d_need_whole => k_is)
    (case d_need_language => k_is)
    (case d_places_in => k_is)
    (case d_gaps_in => k_is)
    (case d_columns_of => k_is)
    (case d_pairs_of_places => k_is)
    (case d_lots_of_size => k_is)
    (case d_lots_below => k_is)
    (case d_fixed => k_is)
    (case d_are_equal => k_is)
    (case d_is_called => k_is)
    (case d_unlike_columns => k_is)
    (case d_zero_of => k_is)
    (case d_zero => k_is)
    (case d_are_parted => k_is)
    (case d_pairs_not_parted => k_is)
    (case d_fewest_languages => k_is)
    (case d_least_joined => k_is)
    (case d_standing => k_is)
    (case d_compared => k_is)
    (case d_is_pair_among => k_is)
    (case d_is_telling => k_is)
    (case d_shows_telling => k_is)
    (case d__law_reel => k_is)
    (case d__law_spin => k_is)
    (case d__law_pick => k_is)
    (case d__law_names => k_is)
    (case d__law_signs => k_is)
    (case d__law_rows => k_is)
    (case d__law_column => k_is)
    (case d__law_columns => k_is)
    (case d__law_sets => k_is)
    (case d__law_left => k_is)
    (case d__law_due => k_is)
    (case d__law_wider_right => k_is)
    (case d_law => k_is)
    (case F_is_integer => refine' ⟨_, L2.fun_mk ?l_F_is_integer ?c_F_is_integer ?k_F_is_integer⟩; (case l_F_is_integer => k_is); (case c_F_is_integer => k_is); (case k_F_is_integer => k_is))
    (case F_is_list => refine' ⟨_, L2.fun_mk ?l_F_is_list ?c_F_is_list ?k_F_is_list⟩; (case l_F_is_list => k_is); (case c_F_is_list => k_is); (case k_F_is_list => k_is))
    (case F_is_long_word => refine' ⟨_, L2.fun_mk ?l_F_is_long_word ?c_F_is_long_word ?k_F_is_long_word⟩; (case l_F_is_long_word => k_is); (case c_F_is_long_word => k_is); (case k_F_is_long_word => k_is))
    (case F_is_name => refine' ⟨_, L2.fun_mk ?l_F_is_name ?c_F_is_name ?k_F_is_name⟩; (case l_F_is_name => k_is); (case c_F_is_name => k_is); (case k_F_is_name => k_is))
    (case F_is_numbers => refine' ⟨_, L2.fun_mk ?l_F_is_numbers ?c_F_is_numbers ?k_F_is_numbers⟩; (case l_F_is_numbers => k_is); (case c_F_is_numbers => k_is); (case k_F_is_numbers => k_is))
    (case F_first_twice => refine' ⟨_, L2.fun_mk ?l_F_first_twice ?c_F_first_twice ?k_F_first_twice⟩; (case l_F_first_twice => k_is); (case c_F_first_twice => k_is); (case k_F_first_twice => k_is))
    (case F_is_cell => refine' ⟨_, L2.fun_mk ?l_F_is_cell ?c_F_is_cell ?k_F_is_cell⟩; (case l_F_is_cell => k_is); (case c_F_is_cell => k_is); (case k_F_is_cell => k_is))
    (case F_is_row => refine' ⟨_, L2.fun_mk ?l_F_is_row ?c_F_is_row ?k_F_is_row⟩; (case l_F_is_row => k_is); (case c_F_is_row => k_is); (case k_F_is_row => k_is))
    (case F_has_cell => refine' ⟨_, L2.fun_mk ?l_F_has_cell ?c_F_has_cell ?k_F_has_cell⟩; (case l_F_has_cell => k_is); (case c_F_has_cell => k_is); (case k_F_has_cell => k_is))
    (case F_lengths_of => refine' ⟨_, L2.fun_mk ?l_F_lengths_of ?c_F_lengths_of ?k_F_lengths_of⟩; (case l_F_lengths_of => k_is); (case c_F_lengths_of => k_is); (case k_F_lengths_of => k_is))
    (case F_is_even => refine' ⟨_, L2.fun_mk ?l_F_is_even ?c_F_is_even ?k_F_is_even⟩; (case l_F_is_even => k_is); (case c_F_is_even => k_is); (case k_F_is_even => k_is))
    (case F_width_of => refine' ⟨_, L2.fun_mk ?l_F_width_of ?c_F_width_of ?k_F_width_of⟩; (case l_F_width_of => k_is); (case c_F_width_of => k_is); (case k_F_width_of => k_is))
    (case F_need_names => refine' ⟨_, L2.fun_mk ?l_F_need_names ?c_F_need_names ?k_F_need_names⟩; (case l_F_need_names => k_is); (case c_F_need_names => k_is); (case k_F_need_names => k_is))
    (case F_need_once => refine' ⟨_, L2.fun_mk ?l_F_need_once ?c_F_need_once ?k_F_need_once⟩; (case l_F_need_once => k_is); (case c_F_need_once => k_is); (case k_F_need_once => k_is))
    (case F_need_rows => refine' ⟨_, L2.fun_mk ?l_F_need_rows ?c_F_need_rows ?k_F_need_rows⟩; (case l_F_need_rows => k_is); (case c_F_need_rows => k_is); (case k_F_need_rows => k_is))
    (case F_need_sizes => refine' ⟨_, L2.fun_mk ?l_F_need_sizes ?c_F_need_sizes ?k_F_need_sizes⟩; (case l_F_need_sizes => k_is); (case c_F_need_sizes => k_is); (case k_F_need_sizes => k_is))
    (case F_need_sheet => refine' ⟨_, L2.fun_mk ?l_F_need_sheet ?c_F_need_sheet ?k_F_need_sheet⟩; (case l_F_need_sheet => k_is); (case c_F_need_sheet => k_is); (case k_F_need_sheet => k_is))
    (case F_need_whole => refine' ⟨_, L2.fun_mk ?l_F_need_whole ?c_F_need_whole ?k_F_need_whole⟩; (case l_F_need_whole => k_is); (case c_F_need_whole => k_is); (case k_F_need_whole => k_is))
    (case F_need_language => refine' ⟨_, L2.fun_mk ?l_F_need_language ?c_F_need_language ?k_F_need_language⟩; (case l_F_need_language => k_is); (case c_F_need_language => k_is); (case k_F_need_language => k_is))
    (case F_places_in => refine' ⟨_, L2.fun_mk ?l_F_places_in ?c_F_places_in ?k_F_places_in⟩; (case l_F_places_in => k_is); (case c_F_places_in => k_is); (case k_F_places_in => k_is))
    (case F_gaps_in => refine' ⟨_, L2.fun_mk ?l_F_gaps_in ?c_F_gaps_in ?k_F_gaps_in⟩; (case l_F_gaps_in => k_is); (case c_F_gaps_in => k_is); (case k_F_gaps_in => k_is))
    (case F_columns_of => refine' ⟨_, L2.fun_mk ?l_F_columns_of ?c_F_columns_of ?k_F_columns_of⟩; (case l_F_columns_of => k_is); (case c_F_columns_of => k_is); (case k_F_columns_of => k_is))
    (case F_pairs_of_places => refine' ⟨_, L2.fun_mk ?l_F_pairs_of_places ?c_F_pairs_of_places ?k_F_pairs_of_places⟩; (case l_F_pairs_of_places => k_is); (case c_F_pairs_of_places => k_is); (case k_F_pairs_of_places => k_is))
    (case F_lots_of_size => refine' ⟨_, L2.fun_mk ?l_F_lots_of_size ?c_F_lots_of_size ?k_F_lots_of_size⟩; (case l_F_lots_of_size => k_is); (case c_F_lots_of_size => k_is); (case k_F_lots_of_size => k_is))
    (case F_lots_below => refine' ⟨_, L2.fun_mk ?l_F_lots_below ?c_F_lots_below ?k_F_lots_below⟩; (case l_F_lots_below => k_is); (case c_F_lots_below => k_is); (case k_F_lots_below => k_is))
    (case F_fixed => refine' ⟨_, L2.fun_mk ?l_F_fixed ?c_F_fixed ?k_F_fixed⟩; (case l_F_fixed => k_is); (case c_F_fixed => k_is); (case k_F_fixed => k_is))
    (case F_are_equal => refine' ⟨_, L2.fun_mk ?l_F_are_equal ?c_F_are_equal ?k_F_are_equal⟩; (case l_F_are_equal => k_is); (case c_F_are_equal => k_is); (case k_F_are_equal => k_is))
    (case F_is_called => refine' ⟨_, L2.fun_mk ?l_F_is_called ?c_F_is_called ?k_F_is_called⟩; (case l_F_is_called => k_is); (case c_F_is_called => k_is); (case k_F_is_called => k_is))
    (case F_unlike_columns => refine' ⟨_, L2.fun_mk ?l_F_unlike_columns ?c_F_unlike_columns ?k_F_unlike_columns⟩; (case l_F_unlike_columns => k_is); (case c_F_unlike_columns => k_is); (case k_F_unlike_columns => k_is))
    (case F_zero_of => refine' ⟨_, L2.fun_mk ?l_F_zero_of ?c_F_zero_of ?k_F_zero_of⟩; (case l_F_zero_of => k_is); (case c_F_zero_of => k_is); (case k_F_zero_of => k_is))
    (case F_zero => refine' ⟨_, L2.fun_mk ?l_F_zero ?c_F_zero ?k_F_zero⟩; (case l_F_zero => k_is); (case c_F_zero => k_is); (case k_F_zero => k_is))
    (case F_are_parted => refine' ⟨_, L2.fun_mk ?l_F_are_parted ?c_F_are_parted ?k_F_are_parted⟩; (case l_F_are_parted => k_is); (case c_F_are_parted => k_is); (case k_F_are_parted => k_is))
    (case F_pairs_not_parted => refine' ⟨_, L2.fun_mk ?l_F_pairs_not_parted ?c_F_pairs_not_parted ?k_F_pairs_not_parted⟩; (case l_F_pairs_not_parted => k_is); (case c_F_pairs_not_parted => k_is); (case k_F_pairs_not_parted => k_is))
    (case F_fewest_languages => refine' ⟨_, L2.fun_mk ?l_F_fewest_languages ?c_F_fewest_languages ?k_F_fewest_languages⟩; (case l_F_fewest_languages => k_is); (case c_F_fewest_languages => k_is); (case k_F_fewest_languages => k_is))
    (case F_least_joined => refine' ⟨_, L2.fun_mk ?l_F_least_joined ?c_F_least_joined ?k_F_least_joined⟩; (case l_F_least_joined => k_is); (case c_F_least_joined => k_is); (case k_F_least_joined => k_is))
    (case F_standing => refine' ⟨_, L2.fun_mk ?l_F_standing ?c_F_standing ?k_F_standing⟩; (case l_F_standing => k_is); (case c_F_standing => k_is); (case k_F_standing => k_is))
    (case F_compared => refine' ⟨_, L2.fun_mk ?l_F_compared ?c_F_compared ?k_F_compared⟩; (case l_F_compared => k_is); (case c_F_compared => k_is); (case k_F_compared => k_is))
    (case F_is_pair_among => refine' ⟨_, L2.fun_mk ?l_F_is_pair_among ?c_F_is_pair_among ?k_F_is_pair_among⟩; (case l_F_is_pair_among => k_is); (case c_F_is_pair_among => k_is); (case k_F_is_pair_among => k_is))
    (case F_is_telling => refine' ⟨_, L2.fun_mk ?l_F_is_telling ?c_F_is_telling ?k_F_is_telling⟩; (case l_F_is_telling => k_is); (case c_F_is_telling => k_is); (case k_F_is_telling => k_is))
    (case F_shows_telling => refine' ⟨_, L2.fun_mk ?l_F_shows_telling ?c_F_shows_telling ?k_F_shows_telling⟩; (case l_F_shows_telling => k_is); (case c_F_shows_telling => k_is); (case k_F_shows_telling => k_is))
    (case F__law_reel => refine' ⟨_, L2.fun_mk ?l_F__law_reel ?c_F__law_reel ?k_F__law_reel⟩; (case l_F__law_reel => k_is); (case c_F__law_reel => k_is); (case k_F__law_reel => k_is))
    (case F__law_spin => refine' ⟨_, L2.fun_mk ?l_F__law_spin ?c_F__law_spin ?k_F__law_spin⟩; (case l_F__law_spin => k_is); (case c_F__law_spin => k_is); (case k_F__law_spin => k_is))
    (case F__law_pick => refine' ⟨_, L2.fun_mk ?l_F__law_pick ?c_F__law_pick ?k_F__law_pick⟩; (case l_F__law_pick => k_is); (case c_F__law_pick => k_is); (case k_F__law_pick => k_is))
    (case F__law_names => refine' ⟨_, L2.fun_mk ?l_F__law_names ?c_F__law_names ?k_F__law_names⟩; (case l_F__law_names => k_is); (case c_F__law_names => k_is); (case k_F__law_names => k_is))
    (case F__law_signs => refine' ⟨_, L2.fun_mk ?l_F__law_signs ?c_F__law_signs ?k_F__law_signs⟩; (case l_F__law_signs => k_is); (case c_F__law_signs => k_is); (case k_F__law_signs => k_is))
    (case F__law_rows => refine' ⟨_, L2.fun_mk ?l_F__law_rows ?c_F__law_rows ?k_F__law_rows⟩; (case l_F__law_rows => k_is); (case c_F__law_rows => k_is); (case k_F__law_rows => k_is))
    (case F__law_column => refine' ⟨_, L2.fun_mk ?l_F__law_column ?c_F__law_column ?k_F__law_column⟩; (case l_F__law_column => k_is); (case c_F__law_column => k_is); (case k_F__law_column => k_is))
    (case F__law_columns => refine' ⟨_, L2.fun_mk ?l_F__law_columns ?c_F__law_columns ?k_F__law_columns⟩; (case l_F__law_columns => k_is); (case c_F__law_columns => k_is); (case k_F__law_columns => k_is))
    (case F__law_sets => refine' ⟨_, L2.fun_mk ?l_F__law_sets ?c_F__law_sets ?k_F__law_sets⟩; (case l_F__law_sets => k_is); (case c_F__law_sets => k_is); (case k_F__law_sets => k_is))
    (case F__law_left => refine' ⟨_, L2.fun_mk ?l_F__law_left ?c_F__law_left ?k_F__law_left⟩; (case l_F__law_left => k_is); (case c_F__law_left => k_is); (case k_F__law_left => k_is))
    (case F__law_due => refine' ⟨_, L2.fun_mk ?l_F__law_due ?c_F__law_due ?k_F__law_due⟩; (case l_F__law_due => k_is); (case c_F__law_due => k_is); (case k_F__law_due => k_is))
    (case F__law_wider_right => refine' ⟨_, L2.fun_mk ?l_F__law_wider_right ?c_F__law_wider_right ?k_F__law_wider_right⟩; (case l_F__law_wider_right => k_is); (case c_F__law_wider_right => k_is); (case k_F__law_wider_right => k_is))
    (case F_law => refine' ⟨_, L2.fun_mk ?l_F_law ?c_F_law ?k_F_law⟩; (case l_F_law => k_is); (case c_F_law => k_is); (case k_F_law => k_is))
