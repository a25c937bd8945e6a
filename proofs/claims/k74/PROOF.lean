import PyProof.Rows.All
import HandS.OwnEq
import PyProof.NeKinds
import Wide.All
import OpenK.AllK
import Wide.FinOn
import HandS.Strs
import HandS.SetFor
import HandS.SetTxt0
import PyProof.Rows.SortStr
import HandS.Call
import HandS.ForMost
import KE.DatumOrd
import KE.SortData
import PyProof.Claim2Refuses
import PyProof.Rows.SortShellAny
import HandS.SetKeys
import PyProof.DictMoreH
import HandS.Keys
import HandS.Walk
import HandS.ExcValue
import KE.GoesEnum
import KE.GoesMore
import HandS.ClsMeth
import KE.KTypeName
import KE.KIsNot
import PyProof.InstNe
import HandS.Records
import PyProof.EqAt
import PyProof.EqKinds
import PyProof.TupleCall
import HandS.ExcInit
import HandS.ExcIs
import HandS.ExcField
import HandS.IsInst
import KE.KExcIs
import HandS.DeepEq
import HandS.More
import HandS.Style
import PyProof.ListStr
import PyProof.StrOps2
import HandS.StrMore
import HandS.Exc
import HandS.ExcOwn
import HandS.Lambda
import HandS.WordsExc
import HandS.Flow
import HandS.Replace
import HandS.WideMore
import HandS.TupLe
import HandS.ReplaceLit
import HandS.ReplaceList
import HandS.Iter
import HandS.Zip
import HandS.Text
import HandS.Star
import KE.KDictZip
import HandS.DictComp
import HandS.Conv
import KE.KSuper
import HandS.Deep
import HandS.TupAny
import KE.KDictList
import KE.KIndexOf
import HandS.EndTab
import HandS.MapObj
import HandS.RepeatKit
import HandS.Sort
import HandS.MakeKwOnly
import KE.RegKSuper
import KE.OsRunLaw
import HandS.Defaults
import HandS.Nested
import HandS.ReplaceDef
import KE.KNestM
import KE.KLam
import PySem.Challenge.RW_foretongue_k74_tables_of_a_rule
set_option Elab.async false
set_option linter.all false
set_option maxRecDepth 100000
set_option maxHeartbeats 2000000
/-! tuples that are equal item by item, their items' own == asked: != tells False -/
namespace K5
open PySem PySem.Spec PySem.W PySem.Calls PyProof.Rows Builtin PySem.MeetsSeq MeetsSeq2 MeetsSeq3 SeqRoads2 SeqAt
section
variable {prog : Program} {w : World} {A : Around} {E : Value → Shared → Prop} {R : Result → Shared → Prop}
/-- the pairs from the i-th on, all of them equal -/
structure Pass (prog : Program) (w : World) (A : Around) (R : Result → Shared → Prop) (ps : List (Value × Value)) (I : Nat → Shared → Prop) : Prop where
  step : ∀ (i : Nat) (p : Value × Value) (s : Shared), ps[i]? = some p → I i s → wpAny (model prog w) A (eqBool p.1 p.2) (fun r s' => r = true ∧ I (i + 1) s') (fun e s' => R (.error e) s') s
  done : ∀ s, I ps.length s → R (.ok (.ret (.bool false))) s
end
end K5
namespace L2
open PySem PySem.Spec PyProof.Rows
end L2
/-! sorted(set(text)): the signs of a text, each once, rising; what is true of their tokens is kept -/
namespace K5
open PySem PySem.Spec PyProof.Rows L2 Froz
section
variable {P : Program} {w : World} {A : Around} {R : Result → Shared → Prop} {p : Str → Tok → Prop}
theorem sing_inj {c d : Nat} (h : sing c = sing d) : c = d := (List.cons.inj (congrArg (fun y : Str => y.cps.toList) h : [c] = [d])).1
end
end K5
namespace K5
open PySem PySem.Spec PyProof.Rows L2 Froz
/-- one of as many, each once, with the same members -/
theorem perm_of {α : Type} [DecidableEq α] : ∀ {l m : List α}, l.Nodup → (∀ x ∈ l, x ∈ m) → m.length ≤ l.length → l.Perm m
  | [], m, _, _, h => by
    rw [List.eq_nil_of_length_eq_zero (Nat.le_zero.mp h)]
  | x :: r, m, nd, sub, h => by
    obtain ⟨h1, h2⟩ := List.nodup_cons.mp nd
    have hx : x ∈ m := sub x List.mem_cons_self
    have pe := List.perm_cons_erase hx
    have hl := pe.length_eq
    refine (List.Perm.cons x (perm_of h2 (fun y hy => ?_) ?_)).trans pe.symm
    · rcases List.mem_cons.mp (pe.mem_iff.mp (sub y (List.mem_cons_of_mem _ hy))) with z | z
      · exact absurd (z ▸ hy) h1
      · exact z
    · rw [List.length_cons] at hl h
      omega
end K5
namespace K5
open PySem PySem.Spec PyProof.Rows L2 Froz
/-! ### which list comes out -/
theorem eq_of_lt : ∀ {l m : List Nat}, l.Pairwise (· < ·) → m.Pairwise (· < ·) → (∀ x, x ∈ l ↔ x ∈ m) → l = m
  | [], [], _, _, _ => rfl
  | [], y :: t, _, _, h => absurd ((h y).mpr List.mem_cons_self) List.not_mem_nil
  | x :: r, [], _, _, h => absurd ((h x).mp List.mem_cons_self) List.not_mem_nil
  | x :: r, y :: t, a, b, h => by
    obtain ⟨a1, a2⟩ := List.pairwise_cons.mp a
    obtain ⟨b1, b2⟩ := List.pairwise_cons.mp b
    have e : x = y := by
      rcases List.mem_cons.mp ((h x).mp List.mem_cons_self) with z | z
      · exact z
      · rcases List.mem_cons.mp ((h y).mpr List.mem_cons_self) with z2 | z2
        · exact z2.symm
        · have := a1 y z2
          have := b1 x z
          omega
    subst e
    rw [eq_of_lt a2 b2 fun z => ?_]
    constructor
    · intro hz
      rcases List.mem_cons.mp ((h z).mp (List.mem_cons_of_mem _ hz)) with q | q
      · have := a1 z hz
        omega
      · exact q
    · intro hz
      rcases List.mem_cons.mp ((h z).mpr (List.mem_cons_of_mem _ hz)) with q | q
      · have := b1 z hz
        omega
      · exact q
/-- the signs of a text below 128, each once, rising -/
def canon (l : List Nat) : List Nat := (List.range 128).filter fun c => decide (c ∈ l)
theorem canon_mem {l : List Nat} (h : ∀ c ∈ l, c < 128) (c : Nat) : c ∈ canon l ↔ c ∈ l := by
  unfold canon
  rw [List.mem_filter, List.mem_range, decide_eq_true_eq]
  exact ⟨fun z => z.2, fun z => ⟨h c z, z⟩⟩
theorem canon_lt (l : List Nat) : (canon l).Pairwise (· < ·) := List.Pairwise.filter _ List.pairwise_lt_range
theorem rising_sing : ∀ {c : Nat} {cs : List Nat}, risingS (sing c) (cs.map sing) = true → (c :: cs).Pairwise (· ≤ ·)
  | c, [], _ => List.pairwise_singleton _ _
  | c, d :: r, h => by
    have h : (!ltCps [d] [c] && risingS (sing d) (r.map sing)) = true := h
    obtain ⟨h1, h2⟩ := Bool.and_eq_true_iff.mp h
    have h3 := rising_sing h2
    have hcd : c ≤ d := by
      have q : ltCps [d] [c] = false := by
        cases z : ltCps [d] [c] with
        | false => rfl
        | true =>
          rw [z] at h1
          cases h1
      by_cases c1 : c ≤ d
      · exact c1
      · have : ltCps [d] [c] = true := by
          unfold ltCps
          simp
          omega
        rw [q] at this
        cases this
    refine List.pairwise_cons.mpr ⟨fun y hy => ?_, h3⟩
    rcases List.mem_cons.mp hy with rfl | hy
    · exact hcd
    · exact Nat.le_trans hcd ((List.pairwise_cons.mp h3).1 y hy)
theorem nd_of_map : ∀ {cs : List Nat}, (cs.map sing).Nodup → cs.Nodup
  | [], _ => List.nodup_nil
  | c :: r, h => by
    obtain ⟨a, b⟩ := List.nodup_cons.mp h
    exact List.nodup_cons.mpr ⟨fun z => a (List.mem_map.mpr ⟨c, z, rfl⟩), nd_of_map b⟩
theorem sings_of : ∀ {ss : List Str}, (∀ k ∈ ss, ∃ c, k = sing c) → ∃ cs : List Nat, ss = cs.map sing
  | [], _ => ⟨[], rfl⟩
  | k :: r, h => by
    obtain ⟨c, rfl⟩ := h k List.mem_cons_self
    obtain ⟨cs, rfl⟩ := sings_of fun k hk => h k (List.mem_cons_of_mem _ hk)
    exact ⟨c :: cs, rfl⟩
theorem canon_of {l : List Nat} {m ss : List Str} (hl : ∀ c ∈ l, c < 128) (nd : m.Nodup) (hm : ∀ k, k ∈ m ↔ ∃ c ∈ l, k = sing c) (hp : ss.Perm m) (hs : sortedS ss = true) : ss = (canon l).map sing := by
  obtain ⟨cs, rfl⟩ := sings_of (ss := ss) fun k hk => by
    obtain ⟨c, _, e⟩ := (hm k).mp (hp.mem_iff.mp hk)
    exact ⟨c, e⟩
  have ndc : cs.Nodup := nd_of_map (hp.nodup_iff.mpr nd)
  have le : cs.Pairwise (· ≤ ·) := by
    match cs, hs with
    | [], _ => exact List.Pairwise.nil
    | c :: r, hs => exact rising_sing hs
  have lt : cs.Pairwise (· < ·) := by
    clear hs hp
    induction cs with
    | nil => exact List.Pairwise.nil
    | cons c r ih =>
      obtain ⟨d1, d2⟩ := List.nodup_cons.mp ndc
      obtain ⟨e1, e2⟩ := List.pairwise_cons.mp le
      refine List.pairwise_cons.mpr ⟨fun y hy => Nat.lt_of_le_of_ne (e1 y hy) fun z => d1 (z ▸ hy), ih d2 e2⟩
  congr 1
  refine eq_of_lt lt (canon_lt l) fun c => ?_
  rw [canon_mem hl]
  constructor
  · intro hc
    obtain ⟨d, hd, e⟩ := (hm _).mp (hp.mem_iff.mp (List.mem_map.mpr ⟨c, hc, rfl⟩))
    rw [sing_inj e]
    exact hd
  · intro hc
    have z := hp.mem_iff.mpr ((hm (sing c)).mpr ⟨c, hc, rfl⟩)
    obtain ⟨d, hd, e⟩ := List.mem_map.mp z
    rw [← sing_inj e]
    exact hd
/-! ### the layer's rules -/
end K5
/-! min and sorted of lists that read as data -/
namespace K5
open PySem PySem.Spec PyProof.Rows PySem.W
open L2 hiding Cls
abbrev PP : Type := (Int × Int) × (Int × Int)
theorem toD_pp (x : PP) : Datum.toD x = .tuple [.tuple [.int x.1.1, .int x.1.2], .tuple [.int x.2.1, .int x.2.2]] := rfl
theorem toD_inj {x y : PP} (h : Datum.toD x = Datum.toD y) : x = y := by
  obtain ⟨⟨a, b⟩, c, d⟩ := x
  obtain ⟨⟨a', b'⟩, c', d'⟩ := y
  rw [toD_pp, toD_pp] at h
  simp only [PyData.tuple.injEq, List.cons.injEq, PyData.int.injEq, and_true] at h
  obtain ⟨⟨rfl, rfl⟩, rfl, rfl⟩ := h
  rfl
theorem dep_pp : Datum.depth PP ≤ 10 := by decide
def rMinPP (K : PySem.W.Frag) : List V → Hp → VK → Prop := fun vs H Q => ∃ (a : Addr) (xs : List V) (x : PP) (ps : List PP), vs = [V.ref a] ∧ SqL K H a xs ∧ DpAll K H xs ((x :: ps).map Datum.toD) ∧ ∀ (i : Nat) v, xs[i]? = some v → (x :: ps)[i]? = some (PySem.W.minOf x ps) → Q v H
theorem reads_at {h : Heap} : ∀ {us : List Value} {ds : List PyData} {as : List Addr}, ReadsAll h us ds as → ∀ {i : Nat} {u : Value}, us[i]? = some u → ∃ d as, ds[i]? = some d ∧ Reads h u d as
  | [], _, _, _, i, u, e => by cases e
  | v :: us, [], as, r, _, _, _ => by cases r
  | v :: us, d :: ds, as, r, i, u, e => by
    cases r with
    | cons r1 r2 =>
      cases i with
      | zero =>
        obtain rfl := Option.some.inj e
        exact ⟨d, _, rfl, r1⟩
      | succ i => exact reads_at r2 e
theorem vals_at : ∀ {xs : List V} {us : List Value}, Vals xs us → ∀ {i : Nat} {u : Value}, us[i]? = some u → ∃ x, xs[i]? = some x ∧ RelV x u
  | [], [], _, i, u, e => by cases e
  | x :: xs, u' :: us, .cons r rs, i, u, e => by
    cases i with
    | zero =>
      obtain rfl := Option.some.inj e
      exact ⟨x, rfl, r⟩
    | succ i => exact vals_at rs e
section
variable {X : Cx}
theorem cr_minPP (hc : X.calm = true) (hu : X.A.units + 20 < cLine) : CallR X (.builtin "min") (rMinPP X.K) := by
  intro pins s σ H vs us Q I r h
  obtain ⟨a, xs, x, ps, rfl, hs, hd, q⟩ := h
  obtain ⟨its, rv, hl, hz⟩ := I.list hs
  rw [Vals.ref1 r]
  obtain ⟨as, hR⟩ := Dp.readsAll I _ _ _ hd rv
  refine PySem.W.min_list_datum (α := PP) (vs := its.toArray) (x := x) (xs := ps) (I.ok.hd hc) hl.isList ⟨as, by simpa using hR⟩ (Nat.lt_of_le_of_lt (by have := dep_pp; omega) hu) fun i v h' tk hv hh k => ?_
  obtain ⟨bs, hr⟩ := hh
  have hv : its[i]? = some v := by simpa using hv
  obtain ⟨xv, hx, rel⟩ := vals_at rv hv
  obtain ⟨d, cs, e1, e2⟩ := reads_at hR hv
  have e3 := (PyProof.Rows.Reads.keeps k e2).unique _ _ hr
  refine ⟨xv, H, I.kept k, rel, q i xv hx ?_⟩
  rw [List.getElem?_map] at e1
  cases z : (x :: ps)[i]? with
  | none =>
    rw [z] at e1
    cases e1
  | some y =>
    rw [z] at e1
    have e4 : Datum.toD y = d := Option.some.inj e1
    rw [toD_inj (e4.trans e3.1)]
/-- sorted(list of pairs of texts) -/
abbrev TT : Type := Str × Str
def encT (x : TT) : PyData := .tuple [.str x.1, .str x.2]
def leT (x y : TT) : Bool := dataLe false encT x y
def rSortTT (K : PySem.W.Frag) : List V → Hp → VK → Prop := fun vs H Q => ∃ (a : Addr) (xs : List V) (ps : List TT), vs = [V.ref a] ∧ SqL K H a xs ∧ (∀ G, Same H G → DpAll K G xs (ps.map encT)) ∧
  ∀ b ys, H b = none → (∀ G, Same H G → DpAll K G ys ((ps.mergeSort leT).map encT)) → Q (.ref b) (upd H b (.lst ys))
theorem alikeT (x y : TT) : PySem.W.alike (encT x) (encT y) = true := by
  show PySem.W.alike (.tuple [_, _]) (.tuple [_, _]) = true
  simp only [PySem.W.alike, PySem.W.alikeAll, Bool.and_self]
theorem depT (x : TT) : (encT x).depth ≤ 10 := by
  show max 0 (max 0 0) + 1 ≤ 10
  decide
theorem dp_all_at {K : PySem.W.Frag} {H : Hp} : ∀ {xs : List V} {ds : List PyData}, DpAll K H xs ds → ∀ {i : Nat} {x : V}, xs[i]? = some x → ∃ d, ds[i]? = some d ∧ Dp K H x d
  | [], [], _, i, x, e => by cases e
  | y :: xs, d :: ds, .cons h hs, i, x, e => by
    cases i with
    | zero =>
      obtain rfl := Option.some.inj e
      exact ⟨d, rfl, h⟩
    | succ i => exact dp_all_at hs e
theorem dp_len {K : PySem.W.Frag} {H : Hp} : ∀ {xs : List V} {ds : List PyData}, DpAll K H xs ds → xs.length = ds.length
  | [], [], _ => rfl
  | _ :: _, _ :: _, .cons _ h => congrArg Nat.succ (dp_len h)
theorem each_of {α β : Type} {R : α → β → Prop} : ∀ {l : List α} {m : List β}, l.length = m.length → (∀ (i : Nat) a b, l[i]? = some a → m[i]? = some b → R a b) → EachIs R l m
  | [], [], _, _ => .nil
  | a :: l, b :: m, e, h => .cons (h 0 a b rfl rfl) (each_of (Nat.succ.inj e) fun i x y e1 e2 => h (i + 1) x y e1 e2)
theorem each_vals {K : PySem.W.Frag} {S : Hp → Prop} : ∀ {us : List Value} {bs : List TT}, EachIs (fun u b => ∃ x : V, RelV x u ∧ ∀ G, S G → Dp K G x (encT b)) us bs → ∃ ys, Vals ys us ∧ ∀ G, S G → DpAll K G ys (bs.map encT)
  | [], [], .nil => ⟨[], .nil, fun _ _ => .nil⟩
  | u :: us, b :: bs, .cons ⟨x, r, h⟩ e => by
    obtain ⟨ys, rv, hd⟩ := each_vals e
    exact ⟨x :: ys, .cons r rv, fun G s => .cons (h G s) (hd G s)⟩
theorem cr_sortTT (hc : X.calm = true) (hu : X.A.units + 20 < cLine) : CallR X (.builtin "sorted") (rSortTT X.K) := by
  intro pins s σ H vs us Q I r h
  obtain ⟨a, xs, ps, rfl, hs, hd, q⟩ := h
  obtain ⟨its, rv, hl, hz⟩ := I.list hs
  rw [Vals.ref1 r]
  have hlen := rv.length
  obtain ⟨as, hR⟩ := Dp.readsAll I _ _ _ (hd H fun _ _ e => e) rv
  have hlp : its.length = ps.length := by
    have h1 := (hd H fun _ _ e => e)
    have : xs.length = (ps.map encT).length := by
      exact dp_len h1
    rw [List.length_map] at this
    omega
  have e0 : EachIs (fun u b => ∃ x : V, RelV x u ∧ ∀ G, Same H G → Dp X.K G x (encT b)) its ps := each_of hlp fun i u b e1 e2 => by
    obtain ⟨x, hx, rel⟩ := vals_at rv e1
    refine ⟨x, rel, fun G sG => ?_⟩
    obtain ⟨d, ed, hdp⟩ := dp_all_at (hd G sG) hx
    rw [List.getElem?_map, e2] at ed
    obtain rfl := Option.some.inj ed
    exact hdp
  have er : EachIs (fun v b => ∃ as, Reads s.heap v (encT b) as) its ps := each_of hlp fun i u b e1 e2 => by
    obtain ⟨d, cs, ed, hr⟩ := reads_at hR e1
    rw [List.getElem?_map, e2] at ed
    obtain rfl := Option.some.inj ed
    exact ⟨cs, hr⟩
  refine PySem.W.sorted_data (vs := its) (bs := ps) (enc := encT) (l := a) hl.isList e0 er (AllAlike.of alikeT) (Sortable.tuples fun b => ⟨_, _, rfl⟩) (by omega) (fun b _ => by have := depT b; omega) fun out h1 h2 => ?_
  obtain ⟨ys, rv2, hd2⟩ := each_vals h2
  obtain ⟨ep, at_⟩ := PyProof.Rows.sortedAll_at s.heap its (List.toArray out)
  have hyl : ys.length ≤ sizeLine := by
    have := rv2.length
    omega
  exact ⟨.ref _, upd H (s.heap.objs.size + 1) (.lst ys), I.laid (t' := s.toks) (fun _ _ => PyProof.Rows.sortedAll_old) (Nat.le_succ _) ⟨hyl, out, ep, by simpa using rv2, at_⟩, rfl, q _ ys (I.hok.fresh (Nat.le_succ _)) hd2⟩
end
end K5
/-! setdefault of a dict whose keys are tuples -/
namespace K5
open PySem PySem.Spec PyProof.Rows L2
section
variable {X : Cx} {pins : List (Addr × Obj)} {σ : L2.St} {H : Hp} {s : Shared} {a b : Addr} {r : Value} {d : V} {k : List L2.Key} {A : Around} {E : Value → Shared → Prop}
theorem d_setdT {kvs : List (List L2.Key × V)} {Q : Value → Shared → Prop} (hu : A.units + 1 < cLine) (I : Inv X pins σ H s) (e : H a = some (.dT kvs)) (eb : H b = some (.tup (k.map kV))) (rd : RelV d r) (hl : kvs.length < sizeLine)
    (h1 : ∀ v, valV kvs k = some v → ∀ (w' : Value) (s' : Shared), Inv X pins σ H s' → RelV v w' → Q w' s') (h2 : valV kvs k = none → ∀ (w' : Value) (s' : Shared), Inv X pins σ (upd H a (.dT (putK kvs k d))) s' → RelV d w' → Q w' s') :
    wpAny (model X.prog X.w) A (call (.builtin "dict.setdefault") [.ref a, .ref b, r]) Q E s := by
  obtain ⟨z, hd, xs, rel, dd⟩ := dt_of I.hok e
  have hz : xs.length ≤ sizeLine := by rw [← Paired.length rel]; exact z
  refine call_setdefault_heap (hsz := hz) (tupleKind_room_in1 hu) (key_of I.hok eb) hd dd (fun p hp => ?_) (fun hn h' dd' hs => ?_)
  · have q := rel.val k
    rw [hp] at q
    cases q0 : valV kvs k with
    | none =>
      rw [q0] at q
      exact (show False from q).elim
    | some v0 =>
      rw [q0] at q
      exact h1 v0 q0 _ _ (I.tok _) q
  · have q := rel.val k
    rw [hn] at q
    cases q0 : valV kvs k with
    | some v0 =>
      rw [q0] at q
      exact (show False from q).elim
    | none =>
      have hl2 : (putK kvs k d).length ≤ sizeLine := by
        have := length_putK kvs k d
        omega
      obtain ⟨q, es, ep, hq, h2', h3, h4, _, h5⟩ := dd'
      refine h2 q0 _ _ (d_write (t' := s.toks + (tupleKind (mixKind X.prog X.w)).draws k) I (by rw [e]; exact True.intro) hs ⟨q, hq⟩ ⟨hl2, hd, _, (rel.put k eb rd).keeps fun c ys ec => ?_, q, es, ep, hq, h2', h3, h4, h5⟩) rd
      rw [upd_ne (ne_of ec e (fun z => nomatch z))]
      exact ec
end
/-- d.setdefault(y, z), y a tuple -/
def tDSetdT (td ty tx : TE) : TE := fun σ H Q => td σ H fun x H1 => ∃ a, x = .ref a ∧ IsD H1 a ∧ ty σ H1 fun y H2 => tx σ H2 fun z H3 => ∃ (kvs : List (List L2.Key × V)) (k : List L2.Key) (b : Addr), H3 a = some (.dT kvs) ∧ y = .ref b ∧ H3 b = some (.tup (k.map kV)) ∧ kvs.length < sizeLine ∧
  (∀ v, valV kvs k = some v → Q v H3) ∧ (valV kvs k = none → Q z (upd H3 a (.dT (putK kvs k z))))
section
variable {X : Cx} {o e f : Expr} {td ty tx : TE} {apos cpos : Pos}
theorem pe_dsetdT (hu : X.A.units + 1 < cLine) (ho : PE X o td) (he : PE X e ty) (hf : PE X f tx) (m : M2 X o "setdefault" apos e f cpos) : PE X (.Call (.Attribute o "setdefault" apos) [e, f] [] cpos) (tDSetdT td ty tx) := by
  refine ⟨fun pins s σ H Q I h => ?_⟩
  refine wpAny_Call_method m.base m.few m.line PySem.F.plainAttrs_dict PySem.F.slot_dict_setdefault PySem.F.type_dict_setdefault (thn (ho.run pins s σ H _ I h) fun u s1 ⟨x, H1, I1, rx, a, ex, d, q1⟩ => ?_)
  subst ex
  obtain rfl : u = Value.ref a := rx
  obtain ⟨t1, t2, _⟩ := isD_at I1 d
  refine ⟨t1, t2, ?_⟩
  rw [m.trees]
  refine Calls.callWith_builtin rfl (Calls.evalArgs_plain (Calls.spliced_cons (thn (he.run pins s1 σ H1 _ I1 q1) fun iv s2 ⟨y, H2, I2, ry, q2⟩ =>
    Calls.spliced_cons (thn (hf.run pins s2 σ H2 _ I2 q2) fun fv s3 ⟨z, H3, I3, rz, kvs, k, b, ea, ey, eb, hl, q3, q4⟩ => Calls.spliced_nil ?_))))
  subst ey
  obtain rfl : iv = Value.ref b := ry
  exact d_setdT hu I3 ea eb rz hl (fun v hv w' s4 I4 rw' => ⟨v, _, I4, rw', q3 v hv⟩) fun hn w' s4 I4 rw' => ⟨z, _, I4, rw', q4 hn⟩
end
end K5
namespace K5S
open PySem PySem.Spec PyProof.Rows L2
/-! zip(t, l) of a tuple and a list, kept under a name, walked by a comprehension -/
abbrev zfp (N : Nat) : List Addr := [N + 4, N + 2, N + 3, N, N + 1]
theorem zfp_cases {N : Nat} {c : Addr} (h : c ∈ zfp N) : c = N + 4 ∨ c = N + 2 ∨ c = N + 3 ∨ c = N ∨ c = N + 1 := by simpa using h
theorem zfp_le {N : Nat} {c : Addr} (h : c ∈ zfp N) : N ≤ c := by
  have h5 : ∀ m : Nat, m = N + 4 ∨ m = N + 2 ∨ m = N + 3 ∨ m = N ∨ m = N + 1 → N ≤ m := fun m hm => by omega
  exact h5 c (zfp_cases h)
theorem zfp_lt {N k : Nat} {c : Addr} (h : c ∈ zfp N) (hk : N + 4 < k) : c < k := by
  have h5 : ∀ m : Nat, m = N + 4 ∨ m = N + 2 ∨ m = N + 3 ∨ m = N ∨ m = N + 1 → m < k := fun m hm => by omega
  exact h5 c (zfp_cases h)
/-- the tuple at a and the list at b as they stand at each turn, the items in new pairs -/
def ItzM (K : PySem.W.Frag) (a b : Addr) : It :=
  ⟨fun i H => ∃ (xs ys : List V) (x y : V), SqT K H a xs ∧ SqL K H b ys ∧ xs[i]? = some x ∧ ys[i]? = some y,
    fun i H v H' => ∃ T x y, v = .ref T ∧ H T = none ∧ H' = upd H T (.tup [x, y]) ∧ (∀ xs, SqT K H a xs → xs[i]? = some x) ∧ ∀ ys, SqL K H b ys → ys[i]? = some y,
    fun i H => ∃ xs ys : List V, SqT K H a xs ∧ SqL K H b ys ∧ (i = xs.length ∨ i = ys.length) ∧ i ≤ xs.length ∧ i ≤ ys.length⟩
theorem sepM {N : Nat} {a b : Addr} (ha : a < N) (hb : b < N) : ZipSep2 (N + 4) (N + 2) (N + 3) N (N + 1) [N, a] [N + 1, b] :=
  zip_sep2 (fp1 := [a]) (fp2 := [b]) (fun c h => by rw [List.mem_singleton.mp h]; exact ha) (fun c h => by rw [List.mem_singleton.mp h]; exact hb)
theorem turn_zM {P : Program} {w : World} {K : PySem.W.Frag} {elts : List Expr} {kk : Nat} {tpos : Pos} {N : Nat} {a b : Addr} (ha : a < N) (hb : b < N) :
    Turn P w K (.Tuple elts kk tpos) (ItzM K a b) (zfp N) (N + 4) (fun i h => IsZip h (N + 4) (N + 2) (N + 3) .none ∧ IsTupOf2 h (N + 2) (.ref N) (.ref (N + 1)) ∧ (∃ c d, IsTupOf2 h (N + 3) c d) ∧
      h.IsTupleIter N a i ∧ h.IsListIter (N + 1) b i) where
  mem := by simp
  obj := fun i h st c hc => by
    obtain ⟨hz, hTI, ⟨x, y, hTO⟩, ⟨o1, e1, _, d1⟩, ⟨o2, e2, _, d2⟩⟩ := st
    rcases zfp_cases hc with q | q | q | q | q
    · rw [q]; exact ⟨_, hz, fun v q => nomatch q⟩
    · rw [q]; exact ⟨_, hTI, fun v q => nomatch q⟩
    · rw [q]; exact ⟨_, hTO, fun v q => nomatch q⟩
    · rw [q]; exact ⟨o1, e1, fun v q => by rw [d1] at q; cases q⟩
    · rw [q]; exact ⟨o2, e2, fun v q => by rw [d2] at q; cases q⟩
  keep := fun i h h' st k => by
    obtain ⟨hz, hTI, ⟨x, y, hTO⟩, ⟨o1, e1, r1⟩, ⟨o2, e2, r2⟩⟩ := st
    exact ⟨k (N + 4) (by simp) _ hz, k (N + 2) (by simp) _ hTI, ⟨x, y, k (N + 3) (by simp) _ hTO⟩, ⟨o1, k N (by simp) _ e1, r1⟩, ⟨o2, k (N + 1) (by simp) _ e2, r2⟩⟩
  item := by
    intro X hP hw hK hc i pins s σ H E I hf st hg
    subst hP hw hK
    obtain ⟨hz, hTI, ⟨x0, y0, hTO⟩, h1, h2⟩ := st
    obtain ⟨xs, ys, x, y, hqx, hqy, hx, hy⟩ := hg
    obtain ⟨its, rv, p, _⟩ := I.tuple hqx
    obtain ⟨its2, rv2, p2, _⟩ := I.list hqy
    obtain ⟨u, hu, ru⟩ := rv.get hx
    obtain ⟨u2, hu2, ru2⟩ := rv2.get hy
    have hh : X.A.in1.handled = none := I.ok.hd hc
    have hzl : N + 4 < s.heap.objs.size := Heap.lt_size hz
    have l1 : i < its.toArray.size := by
      have := (List.getElem?_eq_some_iff.mp hu).1
      simpa using this
    have l2 : i < its2.toArray.size := by
      have := (List.getElem?_eq_some_iff.mp hu2).1
      simpa using this
    have na : a ≠ N := Nat.ne_of_lt ha
    have nb : b ≠ N + 1 := Nat.ne_of_lt (Nat.lt_of_lt_of_le hb (Nat.le_succ _))
    refine wpAny_pyNext_zipD2_item (sepM ha hb) (Draws.tuple hh N a na its.toArray) (Draws.list hh (N + 1) b nb its2.toArray) hz hTI hTO ⟨h1, p⟩ ⟨h2, p2.isList⟩ l1 l2 fun x1 x2 h' tk p1 p2' z' TO' h1' h2' hT hsz hk => ?_
    have e1 : x1 = u := by
      have : its[i]? = some x1 := by simpa using p1
      rw [hu] at this
      exact (Option.some.inj this).symm
    have e2 : x2 = u2 := by
      have : its2[i]? = some x2 := by simpa using p2'
      rw [hu2] at this
      exact (Option.some.inj this).symm
    subst e1 e2
    refine ⟨_, rfl, wpAny_letOwnedTupleGo_zip (s := { s with heap := h', toks := tk }) z' fun h'' z'' sb => ?_⟩
    have hT2 : h''.get? s.heap.objs.size = some { cls := .type "tuple", data := .seq #[x1, x2] } := (sb.2 _ (Nat.ne_of_gt hzl)).trans hT
    have new : ObjOk X.prog X.w (upd H s.heap.objs.size (.tup [x, y])) h'' s.heap.objs.size (.tup [x, y]) :=
      ⟨by show 2 ≤ sizeLine; decide, [x1, x2], .cons ru (.cons ru2 .nil), ⟨_, hT2, rfl, _, rfl⟩⟩
    have I1 := I.turnedNew (t' := tk) (ch := zfp N) (h' := h'') (fun c o hb q => (sb.2 c (fun q' => hb (by simp [q']))).trans
      (hk c o (fun q' => hb (by simp [q'])) (fun q' => hb (by simp [q'])) (fun q' => hb (by simp [q'])) (fun q' => hb (by simp [q'])) q)) hf (Nat.le_refl _) new
    have zne1 : N + 2 ≠ N + 4 := by omega
    have zne2 : N + 3 ≠ N + 4 := by omega
    have zne3 : N ≠ N + 4 := by omega
    have zne4 : N + 1 ≠ N + 4 := by omega
    have zne5 : N + 2 ≠ N + 3 := by omega
    have zne6 : N + 2 ≠ N := by omega
    have zne7 : N + 2 ≠ N + 1 := by omega
    refine ⟨.ref s.heap.objs.size, _, I1, rfl, ⟨_, x, y, rfl, I.hok.fresh (Nat.le_refl _), rfl, fun l hl => by rw [I.tuple_inj hl hqx]; exact hx, fun l hl => by rw [I.list_inj hl hqy]; exact hy⟩, ⟨z'', ?_, ⟨_, _, (sb.2 _ zne2).trans TO'⟩, ?_, ?_⟩, fun c' hcm => ?_⟩
    · refine (sb.2 _ zne1).trans (hk _ _ zne1 zne5 zne6 zne7 hTI)
    · exact h1'.1.at fun o q => (sb.2 _ zne3).trans q
    · exact h2'.1.at fun o q => (sb.2 _ zne4).trans q
    · rw [upd_ne (Nat.ne_of_lt (zfp_lt hcm hzl))]
      exact (hf c' hcm).1
  done := by
    intro X hP hw hK hc i pins s σ H E I hf st hg
    subst hP hw hK
    obtain ⟨hz, hTI, ⟨x0, y0, hTO⟩, h1, h2⟩ := st
    obtain ⟨xs, ys, hqx, hqy, hend, le1, le2⟩ := hg
    obtain ⟨its, rv, p, _⟩ := I.tuple hqx
    obtain ⟨its2, rv2, p2, _⟩ := I.list hqy
    have hh : X.A.in1.handled = none := I.ok.hd hc
    have na : a ≠ N := Nat.ne_of_lt ha
    have nb : b ≠ N + 1 := Nat.ne_of_lt (Nat.lt_of_lt_of_le hb (Nat.le_succ _))
    have l1 : its.toArray.size = xs.length := by simp [rv.length]
    have l2 : its2.toArray.size = ys.length := by simp [rv2.length]
    refine wpAny_pyNext_zipD2_end (sepM ha hb) (Draws.tuple hh N a na its.toArray) (Draws.list hh (N + 1) b nb its2.toArray) hz hTI hTO ⟨h1, p⟩ ⟨h2, p2.isList⟩ (by rw [l1]; exact le1) (by rw [l2]; exact le2) (by rw [l1, l2]; exact hend) fun h' tk hk => ⟨rfl, I.turnedL (t' := tk) (ch := zfp N) (fun c o hb q =>
      hk c o (fun q' => hb (by simp [q'])) (fun q' => hb (by simp [q'])) (fun q' => hb (by simp [q'])) (fun q' => hb (by simp [q'])) q) hf⟩
  self := fun A i s Q E st h => wpAny_pyIter_zip st.1 h
/-- one object, known whole -/
def obH (c : Addr) (o : Obj) : HO := .ext fun h => h.get? c = some o
theorem obH_ok {P : Program} {w : World} {H : Hp} {h : Heap} {c : Addr} {o : Obj} (e : h.get? c = some o) : ObjOk P w H h c (obH c o) := ⟨e, ⟨o, e⟩, fun _ _ e k => k _ e⟩
/-- the heap with a zip's five objects told: its tuple's, its list's iterator, its two pairs, itself -/
def zipH (H : Hp) (N : Nat) (a b : Addr) : Hp :=
  upd (upd (upd (upd (upd H N (obH N { cls := .type "tuple_iterator", data := .fields #[.ref a, .int 0 0] }))
    (N + 1) (obH (N + 1) { cls := .type "list_iterator", data := .fields #[.ref b, .int 0 0] }))
    (N + 2) (obH (N + 2) { cls := .type "tuple", data := .seq #[.ref N, .ref (N + 1)] }))
    (N + 3) (obH (N + 3) { cls := .type "tuple", data := .seq #[.none, .none] }))
    (N + 4) (obH (N + 4) { cls := .type "zip", dict := none, data := .fields #[.none, .bool false, .bool false, .ref (N + 2), .ref (N + 3)], slots := #[] })
/-- younger than the entry, none of the callers' frames -/
def Yg (X : Cx) (c : Addr) : Prop := c ∉ X.fs ∧ X.s_0.heap.objs.size ≤ c
def tZipM (X : Cx) (ta : TA) : TE := fun σ H Q => ta σ H fun vs H1 => ∃ a b xs ys, vs = [.ref a, .ref b] ∧ SqT X.K H1 a xs ∧ SqL X.K H1 b ys ∧ ∀ N : Nat, a < N → b < N → (∀ c ∈ zfp N, H1 c = none ∧ Yg X c) → Q (.ref (N + 4)) (zipH H1 N a b)
theorem ad_ne {N i j : Nat} (h : i ≠ j) : (N + i : Nat) ≠ N + j := by omega
theorem pe_zipM {X : Cx} {e e2 : Expr} {ta : TA} {p pos : Pos} (hg : Gl X "zip") (hm : X.mg "zip" = none) (ha : PA X [e, e2] ta)
    (hs : starEach [e, e2] X.env = (false, eval e X.env) :: starEach [e2] X.env := by rfl) (hpl : (backTo pos (starEach [e2] X.env)).any (·.1) = false := by rfl) :
    PE X (.Call (.Name "zip" p) [e, e2] [] pos) (tZipM X ta) := by
  refine ⟨fun pins s σ H Q I h => ?_⟩
  refine Call_ (ld_blt I hg hm PyProof.Rows.boot_zip (PyProof.Rows.callWith_type1 (thn (ha.run pos pins s σ H _ I h) fun us s1 ⟨vs, H1, I1, r1, q1⟩ => ?_) hs hpl))
  obtain ⟨a, b, xs, ys, ex, hqx, hqy, q⟩ := q1
  subst ex
  obtain ⟨u1, u2, rfl, r1, r2⟩ := vals2 r1
  cases r1
  cases r2
  obtain ⟨its, rv, p1, _⟩ := I1.tuple hqx
  obtain ⟨its2, rv2, p2, _⟩ := I1.list hqy
  refine zip_begins2 (begins_tuple a its.toArray) (begins_list b its2.toArray) p1 p2.isList fun h' hz hTI hTO g1 g2 hsz hk => ?_
  have I2 : Inv X pins σ H1 { s1 with heap := h' } := I1.kept (t' := s1.toks) hk
  generalize hN : s1.heap.objs.size = N at hz hTI hTO g1 g2 hsz
  have fp : ∀ {H' : Hp} {c : Addr}, N ≤ c → H' c = none → FpOk X pins H' c := fun {H' c} hc hn => I1.fpOk (by rw [hN]; exact hc) hn
  have fr : ∀ {c : Addr}, N ≤ c → H1 c = none := fun {c} hc => I1.hok.fresh (by rw [hN]; exact hc)
  have kp : ∀ (b : Addr) (ob : Obj) (it : Addr), b ≠ it → h'.get? b = some ob → h'.get? b = some ob := fun _ _ _ _ e => e
  have n0 : H1 N = none := fr (Nat.le_refl _)
  have n1 : H1 (N + 1) = none := fr (Nat.le_add_right _ _)
  have n2 : H1 (N + 2) = none := fr (Nat.le_add_right _ _)
  have n3 : H1 (N + 3) = none := fr (Nat.le_add_right _ _)
  have n4 : H1 (N + 4) = none := fr (Nat.le_add_right _ _)
  have z10 : (N + 1 : Nat) ≠ N := by omega
  have z20 : (N + 2 : Nat) ≠ N := by omega
  have z30 : (N + 3 : Nat) ≠ N := by omega
  have z40 : (N + 4 : Nat) ≠ N := by omega
  have J1 := I2.take (t' := s1.toks) (h' := h') (fun b ob _ e => e) (fp (Nat.le_refl _) n0) (obH_ok g1)
  have J2 := J1.take (t' := s1.toks) (h' := h') (it := N + 1) (fun b ob _ e => e) (fp (Nat.le_add_right _ _) ((upd_ne z10).trans n1)) (obH_ok g2)
  have J3 := J2.take (t' := s1.toks) (h' := h') (it := N + 2) (fun b ob _ e => e) (fp (Nat.le_add_right _ _) ((upd_ne (ad_ne (by decide))).trans ((upd_ne z20).trans n2))) (obH_ok hTI)
  have J4 := J3.take (t' := s1.toks) (h' := h') (it := N + 3) (fun b ob _ e => e) (fp (Nat.le_add_right _ _) ((upd_ne (ad_ne (by decide))).trans ((upd_ne (ad_ne (by decide))).trans ((upd_ne z30).trans n3)))) (obH_ok hTO)
  have J5 := J4.take (t' := s1.toks) (h' := h') (it := N + 4) (fun b ob _ e => e) (fp (Nat.le_add_right _ _) ((upd_ne (ad_ne (by decide))).trans ((upd_ne (ad_ne (by decide))).trans ((upd_ne (ad_ne (by decide))).trans ((upd_ne z40).trans n4))))) (obH_ok hz)
  refine ⟨.ref (N + 4), zipH H1 N a b, J5, rfl, q N ?_ ?_ fun c hc => ⟨fr (zfp_le hc), I1.nofs (by rw [hN]; exact zfp_le hc), Nat.le_trans I1.sz (by rw [hN]; exact zfp_le hc)⟩⟩
  · rw [← hN]
    exact p1.lt
  · rw [← hN]
    exact p2.lt
def iZipM (X : Cx) (te : TE) : TI := fun σ H R => te σ H fun v H1 => ∃ (N : Nat) (a b : Addr) (H0 : Hp), v = .ref (N + 4) ∧ H1 = zipH H0 N a b ∧ a < N ∧ b < N ∧ (∀ c ∈ zfp N, H0 c = none ∧ X.H_0 c = none ∧ Yg X c) ∧ R (ItzM X.K a b) H0
theorem pi_zipM {X : Cx} {e : Expr} {te : TE} {tpos : Pos} {elts : List Expr} {kk : Nat} (he : PE X e te) (hx : X.ex = []) : PI X (.Tuple elts kk tpos) e (iZipM X te) := by
  refine ⟨fun pins s σ H R I h => ?_⟩
  refine thn (he.run pins s σ H _ I h) fun v s1 ⟨x, H1, I1, r1, q1⟩ => ?_
  obtain ⟨N, a, b, H0, rfl, rfl, ha, hb, hc, q⟩ := q1
  cases r1
  have at4 : zipH H0 N a b (N + 4) = some (obH (N + 4) { cls := .type "zip", dict := none, data := .fields #[.none, .bool false, .bool false, .ref (N + 2), .ref (N + 3)], slots := #[] }) := upd_same
  have at3 : zipH H0 N a b (N + 3) = some (obH (N + 3) { cls := .type "tuple", data := .seq #[.none, .none] }) := (upd_ne (ad_ne (by decide))).trans upd_same
  have at2 : zipH H0 N a b (N + 2) = some (obH (N + 2) { cls := .type "tuple", data := .seq #[.ref N, .ref (N + 1)] }) := (upd_ne (ad_ne (by decide))).trans ((upd_ne (ad_ne (by decide))).trans upd_same)
  have at1 : zipH H0 N a b (N + 1) = some (obH (N + 1) { cls := .type "list_iterator", data := .fields #[.ref b, .int 0 0] }) := (upd_ne (ad_ne (by decide))).trans ((upd_ne (ad_ne (by decide))).trans ((upd_ne (ad_ne (by decide))).trans upd_same))
  have z10 : (N + 1 : Nat) ≠ N := by omega
  have z20 : (N + 2 : Nat) ≠ N := by omega
  have z30 : (N + 3 : Nat) ≠ N := by omega
  have z40 : (N + 4 : Nat) ≠ N := by omega
  have at0 : zipH H0 N a b N = some (obH N { cls := .type "tuple_iterator", data := .fields #[.ref a, .int 0 0] }) :=
    (upd_ne (Ne.symm z40)).trans ((upd_ne (Ne.symm z30)).trans ((upd_ne (Ne.symm z20)).trans ((upd_ne (Ne.symm z10)).trans upd_same)))
  have f4 := (I1.hok _ _ at4).1
  have f3 := (I1.hok _ _ at3).1
  have f2 := (I1.hok _ _ at2).1
  have f1 := (I1.hok _ _ at1).1
  have f0 := (I1.hok _ _ at0).1
  have trk : ∀ c ∈ zfp N, ∃ o, zipH H0 N a b c = some o := fun c h => by
    rcases zfp_cases h with q | q | q | q | q
    · rw [q]; exact ⟨_, at4⟩
    · rw [q]; exact ⟨_, at2⟩
    · rw [q]; exact ⟨_, at3⟩
    · rw [q]; exact ⟨_, at0⟩
    · rw [q]; exact ⟨_, at1⟩
  have fpk : ∀ c ∈ zfp N, FpOk X pins H0 c := fun c h => by
    obtain ⟨o, eo⟩ := trk c h
    obtain ⟨h1, h2, h3, h4⟩ := hc c h
    refine ⟨h1, fun z => ?_, h3, .inr h4, fun x d ed z => ?_, fun p hp z => ?_⟩
    · have := I1.free
      rw [← z, eo] at this
      cases this
    · have := I1.freeC x d ed
      rw [z, eo] at this
      cases this
    · have := (I1.pin p hp).2.1
      rw [z, eo] at this
      cases this
  have m4 : N + 4 ∈ zfp N := by simp
  have m3 : N + 3 ∈ zfp N := by simp
  have m2 : N + 2 ∈ zfp N := by simp
  have m1 : N + 1 ∈ zfp N := by simp
  have m0 : N ∈ zfp N := by simp
  have d0 := (hc _ m0).1
  have d1 := (hc _ m1).1
  have d2 := (hc _ m2).1
  have d3 := (hc _ m3).1
  have d4 := (hc _ m4).1
  have fr : ∀ c ∈ zfp N, Fr0 X.H_0 c := fun c h => fr0_none (hc c h).2.1
  obtain ⟨G4, s4, _, J4⟩ := I1.untrack (a := N + 4) upd_same (fr _ m4) hx
  rw [show delH (zipH H0 N a b) (N + 4) = _ from delH_new ((upd_ne (ad_ne (by decide))).trans ((upd_ne (ad_ne (by decide))).trans ((upd_ne (ad_ne (by decide))).trans ((upd_ne z40).trans d4))))] at J4
  obtain ⟨G3, s3, _, J3⟩ := J4.untrack (a := N + 3) upd_same (fr _ m3) hx
  rw [delH_new ((upd_ne (ad_ne (by decide))).trans ((upd_ne (ad_ne (by decide))).trans ((upd_ne z30).trans d3)))] at J3
  obtain ⟨G2, s2, _, J2⟩ := J3.untrack (a := N + 2) upd_same (fr _ m2) hx
  rw [delH_new ((upd_ne (ad_ne (by decide))).trans ((upd_ne z20).trans d2))] at J2
  obtain ⟨G1, s1', _, J1⟩ := J2.untrack (a := N + 1) upd_same (fr _ m1) hx
  rw [delH_new ((upd_ne z10).trans d1)] at J1
  obtain ⟨G0, s0, _, J0⟩ := J1.untrack (a := N) upd_same (fr _ m0) hx
  rw [delH_new d0] at J0
  have J : Inv X pins σ H0 s1 := J0.kept (h' := s1.heap) (t' := s1.toks) fun b o e => s4 b o (s3 b o (s2 b o (s1' b o (s0 b o e))))
  refine wpAny_pyIter_zip f4 ?_
  exact ⟨N + 4, zfp N, _, _, H0, rfl, J, turn_zM ha hb, ⟨f4, f2, ⟨_, _, f3⟩, ⟨_, f0, rfl, rfl⟩, ⟨_, f1, rfl, rfl⟩⟩, fpk, q⟩
/-- a walk of both at once -/
theorem walk_zM {K : PySem.W.Frag} {a b : Addr} {xs ys : List V} (hl : xs.length ≤ ys.length) : Walk (ItzM K a b) xs.length (fun H => SqT K H a xs ∧ SqL K H b ys) (fun i H v H' => ∃ T x y, v = .ref T ∧ H T = none ∧ H' = upd H T (.tup [x, y]) ∧ xs[i]? = some x ∧ ys[i]? = some y) :=
  ⟨fun i H hi ⟨h1, h2⟩ => ⟨xs, ys, _, _, h1, h2, List.getElem?_eq_getElem hi, List.getElem?_eq_getElem (Nat.lt_of_lt_of_le hi hl)⟩, fun H ⟨h1, h2⟩ => ⟨xs, ys, h1, h2, .inl rfl, Nat.le_refl _, hl⟩, fun i H v H' hi ⟨h1, h2⟩ ⟨T, x, y, e1, e2, e3, f1, f2⟩ => ⟨T, x, y, e1, e2, e3, f1 xs h1, f2 ys h2⟩⟩
end K5S
/-! x.__class__.__name__ of an instance of a class of the text: the kept text of the class, nothing is written -/
namespace K5
open PySem PySem.Spec PySem.W PySem.Calls PyProof.Rows Builtin Builtin.ObjectAttr Builtin.Getset_descriptor
/-- the class at C keeps its name nm -/
def KeptName (K : PySem.W.Frag) (C : Addr) (nm : Str) : Prop := ∃ o t, K.lookup C = some o ∧ o.slots[2]? = some (some (.str nm t))
theorem dga_ref (d tp : Value) (C : Addr) : descrGetArgs ⟨[d, .ref C, tp], []⟩ = pure (d, some (.ref C), given tp) := by kernel_rfl
section
variable {prog : Program} {w : World} {A : Around} {E : Value → Shared → Prop} {s : Shared} {K : Frag} {R : Result → Shared → Prop} {C : Addr} {nm : Str}
theorem name_get (X : K.In s.heap) {tp : Value} (ht : typeIn K (.ref C) = some (.type "type")) (hk : KeptName K C nm) (h : ∀ t, R (.ok (.ret (.str nm t))) s) :
    codeAny (model prog w) A (.call (.builtin "getset_descriptor.__get__") ⟨[.builtin "type.__name__", .ref C, tp], []⟩) R s := by
  obtain ⟨o, t, ho, hs⟩ := hk
  have hC := X _ _ ho
  obtain ⟨hh, g, dr, tt, os⟩ := s
  have L0 : Looks (model prog w) hh (typeOf (.ref C)) (.type "type") := looks_typeIn X ht
  have L1 : Looks (model prog w) hh (isSubtype (.type "type") (.type "type")) true := Looks.of_pure (by rw [isSubtype_type]; kernel_rfl)
  refine codeAny_call_builtin KF.slot_gs.plain KF.entry_gs (KF.slot_gs.check _ _ _ _ _ _ _ _ ktyn_type (KF.args_gs _ _ _) ?_)
  unfold Builtin.«getset_descriptor.__get__» descrGet
  rw [dga_ref]
  refine wpAny_bind (wpAny_pure ?_)
  unfold descrGetter descrCheckInstance descrNameAndClass isInstance
  simp only [ktyn_owner]
  repeat lk
  refine ⟨Code.quiet_builtin _ (by decide +kernel), codeAny_builtin ktyn_entry ?_⟩
  unfold Builtin.«type.__name__» Builtin.keptObject
  dsimp only
  unfold slotAt
  refine wpAny_bind (wpAny_bind (wpAny_loadPart hC ?_))
  rw [hs]
  refine wpAny_pure ?_
  exact wpAny_pure (h t)
end
end K5
namespace L2
open PySem PySem.Spec PyProof.Rows
/-- what of the text a class must have, for o.__class__.__name__ -/
structure ClsNm (K : PySem.W.Frag) (C : Addr) (nm : Str) : Prop where
  pg : PySem.W.plainGet K C "__class__" = true
  hd : PySem.W.hasDictIn K C = true
  fi : PySem.W.findIn K (.ref C) "__class__" = some (some (.builtin "object.__class__"))
  sp : PySem.W.specialIn K (.builtin "object.__class__") "__get__" = some (some (.builtin "getset_descriptor.__get__"))
  tk : PySem.W.takesIn K (.builtin "object.__class__") = some true
  mro : PySem.W.mroIn K C (.type "object") = some true
  rd : PySem.W.readsIn K C (.type "type") = true
  fn : PySem.W.findCls K (.ref C) (.type "type") "__name__" = some (.get (.builtin "getset_descriptor.__get__") (.builtin "type.__name__") (.ref C) (.type "type"))
  ty : PySem.W.typeIn K (.ref C) = some (.type "type")
  nm : K5.KeptName K C nm
section
variable {X : Cx} {pins : List (Addr × Obj)} {σ : L2.St} {H : Hp} {s : Shared} {a C dx : Addr} {fs : List (Str × V)} {nm : Str} {A : Around} {E : Value → Shared → Prop}
theorem getclass_ok {b : Bool} {Q : Value → Shared → Prop} (I : Inv X pins σ H s) (e : H a = some (.ins C dx fs)) (k : ClsNm X.K C nm)
    (h : ∀ s', Inv X pins σ H s' → Q (.ref C) s') : wpAny (model X.prog X.w) A (getAttr (.ref a) "__class__" b) Q E s := by
  obtain ⟨mA, O, r, _, _, _⟩ := ins_get I.hok e
  have hf : ∀ od, PySem.W.findObj X.K C (some od) "__class__" = some (.bind (.builtin "getset_descriptor.__get__") (.builtin "object.__class__")) := fun od =>
    PySem.W.findObj_data (by obtain ⟨cd, hc, _⟩ := PySem.W.any_some k.hd; rw [hc]; rfl) k.fi k.sp k.tk
  obtain ⟨od, J, hl⟩ := O.look
  refine PySem.W.get_bind I.kIn J (PySem.W.plainGet_of k.pg).1 (hf od) (PySem.W.plainGet_of k.pg).2 ?_
  exact wpAny_call (PySem.W.class_get (s := { s with toks := s.toks + 1 }) I.kIn J k.mro (PySem.W.handed_on rfl (h _ (I.tok _))))
theorem getname_ok {b : Bool} {Q : Value → Shared → Prop} (I : Inv X pins σ H s) (k : ClsNm X.K C nm)
    (h : ∀ s' t, Inv X pins σ H s' → Q (.str nm t) s') : wpAny (model X.prog X.w) A (getAttr (.ref C) "__name__" b) Q E s :=
  PySem.W.cls_bind I.kIn k.rd k.fn (wpAny_call (K5.name_get (s := { s with toks := s.toks + 1 }) I.kIn k.ty k.nm fun t => PySem.W.handed_on rfl (h _ t (I.tok _))))
/-- e.__class__.__name__ -/
def tClsNm (K : PySem.W.Frag) (ta : TE) : TE := fun σ H Q => ta σ H fun x H1 => ∃ a C dx fs nm, x = .ref a ∧ H1 a = some (.ins C dx fs) ∧ ClsNm K C nm ∧ Q (.str nm) H1
theorem pe_clsnm {e : Expr} {pos pos' : Pos} {ta : TE} (he : PE X e ta) (hb : attributeBase e "__class__" X.env (eval e X.env) = eval e X.env)
    (hb2 : attributeBase (.Attribute e "__class__" pos') "__name__" X.env (eval (.Attribute e "__class__" pos') X.env) = eval (.Attribute e "__class__" pos') X.env) :
    PE X (.Attribute (.Attribute e "__class__" pos') "__name__" pos) (tClsNm X.K ta) := by
  refine ⟨fun pins s σ H Q I h => ?_⟩
  refine attr_of hb2 (attr_of hb (thn (he.run pins s σ H _ I h) fun u s1 ⟨x, H1, I1, rx, a, C, dx, fs, nm, ex, ea, k, q⟩ => ?_))
  subst ex
  obtain rfl : u = Value.ref a := rx
  exact getclass_ok I1 ea k fun s2 I2 => getname_ok I2 k fun s3 t I3 => ⟨.str nm, H1, I3, ⟨t, rfl⟩, q⟩
end
end L2
/-! == and != of instances by an own __eq__, both answers -/
namespace L2
open PySem PySem.Spec PyProof.Rows
end L2
/-! the truth of an instance by an own __bool__ -/
namespace L2
open PySem PySem.Spec PyProof.Rows
end L2
namespace K0
open PySem PySem.Spec PyProof.Rows L2
open PySem.W (any_some)
end K0
namespace PySem
end PySem
namespace K0
open PySem PySem.Spec PyProof.Rows L2
/-! ### keywords to their places -/
def kg1 {α : Type} : List α → List α → List α
  | [], [v] => [v]
  | _, _ => []
def kg2 {α : Type} : List α → List α → List α
  | [u], [v] => [u, v]
  | _, _ => []
def kg3 {α : Type} : List α → List α → List α
  | [], [a, b, c] => [a, b, c]
  | _, _ => []
section
variable {vs zs : List V} {us ws : List Value}
theorem rel1 (r : Vals vs us) (rz : Vals zs ws) : Vals (kg1 vs zs) (kg1 us ws) := by
  cases r with
  | nil =>
    cases rz with
    | nil => exact .nil
    | cons a b =>
      cases b with
      | nil => exact .cons a .nil
      | cons c d => exact .nil
  | cons x y => exact .nil
theorem rel2 (r : Vals vs us) (rz : Vals zs ws) : Vals (kg2 vs zs) (kg2 us ws) := by
  cases r with
  | nil => exact .nil
  | cons x y =>
    cases y with
    | cons x2 y2 => exact .nil
    | nil =>
      cases rz with
      | nil => exact .nil
      | cons a b =>
        cases b with
        | nil => exact .cons x (.cons a .nil)
        | cons c d => exact .nil
theorem rel3 (r : Vals vs us) (rz : Vals zs ws) : Vals (kg3 vs zs) (kg3 us ws) := by
  cases r with
  | cons x y => exact .nil
  | nil =>
    cases rz with
    | nil => exact .nil
    | cons a b =>
      cases b with
      | nil => exact .nil
      | cons c d =>
        cases d with
        | nil => exact .nil
        | cons e f =>
          cases f with
          | nil => exact .cons a (.cons c (.cons e .nil))
          | cons g h => exact .nil
end
section
variable {K : PySem.W.Frag} {x qual : Str} {st : Stmt} {f : Addr} {fd : FuncData} {p q r : Str}
abbrev fOf (x qual : Str) (st : Stmt) (kV doc pm : Value) (an : Option Addr) (cdv ct : Value) : FuncData := PySem.W.fnOf x qual (defArgs st) (defBody st) (defScope st) .none kV doc pm an cdv ct
theorem kb1 (F : Fun K x qual st f fd) (h : ∀ kV doc pm an cdv ct v, bindArgs (fOf x qual st kV doc pm an cdv ct) ⟨[], [(p, v)]⟩ = pure [(p, v)]) : KBinds K fd [p] [p] kg1 kg1 := by
  obtain ⟨oc, od, kV, doc, pm, an, cdv, ct, osl, rfl, lk, hcd⟩ := F.ex
  refine ⟨fun s us ws _ hl => ?_, rel1⟩
  match us, ws, hl with
  | [], [v], _ => exact .of_eq (h _ _ _ _ _ _ v)
theorem kb2 (F : Fun K x qual st f fd) (h : ∀ kV doc pm an cdv ct u v, bindArgs (fOf x qual st kV doc pm an cdv ct) ⟨[u], [(q, v)]⟩ = pure [(p, u), (q, v)]) : KBinds K fd [p, q] [q] kg2 kg2 := by
  obtain ⟨oc, od, kV, doc, pm, an, cdv, ct, osl, rfl, lk, hcd⟩ := F.ex
  refine ⟨fun s us ws _ hl => ?_, rel2⟩
  match us, ws, hl with
  | [u], [v], _ => exact .of_eq (h _ _ _ _ _ _ u v)
theorem kb3 (F : Fun K x qual st f fd) (h : ∀ kV doc pm an cdv ct u v z, bindArgs (fOf x qual st kV doc pm an cdv ct) ⟨[], [(p, u), (q, v), (r, z)]⟩ = pure [(p, u), (q, v), (r, z)]) : KBinds K fd [p, q, r] [p, q, r] kg3 kg3 := by
  obtain ⟨oc, od, kV, doc, pm, an, cdv, ct, osl, rfl, lk, hcd⟩ := F.ex
  refine ⟨fun s us ws _ hl => ?_, rel3⟩
  match us, ws, hl with
  | [], [u, v, z], _ => exact .of_eq (h _ _ _ _ _ _ u v z)
end
end K0
namespace K0
open PySem PySem.Spec PyProof.Rows L2
/-- zip of two texts: new pairs of signs -/
def Itzs (x y : Str) : It :=
  ⟨fun i _ => i < x.cps.size ∧ i < y.cps.size,
    fun i H v H' => ∃ T c d, v = .ref T ∧ H T = none ∧ H' = upd H T (.tup [.str ⟨#[c]⟩, .str ⟨#[d]⟩]) ∧ x.cps[i]? = some c ∧ y.cps[i]? = some d,
    fun i _ => (i = x.cps.size ∨ i = y.cps.size) ∧ i ≤ x.cps.size ∧ i ≤ y.cps.size⟩
abbrev zfp (N : Nat) : List Addr := [N + 4, N + 2, N + 3, N, N + 1]
theorem zs_sep (N : Nat) : ZipSep2 (N + 4) (N + 2) (N + 3) N (N + 1) [N] [N + 1] := zip_sep2 (fp1 := []) (fp2 := []) (fun _ h => nomatch h) (fun _ h => nomatch h)
theorem turn_zs {P : Program} {w : World} {K : PySem.W.Frag} {elts : List Expr} {kk : Nat} {tpos : Pos} (N : Nat) (x y : Str) (t u : Tok) :
    Turn P w K (.Tuple elts kk tpos) (Itzs x y) (zfp N) (N + 4) (fun i h => IsZip h (N + 4) (N + 2) (N + 3) .none ∧ IsTupOf2 h (N + 2) (.ref N) (.ref (N + 1)) ∧ (∃ a b, IsTupOf2 h (N + 3) a b) ∧
      h.IsStrIter N (strIterType x) x t i ∧ h.IsStrIter (N + 1) (strIterType y) y u i) where
  mem := by simp
  obj := fun i h st c hc => by
    obtain ⟨hz, hTI, ⟨a, b, hTO⟩, ⟨o1, e1, _, d1⟩, ⟨o2, e2, _, d2⟩⟩ := st
    have e' : c = N + 4 ∨ c = N + 2 ∨ c = N + 3 ∨ c = N ∨ c = N + 1 := by simpa using hc
    rcases e' with q | q | q | q | q
    · rw [q]; exact ⟨_, hz, fun v q => nomatch q⟩
    · rw [q]; exact ⟨_, hTI, fun v q => nomatch q⟩
    · rw [q]; exact ⟨_, hTO, fun v q => nomatch q⟩
    · rw [q]; exact ⟨o1, e1, fun v q => by rw [d1] at q; cases q⟩
    · rw [q]; exact ⟨o2, e2, fun v q => by rw [d2] at q; cases q⟩
  keep := fun i h h' st k => by
    obtain ⟨hz, hTI, ⟨a, b, hTO⟩, ⟨o1, e1, r1⟩, ⟨o2, e2, r2⟩⟩ := st
    exact ⟨k (N + 4) (by simp) _ hz, k (N + 2) (by simp) _ hTI, ⟨a, b, k (N + 3) (by simp) _ hTO⟩, ⟨o1, k N (by simp) _ e1, r1⟩, ⟨o2, k (N + 1) (by simp) _ e2, r2⟩⟩
  item := by
    intro X hP hw hK hc i pins s σ H E I hf st hg
    subst hP hw hK
    obtain ⟨hz, hTI, ⟨a, b, hTO⟩, h1, h2⟩ := st
    have hh : X.A.in1.handled = none := I.ok.hd hc
    have hzl : N + 4 < s.heap.objs.size := Heap.lt_size hz
    refine wpAny_pyNext_zipD2_item (zs_sep N) (Draws.text hh N x t) (Draws.text hh (N + 1) y u) hz hTI hTO h1 h2 hg.1 hg.2 fun x1 x2 h' tk p1 p2 z' TO' h1' h2' hT hsz hk => ?_
    obtain ⟨c, u1, hx, rfl⟩ := p1
    obtain ⟨d, u2, hy, rfl⟩ := p2
    refine ⟨_, rfl, wpAny_letOwnedTupleGo_zip (s := { s with heap := h', toks := tk }) z' fun h'' z'' sb => ?_⟩
    have hT2 : h''.get? s.heap.objs.size = some { cls := .type "tuple", data := .seq #[.str ⟨#[c]⟩ u1, .str ⟨#[d]⟩ u2] } := (sb.2 _ (Nat.ne_of_gt hzl)).trans hT
    have new : ObjOk X.prog X.w (upd H s.heap.objs.size (.tup [.str ⟨#[c]⟩, .str ⟨#[d]⟩])) h'' s.heap.objs.size (.tup [.str ⟨#[c]⟩, .str ⟨#[d]⟩]) :=
      ⟨by show 2 ≤ sizeLine; decide, [.str ⟨#[c]⟩ u1, .str ⟨#[d]⟩ u2], .cons ⟨u1, rfl⟩ (.cons ⟨u2, rfl⟩ .nil), ⟨_, hT2, rfl, _, rfl⟩⟩
    have I1 := I.turnedNew (t' := tk) (ch := zfp N) (h' := h'') (fun c o hb q => (sb.2 c (fun q' => hb (by simp [q']))).trans
      (hk c o (fun q' => hb (by simp [q'])) (fun q' => hb (by simp [q'])) (fun q' => hb (by simp [q'])) (fun q' => hb (by simp [q'])) q)) hf (Nat.le_refl _) new
    have zne1 : N + 2 ≠ N + 4 := by omega
    have zne2 : N + 3 ≠ N + 4 := by omega
    have zne3 : N ≠ N + 4 := by omega
    have zne4 : N + 1 ≠ N + 4 := by omega
    have zne5 : N + 2 ≠ N + 3 := by omega
    have zne6 : N + 2 ≠ N := by omega
    have zne7 : N + 2 ≠ N + 1 := by omega
    refine ⟨.ref s.heap.objs.size, _, I1, rfl, ⟨_, c, d, rfl, I.hok.fresh (Nat.le_refl _), rfl, hx, hy⟩, ⟨z'', ?_, ⟨_, _, (sb.2 _ zne2).trans TO'⟩, ?_, ?_⟩, fun c' hcm => ?_⟩
    · refine (sb.2 _ zne1).trans (hk _ _ zne1 zne5 zne6 zne7 hTI)
    · obtain ⟨o, e, r⟩ := h1'
      exact ⟨o, (sb.2 _ zne3).trans e, r⟩
    · obtain ⟨o, e, r⟩ := h2'
      exact ⟨o, (sb.2 _ zne4).trans e, r⟩
    · have hlt : c' < s.heap.objs.size := by
        have e' : c' = N + 4 ∨ c' = N + 2 ∨ c' = N + 3 ∨ c' = N ∨ c' = N + 1 := by simpa using hcm
        have hz' : N + 4 < s.heap.objs.size := hzl
        have h5 : ∀ m : Nat, m = N + 4 ∨ m = N + 2 ∨ m = N + 3 ∨ m = N ∨ m = N + 1 → m < s.heap.objs.size := fun m hm => by omega
        exact h5 c' e'
      rw [upd_ne (Nat.ne_of_lt hlt)]
      exact (hf c' hcm).1
  done := by
    intro X hP hw hK hc i pins s σ H E I hf st hg
    subst hP hw hK
    obtain ⟨hz, hTI, ⟨a, b, hTO⟩, h1, h2⟩ := st
    have hh : X.A.in1.handled = none := I.ok.hd hc
    refine wpAny_pyNext_zipD2_end (zs_sep N) (Draws.text hh N x t) (Draws.text hh (N + 1) y u) hz hTI hTO h1 h2 hg.2.1 hg.2.2 hg.1 fun h' tk hk => ⟨rfl, I.turnedL (t' := tk) (ch := zfp N) (fun c o hb q =>
      hk c o (fun q' => hb (by simp [q'])) (fun q' => hb (by simp [q'])) (fun q' => hb (by simp [q'])) (fun q' => hb (by simp [q'])) q) hf⟩
  self := fun A i s Q E st h => wpAny_pyIter_zip st.1 h
def iZipS (ta : TA) : TI := fun σ H R => ta σ H fun vs H1 => ∃ x y : Str, vs = [.str x, .str y] ∧ R (Itzs x y) H1
theorem pi_zipS {X : Cx} {e e2 : Expr} {ta : TA} {p pos tpos : Pos} {elts : List Expr} {kk : Nat} (hg : Gl X "zip") (hm : X.mg "zip" = none) (ha : PA X [e, e2] ta)
    (hs : starEach [e, e2] X.env = (false, eval e X.env) :: starEach [e2] X.env := by rfl) (hpl : (backTo pos (starEach [e2] X.env)).any (·.1) = false := by rfl) :
    PI X (.Tuple elts kk tpos) (.Call (.Name "zip" p) [e, e2] [] pos) (iZipS ta) := by
  refine ⟨fun pins s σ H R I h => ?_⟩
  refine Call_ (ld_blt I hg hm PyProof.Rows.boot_zip (PyProof.Rows.callWith_type1 (thn (ha.run pos pins s σ H _ I h) fun us s1 ⟨vs, H1, I1, r1, q1⟩ => ?_) hs hpl))
  obtain ⟨x, y, ex, q⟩ := q1
  subst ex
  obtain ⟨u1, u2, rfl, r1, r2⟩ := vals2 r1
  obtain ⟨t1, rfl⟩ := (show ∃ t, u1 = Value.str x t from r1)
  obtain ⟨t2, rfl⟩ := (show ∃ t, u2 = Value.str y t from r2)
  refine zip_begins2 (begins_text x t1) (begins_text y t2) trivial trivial fun h' hz hTI hTO g1 g2 hsz hk => wpAny_pyIter_zip hz ?_
  have I2 : Inv X pins σ H1 { s1 with heap := h' } := I1.kept (t' := s1.toks) hk
  refine ⟨s1.heap.objs.size + 4, zfp s1.heap.objs.size, _, _, H1, rfl, I2, turn_zs s1.heap.objs.size x y t1 t2, ⟨hz, hTI, ⟨_, _, hTO⟩, ⟨_, g1, rfl, rfl⟩, ⟨_, g2, rfl, rfl⟩⟩, fun c hcm => ?_, q⟩
  have e' : c = s1.heap.objs.size + 4 ∨ c = s1.heap.objs.size + 2 ∨ c = s1.heap.objs.size + 3 ∨ c = s1.heap.objs.size ∨ c = s1.heap.objs.size + 1 := by simpa using hcm
  have h5 : ∀ m : Nat, m = s1.heap.objs.size + 4 ∨ m = s1.heap.objs.size + 2 ∨ m = s1.heap.objs.size + 3 ∨ m = s1.heap.objs.size ∨ m = s1.heap.objs.size + 1 → s1.heap.objs.size ≤ m := fun m hm => by omega
  exact I1.fpOk (h5 c e') (I1.hok.fresh (h5 c e'))
end K0
namespace K0
open PySem PySem.Spec PyProof.Rows L2
section
variable {X : Cx}
def rMulS : R2 := fun x y H Q => ∃ (z : Str) (k : Int), x = .str z ∧ y = .int k ∧ z.length = 1 ∧ k ≤ 1000 ∧ -1000 ≤ k ∧ Q (.str ⟨Array.replicate k.toNat (z.cps.getD 0 0)⟩) H
theorem foldl_one (c : Nat) : ∀ (n : Nat) (acc : Array Nat), (List.replicate n #[c]).foldl (· ++ ·) acc = acc ++ Array.replicate n c
  | 0, acc => by simp
  | n + 1, acc => by
    rw [List.replicate_succ, List.foldl_cons, foldl_one c n]
    apply Array.ext'
    simp [List.replicate_succ]
theorem op_mulS : OpR X (binaryOp .Mult) rMulS := by
  intro pins s σ H x y v u Q I rx ry h
  obtain ⟨z, k, rfl, rfl, hz, h1, h2, q⟩ := h
  obtain ⟨t, rfl⟩ := (show ∃ t, v = Value.str z t from rx)
  obtain ⟨t', rfl⟩ := (show ∃ t, u = Value.int k t from ry)
  have hzc : z.cps = #[z.cps.getD 0 0] := by
    obtain ⟨a⟩ := z
    obtain ⟨l⟩ := a
    match l, hz with
    | [c], _ => rfl
  refine PySem.P.mul_str ?_ ?_ ?_ ?_
  · have a1 : ¬ k < -(2 ^ 63 : Int) := by omega
    have a2 : ¬ k ≥ 2 ^ 63 := by omega
    rw [decide_eq_false a1, decide_eq_false a2]
    rfl
  · intro a b
    have : (1 : Int) ≤ k := by omega
    have hz' : (z.length : Int) = 1 := by rw [hz]; rfl
    rw [hz']
    have : (2 ^ 63 - 1) / k ≥ (2 ^ 63 - 1) / 1000 := by
      apply Int.le_ediv_of_mul_le (by omega)
      have : (2 ^ 63 - 1 : Int) / 1000 * k ≤ (2 ^ 63 - 1 : Int) / 1000 * 1000 := Int.mul_le_mul_of_nonneg_left h1 (by decide)
      omega
    omega
  · intro a b
    rw [hz, Nat.one_mul]
    have : k.toNat ≤ 1000 := by omega
    refine decide_eq_false ?_
    rw [sizeLine_eq]
    omega
  · split
    · rename_i hk
      have e : k.toNat = 0 := by omega
      rw [e] at q
      refine ⟨by decide, ?_⟩
      exact ⟨.str _, H, I.tok _, ⟨_, rfl⟩, q⟩
    · split
      · rename_i hk hb
        have e : k = 1 := by
          rw [hz] at hb
          simpa using hb
        subst e
        have e2 : (⟨Array.replicate (Int.toNat 1) (z.cps.getD 0 0)⟩ : Str) = z := by
          have e3 : Array.replicate (Int.toNat 1) (z.cps.getD 0 0) = #[z.cps.getD 0 0] := rfl
          rw [e3, ← hzc]
        rw [e2] at q
        exact ⟨.str z, H, I, ⟨_, rfl⟩, q⟩
      · refine ⟨?_, ?_⟩
        · rw [hzc, foldl_one]
          show (#[] ++ Array.replicate k.toNat (z.cps.getD 0 0)).size ≤ sizeLine
          rw [Array.size_append, Array.size_replicate, sizeLine_eq]
          show 0 + k.toNat ≤ 16777216
          omega
        · have e : (⟨(List.replicate k.toNat z.cps).foldl (· ++ ·) #[]⟩ : Str) = ⟨Array.replicate k.toNat (z.cps.getD 0 0)⟩ := by
            rw [hzc, foldl_one]
            simp
          rw [e]
          exact ⟨.str _, H, I.tok _, ⟨_, rfl⟩, q⟩
end
end K0
/-! texts as lists of code points, the letters; small words on heaps -/
namespace K0
open PySem PySem.Spec PyProof.Rows L2
def Tx (l : List Nat) : Str := ⟨l.toArray⟩
theorem tx_list (l : List Nat) : (Tx l).cps.toList = l := by simp [Tx]
theorem tx_len (l : List Nat) : (Tx l).length = l.length := by show l.toArray.size = l.length; simp
theorem tx_of (z : Str) : Tx z.cps.toList = z := by
  obtain ⟨a⟩ := z
  simp [Tx]
theorem tx_inj {l k : List Nat} (h : Tx l = Tx k) : l = k := by
  have := congrArg (fun z : Str => z.cps.toList) h
  simpa [Tx] using this
theorem tx_app (l k : List Nat) : Tx l ++ Tx k = Tx (l ++ k) := by
  show (⟨l.toArray ++ k.toArray⟩ : Str) = ⟨(l ++ k).toArray⟩
  simp
def isaz (c : Nat) : Bool := decide (97 ≤ c) && decide (c ≤ 122)
def is09 (c : Nat) : Bool := decide (48 ≤ c) && decide (c ≤ 57)
def lw (l : List Nat) : Bool := l.all isaz
/-- signs below 128, by trial -/
def signOk (c : Nat) : Bool :=
  (Unicode.isAlpha c == (isaz c || (decide (65 ≤ c) && decide (c ≤ 90)))) && (Unicode.isLower c == isaz c) && (Unicode.isUpper c == (decide (65 ≤ c) && decide (c ≤ 90))) && (Unicode.isTitle c == false) &&
  (Unicode.isAlnum c == (isaz c || is09 c || (decide (65 ≤ c) && decide (c ≤ 90))))
theorem signs_ok : ∀ c, c < 128 → signOk c = true := by
  have h : (List.range 128).all signOk = true := by decide +kernel
  intro c hc
  exact List.all_eq_true.mp h c (List.mem_range.mpr hc)
theorem sign_facts {c : Nat} (h : c < 128) : Unicode.isAlpha c = (isaz c || (decide (65 ≤ c) && decide (c ≤ 90))) ∧ Unicode.isLower c = isaz c ∧ Unicode.isUpper c = (decide (65 ≤ c) && decide (c ≤ 90)) ∧ Unicode.isTitle c = false ∧
    Unicode.isAlnum c = (isaz c || is09 c || (decide (65 ≤ c) && decide (c ≤ 90))) := by
  have q := signs_ok c h
  unfold signOk at q
  simp only [Bool.and_eq_true, beq_iff_eq] at q
  exact ⟨q.1.1.1.1, q.1.1.1.2, q.1.1.2, q.1.2, q.2⟩
theorem az_lt {c : Nat} (h : isaz c = true) : c < 128 := by
  unfold isaz at h
  simp only [Bool.and_eq_true, decide_eq_true_eq] at h
  omega
theorem all_arr (l : List Nat) (p : Nat → Bool) : (Tx l).cps.all p = l.all p := by simp [Tx]
theorem any_arr (l : List Nat) (p : Nat → Bool) : (Tx l).cps.any p = l.any p := by simp [Tx]
theorem lw_of {l : List Nat} (hl : l ≠ []) : lw l = (Txt.isascii (Tx l) && (Txt.isalpha (Tx l) && Txt.islower (Tx l))) := by
  unfold Txt.isascii Txt.isalpha Txt.islower lw
  rw [all_arr, all_arr, any_arr, any_arr, tx_len]
  have hp : decide (l.length > 0) = true := by
    cases l with
    | nil => exact absurd rfl hl
    | cons a r => simp
  rw [hp, Bool.true_and]
  by_cases h : l.all isaz = true
  · have h1 : ∀ c ∈ l, isaz c = true := List.all_eq_true.mp h
    rw [h]
    symm
    simp only [Bool.and_eq_true, List.all_eq_true, List.any_eq_true, Bool.not_eq_true', decide_eq_true_eq]
    refine ⟨fun c hc => az_lt (h1 c hc), fun c hc => ?_, ?_, ?_⟩
    · rw [(sign_facts (az_lt (h1 c hc))).1, h1 c hc, Bool.true_or]
    · obtain ⟨a, r, e⟩ : ∃ a r, l = a :: r := by
        cases l with
        | nil => exact absurd rfl hl
        | cons a r => exact ⟨a, r, rfl⟩
      have ha : a ∈ l := by rw [e]; exact List.mem_cons_self
      exact ⟨a, ha, by rw [(sign_facts (az_lt (h1 a ha))).2.1]; exact h1 a ha⟩
    · rw [List.any_eq_false]
      intro c hc
      rw [(sign_facts (az_lt (h1 c hc))).2.2.1, (sign_facts (az_lt (h1 c hc))).2.2.2.1]
      have := h1 c hc
      unfold isaz at this
      simp only [Bool.and_eq_true, decide_eq_true_eq] at this
      have e : decide (c ≤ 90) = false := decide_eq_false (by omega)
      rw [e]
      simp
  · have h0 : l.all isaz = false := by simpa using h
    rw [h0]
    symm
    rw [Bool.eq_false_iff]
    intro q
    apply h
    simp only [Bool.and_eq_true, List.all_eq_true, Bool.not_eq_true', decide_eq_true_eq] at q
    obtain ⟨q1, q2, q3, q4⟩ := q
    rw [List.any_eq_false] at q4
    refine List.all_eq_true.mpr fun c hc => ?_
    have k := sign_facts (q1 c hc)
    have a1 := q2 c hc
    have a2 := q4 c hc
    rw [k.1] at a1
    rw [k.2.2.1, k.2.2.2.1] at a2
    cases hz : isaz c with
    | true => rfl
    | false =>
      rw [hz, Bool.false_or] at a1
      rw [a1] at a2
      simp at a2
/-! adjacent signs rise -/
def ris : List Nat → Bool
  | [] => true
  | [_] => true
  | a :: b :: r => decide (a < b) && ris (b :: r)
theorem ris_at : ∀ l : List Nat, ris l = ((List.range (l.length - 1)).map fun i => decide (l.getD i 0 < l.getD (i + 1) 0)).all id
  | [] => rfl
  | [_] => rfl
  | a :: b :: r => by
    have ih := ris_at (b :: r)
    unfold ris
    rw [ih]
    have e : (a :: b :: r).length - 1 = ((b :: r).length - 1) + 1 := by simp
    rw [e, List.range_succ_eq_map]
    simp [List.all_map, Function.comp_def]
/-! heaps -/
theorem Sm.new {H : Hp} {p : Addr} {o : HO} (h : H p = none) : Same H (upd H p o) := fun a u e => by
  rw [upd_ne (ne_of_none e h)]
  exact e
theorem Sm.put {H1 H : Hp} {p : Addr} {o : HO} (s : Same H1 H) (h : H1 p = none) : Same H1 (upd H p o) := fun a u e => by
  rw [upd_ne (ne_of_none e h)]
  exact s a u e
theorem tyx_same {K : PySem.W.Frag} {H H' : Hp} {v : V} {t : Value} (s : Same H H') (h : TyX K H v t) : TyX K H' v t := by
  cases h with
  | base b =>
    refine .base ?_
    cases b with
    | non => exact .non
    | bl x => exact .bl x
    | int i => exact .int i
    | str x => exact .str x
    | flt x => exact .flt x
    | lst e => exact .lst (s _ _ e)
    | frz e => exact .frz (s _ _ e)
    | tup e => exact .tup (s _ _ e)
    | dK e => exact .dK (s _ _ e)
    | dT e => exact .dT (s _ _ e)
    | ins e a b c d f => exact .ins (s _ _ e) a b c d f
  | byt b => exact .byt b
  | set e => exact .set (s _ _ e)
  | kList e c => exact .kList e c
  | kTuple e c => exact .kTuple e c
  | kDict e c => exact .kDict e c
  | fTuple e => exact .fTuple (s _ _ e)
  | fDict e => exact .fDict (s _ _ e)
/-- a list that grows at D, all else of H1 as it was -/
def SPv (H1 : Hp) (D : Addr) (acc : Nat → List V) (i : Nat) (H : Hp) : Prop := Same H1 H ∧ H D = some (.lst (acc i))
theorem spv0 {H1 : Hp} {D : Addr} {acc : Nat → List V} (hD : H1 D = none) (h : acc 0 = []) : SPv H1 D acc 0 (upd H1 D (.lst [])) := ⟨Sm.new hD, by rw [upd_same, h]⟩
theorem spv_put {H1 H : Hp} {D : Addr} {acc : Nat → List V} {i : Nat} {y : V} (hD : H1 D = none) (p : Same H1 H) (q : H D = some (.lst (acc i))) (hl : (acc i).length < 100000) (e : acc (i + 1) = acc i ++ [y]) :
    ∃ a, H D = some (.lst a) ∧ a.length < sizeLine ∧ SPv H1 D acc (i + 1) (upd H D (.lst (a ++ [y]))) :=
  ⟨_, q, Nat.lt_of_lt_of_le hl (by decide), Sm.put p hD, by rw [upd_same, e]⟩
theorem map_range_succ {α : Type} (f : Nat → α) (i : Nat) : (List.range (i + 1)).map f = (List.range i).map f ++ [f i] := by
  rw [List.range_succ, List.map_append]
  rfl
theorem walk_zs {x y : Str} {n : Nat} (hn : n = min x.cps.size y.cps.size) : Walk (Itzs x y) n (fun _ => True)
    (fun i H v H' => ∃ T c d, v = .ref T ∧ H T = none ∧ H' = upd H T (.tup [.str ⟨#[c]⟩, .str ⟨#[d]⟩]) ∧ x.cps[i]? = some c ∧ y.cps[i]? = some d) := by
  subst hn
  refine ⟨fun i _ hi _ => ⟨by omega, by omega⟩, fun _ _ => ⟨?_, by omega, by omega⟩, fun _ _ _ _ _ _ y => y⟩
  omega
end K0
/-! several except clauses, each with a name -/
namespace K4
open PySem PySem.Spec PyProof.Rows L2
abbrev Cla : Type := Value × Nat × (Addr → Value → Option Addr → TS)
/-- behind a named clause its name is gone -/
def bhd (i : Nat) (D : Ends) : Ends := { nx := fun σ' H' => D.nx (σ'.set i none) H', rt := D.rt, bk := fun σ' H' => D.bk (σ'.set i none) H', ct := fun σ' H' => D.ct (σ'.set i none) H' }
def wNamed (K : PySem.W.Frag) (D : Ends) : List Cla → WX
  | [] => fun _ _ _ _ => False
  | q :: r => fun cls d σ H => ∃ b, PySem.W.exmOne K cls q.1 = some b ∧ (b = true → ∀ a, H a = none → q.2.2 a cls d (bhd q.2.1 D) (σ.set q.2.1 (some (.ref a))) H) ∧ (b = false → wNamed K D r cls d σ H)
inductive Clauses (X : Cx) : List ExceptHandler → List Cla → Prop
  | nil : Clauses X [] []
  | cons {x n : Str} {c : Value} {i : Nat} {ts : Addr → Value → Option Addr → TS} {b₀ : Stmt} {suite : List Stmt} {np p : Pos} {hds : List ExceptHandler} {l : List Cla} (hi : X.N[i]? = some n) (hln : X.env.kindOf n = some .local) (hc : Names X x c)
      (hsu : ∀ (a : Addr) (oe : Obj) (cls : Value) (d : Option Addr) (pn : List (Addr × Obj)), Zc cls d oe → (∃ vs, oe.data = .fields vs) → PSs (X.suite a ((a, oe) :: pn)) (b₀ :: suite) (ts a cls d)) (r : Clauses X hds l) :
      Clauses X (.ExceptHandler (some (.Name x np)) (some n) (b₀ :: suite) p :: hds) ((c, i, ts) :: l)
section
variable {X : Cx} {body : List Stmt} {h₀ : ExceptHandler} {hds : List ExceptHandler} {l : List Cla} {pos : Pos} {tb : WX → TS}
/-- an error lands: one of the clauses takes it -/
theorem clauses_run {pins : List (Addr × Obj)} {D : Ends} (hs : X.stack = X.env :: X.outer) (hf : X.env.frame = some X.env.locals) (hN : X.N.Nodup) {B : Heap} {a : Addr} {cls : Value} {d : Option Addr} {σ' : L2.St} {H' : Hp} {s' : Shared} {h3 : Heap} {oe : Obj} {vs : Array Value} (ok : X.Ok)
    (J : ∀ h4 : Heap, HandSPX.FlyingZ B (X.env :: X.outer) a (Zc cls d) h4 → h3.UpToSlots h4 → Inv X pins σ' H' { s' with heap := h4 }) (fl3 : HandSPX.FlyingZ B (X.env :: X.outer) a (Zc cls d) h3) (he3 : h3.get? a = some oe) (hz3 : Zc cls d oe) (hd3 : oe.data = .fields vs)
    (na : H' a = none) (nL : a ≠ X.env.locals) (nF : a ∉ X.fs) :
    ∀ {hs : List ExceptHandler} {l : List Cla}, Clauses X hs l → wNamed X.K D l cls d σ' H' → wpAny (model X.prog X.w) X.A (handleBy (.ref a) X.env hs) (SP X pins D) X.xe { s' with heap := h3 } := by
  have J3 := J h3 fl3 (Heap.UpToSlots.refl _)
  have S3 := J3.suite he3 hd3 na nL nF
  intro hs l hk
  induction hk with
  | nil => exact fun w => w.elim
  | @cons x n c i ts b₀ suite np p hds2 l2 hi hln hc hsu r ih =>
    rintro ⟨b, hb1, yes, no⟩
    refine wpAny_handleBy_cons (codeAny_handlers_test ?_) (by intro q; cases q)
    have isIt := PySem.W.exm_one (M := model X.prog X.w) J3.kIn (fun A Q E s k q => wpAny_typeOf_ref (k _ _ he3) (by rw [hz3.1]; exact q)) hb1
    have named : ∀ {Q : Value → Shared → Prop} {E : Value → Shared → Prop}, Q c { s' with heap := h3 } → wpAny (model X.prog X.w) (X.A.mark (some (.ref a))) (eval (.Name x np) X.env) Q E { s' with heap := h3 } := fun {Q E} q => by
      obtain ⟨hg, hdbg, hm | ⟨hm, hv, hnn⟩⟩ := hc
      · exact ld_glob (X := X.suite a ((a, oe) :: (X.pn ++ pins))) S3 hg hm q hdbg
      · exact ld_blt (X := X.suite a ((a, oe) :: (X.pn ++ pins))) S3 hg hm hv q hnn hdbg
    refine named (isIt.here ?_)
    cases b with
    | false => exact ih (no rfl)
    | true =>
      refine codeAny_handlers_suite_as (HandSPX.lands_againZ fl3 fun h4 fl4 up4 => ?_)
      have J4 := J h4 fl4 up4
      obtain ⟨oe4, vs4, he4, hz4, hd4⟩ := fl4.there
      refine store_ok (X := X.suite a ((a, oe4) :: (X.pn ++ pins))) (v := .ref a) (J4.suite he4 hd4 na nL nF) hN hi (.inl hln) rfl (fun s5 S5 => ?_) (.inr hln)
      refine wpAny_mono ((hsu a oe4 cls d (X.pn ++ pins) hz4 ⟨_, hd4⟩).run [] s5 _ H' _ S5 (yes rfl a na)) (fun f s6 hsp => ?_) (fun _ _ z => False.elim z)
      cases f with
      | next =>
        obtain ⟨σ6, H6, S6, q6⟩ := hsp
        exact gone_ok (S6.unsuite ok) hN hi hln fun s7 J7 => ⟨_, _, J7, q6⟩
      | brk =>
        obtain ⟨σ6, H6, S6, q6⟩ := hsp
        exact gone_ok (S6.unsuite ok) hN hi hln fun s7 J7 => ⟨_, _, J7, q6⟩
      | cont =>
        obtain ⟨σ6, H6, S6, q6⟩ := hsp
        exact gone_ok (S6.unsuite ok) hN hi hln fun s7 J7 => ⟨_, _, J7, q6⟩
      | ret u =>
        obtain ⟨v6, σ6, H6, S6, r6, q6⟩ := hsp
        exact gone_ok (S6.unsuite ok) hN hi hln fun s7 J7 => ⟨_, _, _, J7, r6, q6⟩
theorem ps_try_named (hs : X.stack = X.env :: X.outer) (hf : X.env.frame = some X.env.locals) (hN : X.N.Nodup)
    (hb : ∀ (W : WX) (pn : List (Addr × Obj)) (xe : Value → Shared → Prop), Takes (X.tr pn xe) W → PassesOwn (model X.prog X.w) X.A X.env xe → PSs (X.tr pn xe) body (tb W))
    (hh : Clauses X (h₀ :: hds) l) : PS X (.Try body (h₀ :: hds) [] [] pos) (fun D σ H => tb (wNamed X.K D l) D σ H) := by
  refine ⟨fun pins s σ H D I h => ?_⟩
  have ok := I.ok
  have hfr : X.A.frames = some (X.env :: X.outer) := by rw [ok.frames, hs]
  refine wpAny_Try_except ?_
  refine wpAny_mono ((hb (wNamed X.K D l) (X.pn ++ pins) (fun e s₁ => wpAny (model X.prog X.w) X.A (noteFrame e X.env) (fun _ s₂ => wpAny (model X.prog X.w) X.A (setFlight e none) (fun _ s₃ =>
    wpAny (model X.prog X.w) X.A (handleBy e X.env (h₀ :: hds)) (SP X pins D) X.xe s₃) X.xe s₂) X.xe s₁) (fun u s' xx => ?_) PassesOwn.looking).run [] s σ H D (I.toTry _) h) (fun f s1 hsp => ?_) (fun e s1 he => he)
  · obtain ⟨a, B, sI, pins', σ', H', cls, d, rfl, J', nb, up, sky, na, os, ag, w⟩ := xx
    have J : Inv X pins σ' H' sI := J'.ofTry ok
    show wpAny (model X.prog X.w) X.A (noteFrame (.ref a) X.env) _ _ _
    refine Sky.land Zc.steady hfr hf (by rw [← hs]; exact sky) fun h3 fl3 up3 => ?_
    obtain ⟨oe3, vs3, he3, hz3, hd3⟩ := fl3.there
    have nfr : a ∉ frs (X.env :: X.outer) := fun hm => by
      obtain ⟨_, o', e', hnf⟩ := fl3.2.2.1.mem hm
      rw [he3] at e'
      cases e'
      exact hnf _ hd3
    have nL : a ≠ X.env.locals := fun z => nfr (List.mem_filterMap.mpr ⟨X.env, List.mem_cons_self, by rw [hf, z]⟩)
    have nF : a ∉ X.fs := fun hm => by
      obtain ⟨e, he, q⟩ := List.mem_filterMap.mp hm
      exact nfr (List.mem_filterMap.mpr ⟨e, List.mem_cons_of_mem _ he, q⟩)
    exact clauses_run hs hf hN ok (fun h4 fl4 up4 => J.landed nb fl4.1 ((up.trans up3).trans up4) os ag) fl3 he3 hz3 hd3 na nL nF hh w
  · cases f with
    | next =>
      obtain ⟨σ', H', J', q⟩ := hsp
      exact wpAny_execs_nil ⟨σ', H', J'.ofTry ok, q⟩
    | brk =>
      obtain ⟨σ', H', J', q⟩ := hsp
      exact ⟨σ', H', J'.ofTry ok, q⟩
    | cont =>
      obtain ⟨σ', H', J', q⟩ := hsp
      exact ⟨σ', H', J'.ofTry ok, q⟩
    | ret u =>
      obtain ⟨v, σ', H', J', r, q⟩ := hsp
      exact ⟨v, σ', H', J'.ofTry ok, r, q⟩
end
end K4
/-! own errors raised, what is told of them; a def that hears a lambda -/
namespace K4
open PySem PySem.Spec PyProof.Rows L2 K0
def spInit1 (K : PySem.W.Frag) (f : Str) : Sp := fun vs H Q _ => ∃ (a C : Addr) (v : V), vs = [.ref a, v] ∧ OexC K C ∧ PySem.W.findIn K (.ref C) f = some none ∧ H a = some (exo a C none) ∧
  ∀ dx, H dx = none → dx ≠ a → Q .non (upd (upd H dx (exd dx [(f, v)])) a (exo a C (some dx)))
def spInit2 (K : PySem.W.Frag) (f g : Str) : Sp := fun vs H Q _ => ∃ (a C : Addr) (u v : V), vs = [.ref a, u, v] ∧ OexC K C ∧ PySem.W.findIn K (.ref C) f = some none ∧ PySem.W.findIn K (.ref C) g = some none ∧ H a = some (exo a C none) ∧
  ∀ dx, H dx = none → dx ≠ a → Q .non (upd (upd (upd H dx (exd dx [(f, u)])) a (exo a C (some dx))) dx (exd dx [(g, v), (f, u)]))
def tMA (t : TA) : TA := fun σ H Q => ∃ Φ : List V → Hp → Prop, t σ H Φ ∧ ∀ vs H1, Φ vs H1 → Q vs H1
theorem pa_mono {X : Cx} {es : List Expr} {t : TA} (h : PA X es t) : PA X es (tMA t) :=
  ⟨fun pos pins s σ H Q I ⟨Φ, h1, h2⟩ => thn (h.run pos pins s σ H Φ I h1) fun _ _ ⟨vs, H1, I1, r1, q1⟩ => ⟨vs, H1, I1, r1, h2 vs H1 q1⟩⟩
theorem PE.imp {X : Cx} {e : Expr} {t t' : TE} (h : PE X e t) (i : ∀ σ H Q, t' σ H Q → t σ H Q) : PE X e t' := ⟨fun pins s σ H Q I q => h.run pins s σ H Q I (i σ H Q q)⟩
theorem PS.imp {X : Cx} {st : Stmt} {t t' : TS} (h : PS X st t) (i : ∀ D σ H, t' D σ H → t D σ H) : PS X st t' := ⟨fun pins s σ H D I q => h.run pins s σ H D I (i D σ H q)⟩
/-- a class of errors with one field; with two -/
structure Rs1 (P : Program) (w : World) (K : PySem.W.Frag) (mg : Str → Option Value) (base : Heap) (x : Str) (C : Addr) (f : Str) : Prop where
  gl : mg x = some (.ref C)
  o : OexC K C
  no : PySem.W.findIn K (.ref C) f = some none
  ex : ∃ (fI : Addr) (fd : FuncData), PySem.W.findIn K (.ref C) "__init__" = some (some (.ref fI)) ∧ PySem.W.typeIn K (.ref fI) = some (.type "function") ∧ FnOk P w K mg base CX0 1 fI fd ["self", f] (spInit1 K f) ∧ Binds K fd ["self", f] []
structure Rs2 (P : Program) (w : World) (K : PySem.W.Frag) (mg : Str → Option Value) (base : Heap) (x : Str) (C : Addr) (f g : Str) : Prop where
  gl : mg x = some (.ref C)
  o : OexC K C
  no1 : PySem.W.findIn K (.ref C) f = some none
  no2 : PySem.W.findIn K (.ref C) g = some none
  ex : ∃ (fI : Addr) (fd : FuncData), PySem.W.findIn K (.ref C) "__init__" = some (some (.ref fI)) ∧ PySem.W.typeIn K (.ref fI) = some (.type "function") ∧ FnOk P w K mg base CX0 1 fI fd ["self", f, g] (spInit2 K f g) ∧ Binds K fd ["self", f, g] []
abbrev XW : Type := Value → Option Addr → Hp → Prop
def cR1 (C : Addr) (f : Str) (Wo : XW) : List V → Hp → Prop
  | [v], H1 => ∀ d H', Same H1 H' → H' d = some (.xd [(f, v)]) → Wo (.ref C) (some d) H'
  | _, _ => False
def cR2 (C : Addr) (f g : Str) (Wo : XW) : List V → Hp → Prop
  | [u, v], H1 => ∀ d H', Same H1 H' → H' d = some (.xd [(g, v), (f, u)]) → Wo (.ref C) (some d) H'
  | _, _ => False
section
variable {X : Cx} {x f g : Str} {C : Addr} {p pos pos' : Pos} {e e2 : Expr} {ta : TA} {W : WX}
theorem ps_raise1 (T : Rs1 X.prog X.w X.K X.mg X.base x C f) (hr : Room 2 X.A) (hg : Gl X x) (tk : Takes X W) (hc : X.calm = true) (ha : PA X [e] ta) (hdb : (x == ("__debug__" : Str)) = false := by decide)
    (he : starEach [e] X.env = (false, eval e X.env) :: starEach [] X.env := by rfl) (hpl : (backTo pos (starEach [] X.env)).any (·.1) = false := by rfl) :
    PS X (.Raise (some (.Call (.Name x p) [e] [] pos)) none pos') (fun _ σ H => ta σ H (cR1 C f fun cls d H' => W cls d σ H')) := by
  obtain ⟨fI, fd, iC, tI, G, b⟩ := T.ex
  refine PS.imp (ps_raise hc tk (pmk_oex T.o iC tI G hr b .nil (fun _ _ _ _ _ _ _ h => h.elim) hg T.gl (pa_mono ha) hdb he hpl)) fun D σ H h => ⟨_, h, fun vs H1 q => ?_⟩
  match vs, q with
  | [v], q =>
    refine ⟨by show 1 ≤ 1000; decide, fun a hn => ⟨a, C, v, rfl, T.o, T.no, upd_same, fun dx hd ne => ⟨rfl, dx, _, upd_same, (upd_ne ne).trans upd_same, ?_, ?_⟩⟩⟩
    · rwa [upd_ne ne] at hd
    · have hd' : H1 dx = none := by rwa [upd_ne ne] at hd
      refine q dx _ (fun c o z => ?_) upd_same
      have n1 := ne_of_none z hn
      have n2 := ne_of_none z hd'
      rw [upd_ne n2, del_ne n1, upd_ne n1, upd_ne n2, upd_ne n1]
      exact z
theorem ps_raise2 (T : Rs2 X.prog X.w X.K X.mg X.base x C f g) (hr : Room 2 X.A) (hg : Gl X x) (tk : Takes X W) (hc : X.calm = true) (ha : PA X [e, e2] ta) (hdb : (x == ("__debug__" : Str)) = false := by decide)
    (he : starEach [e, e2] X.env = (false, eval e X.env) :: starEach [e2] X.env := by rfl) (hpl : (backTo pos (starEach [e2] X.env)).any (·.1) = false := by rfl) :
    PS X (.Raise (some (.Call (.Name x p) [e, e2] [] pos)) none pos') (fun _ σ H => ta σ H (cR2 C f g fun cls d H' => W cls d σ H')) := by
  obtain ⟨fI, fd, iC, tI, G, b⟩ := T.ex
  refine PS.imp (ps_raise hc tk (pmk_oex T.o iC tI G hr b .nil (fun _ _ _ _ _ _ _ h => h.elim) hg T.gl (pa_mono ha) hdb he hpl)) fun D σ H h => ⟨_, h, fun vs H1 q => ?_⟩
  match vs, q with
  | [u, v], q =>
    refine ⟨by show 2 ≤ 1000; decide, fun a hn => ⟨a, C, u, v, rfl, T.o, T.no1, T.no2, upd_same, fun dx hd ne => ⟨rfl, dx, _, (upd_ne (Ne.symm ne)).trans upd_same, upd_same, ?_, ?_⟩⟩⟩
    · rwa [upd_ne ne] at hd
    · have hd' : H1 dx = none := by rwa [upd_ne ne] at hd
      refine q dx _ (fun c o z => ?_) upd_same
      have n1 := ne_of_none z hn
      have n2 := ne_of_none z hd'
      rw [upd_ne n2, del_ne n1, upd_ne n2, upd_ne n1, upd_ne n2, upd_ne n1]
      exact z
end
/-! ### the five errors -/
inductive Oops
  | word (z : Str)
  | stock (z : Str)
  | number (z : Str)
  | misfit (z : Str)
  | many (z : Str) (n : Int)
def Oops.no : Oops → Nat
  | .word _ => 0
  | .stock _ => 1
  | .number _ => 2
  | .misfit _ => 3
  | .many _ _ => 4
def Oops.fs : Oops → List (Str × V)
  | .word z => [("part", .str z)]
  | .stock z => [("part", .str z)]
  | .number z => [("part", .str z)]
  | .misfit z => [("part", .str z)]
  | .many z n => [("most", .int n), ("what", .str z)]
/-- an error of the kind o, known behind H -/
def Oop (cs : Nat → Addr) (o : Oops) (H : Hp) : XW := fun cls d H' => cls = .ref (cs o.no) ∧ ∃ dd, d = some dd ∧ Same H H' ∧ H' dd = some (.xd o.fs)
/-- whoever is told of errors is told of this one -/
def Rz (cs : Nat → Addr) (o : Oops) (H : Hp) (E : XW) : Prop := ∀ cls d H', Oop cs o H cls d H' → E cls d H'
theorem Rz.sm {cs : Nat → Addr} {o : Oops} {H H1 : Hp} {E : XW} (s : Same H H1) (h : Rz cs o H E) : Rz cs o H1 E := fun cls d H' ⟨e, dd, ed, s2, q⟩ => h cls d H' ⟨e, dd, ed, s.trans s2, q⟩
end K4
/-! words of a stock, their numbers: the mathematics, over lists of code points -/
namespace K4
/-- the place of c in a stock -/
def ix : List Nat → Nat → Nat
  | [], _ => 0
  | a :: r, c => if a = c then 0 else ix r c + 1
/-- a word's number -/
def num (S : List Nat) (w : List Nat) : Nat := w.foldl (fun n c => n * S.length + ix S c + 1) 0
/-! ### all words -/
/-! ### own sums: how many stand ahead -/
/-! ### the next word -/
end K4
/-! defs as their callers use them; further rules -/
namespace K4
open PySem PySem.Spec PyProof.Rows L2 K0
structure Blt (mg : Str → Option Value) : Prop where
  n_len : mg "len" = none
  n_isinstance : mg "isinstance" = none
  n_int : mg "int" = none
  n_bool : mg "bool" = none
  n_str : mg "str" = none
  n_list : mg "list" = none
  n_tuple : mg "tuple" = none
  n_all : mg "all" = none
  n_any : mg "any" = none
  n_zip : mg "zip" = none
  n_abs : mg "abs" = none
  n_range : mg "range" = none
  n_enumerate : mg "enumerate" = none
  n_sorted : mg "sorted" = none
/-- a def that raises nothing; one that may raise -/
structure Cal (P : Program) (w : World) (K : PySem.W.Frag) (mg : Str → Option Value) (base : Heap) (k : Nat) (x : Str) (st : Stmt) (ps : List Str) (sp : Sp) : Prop where
  ex : ∃ (f : Addr) (fd : FuncData), Fun K x x st f fd ∧ mg x = some (.ref f) ∧ Binds K fd ps [] ∧ FnOk P w K mg base CX0 k f fd ps sp
structure CalX (P : Program) (w : World) (K : PySem.W.Frag) (mg : Str → Option Value) (base : Heap) (k : Nat) (x : Str) (st : Stmt) (ps : List Str) (sp : Sp) : Prop where
  ex : ∃ (f : Addr) (fd : FuncData), Fun K x x st f fd ∧ mg x = some (.ref f) ∧ Binds K fd ps [] ∧ FnOk P w K mg base (L2.CX P w) k f fd ps sp
def EN : XK := fun _ _ _ => False
section
variable {X : Cx} {k k' : Nat} {x : Str} {st : Stmt} {ps ks : List Str} {sp : Sp} {p pos : Pos} {e : Expr} {es : List Expr} {t tk : TA} {kws : List Keyword} {g : List Value → List Value → List Value} {gV : List V → List V → List V} {E : XK}
/-- nothing is raised here -/
theorem px0 : Passes (L2.CX X.prog X.w) X EN := passes_call LamX.takes0 fun _ _ _ _ z => z
theorem pe_cl (C : Cal X.prog X.w X.K X.mg X.base k x st ps sp) (hr : Room k X.A) (hg : Gl X x) (ha : PA X (e :: es) t)
    (hdb : (x == ("__debug__" : Str)) = false := by decide) (he : starEach (e :: es) X.env = (false, eval e X.env) :: starEach es X.env := by rfl)
    (hpl : (backTo pos (starEach es X.env)).any (·.1) = false := by rfl) : PE X (.Call (.Name x p) (e :: es) [] pos) (tCall sp [] E0 t) := by
  obtain ⟨f, fd, F, hm, hb, G⟩ := C.ex
  exact pe_call G hr hg hm F.kp hb .nil pass0 ha hdb he hpl
theorem pe_clX (C : CalX X.prog X.w X.K X.mg X.base k x st ps sp) (hx : Passes (L2.CX X.prog X.w) X E) (hr : Room k X.A) (hg : Gl X x) (ha : PA X (e :: es) t)
    (hdb : (x == ("__debug__" : Str)) = false := by decide) (he : starEach (e :: es) X.env = (false, eval e X.env) :: starEach es X.env := by rfl)
    (hpl : (backTo pos (starEach es X.env)).any (·.1) = false := by rfl) : PE X (.Call (.Name x p) (e :: es) [] pos) (tCall sp [] E t) := by
  obtain ⟨f, fd, F, hm, hb, G⟩ := C.ex
  exact pe_call G hr hg hm F.kp hb .nil hx ha hdb he hpl
end
/-! ### in place -/
end K4
/-! comprehensions of two clauses, texts in lists -/
namespace K4
open PySem PySem.Spec PyProof.Rows L2 K0
def In2 (g1 : TG) (tt1 : TT) (te : TE) (σ2 : L2.St) (vs1 : List Nat) (D : Addr) (Nx : Hp → Prop) (J1 : It) (H4 : Hp) : Prop := ∃ W1 : Nat → Nat → Hp → Prop, (∃ m, W1 0 m H4) ∧ ∀ j k H, W1 j k H →
  (J1.stop j H ∧ Nx H) ∨ (J1.go j H ∧ ∃ Nx1 : Hp → Prop, (∀ H', Nx1 H' → ∃ k', k' < k ∧ W1 (j + 1) k' H') ∧ ∀ x H', J1.yld j H x H' → g1 x (wipe σ2 vs1) H' fun σ3 H5 => wipe σ3 vs1 = wipe σ2 vs1 ∧ tt1 σ3 H5 fun b H6 =>
    if b = true then te σ3 H6 fun y H7 => ∃ acc, H7 D = some (.lst acc) ∧ acc.length < sizeLine ∧ Nx1 (upd H7 D (.lst (acc ++ [y]))) else Nx1 H6)
section
variable {J : It} {n : Nat} {G : Hp → Prop} {Y : Nat → Hp → V → Hp → Prop}
theorem in2_it (w : Walk J n G Y) {g1 : TG} {tt1 : TT} {te : TE} {σ2 : L2.St} {vs1 : List Nat} {D : Addr} {Nx : Hp → Prop} {H4 : Hp} (Pv : Nat → Hp → Prop) (h0 : Pv 0 H4) (hG : ∀ i H, i ≤ n → Pv i H → G H)
    (hs : ∀ i x H H', i < n → Pv i H → Y i H x H' → g1 x (wipe σ2 vs1) H' fun σ3 H5 => wipe σ3 vs1 = wipe σ2 vs1 ∧ tt1 σ3 H5 fun b H6 =>
      if b = true then te σ3 H6 fun y H7 => ∃ acc, H7 D = some (.lst acc) ∧ acc.length < sizeLine ∧ Pv (i + 1) (upd H7 D (.lst (acc ++ [y]))) else Pv (i + 1) H6) (hd : ∀ H, Pv n H → Nx H) : In2 g1 tt1 te σ2 vs1 D Nx J H4 := by
  refine ⟨fun i m H => m = n - i ∧ i ≤ n ∧ Pv i H, ⟨n, by simp, Nat.zero_le _, h0⟩, ?_⟩
  rintro i m H ⟨rfl, hi, p⟩
  have q := hG i H hi p
  by_cases hlt : i < n
  · exact .inr ⟨w.goes i H hlt q, Pv (i + 1), fun H' p' => ⟨n - (i + 1), by omega, rfl, hlt, p'⟩, fun x H' y => hs i x H H' hlt p (w.yields i H x H' hlt q y)⟩
  · have e : i = n := by omega
    subst e
    exact .inl ⟨w.stops H q, hd H p⟩
theorem lc2_it (w : Walk J n G Y) {g g1 : TG} {tt tt1 : TT} {wi1 : TI} {te : TE} {vs vs1 : List Nat} {σ : L2.St} {H1 : Hp} {D : Addr} {Qd : Hp → Prop} (Pv : Nat → Hp → Prop) (h0 : Pv 0 (upd H1 D (.lst []))) (hG : ∀ i H, i ≤ n → Pv i H → G H)
    (hs : ∀ i x H H', i < n → Pv i H → Y i H x H' → g x (wipe σ vs) H' fun σ2 H2 => wipe σ2 vs = wipe σ vs ∧ tt σ2 H2 fun b H3 =>
      if b = true then wi1 σ2 H3 fun J1 H4 => In2 g1 tt1 te σ2 vs1 D (Pv (i + 1)) J1 H4 else Pv (i + 1) H3) (hd : ∀ H, Pv n H → Qd H) :
    ∃ W : Nat → Nat → Hp → Prop, (∃ m, W 0 m (upd H1 D (.lst []))) ∧ ∀ i m H, W i m H →
      (J.stop i H ∧ Qd H) ∨ (J.go i H ∧ ∃ Nx : Hp → Prop, (∀ H', Nx H' → ∃ m', m' < m ∧ W (i + 1) m' H') ∧ ∀ x H', J.yld i H x H' → g x (wipe σ vs) H' fun σ2 H2 => wipe σ2 vs = wipe σ vs ∧ tt σ2 H2 fun b H3 =>
        if b = true then wi1 σ2 H3 fun J1 H4 => In2 g1 tt1 te σ2 vs1 D Nx J1 H4 else Nx H3) := by
  refine ⟨fun i m H => m = n - i ∧ i ≤ n ∧ Pv i H, ⟨n, by simp, Nat.zero_le _, h0⟩, ?_⟩
  rintro i m H ⟨rfl, hi, p⟩
  have q := hG i H hi p
  by_cases hlt : i < n
  · exact .inr ⟨w.goes i H hlt q, Pv (i + 1), fun H' p' => ⟨n - (i + 1), by omega, rfl, hlt, p'⟩, fun x H' y => hs i x H H' hlt p (w.yields i H x H' hlt q y)⟩
  · have e : i = n := by omega
    subst e
    exact .inl ⟨w.stops H q, hd H p⟩
end
/-! texts in lists -/
def tws (ws : List (List Nat)) : List V := ws.map fun w => V.str (Tx w)
theorem tws_len (ws : List (List Nat)) : (tws ws).length = ws.length := by simp [tws]
theorem tws_at {ws : List (List Nat)} {i : Nat} {v : V} (h : (tws ws)[i]? = some v) : ∃ w, ws[i]? = some w ∧ v = .str (Tx w) := by
  unfold tws at h
  rw [List.getElem?_map] at h
  cases e : ws[i]? with
  | none =>
    rw [e] at h
    cases h
  | some w =>
    rw [e] at h
    exact ⟨w, rfl, (Option.some.inj h).symm⟩
/-- one longer -/
def ext (S : List Nat) (ws : List (List Nat)) : List (List Nat) := ws.flatMap fun w => S.map fun c => w ++ [c]
theorem small_line {n : Nat} (h : n ≤ 1000000) : n ≤ sizeLine := Nat.le_trans h (by decide)
theorem small_lt {n : Nat} (h : n ≤ 1000000) : n < sizeLine := Nat.lt_of_le_of_lt h (by decide)
end K4
namespace K4
open PySem PySem.Spec PyProof.Rows L2 K0
theorem ris_of_lt : ∀ {S : List Nat}, S.Pairwise (· < ·) → ris S = true
  | [], _ => rfl
  | [_], _ => rfl
  | a :: b :: r, h => by
    obtain ⟨h1, h2⟩ := List.pairwise_cons.mp h
    unfold ris
    rw [Bool.and_eq_true, decide_eq_true_eq]
    exact ⟨h1 b (by simp), ris_of_lt h2⟩
end K4
namespace K6
open PySem PySem.Spec PyProof.Rows L2 K0 K4
def top (i : Nat) : Stmt := PySem.Challenge.pw_foretongue_k74_tables_of_a_rule.main.body.getD i (.Pass ⟨0, 0, 0, 0⟩)
/-- the built-in names that no def hides -/
structure Blt (mg : Str → Option Value) : Prop where
  n_len : mg "len" = none
  n_isinstance : mg "isinstance" = none
  n_int : mg "int" = none
  n_bool : mg "bool" = none
  n_str : mg "str" = none
  n_list : mg "list" = none
  n_tuple : mg "tuple" = none
  n_all : mg "all" = none
  n_any : mg "any" = none
  n_zip : mg "zip" = none
  n_abs : mg "abs" = none
  n_range : mg "range" = none
  n_enumerate : mg "enumerate" = none
  n_set : mg "set" = none
  n_min : mg "min" = none
  n_max : mg "max" = none
  n_sum : mg "sum" = none
  n_repr : mg "repr" = none
/-! ### kinds of values -/
/-- v is a plain value of the type named n -/
def Kd (K : PySem.W.Frag) (H : Hp) (v : V) (n : String) : Prop := TyX K H v (.type n) ∧ n ∈ ["NoneType", "bool", "int", "str", "list", "tuple", "dict"]
theorem kd_kit {K : PySem.W.Frag} {n : String} (h : n ∈ ["NoneType", "bool", "int", "str", "list", "tuple", "dict"]) :
    PySem.W.kitOne K (.type n) (.type "int") = some (n == "int" || n == "bool") ∧ PySem.W.kitOne K (.type n) (.type "bool") = some (n == "bool") ∧
    PySem.W.kitOne K (.type n) (.type "str") = some (n == "str") ∧ PySem.W.kitOne K (.type n) (.type "list") = some (n == "list") ∧ PySem.W.kitOne K (.type n) (.type "tuple") = some (n == "tuple") := by
  simp only [List.mem_cons, List.not_mem_nil, or_false] at h
  rcases h with rfl | rfl | rfl | rfl | rfl | rfl | rfl <;> exact ⟨kit_ty (by decide +kernel), kit_ty (by decide +kernel), kit_ty (by decide +kernel), kit_ty (by decide +kernel), kit_ty (by decide +kernel)⟩
section
variable {P : Program} {w : World} {K : PySem.W.Frag} {mg : Str → Option Value} {base : Heap}
/-! ### is_integer -/
abbrev st_is_integer : Stmt := top 1
abbrev nm_is_integer : List Str := ["value"]
theorem sc_is_integer : FnScope nm_is_integer ["value"] (defScope st_is_integer) := ⟨rfl, rfl, rfl, by decide +kernel, rfl, by decide +kernel, by decide +kernel⟩
def spIsInteger (K : PySem.W.Frag) : Sp := fun vs H Q _ => ∃ (v : V) (n : String), vs = [v] ∧ Kd K H v n ∧ Q (.bl (n == "int")) H
theorem ok_is_integer {f : Addr} {fd : FuncData} (F : Fun K "is_integer" "is_integer" st_is_integer f fd) (T : Blt mg) : FnOk P w K mg base CX0 1 f fd ["value"] (spIsInteger K) := by
  refine F.ok sc_is_integer (fun vs H Q E h => ?_) (fun cdv A outer s H vs Q E hr h => ?_)
  · obtain ⟨v, n, rfl, _⟩ := h
    rfl
  · obtain ⟨v, n, rfl, ⟨ty, hn⟩, q⟩ := h
    obtain ⟨k1, k2, _⟩ := kd_kit (K := K) hn
    refine ⟨_, (pss_one (ps_ret (pe_and (pe_callB call_isi (by rfl) T.n_isinstance (by decide +kernel) (pa_cons (pv 0) (pa_cons (pe_bltn (v := .ty "int") (by rfl) T.n_int (by decide +kernel) rfl) pa_nil))) (pe_one (pe_not (pe_callB call_isi (by rfl) T.n_isinstance (by decide +kernel) (pa_cons (pv 0) (pa_cons (pe_bltn (v := .ty "bool") (by rfl) T.n_bool (by decide +kernel) rfl) pa_nil)))))))), ?_⟩
    refine ⟨_, rfl, v, _, _, _, _, rfl, .ty "int", ty, k1, _, rfl, ?_⟩
    by_cases c : (n == "int" || n == "bool") = true
    · rw [if_pos c]
      refine ⟨_, rfl, v, _, _, _, _, rfl, .ty "bool", ty, k2, _, rfl, ?_⟩
      have e : (!(n == "bool")) = (n == "int") := by
        simp only [List.mem_cons, List.not_mem_nil, or_false] at hn
        rcases hn with rfl | rfl | rfl | rfl | rfl | rfl | rfl <;> first | rfl | (revert c; decide)
      rw [e]
      exact q
    · rw [if_neg c]
      have e : (n == "int") = false := by
        simp only [List.mem_cons, List.not_mem_nil, or_false] at hn
        rcases hn with rfl | rfl | rfl | rfl | rfl | rfl | rfl <;> first | rfl | (revert c; decide)
      rw [e] at q
      exact q
/-! ### is_within -/
def okLo : V → Int → Bool
  | .int l, i => decide (l ≤ i)
  | _, _ => true
def okHi : V → Int → Bool
  | .int l, i => decide (i ≤ l)
  | _, _ => true
def Bnd (v : V) : Prop := v = .non ∨ ∃ l, v = .int l
theorem kd_int {H : Hp} {i : Int} : Kd K H (.int i) "int" := ⟨.base (.int i), by decide⟩
theorem kd_str {H : Hp} {z : Str} : Kd K H (.str z) "str" := ⟨.base (.str z), by decide⟩
abbrev st_is_within : Stmt := top 2
abbrev nm_is_within : List Str := ["value", "least", "most"]
theorem sc_is_within : FnScope nm_is_within ["value", "least", "most"] (defScope st_is_within) := ⟨rfl, rfl, rfl, by decide +kernel, rfl, by decide +kernel, by decide +kernel⟩
def spIsWithin (K : PySem.W.Frag) : Sp := fun vs H Q _ => ∃ (v lo hi : V), vs = [v, lo, hi] ∧ ((∃ n, Kd K H v n ∧ (n == "int") = false ∧ Q (.bl false) H) ∨
  ∃ i, v = .int i ∧ Bnd lo ∧ Bnd hi ∧ Q (.bl (okLo lo i && okHi hi i)) H)
theorem ok_is_within {f : Addr} {fd : FuncData} (F : Fun K "is_within" "is_within" st_is_within f fd) (T : Blt mg)
    (C_is_integer : Cal P w K mg base 1 "is_integer" st_is_integer ["value"] (spIsInteger K)) : FnOk P w K mg base CX0 2 f fd ["value", "least", "most"] (spIsWithin K) := by
  refine F.ok sc_is_within (fun vs H Q E h => ?_) (fun cdv A outer s H vs Q E hr h => ?_)
  · obtain ⟨v, lo, hi, rfl, _⟩ := h
    rfl
  · refine ⟨_, (pss_cons (ps_if (pt_not (pt_val (pe_cl C_is_integer (hr.mono (by decide)) rfl (pa_cons (pv 0) pa_nil)))) (pss_one (ps_ret pe_bl)) pss_nil)
  (pss_one (ps_ret (pe_and (pe_or (pe_cmpR op_isN (pv 1) pe_non (nomark _)) (pe_one (pe_cmpR op_le (pv 1) (pv 0) (nomark _)))) (pe_one (pe_or (pe_cmpR op_isN (pv 2) pe_non (nomark _)) (pe_one (pe_cmpR op_le (pv 0) (pv 2) (nomark _))))))))), ?_⟩
    obtain ⟨v, lo, hi, rfl, h⟩ := h
    rcases h with ⟨n, kd, hn, q⟩ | ⟨i, rfl, b1, b2, q⟩
    · refine ⟨_, rfl, v, n, rfl, kd, _, rfl, ?_⟩
      rw [hn]
      exact q
    · refine ⟨_, rfl, _, _, rfl, kd_int, _, rfl, ?_⟩
      have last : ∀ Q' : VK, Q' (.bl (okHi hi i)) H → (tOrV (tOp (fun x y H Q => y = .non ∧ Q (.bl (decide (x = .non))) H) (tVar 2) (tC .non)) (tOp (rI0 fun i j => .bl (decide (i ≤ j))) (tVar 0) (tVar 2))) [some (.int i), some lo, some hi] H Q' := by
        intro Q' q'
        rcases b2 with rfl | ⟨m, rfl⟩
        · exact ⟨_, rfl, rfl, _, rfl, q'⟩
        · exact ⟨_, rfl, rfl, _, rfl, _, rfl, _, rfl, _, _, rfl, rfl, q'⟩
      rcases b1 with rfl | ⟨m, rfl⟩
      · refine ⟨_, rfl, rfl, _, rfl, ?_⟩
        exact ⟨_, rfl, last _ (by simpa [okLo] using q)⟩
      · refine ⟨_, rfl, rfl, _, rfl, _, rfl, _, rfl, _, _, rfl, rfl, ?_⟩
        refine ⟨decide (m ≤ i), rfl, ite2 (fun c => ?_) (fun c => ?_)⟩
        · exact last _ (by simpa [okLo, of_decide_eq_true c] using q)
        · exact (by simpa [okLo, show ¬ m ≤ i from fun z => c (decide_eq_true z)] using q)
/-! ### is_list -/
abbrev st_is_list : Stmt := top 3
abbrev nm_is_list : List Str := ["value"]
theorem sc_is_list : FnScope nm_is_list ["value"] (defScope st_is_list) := ⟨rfl, rfl, rfl, by decide +kernel, rfl, by decide +kernel, by decide +kernel⟩
def spIsList (K : PySem.W.Frag) : Sp := fun vs H Q _ => ∃ (v : V) (n : String), vs = [v] ∧ Kd K H v n ∧ ∀ H', Same H H' → Q (.bl (n == "list" || n == "tuple")) H'
theorem ok_is_list {f : Addr} {fd : FuncData} (F : Fun K "is_list" "is_list" st_is_list f fd) (T : Blt mg) : FnOk P w K mg base CX0 1 f fd ["value"] (spIsList K) := by
  refine F.ok sc_is_list (fun vs H Q E h => ?_) (fun cdv A outer s H vs Q E hr h => ?_)
  · obtain ⟨v, n, rfl, _⟩ := h
    rfl
  · obtain ⟨v, n, rfl, ⟨ty, hn⟩, q⟩ := h
    obtain ⟨_, _, _, k4, k5⟩ := kd_kit (K := K) hn
    refine ⟨_, (pss_one (ps_ret (pe_callB call_isiT (by rfl) T.n_isinstance (by decide +kernel) (pa_cons (pv 0) (pa_cons (pe_tup (pa_cons (pe_bltn (v := .ty "list") (by rfl) T.n_list (by decide +kernel) rfl) (pa_cons (pe_bltn (v := .ty "tuple") (by rfl) T.n_tuple (by decide +kernel) rfl) pa_nil))) pa_nil))))), ?_⟩
    refine ⟨_, rfl, (by show 2 ≤ sizeLine; decide), fun p hp => ?_⟩
    refine ⟨v, p, _, _, _, (n == "list" || n == "tuple"), rfl, upd_same, .cons (.ty "list") (.cons (.ty "tuple") .nil), tyx_same (Sm.new hp) ty, ?_, q _ (Sm.new hp)⟩
    refine kitAny_cons k4 (fun e => ?_) (fun e => by rw [e]; rfl)
    rw [e, Bool.false_or]
    exact kitAny_cons k5 (fun e2 => by rw [e2]; exact kitAny_nil) (fun e2 => e2)
/-! ### is_long_word -/
abbrev st_is_long_word : Stmt := top 4
abbrev nm_is_long_word : List Str := ["value"]
theorem sc_is_long_word : FnScope nm_is_long_word ["value"] (defScope st_is_long_word) := ⟨rfl, rfl, rfl, by decide +kernel, rfl, by decide +kernel, by decide +kernel⟩
/-- a text by its signs, or a value of another kind -/
def Sov (K : PySem.W.Frag) (H : Hp) (v : V) (q : List Nat → Prop) (r : Prop) : Prop := (∃ l, v = .str (Tx l) ∧ l.length ≤ 10000 ∧ q l) ∨ (∃ n, Kd K H v n ∧ (n == "str") = false ∧ r)
def spIsLongWord (K : PySem.W.Frag) : Sp := fun vs H Q _ => ∃ v, vs = [v] ∧ Sov K H v (fun l => Q (.bl (lw l)) H) (Q (.bl false) H)
theorem ok_is_long_word {f : Addr} {fd : FuncData} (F : Fun K "is_long_word" "is_long_word" st_is_long_word f fd) (T : Blt mg) : FnOk P w K mg base CX0 1 f fd ["value"] (spIsLongWord K) := by
  refine F.ok sc_is_long_word (fun vs H Q E h => ?_) (fun cdv A outer s H vs Q E hr h => ?_)
  · obtain ⟨v, rfl, _⟩ := h
    rfl
  · refine ⟨_, (pss_cons (ps_if (pt_not (pt_val (pe_callB call_isi (by rfl) T.n_isinstance (by decide +kernel) (pa_cons (pv 0) (pa_cons (pe_bltn (v := .ty "str") (by rfl) T.n_str (by decide +kernel) rfl) pa_nil))))) (pss_one (ps_ret pe_bl)) pss_nil)
  (pss_one (ps_ret (pe_or (pe_cmpR op_eq (pv 0) pe_str (nomark _)) (pe_one (pe_and (pe_m0 PySem.F.slot_str_isascii PySem.F.type_str_isascii mt_isascii (pv 0)) (pe_and (pe_m0 PySem.F.slot_str_isalpha PySem.F.type_str_isalpha mt_isalpha (pv 0)) (pe_one (pe_m0 PySem.F.slot_str_islower PySem.F.type_str_islower mt_islower (pv 0)))))))))), ?_⟩
    obtain ⟨v, rfl, ⟨l, rfl, hl, q⟩ | ⟨n, ⟨ty, hn⟩, e, q⟩⟩ := h
    · refine ⟨_, rfl, _, _, _, _, _, rfl, .ty "str", .base (.str _), kit_ty (b := "str") (r := true) (by decide +kernel), _, rfl, ?_⟩
      refine iteF ?_
      refine ⟨_, rfl, rfl, _, rfl, ?_⟩
      by_cases c : l = []
      · subst c
        exact q
      · have e1 : decide (V.str (Tx l) = V.str (Str.ofString "")) = false := decide_eq_false fun z => c (tx_inj (V.str.inj z))
        refine (congrArg (fun b : Bool => if b = true then Q (V.bl true) H else _) e1).mpr ?_
        refine iteF ?_
        rw [lw_of c] at q
        refine ⟨_, rfl, ⟨_, rfl⟩, _, rfl, rfl, trivial, _, rfl, ?_⟩
        cases h1 : Txt.isascii (Tx l)
        · rw [h1] at q
          exact q
        · rw [h1] at q
          refine ⟨_, rfl, ⟨_, rfl⟩, _, rfl, rfl, trivial, _, rfl, ?_⟩
          cases h2 : Txt.isalpha (Tx l)
          · rw [h2] at q
            exact q
          · rw [h2] at q
            exact ⟨_, rfl, ⟨_, rfl⟩, _, rfl, rfl, trivial, q⟩
    · obtain ⟨_, _, k3, _, _⟩ := kd_kit (K := K) hn
      refine ⟨_, rfl, v, _, _, _, _, rfl, .ty "str", ty, k3, _, rfl, ?_⟩
      rw [e]
      exact q
end
theorem cut_from (l : List Nat) (a : Nat) : cutS (Tx l) (some (a : Int)) none = Tx (l.drop a) := by
  unfold cutS
  rw [tx_list, tx_len, HT.sIx_nat, HT.sIx_none]
  show (⟨((l.drop (min a l.length)).take (l.length - min a l.length)).toArray⟩ : Str) = ⟨(l.drop a).toArray⟩
  have e : (l.drop (min a l.length)).take (l.length - min a l.length) = l.drop a := by
    rw [List.take_of_length_le (by rw [List.length_drop]; exact Nat.le_refl _)]
    by_cases h : a ≤ l.length
    · rw [Nat.min_eq_left h]
    · rw [Nat.min_eq_right (by omega), List.drop_of_length_le (Nat.le_refl _), List.drop_of_length_le (by omega)]
  rw [e]
theorem cut_to (l : List Nat) (b : Nat) : cutS (Tx l) none (some (b : Int)) = Tx (l.take b) := by
  unfold cutS
  rw [tx_list, tx_len, HT.sIx_nat, HT.sIx_none]
  show (⟨((l.drop 0).take (min b l.length - 0)).toArray⟩ : Str) = ⟨(l.take b).toArray⟩
  have e : (l.drop 0).take (min b l.length - 0) = l.take b := by
    rw [List.drop_zero, Nat.sub_zero]
    by_cases h : b ≤ l.length
    · rw [Nat.min_eq_left h]
    · rw [Nat.min_eq_right (by omega), List.take_of_length_le (Nat.le_refl _), List.take_of_length_le (by omega)]
  rw [e]
theorem getD_of {l : List Nat} {i c : Nat} (h : l[i]? = some c) : l.getD i 0 = c := by
  rw [List.getD_eq_getElem?_getD, h]
  rfl
theorem tx_at {l : List Nat} {i c : Nat} (h : (Tx l).cps[i]? = some c) : l[i]? = some c := by simpa [Tx] using h
theorem tx_size (l : List Nat) : (Tx l).cps.size = l.length := by simp [Tx]
theorem one_lt (a b : Nat) : decide (([a] : List Nat) < [b]) = decide (a < b) := by
  by_cases h : a < b
  · rw [decide_eq_true h, decide_eq_true (List.cons_lt_cons_iff.mpr (.inl h))]
  · rw [decide_eq_false h]
    apply decide_eq_false
    intro z
    rcases List.cons_lt_cons_iff.mp z with z | ⟨_, z⟩
    · exact h z
    · exact absurd z (by simp)
def nmOk (l : List Nat) : Bool := (decide (1 ≤ l.length) && decide (l.length ≤ 12)) && (l.all fun c => isaz c || is09 c) && isaz (l.getD 0 0)
/-- a walk over a list or a tuple -/
def iLT (K : PySem.W.Frag) (te : TE) : TI := fun σ H R => iList K te σ H R ∨ iTup K te σ H R
theorem pi_lt {X : Cx} {tg e : Expr} {te : TE} (h : PE X e te) : PI X tg e (iLT X.K te) :=
  ⟨fun pins s σ H R I q => q.elim (fun q => (pi_list h).run pins s σ H R I q) fun q => (pi_tup h).run pins s σ H R I q⟩
def SqLT (K : PySem.W.Frag) (H : Hp) (a : Addr) (xs : List V) : Prop := SqL K H a xs ∨ SqT K H a xs
theorem sm_l {K : PySem.W.Frag} {H H' : Hp} {a : Addr} {xs : List V} (s : Same H H') (h : SqL K H a xs) : SqL K H' a xs := s.seq h
theorem sm_t {K : PySem.W.Frag} {H H' : Hp} {a : Addr} {xs : List V} (s : Same H H') (h : SqT K H a xs) : SqT K H' a xs := by
  rcases h with (h | ⟨o, h⟩) | h
  · exact .inl (.inl (s _ _ h))
  · exact .inl (.inr ⟨o, s _ _ h⟩)
  · exact .inr h
end K6
namespace K6
open PySem PySem.Spec PyProof.Rows L2 K0 K4
/-! ### a token is out behind a written text -/
/-! ### a text without one sign -/
section
variable {P : Program} {w : World} {K : PySem.W.Frag} {mg : Str → Option Value} {base : Heap}
abbrev CLW (P : Program) (w : World) (K : PySem.W.Frag) (mg : Str → Option Value) (base : Heap) : Prop := Cal P w K mg base 1 "is_long_word" st_is_long_word ["value"] (spIsLongWord K)
/-! ### a cell -/
def celOk (l : List Nat) : Bool := !decide (l = []) && lw (l.filter fun d => decide (d ≠ 45))
/-! ### a row -/
theorem sov_same {H H' : Hp} {v : V} {q : List Nat → Prop} {r : Prop} (s : Same H H') (h : Sov K H v q r) : Sov K H' v q r := by
  rcases h with h | ⟨n, kd, hn, z⟩
  · exact .inl h
  · exact .inr ⟨n, ⟨tyx_same s kd.1, kd.2⟩, hn, z⟩
end
end K6
namespace K6
open PySem PySem.Spec PyProof.Rows L2 K0 K4
/-- a cell: a gap, or its signs -/
abbrev Cell : Type := Option (List Nat)
def cx : Cell → V
  | none => .non
  | some l => .str (Tx l)
def lens (cs : List Cell) : List Int := cs.filterMap fun c => c.map fun l => (l.length : Int)
def evenB (cs : List Cell) : Bool := match lens cs with
  | [] => true
  | m :: r => r.all fun n => decide (n = m)
end K6
namespace K6
open PySem PySem.Spec PyProof.Rows L2 K0 K4
/-! ### own errors, told by class and fields -/
def Oo (cs : Nat → Addr) (no : Nat) (fs : List (Str × V)) (H : Hp) : XW := fun cls d H' => cls = .ref (cs no) ∧ ∃ dd, d = some dd ∧ Same H H' ∧ H' dd = some (.xd fs)
def Rq (cs : Nat → Addr) (no : Nat) (fs : List (Str × V)) (H : Hp) (E : XW) : Prop := ∀ cls d H', Oo cs no fs H cls d H' → E cls d H'
theorem Rq.sm {cs : Nat → Addr} {no : Nat} {fs : List (Str × V)} {H H1 : Hp} {E : XW} (s : Same H H1) (h : Rq cs no fs H E) : Rq cs no fs H1 E := fun cls d H' ⟨e, dd, ed, s2, q⟩ => h cls d H' ⟨e, dd, ed, s.trans s2, q⟩
/-- the classes: 0 BadSheet, 1 BadNumber, 2 Misfit, 3 Twice, 4 NoRow, 5 NoLanguage, 6 NoPlace, 7 TooMany, 8 BadText -/
abbrev XSheet (cs : Nat → Addr) (z : Str) (H : Hp) (E : XW) : Prop := Rq cs 0 [("part", .str z)] H E
theorem raise1 {cs : Nat → Addr} {no : Nat} {f : Str} {v : V} {H : Hp} {E : XW} (h : Rq cs no [(f, v)] H E) : cR1 (cs no) f (fun cls d H' => E cls d H') [v] H := fun d H' s z => h _ _ _ ⟨rfl, d, rfl, s, z⟩
theorem raise2 {cs : Nat → Addr} {no : Nat} {f g : Str} {u v : V} {H : Hp} {E : XW} (h : Rq cs no [(g, v), (f, u)] H E) : cR2 (cs no) f g (fun cls d H' => E cls d H') [u, v] H := fun d H' s z => h _ _ _ ⟨rfl, d, rfl, s, z⟩
end K6
namespace K6
open PySem PySem.Spec PyProof.Rows L2 K0 K4
/-- what may stand among rows, and whether it is a row of so many cells with one in it -/
def isLT (n : String) : Bool := n == "list" || n == "tuple"
theorem lt_same {K : PySem.W.Frag} {H H' : Hp} {a : Addr} {xs : List V} (s : Same H H') (h : SqLT K H a xs) : SqLT K H' a xs := h.imp (sm_l s) (sm_t s)
end K6
namespace K6
open PySem PySem.Spec PyProof.Rows L2 K0 K4
/-- a row of at most a thousand cells, one of them with signs -/
def rowOk (r : List Cell) : Prop := r.length ≤ 1000 ∧ (∀ l, some l ∈ r → l.length ≤ 10000) ∧ lens r ≠ []
def wid (r : List Cell) : Int := (lens r).headD 0
section
variable {P : Program} {w : World} {K : PySem.W.Frag} {mg : Str → Option Value} {base : Heap}
variable {cs : Nat → Addr}
abbrev XMany (cs : Nat → Addr) (z : Str) (n : Int) (H : Hp) (E : XW) : Prop := Rq cs 7 [("most", .int n), ("what", .str z)] H E
/-! ### need_sizes -/
end
end K6
/-! enumerate of a tuple -/
namespace K6
open PySem PySem.Spec PyProof.Rows L2
theorem enum_meets {v : Value} {o : Obj} {G : Heap → Prop} (B : Begins v o G) :
    Meets (Builtin.«enumerate.__new__» ⟨[.type "enumerate", v], []⟩) (fun _ R s => G s.heap ∧
      R (.ok (.ret (.ref (s.heap.push o).objs.size))) { s with heap := (s.heap.push o).push { cls := .type "enumerate", data := .fields #[.none, .bool false, .ref s.heap.objs.size, rawInt 0, .none, .none] } }) :=
  .of_wp fun prog w A R s hh => by
    obtain ⟨hp, gs, dr, tk, os⟩ := s
    obtain ⟨g0, hh⟩ := hh
    have sub := sub_enumerate
    have begins : ∀ {A' : Around} {E : Value → Shared → Prop} {Q : Value → Shared → Prop}, Q (.ref hp.objs.size) ⟨hp.push o, gs, dr, tk, os⟩ → wpAny (model prog w) A' (pyIter v) Q E ⟨hp, gs, dr, tk, os⟩ :=
      fun q => B.iter prog w _ _ ⟨hp, gs, dr, tk, os⟩ _ g0 q
    wp_walk using begins
    refine wpAny_stack_any fun st => wpAny_pure ?_
    split
    · rename_i c _ _ _ _ _
      cases (c == Value.type "enumerate") <;> (wp_walk using begins; exact ⟨_, rfl, hh⟩)
    · wp_walk using begins
      exact ⟨_, rfl, hh⟩
theorem enum_call {prog : Program} {w : World} {A : Around} {E : Value → Shared → Prop} {s : Shared} {v : Value} {o : Obj} {G : Heap → Prop} {Q : Value → Shared → Prop} (B : Begins v o G) (g0 : G s.heap)
    (k : ∀ h', IsEnum h' (s.heap.objs.size + 1) s.heap.objs.size 0 .none → h'.get? s.heap.objs.size = some o → (∀ b u, s.heap.get? b = some u → h'.get? b = some u) → Q (.ref (s.heap.objs.size + 1)) { s with heap := h' }) :
    wpAny (model prog w) A (call (.type "enumerate") [v]) Q E s := by
  refine callType_new F.called_enumerate (by decide) (F.typeCall_enumerate_1 _) (F.newCall_enumerate_1 _) (fun obj => F.args_object_init_2 obj _) F.entry_enumerate_new (enum_meets B) ⟨g0, ?_⟩
  have sz : (s.heap.push o).objs.size = s.heap.objs.size + 1 := Heap.size_push ..
  show _ ∧ _
  rw [sz]
  have en : IsEnum ((s.heap.push o).push { cls := .type "enumerate", data := .fields #[.none, .bool false, .ref s.heap.objs.size, rawInt 0, .none, .none] }) (s.heap.objs.size + 1) s.heap.objs.size 0 .none := by
    have z := Heap.get?_push_size (s.heap.push o) (o := { cls := .type "enumerate", data := .fields #[.none, .bool false, .ref s.heap.objs.size, rawInt 0, .none, .none] }) rfl
    rwa [sz] at z
  exact ⟨⟨_, en, rfl⟩, k _ en (Heap.get?_push_of_some _ (Heap.get?_push_size _ B.free)) fun b u x => Heap.get?_push_of_some _ (Heap.get?_push_of_some _ x)⟩
/-- the tuple at a, each item with its number in a new pair -/
def IteT (K : PySem.W.Frag) (a : Addr) : It :=
  ⟨fun i H => ∃ (xs : List V) (x : V), SqT K H a xs ∧ xs[i]? = some x, fun i H v H' => ∃ T x, v = .ref T ∧ H T = none ∧ H' = upd H T (.tup [.int (i : Nat), x]) ∧ ∀ xs, SqT K H a xs → xs[i]? = some x, fun i H => ∃ xs : List V, SqT K H a xs ∧ xs.length = i⟩
theorem turn_enumT {P : Program} {w : World} {K : PySem.W.Frag} {elts : List Expr} {kk : Nat} {tpos : Pos} (a e it : Addr) :
    Turn P w K (.Tuple elts kk tpos) (IteT K a) [e, it] e (fun i h => (∃ old, IsEnum h e it ((i : Nat) : Int) old) ∧ h.IsTupleIter it a i ∧ e ≠ it) where
  mem := by simp
  obj := fun i h st b hb => by
    obtain ⟨⟨old, en⟩, ⟨o, ho, _, hd⟩, _⟩ := st
    rcases (show b = e ∨ b = it by simpa using hb) with rfl | rfl
    · exact ⟨_, en, fun v q => nomatch q⟩
    · exact ⟨o, ho, fun v q => by rw [hd] at q; cases q⟩
  keep := fun i h h' st k => by
    obtain ⟨⟨old, en⟩, ti, ne⟩ := st
    exact ⟨⟨old, k e (by simp) _ en⟩, ti.at fun o q => k it (by simp) o q, ne⟩
  item := by
    intro X hP hw hK hc i pins s σ H E I hf st hg
    subst hP hw hK
    obtain ⟨⟨old, en⟩, ti, ne⟩ := st
    obtain ⟨xs, x, hq, hx⟩ := hg
    obtain ⟨its, rv, p, _⟩ := I.tuple hq
    obtain ⟨u, hu, ru⟩ := rv.get hx
    have p' : s.heap.IsTuple a its.toArray := p
    have e_lt : e < s.heap.objs.size := Heap.lt_size en
    have it_lt : it < s.heap.objs.size := by
      obtain ⟨_, q, _⟩ := ti
      exact Heap.lt_size q
    have it_a : a ≠ it := fun z => by
      obtain ⟨o1, g1, c1, _⟩ := ti
      obtain ⟨o2, g2, c2, _⟩ := p'
      rw [z, g1] at g2
      cases g2
      rw [c1] at c2
      exact absurd c2 (by decide)
    have e_a : e ≠ a := fun z => by
      obtain ⟨o2, g2, c2, _⟩ := p'
      rw [← z, en] at g2
      cases g2
      have c3 : Value.type "enumerate" = .type "tuple" := c2
      exact absurd c3 (by decide)
    have hh : X.A.in1.handled = none := I.ok.hd hc
    have hlt : i < its.toArray.size := by
      rw [List.size_toArray]
      exact (List.getElem?_eq_some_iff.mp hu).1
    refine wpAny_pyNext_enum_itemD (Draws.tuple hh it a it_a its.toArray) en ⟨ti, p'⟩ hlt ne (by simp [ne, e_a]) fun y h' tk hy ho st' hT hsz hk => ?_
    have ey : y = u := by
      have hy' : its.toArray[i]? = some y := hy
      rw [show its.toArray[i]? = its[i]? by simp, hu] at hy'
      exact (Option.some.inj hy').symm
    subst ey
    refine ⟨_, rfl, wpAny_letOwnedTupleGo_enum (s := { s with heap := h', toks := tk + 1 }) ho fun h'' he' sb => ?_⟩
    have hT2 : h''.get? s.heap.objs.size = some { cls := .type "tuple", data := .seq #[.int i tk, y] } := (sb.2 _ (Nat.ne_of_gt e_lt)).trans hT
    have new : ObjOk X.prog X.w (upd H s.heap.objs.size (.tup [.int (i : Nat), x])) h'' s.heap.objs.size (.tup [.int (i : Nat), x]) :=
      ⟨by show 2 ≤ sizeLine; decide, [.int i tk, y], .cons ⟨_, rfl⟩ (.cons ru .nil), ⟨_, hT2, rfl, _, rfl⟩⟩
    have I1 : Inv X pins σ (upd H s.heap.objs.size (.tup [.int (i : Nat), x])) { s with heap := h'', toks := tk + 1 } :=
      I.turnedNew (ch := [e, it]) (fun b ob hb q => (sb.2 b (fun z => hb (by simp [z]))).trans (hk b ob (fun z => hb (by simp [z])) (fun z => hb (by simp [z])) q)) hf (Nat.le_refl _) new
    refine ⟨.ref s.heap.objs.size, _, I1, rfl, ⟨_, x, rfl, I.hok.fresh (Nat.le_refl _), rfl, fun ys hy => by rw [I.tuple_inj hy hq]; exact hx⟩, ⟨⟨y, ?_⟩, st'.1.at fun o q => (sb.2 it (Ne.symm ne)).trans q, ne⟩, fun b hb => ?_⟩
    · rw [show ((i + 1 : Nat) : Int) = (i : Int) + 1 by omega]
      exact he'
    · have hb' : b < s.heap.objs.size := by
        rcases (show b = e ∨ b = it by simpa using hb) with z | z
        · rw [z]
          exact e_lt
        · rw [z]
          exact it_lt
      rw [upd_ne (Nat.ne_of_lt hb')]
      exact (hf b hb).1
  done := by
    intro X hP hw hK hc i pins s σ H E I hf st hg
    subst hP hw hK
    obtain ⟨⟨old, en⟩, ti, ne⟩ := st
    obtain ⟨xs, hq, hx⟩ := hg
    obtain ⟨its, rv, p, _⟩ := I.tuple hq
    have p' : s.heap.IsTuple a its.toArray := p
    obtain ⟨f0, f1, f2, f3, f4, f5⟩ := hf it (by simp)
    have it_a : a ≠ it := fun z => by
      obtain ⟨o1, g1, c1, _⟩ := ti
      obtain ⟨o2, g2, c2, _⟩ := p'
      rw [z, g1] at g2
      cases g2
      rw [c1] at c2
      exact absurd c2 (by decide)
    have hh : X.A.in1.handled = none := I.ok.hd hc
    have hn : its.toArray.size = i := by
      rw [List.size_toArray, ← rv.length]
      exact hx
    exact wpAny_pyNext_enum_endD (Draws.tuple hh it a it_a its.toArray) en (by rw [hn]; exact ⟨ti, p'⟩) fun h' eb => ⟨rfl, I.turned (t' := s.toks) (fun b o hb q => eb b o hb q) f0 f1 f3 f4 f5⟩
  self := fun A i s Q E st k => let ⟨⟨_, en⟩, _⟩ := st; wpAny_pyIter_enum en k
def iEnumT (K : PySem.W.Frag) (ta : TA) : TI := fun σ H R => ta σ H fun vs H1 => ∃ a xs, vs = [.ref a] ∧ SqT K H1 a xs ∧ R (IteT K a) H1
theorem pi_enumT {X : Cx} {e : Expr} {ta : TA} {p pos tpos : Pos} {elts : List Expr} {kk : Nat} (hg : Gl X "enumerate") (hm : X.mg "enumerate" = none) (ha : PA X [e] ta) (hs : starEach [e] X.env = [(false, eval e X.env)] := by rfl) :
    PI X (.Tuple elts kk tpos) (.Call (.Name "enumerate" p) [e] [] pos) (iEnumT X.K ta) := by
  refine ⟨fun pins s σ H R I h => ?_⟩
  refine Call_ (ld_blt I hg hm boot_enumerate (PyProof.Rows.callWith_type1 (thn (ha.run pos pins s σ H _ I h) fun us s1 ⟨vs, H1, I1, r1, q1⟩ => ?_) hs rfl))
  obtain ⟨a, xs, rfl, hq, q⟩ := q1
  rw [Vals.ref1 r1]
  obtain ⟨its, rv, p', _⟩ := I1.tuple hq
  refine enum_call (begins_tuple a its.toArray) (show s1.heap.IsTuple a its.toArray from p') fun h' en gi hk => wpAny_pyIter_enum en ?_
  have I2 : Inv X pins σ H1 { s1 with heap := h' } := I1.kept (t' := s1.toks) hk
  refine ⟨s1.heap.objs.size + 1, [s1.heap.objs.size + 1, s1.heap.objs.size], _, _, H1, rfl, I2, turn_enumT a (s1.heap.objs.size + 1) s1.heap.objs.size, ⟨⟨.none, en⟩, ⟨_, gi, rfl, rfl⟩, Nat.succ_ne_self _⟩, fun b hb => ?_, q⟩
  have hle : s1.heap.objs.size ≤ b := by
    have hb' : b = s1.heap.objs.size + 1 ∨ b = s1.heap.objs.size := by simpa using hb
    exact hb'.elim (fun z => by rw [z]; exact Nat.le_add_right _ _) fun z => by rw [z]; exact Nat.le_refl _
  exact I1.fpOk hle (I1.hok.fresh hle)
theorem walk_enT {K : PySem.W.Frag} {a : Addr} {xs : List V} : Walk (IteT K a) xs.length (fun H => SqT K H a xs) (fun i H v H' => ∃ T x, v = .ref T ∧ H T = none ∧ H' = upd H T (.tup [.int (i : Nat), x]) ∧ xs[i]? = some x) :=
  ⟨fun i _ hi q => ⟨xs, xs[i], q, by simp [hi]⟩, fun _ q => ⟨xs, q, rfl⟩, fun _ _ _ _ _ q y => by
    obtain ⟨T, x, e1, e2, e3, e4⟩ := y
    exact ⟨T, x, e1, e2, e3, e4 xs q⟩⟩
end K6
namespace K6
open PySem PySem.Spec PyProof.Rows L2 K0 K4
/-- pairs, in tuples -/
def Prs (H : Hp) (ts : List V) (ps : List (V × V)) : Prop := ts.length = ps.length ∧ ∀ (i : Nat) t p, ts[i]? = some t → ps[i]? = some p → ∃ a, t = .ref a ∧ H a = some (.tup [p.1, p.2])
theorem prs_same {H H' : Hp} {ts : List V} {ps : List (V × V)} (s : Same H H') (h : Prs H ts ps) : Prs H' ts ps := ⟨h.1, fun i t p e1 e2 => by
  obtain ⟨a, et, ea⟩ := h.2 i t p e1 e2
  exact ⟨a, et, s _ _ ea⟩⟩
theorem prs_nil {H : Hp} : Prs H [] [] := ⟨rfl, fun i t p e => by simp at e⟩
theorem prs_snoc {H : Hp} {ts : List V} {ps : List (V × V)} {a : Addr} {x y : V} (h : Prs H ts ps) (e : H a = some (.tup [x, y])) : Prs H (ts ++ [.ref a]) (ps ++ [(x, y)]) := by
  refine ⟨by rw [List.length_append, List.length_append, h.1]; rfl, fun i t p e1 e2 => ?_⟩
  by_cases hi : i < ts.length
  · rw [List.getElem?_append_left hi] at e1
    rw [List.getElem?_append_left (by rw [← h.1]; exact hi)] at e2
    exact h.2 i t p e1 e2
  · have hi2 : i = ts.length := by
      have := (List.getElem?_eq_some_iff.mp e1).1
      rw [List.length_append] at this
      have h1 : ([V.ref a] : List V).length = 1 := rfl
      omega
    subst hi2
    rw [List.getElem?_append_right (Nat.le_refl _)] at e1
    rw [h.1, List.getElem?_append_right (Nat.le_refl _)] at e2
    simp at e1 e2
    subst e1 e2
    exact ⟨a, rfl, e⟩
theorem prs_upd {H : Hp} {D : Addr} {xs ys : List V} {ts : List V} {ps : List (V × V)} (e : H D = some (.lst xs)) (h : Prs H ts ps) : Prs (upd H D (.lst ys)) ts ps := ⟨h.1, fun i t p e1 e2 => by
  obtain ⟨a, et, ea⟩ := h.2 i t p e1 e2
  have n : a ≠ D := fun z => by
    rw [z, e] at ea
    cases ea
  exact ⟨a, et, by rw [upd_ne n]; exact ea⟩⟩
theorem none_back {H H' : Hp} {l : Addr} (s : Same H H') (h : H' l = none) : H l = none := by
  cases z : H l with
  | none => rfl
  | some o =>
    have := s _ _ z
    rw [h] at this
    cases this
/-- all places of rows -/
def placesFrom (i : Nat) (r : List Cell) (n : Nat) : List (V × V) := (List.range n).map fun (j : Nat) => (V.int (i : Nat), V.int (j : Nat))
def places (css : List (List Cell)) : Nat → List (V × V)
  | 0 => []
  | i + 1 => places css i ++ placesFrom i (css.getD i []) (wid (css.getD i [])).toNat
section
variable {P : Program} {w : World} {K : PySem.W.Frag} {mg : Str → Option Value} {base : Heap}
/-! ### places_in -/
/-! ### gaps_in -/
/-- rows that are tuples -/
def Rwt (K : PySem.W.Frag) (H : Hp) (xs : List V) (css : List (List Cell)) : Prop := xs.length = css.length ∧ ∀ (i : Nat) x r, xs[i]? = some x → css[i]? = some r → ∃ a, x = .ref a ∧ SqT K H a (r.map cx)
theorem rwt_same {H H' : Hp} {xs : List V} {css : List (List Cell)} (s : Same H H') (h : Rwt K H xs css) : Rwt K H' xs css := ⟨h.1, fun i x r e1 e2 => by
  obtain ⟨a, ex, hS⟩ := h.2 i x r e1 e2
  exact ⟨a, ex, sm_t s hS⟩⟩
def gapOne (i : Nat) : List Nat × Cell → List (V × V)
  | (n, none) => [(V.int (i : Nat), V.str (Tx n))]
  | (_, some _) => []
def gapsFrom (i : Nat) (names : List (List Nat)) (r : List Cell) (k : Nat) : List (V × V) := ((names.zip r).take k).flatMap (gapOne i)
def gaps (names : List (List Nat)) (css : List (List Cell)) : Nat → List (V × V)
  | 0 => []
  | i + 1 => gaps names css i ++ gapsFrom i names (css.getD i []) (min names.length (css.getD i []).length)
end
end K6
/-! a tuple whose object is known, and its methods -/
namespace K6
open PySem PySem.Spec PyProof.Rows L2
section
variable {X : Cx}
/-- tuple(a list): the new object is known to bear no dict -/
def rTupF (K : PySem.W.Frag) : List V → Hp → VK → Prop := fun xs H Q => ∃ p ys, xs = [V.ref p] ∧ SqL K H p ys ∧ ∀ l o, H l = none → o.dict = none → o.cls = .type "tuple" → Q (.ref l) (upd H l (.frz o (.tup ys)))
theorem call_tupF : CallR X (.type "tuple") (rTupF X.K) := by
  intro pins s σ H xs us Q I r h
  obtain ⟨p, ys, rfl, hq, q⟩ := h
  obtain ⟨u, rfl, rx⟩ := vals1 r
  cases rx
  obtain ⟨its, rv, pl, hz⟩ := I.list hq
  have hlen := rv.length
  refine call_tuple_list pl.isList (fun h' kp => ?_) (by simp only [List.size_toArray] <;> omega)
  have I1 : Inv X pins σ H { s with heap := h' } := I.kept (t' := s.toks) kp
  refine ⟨.ref h'.objs.size, _, I1.laid (t' := s.toks) (o := .frz { cls := .type "tuple", data := .seq its.toArray } (.tup ys)) (fun b o e => Heap.get?_push_of_some _ e) (Nat.le_refl _) ⟨Heap.get?_push_size _ rfl, hz, its, rv, IsTup.new _ _⟩, rfl, q _ _ (I1.hok.fresh (Nat.le_refl _)) rfl rfl⟩
end
end K6
namespace K6
open PySem PySem.Spec PyProof.Rows L2 K0 K4
def rTupOf (K : PySem.W.Frag) : List V → Hp → VK → Prop := fun xs H Q => ∃ p ys, xs = [V.ref p] ∧ ((SqL K H p ys ∧ ∀ l, H l = none → Q (.ref l) (upd H l (.tup ys))) ∨ (SqT K H p ys ∧ Q (.ref p) H))
/-- a tuple that is known to bear no dict -/
def TupF (H : Hp) (t : Addr) (xs : List V) : Prop := ∃ o, H t = some (.frz o (.tup xs)) ∧ o.dict = none ∧ o.cls = .type "tuple"
theorem tf_sm {H H' : Hp} {t : Addr} {xs : List V} (s : Same H H') (h : TupF H t xs) : TupF H' t xs := by
  obtain ⟨o, h1, h2⟩ := h
  exact ⟨o, s _ _ h1, h2⟩
theorem tf_sq {K : PySem.W.Frag} {H : Hp} {t : Addr} {xs : List V} (h : TupF H t xs) : SqT K H t xs := by
  obtain ⟨o, h1, h2⟩ := h
  exact .inl (.inr ⟨o, h1⟩)
/-- a sheet of languages and rows stands at x -/
def SheetAt (K : PySem.W.Frag) (C : Addr) (H : Hp) (x : Addr) (names : List (List Nat)) (css : List (List Cell)) : Prop := ∃ dx tl tr tp tg xs ts gs,
  H x = some (.ins C dx [("languages", .ref tl), ("rows", .ref tr), ("places", .ref tp), ("gaps", .ref tg), ("is_whole", .bl (decide (gaps names css css.length = [])))]) ∧
  TupF H tl (tws names) ∧ SqT K H tr xs ∧ Rwt K H xs css ∧ H tp = some (.tup ts) ∧ Prs H ts (places css css.length) ∧ H tg = some (.tup gs) ∧ Prs H gs (gaps names css css.length)
theorem calX_to {P : Program} {w : World} {K : PySem.W.Frag} {mg : Str → Option Value} {base : Heap} {k : Nat} {x : Str} {st : Stmt} {ps : List Str} {sp sp' : Sp} (c : CalX P w K mg base k x st ps sp) (e : sp' = sp) : CalX P w K mg base k x st ps sp' := by
  rw [e]
  exact c
/-- all but x stays -/
def KX (x : Addr) (H H' : Hp) : Prop := ∀ c o, c ≠ x → H c = some o → H' c = some o
theorem KX.sm {x : Addr} {H H' : Hp} (s : Same H H') : KX x H H' := fun c o _ e => s c o e
theorem KX.trans {x : Addr} {H H1 H2 : Hp} (a : KX x H H1) (b : KX x H1 H2) : KX x H H2 := fun c o n e => b c o n (a c o n e)
theorem KX.put {x : Addr} {H : Hp} {o : HO} : KX x H (upd H x o) := fun c u n e => (upd_ne n).trans e
section
variable {K : PySem.W.Frag} {x C dx : Addr} {fs : List (Str × V)} {H H' : Hp}
theorem sqt_kx (hx : H x = some (.ins C dx fs)) (k : KX x H H') {t : Addr} {xs : List V} (h : SqT K H t xs) : SqT K H' t xs := by
  rcases h with (h | ⟨o, h⟩) | h
  · exact .inl (.inl (k _ _ (fun z => by rw [z, hx] at h; cases h) h))
  · exact .inl (.inr ⟨o, k _ _ (fun z => by rw [z, hx] at h; cases h) h⟩)
  · exact .inr h
theorem sql_kx (hx : H x = some (.ins C dx fs)) (k : KX x H H') {t : Addr} {xs : List V} (h : SqL K H t xs) : SqL K H' t xs := by
  rcases h with (h | ⟨o, h⟩) | h
  · exact .inl (.inl (k _ _ (fun z => by rw [z, hx] at h; cases h) h))
  · exact .inl (.inr ⟨o, k _ _ (fun z => by rw [z, hx] at h; cases h) h⟩)
  · exact .inr h
variable {cs : Nat → Addr} {vs : List V} {Q Q' : VK} {E : XK}
end
end K6
namespace K6
open PySem PySem.Spec PyProof.Rows L2 K0 K4
/-- what makes a sheet -/
structure ShOk (names : List (List Nat)) (css : List (List Cell)) : Prop where
  n0 : names ≠ []
  nm : ∀ l ∈ names, nmOk l = true
  nd : names.Nodup
  n4 : names.length ≤ 4
  r0 : css ≠ []
  r6 : css.length ≤ 6
  rl : ∀ r ∈ css, r.length = names.length
  rc : ∀ r ∈ css, ∀ l, some l ∈ r → celOk l = true ∧ l.length ≤ 10000
  re : ∀ r ∈ css, lens r ≠ [] ∧ evenB r = true
  rs : (css.map wid).sum ≤ 12
theorem lens_pos {r : List Cell} : ∀ n ∈ lens r, 0 ≤ n := fun n hn => by
  obtain ⟨c, _, hc⟩ := List.mem_filterMap.mp hn
  cases c with
  | none => cases hc
  | some l =>
    obtain rfl : (l.length : Int) = n := Option.some.inj hc
    omega
theorem wid_pos (r : List Cell) : 0 ≤ wid r := by
  unfold wid
  cases e : lens r with
  | nil => exact Int.le_refl _
  | cons n q => exact lens_pos n (by rw [e]; exact List.mem_cons_self)
theorem le_sum : ∀ {ns : List Int}, (∀ n ∈ ns, 0 ≤ n) → 0 ≤ ns.sum ∧ ∀ n ∈ ns, n ≤ ns.sum
  | [], _ => ⟨Int.le_refl _, fun n hn => by simp at hn⟩
  | m :: r, h => by
    obtain ⟨h1, h2⟩ := le_sum (ns := r) fun n hn => h n (List.mem_cons_of_mem _ hn)
    have h0 := h m List.mem_cons_self
    rw [List.sum_cons]
    refine ⟨by omega, fun n hn => ?_⟩
    rcases List.mem_cons.mp hn with rfl | hn
    · omega
    · have := h2 n hn
      omega
theorem ShOk.wd {names : List (List Nat)} {css : List (List Cell)} (h : ShOk names css) : ∀ r ∈ css, rowOk r ∧ 0 ≤ wid r ∧ wid r ≤ 100 := fun r hr => by
  have h1 := (le_sum (ns := css.map wid) fun n hn => by
    obtain ⟨q, _, rfl⟩ := List.mem_map.mp hn
    exact wid_pos q).2 (wid r) (List.mem_map.mpr ⟨r, hr, rfl⟩)
  have h2 := h.rs
  have h3 := h.rl r hr
  have h4 := h.n4
  exact ⟨⟨by omega, fun l hl => (h.rc r hr l hl).2, (h.re r hr).1⟩, wid_pos r, by omega⟩
section
variable {K : PySem.W.Frag} {H : Hp}
theorem kd_l {b : Addr} {xs : List V} (h : SqLT K H b xs) : ∃ n, Kd K H (.ref b) n ∧ isLT n = true := by
  rcases h with h | h
  · rcases h with (h | ⟨o, h⟩) | ⟨o, its, n, h, c, _⟩
    · exact ⟨"list", ⟨.base (.lst h), by decide⟩, by decide⟩
    · exact ⟨"list", ⟨.base (.frz h), by decide⟩, by decide⟩
    · exact ⟨"list", ⟨.kList h c, by decide⟩, by decide⟩
  · rcases h with (h | ⟨o, h⟩) | ⟨o, its, n, h, c, _⟩
    · exact ⟨"tuple", ⟨.base (.tup h), by decide⟩, by decide⟩
    · exact ⟨"tuple", ⟨.fTuple h, by decide⟩, by decide⟩
    · exact ⟨"tuple", ⟨.kTuple h c, by decide⟩, by decide⟩
variable {cs : Nat → Addr} {C x dx b a : Addr} {Q : VK} {E : XK}
end
end K6
namespace K6
open PySem PySem.Spec PyProof.Rows L2 K0 K4
section
variable {P : Program} {w : World} {K : PySem.W.Frag} {mg : Str → Option Value} {base : Heap}
variable {cs : Nat → Addr} {C : Addr}
theorem sheet_kx {x y : Addr} {H H' : Hp} {names : List (List Nat)} {css : List (List Cell)} (s : Same H H') (h : SheetAt K C H x names css) : SheetAt K C H' x names css := by
  obtain ⟨dx, tl, tr, tp, tg, xs, ts, gs, e, h1, h2, h3, h4, h5, h6, h7⟩ := h
  exact ⟨dx, tl, tr, tp, tg, xs, ts, gs, s _ _ e, tf_sm s h1, sm_t s h2, rwt_same s h3, s _ _ h4, prs_same s h5, s _ _ h6, prs_same s h7⟩
/-! ### need_row, need_language -/
end
end K6
namespace K6
open PySem PySem.Spec PyProof.Rows L2 K0 K4
end K6
namespace K6
open PySem PySem.Spec PyProof.Rows L2 K0 K4
end K6
namespace K6
open PySem PySem.Spec PyProof.Rows L2 K0 K4
end K6
namespace K6
open PySem PySem.Spec PyProof.Rows L2 K0 K4
/-- a class whose __init__ may raise, made by its name -/
structure MakX (P : Program) (w : World) (K : PySem.W.Frag) (mg : Str → Option Value) (base : Heap) (k : Nat) (x : Str) (C : Addr) (ps : List Str) (sp : Sp) : Prop where
  ex : ∃ (f : Addr) (fd : FuncData), Mk K C f ∧ mg x = some (.ref C) ∧ Binds K fd ps [] ∧ FnOk P w K mg base (L2.CX P w) k f fd ps sp
section
variable {X : Cx} {k : Nat} {C : Addr} {x : Str} {ps : List Str} {sp : Sp} {p pos : Pos} {e : Expr} {es : List Expr} {t : TA} {E : XK}
theorem pe_mkX (c : MakX X.prog X.w X.K X.mg X.base k x C ps sp) (hx : Passes (L2.CX X.prog X.w) X E) (hr : Room (k + 1) X.A) (hg : Gl X x) (ha : PA X (e :: es) t)
    (hdb : (x == ("__debug__" : Str)) = false := by decide) (he : starEach (e :: es) X.env = (false, eval e X.env) :: starEach es X.env := by rfl)
    (hpl : (backTo pos (starEach es X.env)).any (·.1) = false := by rfl) : PE X (.Call (.Name x p) (e :: es) [] pos) (tMake C sp [] E t) := by
  obtain ⟨f, fd, M, hm, hb, G⟩ := c.ex
  exact pe_make M G hr hg hm hb .nil hx ha hdb he hpl
end
section
variable {P : Program} {w : World} {K : PySem.W.Frag} {mg : Str → Option Value} {base : Heap}
variable {cs : Nat → Addr} {C : Addr}
/-! ### of_rows -/
/-- the rows with these numbers -/
def pick (css : List (List Cell)) (is : List Int) : List (List Cell) := is.map fun i => css.getD i.toNat []
end
end K6
namespace K6
open PySem PySem.Spec PyProof.Rows L2 K0 K4
end K6
namespace K6
open PySem PySem.Spec PyProof.Rows L2 K0 K4
section
variable {P : Program} {w : World} {K : PySem.W.Frag} {mg : Str → Option Value} {base : Heap}
variable {cs : Nat → Addr} {C : Addr}
/-! ### __eq__ -/
def dN (names : List (List Nat)) : PyData := .tuple (names.map fun l => .str (Tx l))
end
end K6
namespace K6
open PySem PySem.Spec PyProof.Rows L2 K0 K4
/-! ### rows picked, rows left -/
end K6
namespace K6
open PySem PySem.Spec PyProof.Rows L2 K0 K4
/-! ### a sheet's languages and rows as data -/
theorem lay_all {α : Type} {d : α → PyData} : ∀ {xs : List α}, (∀ x ∈ xs, PyData.canLay0 (d x) = true) → PyData.canLayAll0 (xs.map d) = true
  | [], _ => rfl
  | x :: r, h => by
    rw [List.map_cons]
    unfold PyData.canLayAll0
    rw [h x List.mem_cons_self, lay_all fun y hy => h y (List.mem_cons_of_mem _ hy)]
    rfl
theorem depth_all {α : Type} {d : α → PyData} {b : Nat} : ∀ {xs : List α}, (∀ x ∈ xs, (d x).depth ≤ b) → PyData.depthAll (xs.map d) ≤ b
  | [], _ => Nat.zero_le _
  | x :: r, h => by
    have h1 := h x List.mem_cons_self
    have h2 := depth_all (xs := r) fun y hy => h y (List.mem_cons_of_mem _ hy)
    rw [List.map_cons]
    unfold PyData.depthAll
    omega
theorem str_low {l : List Nat} (h : ∀ c ∈ l, c < 1114112) : PyData.canLay0 (.str (Tx l)) = true := by
  unfold PyData.canLay0
  show (l.toArray).all (fun c => decide (c < 0x110000)) = true
  rw [List.all_toArray]
  exact List.all_eq_true.mpr fun c hc => decide_eq_true (h c hc)
theorem shaped_of {d : PyData} (h1 : PyData.canLay0 d = true) (h2 : d.depth ≤ 64) : SeqAt.shaped d = true := by
  unfold SeqAt.shaped
  rw [h1, decide_eq_true h2]
  rfl
end K6
namespace K6
open PySem PySem.Spec PyProof.Rows L2 K0 K4
end K6
namespace K6
open PySem PySem.Spec PyProof.Rows L2 K0 K4
end K6
namespace K7
open PySem PySem.Spec PyProof.Rows L2
/-! zip(*row), row a tuple of texts of one length: each turn a new tuple of signs, kept by whoever asked -/
/-- the first m iterators stand one sign further -/
def Mix (N : Nat) (zs : List (Str × Tok)) (m i : Nat) (h : Heap) : Prop := ∀ k z, zs[k]? = some z → h.IsStrIter (N + k) (strIterType z.1) z.1 z.2 (if k < m then i + 1 else i)
theorem Mix.ext {N m i : Nat} {zs : List (Str × Tok)} {h h' : Heap} (M : Mix N zs m i h) (e : ∀ (b : Nat) o, N ≤ b → b < N + zs.length → h.get? b = some o → h'.get? b = some o) : Mix N zs m i h' := fun k z hk => by
  obtain ⟨o, ho, r⟩ := M k z hk
  have hl : k < zs.length := (List.getElem?_eq_some_iff.mp hk).1
  exact ⟨o, e (N + k) o (Nat.le_add_right _ _) (Nat.add_lt_add_left hl N) ho, r⟩
/-- the signs of all texts at one place -/
def SgnAt (zs : List (Str × Tok)) (i : Nat) (m : Nat) (arr : List Value) : Prop := ∀ k z, k < m → zs[k]? = some z → ∃ c u, z.1.cps[i]? = some c ∧ arr[k]? = some (.str ⟨#[c]⟩ u)
theorem SgnAt.snoc {zs : List (Str × Tok)} {i m : Nat} {arr : List Value} (h : SgnAt zs i m arr) {z : Str × Tok} {c : Nat} {u : Tok} (hz : zs[m]? = some z) (hc : z.1.cps[i]? = some c) (ha : arr[m]? = some (.str ⟨#[c]⟩ u)) : SgnAt zs i (m + 1) arr := fun k z' hk hz' => by
  rcases Nat.lt_succ_iff_lt_or_eq.mp hk with q | q
  · exact h k z' q hz'
  · subst q
    rw [hz] at hz'
    cases hz'
    exact ⟨c, u, hc, ha⟩
section
variable {prog : Program} {w : World} {A : Around} {E : Value → Shared → Prop} {s : Shared} {N n i : Nat} {zs : List (Str × Tok)}
theorem Mix.all {h : Heap} (hn : zs.length = n) (M : Mix N zs n i h) : Mix N zs 0 (i + 1) h := fun k z hk => by
  have hl : k < n := by rw [← hn]; exact (List.getElem?_eq_some_iff.mp hk).1
  have := M k z hk
  rw [if_pos hl] at this
  rw [if_neg (Nat.not_lt_zero _)]
  exact this
end
end K7
namespace K7
open PySem PySem.Spec PyProof.Rows L2
/-! {k: v for target in iter}, the keys tuples of ints and texts -/
theorem dset_t {X : Cx} {pins : List (Addr × Obj)} {σ : L2.St} {H : Hp} {s : Shared} {E : Value → Shared → Prop} {D b : Addr} {kvs : List (List Key × V)} {k : List Key} {v : V} {r : Value} {Q : Unit → Shared → Prop} (hu : X.A.units + 1 < cLine)
    (I : Inv X pins σ H s) (hD : H D = some (.dT kvs)) (hb : H b = some (.tup (k.map kV))) (hz : kvs.length < sizeLine) (rv : RelV v r) (h : ∀ s', Inv X pins σ (upd H D (.dT (putK kvs k v))) s' → Q () s') :
    wpAny (model X.prog X.w) X.A (dictSet D (.ref b) r) Q E s := by
  obtain ⟨z, hd, xs, rel, dd⟩ := dt_of I.hok hD
  have hx : xs.length ≤ sizeLine := by rw [← Paired.length rel]; exact z
  have hp : (putK kvs k v).length ≤ sizeLine := by have := length_putK kvs k v; omega
  refine wpAny_dictSet_heap (hsz := hx) (show X.A.units < cLine from Nat.lt_of_succ_lt hu) (key_of I.hok hb) dd fun h' ⟨q, es, ep, hq, h2, h3, h4, _, h5⟩ hs => h _ ?_
  refine d_write I (by rw [hD]; exact True.intro) hs ⟨q, hq⟩ ⟨hp, hd, _, (rel.put k hb rv).keeps fun c ys ec => ?_, q, es, ep, hq, h2, h3, h4, h5⟩
  exact (upd_ne (ne_of ec hD (fun z => nomatch z))).trans ec
end K7
namespace K6
open PySem PySem.Spec PyProof.Rows L2 K0 K4
/-! ### whole sheets, by their rows of words -/
def whole (ws : List (List (List Nat))) : List (List Cell) := ws.map fun r => r.map some
def widW (r : List (List Nat)) : Nat := (r.headD []).length
/-- the signs that stand at place j of a row -/
def colAt (r : List (List Nat)) (j : Nat) : List Nat := r.map fun l => l.getD j 0
def rowCols (r : List (List Nat)) (n : Nat) : List (List Nat) := (List.range n).map (colAt r)
def colsTo (ws : List (List (List Nat))) : Nat → List (List Nat)
  | 0 => []
  | i + 1 => colsTo ws i ++ rowCols (ws.getD i []) (widW (ws.getD i []))
def cols (ws : List (List (List Nat))) : List (List Nat) := colsTo ws ws.length
end K6
namespace K6
open PySem PySem.Spec PyProof.Rows L2 K0 K4
/-! ### pairs of places -/
def prFrom (m i n : Nat) : List (V × V) := (List.range n).map fun j => (V.int (i : Nat), V.int ((i + 1 + j : Nat) : Int))
def prTo (m : Nat) : Nat → List (V × V)
  | 0 => []
  | i + 1 => prTo m i ++ prFrom m i (m - (i + 1))
section
variable {P : Program} {w : World} {K : PySem.W.Frag} {mg : Str → Option Value} {base : Heap}
variable {cs : Nat → Addr} {C : Addr}
abbrev st_pairs_of_places : Stmt := top 15
abbrev nm_pairs_of_places : List Str := ["many", "place", "other"]
theorem sc_pairs_of_places : FnScope nm_pairs_of_places ["many"] (defScope st_pairs_of_places) := ⟨rfl, rfl, rfl, by decide +kernel, rfl, by decide +kernel, by decide +kernel⟩
def spPairs : Sp := fun vs H Q _ => ∃ (m : Nat), vs = [.int (m : Int)] ∧ m ≤ 100 ∧ ∀ H' p ts, Same H H' → H p = none → H' p = some (.lst ts) → Prs H' ts (prTo m m) → Q (.ref p) H'
theorem ok_pairs {f : Addr} {fd : FuncData} (F : Fun K "pairs_of_places" "pairs_of_places" st_pairs_of_places f fd) (T : Blt mg) : FnOk P w K mg base CX0 1 f fd ["many"] spPairs := by
  refine F.ok sc_pairs_of_places (fun vs H Q E h => ?_) (fun cdv A outer s H vs Q E hr h => ?_)
  · obtain ⟨m, rfl, _⟩ := h
    rfl
  · refine ⟨_, (pss_one (ps_ret (pe_lc2 (own := [("place", 1), ("other", 2)]) (vs1 := [2]) (g := (gName 1)) (tt := tYes) (g1 := (gName 2)) (tt1 := tYes) rfl sc_pairs_of_places.nd (pi_range1 rfl T.n_range (pa_cons (pv 0) pa_nil)) (blkOk_by (N := nm_pairs_of_places) (sc := defScope st_pairs_of_places) (own := [("place", 1), ("other", 2)]) (by decide +kernel)) (by decide) (fun _ _ _ _ _ => by exact pg_name (i := 1) sc_pairs_of_places.nd rfl (Or.inl rfl)) (fun _ _ _ _ _ => pts_nil) (fun _ _ _ _ _ => (pi_range2 rfl T.n_range (pa_cons (pe_op op_add (pv 1) pe_int) (pa_cons (pv 0) pa_nil)))) (fun _ _ _ _ _ => by exact pg_name (i := 2) sc_pairs_of_places.nd rfl (Or.inl rfl)) (fun _ _ _ _ _ => pts_nil) (fun _ _ _ _ _ => (pe_tup (pa_cons (pv 1) (pa_cons (pv 2) pa_nil))))))), ?_⟩
    obtain ⟨m, rfl, hm, q⟩ := h
    refine ⟨_, rfl, _, rfl, by omega, by omega, fun D hD => ?_⟩
    refine lc2_it (n := m) walk_range (fun i H' => Same H H' ∧ ∃ ts, H' D = some (.lst ts) ∧ Prs H' ts (prTo m i) ∧ ts.length ≤ 100 * i) ⟨Sm.new hD, [], upd_same, prs_nil, Nat.zero_le _⟩ (fun i H2 _ p => trivial) ?_ ?_
    · rintro i y H2 H3 hi ⟨p1, ts, p2, p3, p4⟩ ⟨rfl, rfl⟩
      refine ⟨rfl, _, rfl, _, _, rfl, rfl, _, rfl, _, _, rfl, ⟨by omega, by omega, by omega, by omega⟩, ?_⟩
      show In2 _ _ _ _ _ _ _ (Itr (0 + (i : Int) + 1) ((m : Int) - (0 + (i : Int) + 1)).toNat) _
      rw [show ((m : Int) - (0 + (i : Int) + 1)).toNat = m - (i + 1) by omega]
      refine in2_it (n := m - (i + 1)) walk_range (fun j H5 => Same H H5 ∧ ∃ ts, H5 D = some (.lst ts) ∧ Prs H5 ts (prTo m i ++ prFrom m i j) ∧ ts.length ≤ 100 * i + j) ⟨p1, ts, p2, by rw [show prFrom m i 0 = [] from rfl, List.append_nil]; exact p3, p4⟩ (fun _ _ _ _ => trivial) ?_ ?_
      · rintro j x H5 H6 hj ⟨r1, ts5, r2, r3, r4⟩ ⟨rfl, rfl⟩
        refine ⟨rfl, _, rfl, _, rfl, small_line (by show 2 ≤ 1000000; decide), fun t2 ht2 => ?_⟩
        have nD : D ≠ t2 := ne_of_none r2 ht2
        refine ⟨ts5, (upd_ne nD).trans r2, small_lt (by omega), Sm.put (r1.trans (Sm.new ht2)) hD, ts5 ++ [.ref t2], upd_same, ?_, by rw [List.length_append]; show ts5.length + 1 ≤ _; omega⟩
        have e1 : prFrom m i (j + 1) = prFrom m i j ++ [(.int (i : Nat), .int ((i + 1 + j : Nat) : Int))] := by
          unfold prFrom
          rw [List.range_succ, List.map_append]
          rfl
        rw [e1, ← List.append_assoc]
        refine prs_upd ((upd_ne nD).trans r2) (prs_snoc (prs_same (Sm.new ht2) r3) ?_)
        rw [upd_same]
        have ea : (0 : Int) + (i : Int) = ((i : Nat) : Int) := by omega
        have eb : (0 : Int) + (i : Int) + 1 + (j : Int) = ((i + 1 + j : Nat) : Int) := by omega
        dsimp only
        rw [eb, ea]
      · rintro H5 ⟨r1, ts5, r2, r3, r4⟩
        exact ⟨r1, ts5, r2, r3, by omega⟩
    · rintro H2 ⟨p1, ts, p2, p3, p4⟩
      exact q H2 D ts p1 hD p2 p3
end
end K6
namespace K6
open PySem PySem.Spec PyProof.Rows L2 K0 K4
/-! ### the unlike ones of some column rows -/
def uq (acc : List (List Nat)) (c : List Nat) : List (List Nat) := if c ∈ acc then acc else acc ++ [c]
def uniq (cl : List (List Nat)) : List (List Nat) := cl.foldl uq []
def zeroL (cl : List (List Nat)) : List Nat := cl.map fun c => (uniq cl).idxOf c
end K6
namespace K6
open PySem PySem.Spec PyProof.Rows L2 K0 K4
theorem idx_at {U : List (List Nat)} {j : Nat} {c : List Nat} (hn : U.Nodup) (h : U[j]? = some c) : U.idxOf c = j := by
  obtain ⟨hl, e⟩ := List.getElem?_eq_some_iff.mp h
  subst e
  exact hn.idxOf_getElem j hl
theorem zeroL_len (cl : List (List Nat)) : (zeroL cl).length = cl.length := List.length_map _
end K6
namespace K6
open PySem PySem.Spec PyProof.Rows L2 K0 K4
section
variable {P : Program} {w : World} {K : PySem.W.Frag} {mg : Str → Option Value} {base : Heap}
variable {cs : Nat → Addr} {C : Addr}
/-- a value, told whole: a whole sheet, one with gaps, or something else -/
def Whv (K : PySem.W.Frag) (cs : Nat → Addr) (C : Addr) (z : Str) (H : Hp) (E : XK) (v : V) (q : Addr → List (List Nat) → List (List (List Nat)) → Prop) : Prop :=
  (∃ t, TyX K H v t ∧ PySem.W.kitOne K t (.ref C) = some false ∧ XSheet cs z H E) ∨ (∃ y names css, v = .ref y ∧ SheetAt K C H y names css ∧ gaps names css css.length ≠ [] ∧ XSheet cs "gaps" H E) ∨
  ∃ y names ws, v = .ref y ∧ SheetAt K C H y names (whole ws) ∧ ShOk names (whole ws) ∧ q y names ws
end
end K6
namespace K6
open PySem PySem.Spec PyProof.Rows L2 K0 K4
def prNat (m : Nat) : Nat → List (Nat × Nat)
  | 0 => []
  | i + 1 => prNat m i ++ (List.range (m - (i + 1))).map fun j => (i, i + 1 + j)
theorem prNat_mem {m i j : Nat} : ∀ {n : Nat}, n ≤ m → ((i, j) ∈ prNat m n ↔ i < n ∧ i < j ∧ j < m)
  | 0, _ => by simp [prNat]
  | n + 1, h => by
    show (i, j) ∈ prNat m n ++ (List.range (m - (n + 1))).map (fun j => (n, n + 1 + j)) ↔ _
    rw [List.mem_append, prNat_mem (by omega), List.mem_map]
    constructor
    · rintro (q | ⟨k, hk, e⟩)
      · omega
      · cases e
        have := List.mem_range.mp hk
        omega
    · rintro ⟨h1, h2, h3⟩
      rcases Nat.lt_or_ge i n with q | q
      · exact .inl ⟨q, h2, h3⟩
      · refine .inr ⟨j - (n + 1), List.mem_range.mpr (by omega), ?_⟩
        have : i = n := by omega
        subst this
        rw [show i + 1 + (j - (i + 1)) = j by omega]
/-- joined in one, not in the other -/
def jB (dy ot : List Nat) (p : Nat × Nat) : Bool := decide (dy.getD p.1 0 = dy.getD p.2 0) && !decide (ot.getD p.1 0 = ot.getD p.2 0)
def ljR (dy ot : List Nat) : Option (Nat × Nat) := (prNat dy.length dy.length).find? (jB dy ot)
end K6
namespace K6
open PySem PySem.Spec PyProof.Rows L2 K0 K4
/-! ### places as data; compared -/
def dPr (p : Nat × Nat) : PyData := .tuple [.int (p.1 : Nat), .int (p.2 : Nat)]
theorem eqv_dPr (a b : Nat × Nat) : PyData.eqv (dPr a) (dPr b) = decide (a = b) := by
  obtain ⟨i, j⟩ := a
  obtain ⟨k, l⟩ := b
  show PyData.eqv (.tuple [.int (i : Nat), .int (j : Nat)]) (.tuple [.int (k : Nat), .int (l : Nat)]) = _
  rw [PyData.eqv, PyData.eqvAll, PyData.eqvAll, PyData.eqvAll, PyData.eqv, PyData.eqv, Bool.and_true]
  by_cases a : i = k
  · by_cases b : j = l
    · subst a b
      simp
    · rw [decide_eq_false fun z => b (Prod.mk.inj z).2, (beq_eq_false_iff_ne (a := (j : Int)) (b := (l : Int))).mpr fun z => b (Int.ofNat.inj z), Bool.and_false]
  · rw [decide_eq_false fun z => a (Prod.mk.inj z).1, (beq_eq_false_iff_ne (a := (i : Int)) (b := (k : Int))).mpr fun z => a (Int.ofNat.inj z), Bool.false_and]
section
variable {P : Program} {w : World} {K : PySem.W.Frag} {mg : Str → Option Value} {base : Heap}
variable {cs : Nat → Addr} {C : Addr}
theorem cal_to' {P : Program} {w : World} {K : PySem.W.Frag} {mg : Str → Option Value} {base : Heap} {k : Nat} {x : Str} {st : Stmt} {ps : List Str} {sp sp' : Sp} (c : Cal P w K mg base k x st ps sp) (e : sp' = sp) : Cal P w K mg base k x st ps sp' := by
  rw [e]
  exact c
end
end K6
namespace K6
open PySem PySem.Spec PyProof.Rows L2 K0 K4
section
variable {P : Program} {w : World} {K : PySem.W.Frag} {mg : Str → Option Value} {base : Heap}
variable {cs : Nat → Addr} {C : Addr}
/-! ### of_languages -/
/-- the cells of a row in these languages -/
def pickL (names : List (List Nat)) (css : List (List Cell)) (ls : List (List Nat)) : List (List Cell) := css.map fun r => ls.map fun l => r.getD (names.idxOf l) none
end
end K6
namespace K6
open PySem PySem.Spec PyProof.Rows L2 K0 K4
end K6
/-! a def of a class whose first statement is super().m(e, ..) -/
namespace K8
open PySem PySem.Spec PyProof.Rows L2
/-- a def's scope with no cells of its own, which reads __class__ alone from outside -/
structure SScope (N P : List Str) (sc : Scope) : Prop where
  kind : sc.kind = .function
  co : sc.isCoroutine = false
  gen : sc.isGenerator = false
  nd : N.Nodup
  pre : N.take P.length = P
  par : ∀ x ∈ P, sc.names.lookup x = some .local
  nocell : ∀ y ∈ sc.names, y.2 ≠ .cell
  frees : ∀ y ∈ sc.names, y.2 = .free → y.1 = "__class__"
def cxS (CX : CXT) (P : Program) (w : World) (K : PySem.W.Frag) (mg : Str → Option Value) (base : Heap) (N : List Str) (qual : Str) (scope : Scope) (f : Addr) (cd : Value) (cc : Addr) (A : Around) (outer : List Env) (s : Shared) (H : Hp) (E : XK) : Cx where
  prog := P
  w := w
  K := K
  mg := mg
  base := base
  A := A.deeper (PySem.W.ksEnv qual scope s.heap.objs.size f cd cc)
  N := N
  s_0 := s
  H_0 := H
  env := PySem.W.ksEnv qual scope s.heap.objs.size f cd cc
  outer := outer
  stack := PySem.W.ksEnv qual scope s.heap.objs.size f cd cc :: outer
  ex := []
  calm := true
  fn := fun _ => false
  pn := []
  xe := fun e s' => wpAny (model P w) (A.deeper (PySem.W.ksEnv qual scope s.heap.objs.size f cd cc)) (leaving (PySem.W.ksEnv qual scope s.heap.objs.size f cd cc) e) (fun _ s'' => CX outer H s E e s'') (fun e' s'' => CX outer H s E e' s'') s'
theorem look_uniq {α : Type} {x : Str} {u : α} : ∀ {l : List (Str × α)}, (∀ v, (x, v) ∈ l → v = u) → (x, u) ∈ l → l.lookup x = some u
  | (y, v) :: r, nd, h => by
    by_cases n : x = y
    · subst n
      rw [List.lookup_cons, show (x == x) = true by simp, nd v List.mem_cons_self]
    · rw [List.lookup_cons, show (x == y) = false by simpa using n]
      refine look_uniq (fun w hw => nd w (List.mem_cons_of_mem _ hw)) ((List.mem_cons.mp h).resolve_left fun z => ?_)
      cases z
      exact n rfl
theorem nd_ix {ps : List Str} {i j : Nat} {y : Str} (nd : ps.Nodup) (h1 : ps[i]? = some y) (h2 : ps[j]? = some y) : i = j := by
  obtain ⟨a1, e1⟩ := List.getElem?_eq_some_iff.mp h1
  obtain ⟨a2, e2⟩ := List.getElem?_eq_some_iff.mp h2
  exact (List.getElem_inj nd).mp (e1.trans e2.symm)
theorem look_rev {ps : List Str} {us : List Value} {i : Nat} {y : Str} {u : Value} (nd : ps.Nodup) (hp : ps[i]? = some y) (hu : us[i]? = some u) : (ps.zip us).reverse.lookup y = some u := by
  have hz : (ps.zip us)[i]? = some (y, u) := by
    rw [List.getElem?_zip_eq_some]
    exact ⟨hp, hu⟩
  refine look_uniq (fun v hv => ?_) (List.mem_reverse.mpr (List.mem_of_getElem? hz))
  obtain ⟨j, hj, e⟩ := List.getElem_of_mem (List.mem_reverse.mp hv)
  have hz2 : (ps.zip us)[j]? = some (y, v) := by rw [List.getElem?_eq_getElem hj, e]
  rw [List.getElem?_zip_eq_some] at hz2
  have := nd_ix nd hp hz2.1
  subst this
  rw [hu] at hz2
  exact (Option.some.inj hz2.2).symm
section
variable {CX : CXT} {P : Program} {w : World} {K : PySem.W.Frag} {mg : Str → Option Value} {base : Heap} {N ps : List Str} {qual : Str} {scope : Scope} {f cc : Addr} {cd : Value} {A : Around} {outer : List Env} {s : Shared} {H : Hp} {E : XK} {us : List Value} {vs : List V} {h1 : Heap} {tk : Nat}
theorem cls_only {c : Addr} {y : Str} (h : (PySem.W.ksEnv qual scope s.heap.objs.size f cd cc).cells.lookup y = some c) : y = "__class__" ∧ c = cc := by
  have h : ([(("__class__" : Str), cc)] : List (Str × Addr)).lookup y = some c := h
  rw [List.lookup_cons] at h
  cases e : (y == ("__class__" : Str)) with
  | true =>
    rw [e] at h
    exact ⟨eq_of_beq e, (Option.some.inj h).symm⟩
  | false =>
    rw [e] at h
    cases h
theorem inv_startS (S : SScope N ps scope) (hd : A.handled = none) (e0 : Env0 P w K mg base A outer s H) (hl : vs.length = ps.length) (r : Vals vs us) {v0 : Option Value} (hcc : base.IsCell cc v0)
    (hns : h1.Ns s.heap.objs.size fun y => (ps.zip us).reverse.lookup y) (hk : ∀ b o, s.heap.get? b = some o → h1.get? b = some o) : Inv (cxS CX P w K mg base N qual scope f cd cc A outer s H E) [] (L2.start N vs) H { s with heap := h1, toks := tk } := by
  have hpl : ps.length ≤ N.length := by have := congrArg List.length S.pre; rw [List.length_take] at this; omega
  have noA : ∀ b : Addr, b ∉ (cxS CX P w K mg base N qual scope f cd cc A outer s H E).ex := fun b z => absurd (show b ∈ ([] : List Addr) from z) (by simp)
  obtain ⟨oc, hoc, hoc2⟩ := hcc
  have hcb := e0.bs cc oc hoc
  refine ⟨⟨e0.mod, S.kind, rfl, rfl, Nat.le_refl _, fun y z c h1 h2 => (cls_only h1).1.trans (cls_only h2).1.symm, fun y hy => ?_, fun y c h => absurd (show false = true from h) Bool.false_ne_true, fun _ => hd, Around.frames_deeper e0.frames, .inr ⟨rfl, rfl⟩, fun b z => absurd z (noA b), e0.bs, e0.bsz, fun b _ _ => noA b, fun b z => absurd z (noA b), e0.funs, e0.frf⟩,
    rfl, e0.bare, Un.kept hk, ⟨_, hns, fun i y v q1 q2 q3 => ?_⟩, fun y c h => ⟨v0, ?_⟩, e0.hok.fresh (Nat.le_refl _), fun y c h => ?_, fun p hp => absurd (show p ∈ ([] : List (Addr × Obj)) from hp) (by simp), e0.hok.kept hk, ?_⟩
  · have hy : scope.names.lookup y = some .cell ∨ scope.names.lookup y = some .free := hy
    rcases hy with hy | hy
    · exact absurd rfl (S.nocell _ (PySem.mem_of_lookup hy))
    · have := S.frees _ (PySem.mem_of_lookup hy) rfl
      dsimp only at this
      rw [this]
      exact ⟨cc, rfl⟩
  · have hi : i < vs.length := by
      unfold L2.start at q2
      by_cases hi : i < vs.length
      · exact hi
      · rw [List.getElem?_append_right (by simpa using hi)] at q2
        rw [List.getElem?_replicate] at q2
        split at q2 <;> cases q2
    have ha : vs[i]? = some v := by
      unfold L2.start at q2
      rw [List.getElem?_append_left (by simpa using hi), List.getElem?_map] at q2
      cases e : vs[i]? with
      | none => rw [e] at q2; cases q2
      | some a => rw [e] at q2; cases q2; rfl
    obtain ⟨u, hu, rv⟩ := r.get ha
    have hp : ps[i]? = some y := by
      rw [← S.pre, List.getElem?_take_of_lt (by omega)]; exact q1
    have ndP : ps.Nodup := by rw [← S.pre]; exact S.nd.sublist (List.take_sublist _ _)
    exact ⟨u, rv, .inl ⟨S.par y (List.mem_of_getElem? hp), look_rev ndP hp hu⟩⟩
  · rw [(cls_only h).2]
    exact ⟨oc, hk _ _ hcb.1, hoc2⟩
  · rw [(cls_only h).2]
    exact hcb.2
  · unfold L2.start
    show _ = N.length
    rw [List.length_append, List.length_map, List.length_replicate]
    omega
end
/-- what is known of a class C, its __class__ cell and its base's method g -/
structure SupC (P : Program) (K : PySem.W.Frag) (mg : Str → Option Value) (C cda g : Addr) (m : Str) : Prop where
  code : ∃ ccl cdd vs ccs file tf, K.lookup cda = some ⟨ccl, cdd, .fields vs, ccs⟩ ∧ vs[2]? = some (.str file tf) ∧ ((P.main.file : Str) == file) = true
  cls : ∃ cd, PySem.W.clsIn K C = some cd
  sub : PySem.W.mroIn K C (.ref C) = some true
  opq : PySem.W.nsIn K cStatics "thirdparty.any" = some none
  found : PySem.W.ks_superIn K C C m = some (some (.ref g))
  fn : PySem.W.typeIn K (.ref g) = some (.type "function")
  fi : PySem.W.fnIn K g = true
  sup : mg "super" = none
  top : (P.main.scope.names.lookup ("super" : Str)).isSome = false
section
variable {CX CX2 : CXT} {P : Program} {w : World} {K : PySem.W.Frag} {mg : Str → Option Value} {base : Heap} {k j : Nat} {C f cda cc g : Addr} {name qual m : Str} {params : Arguments} {rest : List Stmt} {scope : Scope} {dV kV doc pm ct oc : Value} {an od : Option Addr}
  {osl : Array (Option Value)} {N ps : List Str} {sp spB : Sp} {p0 p1 apos pos epos : Pos} {e1 : Expr} {es : List Expr} {ar : Arg}
theorem fn_super {pl : Sem Bool} (lk : K.lookup f = some ⟨oc, od, .func (PySem.W.ksFn name qual params (.Expr (.Call (.Attribute (.Call (.Name "super" p0) [] [] p1) m apos) (e1 :: es) [] pos) epos :: rest) scope dV kV doc pm an (.ref cda) ct cc), osl⟩)
    (hcd : PySem.W.codeIn K (.ref cda) qual = true) (S : SScope N ps scope) (U : SupC P K mg C cda g m) (hcc : base.IsCell cc (some (.ref C))) (hp : (params.posonlyargs ++ params.args).head? = some ar) (hps : ps.head? = some ar.arg)
    (hks : scope.names.lookup ("super" : Str) = some .globalImplicit) (hkc : scope.names.lookup ("__class__" : Str) = some .free) (hm : (m == ("__class__" : Str)) = false)
    (F : FnR P w K mg base CX2 j g spB) (hj : j ≤ k) (len : ∀ vs H Q E, sp vs H Q E → vs.length = ps.length)
    (hx : ∀ (A : Around) (outer : List Env) (s : Shared) (H : Hp) (E : XK), Passes CX2 (cxS CX P w K mg base N qual scope f (.ref cda) cc A outer s H E) E0)
    (hbody : ∀ (A : Around) (outer : List Env) (s : Shared) (H : Hp) (vs : List V) (Q : VK) (E : XK), Room k (A.deeper (PySem.W.ksEnv qual scope s.heap.objs.size f (.ref cda) cc)) → sp vs H Q E →
      ∃ ta t x dx, PA (cxS CX P w K mg base N qual scope f (.ref cda) cc A outer s H E) (e1 :: es) ta ∧ PSs (cxS CX P w K mg base N qual scope f (.ref cda) cc A outer s H E) rest t ∧ vs.head? = some (.ref x) ∧ H x = some (.ins C dx []) ∧
        ∀ q, H q = none → ta (L2.start N vs) (upd H q (.met g x)) fun us H2 => H2 q = some (.met g x) ∧ spB (.ref x :: us) H2 (fun _ H3 => t { nx := fun _ H' => Q .non H', rt := Q } (L2.start N vs) H3) E0)
    (hst : ∀ (s : Shared), starEach (e1 :: es) (PySem.W.ksEnv qual scope s.heap.objs.size f (.ref cda) cc) = (false, eval e1 (PySem.W.ksEnv qual scope s.heap.objs.size f (.ref cda) cc)) :: starEach es (PySem.W.ksEnv qual scope s.heap.objs.size f (.ref cda) cc) := by intros; rfl)
    (hi : ∀ (s : Shared), interactive (PySem.W.ksEnv qual scope s.heap.objs.size f (.ref cda) cc) = false := by intros; rfl)
    (hs : ∀ (s : Shared), swapsWith (.Call (.Attribute (.Call (.Name "super" p0) [] [] p1) m apos) (e1 :: es) [] pos) none epos.line (PySem.W.ksEnv qual scope s.heap.objs.size f (.ref cda) cc) = pure false := by intros; rfl)
    (hpl : ∀ (s : Shared), (backTo pos (starEach es (PySem.W.ksEnv qual scope s.heap.objs.size f (.ref cda) cc))).any (·.1) = false := by intros; rfl)
    (he : ∀ env : Env, eval (.Call (.Attribute (.Call (.Name "super" p0) [] [] p1) m apos) (e1 :: es) [] pos) env = (do
      let ov ← attributeBase (.Call (.Name "super" p0) [] [] p1) m env (eval (.Call (.Name "super" p0) [] [] p1) env)
      standAt apos.atName
      let (f, first) ← holding [ov] (getMethod ov m pl)
      callWith pos f first (backTo pos (starEach (e1 :: es) env)) []) := by intros; rfl) :
    FnOk P w K mg base CX (k + 1) f (PySem.W.ksFn name qual params (.Expr (.Call (.Attribute (.Call (.Name "super" p0) [] [] p1) m apos) (e1 :: es) [] pos) epos :: rest) scope dV kV doc pm an (.ref cda) ct cc) ps sp := by
  refine ⟨len, fun A outer s H args us vs Q E hr e0 hb r hsp => ?_⟩
  have hl := len _ _ _ _ hsp
  have KX : K.In s.heap := e0.mod.kin.keeps fun b o e => (e0.bs b o e).1
  have lim : s.heap.NoLimit := e0.mod.nolimit.keeps fun b o e => (e0.bs b o e).1
  refine ks_codeAny_call_defAt (binds := ps.zip us) hr.depth (KX _ _ lk) rfl lim (PySem.W.codeRec_of KX hcd) rfl hb S.nocell (fun y hy => S.par _ (List.of_mem_zip hy).1) (fun h1 hns hk => ?_) S.co S.gen S.kind
  obtain ⟨ta, t, x, dx, hta, ht, hv0, hHx, hq⟩ := hbody A outer s H vs Q E (hr.deeper _) hsp
  have I : Inv (cxS CX P w K mg base N qual scope f (.ref cda) cc A outer s H E) [] (L2.start N vs) H { s with heap := h1, toks := s.toks + (ps.zip us).length } := inv_startS S hr.hd e0 hl r hcc hns hk
  obtain ⟨ccl, cdd, vv, ccs, file, tf, lcode, hvs, hfile⟩ := U.code
  obtain ⟨cdat, hcls⟩ := U.cls
  have hsup := U.found
  unfold PySem.W.ks_superIn at hsup
  rw [hcls] at hsup
  have kin := I.kIn
  obtain ⟨oD, hD1, hD2⟩ : ∃ oD, h1.get? C = some oD ∧ oD.data = .cls cdat := by
    unfold PySem.W.clsIn at hcls
    split at hcls
    · rename_i c d cd' sl ho
      cases hcls
      exact ⟨_, kin _ _ ho, rfl⟩
    · cases hcls
  obtain ⟨of, hof, hofc⟩ : ∃ of, K.lookup g = some of ∧ of.cls = .type "function" := by
    have ht' : (K.lookup g).map (·.cls) = some (.type "function") := U.fn
    cases z : K.lookup g with
    | none => rw [z] at ht'; cases ht'
    | some of => rw [z] at ht'; exact ⟨of, rfl, Option.some.inj ht'⟩
  obtain ⟨u0, hu0, rx⟩ : ∃ u, us[0]? = some u ∧ u = .ref x := by
    cases r with
    | nil => cases hv0
    | cons a b =>
      obtain rfl := Option.some.inj hv0
      exact ⟨_, rfl, a⟩
  subst rx
  have hp0 : ps[0]? = some ar.arg := by
    cases ps with
    | nil => cases hps
    | cons a b => exact hps
  have ndP : ps.Nodup := by rw [← S.pre]; exact S.nd.sublist (List.take_sublist _ _)
  have hself := look_rev ndP hp0 hu0
  obtain ⟨mA, O, _, _, _, _⟩ := ins_get I.hok hHx
  obtain ⟨odx, J, _⟩ := O.look
  obtain ⟨mb, hb1, hb2⟩ := I.ok.mod.blt
  obtain ⟨occ, hocc, hocc2⟩ := hcc
  refine ks_wpAt_execs_cons ?_
  refine ks_wpAt_Expr_any ?_ (hi s) (hs s)
  refine ks_wpAt_MethodCall (pl := pl) ?_ (he _)
  refine ks_wpAt_super_base hks hkc hm rfl (kin _ _ lk) rfl hp rfl (kin _ _ lcode) rfl hvs hfile U.top ?_
  refine PySem.W.ks_loadName_global S.kind hks (Calls.loadGlobal_builtin (I.ok.mod.glob.keeps I.bk) U.sup (hb1.keeps I.bk) ((hb2 _ (by decide)).trans rfl) ⟨rfl, ?_⟩)
  refine wpAny_loadName_free S.kind hkc rfl ⟨occ, hk _ _ (e0.bs _ _ hocc).1, hocc2⟩ ?_
  refine wpAny_loadName_local S.kind (S.par _ (List.mem_of_getElem? hp0)) hns hself ?_
  refine ks_wpAny_isType_cls hD1 hD2 ⟨rfl, ?_⟩
  refine ks_wpAny_call_super hD1 hD2 J.at_ J.cls (fun c e => ?_) (PySem.W.looks_mroIn kin U.sub) (fun h2 e2 k2 => ?_)
  · have := J.no
    unfold PySem.W.notCls at this
    rw [e] at this
    exact Bool.noConfusion this
  have I2 := I.kept (t' := s.toks + (ps.zip us).length) k2
  have kin2 := I2.kIn
  refine ks_wpAny_getMethod_super e2 (PySem.W.looks_opaque kin2 U.opq) (l₀ := cdat.mro) (fun A Q E s k q => wpAny_bind ((PySem.W.looks_clsIn kin2 hcls) A _ E s k (wpAny_pure q))) rfl kin2 hsup (kin2 _ _ hof) hofc (PySem.W.ks_ne kin J hcls) hm ?_
  have hqn : H h2.objs.size = none := I2.hok.fresh (Nat.le_refl _)
  have I3 := I2.laid (t' := s.toks + (ps.zip us).length + 1) (a := h2.objs.size) (o := .met g x) (fun b u z => Heap.get?_push_of_some _ z) (Nat.le_refl _)
    (show (h2.push (PySem.W.methodObj (.ref g) (.ref x))).get? h2.objs.size = some (PySem.W.methodObj (.ref g) (.ref x)) from Heap.get?_push_size h2 rfl)
  have hq := hq _ hqn
  have hst := hst s
  show wpAny (model P w) (A.deeper (PySem.W.ksEnv qual scope s.heap.objs.size f (.ref cda) cc)) (callWith pos (.ref h2.objs.size) [] (backTo pos (starEach (e1 :: es) (PySem.W.ksEnv qual scope s.heap.objs.size f (.ref cda) cc))) []) _ _ _
  rw [hst]
  refine callwith_met (a := x) (X := cxS CX P w K mg base N qual scope f (.ref cda) cc A outer s H E) (by show ((false || (backTo pos (starEach es _)).any (·.1)) || false) = false; rw [hpl s]; rfl) U.fi (Calls.evalArgs_plain ?_)
  have run := hta.run pos [] _ _ _ _ I3 hq
  rw [show starEach (e1 :: es) (cxS CX P w K mg base N qual scope f (.ref cda) cc A outer s H E).env = _ from hst] at run
  refine wpAny_mono run (fun us' s3 hs3 => ?_) fun _ _ z => z
  obtain ⟨vs', H4, I4, r4, hmet, hsp4⟩ := hs3
  refine ⟨met_P I4 hmet, wpAny_call (PySem.W.method_call (met_P I4 hmet).1 ?_)⟩
  refine codeAny_mono (run_fnR (us := .ref x :: us') (vs := .ref x :: vs') F ((hr.deeper _).mono hj) (hx A outer s H E) I4 (.cons rfl r4) hsp4) fun r s5 hr5 => ?_
  cases r with
  | error e => exact hr5
  | ok fl =>
    cases fl with
    | next => exact hr5.elim
    | brk => exact hr5.elim
    | cont => exact hr5.elim
    | ret u5 =>
      obtain ⟨v5, H5, I5, _, ht5⟩ := hr5
      refine PySem.wpAt_of_wpAny (wpAny_mono (ht.run [] _ _ _ _ I5 ht5) (fun fl s' hs => ?_) fun e s' hs => hs)
      have fin : ∀ {σ' : L2.St} {H' : Hp} {v : V} {u : Value}, Inv (cxS CX P w K mg base N qual scope f (.ref cda) cc A outer s H E) [] σ' H' s' → RelV v u → Q v H' → CE outer P w H s Q u s' :=
        fun {σ' H' v u} J rv q => ⟨v, H', J.os, J.bare, J.base, J.hok, rv, q⟩
      cases fl with
      | ret u =>
        obtain ⟨v, σ', H', J, rv, q⟩ := hs
        exact fin J rv q
      | next =>
        obtain ⟨σ', H', J, q⟩ := hs
        exact fin (v := V.non) (u := Value.none) J rfl q
      | brk =>
        obtain ⟨_, _, _, q⟩ := hs
        exact False.elim q
      | cont =>
        obtain ⟨_, _, _, q⟩ := hs
        exact False.elim q
end
end K8
/-! o.f as a target of several -/
namespace K8
open PySem PySem.Spec PyProof.Rows L2
def gFld (K : PySem.W.Frag) (to : TE) (f : Str) : TG := fun v σ H Q => to σ H fun x H1 => ∃ a C dx fs, x = .ref a ∧ H1 a = some (.ins C dx fs) ∧ Cls K C ∧ NoAttr K C f ∧ fs.length < 1000 ∧ Q σ (upd H1 a (.ins C dx (putF f v fs)))
theorem pg_fld {X : Cx} {o : Expr} {f : Str} {pos : Pos} {to : TE} (ho : PE X o to) : PG X (.Attribute o f pos) (gFld X.K to f) := by
  refine ⟨fun pins s σ H v u Q I r h => ?_⟩
  rw [assign_Attribute]
  refine wpAny_bind (wpAny_holding (thn (ho.run pins s σ H _ I h) fun ov s1 ⟨x, H1, I1, r1, a, C, dx, fs, ex, ea, c, n, l, q⟩ => ?_))
  subst ex
  obtain rfl : ov = Value.ref a := r1
  refine wpAny_bind (wpAny_standAt (wpAny_bind (wpAny_holding ?_)))
  exact setattr_ok I1 ea c n l r fun s3 I3 => wpAny_release ⟨σ, _, I3, q⟩
end K8
namespace K6
open PySem PySem.Spec PyProof.Rows L2 K0 K4
/-! ### fixed: lists and tuples made tuples -/
def Atm (v : V) (d : PyData) : Prop := (∃ i, v = .int i ∧ d = .int i) ∨ ∃ z, v = .str z ∧ d = .str z
/-- lists and tuples of these, to some depth, told as tuples -/
def FxN (K : PySem.W.Frag) (H : Hp) : Nat → V → PyData → Prop
  | 0, v, d => Atm v d
  | n + 1, v, d => Atm v d ∨ ∃ a xs ds, v = .ref a ∧ d = .tuple ds ∧ SqLT K H a xs ∧ xs.length ≤ 1000 ∧ xs.length = ds.length ∧ ∀ (i : Nat) x e, xs[i]? = some x → ds[i]? = some e → FxN K H n x e
/-- tuples alone -/
def FTN (H : Hp) : Nat → V → PyData → Prop
  | 0, v, d => Atm v d
  | n + 1, v, d => Atm v d ∨ ∃ a xs ds, v = .ref a ∧ d = .tuple ds ∧ TupF H a xs ∧ xs.length = ds.length ∧ ∀ (i : Nat) x e, xs[i]? = some x → ds[i]? = some e → FTN H n x e
theorem fx_same {K : PySem.W.Frag} {H H' : Hp} (s : Same H H') : ∀ {n : Nat} {v : V} {d : PyData}, FxN K H n v d → FxN K H' n v d
  | 0, _, _, h => h
  | n + 1, _, _, .inl h => .inl h
  | n + 1, _, _, .inr ⟨a, xs, ds, e1, e2, hS, hl, hl2, h⟩ => .inr ⟨a, xs, ds, e1, e2, lt_same s hS, hl, hl2, fun i x e h1 h2 => fx_same s (h i x e h1 h2)⟩
theorem ft_same {H H' : Hp} (s : Same H H') : ∀ {n : Nat} {v : V} {d : PyData}, FTN H n v d → FTN H' n v d
  | 0, _, _, h => h
  | n + 1, _, _, .inl h => .inl h
  | n + 1, _, _, .inr ⟨a, xs, ds, e1, e2, hS, hl2, h⟩ => .inr ⟨a, xs, ds, e1, e2, tf_sm s hS, hl2, fun i x e h1 h2 => ft_same s (h i x e h1 h2)⟩
theorem tf_ne {H : Hp} {D t : Addr} {xs : List V} {o : HO} (h : ∀ ob, H D ≠ some (.frz ob (.tup xs))) (g : TupF H t xs) : TupF (upd H D o) t xs := by
  obtain ⟨ob, e, r⟩ := g
  exact ⟨ob, (upd_ne fun z => h ob (by rw [← z]; exact e)).trans e, r⟩
theorem ft_upd {H : Hp} {D : Addr} {acc : List V} {o : HO} (hD : H D = some (.lst acc)) : ∀ {n : Nat} {v : V} {d : PyData}, FTN H n v d → FTN (upd H D o) n v d
  | 0, _, _, h => h
  | n + 1, _, _, .inl h => .inl h
  | n + 1, _, _, .inr ⟨a, xs, ds, e1, e2, hS, hl2, h⟩ => .inr ⟨a, xs, ds, e1, e2, tf_ne (fun o z => by rw [hD] at z; cases z) hS, hl2, fun i x e h1 h2 => ft_upd hD (h i x e h1 h2)⟩
theorem ft_ins {H : Hp} {x : Addr} {C dx : Addr} {fs : List (Str × V)} {o : HO} (hD : H x = some (.ins C dx fs)) : ∀ {n : Nat} {v : V} {d : PyData}, FTN H n v d → FTN (upd H x o) n v d
  | 0, _, _, h => h
  | n + 1, _, _, .inl h => .inl h
  | n + 1, _, _, .inr ⟨a, xs, ds, e1, e2, hS, hl2, h⟩ => .inr ⟨a, xs, ds, e1, e2, tf_ne (fun o z => by rw [hD] at z; cases z) hS, hl2, fun i x e h1 h2 => ft_ins hD (h i x e h1 h2)⟩
theorem ft_atm {H : Hp} {v : V} {d : PyData} (h : Atm v d) : ∀ {n : Nat}, FTN H n v d
  | 0 => h
  | _ + 1 => .inl h
theorem atm_dp {K : PySem.W.Frag} {H : Hp} {v : V} {d : PyData} (h : Atm v d) : Dp K H v d := by
  rcases h with ⟨i, rfl, rfl⟩ | ⟨z, rfl, rfl⟩
  · exact .int _
  · exact .str _
theorem dpa_ix {K : PySem.W.Frag} {H : Hp} : ∀ {xs : List V} {ds : List PyData}, xs.length = ds.length → (∀ (i : Nat) x e, xs[i]? = some x → ds[i]? = some e → Dp K H x e) → DpAll K H xs ds
  | [], [], _, _ => .nil
  | [], _ :: _, h, _ => by cases h
  | _ :: _, [], h, _ => by cases h
  | x :: r, e :: q, h, k => .cons (k 0 x e rfl rfl) (dpa_ix (Nat.succ.inj h) fun i y z e1 e2 => k (i + 1) y z e1 e2)
theorem ft_dp {K : PySem.W.Frag} {H : Hp} : ∀ {n : Nat} {v : V} {d : PyData}, FTN H n v d → Dp K H v d
  | 0, _, _, h => atm_dp h
  | n + 1, _, _, .inl h => atm_dp h
  | n + 1, _, _, .inr ⟨a, xs, ds, e1, e2, hS, hl2, h⟩ => by
    subst e1 e2
    exact .tup (tf_sq hS) (dpa_ix hl2 fun i x e h1 h2 => ft_dp (h i x e h1 h2))
theorem kd_atm {K : PySem.W.Frag} {H : Hp} {v : V} {d : PyData} (h : Atm v d) : ∃ n, Kd K H v n ∧ (n == "list" || n == "tuple") = false := by
  rcases h with ⟨i, rfl, rfl⟩ | ⟨z, rfl, rfl⟩
  · exact ⟨"int", ⟨.base (.int _), by decide⟩, rfl⟩
  · exact ⟨"str", ⟨.base (.str _), by decide⟩, rfl⟩
section
variable {P : Program} {w : World} {K : PySem.W.Frag} {mg : Str → Option Value} {base : Heap}
abbrev st_fixed : Stmt := top 19
abbrev nm_fixed : List Str := ["value", "item"]
theorem sc_fixed : FnScope nm_fixed ["value"] (defScope st_fixed) := ⟨rfl, rfl, rfl, by decide +kernel, rfl, by decide +kernel, by decide +kernel⟩
def spFixed (K : PySem.W.Frag) (n : Nat) : Sp := fun vs H Q _ => ∃ v d, vs = [v] ∧ FxN K H n v d ∧ ∀ H' v', Same H H' → FTN H' n v' d → Q v' H'
def spF (K : PySem.W.Frag) : Nat → Sp
  | 0 => fun _ _ _ _ => False
  | n + 1 => spFixed K n
@[irreducible] def hF (K : PySem.W.Frag) (n : Nat) : Sp := spF K n
theorem hF_eq {K : PySem.W.Frag} {n : Nat} : hF K n = spF K n := by
  unfold hF
  rfl
theorem hf_use {n : Nat} {H : Hp} {Q : VK} {E : XK} {v : V} {d : PyData} (h : FxN K H n v d) (k : ∀ H' v', Same H H' → FTN H' n v' d → Q v' H') : hF K (n + 1) [v] H Q E := by
  rw [hF_eq]
  exact ⟨v, d, rfl, h, k⟩
theorem ok_fixed {f : Addr} {fd : FuncData} (F : Fun K "fixed" "fixed" st_fixed f fd) (T : Blt mg) {n : Nat} (C_fixed : Cal P w K mg base n "fixed" st_fixed ["value"] (spF K n)) : FnOk P w K mg base CX0 (n + 1) f fd ["value"] (spF K (n + 1)) := by
  have C_fixed := cal_to' C_fixed hF_eq
  refine F.ok sc_fixed (fun vs H Q E h => ?_) (fun cdv A outer s H vs Q E hr h => ?_)
  · obtain ⟨v, d, rfl, _⟩ := h
    rfl
  · refine ⟨_, (pss_cons (ps_if (pt_val (pe_callB call_isiT (by rfl) T.n_isinstance (by decide +kernel) (pa_cons (pv 0) (pa_cons (pe_tup (pa_cons (pe_bltn (v := .ty "list") (by rfl) T.n_list (by decide +kernel) rfl) (pa_cons (pe_bltn (v := .ty "tuple") (by rfl) T.n_tuple (by decide +kernel) rfl) pa_nil))) pa_nil)))) (pss_one (ps_ret (pe_callTy (call_tupF : CallR _ (.type "tuple") (rTupF K)) (by rfl) T.n_tuple (by decide +kernel) (pa_cons (pe_lc (own := [("item", 1)]) (g := (gName 1)) (tt := tYes) rfl sc_fixed.nd (pi_lt (pv 0)) (blkOk_by (N := nm_fixed) (sc := defScope st_fixed) (own := [("item", 1)]) (by decide +kernel)) (fun _ _ _ _ _ => by exact pg_name (i := 1) sc_fixed.nd rfl (Or.inl rfl)) (fun _ _ _ _ _ => pts_nil) (fun _ _ _ _ _ => (pe_cl C_fixed hr rfl (pa_cons (pv 1) pa_nil)))) pa_nil)))) pss_nil)
  (pss_one (ps_ret (pv 0)))), ?_⟩
    obtain ⟨v, d, rfl, hv, q⟩ := h
    have isi : ∀ (t : String), Kd K H v t → PySem.W.kitAny K (.type t) [.type "list", .type "tuple"] = some (t == "list" || t == "tuple") := fun t kd => by
      obtain ⟨_, _, _, k4, k5⟩ := kd_kit (K := K) kd.2
      refine kitAny_cons k4 (fun e => ?_) (fun e => by rw [e]; rfl)
      rw [e, Bool.false_or]
      exact kitAny_cons k5 (fun e2 => by rw [e2]; exact kitAny_nil) (fun e2 => e2)
    have hk : ∃ t, Kd K H v t ∧ (((t == "list" || t == "tuple") = false ∧ Atm v d) ∨ ((t == "list" || t == "tuple") = true ∧ ∃ m a xs ds, n = m + 1 ∧ v = .ref a ∧ d = .tuple ds ∧ SqLT K H a xs ∧ xs.length ≤ 1000 ∧ xs.length = ds.length ∧ ∀ (i : Nat) x e, xs[i]? = some x → ds[i]? = some e → FxN K H m x e)) := by
      have atm : Atm v d → ∃ t, Kd K H v t ∧ (((t == "list" || t == "tuple") = false ∧ Atm v d) ∨ ((t == "list" || t == "tuple") = true ∧ ∃ m a xs ds, n = m + 1 ∧ v = .ref a ∧ d = .tuple ds ∧ SqLT K H a xs ∧ xs.length ≤ 1000 ∧ xs.length = ds.length ∧ ∀ (i : Nat) x e, xs[i]? = some x → ds[i]? = some e → FxN K H m x e)) := fun ha => by
        obtain ⟨t, k1, k2⟩ := kd_atm (K := K) (H := H) ha
        exact ⟨t, k1, .inl ⟨k2, ha⟩⟩
      cases n with
      | zero => exact atm hv
      | succ m =>
        rcases hv with ha | ⟨a, xs, ds, e1, e2, hS, hl, hl2, hx⟩
        · exact atm ha
        · subst e1
          obtain ⟨t, k1, k2⟩ := kd_l hS
          exact ⟨t, k1, .inr ⟨k2, m, a, xs, ds, rfl, rfl, e2, hS, hl, hl2, hx⟩⟩
    obtain ⟨t, kd, hc⟩ := hk
    refine ⟨_, rfl, (by show 2 ≤ sizeLine; decide), fun p hp => ?_⟩
    refine ⟨v, p, _, _, _, (t == "list" || t == "tuple"), rfl, upd_same, .cons (.ty "list") (.cons (.ty "tuple") .nil), tyx_same (Sm.new hp) kd.1, isi t kd, ?_⟩
    have s0 : Same H (upd H p (.tup [.ty "list", .ty "tuple"])) := Sm.new hp
    rcases hc with ⟨hf, ha⟩ | ⟨ht, m, a, xs, ds, rfl, rfl, rfl, hS, hl, hl2, hx⟩
    · refine ⟨_, rfl, ?_⟩
      rw [hf]
      exact iteF ⟨_, rfl, q _ _ s0 (ft_atm ha)⟩
    · refine ⟨_, rfl, ?_⟩
      rw [ht]
      refine iteT ?_
      generalize upd H p (.tup [.ty "list", .ty "tuple"]) = H1 at s0 ⊢
      have inv0 : ∀ D, H1 D = none → ∃ acc, (upd H1 D (.lst [])) D = some (.lst acc) ∧ acc.length = 0 ∧ ∀ (j : Nat) y e, acc[j]? = some y → ds[j]? = some e → FTN (upd H1 D (.lst [])) m y e := fun D hD => ⟨[], upd_same, rfl, fun j y e h => by cases h⟩
      have turn : ∀ D, H1 D = none → ∀ i y H2, (Same H1 H2 ∧ ∃ acc, H2 D = some (.lst acc) ∧ acc.length = i ∧ ∀ (j : Nat) y e, acc[j]? = some y → ds[j]? = some e → FTN H2 m y e) → xs[i]? = some y → ∀ (Q' : VK) (E' : XK),
          (∀ H3 v', (∃ acc, H3 D = some (.lst acc) ∧ acc.length < sizeLine ∧ (Same H1 (upd H3 D (.lst (acc ++ [v']))) ∧ ∃ acc', (upd H3 D (.lst (acc ++ [v']))) D = some (.lst acc') ∧ acc'.length = i + 1 ∧ ∀ (j : Nat) y e, acc'[j]? = some y → ds[j]? = some e → FTN (upd H3 D (.lst (acc ++ [v']))) m y e)) → Q' v' H3) → hF K (m + 1) [y] H2 Q' E' := by
        rintro D hD i y H2 ⟨p1, acc, hacc, hal, hft⟩ hy Q' E' k
        have hi := (List.getElem?_eq_some_iff.mp hy).1
        have hdi := List.getElem?_eq_getElem (show i < ds.length by omega)
        refine hf_use (fx_same (s0.trans p1) (hx i y _ hy hdi)) fun H3 v' s3 hv' => k H3 v' ⟨acc, s3 _ _ hacc, ?_, Sm.put (p1.trans s3) hD, acc ++ [v'], upd_same, ?_, fun j z e hz he => ?_⟩
        · rw [hal]
          exact Nat.lt_of_lt_of_le (show i < 100000 by omega) (by decide)
        · rw [List.length_append, hal]
          rfl
        · rcases Nat.lt_or_ge j acc.length with g | g
          · rw [List.getElem?_append_left g] at hz
            exact ft_upd (s3 _ _ hacc) (ft_same s3 (hft j z e hz he))
          · rw [List.getElem?_append_right g] at hz
            have hj : j - acc.length = 0 := by
              have := (List.getElem?_eq_some_iff.mp hz).1
              simpa using this
            rw [hj] at hz
            obtain rfl := Option.some.inj hz
            have : j = i := by omega
            subst this
            rw [hdi] at he
            obtain rfl := Option.some.inj he
            exact ft_upd (s3 _ _ hacc) hv'
      have fin : ∀ D H2, (Same H1 H2 ∧ ∃ acc, H2 D = some (.lst acc) ∧ acc.length = xs.length ∧ ∀ (j : Nat) y e, acc[j]? = some y → ds[j]? = some e → FTN H2 m y e) → rTupF K [V.ref D] H2 Q := by
        rintro D H2 ⟨p1, acc, hacc, hal, hft⟩
        refine ⟨D, acc, rfl, SqL.of hacc, fun l o hl od oc => ?_⟩
        exact q _ _ ((s0.trans p1).trans (Sm.new hl)) (.inr ⟨l, acc, ds, rfl, rfl, ⟨o, upd_same, od, oc⟩, by omega, fun j y e h1 h2 => ft_same (Sm.new hl) (hft j y e h1 h2)⟩)
      rcases lt_same s0 hS with h | h
      · refine .inl ⟨_, rfl, a, rfl, ⟨_, h⟩, fun D hD => ?_⟩
        refine lc_it walk_list (fun i H' => Same H1 H' ∧ ∃ acc, H' D = some (.lst acc) ∧ acc.length = i ∧ ∀ (j : Nat) y e, acc[j]? = some y → ds[j]? = some e → FTN H' m y e) ⟨Sm.new hD, inv0 D hD⟩ (fun i H3 _ p => sm_l p.1 h) ?_ (fun H4 p => fin D H4 p)
        rintro i y H3 H4 hi p ⟨rfl, hy⟩
        exact ⟨rfl, _, rfl, turn D hD i y _ p hy _ _ fun H5 v' z => z⟩
      · refine .inr ⟨_, rfl, a, rfl, ⟨_, h⟩, fun D hD => ?_⟩
        refine lc_it walk_tup (fun i H' => Same H1 H' ∧ ∃ acc, H' D = some (.lst acc) ∧ acc.length = i ∧ ∀ (j : Nat) y e, acc[j]? = some y → ds[j]? = some e → FTN H' m y e) ⟨Sm.new hD, inv0 D hD⟩ (fun i H3 _ p => sm_t p.1 h) ?_ (fun H4 p => fin D H4 p)
        rintro i y H3 H4 hi p ⟨rfl, hy⟩
        exact ⟨rfl, _, rfl, turn D hD i y _ p hy _ _ fun H5 v' z => z⟩
end
end K6
namespace K6
open PySem PySem.Spec PyProof.Rows L2 K0 K4
section
variable {P : Program} {w : World} {K : PySem.W.Frag} {mg : Str → Option Value} {base : Heap}
variable {cs : Nat → Addr} {C : Addr}
/-! ### a paper's kind and parts -/
abbrev st_Paper____init__ : Stmt := inClass (top 21) 0
abbrev nm_Paper____init__ : List Str := ["self", "kind", "parts"]
theorem sc_Paper____init__ : FnScope nm_Paper____init__ ["self", "kind", "parts"] (defScope st_Paper____init__) := ⟨rfl, rfl, rfl, by decide +kernel, rfl, by decide +kernel, by decide +kernel⟩
/-- a class whose instances have kind and parts -/
structure PapC (K : PySem.W.Frag) (C : Addr) : Prop where
  c : Cls K C
  f1 : NoAttr K C "kind"
  f2 : NoAttr K C "parts"
theorem fx_kx {x dx : Addr} {fs : List (Str × V)} {H H' : Hp} (hx : H x = some (.ins C dx fs)) (k : KX x H H') : ∀ {n : Nat} {v : V} {d : PyData}, FxN K H n v d → FxN K H' n v d
  | 0, _, _, h => h
  | n + 1, _, _, .inl h => .inl h
  | n + 1, _, _, .inr ⟨a, xs, ds, e1, e2, hS, hl, hl2, h⟩ => .inr ⟨a, xs, ds, e1, e2, hS.imp (sql_kx hx k) (sqt_kx hx k), hl, hl2, fun i x e h1 h2 => fx_kx hx k (h i x e h1 h2)⟩
def spPaperI (K : PySem.W.Frag) : Sp := fun vs H Q _ => ∃ x C dx k p d, vs = [.ref x, .str k, .ref p] ∧ PapC K C ∧ H x = some (.ins C dx []) ∧ FxN K H 3 (.ref p) d ∧
  ∀ H' v, H' x = some (.ins C dx [("kind", .str k), ("parts", v)]) → (∀ c o, c ≠ x → H c = some o → H' c = some o) → FTN H' 3 v d → Q .non H'
theorem ok_Paper_init {f : Addr} {fd : FuncData} (F : Fun K "__init__" "Paper.__init__" st_Paper____init__ f fd) (T : Blt mg) (C_fixed : Cal P w K mg base 4 "fixed" st_fixed ["value"] (spF K 4)) :
    FnR P w K mg base CX0 5 f (fun vs H Q E => ∃ ws rest, vs = ws ++ rest ∧ ws.length = ["self", "kind"].length ∧ rest.length ≤ sizeLine ∧ ∀ p, H p = none → spPaperI K (ws ++ [V.ref p]) (upd H p (.tup rest)) Q E) := by
  have C_fixed := cal_to' C_fixed hF_eq
  obtain ⟨oc, od, kV, doc, pm, an, cdv, ct, osl, rfl, lk, hcd⟩ := F.ex
  refine StX.fn_star (k := 4) (ps := ["self", "kind"]) (pv := "parts") lk hcd sc_Paper____init__ StX.cxUp_none (StX.bind_star2 (B := fun l => bindArgs (PySem.W.fnOf "__init__" "Paper.__init__" (defArgs st_Paper____init__) (defBody st_Paper____init__) (defScope st_Paper____init__) .none kV doc pm an cdv ct) ⟨l, []⟩) (p1 := "self") (p2 := "kind") (pv := "parts") (fun a b => rfl) (fun a b r rs => rfl)) fun A outer s H vs Q E hr h => ?_
  have key : ∃ t, PSs (cxOf CX0 P w K mg base nm_Paper____init__ "Paper.__init__" (defScope st_Paper____init__) f cdv A outer s H E).nox (defBody st_Paper____init__) t ∧ t { nx := fun _ H' => Q .non H', rt := Q } (L2.start nm_Paper____init__ vs) H := by
    refine ⟨_, (pss_cons (ps_fld (pv 0) (pv 1) rfl)
  (pss_one (ps_fld (pv 0) (pe_cl C_fixed (hr.mono (by decide)) rfl (pa_cons (pv 2) pa_nil)) rfl))), ?_⟩
    obtain ⟨x, C, dx, k, p, d, rfl, S, hx, hf, q⟩ := h
    refine ⟨_, rfl, _, rfl, x, C, dx, [], rfl, hx, S.c, S.f1, (by decide), ?_⟩
    have hx1 : (upd H x (.ins C dx (putF "kind" (.str k) []))) x = some (.ins C dx [("kind", .str k)]) := upd_same
    have hf1 := fx_kx hx (KX.put (o := .ins C dx (putF "kind" (.str k) []))) hf
    have k1 : KX x H (upd H x (.ins C dx (putF "kind" (.str k) []))) := KX.put
    generalize (upd H x (.ins C dx (putF "kind" (.str k) []))) = H1 at hx1 hf1 k1 ⊢
    refine ⟨_, rfl, hf_use hf1 fun H2 v s2 hv => ⟨_, rfl, x, C, dx, _, rfl, s2 _ _ hx1, S.c, S.f2, (by show 1 < 1000; decide), ?_⟩⟩
    have hx2 := s2 _ _ hx1
    exact q _ v upd_same ((k1.trans (KX.sm s2)).trans KX.put) (ft_ins hx2 hv)
  obtain ⟨t, h1, h2⟩ := key
  exact ⟨t, h1.nox, h2⟩
end
end K6
namespace K6
open PySem PySem.Spec PyProof.Rows L2 K0 K4
/-- a def that stands in a class and says super() -/
structure FunS (K : PySem.W.Frag) (x qual : Str) (st : Stmt) (f cda cc : Addr) (fd : FuncData) : Prop where
  ex : ∃ (oc : Value) (od : Option Addr) (kV doc pm : Value) (an : Option Addr) (ct : Value) (osl : Array (Option Value)),
    fd = PySem.W.ksFn x qual (defArgs st) (defBody st) (defScope st) .none kV doc pm an (.ref cda) ct cc ∧ K.lookup f = some ⟨oc, od, .func fd, osl⟩ ∧ PySem.W.codeIn K (.ref cda) qual = true
end K6
namespace K6
open PySem PySem.Spec PyProof.Rows L2 K0 K4
def dInts (l : List Nat) : PyData := .tuple (l.map fun n => .int (n : Nat))
end K6
namespace K6
open PySem PySem.Spec PyProof.Rows L2 K0 K4
/-! ### the law's reel -/
def RlAt (H : Hp) (p : Addr) (T : Nat) : Prop := ∃ w t m : Int, H p = some (.lst [.int w, .int t, .int m]) ∧ 0 ≤ t ∧ t ≤ T ∧ 0 ≤ m ∧ m < 2147483249 ∧ 0 ≤ w
end K6
namespace K6
open PySem PySem.Spec PyProof.Rows L2 K0 K4
theorem at_in {α : Type} {xs : List α} {i : Int} (h0 : 0 ≤ i) (h1 : i < xs.length) : ∃ v, v ∈ xs ∧ atI xs i = some v ∧ xs[i.toNat]? = some v := by
  have hlt : i.toNat < xs.length := by omega
  refine ⟨xs[i.toNat], List.getElem_mem hlt, ?_, List.getElem?_eq_getElem hlt⟩
  have q := atI_nat (xs := xs) (j := i.toNat) (v := xs[i.toNat]) (List.getElem?_eq_getElem hlt)
  rw [Int.toNat_of_nonneg h0] at q
  exact q
section
variable {P : Program} {w : World} {K : PySem.W.Frag} {mg : Str → Option Value} {base : Heap}
abbrev nm_l_pick : List Str := ["_law_reel_here", "_law_some"]
def spPick (K : PySem.W.Frag) : Sp := fun vs H Q _ => ∃ (p : Addr) (s : V) (T : Nat), vs = [.ref p, s] ∧ RlAt H p T ∧ T < 1000000 ∧
  ((∃ a xs, s = .ref a ∧ SqL K H a xs ∧ a ≠ p ∧ 1 ≤ xs.length ∧ xs.length ≤ 1000 ∧ ∀ H' v, KX p H H' → RlAt H' p (T + 1) → v ∈ xs → Q v H') ∨
   ∃ l : List Nat, s = .str (Tx l) ∧ 1 ≤ l.length ∧ l.length ≤ 1000 ∧ ∀ H' c, KX p H H' → RlAt H' p (T + 1) → c ∈ l → Q (.str (Tx [c])) H')
end
end K6
namespace K6
open PySem PySem.Spec PyProof.Rows L2 K0 K4
theorem rcut_from {xs : List V} (k : Nat) : cutV xs (some (k : Nat)) none = xs.drop k := by
  unfold cutV
  rw [HT.sIx_none, HT.sIx_nat]
  rcases Nat.lt_or_ge k xs.length with h | h
  · rw [Nat.min_eq_left (by omega), List.take_of_length_le (by rw [List.length_drop]; omega)]
  · rw [Nat.min_eq_right h, List.drop_of_length_le (by omega), List.drop_of_length_le h, List.take_nil]
theorem rcut_to {xs : List V} (k : Nat) : cutV xs none (some (k : Nat)) = xs.take k := by
  unfold cutV
  rw [HT.sIx_none, HT.sIx_nat, List.drop_zero, Nat.sub_zero]
  rcases Nat.lt_or_ge k xs.length with h | h
  · rw [Nat.min_eq_left (by omega)]
  · rw [Nat.min_eq_right h, List.take_of_length_le (Nat.le_refl _), List.take_of_length_le h]
end K6
namespace K6
open PySem PySem.Spec PyProof.Rows L2 K0 K4
end K6
namespace K6
open PySem PySem.Spec PyProof.Rows L2 K0 K4
/-- cells of so many signs -/
def RowOk (many n : Nat) (r : List (List Nat)) : Prop := r.length = many ∧ ∀ l ∈ r, l.length = n ∧ ∀ c ∈ l, (isaz c || decide (c = 45)) = true
def RowsOk (many : Nat) (sh : List Nat) (ws : List (List (List Nat))) : Prop := ws.length = sh.length ∧ ∀ (i : Nat) n r, sh[i]? = some n → ws[i]? = some r → RowOk many n r
end K6
namespace K6
open PySem PySem.Spec PyProof.Rows L2 K0 K4
theorem hu65 {A : Around} {k : Nat} (hr : Room k A) : A.units + 65 < cLine := by
  have := hr.un
  omega
section
variable {α : Type} [DecidableEq α]
def uqA (acc : List α) (c : α) : List α := if c ∈ acc then acc else acc ++ [c]
def uniqA (l : List α) : List α := l.foldl uqA []
/-- each thing's number by where it first stands -/
def zeroA (l : List α) : List Nat := l.map fun c => (uniqA l).idxOf c
theorem foldA_mem : ∀ (cl acc : List α) (c : α), c ∈ cl.foldl uqA acc ↔ c ∈ acc ∨ c ∈ cl
  | [], acc, c => by simp
  | d :: r, acc, c => by
    rw [List.foldl_cons, foldA_mem r (uqA acc d) c]
    unfold uqA
    split
    · rename_i hd
      constructor
      · rintro (h | h)
        · exact .inl h
        · exact .inr (List.mem_cons_of_mem _ h)
      · rintro (h | h)
        · exact .inl h
        · rcases List.mem_cons.mp h with rfl | h
          · exact .inl hd
          · exact .inr h
    · rw [List.mem_append, List.mem_singleton, List.mem_cons, or_assoc]
theorem uniqA_mem {cl : List α} {c : α} : c ∈ uniqA cl ↔ c ∈ cl := by
  unfold uniqA
  rw [foldA_mem]
  simp
theorem uqA_nodup {acc : List α} {c : α} (h : acc.Nodup) : (uqA acc c).Nodup := by
  unfold uqA
  split
  · exact h
  · rename_i hc
    rw [List.nodup_append]
    exact ⟨h, by simp, fun a ha b hb => by
      rw [List.mem_singleton.mp hb]
      exact fun z => hc (z ▸ ha)⟩
theorem foldA_nodup : ∀ (cl acc : List α), acc.Nodup → (cl.foldl uqA acc).Nodup
  | [], _, h => h
  | c :: r, acc, h => foldA_nodup r (uqA acc c) (uqA_nodup h)
theorem uniqA_nodup (cl : List α) : (uniqA cl).Nodup := foldA_nodup cl [] List.nodup_nil
theorem idxA_get {l : α} : ∀ {names : List α}, l ∈ names → names[names.idxOf l]? = some l
  | a :: r, h => by
    rw [List.idxOf_cons]
    by_cases e : a = l
    · rw [show (a == l) = true from beq_iff_eq.mpr e]
      exact congrArg some e
    · rw [show (a == l) = false from beq_eq_false_iff_ne.mpr e]
      exact idxA_get (names := r) ((List.mem_cons.mp h).resolve_left fun z => e z.symm)
end
end K6
namespace K6
open PySem PySem.Spec PyProof.Rows L2 K0 K4
end K6
namespace K6
open PySem PySem.Spec PyProof.Rows L2 K0 K4
end K6
namespace K6
open PySem PySem.Spec PyProof.Rows L2 K0 K4
/-! ### what the numbers of things by their first places depend on -/
section
variable {α β : Type} [DecidableEq α] [DecidableEq β]
theorem zeroA_len (l : List α) : (zeroA l).length = l.length := List.length_map _
theorem idxA_inj {u : List α} {a b : α} (ha : a ∈ u) (hb : b ∈ u) (e : u.idxOf a = u.idxOf b) : a = b := by
  have h1 := idxA_get ha
  have h2 := idxA_get hb
  rw [e, h2] at h1
  exact (Option.some.inj h1).symm
/-- equal numbers: equal things -/
theorem zeroA_iff {l : List α} {i j : Nat} {a b : α} {m n : Nat} (hi : l[i]? = some a) (hj : l[j]? = some b) (zi : (zeroA l)[i]? = some m) (zj : (zeroA l)[j]? = some n) : m = n ↔ a = b := by
  unfold zeroA at zi zj
  rw [List.getElem?_map, hi] at zi
  rw [List.getElem?_map, hj] at zj
  obtain rfl := Option.some.inj zi
  obtain rfl := Option.some.inj zj
  exact ⟨fun e => idxA_inj (uniqA_mem.mpr (List.mem_of_getElem? hi)) (uniqA_mem.mpr (List.mem_of_getElem? hj)) e, fun e => by rw [e]⟩
end
end K6
namespace K6
open PySem PySem.Spec PyProof.Rows L2 K0 K4
/-! ### sheets beside one another: their columns, their zero mothers -/
theorem zeroL_A (cl : List (List Nat)) : zeroL cl = zeroA cl := by
  have hu : ∀ (l acc : List (List Nat)), l.foldl uq acc = l.foldl uqA acc := by
    intro l
    induction l with
    | nil => exact fun _ => rfl
    | cons c r ih =>
      intro acc
      rw [List.foldl_cons, List.foldl_cons, ih]
      congr 1
      unfold uq uqA
      by_cases h : c ∈ acc
      · rw [if_pos h, if_pos h]
      · rw [if_neg h, if_neg h]
  have : uniq cl = uniqA cl := hu cl []
  unfold zeroL zeroA
  rw [this]
  refine List.map_congr_left fun c hc => ?_
  have hm : c ∈ uniqA cl := uniqA_mem.mpr hc
  have h1 := idxA_get hm
  have hn := uniqA_nodup cl
  obtain ⟨hl, e⟩ := List.getElem?_eq_some_iff.mp h1
  have h2 : (uniqA cl).idxOf c = (uniqA cl).idxOf c := rfl
  exact idx_at hn (by rw [h1])
end K6
namespace K6
/-! ### numberings in the order in which their numbers first stand -/
theorem getD_some {l : List Nat} {k s : Nat} (h : l[k]? = some s) : l.getD k 0 = s := by
  rw [List.getD_eq_getElem?_getD, h]
  rfl
/-! ### all dyeings -/
end K6
namespace K7Y
open PySem PySem.Spec PyProof.Rows L2
/-! zip(t, u) of two tuples (any number of them), its tuples kept -/
abbrev ZipO (h : Heap) (z TI TO : Addr) (f0 : Value) (b : Bool) : Prop :=
  h.get? z = some { cls := .type "zip", dict := none, data := .fields #[f0, .bool b, .bool false, .ref TI, .ref TO], slots := #[] }
abbrev TupO (h : Heap) (T : Addr) (xs : Array Value) : Prop := h.get? T = some { cls := .type "tuple", data := .seq xs }
def itsOf (N n : Nat) : List Value := (List.range n).map fun k => .ref (N + k)
def Mix (N : Nat) (zs : List (Addr × Array Value)) (m i : Nat) (h : Heap) : Prop := ∀ k z, zs[k]? = some z → (z.1 : Nat) < N ∧ h.IsTupleIter (N + k) z.1 (if k < m then i + 1 else i) ∧ h.IsTuple z.1 z.2
theorem Mix.ext {N m i : Nat} {zs : List (Addr × Array Value)} {h h' : Heap} (M : Mix N zs m i h) (e : ∀ (b : Nat) o, b < N + zs.length → h.get? b = some o → h'.get? b = some o) : Mix N zs m i h' := fun k z hk => by
  obtain ⟨h0, h1, h2⟩ := M k z hk
  have hl : k < zs.length := (List.getElem?_eq_some_iff.mp hk).1
  exact ⟨h0, h1.at fun o q => e (N + k) o (Nat.add_lt_add_left hl N) q, h2.at fun o q => e z.1 o (Nat.lt_of_lt_of_le h0 (Nat.le_add_right _ _)) q⟩
/-- what stands at one place of all of them -/
def SgnAt (zs : List (Addr × Array Value)) (i : Nat) (m : Nat) (arr : List Value) : Prop := ∀ k z, k < m → zs[k]? = some z → ∃ v, z.2[i]? = some v ∧ arr[k]? = some v
theorem SgnAt.snoc {zs : List (Addr × Array Value)} {i m : Nat} {arr : List Value} (h : SgnAt zs i m arr) {z : Addr × Array Value} {v : Value} (hz : zs[m]? = some z) (hc : z.2[i]? = some v) (ha : arr[m]? = some v) : SgnAt zs i (m + 1) arr := fun k z' hk hz' => by
  rcases Nat.lt_succ_iff_lt_or_eq.mp hk with q | q
  · exact h k z' q hz'
  · subst q
    rw [hz] at hz'
    cases hz'
    exact ⟨v, hc, ha⟩
section
variable {prog : Program} {w : World} {A : Around} {E : Value → Shared → Prop} {s : Shared} {N n i : Nat} {zs : List (Addr × Array Value)}
/-- what the zip's first field may be: nothing, or the number of a tuple that it gave out -/
def F0 (f0 : Value) : Prop := f0 = .none ∨ ∃ a : Nat, f0 = rawInt a
/-- where the zip stands ahead of turn i -/
def ZSt (N n : Nat) (zs : List (Addr × Array Value)) (i : Nat) (h : Heap) : Prop := ∃ f0 b, F0 f0 ∧ ZipO h (N + n + 2) (N + n) (N + n + 1) f0 b ∧ TupO h (N + n) (itsOf N n).toArray ∧ (∃ arr, arr.size = n ∧ TupO h (N + n + 1) arr) ∧ Mix N zs 0 i h
theorem Mix.all {h : Heap} (hn : zs.length = n) (M : Mix N zs n i h) : Mix N zs 0 (i + 1) h := fun k z hk => by
  have hl : k < n := by rw [← hn]; exact (List.getElem?_eq_some_iff.mp hk).1
  have := M k z hk
  rw [if_pos hl] at this
  rw [if_neg (Nat.not_lt_zero _)]
  exact this
end
end K7Y
namespace K7Y
open PySem PySem.Spec PyProof.Rows L2
/-! list(zip(t, u)): the list, its pairs -/
/-- the first i tuples of a zip, kept behind B -/
def Lz (B n : Nat) (zs : List (Addr × Array Value)) (i : Nat) (acc : Array Value) (h : Heap) : Prop := ∃ ts : List Nat, ts.length = i ∧ acc.toList = ts.map (fun (t : Nat) => Value.ref t) ∧ ts.Nodup ∧ (∀ t ∈ ts, B < t) ∧
  ∀ (j t : Nat), ts[j]? = some t → ∃ xs, SgnAt zs j n xs ∧ xs.length = n ∧ TupO h t xs.toArray
theorem Lz.keep {B n i : Nat} {zs : List (Addr × Array Value)} {acc : Array Value} {h h' : Heap} (x : Lz B n zs i acc h) (k : ∀ (c : Nat) o, B < c → h.get? c = some o → h'.get? c = some o) : Lz B n zs i acc h' := by
  obtain ⟨ts, e1, e2, e3, e4, e5⟩ := x
  exact ⟨ts, e1, e2, e3, e4, fun j t ht => let ⟨xs, a, b, c⟩ := e5 j t ht; ⟨xs, a, b, k t _ (e4 t (List.mem_of_getElem? ht)) c⟩⟩
theorem ZSt.ext {N n i : Nat} {zs : List (Addr × Array Value)} {h h' : Heap} (hn : zs.length = n) (x : ZSt N n zs i h) (k : ∀ (c : Nat) o, c < N + n + 3 → h.get? c = some o → h'.get? c = some o) : ZSt N n zs i h' := by
  obtain ⟨f0, b, hf, hz, hTI, ⟨arr, ha, hTO⟩, M⟩ := x
  exact ⟨f0, b, hf, k (N + n + 2) _ (by omega) hz, k (N + n) _ (by omega) hTI, ⟨arr, ha, k (N + n + 1) _ (by omega) hTO⟩, M.ext fun c o hc q => k c o (by omega) q⟩
end K7Y
/-! max(t), t a tuple of ints; o.m(..) by what is known of the class -/
/-! t.index(n), t a tuple of ints whose object is known -/
namespace K6
open PySem PySem.Spec PyProof.Rows L2 K0 K4
/-! ### what the law asks of a whole sheet, in short -/
section
variable {P : Program} {w : World} {K : PySem.W.Frag} {mg : Str → Option Value} {base : Heap}
variable {cs : Nat → Addr} {C Z : Addr}
/-- a whole sheet that can be asked of -/
structure Wsh (K : PySem.W.Frag) (C : Addr) (H : Hp) (x : Addr) (names : List (List Nat)) (ws : List (List (List Nat))) : Prop where
  at_ : SheetAt K C H x names (whole ws)
  ok : ShOk names (whole ws)
theorem Wsh.sm {H H' : Hp} {x : Addr} {names : List (List Nat)} {ws : List (List (List Nat))} (s : Same H H') (h : Wsh K C H x names ws) : Wsh K C H' x names ws := ⟨sheet_kx (y := x) s h.at_, h.ok⟩
end
end K6
namespace K6
open PySem PySem.Spec PyProof.Rows L2 K0 K4
end K6
namespace K6
open PySem PySem.Spec PyProof.Rows L2 K0 K4
/-! ### rows picked, put behind, doubled; languages in another order -/
/-- pieces of anything -/
def pA {α : Type} (sh : List Nat) (f : List α) (o : List Nat) : List α := o.flatMap fun r => (f.drop (sh.take r).sum).take (sh.getD r 0)
end K6
namespace K6
open PySem PySem.Spec PyProof.Rows L2 K0 K4
/-! ### the law's sheets are right ones -/
end K6
namespace K6
open PySem PySem.Spec PyProof.Rows L2 K0 K4
/-! ### the law's own columns -/
end K6
namespace K6
open PySem PySem.Spec PyProof.Rows L2 K0 K4
/-! ### a try that an error always leaves, caught under a name, and what comes behind it: the error stays known -/
end K6
namespace K6
open PySem PySem.Spec PyProof.Rows L2 K0 K4
/-! ### a known error asked of: isinstance, its fields -/
section
variable {P : Program} {w : World} {K : PySem.W.Frag} {mg : Str → Option Value} {base : Heap}
variable {cs : Nat → Addr} {C : Addr}
/-! ### what is heard of a call that is refused -/
theorem takes_len {X : Cx} {W : WX} (t : Takes X W) : Takes X (fun cls d σ H => σ.length = X.N.length → W cls d σ H) := fun u s' ⟨a, B, sI, pins, σ, H, cls, d, e, I, nb, up, sky, na, os, ag, w⟩ =>
  t u s' ⟨a, B, sI, pins, σ, H, cls, d, e, I, nb, up, sky, na, os, ag, w I.len⟩
abbrev nm_l_heard : List Str := ["_law_act", "_law_caught", "error"]
end
end K6
namespace K6
open PySem PySem.Spec PyProof.Rows L2 K0 K4
/-! ### promises of a def that is called where nothing is being shown (repr wants to know it) -/
structure FnG (P : Program) (w : World) (K : PySem.W.Frag) (mg : Str → Option Value) (base : Heap) (CX : CXT) (k : Nat) (f : Addr) (fd : FuncData) (ps : List Str) (sp : Sp) : Prop where
  len : ∀ vs H Q E, sp vs H Q E → vs.length = ps.length
  run : ∀ (A : Around) (outer : List Env) (s : Shared) (H : Hp) (args : Args) (us : List Value) (vs : List V) (Q : VK) (E : XK), A.guards = some [] → Room k A → Env0 P w K mg base A outer s H → BindsTo s fd args (ps.zip us) → Vals vs us → sp vs H Q E →
    codeAny (model P w) A (.call (.ref f) args) (CR CX outer P w H s Q E) s
theorem code_of {K : PySem.W.Frag} {x : Str} {f c T : Addr} {oc : Value} {od : Option Addr} {fd : FuncData} {osl : Array (Option Value)} (hn : PySem.W.nsIn K mainGlobals x = some (some (.ref f))) (lk : K.lookup f = some ⟨oc, od, .func fd, osl⟩) (ht : PySem.W.tabIn K x = some (c, T)) : fd.code = .ref c := by
  unfold PySem.W.tabIn at ht
  rw [hn] at ht
  dsimp only at ht
  rw [lk] at ht
  dsimp only at ht
  split at ht
  · rename_i c2 hc
    split at ht
    · split at ht
      · cases ht
        exact hc
      · cases ht
    · cases ht
  · cases ht
section
variable {P : Program} {w : World} {K : PySem.W.Frag} {mg : Str → Option Value} {base : Heap}
/-- a def's promise from its body's reading, its code object known or not -/
theorem fnG_of {CX : CXT} {k : Nat} {f : Addr} {name qual : Str} {params : Arguments} {body : List Stmt} {scope : Scope} {dV kV doc pm cdv ct oc : Value} {an od : Option Addr}
    {osl : Array (Option Value)} {N ps : List Str} {sp : Sp} (lk : K.lookup f = some ⟨oc, od, .func (PySem.W.fnOf name qual params body scope dV kV doc pm an cdv ct), osl⟩) (hcd : PySem.W.codeIn K cdv qual = true) (S : FnScope N ps scope)
    (len : ∀ vs H Q E, sp vs H Q E → vs.length = ps.length)
    (hbody : ∀ (A : Around) (outer : List Env) (s : Shared) (H : Hp) (vs : List V) (Q : VK) (E : XK), A.guards = some [] → Room k (A.deeper (envOfC qual scope s.heap.objs.size f cdv)) → sp vs H Q E →
      ∃ t, PSs (cxOf CX P w K mg base N qual scope f cdv A outer s H E) body t ∧ t { nx := fun _ H' => Q .non H', rt := Q } (L2.start N vs) H) :
    FnG P w K mg base CX (k + 1) f (PySem.W.fnOf name qual params body scope dV kV doc pm an cdv ct) ps sp := by
  refine ⟨len, fun A outer s H args us vs Q E hgd hr e0 hb r hsp => ?_⟩
  have hl := len _ _ _ _ hsp
  have KX : K.In s.heap := e0.mod.kin.keeps fun b o e => (e0.bs b o e).1
  have lim : s.heap.NoLimit := e0.mod.nolimit.keeps fun b o e => (e0.bs b o e).1
  have hkind : ∀ y ∈ ps.zip us, scope.names.lookup y.1 = some .local ∨ (scope.names.lookup y.1 = some .cell ∧ ((cellsFrom (s.heap.objs.size + 1) scope.names []).lookup y.1).isSome = true) := fun ⟨n, v⟩ hy => by
    rcases S.par n (List.of_mem_zip hy).1 with q | q
    · exact .inl q
    · exact .inr ⟨q, PySem.W.cellsFrom_some _ _ _ (.inl q)⟩
  refine codeAny_call_function hr.depth (KX _ _ lk) rfl S.co S.gen rfl (PySem.W.codeRec_of KX hcd) (hb _ _ _ _ ?_)
  refine wpAny_newFunctionEnv_cells S.kind hkind fun env he s1 x => ?_
  subst he
  refine ⟨lim.keeps x.toInCall.keep, codeAny_func ?_⟩
  obtain ⟨t, ht, hq⟩ := hbody A outer s H vs Q E hgd (hr.deeper _) hsp
  have I : Inv (cxOf CX P w K mg base N qual scope f cdv A outer s H E) [] (L2.start N vs) H s1 := inv_start S hr.hd e0 hl r x
  refine wpAny_mono (ht.run [] s1 (L2.start N vs) H _ I hq) (fun fl s' hs => ?_) fun e s' hs => hs
  cases fl with
  | ret u =>
    obtain ⟨v, σ', H', J, rv, q⟩ := hs
    exact ⟨v, H', J.os, J.bare, J.base, J.hok, rv, q⟩
  | next =>
    obtain ⟨σ', H', J, q⟩ := hs
    exact ⟨V.non, H', J.os, J.bare, J.base, J.hok, rfl, q⟩
  | brk =>
    obtain ⟨_, _, _, q⟩ := hs
    exact False.elim q
  | cont =>
    obtain ⟨_, _, _, q⟩ := hs
    exact False.elim q
theorem okG {x : Str} {st : Stmt} {f : Addr} {fd : FuncData} {N ps : List Str} {k : Nat} {sp : Sp} (F : Fun K x x st f fd) (S : FnScope N ps (defScope st)) (len : ∀ vs H Q E, sp vs H Q E → vs.length = ps.length)
    (hbody : ∀ (cdv : Value) (A : Around) (outer : List Env) (s : Shared) (H : Hp) (vs : List V) (Q : VK) (E : XK), A.guards = some [] → Room k (A.deeper (envOfC x (defScope st) s.heap.objs.size f cdv)) → sp vs H Q E →
      ∃ t, PSs (cxOf CX0 P w K mg base N x (defScope st) f cdv A outer s H E).nox (defBody st) t ∧ t { nx := fun _ H' => Q .non H', rt := Q } (L2.start N vs) H) : FnG P w K mg base CX0 (k + 1) f fd ps sp := by
  obtain ⟨oc, od, kV, doc, pm, an, cdv, ct, osl, rfl, lk, hcd⟩ := F.ex
  refine fnG_of lk hcd S len fun A outer s H vs Q E hg hr hsp => ?_
  obtain ⟨t, h, q⟩ := hbody cdv A outer s H vs Q E hg hr hsp
  exact ⟨t, h.nox, q⟩
theorem okGC {x : Str} {st : Stmt} {f c T : Addr} {fd : FuncData} {N ps : List Str} {k : Nat} {sp : Sp} (F : Fun K x x st f fd) (hn : PySem.W.nsIn K mainGlobals x = some (some (.ref f))) (ht : PySem.W.tabIn K x = some (c, T)) (S : FnScope N ps (defScope st)) (len : ∀ vs H Q E, sp vs H Q E → vs.length = ps.length)
    (hbody : ∀ (A : Around) (outer : List Env) (s : Shared) (H : Hp) (vs : List V) (Q : VK) (E : XK), A.guards = some [] → Room k (A.deeper (envOfC x (defScope st) s.heap.objs.size f (.ref c))) → sp vs H Q E →
      ∃ t, PSs (cxOf CX0 P w K mg base N x (defScope st) f (.ref c) A outer s H E).nox (defBody st) t ∧ t { nx := fun _ H' => Q .non H', rt := Q } (L2.start N vs) H) : FnG P w K mg base CX0 (k + 1) f fd ps sp := by
  obtain ⟨oc, od, kV, doc, pm, an, cdv, ct, osl, rfl, lk, hcd⟩ := F.ex
  have e : cdv = .ref c := code_of hn lk ht
  subst e
  refine fnG_of lk hcd S len fun A outer s H vs Q E hg hr hsp => ?_
  obtain ⟨t, h, q⟩ := hbody A outer s H vs Q E hg hr hsp
  exact ⟨t, h.nox, q⟩
end
section
variable {X : Cx} {CX : CXT} {k : Nat} {f : Addr} {fd : FuncData} {ps : List Str} {sp : Sp} {x : Str} {p pos : Pos} {e : Expr} {es : List Expr} {t : TA} {E : XK}
theorem run_fnG {pins : List (Addr × Obj)} {σ : L2.St} {H : Hp} {s : Shared} {Q : VK} {us : List Value} {vs : List V} (F : FnG X.prog X.w X.K X.mg X.base CX k f fd ps sp) (hg : X.A.guards = some []) (hr : Room k X.A) (hb : Binds X.K fd ps []) (hx : Passes CX X E)
    (I : Inv X pins σ H s) (r : Vals vs us) (h : sp vs H Q E) : wpAny (model X.prog X.w) X.A (call (.ref f) us) (EP X pins σ Q) X.xe s := by
  have hl : us.length = ps.length := by rw [← r.length]; exact F.len _ _ _ _ h
  have hb2 := hb s us I.kIn (by rw [List.append_nil]; exact hl)
  rw [List.append_nil] at hb2
  refine wpAny_call (codeAny_mono (F.run X.A X.stack s H ⟨us, []⟩ us vs Q E hg hr I.env0 hb2 r h) fun r s' hq => ?_)
  cases r with
  | error e => exact hx pins σ H s e s' I hq
  | ok fl =>
    cases fl with
    | ret u => exact I.after hq
    | next => exact False.elim hq
    | brk => exact False.elim hq
    | cont => exact False.elim hq
structure CalG (P : Program) (w : World) (K : PySem.W.Frag) (mg : Str → Option Value) (base : Heap) (k : Nat) (x : Str) (st : Stmt) (ps : List Str) (sp : Sp) : Prop where
  ex : ∃ (f : Addr) (fd : FuncData), Fun K x x st f fd ∧ mg x = some (.ref f) ∧ Binds K fd ps [] ∧ FnG P w K mg base CX0 k f fd ps sp
theorem pe_clG {st : Stmt} (C : CalG X.prog X.w X.K X.mg X.base k x st ps sp) (hgd : X.A.guards = some []) (hr : Room k X.A) (hg : Gl X x) (ha : PA X (e :: es) t)
    (hdb : (x == ("__debug__" : Str)) = false := by decide) (he : starEach (e :: es) X.env = (false, eval e X.env) :: starEach es X.env := by rfl)
    (hpl : (backTo pos (starEach es X.env)).any (·.1) = false := by rfl) : PE X (.Call (.Name x p) (e :: es) [] pos) (tCall sp [] E0 t) := by
  obtain ⟨f, fd, F, hm, hb, G⟩ := C.ex
  refine ⟨fun pins s σ H Q I h => ?_⟩
  refine wpAny_Call_Name_kw (ld_glob I hg hm ?_ hdb)
  refine PySem.W.callWith_K (h₀ := X.base) I.ok.mod.kin F.kp (thn (ha.run pos pins s σ H _ I h) fun us s1 ⟨vs, H1, I1, r, q⟩ => ⟨I1.kIn, ?_⟩) he hpl
  have q : sp (vs ++ []) H1 Q E0 := q
  rw [List.append_nil] at q
  exact run_fnG G hgd hr hb pass0 I1 r q
end
end K6
namespace K6
open PySem PySem.Spec PyProof.Rows L2 K0 K4
end K6
namespace K6
open PySem PySem.Spec PyProof.Rows L2 K0 K4
/-! ### sheets with a language of gaps -/
end K6
namespace K6
open PySem PySem.Spec PyProof.Rows L2 K0 K4
/-! ### calls by keywords alone -/
def kg1 {α : Type} : List α → List α → List α
  | [], [a] => [a]
  | _, _ => []
def kg3 {α : Type} : List α → List α → List α
  | [], [a, b, c] => [c, b, a]
  | _, _ => []
theorem rel1 {vs zs : List V} {us ws : List Value} (r : Vals vs us) (rz : Vals zs ws) : Vals (kg1 vs zs) (kg1 us ws) := by
  cases r with
  | cons x y => exact .nil
  | nil =>
    cases rz with
    | nil => exact .nil
    | cons a b =>
      cases b with
      | nil => exact .cons a .nil
      | cons c d => exact .nil
theorem rel3 {vs zs : List V} {us ws : List Value} (r : Vals vs us) (rz : Vals zs ws) : Vals (kg3 vs zs) (kg3 us ws) := by
  cases r with
  | cons x y => exact .nil
  | nil =>
    cases rz with
    | nil => exact .nil
    | cons a b =>
      cases b with
      | nil => exact .nil
      | cons c d =>
        cases d with
        | nil => exact .nil
        | cons e f =>
          cases f with
          | nil => exact .cons e (.cons c (.cons a .nil))
          | cons g h => exact .nil
theorem kb1 {K : PySem.W.Frag} {x qual : Str} {st : Stmt} {f : Addr} {fd : FuncData} {p : Str} (F : Fun K x qual st f fd) (h : ∀ kV doc pm an cdv ct u, bindArgs (fOf x qual st kV doc pm an cdv ct) ⟨[], [(p, u)]⟩ = pure [(p, u)]) : KBinds K fd [p] [p] kg1 kg1 := by
  obtain ⟨oc, od, kV, doc, pm, an, cdv, ct, osl, rfl, lk, hcd⟩ := F.ex
  refine ⟨fun s us ws _ hl => ?_, rel1⟩
  match us, ws, hl with
  | [], [u], _ => exact .of_eq (h _ _ _ _ _ _ u)
theorem kb3 {K : PySem.W.Frag} {x qual : Str} {st : Stmt} {f : Addr} {fd : FuncData} {p q r : Str} (F : Fun K x qual st f fd) (h : ∀ kV doc pm an cdv ct u v w, bindArgs (fOf x qual st kV doc pm an cdv ct) ⟨[], [(r, u), (q, v), (p, w)]⟩ = pure [(p, w), (q, v), (r, u)]) : KBinds K fd [p, q, r] [r, q, p] kg3 kg3 := by
  obtain ⟨oc, od, kV, doc, pm, an, cdv, ct, osl, rfl, lk, hcd⟩ := F.ex
  refine ⟨fun s us ws _ hl => ?_, rel3⟩
  match us, ws, hl with
  | [], [u, v, w], _ => exact .of_eq (h _ _ _ _ _ _ u v w)
def tCallN (sp : Sp) (gV : List V → List V → List V) (E : XK) (tk : TA) : TE := fun σ H Q => tk σ H fun zs H2 => sp (gV [] zs) H2 Q E
end K6
namespace K6
open PySem PySem.Spec PyProof.Rows L2 K0 K4
/-! ### compared, told whole: what is refused, and with the pairs -/
/-- no pair, or this one -/
def LjV (H : Hp) (u : V) (o : Option (Nat × Nat)) : Prop := (o = none ∧ u = .non) ∨ ∃ (i j : Nat) (t : Addr), o = some (i, j) ∧ u = .ref t ∧ H t = some (.tup [.int (i : Nat), .int (j : Nat)])
theorem LjV.sm {H H' : Hp} {u : V} {o : Option (Nat × Nat)} (s : Same H H') (h : LjV H u o) : LjV H' u o := by
  rcases h with h | ⟨i, j, t, h1, h2, h3⟩
  · exact .inl h
  · exact .inr ⟨i, j, t, h1, h2, s _ _ h3⟩
theorem LjV.non {H : Hp} {u : V} {o : Option (Nat × Nat)} (h : LjV H u o) : decide (u = V.non) = o.isNone := by
  rcases h with ⟨rfl, rfl⟩ | ⟨i, j, t, rfl, rfl, _⟩
  · rfl
  · rfl
def dLj : Option (Nat × Nat) → PyData
  | none => .none
  | some p => dPr p
theorem LjV.dp {K : PySem.W.Frag} {H : Hp} {u : V} {o : Option (Nat × Nat)} (h : LjV H u o) : Dp K H u (dLj o) := by
  rcases h with ⟨rfl, rfl⟩ | ⟨i, j, t, rfl, rfl, ht⟩
  · exact .non
  · exact .tup (SqT.of ht) (.cons (.int _) (.cons (.int _) .nil))
end K6
/-! itertools.combinations(range(n), r): made, drawn -/
namespace K5
open PySem PySem.Spec PyProof.Rows Builtin Builtin.Itertools
/-! the object -/
abbrev PoolO (h : Heap) (pa : Addr) (its : List Value) : Prop := h.get? pa = some { cls := .type "tuple", dict := none, data := .seq its.toArray, slots := #[] }
end K5
namespace K5
open PySem PySem.Spec PyProof.Rows Builtin Builtin.Itertools
section
variable {prog : Program} {w : World}
def pickL (its : List Value) (ix : List Nat) : List Value := ix.map fun i => its.getD i .none
variable {A : Around} {E : Value → Shared → Prop} {s : Shared} {c pa : Addr} {its : List Value} {n : Nat} {last : Value} {ix : List Nat}
/-- the lots of r of a list, in order -/
def lotsL : Nat → List Nat → List (List Nat)
  | 0, _ => [[]]
  | _ + 1, [] => []
  | r + 1, a :: t => (lotsL r t).map (a :: ·) ++ lotsL (r + 1) t
def lots (n r : Nat) : List (List Nat) := lotsL r (List.range n)
end
end K5
namespace K5
open PySem PySem.Spec PyProof.Rows Builtin Builtin.Itertools
/-- the first i lots, tuples behind S -/
def Lc (S : Addr) (its : List Value) (n r i : Nat) (acc : Array Value) (h : Heap) : Prop := ∃ ts : List Nat, ts.length = i ∧ acc.toList = ts.map (fun (t : Nat) => Value.ref t) ∧ ts.Nodup ∧ (∀ t ∈ ts, S < t) ∧ ∀ (j t : Nat), ts[j]? = some t → PoolO h t (pickL its ((lots n r).getD j []))
theorem Lc.keep {S : Addr} {its : List Value} {n r i : Nat} {acc : Array Value} {h h' : Heap} (x : Lc S its n r i acc h) (k : ∀ (y : Nat) o, S < y → h.get? y = some o → h'.get? y = some o) : Lc S its n r i acc h' := by
  obtain ⟨ts, e1, e2, e3, e4, e5⟩ := x
  exact ⟨ts, e1, e2, e3, e4, fun j t ht => k t _ (e4 t (List.mem_of_getElem? ht)) (e5 j t ht)⟩
end K5
namespace L2
open PySem PySem.Spec PyProof.Rows
/-! the rule for list(combinations(r, k)), r a range from 0 -/
end L2
/-! several except clauses, with a name or without; the last ones may be left untold -/
namespace K5T
open PySem PySem.Spec PyProof.Rows L2
/-- a clause: its class, the slot of its name if it has one, what its suite reads -/
abbrev Cla : Type := Value × Option Nat × (Addr → Value → Option Addr → TS)
/-- behind a named clause its name is gone -/
def bhd (i : Nat) (D : Ends) : Ends := { nx := fun σ' H' => D.nx (σ'.set i none) H', rt := D.rt, bk := fun σ' H' => D.bk (σ'.set i none) H', ct := fun σ' H' => D.ct (σ'.set i none) H' }
def suiteOf (q : Cla) (a : Addr) (cls : Value) (d : Option Addr) (D : Ends) (σ : L2.St) (H : Hp) : Prop := match q.2.1 with
  | some i => q.2.2 a cls d (bhd i D) (σ.set i (some (.ref a))) H
  | none => q.2.2 a cls d D σ H
def wNamed (K : PySem.W.Frag) (D : Ends) : List Cla → WX
  | [] => fun _ _ _ _ => False
  | q :: r => fun cls d σ H => ∃ b, PySem.W.exmOne K cls q.1 = some b ∧ (b = true → ∀ a, H a = none → suiteOf q a cls d D σ H) ∧ (b = false → wNamed K D r cls d σ H)
inductive Clauses (X : Cx) : List ExceptHandler → List Cla → Prop
  | nil {hds : List ExceptHandler} : Clauses X hds []
  | cons {x n : Str} {c : Value} {i : Nat} {ts : Addr → Value → Option Addr → TS} {b₀ : Stmt} {suite : List Stmt} {np p : Pos} {hds : List ExceptHandler} {l : List Cla} (hi : X.N[i]? = some n) (hln : X.env.kindOf n = some .local) (hc : Names X x c)
      (hsu : ∀ (a : Addr) (oe : Obj) (cls : Value) (d : Option Addr) (pn : List (Addr × Obj)), Zc cls d oe → (∃ vs, oe.data = .fields vs) → PSs (X.suite a ((a, oe) :: pn)) (b₀ :: suite) (ts a cls d)) (r : Clauses X hds l) :
      Clauses X (.ExceptHandler (some (.Name x np)) (some n) (b₀ :: suite) p :: hds) ((c, some i, ts) :: l)
  | bare {x : Str} {c : Value} {ts : Addr → Value → Option Addr → TS} {b₀ : Stmt} {suite : List Stmt} {np p : Pos} {hds : List ExceptHandler} {l : List Cla} (hc : Names X x c)
      (hsu : ∀ (a : Addr) (oe : Obj) (cls : Value) (d : Option Addr) (pn : List (Addr × Obj)), Zc cls d oe → (∃ vs, oe.data = .fields vs) → PSs (X.suite a ((a, oe) :: pn)) (b₀ :: suite) (ts a cls d)) (r : Clauses X hds l) :
      Clauses X (.ExceptHandler (some (.Name x np)) none (b₀ :: suite) p :: hds) ((c, none, ts) :: l)
section
variable {X : Cx} {body : List Stmt} {h₀ : ExceptHandler} {hds : List ExceptHandler} {l : List Cla} {pos : Pos} {tb : WX → TS}
/-- an error lands: one of the clauses takes it -/
theorem clauses_run {pins : List (Addr × Obj)} {D : Ends} (hs : X.stack = X.env :: X.outer) (hf : X.env.frame = some X.env.locals) (hN : X.N.Nodup) {B : Heap} {a : Addr} {cls : Value} {d : Option Addr} {σ' : L2.St} {H' : Hp} {s' : Shared} {h3 : Heap} {oe : Obj} {vs : Array Value} (ok : X.Ok)
    (J : ∀ h4 : Heap, HandSPX.FlyingZ B (X.env :: X.outer) a (Zc cls d) h4 → h3.UpToSlots h4 → Inv X pins σ' H' { s' with heap := h4 }) (fl3 : HandSPX.FlyingZ B (X.env :: X.outer) a (Zc cls d) h3) (he3 : h3.get? a = some oe) (hz3 : Zc cls d oe) (hd3 : oe.data = .fields vs)
    (na : H' a = none) (nL : a ≠ X.env.locals) (nF : a ∉ X.fs) :
    ∀ {hs : List ExceptHandler} {l : List Cla}, Clauses X hs l → wNamed X.K D l cls d σ' H' → wpAny (model X.prog X.w) X.A (handleBy (.ref a) X.env hs) (SP X pins D) X.xe { s' with heap := h3 } := by
  have J3 := J h3 fl3 (Heap.UpToSlots.refl _)
  have S3 := J3.suite he3 hd3 na nL nF
  intro hs l hk
  induction hk with
  | nil => exact fun w => w.elim
  | @cons x n c i ts b₀ suite np p hds2 l2 hi hln hc hsu r ih =>
    rintro ⟨b, hb1, yes, no⟩
    refine wpAny_handleBy_cons (codeAny_handlers_test ?_) (by intro q; cases q)
    have isIt := PySem.W.exm_one (M := model X.prog X.w) J3.kIn (fun A Q E s k q => wpAny_typeOf_ref (k _ _ he3) (by rw [hz3.1]; exact q)) hb1
    have named : ∀ {Q : Value → Shared → Prop} {E : Value → Shared → Prop}, Q c { s' with heap := h3 } → wpAny (model X.prog X.w) (X.A.mark (some (.ref a))) (eval (.Name x np) X.env) Q E { s' with heap := h3 } := fun {Q E} q => by
      obtain ⟨hg, hdbg, hm | ⟨hm, hv, hnn⟩⟩ := hc
      · exact ld_glob (X := X.suite a ((a, oe) :: (X.pn ++ pins))) S3 hg hm q hdbg
      · exact ld_blt (X := X.suite a ((a, oe) :: (X.pn ++ pins))) S3 hg hm hv q hnn hdbg
    refine named (isIt.here ?_)
    cases b with
    | false => exact ih (no rfl)
    | true =>
      refine codeAny_handlers_suite_as (HandSPX.lands_againZ fl3 fun h4 fl4 up4 => ?_)
      have J4 := J h4 fl4 up4
      obtain ⟨oe4, vs4, he4, hz4, hd4⟩ := fl4.there
      refine store_ok (X := X.suite a ((a, oe4) :: (X.pn ++ pins))) (v := .ref a) (J4.suite he4 hd4 na nL nF) hN hi (.inl hln) rfl (fun s5 S5 => ?_) (.inr hln)
      refine wpAny_mono ((hsu a oe4 cls d (X.pn ++ pins) hz4 ⟨_, hd4⟩).run [] s5 _ H' _ S5 (yes rfl a na)) (fun f s6 hsp => ?_) (fun _ _ z => False.elim z)
      cases f with
      | next =>
        obtain ⟨σ6, H6, S6, q6⟩ := hsp
        exact gone_ok (S6.unsuite ok) hN hi hln fun s7 J7 => ⟨_, _, J7, q6⟩
      | brk =>
        obtain ⟨σ6, H6, S6, q6⟩ := hsp
        exact gone_ok (S6.unsuite ok) hN hi hln fun s7 J7 => ⟨_, _, J7, q6⟩
      | cont =>
        obtain ⟨σ6, H6, S6, q6⟩ := hsp
        exact gone_ok (S6.unsuite ok) hN hi hln fun s7 J7 => ⟨_, _, J7, q6⟩
      | ret u =>
        obtain ⟨v6, σ6, H6, S6, r6, q6⟩ := hsp
        exact gone_ok (S6.unsuite ok) hN hi hln fun s7 J7 => ⟨_, _, _, J7, r6, q6⟩
  | @bare x c ts b₀ suite np p hds2 l2 hc hsu r ih =>
    rintro ⟨b, hb1, yes, no⟩
    refine wpAny_handleBy_cons (codeAny_handlers_test ?_) (by intro q; cases q)
    have isIt := PySem.W.exm_one (M := model X.prog X.w) J3.kIn (fun A Q E s k q => wpAny_typeOf_ref (k _ _ he3) (by rw [hz3.1]; exact q)) hb1
    have named : ∀ {Q : Value → Shared → Prop} {E : Value → Shared → Prop}, Q c { s' with heap := h3 } → wpAny (model X.prog X.w) (X.A.mark (some (.ref a))) (eval (.Name x np) X.env) Q E { s' with heap := h3 } := fun {Q E} q => by
      obtain ⟨hg, hdbg, hm | ⟨hm, hv, hnn⟩⟩ := hc
      · exact ld_glob (X := X.suite a ((a, oe) :: (X.pn ++ pins))) S3 hg hm q hdbg
      · exact ld_blt (X := X.suite a ((a, oe) :: (X.pn ++ pins))) S3 hg hm hv q hnn hdbg
    refine named (isIt.here ?_)
    cases b with
    | false => exact ih (no rfl)
    | true =>
      refine codeAny_handlers_suite ?_
      refine HandSPX.lands_againZ fl3 fun h4 fl4 up4 => ?_
      have J4 := J h4 fl4 up4
      obtain ⟨oe4, vs4, he4, hz4, hd4⟩ := fl4.there
      have S4 := J4.suite he4 hd4 na nL nF
      refine wpAny_mono ((hsu a oe4 cls d (X.pn ++ pins) hz4 ⟨_, hd4⟩).run [] _ _ H' _ S4 (yes rfl a na)) (fun f s6 hsp => ?_) (fun _ _ z => False.elim z)
      cases f with
      | next =>
        obtain ⟨σ6, H6, S6, q6⟩ := hsp
        exact ⟨_, _, S6.unsuite ok, q6⟩
      | brk =>
        obtain ⟨σ6, H6, S6, q6⟩ := hsp
        exact ⟨_, _, S6.unsuite ok, q6⟩
      | cont =>
        obtain ⟨σ6, H6, S6, q6⟩ := hsp
        exact ⟨_, _, S6.unsuite ok, q6⟩
      | ret u =>
        obtain ⟨v6, σ6, H6, S6, r6, q6⟩ := hsp
        exact ⟨_, _, _, S6.unsuite ok, r6, q6⟩
theorem ps_try_named (hs : X.stack = X.env :: X.outer) (hf : X.env.frame = some X.env.locals) (hN : X.N.Nodup)
    (hb : ∀ (W : WX) (pn : List (Addr × Obj)) (xe : Value → Shared → Prop), Takes (X.tr pn xe) W → PassesOwn (model X.prog X.w) X.A X.env xe → PSs (X.tr pn xe) body (tb W))
    (hh : Clauses X (h₀ :: hds) l) : PS X (.Try body (h₀ :: hds) [] [] pos) (fun D σ H => tb (wNamed X.K D l) D σ H) := by
  refine ⟨fun pins s σ H D I h => ?_⟩
  have ok := I.ok
  have hfr : X.A.frames = some (X.env :: X.outer) := by rw [ok.frames, hs]
  refine wpAny_Try_except ?_
  refine wpAny_mono ((hb (wNamed X.K D l) (X.pn ++ pins) (fun e s₁ => wpAny (model X.prog X.w) X.A (noteFrame e X.env) (fun _ s₂ => wpAny (model X.prog X.w) X.A (setFlight e none) (fun _ s₃ =>
    wpAny (model X.prog X.w) X.A (handleBy e X.env (h₀ :: hds)) (SP X pins D) X.xe s₃) X.xe s₂) X.xe s₁) (fun u s' xx => ?_) PassesOwn.looking).run [] s σ H D (I.toTry _) h) (fun f s1 hsp => ?_) (fun e s1 he => he)
  · obtain ⟨a, B, sI, pins', σ', H', cls, d, rfl, J', nb, up, sky, na, os, ag, w⟩ := xx
    have J : Inv X pins σ' H' sI := J'.ofTry ok
    show wpAny (model X.prog X.w) X.A (noteFrame (.ref a) X.env) _ _ _
    refine Sky.land Zc.steady hfr hf (by rw [← hs]; exact sky) fun h3 fl3 up3 => ?_
    obtain ⟨oe3, vs3, he3, hz3, hd3⟩ := fl3.there
    have nfr : a ∉ frs (X.env :: X.outer) := fun hm => by
      obtain ⟨_, o', e', hnf⟩ := fl3.2.2.1.mem hm
      rw [he3] at e'
      cases e'
      exact hnf _ hd3
    have nL : a ≠ X.env.locals := fun z => nfr (List.mem_filterMap.mpr ⟨X.env, List.mem_cons_self, by rw [hf, z]⟩)
    have nF : a ∉ X.fs := fun hm => by
      obtain ⟨e, he, q⟩ := List.mem_filterMap.mp hm
      exact nfr (List.mem_filterMap.mpr ⟨e, List.mem_cons_of_mem _ he, q⟩)
    exact clauses_run hs hf hN ok (fun h4 fl4 up4 => J.landed nb fl4.1 ((up.trans up3).trans up4) os ag) fl3 he3 hz3 hd3 na nL nF hh w
  · cases f with
    | next =>
      obtain ⟨σ', H', J', q⟩ := hsp
      exact wpAny_execs_nil ⟨σ', H', J'.ofTry ok, q⟩
    | brk =>
      obtain ⟨σ', H', J', q⟩ := hsp
      exact ⟨σ', H', J'.ofTry ok, q⟩
    | cont =>
      obtain ⟨σ', H', J', q⟩ := hsp
      exact ⟨σ', H', J'.ofTry ok, q⟩
    | ret u =>
      obtain ⟨v, σ', H', J', r, q⟩ := hsp
      exact ⟨v, σ', H', J'.ofTry ok, r, q⟩
end
end K5T
namespace K6
open PySem PySem.Spec PyProof.Rows L2 K0 K4
section
variable {P : Program} {w : World} {K : PySem.W.Frag} {mg : Str → Option Value} {base : Heap}
variable {C Z : Addr}
/-- a telling's class -/
structure TlC (K : PySem.W.Frag) (C : Addr) : Prop where
  p : PapC K C
  f3 : NoAttr K C "languages"
  f4 : NoAttr K C "pairs"
/-- a telling of these languages and these pairs, its parts known -/
def ZmB (Z : Addr) (H : Hp) (x : Addr) (d1 d2 : PyData) : Prop := ∃ dx u1 u2 p, H x = some (.ins Z dx [("kind", .str "telling"), ("parts", p), ("languages", u1), ("pairs", u2)]) ∧ FTN H 2 u1 d1 ∧ FTN H 2 u2 d2 ∧ FTN H 3 p (.tuple [d1, d2])
theorem zmb_sm {H H' : Hp} {x : Addr} {d1 d2 : PyData} (s : Same H H') (h : ZmB Z H x d1 d2) : ZmB Z H' x d1 d2 := by
  obtain ⟨dx, u1, u2, p, e, f1, f2, f3⟩ := h
  exact ⟨dx, u1, u2, p, s _ _ e, ft_same s f1, ft_same s f2, ft_same s f3⟩
def spZmJ (K : PySem.W.Frag) (C : Addr) : Sp := fun vs H Q _ => ∃ x dx v1 v2 d1 d2, vs = [.ref x, v1, v2] ∧ H x = some (.ins C dx []) ∧ FxN K H 2 v1 d1 ∧ FxN K H 2 v2 d2 ∧
  ∀ H', ZmB C H' x d1 d2 → (∀ c o, c ≠ x → H c = some o → H' c = some o) → Q .non H'
theorem zmb_make {v1 v2 : V} {d1 d2 : PyData} {H : Hp} {Q : VK} {E : XK} (h1 : FxN K H 2 v1 d1) (h2 : FxN K H 2 v2 d2) (k : ∀ H' x, Same H H' → H x = none → ZmB Z H' x d1 d2 → Q (.ref x) H') : ∀ x dx, H x = none → H dx = none → dx ≠ x →
    spZmJ K Z (.ref x :: ([v1, v2] ++ [])) (upd (upd H dx (.own x)) x (.ins Z dx [])) (fun v H2 => v = .non ∧ Q (.ref x) H2) E := by
  intro x dx nx nd ne
  have s1 : Same H (upd (upd H dx (.own x)) x (.ins Z dx [])) := fun c o e => by
    rw [upd_ne (ne_of_none e nx), upd_ne (ne_of_none e nd)]
    exact e
  refine ⟨x, dx, v1, v2, d1, d2, rfl, upd_same, fx_same s1 h1, fx_same s1 h2, fun H' hz kp => ⟨rfl, k H' x (fun c o e => kp c o (ne_of_none e nx) (s1 _ _ e)) nx hz⟩⟩
/-- what the text says of the class of tellings, for its name, its ==, its truth -/
structure ZmE (K : PySem.W.Frag) (mg : Str → Option Value) (Z Pp : Addr) : Prop where
  c : TlC K Z
  nm : ClsNm K Z "Telling"
  gP : mg "Paper" = some (.ref Pp)
  gZ : mg "Telling" = some (.ref Z)
  kP : PySem.W.kitOne K (.ref Z) (.ref Pp) = some true
  kZ : PySem.W.kitOne K (.ref Z) (.ref Z) = some true
theorem zm_tyx {Pp : Addr} {H : Hp} {x : Addr} {d1 d2 : PyData} (U : ZmE K mg Z Pp) (h : ZmB Z H x d1 d2) : TyX K H (.ref x) (.ref Z) := by
  obtain ⟨dx, u1, u2, p, e, _⟩ := h
  exact .base (.ins e U.c.p.c U.nm.fi U.nm.sp U.nm.tk U.nm.mro)
/-! ### are_equal, is_called -/
abbrev st_are_equal : Stmt := top 20
abbrev nm_are_equal : List Str := ["one", "other"]
theorem sc_are_equal : FnScope nm_are_equal ["one", "other"] (defScope st_are_equal) := ⟨rfl, rfl, rfl, by decide +kernel, rfl, by decide +kernel, by decide +kernel⟩
def spAreEq (K : PySem.W.Frag) (Z : Addr) : Sp := fun vs H Q _ => ∃ x y d1 d2 e1 e2, vs = [.ref x, .ref y] ∧ ZmB Z H x d1 d2 ∧ ZmB Z H y e1 e2 ∧ SeqAt.shaped (.tuple [d1, d2]) = true ∧ SeqAt.shaped (.tuple [e1, e2]) = true ∧
  Q (.bl (PyData.eqv (.tuple [d1, d2]) (.tuple [e1, e2]))) H
theorem ok_are_equal {f Pp : Addr} {fd : FuncData} (F : Fun K "are_equal" "are_equal" st_are_equal f fd) (U : ZmE K mg Z Pp) : FnOk P w K mg base CX0 1 f fd ["one", "other"] (spAreEq K Z) := by
  refine F.ok sc_are_equal (fun vs H Q E h => ?_) (fun cdv A outer s H vs Q E hr h => ?_)
  · obtain ⟨x, y, d1, d2, e1, e2, rfl, _⟩ := h
    rfl
  · refine ⟨_, (pss_cons (ps_if (pt_cmpR op_ne (pe_clsnm (pv 0) rfl rfl) (pe_clsnm (pv 1) rfl rfl) (nomark _)) (pss_one (ps_ret pe_bl)) pss_nil)
  (pss_one (ps_ret (pe_and (pe_cmpR op_eq (pe_fld (pv 0) rfl) (pe_fld (pv 1) rfl) (nomark _)) (pe_one (pe_cmpR (op_eqD hr.units) (pe_fld (pv 0) rfl) (pe_fld (pv 1) rfl) (nomark _))))))), ?_⟩
    obtain ⟨x, y, d1, d2, e1, e2, rfl, ⟨dx, u1, u2, p, hx, _, _, hp⟩, ⟨dy, v1, v2, r, hy, _, _, hr'⟩, s1, s2, q⟩ := h
    refine ⟨_, rfl, x, Z, dx, _, _, rfl, hx, U.nm, _, rfl, y, Z, dy, _, _, rfl, hy, U.nm, rfl, ?_⟩
    refine ⟨_, rfl, iteF ?_⟩
    refine ⟨_, rfl, x, Z, dx, _, _, rfl, hx, U.c.p.c, U.c.p.f1, rfl, _, rfl, y, Z, dy, _, _, rfl, hy, U.c.p.c, U.c.p.f1, rfl, rfl, _, rfl, ?_⟩
    refine ⟨_, rfl, x, Z, dx, _, _, rfl, hx, U.c.p.c, U.c.p.f2, rfl, _, rfl, y, Z, dy, _, _, rfl, hy, U.c.p.c, U.c.p.f2, rfl, _, _, ft_dp hp, ft_dp hr', s1, s2, q⟩
abbrev CAeq (P : Program) (w : World) (K : PySem.W.Frag) (mg : Str → Option Value) (base : Heap) (Z : Addr) : Prop := Cal P w K mg base 1 "are_equal" st_are_equal ["one", "other"] (spAreEq K Z)
end
end K6
namespace K6
open PySem PySem.Spec PyProof.Rows L2 K0 K4
section
variable {P : Program} {w : World} {K : PySem.W.Frag} {mg : Str → Option Value} {base : Heap}
variable {cs : Nat → Addr} {C Z : Addr}
/-! ### Paper.__eq__, Paper.__bool__ -/
@[irreducible] def hAeq (K : PySem.W.Frag) (Z : Addr) : Sp := spAreEq K Z
theorem hAeq_eq {K : PySem.W.Frag} {Z : Addr} : hAeq K Z = spAreEq K Z := by
  unfold hAeq
  rfl
end
end K6
namespace K6
open PySem PySem.Spec PyProof.Rows L2 K0 K4
end K6
namespace K6
open PySem PySem.Spec PyProof.Rows L2 K0 K4
section
variable {P : Program} {w : World} {K : PySem.W.Frag} {mg : Str → Option Value} {base : Heap}
/-! ### lots of languages -/
def lotsB (m : Nat) : List (List Nat) := (List.range (m + 1)).flatMap (K5.lots m)
theorem lotsB_ok : ∀ m < 6, (lotsB m).length ≤ 64 ∧ ∀ d ∈ lotsB m, d.length ≤ m ∧ ∀ i ∈ d, i < m := by decide +kernel
end
end K6
namespace K6
open PySem PySem.Spec PyProof.Rows L2 K0 K4
section
variable {P : Program} {w : World} {K : PySem.W.Frag} {mg : Str → Option Value} {base : Heap}
/-! ### columns that a lot of languages parts -/
def partB (cl : List (List Nat)) (d : List Nat) (p q : Nat) : Bool := d.any fun i => decide ((cl.getD p []).getD i 0 ≠ (cl.getD q []).getD i 0)
end
end K6
namespace K6
open PySem PySem.Spec PyProof.Rows L2 K0 K4
section
variable {P : Program} {w : World} {K : PySem.W.Frag} {mg : Str → Option Value} {base : Heap}
/-! ### pairs that are left -/
def leftB (cl : List (List Nat)) (d : List Nat) (p : Nat × Nat) : Bool := decide (cl.getD p.1 [] ≠ cl.getD p.2 []) && !partB cl d p.1 p.2
def notP (cl : List (List Nat)) (d : List Nat) (ps : List (Nat × Nat)) : List (List Nat) := (ps.filter (leftB cl d)).map fun p => [p.1, p.2]
theorem prNat_lt {m : Nat} : ∀ p ∈ prNat m m, p.1 < m ∧ p.2 < m := fun ⟨i, j⟩ h => by
  have := (prNat_mem (Nat.le_refl m)).mp h
  exact ⟨this.1, this.2.2⟩
end
end K6
namespace K6
open PySem PySem.Spec PyProof.Rows L2 K0 K4
/-! ### the fewest languages -/
def leftL (cl : List (List Nat)) (d : List Nat) : List (List Nat) := notP cl d (prNat cl.length cl.length)
theorem dif_at {a b : List Nat} {m : Nat} (ha : a.length = m) (hb : b.length = m) (h : a ≠ b) : ∃ i, i < m ∧ a.getD i 0 ≠ b.getD i 0 := by
  refine Classical.byContradiction fun z => h (List.ext_getElem (ha.trans hb.symm) fun i h1 h2 => ?_)
  have := Classical.not_not.mp fun n => z ⟨i, by omega, n⟩
  rw [List.getD_eq_getElem?_getD, List.getD_eq_getElem?_getD, List.getElem?_eq_getElem h1, List.getElem?_eq_getElem h2] at this
  exact this
theorem mem_getD {cl : List (List Nat)} {z : Nat} (hz : z < cl.length) : cl.getD z [] ∈ cl := by
  rw [List.getD_eq_getElem?_getD, List.getElem?_eq_getElem hz]
  exact List.getElem_mem hz
theorem full_left {cl : List (List Nat)} {m : Nat} (h : ∀ c ∈ cl, c.length = m) : leftL cl (List.range m) = [] := by
  unfold leftL notP
  rw [List.map_eq_nil_iff, List.filter_eq_nil_iff]
  intro p hp z
  obtain ⟨h1, h2⟩ := prNat_lt p hp
  unfold leftB at z
  rw [Bool.and_eq_true, decide_eq_true_eq, Bool.not_eq_true'] at z
  obtain ⟨i, hi, e⟩ := dif_at (h _ (mem_getD h1)) (h _ (mem_getD h2)) z.1
  have : partB cl (List.range m) p.1 p.2 = true := List.any_eq_true.mpr ⟨i, List.mem_range.mpr hi, decide_eq_true e⟩
  rw [this] at z
  cases z.2
def fewAt (cl L : List (List Nat)) : Nat := L.findIdx fun d => (leftL cl d).isEmpty
def fewLot (cl L : List (List Nat)) : List Nat := L.getD (fewAt cl L) []
def fewPrs (cl L : List (List Nat)) : List (List Nat) := (L.take (fewAt cl L)).map fun d => (leftL cl d).headD []
theorem range_in : ∀ m < 6, List.range m ∈ lotsB m := by decide +kernel
theorem few_lt {cl : List (List Nat)} {m : Nat} (m6 : m < 6) (h : ∀ c ∈ cl, c.length = m) : fewAt cl (lotsB m) < (lotsB m).length := by
  unfold fewAt
  exact List.findIdx_lt_length_of_exists ⟨_, range_in m m6, by rw [full_left h]; rfl⟩
def dPrs (ps : List (List Nat)) : PyData := .tuple (ps.map dInts)
section
variable {P : Program} {w : World} {K : PySem.W.Frag} {mg : Str → Option Value} {base : Heap}
variable {cs : Nat → Addr} {C Z : Addr}
def fewOf (names : List (List Nat)) (ws : List (List (List Nat))) : List (List Nat) := (fewLot (cols ws) (lotsB names.length)).map fun i => names.getD i []
def fewPr (names : List (List Nat)) (ws : List (List (List Nat))) : List (List Nat) := fewPrs (cols ws) (lotsB names.length)
def spFewest (K : PySem.W.Frag) (cs : Nat → Addr) (C Z : Addr) : Sp := fun vs H Q E => ∃ v, vs = [v] ∧ Whv K cs C "sheet" H E v fun _ names ws => ∀ H' z, Same H H' → H z = none → ZmB Z H' z (dN (fewOf names ws)) (dPrs (fewPr names ws)) → Q (.ref z) H'
end
end K6
namespace K6
open PySem PySem.Spec PyProof.Rows L2 K0 K4
/-! ### the law's own lots -/
theorem flat_len {α β : Type} (l : List α) (f : α → List β) (j : Nat) : ((l.take j).flatMap f).length ≤ (l.flatMap f).length := by
  conv => rhs; rw [← List.take_append_drop j l]
  rw [List.flatMap_append, List.length_append]
  omega
end K6
namespace K6
open PySem PySem.Spec PyProof.Rows L2 K0 K4
/-! ### the law's own first pair that is left -/
end K6
namespace K6
open PySem PySem.Spec PyProof.Rows L2 K0 K4
/-! ### what the law takes for due -/
end K6
namespace K6
open PySem PySem.Spec PyProof.Rows L2 K0 K4
/-! ### is_pair_among -/
end K6
namespace K6
open PySem PySem.Spec PyProof.Rows L2 K0 K4
/-! ### shows_telling, told of is_telling's promise (is_telling itself is left) -/
end K6
namespace K6
open PySem PySem.Spec PyProof.Rows L2 K0 K4
/-! ### what the law claims of a wider sheet: mathematics -/
theorem lots_sorted : ∀ m < 6, (lotsB m).Pairwise fun a b => a.length ≤ b.length := by decide +kernel
theorem lots_up : ∀ m < 5, ∀ d ∈ lotsB m, d ∈ lotsB (m + 1) := by decide +kernel
theorem few_mem {cl : List (List Nat)} {m : Nat} (m6 : m < 6) (h : ∀ c ∈ cl, c.length = m) : fewLot cl (lotsB m) ∈ lotsB m := by
  have := few_lt m6 h
  unfold fewLot
  rw [List.getD_eq_getElem?_getD, List.getElem?_eq_getElem this]
  exact List.getElem_mem this
theorem few_tells {cl : List (List Nat)} {m : Nat} (m6 : m < 6) (h : ∀ c ∈ cl, c.length = m) : leftL cl (fewLot cl (lotsB m)) = [] := by
  have hl := few_lt m6 h
  have := List.findIdx_getElem (p := fun d => (leftL cl d).isEmpty) (xs := lotsB m) (w := hl)
  unfold fewLot
  rw [List.getD_eq_getElem?_getD, List.getElem?_eq_getElem hl]
  exact List.isEmpty_iff.mp this
/-- no lot that tells is shorter -/
theorem few_min {cl : List (List Nat)} {m : Nat} (m6 : m < 6) (h : ∀ c ∈ cl, c.length = m) {d : List Nat} (hd : d ∈ lotsB m) (e : leftL cl d = []) : (fewLot cl (lotsB m)).length ≤ d.length := by
  have hl := few_lt m6 h
  obtain ⟨j, hj, rfl⟩ := List.getElem_of_mem hd
  have le : fewAt cl (lotsB m) ≤ j := by
    refine Nat.le_of_not_lt fun lt => ?_
    have := List.not_of_lt_findIdx (p := fun d => (leftL cl d).isEmpty) (xs := lotsB m) lt
    rw [e] at this
    cases this
  unfold fewLot
  rw [List.getD_eq_getElem?_getD, List.getElem?_eq_getElem hl]
  rcases Nat.lt_or_ge (fewAt cl (lotsB m)) j with lt | ge
  · exact List.pairwise_iff_getElem.mp (lots_sorted m m6) _ _ hl hj lt
  · have : fewAt cl (lotsB m) = j := by omega
    show (lotsB m)[fewAt cl (lotsB m)].length ≤ _
    simp only [this]
    exact Nat.le_refl _
/-- a lot tells when it parts every two unlike columns -/
theorem left_nil {cl : List (List Nat)} {d : List Nat} : leftL cl d = [] ↔ ∀ p q, p < q → q < cl.length → cl.getD p [] ≠ cl.getD q [] → partB cl d p q = true := by
  unfold leftL notP
  rw [List.map_eq_nil_iff, List.filter_eq_nil_iff]
  constructor
  · intro h p q pq hq ne
    have := h (p, q) ((prNat_mem (Nat.le_refl _)).mpr ⟨by omega, pq, hq⟩)
    unfold leftB at this
    simp only [decide_eq_true ne, Bool.true_and, Bool.not_eq_true, Bool.not_eq_false'] at this
    exact this
  · rintro h ⟨p, q⟩ hp z
    obtain ⟨_, pq, hq⟩ := (prNat_mem (Nat.le_refl _)).mp hp
    unfold leftB at z
    rw [Bool.and_eq_true, decide_eq_true_eq, Bool.not_eq_true'] at z
    rw [h p q pq hq z.1] at z
    cases z.2
/-- one more cell in each column -/
structure Wider (cl cl2 : List (List Nat)) (m : Nat) : Prop where
  len : cl2.length = cl.length
  old : ∀ p, p < cl.length → (cl.getD p []).length = m
  wid : ∀ p, p < cl.length → (cl2.getD p []).length = m + 1
  pre : ∀ p, p < cl.length → ∀ i, i < m → (cl2.getD p []).getD i 0 = (cl.getD p []).getD i 0
theorem Wider.part {cl cl2 : List (List Nat)} {m : Nat} (W : Wider cl cl2 m) {d : List Nat} (hd : ∀ i ∈ d, i < m) {p q : Nat} (hp : p < cl.length) (hq : q < cl.length) : partB cl2 d p q = partB cl d p q := by
  unfold partB
  rw [Bool.eq_iff_iff, List.any_eq_true, List.any_eq_true]
  constructor
  · rintro ⟨i, hi, z⟩
    exact ⟨i, hi, by rwa [W.pre p hp i (hd i hi), W.pre q hq i (hd i hi)] at z⟩
  · rintro ⟨i, hi, z⟩
    exact ⟨i, hi, by rwa [W.pre p hp i (hd i hi), W.pre q hq i (hd i hi)]⟩
/-- nothing new is parted: no more languages are wanted -/
theorem Wider.few {cl cl2 : List (List Nat)} {m : Nat} (W : Wider cl cl2 m) (m5 : m < 5) (hc : ∀ c ∈ cl, c.length = m) (hc2 : ∀ c ∈ cl2, c.length = m + 1) (al : ∀ p q, p < cl.length → q < cl.length → cl.getD p [] = cl.getD q [] → cl2.getD p [] = cl2.getD q []) :
    (fewLot cl2 (lotsB (m + 1))).length ≤ (fewLot cl (lotsB m)).length := by
  have hm := few_mem (by omega) hc
  have ht := left_nil.mp (few_tells (by omega) hc)
  refine few_min (by omega) hc2 (lots_up m m5 _ hm) (left_nil.mpr fun p q pq hq ne => ?_)
  rw [W.len] at hq
  rw [W.part ((lotsB_ok m (by omega)).2 _ hm).2 (by omega) hq]
  exact ht p q pq hq fun z => ne (al p q (by omega) hq z)
end K6
namespace K6
open PySem PySem.Spec PyProof.Rows L2 K0 K4
/-! ### the wider sheet's zero mother -/
theorem zeroL_same {cl : List (List Nat)} {p q : Nat} (hp : p < cl.length) (hq : q < cl.length) : (zeroL cl).getD p 0 = (zeroL cl).getD q 0 ↔ cl.getD p [] = cl.getD q [] := by
  rw [zeroL_A]
  have gp := List.getElem?_eq_getElem hp
  have gq := List.getElem?_eq_getElem hq
  obtain ⟨a, za⟩ : ∃ k, (zeroA cl)[p]? = some k := ⟨_, List.getElem?_eq_getElem (by rw [zeroA_len]; exact hp)⟩
  obtain ⟨b, zb⟩ : ∃ k, (zeroA cl)[q]? = some k := ⟨_, List.getElem?_eq_getElem (by rw [zeroA_len]; exact hq)⟩
  simp only [List.getD_eq_getElem?_getD, za, zb, gp, gq, Option.getD_some]
  exact zeroA_iff gp gq za zb
theorem lj_iff {a b : List (List Nat)} (hl : a.length = b.length) : ljR (zeroL a) (zeroL b) = none ↔ ∀ p q, p < q → q < a.length → a.getD p [] = a.getD q [] → b.getD p [] = b.getD q [] := by
  unfold ljR
  rw [List.find?_eq_none, zeroL_len]
  constructor
  · intro h p q pq hq e
    have := h (p, q) ((prNat_mem (Nat.le_refl _)).mpr ⟨by omega, pq, hq⟩)
    unfold jB at this
    simp only [decide_eq_true ((zeroL_same (by omega) hq).mpr e), Bool.true_and, Bool.not_eq_true, Bool.not_eq_false', decide_eq_true_eq] at this
    exact (zeroL_same (by omega) (by omega)).mp this
  · rintro h ⟨p, q⟩ hp z
    obtain ⟨_, pq, hq⟩ := (prNat_mem (Nat.le_refl _)).mp hp
    unfold jB at z
    rw [Bool.and_eq_true, decide_eq_true_eq, Bool.not_eq_true', decide_eq_false_iff_not] at z
    exact z.2 ((zeroL_same (by omega) (by omega)).mpr (h p q pq hq ((zeroL_same (by omega) hq).mp z.1)))
theorem Wider.alike {cl cl2 : List (List Nat)} {m : Nat} (W : Wider cl cl2 m) (h : ljR (zeroL cl) (zeroL cl2) = none) : ∀ p q, p < cl.length → q < cl.length → cl.getD p [] = cl.getD q [] → cl2.getD p [] = cl2.getD q [] := fun p q hp hq e => by
  have h := (lj_iff W.len.symm).mp h
  rcases Nat.lt_trichotomy p q with z | z | z
  · exact h p q z hq e
  · rw [z]
  · exact (h q p z hp e.symm).symm
end K6
namespace K6
open PySem PySem.Spec PyProof.Rows L2 K0 K4
/-! ### _law_wider_right -/
section
variable {P : Program} {w : World} {K : PySem.W.Frag} {mg : Str → Option Value} {base : Heap}
variable {cs : Nat → Addr} {C Z : Addr}
@[irreducible] def hFew (K : PySem.W.Frag) (cs : Nat → Addr) (C Z : Addr) : Sp := spFewest K cs C Z
theorem hFew_eq {K : PySem.W.Frag} {cs : Nat → Addr} {C Z : Addr} : hFew K cs C Z = spFewest K cs C Z := by
  unfold hFew
  rfl
end
end K6
namespace K6
open PySem PySem.Spec PyProof.Rows L2 K0 K4
/-! ### the paper's languages put together; the empty lot -/
end K6
namespace K6
open PySem PySem.Spec PyProof.Rows L2 K0 K4
/-! ### Telling(pairs = .., languages = ..) -/
structure MakS (P : Program) (w : World) (K : PySem.W.Frag) (mg : Str → Option Value) (base : Heap) (k : Nat) (x qual : Str) (st : Stmt) (C : Addr) (ps : List Str) (sp : Sp) : Prop where
  ex : ∃ (f cda cc : Addr) (fd : FuncData), Mk K C f ∧ mg x = some (.ref C) ∧ FunS K "__init__" qual st f cda cc fd ∧ Binds K fd ps [] ∧ FnOk P w K mg base (L2.CX P w) k f fd ps sp
theorem MakS.plain {P : Program} {w : World} {K : PySem.W.Frag} {mg : Str → Option Value} {base : Heap} {k : Nat} {x qual : Str} {st : Stmt} {C : Addr} {ps : List Str} {sp : Sp} (c : MakS P w K mg base k x qual st C ps sp) : MakX P w K mg base k x C ps sp := by
  obtain ⟨f, cda, cc, fd, M, hm, _, hb, G⟩ := c.ex
  exact ⟨⟨f, fd, M, hm, hb, G⟩⟩
end K6
namespace K6
open PySem PySem.Spec PyProof.Rows L2 K0 K4
/-! ### what the law wants of a telling -/
theorem eqv_two (a b c d : PyData) : PyData.eqv (.tuple [a, b]) (.tuple [c, d]) = (PyData.eqv a c && PyData.eqv b d) := by
  rw [PyData.eqv, PyData.eqvAll, PyData.eqvAll, PyData.eqvAll, Bool.and_true]
end K6
namespace K6
open PySem PySem.Spec PyProof.Rows L2 K0 K4
/-! ### of_languages, told of a tuple -/
end K6
namespace K6
open PySem PySem.Spec PyProof.Rows L2 K0 K4
/-! ### a sheet of some languages alone -/
end K6
namespace K6
open PySem PySem.Spec PyProof.Rows L2 K0 K4
/-! ### is_telling -/
section
variable {P : Program} {w : World} {K : PySem.W.Frag} {mg : Str → Option Value} {base : Heap}
variable {cs : Nat → Addr} {C Z : Addr}
theorem call_tupK {X : Cx} : CallR X (.type "tuple") (rTupOf X.K) := call_tuple_of
end
end K6
namespace K6
open PySem PySem.Spec PyProof.Rows L2 K0 K4
/-! ### the law -/
section
variable {P : Program} {w : World} {K : PySem.W.Frag} {mg : Str → Option Value} {base : Heap}
variable {cs : Nat → Addr} {C Z : Addr}
/-- rows whose last language says what the first says -/
def clsW (ws : List (List (List Nat))) : List (List (List Nat)) := ws.map fun r => r.dropLast ++ [r.headD []]
theorem cls_ok {many : Nat} {sh : List Nat} {ws : List (List (List Nat))} (m1 : 1 ≤ many) (h1 : ∀ n ∈ sh, 1 ≤ n) (h : RowsOk many sh ws) : RowsOk many sh (clsW ws) := by
  refine ⟨by unfold clsW; rw [List.length_map]; exact h.1, fun i n r e1 e2 => ?_⟩
  unfold clsW at e2
  rw [List.getElem?_map] at e2
  cases z : ws[i]? with
  | none =>
    rw [z] at e2
    cases e2
  | some r0 =>
    rw [z] at e2
    obtain rfl := Option.some.inj e2
    have ok := h.2 i n r0 e1 z
    obtain ⟨l0, t0, rfl⟩ : ∃ l0 t0, r0 = l0 :: t0 := by
      cases r0 with
      | nil =>
        have := ok.1
        rw [List.length_nil] at this
        omega
      | cons a t => exact ⟨a, t, rfl⟩
    refine ⟨?_, fun l hl => ?_⟩
    · have := ok.1
      rw [List.length_cons] at this
      rw [List.length_append, List.length_dropLast, List.length_cons]
      show t0.length + 1 - 1 + 1 = many
      omega
    · rcases List.mem_append.mp hl with hl | hl
      · exact ok.2 l ((List.dropLast_sublist _).subset hl)
      · rw [List.mem_singleton.mp hl]
        exact ok.2 l0 List.mem_cons_self
abbrev nm_law : List Str := ["_law_script", "_law_reel_here", "_law_shape", "_law_many", "_law_paper", "_law_made", "_law_names_here", "_law_rows_here", "_law_sheet", "_law_columns_here", "_law_some", "_law_pairs", "_law_turn", "_law_cells", "_law_pair", "_law_at"]
end
end K6
namespace K6
open PySem PySem.Spec PyProof.Rows L2 K0 K4
/-! ### the errors made -/
section
variable {P : Program} {w : World} {K : PySem.W.Frag} {mg : Str → Option Value} {base : Heap}
abbrev st_i_BadNumber : Stmt := inClass (top 11) 0
theorem sc_i_BadNumber : FnScope ["self", "part"] ["self", "part"] (defScope st_i_BadNumber) := ⟨rfl, rfl, rfl, by decide +kernel, rfl, by decide +kernel, by decide +kernel⟩
theorem ok_i_BadNumber {f : Addr} {fd : FuncData} (F : Fun K "__init__" "BadNumber.__init__" st_i_BadNumber f fd) : FnOk P w K mg base CX0 1 f fd ["self", "part"] (spInit1 K "part") := by
  refine F.ok sc_i_BadNumber (fun vs H Q E h => ?_) (fun cdv A outer s H vs Q E hr h => ?_)
  · obtain ⟨a, C, v, rfl, _⟩ := h
    rfl
  · obtain ⟨a, C, v, rfl, T, hno, ha, k⟩ := h
    exact ⟨_, pss_one (ps_ost (pv 0) (pv 1)), _, rfl, _, rfl, a, C, rfl, T, hno, .inl ⟨ha, fun dx n ne => k dx n ne⟩⟩
abbrev st_i_TooMany : Stmt := inClass (top 13) 0
theorem sc_i_TooMany : FnScope ["self", "what", "most"] ["self", "what", "most"] (defScope st_i_TooMany) := ⟨rfl, rfl, rfl, by decide +kernel, rfl, by decide +kernel, by decide +kernel⟩
theorem ok_i_TooMany {f : Addr} {fd : FuncData} (F : Fun K "__init__" "TooMany.__init__" st_i_TooMany f fd) : FnOk P w K mg base CX0 1 f fd ["self", "what", "most"] (spInit2 K "what" "most") := by
  refine F.ok sc_i_TooMany (fun vs H Q E h => ?_) (fun cdv A outer s H vs Q E hr h => ?_)
  · obtain ⟨a, C, u, v, rfl, _⟩ := h
    rfl
  · obtain ⟨a, C, u, v, rfl, T, h1, h2, ha, k⟩ := h
    exact ⟨_, pss_cons (ps_ost (pv 0) (pv 1)) (pss_one (ps_ost (pv 0) (pv 2))), _, rfl, _, rfl, a, C, rfl, T, h1, .inl ⟨ha, fun dx n ne =>
      ⟨_, rfl, _, rfl, a, C, rfl, T, h2, .inr ⟨dx, _, upd_same, (upd_ne ne).trans upd_same, (by show 1 ≤ 900; decide), k dx n ne⟩⟩⟩⟩
theorem ok_fixed0 {f : Addr} {fd : FuncData} : FnOk P w K mg base CX0 0 f fd ["value"] (spF K 0) :=
  ⟨fun vs H Q E (h : False) => h.elim, fun A outer s H args us vs Q E _ _ _ _ (h : False) => h.elim⟩
theorem binds_S {x qual : Str} {st : Stmt} {f cda cc : Addr} {fd : FuncData} {ps : List Str} (F : FunS K x qual st f cda cc fd)
    (h : ∀ (kV doc pm : Value) (an : Option Addr) (ct : Value) (us : List Value), us.length = ps.length → bindArgs (PySem.W.ksFn x qual (defArgs st) (defBody st) (defScope st) .none kV doc pm an (.ref cda) ct cc) { pos := us } = pure (ps.zip us)) : Binds K fd ps [] := by
  obtain ⟨oc, od, kV, doc, pm, an, ct, osl, rfl, _⟩ := F.ex
  intro s us _ hl
  rw [List.append_nil] at hl ⊢
  exact .of_eq (h kV doc pm an ct us hl)
theorem funS_mk {x qual : Str} {st : Stmt} {f cda cc : Addr} {oc : Value} {od an : Option Addr} {osl : Array (Option Value)} {kV doc pm ct : Value} (l : K.lookup f = some ⟨oc, od, .func (PySem.W.ksFn x qual (defArgs st) (defBody st) (defScope st) .none kV doc pm an (.ref cda) ct cc), osl⟩)
    (c : PySem.W.codeIn K (.ref cda) qual = true) : FunS K x qual st f cda cc (PySem.W.ksFn x qual (defArgs st) (defBody st) (defScope st) .none kV doc pm an (.ref cda) ct cc) := ⟨⟨oc, od, kV, doc, pm, an, ct, osl, rfl, l, c⟩⟩
theorem cell_mk {cc C : Addr} {cl : Value} {cld : Option Addr} {csl : Array (Option Value)} (l : K.lookup cc = some ⟨cl, cld, .cell (some (.ref C)), csl⟩) : ∃ (cl : Value) (cld : Option Addr) (csl : Array (Option Value)), K.lookup cc = some ⟨cl, cld, .cell (some (.ref C)), csl⟩ := ⟨cl, cld, csl, l⟩
theorem code_mk {l : PySem.W.OpenLaw} {cda : Addr} {ccl : Value} {cdd : Option Addr} {vs : Array Value} {ccs : Array (Option Value)} {file : Str} {tf : Tok} (h1 : K.lookup cda = some ⟨ccl, cdd, .fields vs, ccs⟩) (h2 : vs[2]? = some (.str file tf)) (h3 : ((l.prog.main.file : Str) == file) = true) :
    ∃ (ccl : Value) (cdd : Option Addr) (vs : Array Value) (ccs : Array (Option Value)) (file : Str) (tf : Tok), K.lookup cda = some ⟨ccl, cdd, .fields vs, ccs⟩ ∧ vs[2]? = some (.str file tf) ∧ ((l.prog.main.file : Str) == file) = true := ⟨ccl, cdd, vs, ccs, file, tf, h1, h2, h3⟩
theorem cls_mk {C : Addr} {cd : ClassData} (l : PySem.W.clsIn K C = some cd) : ∃ cd : ClassData, PySem.W.clsIn K C = some cd := ⟨cd, l⟩
theorem kept_mk {C : Addr} {nm : Str} {o : Obj} {t : Tok} (l : K.lookup C = some o) (c : o.slots[2]? = some (some (.str nm t))) : K5.KeptName K C nm := ⟨o, t, l, c⟩
theorem kit_self {C : Addr} : PySem.W.kitOne K (.ref C) (.ref C) = some true := by
  unfold PySem.W.kitOne
  rw [if_pos (by simp)]
end
end K6
/-! enumerate of a text, of a list or a tuple -/
namespace K5
open PySem PySem.Spec PyProof.Rows L2
/-- the text z, each sign with its number in a new pair -/
def IteS (z : Str) : It :=
  ⟨fun i _ => i < z.cps.size, fun i H v H' => ∃ T c, v = .ref T ∧ H T = none ∧ H' = upd H T (.tup [.int (i : Nat), .str ⟨#[c]⟩]) ∧ z.cps[i]? = some c, fun i _ => z.cps.size = i⟩
theorem turn_enumS {P : Program} {w : World} {K : PySem.W.Frag} {elts : List Expr} {kk : Nat} {tpos : Pos} (z : Str) (tz : Tok) (e it : Addr) :
    Turn P w K (.Tuple elts kk tpos) (IteS z) [e, it] e (fun i h => (∃ old, IsEnum h e it ((i : Nat) : Int) old) ∧ h.IsStrIter it (strIterType z) z tz i ∧ e ≠ it) where
  mem := by simp
  obj := fun i h st b hb => by
    obtain ⟨⟨old, en⟩, ⟨o, ho, _, hd⟩, _⟩ := st
    rcases (show b = e ∨ b = it by simpa using hb) with rfl | rfl
    · exact ⟨_, en, fun v q => nomatch q⟩
    · exact ⟨o, ho, fun v q => by rw [hd] at q; cases q⟩
  keep := fun i h h' st k => by
    obtain ⟨⟨old, en⟩, ⟨o, ho, r⟩, ne⟩ := st
    exact ⟨⟨old, k e (by simp) _ en⟩, ⟨o, k it (by simp) o ho, r⟩, ne⟩
  item := by
    intro X hP hw hK hc i pins s σ H E I hf st hg
    subst hP hw hK
    obtain ⟨⟨old, en⟩, ti, ne⟩ := st
    have hg : i < z.cps.size := hg
    have e_lt : e < s.heap.objs.size := Heap.lt_size en
    have it_lt : it < s.heap.objs.size := by
      obtain ⟨_, q, _⟩ := ti
      exact Heap.lt_size q
    have hh : X.A.in1.handled = none := I.ok.hd hc
    refine wpAny_pyNext_enum_itemD (Draws.text hh it z tz) en ti hg ne (by simp [ne]) fun y h' tk hy ho st' hT hsz hk => ?_
    obtain ⟨c, u, hcx, rfl⟩ := hy
    refine ⟨_, rfl, wpAny_letOwnedTupleGo_enum (s := { s with heap := h', toks := tk + 1 }) ho fun h'' he' sb => ?_⟩
    have hT2 : h''.get? s.heap.objs.size = some { cls := .type "tuple", data := .seq #[.int i tk, .str ⟨#[c]⟩ u] } := (sb.2 _ (Nat.ne_of_gt e_lt)).trans hT
    have new : ObjOk X.prog X.w (upd H s.heap.objs.size (.tup [.int (i : Nat), .str ⟨#[c]⟩])) h'' s.heap.objs.size (.tup [.int (i : Nat), .str ⟨#[c]⟩]) :=
      ⟨by show 2 ≤ sizeLine; decide, [.int i tk, .str ⟨#[c]⟩ u], .cons ⟨_, rfl⟩ (.cons ⟨u, rfl⟩ .nil), ⟨_, hT2, rfl, _, rfl⟩⟩
    have I1 : Inv X pins σ (upd H s.heap.objs.size (.tup [.int (i : Nat), .str ⟨#[c]⟩])) { s with heap := h'', toks := tk + 1 } :=
      I.turnedNew (ch := [e, it]) (fun b ob hb q => (sb.2 b (fun z => hb (by simp [z]))).trans (hk b ob (fun z => hb (by simp [z])) (fun z => hb (by simp [z])) q)) hf (Nat.le_refl _) new
    obtain ⟨oi, gi, ri⟩ := st'
    refine ⟨.ref s.heap.objs.size, _, I1, rfl, ⟨_, c, rfl, I.hok.fresh (Nat.le_refl _), rfl, hcx⟩, ⟨⟨.str ⟨#[c]⟩ u, ?_⟩, ⟨oi, (sb.2 it (Ne.symm ne)).trans gi, ri⟩, ne⟩, fun b hb => ?_⟩
    · rw [show ((i + 1 : Nat) : Int) = (i : Int) + 1 by omega]
      exact he'
    · have hb' : b < s.heap.objs.size := by
        rcases (show b = e ∨ b = it by simpa using hb) with z | z
        · rw [z]
          exact e_lt
        · rw [z]
          exact it_lt
      rw [upd_ne (Nat.ne_of_lt hb')]
      exact (hf b hb).1
  done := by
    intro X hP hw hK hc i pins s σ H E I hf st hg
    subst hP hw hK
    obtain ⟨⟨old, en⟩, ti, ne⟩ := st
    have hg : z.cps.size = i := hg
    obtain ⟨f0, f1, f2, f3, f4, f5⟩ := hf it (by simp)
    have hh : X.A.in1.handled = none := I.ok.hd hc
    exact wpAny_pyNext_enum_endD (Draws.text hh it z tz) en (by rw [hg]; exact ti) fun h' eb => ⟨rfl, I.turned (t' := s.toks) (fun b o hb q => eb b o hb q) f0 f1 f3 f4 f5⟩
  self := fun A i s Q E st k => let ⟨⟨_, en⟩, _⟩ := st; wpAny_pyIter_enum en k
theorem vals_str1 {z : Str} {us : List Value} (r : Vals [V.str z] us) : ∃ u, us = [.str z u] := by
  cases r with
  | cons h t =>
    obtain ⟨u, rfl⟩ := h
    cases t
    exact ⟨u, rfl⟩
def iEnumS (ta : TA) : TI := fun σ H R => ta σ H fun vs H1 => ∃ z, vs = [.str z] ∧ R (IteS z) H1
theorem pi_enumS {X : Cx} {e : Expr} {ta : TA} {p pos tpos : Pos} {elts : List Expr} {kk : Nat} (hg : Gl X "enumerate") (hm : X.mg "enumerate" = none) (ha : PA X [e] ta) (hs : starEach [e] X.env = [(false, eval e X.env)] := by rfl) :
    PI X (.Tuple elts kk tpos) (.Call (.Name "enumerate" p) [e] [] pos) (iEnumS ta) := by
  refine ⟨fun pins s σ H R I h => ?_⟩
  refine Call_ (ld_blt I hg hm boot_enumerate (PyProof.Rows.callWith_type1 (thn (ha.run pos pins s σ H _ I h) fun us s1 ⟨vs, H1, I1, r1, q1⟩ => ?_) hs rfl))
  obtain ⟨z, rfl, q⟩ := q1
  obtain ⟨u, rfl⟩ := vals_str1 r1
  have B := begins_text z u
  generalize hty : strIterType z = ty at B
  refine K6.enum_call B trivial fun h' en gi hk => wpAny_pyIter_enum en ?_
  have I2 : Inv X pins σ H1 { s1 with heap := h' } := I1.kept (t' := s1.toks) hk
  have st : h'.IsStrIter s1.heap.objs.size (strIterType z) z u 0 := by
    rw [hty]
    exact ⟨_, gi, rfl, rfl⟩
  refine ⟨s1.heap.objs.size + 1, [s1.heap.objs.size + 1, s1.heap.objs.size], _, _, H1, rfl, I2, turn_enumS z u (s1.heap.objs.size + 1) s1.heap.objs.size, ⟨⟨.none, en⟩, st, Nat.succ_ne_self _⟩, fun b hb => ?_, q⟩
  have hle : s1.heap.objs.size ≤ b := by
    have hb' : b = s1.heap.objs.size + 1 ∨ b = s1.heap.objs.size := by simpa using hb
    exact hb'.elim (fun z => by rw [z]; exact Nat.le_add_right _ _) fun z => by rw [z]; exact Nat.le_refl _
  exact I1.fpOk hle (I1.hok.fresh hle)
theorem walk_enS {z : Str} : Walk (IteS z) z.cps.size (fun _ => True) (fun i H v H' => ∃ T c, v = .ref T ∧ H T = none ∧ H' = upd H T (.tup [.int (i : Nat), .str ⟨#[c]⟩]) ∧ z.cps[i]? = some c) :=
  ⟨fun i _ hi _ => hi, fun _ _ => rfl, fun _ _ _ _ _ _ y => y⟩
/-- of a list or a tuple -/
def iEnumLT (K : PySem.W.Frag) (ta : TA) : TI := fun σ H R => iEnum K ta σ H R ∨ K6.iEnumT K ta σ H R
theorem pi_enumLT {X : Cx} {e : Expr} {ta : TA} {p pos tpos : Pos} {elts : List Expr} {kk : Nat} (hg : Gl X "enumerate") (hm : X.mg "enumerate" = none) (ha : PA X [e] ta) (hs : starEach [e] X.env = [(false, eval e X.env)] := by rfl) :
    PI X (.Tuple elts kk tpos) (.Call (.Name "enumerate" p) [e] [] pos) (iEnumLT X.K ta) :=
  ⟨fun pins s σ H R I q => q.elim (fun q => (pi_enum hg hm ha hs).run pins s σ H R I q) fun q => (K6.pi_enumT hg hm ha hs).run pins s σ H R I q⟩
end K5
namespace W5
open PySem PySem.Spec PyProof.Rows L2 K0 K6
open K4 hiding Blt
/-- all but what stands at p is as it was -/
structure KB (p : Addr) (H H' : Hp) : Prop where
  kb : ∀ b o, b ≠ p → H b = some o → H' b = some o
  kp : ∀ l x y, H p = some (.lst [.ref l, x, y]) → ∃ x' y', H' p = some (.lst [.ref l, x', y'])
theorem KB.refl (p : Addr) (H : Hp) : KB p H H := ⟨fun _ _ _ e => e, fun _ x y e => ⟨x, y, e⟩⟩
theorem KB.trans {p : Addr} {H H1 H2 : Hp} (a : KB p H H1) (b : KB p H1 H2) : KB p H H2 := ⟨fun c o n e => b.kb c o n (a.kb c o n e), fun l x y e => by
  obtain ⟨x', y', e'⟩ := a.kp l x y e
  exact b.kp l x' y' e'⟩
theorem KB.sm {p : Addr} {H H' : Hp} (s : Same H H') : KB p H H' := ⟨fun b o _ e => s b o e, fun l x y e => ⟨x, y, s _ _ e⟩⟩
theorem KB.put {p l : Addr} {H : Hp} {x y x' y' : V} (h : H p = some (.lst [.ref l, x, y])) : KB p H (upd H p (.lst [.ref l, x', y'])) := ⟨fun b u n e => by rw [upd_ne n]; exact e, fun l2 x2 y2 e => by
  rw [h] at e
  cases e
  exact ⟨x', y', upd_same⟩⟩
theorem KB.l {K : PySem.W.Frag} {p a : Addr} {H H' : Hp} {xs : List V} (s : KB p H H') (n : a ≠ p) (h : SqL K H a xs) : SqL K H' a xs := by
  rcases h with (h | ⟨o, h⟩) | h
  · exact .inl (.inl (s.kb _ _ n h))
  · exact .inl (.inr ⟨o, s.kb _ _ n h⟩)
  · exact .inr h
/-- the pen at p: its numbers, how often it was dipped (at most T times), what is left of a great number -/
def PenAt (H : Hp) (p : Addr) (T : Nat) : Prop := ∃ (l : Addr) (ns : List Int) (t r : Int), H p = some (.lst [.ref l, .int t, .int r]) ∧ H l = some (.lst (ns.map V.int)) ∧ l ≠ p ∧ ns.length ≤ 63 ∧ 0 ≤ t ∧ t ≤ T ∧ 0 ≤ r
theorem PenAt.mono {H : Hp} {p : Addr} {T T' : Nat} (h : PenAt H p T) (ht : T ≤ T') : PenAt H p T' := by
  obtain ⟨l, ns, t, r, a, b, c, d, e, f, g⟩ := h
  exact ⟨l, ns, t, r, a, b, c, d, e, by omega, g⟩
theorem PenAt.sm {H H' : Hp} {p : Addr} {T : Nat} (h : PenAt H p T) (s : Same H H') : PenAt H' p T := by
  obtain ⟨l, ns, t, r, a, b, c, d, e, f, g⟩ := h
  exact ⟨l, ns, t, r, s _ _ a, s _ _ b, c, d, e, f, g⟩
theorem PenAt.some {H : Hp} {p : Addr} {T : Nat} (h : PenAt H p T) : ∃ xs, H p = some (.lst xs) := by
  obtain ⟨l, ns, t, r, a, _⟩ := h
  exact ⟨_, a⟩
theorem PenAt.ne {H : Hp} {p q : Addr} {T : Nat} (h : PenAt H p T) (n : H q = none) : q ≠ p := fun e => by
  obtain ⟨xs, a⟩ := h.some
  rw [e, a] at n
  cases n
/-! flat data -/
def datV : V → PyData
  | .bl b => .bool b
  | .int i => .int i
  | .str x => .str x
  | _ => .none
def datOk : V → Bool
  | .bl _ => true
  | .int _ => true
  | .str x => (PyData.str x).canLay0
  | .non => true
  | _ => false
theorem dp_one {K : PySem.W.Frag} {H : Hp} {v : V} (h : datOk v = true) : Dp K H v (datV v) := by
  cases v with
  | non => exact .non
  | bl b => exact .bl b
  | int i => exact .int i
  | str x => exact .str x
  | byt b => cases h
  | flt b => cases h
  | ref a => cases h
  | ty n => cases h
theorem dp_all {K : PySem.W.Frag} {H : Hp} : ∀ {xs : List V}, xs.all datOk = true → DpAll K H xs (xs.map datV)
  | [], _ => .nil
  | x :: r, h => by
    rw [List.all_cons, Bool.and_eq_true] at h
    exact .cons (dp_one h.1) (dp_all h.2)
theorem lay_one {v : V} (h : datOk v = true) : (datV v).canLay0 = true := by
  cases v with
  | non => rfl
  | bl b => rfl
  | int i => rfl
  | str x => exact h
  | byt b => cases h
  | flt b => cases h
  | ref a => cases h
  | ty n => cases h
theorem dep_one (v : V) : (datV v).depth = 0 := by
  cases v <;> rfl
theorem lay_all : ∀ {xs : List V}, xs.all datOk = true → PyData.canLayAll0 (xs.map datV) = true
  | [], _ => rfl
  | x :: r, h => by
    rw [List.all_cons, Bool.and_eq_true] at h
    show (PyData.canLay0 (datV x) && PyData.canLayAll0 (r.map datV)) = true
    rw [lay_one h.1, lay_all h.2]
    rfl
theorem dep_all : ∀ xs : List V, PyData.depthAll (xs.map datV) = 0
  | [] => rfl
  | x :: r => by
    show max (PyData.depth (datV x)) (PyData.depthAll (r.map datV)) = 0
    rw [dep_one, dep_all r]
    rfl
theorem dat_shaped {xs : List V} (h : xs.all datOk = true) : SeqAt.shaped (.list (xs.map datV)) = true := by
  unfold SeqAt.shaped
  rw [show (PyData.list (xs.map datV)).canLay0 = PyData.canLayAll0 (xs.map datV) from rfl, lay_all h, Bool.true_and]
  apply decide_eq_true
  show PyData.depthAll (xs.map datV) + 1 ≤ 64
  rw [dep_all]
  decide
theorem cutP {B A : Prop} (f : B → A) (b : B) : A := f b
theorem at_in {α : Type} {xs : List α} {i : Int} (h0 : 0 ≤ i) (h1 : i < xs.length) : ∃ v, v ∈ xs ∧ atI xs i = some v ∧ xs[i.toNat]? = some v := by
  have hlt : i.toNat < xs.length := by omega
  refine ⟨xs[i.toNat], List.getElem_mem hlt, ?_, List.getElem?_eq_getElem hlt⟩
  have q := atI_nat (xs := xs) (j := i.toNat) (v := xs[i.toNat]) (List.getElem?_eq_getElem hlt)
  rw [Int.toNat_of_nonneg h0] at q
  exact q
section
variable {P : Program} {w : World} {K : PySem.W.Frag} {mg : Str → Option Value} {base : Heap}
abbrev nm_l_pen : List Str := ["_law_script", "_law_cell"]
def spPen (K : PySem.W.Frag) : Sp := fun vs H Q _ => ∃ (a : Addr) (ns : List Int), vs = [.ref a] ∧ SqL K H a (ns.map V.int) ∧ ns.length ≤ 63 ∧ ∀ H' p, Same H H' → PenAt H' p 0 → Q (.ref p) H'
abbrev nm_l_draw : List Str := ["_law_pen_here", "_law_many", "_law_at", "_law_cell", "_law_mixed", "_law_rest"]
def spDraw (K : PySem.W.Frag) : Sp := fun vs H Q _ => ∃ (p : Addr) (many : Int) (T : Nat), vs = [.ref p, .int many] ∧ PenAt H p T ∧ T < 1000000 ∧ 1 ≤ many ∧ many ≤ 1000 ∧
  ∀ H' v, KB p H H' → PenAt H' p (T + 1) → 0 ≤ v → v < many → Q (.int v) H'
abbrev st_l_pick : Stmt := top 43
abbrev nm_l_pick : List Str := ["_law_pen_here", "_law_some"]
theorem sc_l_pick : FnScope nm_l_pick ["_law_pen_here", "_law_some"] (defScope st_l_pick) := ⟨rfl, rfl, rfl, by decide +kernel, rfl, by decide +kernel, by decide +kernel⟩
def spPick (K : PySem.W.Frag) : Sp := fun vs H Q _ => ∃ (p : Addr) (s : V) (T : Nat), vs = [.ref p, s] ∧ PenAt H p T ∧ T < 1000000 ∧
  ((∃ (a : Addr) (xs : List V), s = .ref a ∧ SqL K H a xs ∧ a ≠ p ∧ 1 ≤ xs.length ∧ xs.length ≤ 1000 ∧ ∀ H' v, KB p H H' → PenAt H' p (T + 1) → v ∈ xs → Q v H') ∨
   ∃ l : List Nat, s = .str (Tx l) ∧ 1 ≤ l.length ∧ l.length ≤ 1000 ∧ ∀ H' c, KB p H H' → PenAt H' p (T + 1) → c ∈ l → Q (.str (Tx [c])) H')
abbrev CPick (P : Program) (w : World) (K : PySem.W.Frag) (mg : Str → Option Value) (base : Heap) : Prop := Cal P w K mg base 2 "_law_pick" st_l_pick ["_law_pen_here", "_law_some"] (spPick K)
abbrev st_is_word : Stmt := top 6
abbrev nm_is_word : List Str := ["value"]
theorem sc_is_word : FnScope nm_is_word ["value"] (defScope st_is_word) := ⟨rfl, rfl, rfl, by decide +kernel, rfl, by decide +kernel, by decide +kernel⟩
def spIsWord (K : PySem.W.Frag) : Sp := fun vs H Q _ => ∃ v, vs = [v] ∧ Sov K H v (fun l => Q (.bl (lw l && decide (l.length ≤ 12))) H) (Q (.bl false) H)
theorem int_le (n k : Nat) : decide ((n : Int) ≤ (k : Int)) = decide (n ≤ k) := by
  by_cases h : n ≤ k
  · rw [decide_eq_true h]
    exact decide_eq_true (by omega)
  · rw [decide_eq_false h]
    exact decide_eq_false (by omega)
theorem ok_is_word {f : Addr} {fd : FuncData} (F : Fun K "is_word" "is_word" st_is_word f fd) (T : Blt mg) (C_is_long_word : CLW P w K mg base) : FnOk P w K mg base CX0 2 f fd ["value"] (spIsWord K) := by
  refine F.ok sc_is_word (fun vs H Q E h => ?_) (fun cdv A outer s H vs Q E hr h => ?_)
  · obtain ⟨v, rfl, _⟩ := h
    rfl
  · refine ⟨_, (pss_one (ps_ret (pe_and (pe_cl C_is_long_word (hr.mono (by decide)) rfl (pa_cons (pv 0) pa_nil)) (pe_one (pe_cmpR op_le (pe_callB call_len_str (by rfl) T.n_len (by decide +kernel) (pa_cons (pv 0) pa_nil)) pe_int (nomark _)))))), ?_⟩
    obtain ⟨v, rfl, ⟨l, rfl, hl, q⟩ | ⟨n, kd, hn, q⟩⟩ := h
    · refine ⟨_, rfl, _, rfl, .inl ⟨l, rfl, hl, _, rfl, ?_⟩⟩
      cases h1 : lw l
      · rw [h1] at q
        exact q
      · rw [h1] at q
        refine ⟨_, rfl, _, rfl, (by rw [tx_len]; exact Nat.le_trans hl (by decide)), _, _, rfl, rfl, ?_⟩
        rw [tx_len]
        show Q (V.bl (decide ((l.length : Int) ≤ 12))) H
        rw [show decide ((l.length : Int) ≤ 12) = decide (l.length ≤ 12) from int_le l.length 12]
        exact q
    · exact ⟨_, rfl, _, rfl, .inr ⟨n, kd, hn, _, rfl, q⟩⟩
abbrev st_i_BadWord : Stmt := inClass (top 9) 0
theorem sc_i_BadWord : FnScope ["self", "part"] ["self", "part"] (defScope st_i_BadWord) := ⟨rfl, rfl, rfl, by decide +kernel, rfl, by decide +kernel, by decide +kernel⟩
theorem ok_i_BadWord {f : Addr} {fd : FuncData} (F : Fun K "__init__" "BadWord.__init__" st_i_BadWord f fd) : FnOk P w K mg base CX0 1 f fd ["self", "part"] (spInit1 K "part") := by
  refine F.ok sc_i_BadWord (fun vs H Q E h => ?_) (fun cdv A outer s H vs Q E hr h => ?_)
  · obtain ⟨a, C, v, rfl, _⟩ := h
    rfl
  · obtain ⟨a, C, v, rfl, T, hno, ha, k⟩ := h
    exact ⟨_, pss_one (ps_ost (pv 0) (pv 1)), _, rfl, _, rfl, a, C, rfl, T, hno, .inl ⟨ha, fun dx n ne => k dx n ne⟩⟩
variable {cs : Nat → Addr}
def wdOk (l : List Nat) : Bool := lw l && decide (l.length ≤ 12)
def XPart (cs : Nat → Addr) (no : Nat) (z : Str) (H : Hp) (E : XW) : Prop := Rq cs no [("part", .str z)] H E
theorem XPart.sm {no : Nat} {z : Str} {H H' : Hp} {E : XW} (h : XPart cs no z H E) (s : Same H H') : XPart cs no z H' E := Rq.sm s h
abbrev CIw (P : Program) (w : World) (K : PySem.W.Frag) (mg : Str → Option Value) (base : Heap) : Prop := Cal P w K mg base 2 "is_word" st_is_word ["value"] (spIsWord K)
abbrev st_need_number : Stmt := top 17
abbrev nm_need_number : List Str := ["value", "part", "least", "most"]
theorem sc_need_number : FnScope nm_need_number ["value", "part", "least", "most"] (defScope st_need_number) := ⟨rfl, rfl, rfl, by decide +kernel, rfl, by decide +kernel, by decide +kernel⟩
def spNeedNumber (K : PySem.W.Frag) (cs : Nat → Addr) : Sp := fun vs H Q E => ∃ (v lo hi : V) (z : Str), vs = [v, .str z, lo, hi] ∧ ((∃ n, Kd K H v n ∧ (n == "int") = false ∧ XPart cs 1 z H E) ∨
  ∃ i, v = .int i ∧ Bnd lo ∧ Bnd hi ∧ ((okLo lo i && okHi hi i) = true → Q .non H) ∧ ((okLo lo i && okHi hi i) = false → XPart cs 1 z H E))
theorem ok_need_number {f : Addr} {fd : FuncData} (F : Fun K "need_number" "need_number" st_need_number f fd) (E_BadNumber : Rs1 P w K mg base "BadNumber" (cs 1) "part")
    (C_is_within : Cal P w K mg base 2 "is_within" st_is_within ["value", "least", "most"] (spIsWithin K)) : FnOk P w K mg base (L2.CX P w) 3 f fd ["value", "part", "least", "most"] (spNeedNumber K cs) := by
  refine F.okX sc_need_number (fun vs H Q E h => ?_) (fun cdv A outer s H vs Q E hr h => ?_)
  · obtain ⟨v, lo, hi, z, rfl, _⟩ := h
    rfl
  · refine ⟨_, (pss_one (ps_if (pt_not (pt_val (pe_cl C_is_within (hr.mono (by decide)) rfl (pa_cons (pv 0) (pa_cons (pv 2) (pa_cons (pv 3) pa_nil)))))) (pss_one (ps_raise1 E_BadNumber (hr.mono (by decide)) rfl (takes_of rfl rfl rfl rfl) rfl (pa_cons (pv 1) pa_nil))) pss_nil)), ?_⟩
    obtain ⟨v, lo, hi, z, rfl, h⟩ := h
    rcases h with ⟨n, kd, hn, q⟩ | ⟨i, rfl, b1, b2, q1, q2⟩
    · exact ⟨_, rfl, _, rfl, _, rfl, _, _, _, rfl, .inl ⟨n, kd, hn, _, rfl, _, rfl, raise1 q⟩⟩
    · refine ⟨_, rfl, _, rfl, _, rfl, _, _, _, rfl, .inr ⟨i, rfl, b1, b2, _, rfl, ?_⟩⟩
      cases c : (okLo lo i && okHi hi i)
      · exact ⟨_, rfl, raise1 (q2 c)⟩
      · exact q1 c
/-- a name, or not -/
def Wv (K : PySem.W.Frag) (H : Hp) (x : V) (b : Bool) : Prop := Sov K H x (fun l => b = wdOk l) (b = false)
def Wvs (K : PySem.W.Frag) (H : Hp) (xs : List V) (bs : List Bool) : Prop := xs.length = bs.length ∧ ∀ (i : Nat) x, xs[i]? = some x → Wv K H x (bs.getD i false)
abbrev st_need_own_words : Stmt := top 28
abbrev nm_need_own_words : List Str := ["words", "word"]
theorem sc_need_own_words : FnScope nm_need_own_words ["words"] (defScope st_need_own_words) := ⟨rfl, rfl, rfl, by decide +kernel, rfl, by decide +kernel, by decide +kernel⟩
def spNeedOwn (K : PySem.W.Frag) (cs : Nat → Addr) : Sp := fun vs H Q E => ∃ v n, vs = [v] ∧ Kd K H v n ∧ (((n == "list" || n == "tuple") = false ∧ XPart cs 0 "words" H E) ∨
  ((n == "list" || n == "tuple") = true ∧ ∃ a xs bs, v = .ref a ∧ SqLT K H a xs ∧ xs.length ≤ 1000 ∧ Wvs K H xs bs ∧ ((xs ≠ [] ∧ bs.all id = true) → ∀ H', Same H H' → Q .non H') ∧ (¬ (xs ≠ [] ∧ bs.all id = true) → XPart cs 0 "words" H E)))
theorem ok_need_own_words {f : Addr} {fd : FuncData} (F : Fun K "need_own_words" "need_own_words" st_need_own_words f fd) (T : Blt mg) (E_BadWord : Rs1 P w K mg base "BadWord" (cs 0) "part") (C_is_list : Cal P w K mg base 1 "is_list" st_is_list ["value"] (spIsList K))
    (C_is_word : CIw P w K mg base) : FnOk P w K mg base (L2.CX P w) 3 f fd ["words"] (spNeedOwn K cs) := by
  refine F.okX sc_need_own_words (fun vs H Q E h => ?_) (fun cdv A outer s H vs Q E hr h => ?_)
  · obtain ⟨v, n, rfl, _⟩ := h
    rfl
  · refine ⟨_, (pss_one (ps_if (PW.pt (pw_or (pt_not (pt_val (pe_cl C_is_list (hr.mono (by decide)) rfl (pa_cons (pv 0) pa_nil)))) (pw_or (pt_cmpR op_eq (pe_callB call_len_seq (by rfl) T.n_len (by decide +kernel) (pa_cons (pv 0) pa_nil)) pe_int (nomark _)) (pw_or1 (pt_not (pt_val (pe_callB (cr_all rfl) (by rfl) T.n_all (by decide +kernel) (pa_cons (pe_lc (own := [("word", 1)]) (g := (gName 1)) (tt := tYes) rfl sc_need_own_words.nd (pi_lt (pv 0)) (blkOk_by (N := nm_need_own_words) (sc := defScope st_need_own_words) (own := [("word", 1)]) (by decide +kernel)) (fun _ _ _ _ _ => by exact pg_name (i := 1) sc_need_own_words.nd rfl (Or.inl rfl)) (fun _ _ _ _ _ => pts_nil) (fun _ _ _ _ _ => (pe_cl C_is_word (hr.mono (by decide)) rfl (pa_cons (pv 1) pa_nil)))) pa_nil)))))))) (pss_one (ps_raise1 E_BadWord (hr.mono (by decide)) rfl (takes_of rfl rfl rfl rfl) rfl (pa_cons pe_str pa_nil))) pss_nil)), ?_⟩
    obtain ⟨v, n, rfl, kd, ⟨hn, q⟩ | ⟨hn, a, xs, bs, rfl, hS, hl, hk, q1, q2⟩⟩ := h
    · refine ⟨_, rfl, v, n, rfl, kd, fun H1 s1 => ⟨_, rfl, ?_⟩⟩
      rw [hn]
      exact iteT (iteT (raise1 (XPart.sm q s1)))
    · refine ⟨_, rfl, _, n, rfl, kd, fun H1 s1 => ⟨_, rfl, ?_⟩⟩
      rw [hn]
      refine iteF ⟨_, rfl, a, xs, rfl, hS.imp (sm_l s1) (sm_t s1), rfl, _, rfl, ?_⟩
      by_cases h0 : xs = []
      · subst h0
        exact iteT (iteT (raise1 (XPart.sm (q2 fun z => z.1 rfl) s1)))
      · rw [decide_eq_false fun z => h0 (List.length_eq_zero_iff.mp (by have := V.int.inj z; omega))]
        refine iteF ?_
        rcases hS with h | h
        · refine .inl ⟨_, rfl, a, rfl, ⟨_, sm_l s1 h⟩, fun D hD => ?_⟩
          refine lc_it walk_list (SPv H1 D fun i => (bs.take i).map V.bl) (spv0 hD rfl) (fun i H2 _ p => sm_l (s1.trans p.1) h) ?_ ?_
          · rintro i x H2 H3 hi ⟨p1, p2⟩ ⟨rfl, hx⟩
            have hik : i < bs.length := by
              rw [← hk.1]
              exact hi
            have hb := sov_same (s1.trans p1) (hk.2 i x hx)
            have fin : ∃ acc, H3 D = some (.lst acc) ∧ acc.length < sizeLine ∧ SPv H1 D (fun i => (bs.take i).map V.bl) (i + 1) (upd H3 D (.lst (acc ++ [.bl (bs.getD i false)]))) := by
              refine spv_put hD p1 p2 ?_ ?_
              · rw [List.length_map, List.length_take]
                omega
              · rw [List.take_succ, List.map_append, List.getElem?_eq_getElem hik]
                simp [hik]
            refine ⟨rfl, _, rfl, x, rfl, ?_⟩
            refine hb.imp (fun ⟨l, e, hl, z⟩ => ⟨l, e, hl, ?_⟩) fun ⟨n, kd, hn, z⟩ => ⟨n, kd, hn, ?_⟩
            · rw [z] at fin
              exact fin
            · rw [z] at fin
              exact fin
          · rintro H2 ⟨p1, p2⟩
            dsimp only at p2
            rw [hk.1, List.take_length] at p2
            refine ⟨D, bs, rfl, SqL.of p2, _, rfl, ?_⟩
            cases hall : bs.all id
            · exact iteT (raise1 ((q2 fun z => by rw [hall] at z; cases z.2).sm (s1.trans p1)))
            · exact iteF (q1 ⟨h0, hall⟩ _ (s1.trans p1))
        · refine .inr ⟨_, rfl, a, rfl, ⟨_, sm_t s1 h⟩, fun D hD => ?_⟩
          refine lc_it walk_tup (SPv H1 D fun i => (bs.take i).map V.bl) (spv0 hD rfl) (fun i H2 _ p => sm_t (s1.trans p.1) h) ?_ ?_
          · rintro i x H2 H3 hi ⟨p1, p2⟩ ⟨rfl, hx⟩
            have hik : i < bs.length := by
              rw [← hk.1]
              exact hi
            have hb := sov_same (s1.trans p1) (hk.2 i x hx)
            have fin : ∃ acc, H3 D = some (.lst acc) ∧ acc.length < sizeLine ∧ SPv H1 D (fun i => (bs.take i).map V.bl) (i + 1) (upd H3 D (.lst (acc ++ [.bl (bs.getD i false)]))) := by
              refine spv_put hD p1 p2 ?_ ?_
              · rw [List.length_map, List.length_take]
                omega
              · rw [List.take_succ, List.map_append, List.getElem?_eq_getElem hik]
                simp [hik]
            refine ⟨rfl, _, rfl, x, rfl, ?_⟩
            refine hb.imp (fun ⟨l, e, hl, z⟩ => ⟨l, e, hl, ?_⟩) fun ⟨n, kd, hn, z⟩ => ⟨n, kd, hn, ?_⟩
            · rw [z] at fin
              exact fin
            · rw [z] at fin
              exact fin
          · rintro H2 ⟨p1, p2⟩
            dsimp only at p2
            rw [hk.1, List.take_length] at p2
            refine ⟨D, bs, rfl, SqL.of p2, _, rfl, ?_⟩
            cases hall : bs.all id
            · exact iteT (raise1 ((q2 fun z => by rw [hall] at z; cases z.2).sm (s1.trans p1)))
            · exact iteF (q1 ⟨h0, hall⟩ _ (s1.trans p1))
abbrev st_need_wide : Stmt := top 29
abbrev nm_need_wide : List Str := ["wide"]
theorem sc_need_wide : FnScope nm_need_wide ["wide"] (defScope st_need_wide) := ⟨rfl, rfl, rfl, by decide +kernel, rfl, by decide +kernel, by decide +kernel⟩
def spNeedWide (K : PySem.W.Frag) (cs : Nat → Addr) : Sp := fun vs H Q E => ∃ v, vs = [v] ∧ ((∃ n, Kd K H v n ∧ (n == "int") = false ∧ XPart cs 1 "wide" H E) ∨ ∃ i : Int, v = .int i ∧ (decide (1 ≤ i ∧ i ≤ 2) = true → Q .non H) ∧ (decide (1 ≤ i ∧ i ≤ 2) = false → XPart cs 1 "wide" H E))
abbrev CNn (P : Program) (w : World) (K : PySem.W.Frag) (mg : Str → Option Value) (base : Heap) (cs : Nat → Addr) : Prop := CalX P w K mg base 3 "need_number" st_need_number ["value", "part", "least", "most"] (spNeedNumber K cs)
theorem ok_need_wide {f : Addr} {fd : FuncData} (F : Fun K "need_wide" "need_wide" st_need_wide f fd) (C_need_number : CNn P w K mg base cs) : FnOk P w K mg base (L2.CX P w) 4 f fd ["wide"] (spNeedWide K cs) := by
  refine F.okX sc_need_wide (fun vs H Q E h => ?_) (fun cdv A outer s H vs Q E hr h => ?_)
  · obtain ⟨v, rfl, _⟩ := h
    rfl
  · refine ⟨_, (pss_one (ps_expr (pe_clX C_need_number (passes_call (takes_of rfl rfl rfl rfl) fun _ _ _ _ z => z) (hr.mono (by decide)) rfl (pa_cons (pv 0) (pa_cons pe_str (pa_cons pe_int (pa_cons pe_int pa_nil))))))), ?_⟩
    obtain ⟨v, rfl, ⟨n, kd, hn, q⟩ | ⟨i, rfl, q1, q2⟩⟩ := h
    · exact ⟨_, rfl, _, _, _, _, rfl, .inl ⟨n, kd, hn, q⟩⟩
    · have e : (okLo (.int 1) i && okHi (.int 2) i) = decide (1 ≤ i ∧ i ≤ 2) := by
        rw [Bool.decide_and]
        rfl
      refine ⟨_, rfl, _, _, _, _, rfl, .inr ⟨i, rfl, .inr ⟨1, rfl⟩, .inr ⟨2, rfl⟩, ?_⟩⟩
      rw [e]
      exact ⟨q1, q2⟩
abbrev st_need_few_words : Stmt := top 30
abbrev nm_need_few_words : List Str := ["words"]
theorem sc_need_few_words : FnScope nm_need_few_words ["words"] (defScope st_need_few_words) := ⟨rfl, rfl, rfl, by decide +kernel, rfl, by decide +kernel, by decide +kernel⟩
structure Cst5 (mg : Str → Option Value) : Prop where
  words : ∃ t, mg "MOST_WORDS" = some (.int 12 t)
  edge : ∃ t, mg "EDGE" = some (.str "#" t)
def XMany (cs : Nat → Addr) (H : Hp) (E : XW) : Prop := Rq cs 3 [("most", .int 12), ("what", .str "words")] H E
def spNeedFew (K : PySem.W.Frag) (cs : Nat → Addr) : Sp := fun vs H Q E => ∃ a xs, vs = [.ref a] ∧ SqLT K H a xs ∧ (xs.length ≤ 12 → Q .non H) ∧ (12 < xs.length → XMany cs H E)
theorem ok_need_few {f : Addr} {fd : FuncData} (F : Fun K "need_few_words" "need_few_words" st_need_few_words f fd) (T : Blt mg) (TC : Cst5 mg) (E_TooMany : Rs2 P w K mg base "TooMany" (cs 3) "what" "most") : FnOk P w K mg base (L2.CX P w) 3 f fd ["words"] (spNeedFew K cs) := by
  refine F.okX sc_need_few_words (fun vs H Q E h => ?_) (fun cdv A outer s H vs Q E hr h => ?_)
  · obtain ⟨a, xs, rfl, _⟩ := h
    rfl
  · obtain ⟨t_, g_MOST_WORDS⟩ := TC.words
    refine ⟨_, (pss_one (ps_if (pt_cmpR op_gt (pe_callB call_len_seq (by rfl) T.n_len (by decide +kernel) (pa_cons (pv 0) pa_nil)) (pe_glob (v := .int 12) rfl g_MOST_WORDS ⟨_, rfl⟩) (nomark _)) (pss_one (ps_raise2 E_TooMany (hr.mono (by decide)) rfl (takes_of rfl rfl rfl rfl) rfl (pa_cons pe_str (pa_cons (pe_glob (v := .int 12) rfl g_MOST_WORDS ⟨_, rfl⟩) pa_nil)))) pss_nil)), ?_⟩
    obtain ⟨a, xs, rfl, hS, q1, q2⟩ := h
    refine ⟨_, rfl, a, xs, rfl, hS, _, _, rfl, rfl, _, rfl, ite2 (fun c => ?_) (fun c => ?_)⟩
    · have c : (12 : Int) < xs.length := of_decide_eq_true c
      exact raise2 (q2 (by omega))
    · have c : ¬ ((12 : Int) < xs.length) := fun z => c (decide_eq_true z)
      exact q1 (by omega)
end
end W5
namespace W5
open PySem PySem.Spec PyProof.Rows L2 K0 K6
open K4 hiding Blt
section
variable {P : Program} {w : World} {K : PySem.W.Frag} {mg : Str → Option Value} {base : Heap}
def lineOf (wide : Nat) (l : List Nat) : List Nat := List.replicate wide 35 ++ l ++ List.replicate wide 35
def nearL (wide : Nat) (l : List Nat) (p : Nat) : List Nat × List Nat := (((lineOf wide l).drop p).take wide, ((lineOf wide l).drop (p + wide + 1)).take wide)
theorem cut_ab (l : List Nat) {a b : Nat} (h : a + b ≤ l.length) : cutS (Tx l) (some (a : Int)) (some ((a + b : Nat) : Int)) = Tx ((l.drop a).take b) := by
  unfold cutS
  rw [tx_list, tx_len, HT.sIx_nat, HT.sIx_nat, Nat.min_eq_left h, Nat.min_eq_left (show a ≤ l.length by omega), Nat.add_sub_cancel_left]
  rfl
theorem rep_tx (k : Nat) : (⟨Array.replicate ((k : Nat) : Int).toNat ((Str.ofString "#").cps.getD 0 0)⟩ : Str) = Tx (List.replicate k 35) := by
  show (⟨Array.replicate k 35⟩ : Str) = ⟨(List.replicate k 35).toArray⟩
  rw [List.toArray_replicate]
theorem line_len (wide : Nat) (l : List Nat) : (lineOf wide l).length = l.length + 2 * wide := by
  unfold lineOf
  simp only [List.length_append, List.length_replicate]
  omega
abbrev nearV (n : List Nat × List Nat) : List V := [.str (Tx n.1), .str (Tx n.2)]
abbrev st_surroundings_at : Stmt := top 31
abbrev nm_surroundings_at : List Str := ["word", "place", "wide", "line", "at"]
theorem sc_surroundings_at : FnScope nm_surroundings_at ["word", "place", "wide"] (defScope st_surroundings_at) := ⟨rfl, rfl, rfl, by decide +kernel, rfl, by decide +kernel, by decide +kernel⟩
def spSurr : Sp := fun vs H Q _ => ∃ (l : List Nat) (p wide : Nat), vs = [.str (Tx l), .int (p : Nat), .int (wide : Nat)] ∧ l.length ≤ 1000 ∧ p < l.length ∧ wide ≤ 2 ∧ ∀ t, H t = none → Q (.ref t) (upd H t (.tup (nearV (nearL wide l p))))
theorem ok_surr {f : Addr} {fd : FuncData} (F : Fun K "surroundings_at" "surroundings_at" st_surroundings_at f fd) (TC : Cst5 mg) : FnOk P w K mg base CX0 1 f fd ["word", "place", "wide"] spSurr := by
  refine F.ok sc_surroundings_at (fun vs H Q E h => ?_) (fun cdv A outer s H vs Q E hr h => ?_)
  · obtain ⟨l, p, wide, rfl, _⟩ := h
    rfl
  · obtain ⟨t_, g_EDGE⟩ := TC.edge
    refine ⟨_, (pss_cons (ps_set (i := 3) sc_surroundings_at.nd rfl (Or.inl rfl) (pe_op op_add_str (pe_op op_add_str (pe_op op_mulS (pe_glob (v := .str "#") rfl g_EDGE ⟨_, rfl⟩) (pv 2)) (pv 0)) (pe_op op_mulS (pe_glob (v := .str "#") rfl g_EDGE ⟨_, rfl⟩) (pv 2))))
  (pss_cons (ps_set (i := 4) sc_surroundings_at.nd rfl (Or.inl rfl) (pe_op op_add (pv 1) (pv 2)))
  (pss_one (ps_ret (pe_tup (pa_cons (pe_slice sl_str (pv 3) (po_some (pv 1)) (po_some (pv 4))) (pa_cons (pe_slice sl_str (pv 3) (po_some (pe_op op_add (pv 4) pe_int)) (po_some (pe_op op_add (pe_op op_add (pv 4) pe_int) (pv 2)))) pa_nil))))))), ?_⟩
    obtain ⟨l, p, wide, rfl, hl, hp, hw, q⟩ := h
    have hs : ∀ n : Nat, n ≤ 2000 → n ≤ sizeLine := fun n h => Nat.le_trans h (by decide)
    refine ⟨_, rfl, Str.ofString "#", (wide : Nat), rfl, rfl, rfl, by omega, by omega, ?_⟩
    rw [rep_tx]
    refine ⟨_, rfl, _, _, rfl, rfl, by rw [tx_len, tx_len, List.length_replicate]; exact hs _ (by omega), ?_⟩
    rw [tx_app]
    refine ⟨_, rfl, Str.ofString "#", (wide : Nat), rfl, rfl, rfl, by omega, by omega, ?_⟩
    rw [rep_tx]
    refine ⟨_, _, rfl, rfl, by rw [tx_len, tx_len, List.length_append, List.length_replicate]; exact hs _ (by omega), ?_⟩
    rw [tx_app]
    have hln := line_len wide l
    have ell : List.replicate wide 35 ++ l ++ List.replicate wide 35 = lineOf wide l := rfl
    rw [ell]
    refine ⟨_, rfl, _, rfl, _, _, rfl, rfl, ?_⟩
    have e1 : ((p : Nat) : Int) + ((wide : Nat) : Int) = ((p + wide : Nat) : Int) := by omega
    dsimp only [gName]
    rw [e1]
    refine ⟨_, rfl, _, rfl, _, rfl, _, rfl, _, rfl, _, rfl, by rw [tx_len]; exact hs _ (by omega), ?_⟩
    rw [cut_ab _ (by omega)]
    refine ⟨_, rfl, _, rfl, _, _, rfl, rfl, _, rfl, _, rfl, _, _, rfl, rfl, _, rfl, _, _, rfl, rfl, _, rfl, _, rfl, by rw [tx_len]; exact hs _ (by omega), ?_⟩
    have e2 : cutS (Tx (lineOf wide l)) (some (((p + wide : Nat) : Int) + 1)) (some (((p + wide : Nat) : Int) + 1 + ((wide : Nat) : Int))) = Tx (((lineOf wide l).drop (p + wide + 1)).take wide) := by
      rw [← cut_ab (a := p + wide + 1) (b := wide) _ (by omega)]
      congr 2 <;> simp <;> omega
    rw [e2]
    exact ⟨by show 2 ≤ sizeLine; decide, fun t ht => q t ht⟩
end
end W5
namespace W5
open PySem PySem.Spec PyProof.Rows L2 K0 K6
open K4 hiding Blt
/-! ### pairs -/
def ipFrom (i : Nat) : Nat → List (Nat × Nat)
  | 0 => []
  | j + 1 => ipFrom i j ++ [(i, i + 1 + j)]
def ipTo (m : Nat) : Nat → List (Nat × Nat)
  | 0 => []
  | i + 1 => ipTo m i ++ ipFrom i (m - (i + 1))
def ipV (p : Nat × Nat) : V × V := (.int (p.1 : Nat), .int (p.2 : Nat))
theorem prFrom_ip (m i : Nat) : ∀ j, prFrom m i j = (ipFrom i j).map ipV
  | 0 => rfl
  | j + 1 => by
    have h := prFrom_ip m i j
    unfold prFrom at h ⊢
    rw [List.range_succ, List.map_append, h, ipFrom, List.map_append]
    rfl
theorem prTo_ip (m : Nat) : ∀ i, prTo m i = (ipTo m i).map ipV
  | 0 => rfl
  | i + 1 => by
    show prTo m i ++ prFrom m i (m - (i + 1)) = _
    rw [prTo_ip m i, prFrom_ip, ipTo, List.map_append]
theorem ipFrom_mem {i : Nat} : ∀ {j : Nat} {p : Nat × Nat}, p ∈ ipFrom i j → p.1 = i ∧ i < p.2 ∧ p.2 ≤ i + j
  | j + 1, p, h => by
    rcases List.mem_append.mp h with h | h
    · obtain ⟨a, b, c⟩ := ipFrom_mem h
      exact ⟨a, b, by omega⟩
    · rw [List.mem_singleton.mp h]
      exact ⟨rfl, by show i < i + 1 + j; omega, by show i + 1 + j ≤ _; omega⟩
theorem ipTo_mem {m : Nat} : ∀ {i : Nat} {p : Nat × Nat}, i ≤ m → p ∈ ipTo m i → p.1 < p.2 ∧ p.2 < m
  | i + 1, p, hi, h => by
    rcases List.mem_append.mp h with h | h
    · exact ipTo_mem (by omega) h
    · obtain ⟨a, b, c⟩ := ipFrom_mem h
      exact ⟨by omega, by omega⟩
theorem ipFrom_len (i : Nat) : ∀ j, (ipFrom i j).length = j
  | 0 => rfl
  | j + 1 => by rw [ipFrom, List.length_append, ipFrom_len i j]; rfl
theorem ipTo_len (m : Nat) : ∀ i, (ipTo m i).length ≤ m * i
  | 0 => Nat.zero_le _
  | i + 1 => by
    have := ipTo_len m i
    rw [ipTo, List.length_append, ipFrom_len, Nat.mul_succ]
    omega
/-- each with those behind it -/
def pr2 {α : Type} : List α → List (α × α)
  | [] => []
  | c :: r => r.map (fun d => (c, d)) ++ pr2 r
def prsOf (cs : List Nat) : List (Nat × Nat) := (ipTo cs.length cs.length).map fun p => (cs.getD p.1 0, cs.getD p.2 0)
theorem prsOf_from (cs : List Nat) {i : Nat} (hi : i < cs.length) : ∀ j, i + 1 + j ≤ cs.length → (ipFrom i j).map (fun p => (cs.getD p.1 0, cs.getD p.2 0)) = ((cs.drop (i + 1)).take j).map fun d => (cs[i], d)
  | 0, _ => rfl
  | j + 1, h => by
    rw [ipFrom, List.map_append, prsOf_from cs hi j (by omega), List.take_succ, List.map_append, List.getElem?_drop, List.getElem?_eq_getElem (show i + 1 + j < cs.length by omega)]
    congr 1
    show [(cs.getD i 0, cs.getD (i + 1 + j) 0)] = [(cs[i], cs[i + 1 + j])]
    rw [List.getD_eq_getElem?_getD, List.getD_eq_getElem?_getD, List.getElem?_eq_getElem hi, List.getElem?_eq_getElem (show i + 1 + j < cs.length by omega)]
    rfl
theorem prsOf_to (cs : List Nat) : ∀ i, i ≤ cs.length → pr2 cs = (ipTo cs.length i).map (fun p => (cs.getD p.1 0, cs.getD p.2 0)) ++ pr2 (cs.drop i)
  | 0, _ => rfl
  | i + 1, h => by
    have hi : i < cs.length := h
    rw [prsOf_to cs i (by omega), ipTo, List.map_append, prsOf_from cs hi _ (by omega), List.append_assoc]
    congr 1
    rw [List.drop_eq_getElem_cons hi, pr2]
    congr 1
    rw [List.take_of_length_le (by rw [List.length_drop]; omega)]
theorem prsOf_eq (cs : List Nat) : prsOf cs = pr2 cs := by
  have := prsOf_to cs cs.length (Nat.le_refl _)
  rw [List.drop_length] at this
  rw [this, show pr2 ([] : List Nat) = [] from rfl, List.append_nil]
  rfl
def sgV (c : Nat) : V := .str (Tx [c])
section
variable {P : Program} {w : World} {K : PySem.W.Frag} {mg : Str → Option Value} {base : Heap}
abbrev CPop (P : Program) (w : World) (K : PySem.W.Frag) (mg : Str → Option Value) (base : Heap) : Prop := Cal P w K mg base 1 "pairs_of_places" st_pairs_of_places ["many"] spPairs
abbrev st_pairs_among : Stmt := top 34
abbrev nm_pairs_among : List Str := ["values", "at", "beside"]
theorem sc_pairs_among : FnScope nm_pairs_among ["values"] (defScope st_pairs_among) := ⟨rfl, rfl, rfl, by decide +kernel, rfl, by decide +kernel, by decide +kernel⟩
end
end W5
namespace W5
open PySem PySem.Spec PyProof.Rows L2 K0 K6
open K4 hiding Blt
/-! ### the places of each sound, by what stands around -/
abbrev NB : Type := List Nat × List Nat
abbrev Occ : Type := Nat × NB × (Nat × Nat)
def kS (c : Nat) : L2.Key := .inr (Tx [c])
def kN (n : NB) : List L2.Key := [.inr (Tx n.1), .inr (Tx n.2)]
theorem kS_inj {c d : Nat} (h : kS c = kS d) : c = d := by
  have := tx_inj (Sum.inr.inj h)
  exact (List.cons.inj this).1
theorem kN_inj {n m : NB} (h : kN n = kN m) : n = m := by
  obtain ⟨a, b⟩ := n
  obtain ⟨c, d⟩ := m
  have h1 := List.cons.inj h
  have h2 := List.cons.inj h1.2
  have e1 : a = c := tx_inj (Sum.inr.inj h1.1)
  have e2 : b = d := tx_inj (Sum.inr.inj h2.1)
  rw [e1, e2]
def firstAt (L : List Occ) (c : Nat) (n : NB) : Option (Nat × Nat) := (L.find? fun x => decide (x.1 = c ∧ x.2.1 = n)).map (·.2.2)
theorem firstAt_snoc (L : List Occ) (c c' : Nat) (n n' : NB) (q : Nat × Nat) : firstAt (L ++ [(c, n, q)]) c' n' = match firstAt L c' n' with
    | some r => some r
    | none => if c' = c ∧ n' = n then some q else none := by
  unfold firstAt
  rw [List.find?_append]
  cases h : L.find? fun x => decide (x.1 = c' ∧ x.2.1 = n') with
  | some r => rfl
  | none =>
    show ((List.find? (fun x : Occ => decide (x.1 = c' ∧ x.2.1 = n')) [(c, n, q)]).map (·.2.2)) = _
    by_cases e : c' = c ∧ n' = n
    · obtain ⟨rfl, rfl⟩ := e
      simp
    · have e2 : ¬ (c = c' ∧ n = n') := fun z => e ⟨z.1.symm, z.2.symm⟩
      simp [List.find?_cons, e, e2]
abbrev plV (q : Nat × Nat) : List V := [.int (q.1 : Nat), .int (q.2 : Nat)]
structure InAt (H : Hp) (ts : List (List L2.Key × V)) (f : NB → Option (Nat × Nat)) : Prop where
  get : ∀ n q, f n = some q → ∃ t, valV ts (kN n) = some (.ref t) ∧ H t = some (.tup (plV q))
  no : ∀ n, f n = none → valV ts (kN n) = none
  keys : ∀ e ∈ ts, ∃ n, e.1 = kN n ∧ (f n).isSome = true
  nd : (ts.map (·.1)).Nodup
theorem InAt.sm {H H' : Hp} {ts : List (List L2.Key × V)} {f : NB → Option (Nat × Nat)} (h : InAt H ts f) (s : Same H H') : InAt H' ts f :=
  ⟨fun n q e => let ⟨t, a, b⟩ := h.get n q e; ⟨t, a, s _ _ b⟩, h.no, h.keys, h.nd⟩
theorem InAt.upd {H : Hp} {d : Addr} {o : HO} {ts : List (List L2.Key × V)} {f : NB → Option (Nat × Nat)} (h : InAt H ts f) (hd : ∀ xs, H d ≠ some (.tup xs)) : InAt (L2.upd H d o) ts f :=
  ⟨fun n q e => let ⟨t, a, b⟩ := h.get n q e; ⟨t, a, (upd_ne fun z => by rw [z] at b; exact hd _ b).trans b⟩, h.no, h.keys, h.nd⟩
theorem InAt.nil {H : Hp} {f : NB → Option (Nat × Nat)} (h : ∀ n, f n = none) : InAt H [] f := ⟨fun n q e => (by rw [h n] at e; cases e), fun _ _ => rfl, fun _ e => absurd e List.not_mem_nil, List.Pairwise.nil⟩
theorem InAt.ext {H : Hp} {ts : List (List L2.Key × V)} {f g : NB → Option (Nat × Nat)} (h : InAt H ts f) (e : ∀ n, f n = g n) : InAt H ts g := by
  have : f = g := funext e
  rw [← this]
  exact h
theorem InAt.put {H : Hp} {t : Addr} {ts : List (List L2.Key × V)} {f g : NB → Option (Nat × Nat)} {n : NB} {q : Nat × Nat} (h : InAt H ts f) (hn : f n = none) (ht : H t = some (.tup (plV q))) (hg : ∀ m, g m = if m = n then some q else f m) :
    InAt H (putK ts (kN n) (.ref t)) g := by
  have hv := h.no n hn
  refine ⟨fun m r e => ?_, fun m e => ?_, fun e he => ?_, nd_putK _ h.nd hv⟩
  · rw [hg] at e
    by_cases c : m = n
    · subst c
      rw [if_pos rfl] at e
      obtain rfl := Option.some.inj e
      refine ⟨t, ?_, ht⟩
      rw [valV_put, if_pos rfl]
    · rw [if_neg c] at e
      obtain ⟨u, a, b⟩ := h.get m r e
      refine ⟨u, ?_, b⟩
      rw [valV_put, if_neg fun z => c (kN_inj z)]
      exact a
  · rw [hg] at e
    by_cases c : m = n
    · rw [if_pos c] at e
      cases e
    · rw [if_neg c] at e
      rw [valV_put, if_neg fun z => c (kN_inj z)]
      exact h.no m e
  · rw [putK_new _ hv] at he
    rcases List.mem_append.mp he with he | he
    · obtain ⟨m, a, b⟩ := h.keys e he
      refine ⟨m, a, ?_⟩
      rw [hg]
      by_cases c : m = n
      · rw [if_pos c]
        rfl
      · rw [if_neg c]
        exact b
    · rw [List.mem_singleton.mp he]
      exact ⟨n, rfl, by rw [hg, if_pos rfl]; rfl⟩
/-- what was found in L stands at p -/
structure FdAt (H0 H : Hp) (p : Addr) (L : List Occ) (kvs : List (L2.Key × V)) (ks : List Nat) (da : Nat → Addr) : Prop where
  at_ : H p = some (.dK kvs)
  ks_ : kvs.map (·.1) = ks.map kS
  nd : ks.Nodup
  mem : ∀ c, c ∈ ks ↔ ∃ x ∈ L, x.1 = c
  len : kvs.length ≤ L.length
  val : ∀ c ∈ ks, valV kvs (kS c) = some (.ref (da c))
  inn : ∀ c ∈ ks, ∃ ts, H (da c) = some (.dT ts) ∧ ts.length ≤ L.length ∧ InAt H ts (firstAt L c)
  inj : ∀ c ∈ ks, ∀ d ∈ ks, da c = da d → c = d
  old : H0 p = none ∧ ∀ c ∈ ks, H0 (da c) = none
theorem FdAt.sm {H0 H H' : Hp} {p : Addr} {L : List Occ} {kvs : List (L2.Key × V)} {ks : List Nat} {da : Nat → Addr} (h : FdAt H0 H p L kvs ks da) (s : Same H H') : FdAt H0 H' p L kvs ks da :=
  ⟨s _ _ h.at_, h.ks_, h.nd, h.mem, h.len, h.val, fun c hc => let ⟨ts, a, b, i⟩ := h.inn c hc; ⟨ts, s _ _ a, b, i.sm s⟩, h.inj, h.old⟩
theorem FdAt.no {H0 H : Hp} {p : Addr} {L : List Occ} {kvs : List (L2.Key × V)} {ks : List Nat} {da : Nat → Addr} (h : FdAt H0 H p L kvs ks da) {c : Nat} (hc : c ∉ ks) : valV kvs (kS c) = none := by
  cases e : valV kvs (kS c) with
  | none => rfl
  | some v =>
    have := valV_in e
    rw [h.ks_] at this
    obtain ⟨d, hd, ed⟩ := List.mem_map.mp this
    rw [kS_inj ed] at hd
    exact absurd hd hc
theorem FdAt.nil {H0 H : Hp} {p : Addr} (h : H p = some (.dK [])) (n : H0 p = none) : FdAt H0 H p [] [] [] (fun _ => p) :=
  ⟨h, rfl, List.Pairwise.nil, fun c => ⟨fun z => absurd z List.not_mem_nil, fun ⟨_, z, _⟩ => absurd z List.not_mem_nil⟩, Nat.le_refl _, fun _ z => absurd z List.not_mem_nil, fun _ z => absurd z List.not_mem_nil, fun _ z => absurd z List.not_mem_nil, n, fun _ z => absurd z List.not_mem_nil⟩
theorem firstAt_no {L : List Occ} {c : Nat} (h : ¬ ∃ x ∈ L, x.1 = c) (n : NB) : firstAt L c n = none := by
  unfold firstAt
  rw [List.find?_eq_none.mpr]
  · rfl
  · intro x hx z
    exact h ⟨x, hx, (of_decide_eq_true z).1⟩
/-- a sound's own dict is there, or a new one is laid -/
theorem FdAt.own {H0 H : Hp} {p e : Addr} {L : List Occ} {kvs : List (L2.Key × V)} {ks : List Nat} {da : Nat → Addr} (h : FdAt H0 H p L kvs ks da) {c : Nat} (hc : c ∉ ks) (he : H e = none) (h0 : H0 e = none) (n : NB) (q : Nat × Nat) {t : Addr} (ht : H t = none) (nt : t ≠ e) :
    FdAt H0 (L2.upd (L2.upd (L2.upd (L2.upd H e (.dT [])) p (.dK (putK kvs (kS c) (.ref e)))) t (.tup (plV q))) e (.dT (putK [] (kN n) (.ref t)))) p (L ++ [(c, n, q)]) (putK kvs (kS c) (.ref e)) (ks ++ [c]) (fun d => if d = c then e else da d) := by
  have nep : e ≠ p := fun z => by rw [z, h.at_] at he; cases he
  have ntp : t ≠ p := fun z => by rw [z, h.at_] at ht; cases ht
  have hno := h.no hc
  have dd : ∀ d ∈ ks, da d ≠ e ∧ da d ≠ p ∧ da d ≠ t := fun d hd => by
    obtain ⟨ts, a, _⟩ := h.inn d hd
    exact ⟨fun z => (by rw [z, he] at a; cases a), fun z => (by rw [z, h.at_] at a; cases a), fun z => (by rw [z, ht] at a; cases a)⟩
  have hcL : ¬ ∃ x ∈ L, x.1 = c := fun z => hc ((h.mem c).mpr z)
  refine ⟨?_, ?_, ?_, fun d => ?_, ?_, fun d hd => ?_, fun d hd => ?_, fun d hd d' hd' => ?_, h.old.1, fun d hd => ?_⟩
  · rw [upd_ne nep.symm, upd_ne ntp.symm, upd_same]
  · rw [putK_new _ hno, List.map_append, h.ks_, List.map_append]
    rfl
  · exact List.nodup_append.mpr ⟨h.nd, List.nodup_cons.mpr ⟨List.not_mem_nil, List.Pairwise.nil⟩, fun a ha b hb e => hc (by rw [List.mem_singleton.mp hb] at e; rw [← e]; exact ha)⟩
  · rw [List.mem_append, List.mem_singleton, h.mem]
    constructor
    · rintro (⟨x, hx, e⟩ | rfl)
      · exact ⟨x, List.mem_append_left _ hx, e⟩
      · exact ⟨_, List.mem_append_right _ List.mem_cons_self, rfl⟩
    · rintro ⟨x, hx, e⟩
      rcases List.mem_append.mp hx with hx | hx
      · exact .inl ⟨x, hx, e⟩
      · rw [List.mem_singleton.mp hx] at e
        exact .inr e.symm
  · rw [putK_new _ hno, List.length_append, List.length_append]
    have := h.len
    exact Nat.add_le_add_right this 1
  · rw [valV_put]
    by_cases e1 : d = c
    · rw [e1, if_pos rfl, if_pos rfl]
    · rw [if_neg fun z => e1 (kS_inj z), if_neg e1]
      rcases List.mem_append.mp hd with hd | hd
      · exact h.val d hd
      · exact absurd (List.mem_singleton.mp hd) e1
  · by_cases e1 : d = c
    · subst e1
      rw [if_pos rfl]
      refine ⟨_, upd_same, by rw [List.length_append]; show 1 ≤ _ + 1; omega, ?_⟩
      refine InAt.put (q := q) (f := firstAt L d) (InAt.nil (firstAt_no hcL)) (firstAt_no hcL n) ?_ fun m => ?_
      · rw [upd_ne nt, upd_same]
      · rw [firstAt_snoc, firstAt_no hcL]
        by_cases e2 : m = n
        · rw [if_pos ⟨rfl, e2⟩, if_pos e2]
        · rw [if_neg fun z => e2 z.2, if_neg e2]
    · rw [if_neg e1]
      rcases List.mem_append.mp hd with hd | hd
      · obtain ⟨ts, a, b, i⟩ := h.inn d hd
        obtain ⟨n1, n2, n3⟩ := dd d hd
        refine ⟨ts, by rw [upd_ne n1, upd_ne n3, upd_ne n2, upd_ne n1]; exact a, by rw [List.length_append]; omega, ?_⟩
        have i1 := i.sm (Sm.new (o := .dT []) he)
        have i2 := i1.upd (d := p) (o := .dK (putK kvs (kS c) (.ref e))) fun xs z => by rw [upd_ne nep.symm, h.at_] at z; cases z
        have i3 := i2.upd (d := t) (o := .tup (plV q)) fun xs z => by rw [upd_ne ntp, upd_ne nt, ht] at z; cases z
        have i4 := i3.upd (d := e) (o := .dT (putK [] (kN n) (.ref t))) fun xs z => by rw [upd_ne nt.symm, upd_ne nep, upd_same] at z; cases z
        refine i4.ext fun m => ?_
        rw [firstAt_snoc]
        cases firstAt L d m with
        | some r => rfl
        | none => exact (if_neg fun z => e1 z.1).symm
      · exact absurd (List.mem_singleton.mp hd) e1
  · intro e1
    by_cases c1 : d = c
    · by_cases c2 : d' = c
      · rw [c1, c2]
      · rw [if_pos c1, if_neg c2] at e1
        rcases List.mem_append.mp hd' with hd' | hd'
        · exact absurd e1.symm (dd d' hd').1
        · exact absurd (List.mem_singleton.mp hd') c2
    · by_cases c2 : d' = c
      · rw [if_neg c1, if_pos c2] at e1
        rcases List.mem_append.mp hd with hd | hd
        · exact absurd e1 (dd d hd).1
        · exact absurd (List.mem_singleton.mp hd) c1
      · rw [if_neg c1, if_neg c2] at e1
        rcases List.mem_append.mp hd with hd | hd
        · rcases List.mem_append.mp hd' with hd' | hd'
          · exact h.inj d hd d' hd' e1
          · exact absurd (List.mem_singleton.mp hd') c2
        · exact absurd (List.mem_singleton.mp hd) c1
  · by_cases c1 : d = c
    · rw [if_pos c1]
      exact h0
    · rw [if_neg c1]
      rcases List.mem_append.mp hd with hd | hd
      · exact h.old.2 d hd
      · exact absurd (List.mem_singleton.mp hd) c1
/-- a sound met before: what stood around it then is kept, or laid -/
theorem FdAt.met {H0 H : Hp} {p : Addr} {L : List Occ} {kvs : List (L2.Key × V)} {ks : List Nat} {da : Nat → Addr} (h : FdAt H0 H p L kvs ks da) {c : Nat} (hc : c ∈ ks) (n : NB) (q : Nat × Nat) {ts : List (List L2.Key × V)} (hts : H (da c) = some (.dT ts)) :
    (∀ v, valV ts (kN n) = some v → FdAt H0 H p (L ++ [(c, n, q)]) kvs ks da) ∧
    (valV ts (kN n) = none → ∀ t, H t = some (.tup (plV q)) → FdAt H0 (L2.upd H (da c) (.dT (putK ts (kN n) (.ref t)))) p (L ++ [(c, n, q)]) kvs ks da) := by
  obtain ⟨ts', a, b, i⟩ := h.inn c hc
  rw [hts] at a
  obtain rfl : ts = ts' := HO.dT.inj (Option.some.inj a)
  have mem' : ∀ d, d ∈ ks ↔ ∃ x ∈ L ++ [(c, n, q)], x.1 = d := fun d => by
    rw [h.mem]
    constructor
    · rintro ⟨x, hx, e⟩
      exact ⟨x, List.mem_append_left _ hx, e⟩
    · rintro ⟨x, hx, e⟩
      rcases List.mem_append.mp hx with hx | hx
      · exact ⟨x, hx, e⟩
      · rw [List.mem_singleton.mp hx] at e
        rw [← e]
        exact (h.mem c).mp hc
  have ll : (L ++ [(c, n, q)]).length = L.length + 1 := by rw [List.length_append]; rfl
  have other : ∀ {d : Nat} {m : NB}, ¬ (d = c ∧ m = n) → firstAt L d m = firstAt (L ++ [(c, n, q)]) d m := fun {d m} e => by
    rw [firstAt_snoc]
    cases firstAt L d m with
    | some r => rfl
    | none => exact (if_neg e).symm
  constructor
  · intro v hv
    have hf : ∃ r, firstAt L c n = some r := by
      cases e : firstAt L c n with
      | some r => exact ⟨r, rfl⟩
      | none => rw [i.no n e] at hv; cases hv
    obtain ⟨r, hr⟩ := hf
    have same : ∀ d m, firstAt L d m = firstAt (L ++ [(c, n, q)]) d m := fun d m => by
      by_cases e : d = c ∧ m = n
      · obtain ⟨rfl, rfl⟩ := e
        rw [firstAt_snoc, hr]
      · exact other e
    exact ⟨h.at_, h.ks_, h.nd, mem', by rw [ll]; exact Nat.le_succ_of_le h.len, h.val, fun d hd => by
      obtain ⟨us, a1, b1, i1⟩ := h.inn d hd
      exact ⟨us, a1, by omega, i1.ext (same d)⟩, h.inj, h.old⟩
  · intro hv t ht
    have hn : firstAt L c n = none := by
      cases e : firstAt L c n with
      | none => rfl
      | some r =>
        obtain ⟨u, z, _⟩ := i.get n r e
        rw [hv] at z
        cases z
    have ndp : da c ≠ p := fun z => by rw [z, h.at_] at hts; cases hts
    have ndt : ∀ xs, H (da c) ≠ some (.tup xs) := fun xs z => by rw [hts] at z; cases z
    have ntd : t ≠ da c := fun z => by rw [z, hts] at ht; cases ht
    refine ⟨(upd_ne ndp.symm).trans h.at_, h.ks_, h.nd, mem', by rw [ll]; exact Nat.le_succ_of_le h.len, h.val, fun d hd => ?_, h.inj, h.old⟩
    by_cases e1 : d = c
    · subst e1
      refine ⟨_, upd_same, by have := length_putK ts (kN n) (.ref t); omega, ?_⟩
      refine InAt.put (i.upd ndt) hn ((upd_ne ntd).trans ht) fun m => ?_
      by_cases e2 : m = n
      · rw [if_pos e2, e2, firstAt_snoc, hn]
        exact if_pos ⟨rfl, rfl⟩
      · rw [if_neg e2]
        exact (other fun z => e2 z.2).symm
    · obtain ⟨us, a1, b1, i1⟩ := h.inn d hd
      refine ⟨us, (upd_ne fun z => e1 (h.inj d hd c hc z)).trans a1, by omega, (i1.upd ndt).ext fun m => other fun z => e1 z.1⟩
end W5
namespace W5
open PySem PySem.Spec PyProof.Rows L2 K0 K6
open K4 hiding Blt
def occWord (wide num : Nat) (l : List Nat) (k : Nat) : List Occ := (List.range k).map fun p => (l.getD p 0, nearL wide l p, (num, p))
def occs (wide : Nat) (ws : List (List Nat)) : Nat → List Occ
  | 0 => []
  | i + 1 => occs wide ws i ++ occWord wide i (ws.getD i []) (ws.getD i []).length
theorem occWord_len (wide num : Nat) (l : List Nat) (k : Nat) : (occWord wide num l k).length = k := by
  unfold occWord
  rw [List.length_map, List.length_range]
theorem occs_len {wide : Nat} {ws : List (List Nat)} (h : ∀ l ∈ ws, l.length ≤ 12) : ∀ i, (occs wide ws i).length ≤ 12 * i
  | 0 => Nat.le_refl _
  | i + 1 => by
    have h1 := occs_len (wide := wide) h i
    rw [occs, List.length_append, occWord_len]
    have : (ws.getD i []).length ≤ 12 := by
      rw [List.getD_eq_getElem?_getD]
      cases e : ws[i]? with
      | none => exact Nat.zero_le _
      | some l => exact h l (List.mem_of_getElem? e)
    omega
theorem occWord_succ (wide num : Nat) (l : List Nat) (k : Nat) : occWord wide num l (k + 1) = occWord wide num l k ++ [(l.getD k 0, nearL wide l k, (num, k))] := by
  unfold occWord
  rw [List.range_succ, List.map_append]
  rfl
section
variable {P : Program} {w : World} {K : PySem.W.Frag} {mg : Str → Option Value} {base : Heap}
abbrev CSurr (P : Program) (w : World) (K : PySem.W.Frag) (mg : Str → Option Value) (base : Heap) : Prop := Cal P w K mg base 1 "surroundings_at" st_surroundings_at ["word", "place", "wide"] spSurr
abbrev st_places_by_sound : Stmt := top 32
abbrev nm_places_by_sound : List Str := ["words", "wide", "found", "number", "word", "place", "sound", "around"]
theorem sc_places_by_sound : FnScope nm_places_by_sound ["words", "wide"] (defScope st_places_by_sound) := ⟨rfl, rfl, rfl, by decide +kernel, rfl, by decide +kernel, by decide +kernel⟩
def spPlaces (K : PySem.W.Frag) : Sp := fun vs H Q _ => ∃ (a : Addr) (ws : List (List Nat)) (wide : Nat), vs = [.ref a, .int (wide : Nat)] ∧ SqLT K H a (tws ws) ∧ ws.length ≤ 20 ∧ (∀ l ∈ ws, l.length ≤ 12) ∧ wide ≤ 2 ∧
  ∀ H' p kvs ks da, Same H H' → FdAt H H' p (occs wide ws ws.length) kvs ks da → Q (.ref p) H'
theorem ok_places {f : Addr} {fd : FuncData} (F : Fun K "places_by_sound" "places_by_sound" st_places_by_sound f fd) (T : Blt mg) (C_surroundings_at : CSurr P w K mg base) : FnOk P w K mg base CX0 2 f fd ["words", "wide"] (spPlaces K) := by
  refine F.ok sc_places_by_sound (fun vs H Q E h => ?_) (fun cdv A outer s H vs Q E hr h => ?_)
  · obtain ⟨a, ws, wide, rfl, _⟩ := h
    rfl
  · refine ⟨_, (pss_cons (ps_set (i := 2) sc_places_by_sound.nd rfl (Or.inl rfl) pe_dnewK)
  (pss_cons (ps_for PassesOwn.never rfl (K5.pi_enumLT (by rfl) T.n_enumerate (pa_cons (pv 0) pa_nil)) (pg_tup rfl (pgs_cons (pg_name (i := 3) sc_places_by_sound.nd rfl (Or.inl rfl)) (pgs_cons (pg_name (i := 4) sc_places_by_sound.nd rfl (Or.inl rfl)) pgs_nil))) (pss_one (ps_for PassesOwn.never rfl (K5.pi_enumS (by rfl) T.n_enumerate (pa_cons (pv 4) pa_nil)) (pg_tup rfl (pgs_cons (pg_name (i := 5) sc_places_by_sound.nd rfl (Or.inl rfl)) (pgs_cons (pg_name (i := 6) sc_places_by_sound.nd rfl (Or.inl rfl)) pgs_nil))) (pss_cons (ps_set (i := 7) sc_places_by_sound.nd rfl (Or.inl rfl) (pe_cl C_surroundings_at (hr.mono (by decide)) rfl (pa_cons (pv 4) (pa_cons (pv 5) (pa_cons (pv 1) pa_nil)))))
  (pss_one (ps_expr (K5.pe_dsetdT (hu_of hr) (pe_dsetd (pv 2) (pv 6) pe_dnewT (by exact ⟨rfl, rfl, rfl, rfl⟩)) (pv 7) (pe_tup (pa_cons (pv 3) (pa_cons (pv 5) pa_nil))) (by exact ⟨rfl, rfl, rfl, rfl⟩))))))))
  (pss_one (ps_ret (pv 2))))), ?_⟩
    obtain ⟨a, ws, wide, rfl, hS, hl, h12, hw, q⟩ := h
    rw [show L2.start nm_places_by_sound [V.ref a, V.int (wide : Nat)] = [some (V.ref a), some (V.int (wide : Nat)), none, none, none, none, none, none] from rfl]
    refine fun p hp => ?_
    dsimp only [gName, List.set_cons_succ, List.set_cons_zero]
    have s0 := Sm.new (o := .dK []) hp
    have twl : (tws ws).length = ws.length := tws_len _
    rcases hS with hS | hS
    · refine .inl ⟨_, rfl, a, _, rfl, sm_l s0 hS, ?_⟩
      refine for_it walk_enum (fun i σ H' => (∃ v3 v4 v5 v6 v7, σ = [some (V.ref a), some (V.int (wide : Nat)), some (V.ref p), v3, v4, v5, v6, v7]) ∧ Same H H' ∧ ∃ kvs ks da, FdAt H H' p (occs wide ws i) kvs ks da) ⟨⟨_, _, _, _, _, rfl⟩, s0, _, _, _, FdAt.nil upd_same hp⟩ (fun i σ G hi z => sm_l z.2.1 hS) ?_ ?_
      · rintro i y σ G1 G2 hi ⟨⟨v3, v4, v5, v6, v7, rfl⟩, q1, kvs, ks, da, q2⟩ hy
        obtain ⟨T, u, v, rfl, hT, eG, eu, ev⟩ := hy
        obtain rfl := Option.some.inj eu
        have ev : v = .str (Tx ws[i]) := by
          have ev : (tws ws)[i]? = some v := ev
          unfold tws at ev
          rw [List.getElem?_map, List.getElem?_eq_getElem (show i < ws.length by rw [← twl]; exact hi)] at ev
          exact (Option.some.inj ev).symm
        subst ev
        have hiw : i < ws.length := by rw [← twl]; exact hi
        have el : ws.getD i [] = ws[i] := by rw [List.getD_eq_getElem?_getD, List.getElem?_eq_getElem hiw]; rfl
        have hl12 := h12 _ (List.getElem_mem hiw)
        have hol := occs_len (wide := wide) h12 i
        have eT : G2 T = some (.tup [.int (i : Nat), .str (Tx ws[i])]) := by rw [eG]; exact upd_same
        have sT : Same G1 G2 := by rw [eG]; exact Sm.new hT
        have q3 := q2.sm sT
        have q4 := q1.trans sT
        generalize ws[i] = l at el hl12 eT
        clear eG hT q1 q2 sT
        refine ⟨T, _, rfl, SqT.of eT, rfl, _, _, rfl, _, _, rfl, rfl, ?_⟩
        dsimp only [gName, List.set_cons_succ, List.set_cons_zero]
        refine ⟨_, rfl, Tx l, rfl, ?_⟩
        refine for_it K5.walk_enS (fun j σ H' => (∃ v5 v6 v7, σ = [some (V.ref a), some (V.int (wide : Nat)), some (V.ref p), some (V.int (i : Nat)), some (V.str (Tx l)), v5, v6, v7]) ∧ Same H H' ∧ ∃ kvs ks da, FdAt H H' p (occs wide ws i ++ occWord wide i l j) kvs ks da) ⟨⟨_, _, _, rfl⟩, q4, _, _, _, by rw [show occWord wide i l 0 = [] from rfl, List.append_nil]; exact q3⟩ (fun _ _ _ _ _ => trivial) ?_ ?_
        · rintro j y2 σ G3 G4 hj ⟨⟨v5, v6, v7, rfl⟩, r1, kvs, ks, da, r2⟩ ⟨T2, c, rfl, hT2, rfl, hc⟩
          have hj : j < l.length := by rw [tx_size] at hj; exact hj
          have hcl : l.getD j 0 = c := by
            have := tx_at hc
            rw [List.getD_eq_getElem?_getD, this]
            rfl
          have hLen : (occs wide ws i ++ occWord wide i l j).length ≤ 400 := by rw [List.length_append, occWord_len]; omega
          refine ⟨T2, _, rfl, SqT.of upd_same, rfl, _, _, rfl, _, _, rfl, rfl, ?_⟩
          dsimp only [gName, List.set_cons_succ, List.set_cons_zero]
          refine ⟨_, rfl, _, rfl, _, rfl, l, j, wide, rfl, by omega, hj, hw, fun b hb => ?_⟩
          have s5 := (Sm.new (o := .tup [.int (j : Nat), .str (Tx [c])]) hT2).trans (Sm.new (o := .tup (nearV (nearL wide l j))) hb)
          have eb : (upd (upd G3 T2 (.tup [.int (j : Nat), .str (Tx [c])])) b (.tup (nearV (nearL wide l j)))) b = some (.tup (nearV (nearL wide l j))) := upd_same
          have r3 := r1.trans s5
          have r5 := r2.sm s5
          dsimp only [gName, List.set_cons_succ, List.set_cons_zero]
          show tDrop _ _ _ (upd (upd G3 T2 (.tup [.int (j : Nat), .str (Tx [c])])) b (.tup (nearV (nearL wide l j))))
          generalize (upd (upd G3 T2 (.tup [.int (j : Nat), .str (Tx [c])])) b (.tup (nearV (nearL wide l j)))) = G5 at s5 eb r3 r5 ⊢
          clear s5 r1 r2 hT2 hb
          have enx : occs wide ws i ++ occWord wide i l (j + 1) = (occs wide ws i ++ occWord wide i l j) ++ [(c, nearL wide l j, (i, j))] := by rw [occWord_succ, hcl, List.append_assoc]
          have hkl := r5.len
          refine ⟨_, rfl, p, rfl, .inl ⟨kvs, .inl r5.at_⟩, _, rfl, fun e he => ?_⟩
          have nep : e ≠ p := fun z => by rw [z, r5.at_] at he; cases he
          have neb : b ≠ e := fun z => by rw [← z, eb] at he; cases he
          have he0 : H e = none := by
            cases z : H e with
            | none => rfl
            | some o => rw [r3 _ _ z] at he; cases he
          refine ⟨kvs, kS c, (upd_ne nep.symm).trans r5.at_, rfl, Nat.lt_of_le_of_lt (show _ ≤ 400 by omega) (by decide), fun v hv => ?_, fun hv => ?_⟩
          · have hck : c ∈ ks := Classical.byContradiction fun z => by rw [r5.no z] at hv; cases hv
            obtain rfl : v = .ref (da c) := by rw [r5.val c hck] at hv; exact (Option.some.inj hv).symm
            have r6 := r5.sm (Sm.new (o := .dT []) he)
            obtain ⟨ts, hts, htl, hin⟩ := r6.inn c hck
            refine ⟨da c, rfl, .inr ⟨ts, .inl hts⟩, _, rfl, _, rfl, _, rfl, by show 2 ≤ sizeLine; decide, fun t ht => ?_⟩
            have s7 := Sm.new (o := .tup [.int (i : Nat), .int (j : Nat)]) ht
            have r7 := r6.sm s7
            obtain ⟨m1, m2⟩ := r7.met hck (nearL wide l j) (i, j) (s7 _ _ hts)
            refine ⟨ts, kN (nearL wide l j), b, s7 _ _ hts, rfl, s7 _ _ ((upd_ne neb).trans eb), Nat.lt_of_le_of_lt (show _ ≤ 400 by omega) (by decide), fun v hv2 => ?_, fun hv2 => ?_⟩
            · exact ⟨⟨_, _, _, rfl⟩, (r3.trans (Sm.new he)).trans s7, _, _, _, by rw [enx]; exact m1 v hv2⟩
            · exact ⟨⟨_, _, _, rfl⟩, Sm.put ((r3.trans (Sm.new he)).trans s7) (r5.old.2 c hck), _, _, _, by rw [enx]; exact m2 hv2 t upd_same⟩
          · have hck : c ∉ ks := fun z => by rw [r5.val c z] at hv; cases hv
            have see : upd (upd G5 e (.dT [])) p (.dK (putK kvs (kS c) (.ref e))) e = some (.dT []) := (upd_ne nep).trans upd_same
            refine ⟨e, rfl, .inr ⟨[], .inl see⟩, _, rfl, _, rfl, _, rfl, by show 2 ≤ sizeLine; decide, fun t ht => ?_⟩
            have nte : t ≠ e := fun z => by rw [z, see] at ht; cases ht
            have ntp : t ≠ p := fun z => by rw [z, upd_same] at ht; cases ht
            have ht5 : G5 t = none := by rw [upd_ne ntp, upd_ne nte] at ht; exact ht
            have nbp : b ≠ p := fun z => by rw [z, r5.at_] at eb; cases eb
            have nbt : b ≠ t := fun z => by rw [← z, eb] at ht5; cases ht5
            refine ⟨[], kN (nearL wide l j), b, (upd_ne nte.symm).trans see, rfl, (upd_ne nbt).trans ((upd_ne nbp).trans ((upd_ne neb).trans eb)), by show 0 < sizeLine; decide, fun v hv2 => (by cases hv2), fun _ => ?_⟩
            have fin := r5.own hck he he0 (nearL wide l j) (i, j) ht5 nte
            rw [← enx] at fin
            exact ⟨⟨_, _, _, rfl⟩, Sm.put ((Sm.put (r3.trans (Sm.new he)) r5.old.1).trans (Sm.new ht)) he0, _, _, _, fin⟩
        · rintro σ G3 ⟨⟨v5, v6, v7, rfl⟩, r1, kvs, ks, da, r2⟩
          rw [tx_size] at r2
          exact ⟨⟨_, _, _, _, _, rfl⟩, r1, _, _, _, by rw [occs, el]; exact r2⟩
      · rintro σ G ⟨⟨v3, v4, v5, v6, v7, rfl⟩, q1, kvs, ks, da, q2⟩
        rw [twl] at q2
        exact ⟨_, rfl, q _ p kvs ks da q1 q2⟩
    · refine .inr ⟨_, rfl, a, _, rfl, sm_t s0 hS, ?_⟩
      refine for_it walk_enT (fun i σ H' => (∃ v3 v4 v5 v6 v7, σ = [some (V.ref a), some (V.int (wide : Nat)), some (V.ref p), v3, v4, v5, v6, v7]) ∧ Same H H' ∧ ∃ kvs ks da, FdAt H H' p (occs wide ws i) kvs ks da) ⟨⟨_, _, _, _, _, rfl⟩, s0, _, _, _, FdAt.nil upd_same hp⟩ (fun i σ G hi z => sm_t z.2.1 hS) ?_ ?_
      · rintro i y σ G1 G2 hi ⟨⟨v3, v4, v5, v6, v7, rfl⟩, q1, kvs, ks, da, q2⟩ hy
        obtain ⟨T, v, rfl, hT, eG, ev⟩ := hy
        have ev : v = .str (Tx ws[i]) := by
          have ev : (tws ws)[i]? = some v := ev
          unfold tws at ev
          rw [List.getElem?_map, List.getElem?_eq_getElem (show i < ws.length by rw [← twl]; exact hi)] at ev
          exact (Option.some.inj ev).symm
        subst ev
        have hiw : i < ws.length := by rw [← twl]; exact hi
        have el : ws.getD i [] = ws[i] := by rw [List.getD_eq_getElem?_getD, List.getElem?_eq_getElem hiw]; rfl
        have hl12 := h12 _ (List.getElem_mem hiw)
        have hol := occs_len (wide := wide) h12 i
        have eT : G2 T = some (.tup [.int (i : Nat), .str (Tx ws[i])]) := by rw [eG]; exact upd_same
        have sT : Same G1 G2 := by rw [eG]; exact Sm.new hT
        have q3 := q2.sm sT
        have q4 := q1.trans sT
        generalize ws[i] = l at el hl12 eT
        clear eG hT q1 q2 sT
        refine ⟨T, _, rfl, SqT.of eT, rfl, _, _, rfl, _, _, rfl, rfl, ?_⟩
        dsimp only [gName, List.set_cons_succ, List.set_cons_zero]
        refine ⟨_, rfl, Tx l, rfl, ?_⟩
        refine for_it K5.walk_enS (fun j σ H' => (∃ v5 v6 v7, σ = [some (V.ref a), some (V.int (wide : Nat)), some (V.ref p), some (V.int (i : Nat)), some (V.str (Tx l)), v5, v6, v7]) ∧ Same H H' ∧ ∃ kvs ks da, FdAt H H' p (occs wide ws i ++ occWord wide i l j) kvs ks da) ⟨⟨_, _, _, rfl⟩, q4, _, _, _, by rw [show occWord wide i l 0 = [] from rfl, List.append_nil]; exact q3⟩ (fun _ _ _ _ _ => trivial) ?_ ?_
        · rintro j y2 σ G3 G4 hj ⟨⟨v5, v6, v7, rfl⟩, r1, kvs, ks, da, r2⟩ ⟨T2, c, rfl, hT2, rfl, hc⟩
          have hj : j < l.length := by rw [tx_size] at hj; exact hj
          have hcl : l.getD j 0 = c := by
            have := tx_at hc
            rw [List.getD_eq_getElem?_getD, this]
            rfl
          have hLen : (occs wide ws i ++ occWord wide i l j).length ≤ 400 := by rw [List.length_append, occWord_len]; omega
          refine ⟨T2, _, rfl, SqT.of upd_same, rfl, _, _, rfl, _, _, rfl, rfl, ?_⟩
          dsimp only [gName, List.set_cons_succ, List.set_cons_zero]
          refine ⟨_, rfl, _, rfl, _, rfl, l, j, wide, rfl, by omega, hj, hw, fun b hb => ?_⟩
          have s5 := (Sm.new (o := .tup [.int (j : Nat), .str (Tx [c])]) hT2).trans (Sm.new (o := .tup (nearV (nearL wide l j))) hb)
          have eb : (upd (upd G3 T2 (.tup [.int (j : Nat), .str (Tx [c])])) b (.tup (nearV (nearL wide l j)))) b = some (.tup (nearV (nearL wide l j))) := upd_same
          have r3 := r1.trans s5
          have r5 := r2.sm s5
          dsimp only [gName, List.set_cons_succ, List.set_cons_zero]
          show tDrop _ _ _ (upd (upd G3 T2 (.tup [.int (j : Nat), .str (Tx [c])])) b (.tup (nearV (nearL wide l j))))
          generalize (upd (upd G3 T2 (.tup [.int (j : Nat), .str (Tx [c])])) b (.tup (nearV (nearL wide l j)))) = G5 at s5 eb r3 r5 ⊢
          clear s5 r1 r2 hT2 hb
          have enx : occs wide ws i ++ occWord wide i l (j + 1) = (occs wide ws i ++ occWord wide i l j) ++ [(c, nearL wide l j, (i, j))] := by rw [occWord_succ, hcl, List.append_assoc]
          have hkl := r5.len
          refine ⟨_, rfl, p, rfl, .inl ⟨kvs, .inl r5.at_⟩, _, rfl, fun e he => ?_⟩
          have nep : e ≠ p := fun z => by rw [z, r5.at_] at he; cases he
          have neb : b ≠ e := fun z => by rw [← z, eb] at he; cases he
          have he0 : H e = none := by
            cases z : H e with
            | none => rfl
            | some o => rw [r3 _ _ z] at he; cases he
          refine ⟨kvs, kS c, (upd_ne nep.symm).trans r5.at_, rfl, Nat.lt_of_le_of_lt (show _ ≤ 400 by omega) (by decide), fun v hv => ?_, fun hv => ?_⟩
          · have hck : c ∈ ks := Classical.byContradiction fun z => by rw [r5.no z] at hv; cases hv
            obtain rfl : v = .ref (da c) := by rw [r5.val c hck] at hv; exact (Option.some.inj hv).symm
            have r6 := r5.sm (Sm.new (o := .dT []) he)
            obtain ⟨ts, hts, htl, hin⟩ := r6.inn c hck
            refine ⟨da c, rfl, .inr ⟨ts, .inl hts⟩, _, rfl, _, rfl, _, rfl, by show 2 ≤ sizeLine; decide, fun t ht => ?_⟩
            have s7 := Sm.new (o := .tup [.int (i : Nat), .int (j : Nat)]) ht
            have r7 := r6.sm s7
            obtain ⟨m1, m2⟩ := r7.met hck (nearL wide l j) (i, j) (s7 _ _ hts)
            refine ⟨ts, kN (nearL wide l j), b, s7 _ _ hts, rfl, s7 _ _ ((upd_ne neb).trans eb), Nat.lt_of_le_of_lt (show _ ≤ 400 by omega) (by decide), fun v hv2 => ?_, fun hv2 => ?_⟩
            · exact ⟨⟨_, _, _, rfl⟩, (r3.trans (Sm.new he)).trans s7, _, _, _, by rw [enx]; exact m1 v hv2⟩
            · exact ⟨⟨_, _, _, rfl⟩, Sm.put ((r3.trans (Sm.new he)).trans s7) (r5.old.2 c hck), _, _, _, by rw [enx]; exact m2 hv2 t upd_same⟩
          · have hck : c ∉ ks := fun z => by rw [r5.val c z] at hv; cases hv
            have see : upd (upd G5 e (.dT [])) p (.dK (putK kvs (kS c) (.ref e))) e = some (.dT []) := (upd_ne nep).trans upd_same
            refine ⟨e, rfl, .inr ⟨[], .inl see⟩, _, rfl, _, rfl, _, rfl, by show 2 ≤ sizeLine; decide, fun t ht => ?_⟩
            have nte : t ≠ e := fun z => by rw [z, see] at ht; cases ht
            have ntp : t ≠ p := fun z => by rw [z, upd_same] at ht; cases ht
            have ht5 : G5 t = none := by rw [upd_ne ntp, upd_ne nte] at ht; exact ht
            have nbp : b ≠ p := fun z => by rw [z, r5.at_] at eb; cases eb
            have nbt : b ≠ t := fun z => by rw [← z, eb] at ht5; cases ht5
            refine ⟨[], kN (nearL wide l j), b, (upd_ne nte.symm).trans see, rfl, (upd_ne nbt).trans ((upd_ne nbp).trans ((upd_ne neb).trans eb)), by show 0 < sizeLine; decide, fun v hv2 => (by cases hv2), fun _ => ?_⟩
            have fin := r5.own hck he he0 (nearL wide l j) (i, j) ht5 nte
            rw [← enx] at fin
            exact ⟨⟨_, _, _, rfl⟩, Sm.put ((Sm.put (r3.trans (Sm.new he)) r5.old.1).trans (Sm.new ht)) he0, _, _, _, fin⟩
        · rintro σ G3 ⟨⟨v5, v6, v7, rfl⟩, r1, kvs, ks, da, r2⟩
          rw [tx_size] at r2
          exact ⟨⟨_, _, _, _, _, rfl⟩, r1, _, _, _, by rw [occs, el]; exact r2⟩
      · rintro σ G ⟨⟨v3, v4, v5, v6, v7, rfl⟩, q1, kvs, ks, da, q2⟩
        rw [twl] at q2
        exact ⟨_, rfl, q _ p kvs ks da q1 q2⟩
end
end W5
namespace W5
open PySem PySem.Spec PyProof.Rows L2 K0 K6
open K4 hiding Blt
open K8
/-- what is known of a class C, its __class__ cell and the base's method g, asked of an instance of Z -/
structure SupC2 (P : Program) (K : PySem.W.Frag) (mg : Str → Option Value) (Z C cda g : Addr) (m : Str) : Prop where
  code : ∃ ccl cdd vs ccs file tf, K.lookup cda = some ⟨ccl, cdd, .fields vs, ccs⟩ ∧ vs[2]? = some (.str file tf) ∧ ((P.main.file : Str) == file) = true
  cls : ∃ cd, PySem.W.clsIn K C = some cd
  clsZ : ∃ cd, PySem.W.clsIn K Z = some cd
  sub : PySem.W.mroIn K Z (.ref C) = some true
  opq : PySem.W.nsIn K cStatics "thirdparty.any" = some none
  found : PySem.W.ks_superIn K Z C m = some (some (.ref g))
  fn : PySem.W.typeIn K (.ref g) = some (.type "function")
  fi : PySem.W.fnIn K g = true
  sup : mg "super" = none
  top : (P.main.scope.names.lookup ("super" : Str)).isSome = false
section
variable {prog : Program} {w : World} {A : Around} {E : Value → Shared → Prop} {h : Heap} {g : Array GenState} {d : Drawn} {t : Nat} {os : OsState}
open PySem.W in
theorem super_attr {so D x C f : Addr} {of : Obj} {l₀ l : List Value} {K : Frag} {name : Str} {Q : Value → Shared → Prop}
    (hso : h.get? so = some { cls := .type "super", dict := none, data := .fields #[.ref D, .ref x, .ref C], slots := #[] }) (hno : Looks (model prog w) h (opaqueClassAbove (.ref C)) none)
    (hC : Looks (model prog w) h (mroOf (.ref C)) l₀) (hl : (l₀.dropWhile (· != .ref D)).drop 1 = l) (X : K.In h)
    (hf : alongIn K name l = some (some (.ref f))) (hfo : h.get? f = some of) (hfc : of.cls = .type "function") (hxC : x ≠ C) (hn : (name == ("__class__" : Str)) = false)
    (hq : Q (.ref h.objs.size) ⟨h.push { cls := .type "method", data := .fields #[.ref f, .ref x] }, g, d, t + 1, os⟩) :
    wpAny (model prog w) A (getAttr (.ref so) name true) Q E ⟨h, g, d, t, os⟩ := by
  have hlk := F.ks_slot_super_ga.lookup
  have hT : ∀ t', (⟨h, g, d, t', os⟩ : Shared).TypeIs (.ref so) "super" := fun _ => ⟨_, hso, rfl⟩
  unfold getAttr getAttrBy
  refine wpAny_bind (wpAny_mkText (wpAny_holding (wpAny_bind (wpAny_typeOf (hT _) (wpAny_bind (wpAny_of_eq hlk ?_))))))
  show wpAny _ _ (getAttrByItsOwn (.ref so) (.str name t) (.type "super") (.builtin "super.__getattribute__") true true) _ _ _
  unfold getAttrByItsOwn hookBefore callGetattribute boundAndCalled
  refine wpAny_bind (wpAny_of_eq (show (if onTheHeap (.type "super") then typeLookup (.type "super") "__getattr__" else pure none) = pure none from rfl) ?_)
  refine wpAny_bind (wpAny_attempt (wpAny_holding ?_))
  show wpAny _ _ (bindSpecial (.builtin "super.__getattribute__") (.ref so) >>= _) _ _ _
  refine wpAny_bind (wpAny_of_eq (F.ks_slot_super_ga.bind _) ?_)
  refine wpAny_mono (Q := fun v s' => v = .ref h.objs.size ∧ s' = ⟨h.push { cls := .type "method", data := .fields #[.ref f, .ref x] }, g, d, t + 1, os⟩) (E := fun _ _ => False)
    (wpAny_call_entry F.ks_slot_super_ga (hT _) F.ks_entry_super_ga (ks_wpAny_super_ga hso hno hC hl X hf hfo hfc hxC hn ⟨_, rfl, rfl, rfl⟩) (F.ks_gaArgs_super _ _)) (fun v s' hv => ?_) fun _ _ z => z.elim
  obtain ⟨rfl, rfl⟩ := hv
  exact wpAny_pure hq
end
section
variable {M : Model} {A : Around} {E : Value → Shared → Prop} {s : Shared} {c : Code} {env : Env}
theorem star_method {o : Expr} {name : Str} {apos pos : Pos} {args : List Expr} {Q : Value → Shared → Prop}
    (h : PySem.wpAt M A c (attributeBase o name env (eval o env)) (fun ov s₁ => wpAny M A (getAttr ov name true) (fun f s₂ => wpAny M A (callWith pos f [] (backTo pos (starEach args env)) []) Q E s₂) E s₁) E s)
    (he : eval (.Call (.Attribute o name apos) args [] pos) env = (do
      let ov ← attributeBase o name env (eval o env)
      standAt apos.atName
      let (f, first) ← holding [ov] (do pure (← getAttr ov name true, []))
      callWith pos f first (backTo pos (starEach args env)) [])) :
    PySem.wpAt M A c (eval (.Call (.Attribute o name apos) args [] pos) env) Q E s := by
  rw [he]
  refine PySem.wpAt_bind (PySem.wpAt_mono h (fun ov s₁ h₁ => PySem.wpAt_of_wpAny (wpAny_bind (wpAny_standAt (wpAny_bind (wpAny_holding (wpAny_bind (wpAny_mono h₁ (fun fx s₂ h₂ => ?_) fun _ _ x => x))))))) fun _ _ x => x)
  exact wpAny_pure h₂
end
section
variable {CX CX2 : CXT} {P : Program} {w : World} {K : PySem.W.Frag} {mg : Str → Option Value} {base : Heap} {k j : Nat} {C f cda cc g : Addr} {name qual m : Str} {params : Arguments} {rest : List Stmt} {scope : Scope} {dV kV doc pm ct oc : Value} {an od : Option Addr}
  {osl : Array (Option Value)} {N ps : List Str} {sp spB : Sp} {p0 p1 apos pos epos : Pos} {e1 : Expr} {es : List Expr} {ar : Arg}
theorem fn_superStar {pv : Str} {Z : Addr} (lk : K.lookup f = some ⟨oc, od, .func (PySem.W.ksFn name qual params (.Expr (.Call (.Attribute (.Call (.Name "super" p0) [] [] p1) m apos) (e1 :: es) [] pos) epos :: rest) scope dV kV doc pm an (.ref cda) ct cc), osl⟩)
    (hcd : PySem.W.codeIn K (.ref cda) qual = true) (S : SScope N (ps ++ [pv]) scope) (U : SupC2 P K mg Z C cda g m) (hcc : base.IsCell cc (some (.ref C))) (hp : (params.posonlyargs ++ params.args).head? = some ar) (hps : ps.head? = some ar.arg)
    (hks : scope.names.lookup ("super" : Str) = some .globalImplicit) (hkc : scope.names.lookup ("__class__" : Str) = some .free) (hm : (m == ("__class__" : Str)) = false)
    (F : FnR P w K mg base CX2 j g spB) (hj : j ≤ k) (hCX : StX.CXUp CX)
    (hb : ∀ us rest' : List Value, us.length = ps.length → bindArgs (PySem.W.ksFn name qual params (.Expr (.Call (.Attribute (.Call (.Name "super" p0) [] [] p1) m apos) (e1 :: es) [] pos) epos :: rest) scope dV kV doc pm an (.ref cda) ct cc) ⟨us ++ rest', []⟩ = (newTuple rest' >>= fun t => pure (ps.zip us ++ [(pv, t)])))
    (hx : ∀ (A : Around) (outer : List Env) (s : Shared) (H : Hp) (E : XK), Passes CX2 (cxS CX P w K mg base N qual scope f (.ref cda) cc A outer s H E) E0)
    (hbody : ∀ (A : Around) (outer : List Env) (s : Shared) (H : Hp) (vs : List V) (Q : VK) (E : XK), Room k (A.deeper (PySem.W.ksEnv qual scope s.heap.objs.size f (.ref cda) cc)) → sp vs H Q E →
      ∃ ta t x dx, PA (cxS CX P w K mg base N qual scope f (.ref cda) cc A outer s H E) (e1 :: es) ta ∧ PSs (cxS CX P w K mg base N qual scope f (.ref cda) cc A outer s H E) rest t ∧ vs.head? = some (.ref x) ∧ H x = some (.ins Z dx []) ∧
        ∀ q, H q = none → ta (L2.start N vs) (upd H q (.met g x)) fun us H2 => H2 q = some (.met g x) ∧ spB (.ref x :: us) H2 (fun _ H3 => t { nx := fun _ H' => Q .non H', rt := Q } (L2.start N vs) H3) E0)
    (hst : ∀ (s : Shared), starEach (e1 :: es) (PySem.W.ksEnv qual scope s.heap.objs.size f (.ref cda) cc) = (false, eval e1 (PySem.W.ksEnv qual scope s.heap.objs.size f (.ref cda) cc)) :: starEach es (PySem.W.ksEnv qual scope s.heap.objs.size f (.ref cda) cc) := by intros; rfl)
    (hi : ∀ (s : Shared), interactive (PySem.W.ksEnv qual scope s.heap.objs.size f (.ref cda) cc) = false := by intros; rfl)
    (hs : ∀ (s : Shared), swapsWith (.Call (.Attribute (.Call (.Name "super" p0) [] [] p1) m apos) (e1 :: es) [] pos) none epos.line (PySem.W.ksEnv qual scope s.heap.objs.size f (.ref cda) cc) = pure false := by intros; rfl)
    (hpl : ∀ (s : Shared), (backTo pos (starEach es (PySem.W.ksEnv qual scope s.heap.objs.size f (.ref cda) cc))).any (·.1) = true := by intros; rfl)
    (he : ∀ env : Env, eval (.Call (.Attribute (.Call (.Name "super" p0) [] [] p1) m apos) (e1 :: es) [] pos) env = (do
      let ov ← attributeBase (.Call (.Name "super" p0) [] [] p1) m env (eval (.Call (.Name "super" p0) [] [] p1) env)
      standAt apos.atName
      let (f, first) ← holding [ov] (do pure (← getAttr ov m true, []))
      callWith pos f first (backTo pos (starEach (e1 :: es) env)) []) := by intros; rfl) :
    FnR P w K mg base CX (k + 1) f (fun vs H Q E => ∃ ws rest', vs = ws ++ rest' ∧ ws.length = ps.length ∧ rest'.length ≤ sizeLine ∧ ∀ p, H p = Option.none → sp (ws ++ [V.ref p]) (upd H p (.tup rest')) Q E) := by
  intro A outer s0 H0 us0 vs0 Q E hr e00 r0 hsp0
  obtain ⟨ws, rest', ev, hl0, hz0, hq0⟩ := hsp0
  subst ev
  obtain ⟨u1, u2, eu, r1, r2⟩ := StX.vals_split r0
  subst eu
  have hn0 : H0 s0.heap.objs.size = Option.none := e00.hok.fresh (Nat.le_refl _)
  have hl1 : u1.length = ps.length := by rw [← r1.length]; exact hl0
  have hl2 : u2.length ≤ sizeLine := by rw [← r2.length]; exact hz0
  have KX0 : K.In s0.heap := e00.mod.kin.keeps fun b o e => (e00.bs b o e).1
  refine codeAny_call_function hr.depth (KX0 _ _ lk) rfl S.co S.gen rfl (PySem.W.codeRec_of KX0 hcd) ?_
  rw [hb u1 u2 hl1]
  refine wpAny_bind (wpAny_newTuple (wpAny_pure ?_) hl2)
  have new : ObjOk P w (upd H0 s0.heap.objs.size (.tup rest')) (s0.heap.push ({ cls := .type "tuple", data := .seq u2.toArray } : Obj)) s0.heap.objs.size (.tup rest') := ⟨hz0, u2, r2, ⟨_, Heap.get?_push_size _ rfl, rfl, _, rfl⟩⟩
  have un := StX.un_laid (fs := frs outer) (s := s0) (o := ({ cls := .type "tuple", data := .seq u2.toArray } : Obj)) (u := .tup rest') hn0
  have e0 := StX.env0_laid e00 new
  have hCX' : ∀ e s', CX outer (upd H0 s0.heap.objs.size (.tup rest')) ({ s0 with heap := s0.heap.push ({ cls := .type "tuple", data := .seq u2.toArray } : Obj) } : Shared) E e s' → CX outer H0 s0 E e s' := fun e s' => hCX outer s0 H0 _ _ E e s' un (fun b o q => Heap.get?_push_of_some _ q) rfl
  have hsp := hq0 _ hn0
  have r : Vals (ws ++ [V.ref s0.heap.objs.size]) (u1 ++ [Value.ref s0.heap.objs.size]) := r1.append (.cons rfl .nil)
  have hl : (ws ++ [V.ref s0.heap.objs.size]).length = (ps ++ [pv]).length := by rw [List.length_append, List.length_append, hl0] <;> rfl
  have ez : ps.zip u1 ++ [(pv, Value.ref s0.heap.objs.size)] = (ps ++ [pv]).zip (u1 ++ [Value.ref s0.heap.objs.size]) := by rw [List.zip_append hl1.symm]; rfl
  rw [ez]
  have un2 : Un (frs outer) [] H0 (upd H0 s0.heap.objs.size (.tup rest')) s0.heap ({ s0 with heap := s0.heap.push ({ cls := .type "tuple", data := .seq u2.toArray } : Obj) } : Shared).heap := un
  generalize hsE : ({ s0 with heap := s0.heap.push ({ cls := .type "tuple", data := .seq u2.toArray } : Obj) } : Shared) = s at e0 un2 hCX' ⊢
  generalize hH : upd H0 s0.heap.objs.size (.tup rest') = H at e0 un2 hCX' hsp
  generalize hvs : ws ++ [V.ref s0.heap.objs.size] = vs at hsp r hl
  generalize hus : u1 ++ [Value.ref s0.heap.objs.size] = us at r ⊢
  have KX : K.In s.heap := e0.mod.kin.keeps fun b o e => (e0.bs b o e).1
  have lim : s.heap.NoLimit := e0.mod.nolimit.keeps fun b o e => (e0.bs b o e).1
  refine wpAny_newFunctionEnv (s := s) S.nocell (fun y hy => S.par _ (List.of_mem_zip hy).1) (fun h1 hns hsb => ⟨lim.fresh _ hsb, PySem.ks_codeAny_funcAt ?_⟩) S.kind
  have hk : ∀ b o, s.heap.get? b = some o → h1.get? b = some o := fun b o e => hsb.extBut b o (Nat.ne_of_lt (Heap.lt_size e)) (Heap.get?_push_of_some _ e)
  obtain ⟨ta, t, x, dx, hta, ht, hv0, hHx, hq⟩ := hbody A outer s H vs Q E (hr.deeper _) hsp
  have I : Inv (cxS CX P w K mg base N qual scope f (.ref cda) cc A outer s H E) [] (L2.start N vs) H { s with heap := h1, toks := s.toks + ((ps ++ [pv]).zip us).length } := inv_startS S hr.hd e0 hl r hcc hns hk
  obtain ⟨ccl, cdd, vv, ccs, file, tf, lcode, hvs, hfile⟩ := U.code
  obtain ⟨cdat, hcls⟩ := U.cls
  obtain ⟨cdatZ, hclsZ⟩ := U.clsZ
  have hsup := U.found
  unfold PySem.W.ks_superIn at hsup
  rw [hclsZ] at hsup
  have kin := I.kIn
  obtain ⟨oD, hD1, hD2⟩ : ∃ oD, h1.get? C = some oD ∧ oD.data = .cls cdat := by
    unfold PySem.W.clsIn at hcls
    split at hcls
    · rename_i c d cd' sl ho
      cases hcls
      exact ⟨_, kin _ _ ho, rfl⟩
    · cases hcls
  obtain ⟨of, hof, hofc⟩ : ∃ of, K.lookup g = some of ∧ of.cls = .type "function" := by
    have ht' : (K.lookup g).map (·.cls) = some (.type "function") := U.fn
    cases z : K.lookup g with
    | none => rw [z] at ht'; cases ht'
    | some of => rw [z] at ht'; exact ⟨of, rfl, Option.some.inj ht'⟩
  obtain ⟨u0, hu0, rx⟩ : ∃ u, us[0]? = some u ∧ u = .ref x := by
    cases r with
    | nil => cases hv0
    | cons a b =>
      obtain rfl := Option.some.inj hv0
      exact ⟨_, rfl, a⟩
  subst rx
  have hp0 : (ps ++ [pv])[0]? = some ar.arg := by
    cases ps with
    | nil => cases hps
    | cons a b => exact hps
  have ndP : (ps ++ [pv]).Nodup := by rw [← S.pre]; exact S.nd.sublist (List.take_sublist _ _)
  have hself := look_rev ndP hp0 hu0
  obtain ⟨mA, O, _, _, _, _⟩ := ins_get I.hok hHx
  obtain ⟨odx, J, _⟩ := O.look
  obtain ⟨mb, hb1, hb2⟩ := I.ok.mod.blt
  obtain ⟨occ, hocc, hocc2⟩ := hcc
  refine ks_wpAt_execs_cons ?_
  refine ks_wpAt_Expr_any ?_ (hi s) (hs s)
  refine star_method ?_ (he _)
  refine ks_wpAt_super_base hks hkc hm rfl (kin _ _ lk) rfl hp rfl (kin _ _ lcode) rfl hvs hfile U.top ?_
  refine PySem.W.ks_loadName_global S.kind hks (Calls.loadGlobal_builtin (I.ok.mod.glob.keeps I.bk) U.sup (hb1.keeps I.bk) ((hb2 _ (by decide)).trans rfl) ⟨rfl, ?_⟩)
  refine wpAny_loadName_free S.kind hkc rfl ⟨occ, hk _ _ (e0.bs _ _ hocc).1, hocc2⟩ ?_
  refine wpAny_loadName_local S.kind (S.par _ (List.mem_of_getElem? hp0)) hns hself ?_
  refine ks_wpAny_isType_cls hD1 hD2 ⟨rfl, ?_⟩
  refine ks_wpAny_call_super hD1 hD2 J.at_ J.cls (fun c e => ?_) (PySem.W.looks_mroIn kin U.sub) (fun h2 e2 k2 => ?_)
  · have := J.no
    unfold PySem.W.notCls at this
    rw [e] at this
    exact Bool.noConfusion this
  have I2 := I.kept (t' := s.toks + ((ps ++ [pv]).zip us).length) k2
  have kin2 := I2.kIn
  refine super_attr e2 (PySem.W.looks_opaque kin2 U.opq) (l₀ := cdatZ.mro) (fun A Q E s k q => wpAny_bind ((PySem.W.looks_clsIn kin2 hclsZ) A _ E s k (wpAny_pure q))) rfl kin2 hsup (kin2 _ _ hof) hofc (PySem.W.ks_ne kin J hclsZ) hm ?_
  have hqn : H h2.objs.size = none := I2.hok.fresh (Nat.le_refl _)
  have I3 := I2.laid (t' := s.toks + ((ps ++ [pv]).zip us).length + 1) (a := h2.objs.size) (o := .met g x) (fun b u z => Heap.get?_push_of_some _ z) (Nat.le_refl _)
    (show (h2.push (PySem.W.methodObj (.ref g) (.ref x))).get? h2.objs.size = some (PySem.W.methodObj (.ref g) (.ref x)) from Heap.get?_push_size h2 rfl)
  have hq := hq _ hqn
  have hst := hst s
  show wpAny (model P w) (A.deeper (PySem.W.ksEnv qual scope s.heap.objs.size f (.ref cda) cc)) (callWith pos (.ref h2.objs.size) [] (backTo pos (starEach (e1 :: es) (PySem.W.ksEnv qual scope s.heap.objs.size f (.ref cda) cc))) []) _ _ _
  rw [hst]
  refine PySem.W.ks_call (P := PySem.W.MethP K h2.objs.size g (.ref x)) (by show (false || (backTo pos (starEach es _)).any (·.1)) = true; rw [hpl s]; rfl) (PySem.W.keeps_M U.fi) (Calls.evalArgs_plain ?_)
  have run := hta.run pos [] _ _ _ _ I3 hq
  rw [show starEach (e1 :: es) (cxS CX P w K mg base N qual scope f (.ref cda) cc A outer s H E).env = _ from hst] at run
  refine wpAny_mono run (fun us' s3 hs3 => ?_) fun e4 _ z => wpAny_mono z (fun _ s'' q => hCX' e4 s'' q) fun e5 s'' q => hCX' e5 s'' q
  obtain ⟨vs', H4, I4, r4, hmet, hsp4⟩ := hs3
  refine ⟨met_P I4 hmet, wpAny_call (PySem.W.method_call (met_P I4 hmet).1 ?_)⟩
  refine codeAny_mono (run_fnR (us := .ref x :: us') (vs := .ref x :: vs') F ((hr.deeper _).mono hj) (hx A outer s H E) I4 (.cons rfl r4) hsp4) fun r s5 hr5 => ?_
  cases r with
  | error e => exact wpAny_mono (show wpAny _ _ _ _ _ _ from hr5) (fun _ s'' q => hCX' e s'' q) fun e5 s'' q => hCX' e5 s'' q
  | ok fl =>
    cases fl with
    | next => exact hr5.elim
    | brk => exact hr5.elim
    | cont => exact hr5.elim
    | ret u5 =>
      obtain ⟨v5, H5, I5, _, ht5⟩ := hr5
      refine PySem.wpAt_of_wpAny (wpAny_mono (ht.run [] _ _ _ _ I5 ht5) (fun fl s' hs => ?_) fun e s' hs => (wpAny_mono hs (fun _ s'' z => hCX' e s'' z) fun e' s'' z => hCX' e' s'' z))
      have fin : ∀ {σ' : L2.St} {H' : Hp} {v : V} {u : Value}, Inv (cxS CX P w K mg base N qual scope f (.ref cda) cc A outer s H E) [] σ' H' s' → RelV v u → Q v H' → CE outer P w H0 s0 Q u s' :=
        fun {σ' H' v u} J rv q => ⟨v, H', J.os.trans (by rw [← hsE]; rfl), J.bare, un2.trans J.base, J.hok, rv, q⟩
      cases fl with
      | ret u =>
        obtain ⟨v, σ', H', J, rv, q⟩ := hs
        exact fin J rv q
      | next =>
        obtain ⟨σ', H', J, q⟩ := hs
        exact fin (v := V.non) (u := Value.none) J rfl q
      | brk =>
        obtain ⟨_, _, _, q⟩ := hs
        exact False.elim q
      | cont =>
        obtain ⟨_, _, _, q⟩ := hs
        exact False.elim q
end
end W5
namespace W5
open PySem PySem.Spec PyProof.Rows L2 K0 K6
open K4 hiding Blt
open K8
section
variable {P : Program} {w : World} {K : PySem.W.Frag} {mg : Str → Option Value} {base : Heap}
variable {Z : Addr}
/-! ### Denial.__init__ -/
abbrev st_Denial____init__ : Stmt := inClass (top 22) 0
abbrev nm_Denial____init__ : List Str := ["self", "kind", "parts"]
theorem sc_Denial____init__ : K8.SScope nm_Denial____init__ ["self", "kind", "parts"] (defScope st_Denial____init__) := ⟨rfl, rfl, rfl, by decide +kernel, rfl, by decide +kernel, by decide +kernel, by decide +kernel⟩
/-- an instance of Z gets its kind and its parts -/
def spPapZ (K : PySem.W.Frag) (Z : Addr) : Sp := fun vs H Q _ => ∃ x dx k p d, vs = [.ref x, .str k, .ref p] ∧ H x = some (.ins Z dx []) ∧ FxN K H 3 (.ref p) d ∧
  ∀ H' v, H' x = some (.ins Z dx [("kind", .str k), ("parts", v)]) → (∀ c o, c ≠ x → H c = some o → H' c = some o) → FTN H' 3 v d → Q .non H'
abbrev StarSp (sp : Sp) : Sp := fun vs H Q E => ∃ ws rest, vs = ws ++ rest ∧ ws.length = ["self", "kind"].length ∧ rest.length ≤ sizeLine ∧ ∀ p, H p = Option.none → sp (ws ++ [V.ref p]) (upd H p (.tup rest)) Q E
theorem ok_Denial_init {f cda cc g D : Addr} {fd : FuncData} (F : FunS K "__init__" "Denial.__init__" st_Denial____init__ f cda cc fd) (Zc : PapC K Z) (U : SupC2 P K mg Z D cda g "__init__") (hcc : base.IsCell cc (some (.ref D)))
    (PI : FnR P w K mg base CX0 5 g (StarSp (spPaperI K))) : FnR P w K mg base CX0 6 f (StarSp (spPapZ K Z)) := by
  obtain ⟨oc, od, kV, doc, pm, an, ct, osl, rfl, lk, hcd⟩ := F.ex
  refine fn_superStar (k := 5) (j := 5) (ps := ["self", "kind"]) (pv := "parts") (sp := spPapZ K Z) lk hcd sc_Denial____init__ U hcc rfl rfl rfl rfl (by decide) PI (Nat.le_refl _) StX.cxUp_none (StX.bind_star2 (B := fun l => bindArgs _ ⟨l, []⟩) (p1 := "self") (p2 := "kind") (pv := "parts") (fun a b => rfl) (fun a b r rs => rfl)) (fun A outer s H E pins σ H s e s' I hq => hq.elim) fun A outer s H vs Q E hr h => ?_
  obtain ⟨x, dx, k, p, d, rfl, hx, hf, q⟩ := h
  have SC := sc_Denial____init__
  have hf0 := hf
  rcases hf with ha | ⟨a, xs, ds, ea, ed, hS, hl, hl2, hit⟩
  · rcases ha with ⟨i, e, _⟩ | ⟨z, e, _⟩ <;> cases e
  obtain rfl := V.ref.inj ea
  refine ⟨_, _, x, dx, pa_cons (pv 1) (StX.pa_star (pv 2) pa_nil), pss_nil, rfl, hx, fun q1 hq1 => ?_⟩
  have s1 : Same H (upd H q1 (.met g x)) := Sm.new hq1
  refine ⟨_, rfl, _, rfl, p, xs, rfl, (hS.imp (sm_l s1) (sm_t s1)).symm, ?_⟩
  refine ⟨upd_same, [.ref x, .str k], xs, by simp, rfl, Nat.le_trans hl (by decide), fun p2 hp2 => ?_⟩
  have s2 : Same H (upd (upd H q1 (.met g x)) p2 (.tup xs)) := s1.trans (Sm.new hp2)
  refine ⟨x, Z, dx, k, p2, d, rfl, Zc, s2 _ _ hx, .inr ⟨p2, xs, ds, rfl, ed, .inr (SqT.of upd_same), hl, hl2, fun i y e e1 e2 => fx_same s2 (hit i y e e1 e2)⟩, fun H3 v h1 h2 h3 => q H3 v h1 (fun c o n e => h2 c o n (s2 _ _ e)) h3⟩
end
end W5
namespace W5
open PySem PySem.Spec PyProof.Rows L2 K0 K6
open K4 hiding Blt
open K8
section
variable {P : Program} {w : World} {K : PySem.W.Frag} {mg : Str → Option Value} {base : Heap}
variable {C Z : Addr}
abbrev st_Against____init__ : Stmt := inClass (top 27) 0
abbrev nm_Against____init__ : List Str := ["self", "one", "other"]
theorem sc_Against____init__ : K8.SScope nm_Against____init__ ["self", "one", "other"] (defScope st_Against____init__) := ⟨rfl, rfl, rfl, by decide +kernel, rfl, by decide +kernel, by decide +kernel, by decide +kernel⟩
/-- the class of papers that tell two words against a rule -/
structure AgC (K : PySem.W.Frag) (C : Addr) : Prop where
  p : PapC K C
  f3 : NoAttr K C "one"
  f4 : NoAttr K C "other"
/-- such a paper, its parts known -/
def ZmB (Z : Addr) (H : Hp) (x : Addr) (d1 d2 : PyData) : Prop := ∃ dx u1 u2 p, H x = some (.ins Z dx [("kind", .str "against"), ("parts", p), ("one", u1), ("other", u2)]) ∧ FTN H 2 u1 d1 ∧ FTN H 2 u2 d2 ∧ FTN H 3 p (.tuple [d1, d2])
theorem zmb_sm {H H' : Hp} {x : Addr} {d1 d2 : PyData} (s : Same H H') (h : ZmB Z H x d1 d2) : ZmB Z H' x d1 d2 := by
  obtain ⟨dx, u1, u2, p, e, f1, f2, f3⟩ := h
  exact ⟨dx, u1, u2, p, s _ _ e, ft_same s f1, ft_same s f2, ft_same s f3⟩
def spZmJ (K : PySem.W.Frag) (C : Addr) : Sp := fun vs H Q _ => ∃ x dx v1 v2 d1 d2, vs = [.ref x, v1, v2] ∧ H x = some (.ins C dx []) ∧ FxN K H 2 v1 d1 ∧ FxN K H 2 v2 d2 ∧
  ∀ H', ZmB C H' x d1 d2 → (∀ c o, c ≠ x → H c = some o → H' c = some o) → Q .non H'
theorem ok_ZM_initJ {f cda cc g : Addr} {fd : FuncData} (F : FunS K "__init__" "Against.__init__" st_Against____init__ f cda cc fd) (Z : AgC K C) (U : K8.SupC P K mg C cda g "__init__") (hcc : base.IsCell cc (some (.ref C)))
    (PI : FnR P w K mg base CX0 6 g (StarSp (spPapZ K C))) :
    FnOk P w K mg base (L2.CX P w) 7 f fd ["self", "one", "other"] (spZmJ K C) := by
  obtain ⟨oc, od, kV, doc, pm, an, ct, osl, rfl, lk, hcd⟩ := F.ex
  refine K8.fn_super (k := 6) (j := 6) lk hcd sc_Against____init__ U hcc rfl rfl rfl rfl (by decide) PI (Nat.le_refl _) (fun vs H Q E h => ?_) (fun A outer s H E pins σ H s e s' I hq => hq.elim) fun A outer s H vs Q E hr h => ?_
  · obtain ⟨x, dx, v1, v2, d1, d2, rfl, _⟩ := h
    rfl
  · obtain ⟨x, dx, v1, v2, d1, d2, rfl, hx, h1, h2, q⟩ := h
    have SC := sc_Against____init__
    refine ⟨_, _, x, dx, pa_cons pe_str (pa_cons (pv 1) (pa_cons (pv 2) pa_nil)), pss_one (ps_asg (pe_fld (pv 0) rfl) (pg_tup rfl (pgs_cons (K8.pg_fld (pv 0)) (pgs_cons (K8.pg_fld (pv 0)) pgs_nil)))), rfl, hx, fun q1 hq1 => ?_⟩
    have s1 : Same H (upd H q1 (.met g x)) := Sm.new hq1
    refine ⟨_, rfl, _, rfl, upd_same, [.ref x, .str "against"], [v1, v2], rfl, rfl, (by show 2 ≤ sizeLine; decide), fun p hp => ?_⟩
    have s2 : Same H (upd (upd H q1 (.met g x)) p (.tup [v1, v2])) := s1.trans (Sm.new hp)
    refine ⟨x, dx, "against", p, .tuple [d1, d2], rfl, s2 _ _ hx, .inr ⟨p, [v1, v2], [d1, d2], rfl, rfl, .inr (SqT.of upd_same), (by show 2 ≤ 1000; decide), rfl, fun i y e e1 e2 => ?_⟩, fun H3 v hx3 kx hft => ?_⟩
    · match i, e1, e2 with
      | 0, e1, e2 =>
        obtain rfl := Option.some.inj e1
        obtain rfl := Option.some.inj e2
        exact fx_same s2 h1
      | 1, e1, e2 =>
        obtain rfl := Option.some.inj e1
        obtain rfl := Option.some.inj e2
        exact fx_same s2 h2
      | i + 2, e1, e2 => cases e1
    · have hft0 := hft
      rcases hft with ha | ⟨t, xs, ds, rfl, ed, ht, hl, hx'⟩
      · rcases ha with ⟨i, _, e⟩ | ⟨z, _, e⟩ <;> cases e
      cases ed
      obtain ⟨u1, u2, rfl⟩ : ∃ u1 u2, xs = [u1, u2] := by
        match xs, hl with
        | [a, b], _ => exact ⟨a, b, rfl⟩
      have hu1 := hx' 0 u1 d1 rfl rfl
      have hu2 := hx' 1 u2 d2 rfl rfl
      refine ⟨_, rfl, x, C, dx, _, _, rfl, hx3, Z.p.c, Z.p.f2, rfl, t, [u1, u2], rfl, tf_sq ht, rfl, _, _, rfl, ?_⟩
      refine ⟨_, rfl, x, C, dx, _, rfl, hx3, Z.p.c, Z.f3, (by show 2 < 1000; decide), _, _, rfl, ?_⟩
      refine ⟨_, rfl, x, C, dx, _, rfl, upd_same, Z.p.c, Z.f4, (by show 3 < 1000; decide), rfl, ?_⟩
      refine q _ ⟨dx, u1, u2, .ref t, upd_same, ft_ins upd_same (ft_ins hx3 hu1), ft_ins upd_same (ft_ins hx3 hu2), ft_ins upd_same (ft_ins hx3 hft0)⟩ (fun c o n e => ?_)
      rw [upd_ne n, upd_ne n]
      exact kx c o n (s2 _ _ e)
theorem zmb_make {v1 v2 : V} {d1 d2 : PyData} {H : Hp} {Q : VK} {E : XK} (h1 : FxN K H 2 v1 d1) (h2 : FxN K H 2 v2 d2) (k : ∀ H' x, Same H H' → H x = none → ZmB Z H' x d1 d2 → Q (.ref x) H') : ∀ x dx, H x = none → H dx = none → dx ≠ x →
    spZmJ K Z (.ref x :: ([v1, v2] ++ [])) (upd (upd H dx (.own x)) x (.ins Z dx [])) (fun v H2 => v = .non ∧ Q (.ref x) H2) E := by
  intro x dx nx nd ne
  have s1 : Same H (upd (upd H dx (.own x)) x (.ins Z dx [])) := fun c o e => by
    rw [upd_ne (ne_of_none e nx), upd_ne (ne_of_none e nd)]
    exact e
  refine ⟨x, dx, v1, v2, d1, d2, rfl, upd_same, fx_same s1 h1, fx_same s1 h2, fun H' hz kp => ⟨rfl, k H' x (fun c o e => kp c o (ne_of_none e nx) (s1 _ _ e)) nx hz⟩⟩
/-- what the text says of the class of such papers, for its name, its ==, its truth -/
structure ZmE (K : PySem.W.Frag) (mg : Str → Option Value) (Z Pp : Addr) : Prop where
  c : AgC K Z
  nm : ClsNm K Z "Against"
  gP : mg "Denial" = some (.ref Pp)
  gZ : mg "Against" = some (.ref Z)
  kP : PySem.W.kitOne K (.ref Z) (.ref Pp) = some true
  kZ : PySem.W.kitOne K (.ref Z) (.ref Z) = some true
theorem ZmE.g_Denial {Pp : Addr} (U : ZmE K mg Z Pp) : mg "Denial" = some (.ref Pp) := U.gP
theorem zm_tyx {Pp : Addr} {H : Hp} {x : Addr} {d1 d2 : PyData} (U : ZmE K mg Z Pp) (h : ZmB Z H x d1 d2) : TyX K H (.ref x) (.ref Z) := by
  obtain ⟨dx, u1, u2, p, e, _⟩ := h
  exact .base (.ins e U.c.p.c U.nm.fi U.nm.sp U.nm.tk U.nm.mro)
/-! ### are_equal, is_called -/
abbrev st_are_equal : Stmt := top 20
abbrev nm_are_equal : List Str := ["one", "other"]
theorem sc_are_equal : FnScope nm_are_equal ["one", "other"] (defScope st_are_equal) := ⟨rfl, rfl, rfl, by decide +kernel, rfl, by decide +kernel, by decide +kernel⟩
def spAreEq (K : PySem.W.Frag) (Z : Addr) : Sp := fun vs H Q _ => ∃ x y d1 d2 e1 e2, vs = [.ref x, .ref y] ∧ ZmB Z H x d1 d2 ∧ ZmB Z H y e1 e2 ∧ SeqAt.shaped (.tuple [d1, d2]) = true ∧ SeqAt.shaped (.tuple [e1, e2]) = true ∧
  Q (.bl (PyData.eqv (.tuple [d1, d2]) (.tuple [e1, e2]))) H
theorem ok_are_equal {f Pp : Addr} {fd : FuncData} (F : Fun K "are_equal" "are_equal" st_are_equal f fd) (U : ZmE K mg Z Pp) : FnOk P w K mg base CX0 1 f fd ["one", "other"] (spAreEq K Z) := by
  refine F.ok sc_are_equal (fun vs H Q E h => ?_) (fun cdv A outer s H vs Q E hr h => ?_)
  · obtain ⟨x, y, d1, d2, e1, e2, rfl, _⟩ := h
    rfl
  · refine ⟨_, (pss_cons (ps_if (pt_cmpR op_ne (pe_clsnm (pv 0) rfl rfl) (pe_clsnm (pv 1) rfl rfl) (nomark _)) (pss_one (ps_ret pe_bl)) pss_nil)
  (pss_one (ps_ret (pe_and (pe_cmpR op_eq (pe_fld (pv 0) rfl) (pe_fld (pv 1) rfl) (nomark _)) (pe_one (pe_cmpR (op_eqD hr.units) (pe_fld (pv 0) rfl) (pe_fld (pv 1) rfl) (nomark _))))))), ?_⟩
    obtain ⟨x, y, d1, d2, e1, e2, rfl, ⟨dx, u1, u2, p, hx, _, _, hp⟩, ⟨dy, v1, v2, r, hy, _, _, hr'⟩, s1, s2, q⟩ := h
    refine ⟨_, rfl, x, Z, dx, _, _, rfl, hx, U.nm, _, rfl, y, Z, dy, _, _, rfl, hy, U.nm, rfl, ?_⟩
    refine ⟨_, rfl, iteF ?_⟩
    refine ⟨_, rfl, x, Z, dx, _, _, rfl, hx, U.c.p.c, U.c.p.f1, rfl, _, rfl, y, Z, dy, _, _, rfl, hy, U.c.p.c, U.c.p.f1, rfl, rfl, _, rfl, ?_⟩
    refine ⟨_, rfl, x, Z, dx, _, _, rfl, hx, U.c.p.c, U.c.p.f2, rfl, _, rfl, y, Z, dy, _, _, rfl, hy, U.c.p.c, U.c.p.f2, rfl, _, _, ft_dp hp, ft_dp hr', s1, s2, q⟩
abbrev CAeq (P : Program) (w : World) (K : PySem.W.Frag) (mg : Str → Option Value) (base : Heap) (Z : Addr) : Prop := Cal P w K mg base 1 "are_equal" st_are_equal ["one", "other"] (spAreEq K Z)
/-! ### Denial.__eq__, Denial.__bool__ -/
abbrev st_Denial____eq__ : Stmt := inClass (top 22) 2
abbrev nm_Denial____eq__ : List Str := ["self", "other"]
theorem sc_Denial____eq__ : FnScope nm_Denial____eq__ ["self", "other"] (defScope st_Denial____eq__) := ⟨rfl, rfl, rfl, by decide +kernel, rfl, by decide +kernel, by decide +kernel⟩
@[irreducible] def hAeq (K : PySem.W.Frag) (Z : Addr) : Sp := spAreEq K Z
theorem hAeq_eq {K : PySem.W.Frag} {Z : Addr} : hAeq K Z = spAreEq K Z := by
  unfold hAeq
  rfl
end
end W5
namespace W5
open PySem PySem.Spec PyProof.Rows L2 K0 K6
open K4 hiding Blt
/-! ### the least two places against a rule -/
abbrev Pl2 : Type := (Nat × Nat) × (Nat × Nat)
/-- x stands ahead of y -/
def ltPl (x y : Nat × Nat) : Prop := x.1 < y.1 ∨ (x.1 = y.1 ∧ x.2 < y.2)
def ltP2 (x y : Pl2) : Prop := ltPl x.1 y.1 ∨ (x.1 = y.1 ∧ ltPl x.2 y.2)
def LeastR (L : List Occ) (c d : Nat) : Option Pl2 → Prop
  | none => ∀ n, firstAt L c n = none ∨ firstAt L d n = none
  | some r => (∃ n, firstAt L c n = some r.1 ∧ firstAt L d n = some r.2) ∧ ∀ n x y, firstAt L c n = some x → firstAt L d n = some y → ¬ ltP2 (x, y) r
def ppOf (x : Pl2) : K5.PP := (((x.1.1 : Nat), (x.1.2 : Nat)), ((x.2.1 : Nat), (x.2.2 : Nat)))
theorem pp_inj {x y : Pl2} (h : ppOf x = ppOf y) : x = y := by
  obtain ⟨⟨a, b⟩, c, d⟩ := x
  obtain ⟨⟨a', b'⟩, c', d'⟩ := y
  unfold ppOf at h
  simp only [Prod.mk.injEq, Int.ofNat_inj] at h ⊢
  exact h
theorem lt_pp (x y : K5.PP) : PySem.W.DatumOrd.lt x y = decide ((x.1.1 < y.1.1 ∨ (x.1.1 = y.1.1 ∧ x.1.2 < y.1.2)) ∨ (x.1 = y.1 ∧ (x.2.1 < y.2.1 ∨ (x.2.1 = y.2.1 ∧ x.2.2 < y.2.2)))) := by
  obtain ⟨⟨a, b⟩, c, d⟩ := x
  obtain ⟨⟨a', b'⟩, c', d'⟩ := y
  show (if (a, b) = (a', b') then (if c = c' then decide (d < d') else decide (c < c')) else (if a = a' then decide (b < b') else decide (a < a'))) = _
  simp only [Prod.mk.injEq]
  rw [Bool.eq_iff_iff, decide_eq_true_eq]
  by_cases h1 : a = a' <;> by_cases h2 : b = b' <;> by_cases h3 : c = c' <;> simp [h1, h2, h3] <;> omega
theorem lt_trans {x y z : K5.PP} (h1 : PySem.W.DatumOrd.lt x y = true) (h2 : PySem.W.DatumOrd.lt y z = true) : PySem.W.DatumOrd.lt x z = true := by
  rw [lt_pp, decide_eq_true_eq] at h1 h2 ⊢
  obtain ⟨⟨a, b⟩, c, d⟩ := x
  obtain ⟨⟨a', b'⟩, c', d'⟩ := y
  obtain ⟨⟨a2, b2⟩, c2, d2⟩ := z
  simp only [Prod.mk.injEq] at h1 h2 ⊢
  omega
theorem minOf_least : ∀ (ps : List K5.PP) (x : K5.PP), PySem.W.minOf x ps ∈ x :: ps ∧ ∀ y ∈ x :: ps, PySem.W.DatumOrd.lt y (PySem.W.minOf x ps) = false
  | [], x => ⟨List.mem_cons_self, fun y hy => by
    rw [List.mem_singleton.mp hy]
    show PySem.W.DatumOrd.lt x x = false
    rw [lt_pp]
    exact decide_eq_false (by rintro ((h | h) | h) <;> omega)⟩
  | z :: ps, x => by
    have e : PySem.W.minOf x (z :: ps) = PySem.W.minOf (if PySem.W.DatumOrd.lt z x = true then z else x) ps := rfl
    obtain ⟨h1, h2⟩ := minOf_least ps (if PySem.W.DatumOrd.lt z x = true then z else x)
    rw [e]
    by_cases c : PySem.W.DatumOrd.lt z x = true
    · rw [if_pos c] at h1 h2 ⊢
      refine ⟨List.mem_cons_of_mem _ h1, fun y hy => ?_⟩
      rcases List.mem_cons.mp hy with rfl | hy
      · cases q : PySem.W.DatumOrd.lt y (PySem.W.minOf z ps) with
        | false => rfl
        | true =>
          have := lt_trans c q
          rw [h2 z List.mem_cons_self] at this
          cases this
      · exact h2 y hy
    · rw [if_neg c] at h1 h2 ⊢
      refine ⟨?_, fun y hy => ?_⟩
      · rcases List.mem_cons.mp h1 with h | h
        · rw [h]
          exact List.mem_cons_self
        · exact List.mem_cons_of_mem _ (List.mem_cons_of_mem _ h)
      · rcases List.mem_cons.mp hy with rfl | hy
        · exact h2 y List.mem_cons_self
        · rcases List.mem_cons.mp hy with rfl | hy
          · cases q : PySem.W.DatumOrd.lt y (PySem.W.minOf x ps) with
            | false => rfl
            | true =>
              -- x is not ahead of the least, and y is: so y is ahead of x
              exfalso
              have hx := h2 x List.mem_cons_self
              rw [lt_pp, decide_eq_false_iff_not] at hx
              rw [Bool.not_eq_true, lt_pp, decide_eq_false_iff_not] at c
              rw [lt_pp, decide_eq_true_eq] at q
              obtain ⟨⟨a, b⟩, e1, d⟩ := x
              obtain ⟨⟨a', b'⟩, c', d'⟩ := y
              generalize PySem.W.minOf ((a, b), e1, d) ps = m at *
              obtain ⟨⟨a2, b2⟩, c2, d2⟩ := m
              simp only [Prod.mk.injEq] at hx c q
              omega
          · exact h2 y (List.mem_cons_of_mem _ hy)
theorem hu20 {k : Nat} {A : Around} (hr : Room k A) : A.units + 20 < cLine := by
  have := hr.units
  omega
/-- a sound's places, or none: a new dict -/
theorem FdAt.get {H0 H : Hp} {p e : Addr} {L : List Occ} {kvs : List (L2.Key × V)} {ks : List Nat} {da : Nat → Addr} (h : FdAt H0 H p L kvs ks da) (he : H e = none) (c : Nat) :
    ∃ m ts, (valV kvs (kS c)).getD (.ref e) = .ref m ∧ L2.upd H e (.dT []) m = some (.dT ts) ∧ InAt (L2.upd H e (.dT [])) ts (firstAt L c) ∧ ts.length ≤ L.length ∧ (m = e ∨ (c ∈ ks ∧ m = da c)) := by
  by_cases hc : c ∈ ks
  · obtain ⟨ts, a, b, i⟩ := h.inn c hc
    have s := Sm.new (o := .dT []) he
    exact ⟨da c, ts, by rw [h.val c hc]; rfl, s _ _ a, i.sm s, b, .inr ⟨hc, rfl⟩⟩
  · refine ⟨e, [], by rw [h.no hc]; rfl, upd_same, InAt.nil (firstAt_no fun z => hc ((h.mem c).mpr z)), Nat.zero_le _, .inl rfl⟩
/-- pairs of places -/
def PsAt (H : Hp) (xs : List V) (ps : List Pl2) : Prop := xs.length = ps.length ∧ ∀ (i : Nat) x r, xs[i]? = some x → ps[i]? = some r → ∃ T t1 t2, x = .ref T ∧ H T = some (.tup [.ref t1, .ref t2]) ∧ H t1 = some (.tup (plV r.1)) ∧ H t2 = some (.tup (plV r.2))
theorem PsAt.sm {H H' : Hp} {xs : List V} {ps : List Pl2} (h : PsAt H xs ps) (s : Same H H') : PsAt H' xs ps := ⟨h.1, fun i x r e1 e2 => by
  obtain ⟨T, t1, t2, e, a, b, c⟩ := h.2 i x r e1 e2
  exact ⟨T, t1, t2, e, s _ _ a, s _ _ b, s _ _ c⟩⟩
theorem PsAt.upd {H : Hp} {d : Addr} {o : HO} {xs : List V} {ps : List Pl2} (h : PsAt H xs ps) (hd : ∀ ys, H d ≠ some (.tup ys)) : PsAt (L2.upd H d o) xs ps := ⟨h.1, fun i x r e1 e2 => by
  obtain ⟨T, t1, t2, e, a, b, c⟩ := h.2 i x r e1 e2
  have ne : ∀ {b : Addr} {ys : List V}, H b = some (.tup ys) → b ≠ d := fun e z => hd _ (z ▸ e)
  exact ⟨T, t1, t2, e, (upd_ne (ne a)).trans a, (upd_ne (ne b)).trans b, (upd_ne (ne c)).trans c⟩⟩
theorem PsAt.snoc {H : Hp} {T t1 t2 : Addr} {xs : List V} {ps : List Pl2} {r : Pl2} (h : PsAt H xs ps) (a : H T = some (.tup [.ref t1, .ref t2])) (b : H t1 = some (.tup (plV r.1))) (c : H t2 = some (.tup (plV r.2))) : PsAt H (xs ++ [.ref T]) (ps ++ [r]) := ⟨by rw [List.length_append, List.length_append, h.1]; rfl, fun i x r' h1 h2 => by
  rcases Nat.lt_or_ge i xs.length with q | q
  · rw [List.getElem?_append_left q] at h1
    rw [List.getElem?_append_left (by rw [← h.1]; exact q)] at h2
    exact h.2 i x r' h1 h2
  · have hb := (List.getElem?_eq_some_iff.mp h1).1
    rw [List.length_append] at hb
    have hb : i < xs.length + 1 := hb
    have hi2 : i = xs.length := by omega
    subst hi2
    rw [List.getElem?_append_right (Nat.le_refl _), Nat.sub_self] at h1
    rw [h.1, List.getElem?_append_right (Nat.le_refl _), Nat.sub_self] at h2
    obtain rfl := Option.some.inj h1
    obtain rfl := Option.some.inj h2
    exact ⟨T, t1, t2, rfl, a, b, c⟩⟩
theorem PsAt.dp {K : PySem.W.Frag} {H : Hp} {xs : List V} {ps : List Pl2} (h : PsAt H xs ps) : DpAll K H xs ((ps.map ppOf).map PySem.W.Datum.toD) := dpa_ix (by rw [List.length_map, List.length_map]; exact h.1) fun i x e h1 h2 => by
  rw [List.getElem?_map, List.getElem?_map] at h2
  cases z : ps[i]? with
  | none => rw [z] at h2; cases h2
  | some r =>
    rw [z] at h2
    obtain rfl := Option.some.inj h2
    obtain ⟨T, t1, t2, rfl, a, b, c⟩ := h.2 i x r h1 z
    rw [K5.toD_pp]
    exact .tup (SqT.of a) (.cons (.tup (SqT.of b) (.cons (.int _) (.cons (.int _) .nil))) (.cons (.tup (SqT.of c) (.cons (.int _) (.cons (.int _) .nil))) .nil))
def dPl (q : Nat × Nat) : PyData := .tuple [.int (q.1 : Nat), .int (q.2 : Nat)]
theorem fx_pl {K : PySem.W.Frag} {H : Hp} {t : Addr} {q : Nat × Nat} (h : H t = some (.tup (plV q))) : FxN K H 2 (.ref t) (dPl q) := .inr ⟨t, plV q, [.int (q.1 : Nat), .int (q.2 : Nat)], rfl, rfl, .inr (SqT.of h), by show 2 ≤ 1000; decide, rfl, fun i x d e1 e2 => by
  match i, e1, e2 with
  | 0, e1, e2 =>
    obtain rfl := Option.some.inj e1
    obtain rfl := Option.some.inj e2
    exact .inl (.inl ⟨_, rfl, rfl⟩)
  | 1, e1, e2 =>
    obtain rfl := Option.some.inj e1
    obtain rfl := Option.some.inj e2
    exact .inl (.inl ⟨_, rfl, rfl⟩)
  | i + 2, e1, e2 => cases e1⟩
section
variable {P : Program} {w : World} {K : PySem.W.Frag} {mg : Str → Option Value} {base : Heap}
variable {Z : Addr}
abbrev CAg (P : Program) (w : World) (K : PySem.W.Frag) (mg : Str → Option Value) (base : Heap) (Z : Addr) : Prop := MakX P w K mg base 7 "Against" Z ["self", "one", "other"] (spZmJ K Z)
def OutR (Z : Addr) (H H' : Hp) (v : V) : Option Pl2 → Prop
  | none => v = .non
  | some r => ∃ z, v = .ref z ∧ ZmB Z H' z (dPl r.1) (dPl r.2)
abbrev st_least_against : Stmt := top 33
abbrev nm_least_against : List Str := ["places", "sound", "other", "mine", "its", "pairs", "around"]
theorem sc_least_against : FnScope nm_least_against ["places", "sound", "other"] (defScope st_least_against) := ⟨rfl, rfl, rfl, by decide +kernel, rfl, by decide +kernel, by decide +kernel⟩
def spLeastA (K : PySem.W.Frag) (Z : Addr) : Sp := fun vs H Q _ => ∃ H0 p L kvs ks da c d, vs = [.ref p, .str (Tx [c]), .str (Tx [d])] ∧ c ≠ d ∧ FdAt H0 H p L kvs ks da ∧ L.length ≤ 400 ∧ ∀ H' v r, Same H H' → LeastR L c d r → OutR Z H H' v r → Q v H'
theorem ok_leastA {f : Addr} {fd : FuncData} (F : Fun K "least_against" "least_against" st_least_against f fd) (T : Blt mg) (C_Against : CAg P w K mg base Z) : FnOk P w K mg base CX0 9 f fd ["places", "sound", "other"] (spLeastA K Z) := by
  refine F.ok sc_least_against (fun vs H Q E h => ?_) (fun cdv A outer s H vs Q E hr h => ?_)
  · obtain ⟨_, _, _, _, _, _, _, _, rfl, _⟩ := h
    rfl
  · refine ⟨_, (pss_cons (ps_set (i := 3) sc_least_against.nd rfl (Or.inr rfl) (pe_dget2 (hu_of hr) (pv 0) (pv 1) pe_dnewT (by exact ⟨rfl, rfl, rfl, rfl⟩)))
  (pss_cons (ps_set (i := 4) sc_least_against.nd rfl (Or.inr rfl) (pe_dget2 (hu_of hr) (pv 0) (pv 2) pe_dnewT (by exact ⟨rfl, rfl, rfl, rfl⟩)))
  (pss_cons (ps_lock (ps_setLc (i := 5) (own := [("around", 6)]) (g := (gName 6)) rfl sc_least_against.nd rfl rfl (sw_true rfl rfl rfl (by decide +kernel)) (pi_keys (pv 3)) (blkOk_by (N := nm_least_against) (sc := defScope st_least_against) (own := [("around", 6)]) (by decide +kernel)) (fun _ _ _ _ _ => by exact pg_name (i := 6) sc_least_against.nd rfl (Or.inl rfl)) (fun _ _ _ _ _ => pts_one (pt_cmp (pc_din (by exact hu_of hr) (pv 6) (pv 4)) (by first | rfl | exact nomark _))) (fun _ _ _ _ _ => (pe_tup (pa_cons (pe_dget (by exact hu_of hr) (pv 3) (pv 6) (fun _ _ => rfl)) (pa_cons (pe_dget (by exact hu_of hr) (pv 4) (pv 6) (fun _ _ => rfl)) pa_nil))))))
  (pss_cons (ps_if (pt_cmpR op_eq (pe_callB call_len_seq (by rfl) T.n_len (by decide +kernel) (pa_cons (pv 5) pa_nil)) pe_int (nomark _)) (pss_one (ps_ret pe_non)) pss_nil)
  (pss_one (ps_ret (pe_mkX C_Against px0 (hr.mono (by decide)) rfl (pa_cons (pe_ix (ix_tup : IxR _ (rIxT K)) (pe_callB (K5.cr_minPP rfl (hu20 hr)) (by rfl) T.n_min (by decide +kernel) (pa_cons (pv 5) pa_nil)) pe_int (fun _ _ => rfl)) (pa_cons (pe_ix (ix_tup : IxR _ (rIxT K)) (pe_callB (K5.cr_minPP rfl (hu20 hr)) (by rfl) T.n_min (by decide +kernel) (pa_cons (pv 5) pa_nil)) pe_int (fun _ _ => rfl)) pa_nil))))))))), ?_⟩
    obtain ⟨H0, p, L, kvs, ks, da, c, d, rfl, hne, hF, hL, q⟩ := h
    rw [show L2.start nm_least_against [V.ref p, V.str (Tx [c]), V.str (Tx [d])] = [some (V.ref p), some (V.str (Tx [c])), some (V.str (Tx [d])), none, none, none, none] from rfl]
    refine ⟨_, rfl, p, rfl, .inl ⟨kvs, .inl hF.at_⟩, _, rfl, fun e1 he1 => ?_⟩
    have s1 := Sm.new (o := .dT []) he1
    have F1 := hF.sm s1
    obtain ⟨m, ts, em, hm, im, lm, wm⟩ := hF.get he1 c
    refine ⟨_, DGet.k (k := kS c) F1.at_, ?_⟩
    rw [em]
    dsimp only [gName, List.set_cons_succ, List.set_cons_zero]
    refine ⟨_, rfl, p, rfl, .inl ⟨kvs, .inl F1.at_⟩, _, rfl, fun e2 he2 => ?_⟩
    have s2 := Sm.new (o := .dT []) he2
    have F2 := F1.sm s2
    obtain ⟨n, us, en, hn, iN, ln, wn⟩ := F1.get he2 d
    refine ⟨_, DGet.k (k := kS d) F2.at_, ?_⟩
    rw [en]
    dsimp only [gName, List.set_cons_succ, List.set_cons_zero]
    have nmn : m ≠ n := fun z => by
      rcases wn with rfl | ⟨hd, rfl⟩
      · rw [← z, hm] at he2
        cases he2
      · rcases wm with rfl | ⟨hc, rfl⟩
        · obtain ⟨ts', a, _⟩ := hF.inn d hd
          rw [← z, he1] at a
          cases a
        · exact hne (hF.inj c hc d hd z)
    have hm2 := s2 _ _ hm
    have im2 := im.sm s2
    generalize upd (upd H e1 (.dT [])) e2 (.dT []) = H2 at s2 hn iN hm2 im2 ⊢
    have sA := s1.trans s2
    clear s1 s2 F1 F2 hm im em en he1 he2 wm wn
    refine ⟨m, _, hm2, True.intro, fun od => ?_⟩
    refine ⟨_, rfl, m, od, rfl, .inr ⟨ts, upd_same, fun D hD => ?_⟩⟩
    have nDm : D ≠ m := fun z => by rw [z, upd_same] at hD; cases hD
    have hD2 : H2 D = none := by rw [upd_ne nDm] at hD; exact hD
    have keep : ∀ {H' : Hp}, Same (upd H2 m (.frz od (.dT ts))) H' → Same H2 (upd H' m (.dT ts)) := fun {H'} s b o e => by
      by_cases z : b = m
      · rw [z, upd_same, ← hm2, ← z]
        exact e
      · rw [upd_ne z]
        exact s _ _ ((upd_ne z).trans e)
    have mnt : ∀ ys, H2 m ≠ some (.tup ys) := fun ys z => by rw [hm2] at z; cases z
    have im3 := im2.upd (d := m) (o := .frz od (.dT ts)) mnt
    have iN3 := iN.upd (d := m) (o := .frz od (.dT ts)) mnt
    have hn3 : upd H2 m (.frz od (.dT ts)) n = some (.dT us) := (upd_ne nmn.symm).trans hn
    have hm3 : upd H2 m (.frz od (.dT ts)) m = some (.frz od (.dT ts)) := upd_same
    generalize hH3 : upd H2 m (.frz od (.dT ts)) = H3 at hD keep im3 iN3 hn3 hm3 ⊢
    refine lc_it walk_keysT (fun i H' => Same H3 H' ∧ ∃ xs ps, H' D = some (.lst xs) ∧ PsAt H' xs ps ∧ ps.length ≤ i ∧ (∀ r ∈ ps, ∃ n, firstAt L c n = some r.1 ∧ firstAt L d n = some r.2) ∧ (∀ k < i, ∀ e n x y, ts[k]? = some e → e.1 = kN n → firstAt L c n = some x → firstAt L d n = some y → (x, y) ∈ ps))
      ⟨Sm.new hD, [], [], upd_same, ⟨rfl, fun i x r e => by cases e⟩, Nat.zero_le _, fun r h => absurd h List.not_mem_nil, fun k hk => absurd hk (Nat.not_lt_zero _)⟩ (fun i G hi z => z.1 _ _ hm3) ?_ ?_
    · rintro i y G1 G2 hi ⟨q1, xs, ps, q2, q3, q4, q5, q6⟩ ⟨rfl, k, v, b, hk, rfl, hb⟩
      obtain ⟨nb, ek, hs⟩ := im3.keys _ (List.mem_of_getElem? hk)
      have ek : k = kN nb := ek
      subst ek
      obtain ⟨x, hx⟩ := Option.isSome_iff_exists.mp hs
      obtain ⟨t1, v1, ht1⟩ := im3.get nb x hx
      have sub : ∀ k' < i + 1, ∀ e n' x' y', ts[k']? = some e → e.1 = kN n' → firstAt L c n' = some x' → firstAt L d n' = some y' → (x', y') ∈ ps ∨ (firstAt L d nb = some y' ∧ x' = x) := fun k' hk' e n' x' y' e1 e2 e3 e4 => by
        rcases Nat.lt_or_ge k' i with z | z
        · exact .inl (q6 k' z e n' x' y' e1 e2 e3 e4)
        · have : k' = i := by omega
          rw [this, hk] at e1
          obtain rfl := Option.some.inj e1
          have := kN_inj e2
          subst this
          rw [hx] at e3
          exact .inr ⟨e4, (Option.some.inj e3).symm⟩
      refine ⟨rfl, _, rfl, _, rfl, n, _, rfl, DGet.t (q1 _ _ hn3) hb, _, rfl, ?_⟩
      cases hy : firstAt L d nb with
      | none =>
        rw [iN3.no nb hy]
        refine iteF ⟨q1, xs, ps, q2, q3, by omega, q5, fun k' hk' e n' x' y' e1 e2 e3 e4 => ?_⟩
        rcases sub k' hk' e n' x' y' e1 e2 e3 e4 with z | ⟨z, _⟩
        · exact z
        · rw [hy] at z
          cases z
      | some y =>
        obtain ⟨t2, v2, ht2⟩ := iN3.get nb y hy
        rw [v2]
        refine iteT ?_
        refine ⟨_, rfl, _, rfl, m, _, rfl, .inr ⟨ts, kN nb, b, .inr ⟨od, q1 _ _ hm3⟩, rfl, hb, v1.symm⟩, _, rfl, _, rfl, n, _, rfl, .inr ⟨us, kN nb, b, .inl (q1 _ _ hn3), rfl, hb, v2.symm⟩, by show 2 ≤ sizeLine; decide, fun T hT => ?_⟩
        have sT := Sm.new (o := .tup [.ref t1, .ref t2]) hT
        have nTD : T ≠ D := fun z => by rw [z, q2] at hT; cases hT
        refine ⟨xs, sT _ _ q2, Nat.lt_of_le_of_lt (show _ ≤ 400 by have := q3.1; have hi : i < ts.length := hi; omega) (by decide), Sm.put (q1.trans sT) hD, xs ++ [.ref T], ps ++ [(x, y)], upd_same, ?_, by rw [List.length_append]; show _ + 1 ≤ _; omega, fun r hr => ?_, fun k' hk' e n' x' y' e1 e2 e3 e4 => ?_⟩
        · have := (q3.sm sT).snoc (r := (x, y)) (T := T) upd_same ((q1.trans sT) _ _ ht1) ((q1.trans sT) _ _ ht2)
          exact this.upd fun ys z => by rw [sT _ _ q2] at z; cases z
        · rcases List.mem_append.mp hr with hr | hr
          · exact q5 r hr
          · rw [List.mem_singleton.mp hr]
            exact ⟨nb, hx, hy⟩
        · rcases sub k' hk' e n' x' y' e1 e2 e3 e4 with z | ⟨z, z2⟩
          · exact List.mem_append_left _ z
          · rw [hy] at z
            rw [z2, ← Option.some.inj z]
            exact List.mem_append_right _ List.mem_cons_self
    rintro H4 ⟨s4, xs, ps, eX, pX, lX, okX, allX⟩
    dsimp only [gName, List.set_cons_succ, List.set_cons_zero]
    refine ⟨s4 _ _ hm3, ?_⟩
    have s5 := keep s4
    have eX5 : upd H4 m (.dT ts) D = some (.lst xs) := (upd_ne nDm).trans eX
    have pX5 := pX.upd (d := m) (o := .dT ts) fun ys z => by rw [s4 _ _ hm3] at z; cases z
    generalize upd H4 m (.dT ts) = H5 at s5 eX5 pX5 ⊢
    have sB := sA.trans s5
    have all : ∀ n' x' y', firstAt L c n' = some x' → firstAt L d n' = some y' → (x', y') ∈ ps := fun n' x' y' h1 h2 => by
      obtain ⟨t, v, _⟩ := im2.get n' x' h1
      have := valV_in v
      obtain ⟨e, he, ee⟩ := List.mem_map.mp this
      obtain ⟨k, hk⟩ := List.mem_iff_getElem?.mp he
      exact allX k (List.getElem?_eq_some_iff.mp hk).1 e n' x' y' hk ee h1 h2
    clear allX s4 pX eX keep im3 iN3 hn3 hm3 hH3 lX
    refine ⟨_, rfl, D, xs, rfl, .inl (SqL.of eX5), rfl, _, rfl, ?_⟩
    rw [pX5.1]
    cases ps with
    | nil =>
      refine iteT ?_
      refine q _ _ none sB (fun n' => ?_) rfl
      cases h1 : firstAt L c n' with
      | none => exact .inl rfl
      | some x' =>
        cases h2 : firstAt L d n' with
        | none => exact .inr rfl
        | some y' => exact absurd (all n' x' y' h1 h2) List.not_mem_nil
    | cons r ps =>
      have en : decide (V.int (((r :: ps).length : Nat) : Int) = V.int 0) = false := decide_eq_false fun z => by
        have := V.int.inj z
        rw [List.length_cons] at this
        omega
      rw [en]
      refine iteF ?_
      obtain ⟨mIn, mLe⟩ := minOf_least (ps.map ppOf) (ppOf r)
      obtain ⟨r0, hr0, er0⟩ : ∃ r0 ∈ r :: ps, ppOf r0 = PySem.W.minOf (ppOf r) (ps.map ppOf) := by
        have : PySem.W.minOf (ppOf r) (ps.map ppOf) ∈ (r :: ps).map ppOf := mIn
        obtain ⟨a, h1, h2⟩ := List.mem_map.mp this
        exact ⟨a, h1, h2⟩
      have which : ∀ {i : Nat} {v : V}, xs[i]? = some v → (ppOf r :: ps.map ppOf)[i]? = some (PySem.W.minOf (ppOf r) (ps.map ppOf)) → ∃ T t1 t2, v = .ref T ∧ H5 T = some (.tup [.ref t1, .ref t2]) ∧ H5 t1 = some (.tup (plV r0.1)) ∧ H5 t2 = some (.tup (plV r0.2)) := fun {i v} e1 e2 => by
        have e2 : ((r :: ps).map ppOf)[i]? = some (PySem.W.minOf (ppOf r) (ps.map ppOf)) := e2
        rw [List.getElem?_map] at e2
        cases z : (r :: ps)[i]? with
        | none => rw [z] at e2; cases e2
        | some a =>
          rw [z] at e2
          have e3 : ppOf a = _ := Option.some.inj e2
          rw [← er0] at e3
          rw [← pp_inj e3]
          exact pX5.2 i v a e1 z
      refine ⟨_, rfl, D, xs, ppOf r, ps.map ppOf, rfl, SqL.of eX5, pX5.dp, fun i v h1 h2 => ?_⟩
      obtain ⟨T, t1, t2, rfl, hT, ht1, _⟩ := which h1 h2
      refine ⟨T, _, 0, _, rfl, rfl, SqT.of hT, rfl, _, rfl, D, xs, ppOf r, ps.map ppOf, rfl, SqL.of eX5, pX5.dp, fun i' v' h1' h2' => ?_⟩
      obtain ⟨T', t1', t2', rfl, hT', _, ht2'⟩ := which h1' h2'
      refine ⟨T', _, 1, _, rfl, rfl, SqT.of hT', rfl, ?_⟩
      refine zmb_make (fx_pl ht1) (fx_pl ht2') fun H6 z s6 nz hz => ?_
      refine q _ _ (some r0) (sB.trans s6) ⟨okX r0 hr0, fun n' x' y' h3 h4 h5 => ?_⟩ ⟨z, rfl, hz⟩
      have := mLe (ppOf (x', y')) (by
        show ppOf (x', y') ∈ (r :: ps).map ppOf
        exact List.mem_map.mpr ⟨_, all n' x' y' h3 h4, rfl⟩)
      rw [← er0, lt_pp, decide_eq_false_iff_not] at this
      refine this ?_
      obtain ⟨⟨a1, a2⟩, a3, a4⟩ := r0
      obtain ⟨x1, x2⟩ := x'
      obtain ⟨y1, y2⟩ := y'
      unfold ltP2 ltPl at h5
      unfold ppOf
      simp only [Prod.mk.injEq] at h5 ⊢
      omega
end
end W5
namespace W5
open PySem PySem.Spec PyProof.Rows L2 K0 K6
open K4 hiding Blt
/-! ### least of all pairs of places -/
def LeastO (L : List Occ) (c d : Nat) : Option Pl2 → Prop
  | none => ∀ x ∈ L, ∀ y ∈ L, x.1 = c → y.1 = d → x.2.1 ≠ y.2.1
  | some r => (∃ x ∈ L, ∃ y ∈ L, x.1 = c ∧ y.1 = d ∧ x.2.1 = y.2.1 ∧ r = (x.2.2, y.2.2)) ∧ ∀ x ∈ L, ∀ y ∈ L, x.1 = c → y.1 = d → x.2.1 = y.2.1 → ¬ ltP2 (x.2.2, y.2.2) r
open Classical in
noncomputable def leastF (L : List Occ) (c d : Nat) : Option Pl2 := if h : ∃ r, LeastO L c d (some r) then some (choose h) else none
theorem ltP2_tri (x y : Pl2) (h1 : ¬ ltP2 x y) (h2 : ¬ ltP2 y x) : x = y := by
  obtain ⟨⟨a, b⟩, c, d⟩ := x
  obtain ⟨⟨a', b'⟩, c', d'⟩ := y
  unfold ltP2 ltPl at h1 h2
  simp only [Prod.mk.injEq] at h1 h2 ⊢
  omega
theorem leastO_uniq {L : List Occ} {c d : Nat} {r r' : Pl2} (h : LeastO L c d (some r)) (h' : LeastO L c d (some r')) : r = r' := by
  obtain ⟨⟨x, hx, y, hy, a1, a2, a3, rfl⟩, l1⟩ := h
  obtain ⟨⟨x', hx', y', hy', b1, b2, b3, rfl⟩, l2⟩ := h'
  exact ltP2_tri _ _ (l2 x hx y hy a1 a2 a3) (l1 x' hx' y' hy' b1 b2 b3)
theorem leastF_of {L : List Occ} {c d : Nat} : ∀ {r : Option Pl2}, LeastO L c d r → leastF L c d = r
  | some r, h => by
    unfold leastF
    have hx : ∃ r, LeastO L c d (some r) := ⟨r, h⟩
    rw [dif_pos hx]
    exact congrArg some (leastO_uniq (Classical.choose_spec hx) h)
  | none, h => by
    unfold leastF
    rw [dif_neg]
    rintro ⟨r, ⟨x, hx, y, hy, a1, a2, a3, _⟩, _⟩
    exact h x hx y hy a1 a2 a3
theorem firstAt_some {L : List Occ} {c : Nat} {n : NB} {q : Nat × Nat} (h : firstAt L c n = some q) : (c, n, q) ∈ L := by
  unfold firstAt at h
  obtain ⟨x, hx, rfl⟩ := Option.map_eq_some_iff.mp h
  have h1 := List.find?_some hx
  have h2 := List.mem_of_find?_eq_some hx
  obtain ⟨e1, e2⟩ := of_decide_eq_true h1
  rw [← e1, ← e2]
  exact h2
theorem firstAt_le {L : List Occ} (hs : L.Pairwise fun x y => ltPl x.2.2 y.2.2) {x : Occ} (hx : x ∈ L) : ∃ q, firstAt L x.1 x.2.1 = some q ∧ ¬ ltPl x.2.2 q := by
  induction L with
  | nil => cases hx
  | cons y L ih =>
    obtain ⟨h1, h2⟩ := List.pairwise_cons.mp hs
    unfold firstAt
    rw [List.find?_cons]
    by_cases e : y.1 = x.1 ∧ y.2.1 = x.2.1
    · rw [decide_eq_true e]
      refine ⟨y.2.2, rfl, fun z => ?_⟩
      rcases List.mem_cons.mp hx with rfl | hx
      · unfold ltPl at z
        omega
      · have := h1 x hx
        unfold ltPl at z this
        omega
    · rw [decide_eq_false e]
      rcases List.mem_cons.mp hx with rfl | hx
      · exact absurd ⟨rfl, rfl⟩ e
      · exact ih h2 hx
theorem leastO_of {L : List Occ} (hs : L.Pairwise fun x y => ltPl x.2.2 y.2.2) {c d : Nat} : ∀ {r : Option Pl2}, LeastR L c d r → LeastO L c d r
  | none, h => fun x hx y hy e1 e2 e3 => by
    obtain ⟨q, hq, _⟩ := firstAt_le hs hx
    obtain ⟨q', hq', _⟩ := firstAt_le hs hy
    rw [e1] at hq
    rw [e2, ← e3] at hq'
    rcases h x.2.1 with z | z
    · rw [z] at hq
      cases hq
    · rw [z] at hq'
      cases hq'
  | some r, ⟨⟨n, h1, h2⟩, h3⟩ => by
    refine ⟨⟨_, firstAt_some h1, _, firstAt_some h2, rfl, rfl, rfl, rfl⟩, fun x hx y hy e1 e2 e3 z => ?_⟩
    obtain ⟨q, hq, l1⟩ := firstAt_le hs hx
    obtain ⟨q', hq', l2⟩ := firstAt_le hs hy
    rw [e1] at hq
    rw [e2, ← e3] at hq'
    refine h3 _ _ _ hq hq' ?_
    obtain ⟨⟨a, b⟩, c', d'⟩ := r
    obtain ⟨_, _, x1, x2⟩ := x
    obtain ⟨_, _, y1, y2⟩ := y
    obtain ⟨q1, q2⟩ := q
    obtain ⟨q3, q4⟩ := q'
    unfold ltP2 ltPl at *
    simp only [Prod.mk.injEq] at *
    omega
theorem occWord_mem {wide num : Nat} {l : List Nat} {k : Nat} {x : Occ} : x ∈ occWord wide num l k ↔ ∃ p < k, x = (l.getD p 0, nearL wide l p, (num, p)) := by
  unfold occWord
  rw [List.mem_map]
  constructor
  · rintro ⟨p, hp, rfl⟩
    exact ⟨p, List.mem_range.mp hp, rfl⟩
  · rintro ⟨p, hp, rfl⟩
    exact ⟨p, List.mem_range.mpr hp, rfl⟩
theorem occs_mem {wide : Nat} {ws : List (List Nat)} : ∀ {i : Nat} {x : Occ}, x ∈ occs wide ws i ↔ ∃ k < i, ∃ p < (ws.getD k []).length, x = ((ws.getD k []).getD p 0, nearL wide (ws.getD k []) p, (k, p))
  | 0, x => ⟨fun h => absurd h List.not_mem_nil, fun ⟨k, hk, _⟩ => absurd hk (Nat.not_lt_zero _)⟩
  | i + 1, x => by
    rw [occs, List.mem_append, occs_mem, occWord_mem]
    constructor
    · rintro (⟨k, hk, z⟩ | z)
      · exact ⟨k, by omega, z⟩
      · exact ⟨i, by omega, z⟩
    · rintro ⟨k, hk, z⟩
      by_cases e : k = i
      · exact .inr (e ▸ z)
      · exact .inl ⟨k, by omega, z⟩
theorem occs_sorted {wide : Nat} {ws : List (List Nat)} : ∀ i, (occs wide ws i).Pairwise fun x y => ltPl x.2.2 y.2.2
  | 0 => List.Pairwise.nil
  | i + 1 => by
    rw [occs]
    refine List.pairwise_append.mpr ⟨occs_sorted i, ?_, fun x hx y hy => ?_⟩
    · have gen : ∀ k, (occWord wide i (ws.getD i []) k).Pairwise fun x y => ltPl x.2.2 y.2.2 := by
        intro k
        induction k with
        | zero => exact List.Pairwise.nil
        | succ k ih =>
          rw [occWord_succ]
          refine List.pairwise_append.mpr ⟨ih, List.pairwise_singleton _ _, fun x hx y hy => ?_⟩
          obtain ⟨p, hp, rfl⟩ := occWord_mem.mp hx
          rw [List.mem_singleton.mp hy]
          exact .inr ⟨rfl, hp⟩
      exact gen _
    · obtain ⟨k, hk, p, _, rfl⟩ := occs_mem.mp hx
      obtain ⟨p', _, rfl⟩ := occWord_mem.mp hy
      exact .inl hk
abbrev occA (wide : Nat) (ws : List (List Nat)) : List Occ := occs wide ws ws.length
/-- the sounds of some words, ascending -/
def soundsOf (ws : List (List Nat)) : List Nat := K5.canon ws.flatten
theorem occs_sound {wide : Nat} {ws : List (List Nat)} {c : Nat} : (∃ x ∈ occA wide ws, x.1 = c) ↔ c ∈ ws.flatten := by
  constructor
  · rintro ⟨x, hx, rfl⟩
    obtain ⟨k, hk, p, hp, rfl⟩ := occs_mem.mp hx
    refine List.mem_flatten.mpr ⟨ws.getD k [], ?_, ?_⟩
    · rw [List.getD_eq_getElem?_getD, List.getElem?_eq_getElem hk]
      exact List.getElem_mem hk
    · show (ws.getD k []).getD p 0 ∈ ws.getD k []
      clear hx
      generalize ws.getD k [] = l at hp ⊢
      rw [List.getD_eq_getElem?_getD, List.getElem?_eq_getElem hp]
      exact List.getElem_mem hp
  · intro h
    obtain ⟨l, hl, hc⟩ := List.mem_flatten.mp h
    obtain ⟨k, hk⟩ := List.mem_iff_getElem?.mp hl
    obtain ⟨p, hp⟩ := List.mem_iff_getElem?.mp hc
    have e : ws.getD k [] = l := by rw [List.getD_eq_getElem?_getD, hk]; rfl
    refine ⟨((ws.getD k []).getD p 0, nearL wide (ws.getD k []) p, (k, p)), occs_mem.mpr ⟨k, (List.getElem?_eq_some_iff.mp hk).1, p, by rw [e]; exact (List.getElem?_eq_some_iff.mp hp).1, rfl⟩, ?_⟩
    show (ws.getD k []).getD p 0 = c
    rw [e, List.getD_eq_getElem?_getD, hp]
    rfl
end W5
namespace W5
open PySem PySem.Spec PyProof.Rows L2 K0 K6
open K4 hiding Blt
section
variable {P : Program} {w : World} {K : PySem.W.Frag} {mg : Str → Option Value} {base : Heap}
variable {cs : Nat → Addr} {Z : Addr}
/-! ### parted_by -/
@[irreducible] def hOwn (K : PySem.W.Frag) (cs : Nat → Addr) : Sp := spNeedOwn K cs
theorem hOwn_eq {K : PySem.W.Frag} {cs : Nat → Addr} : hOwn K cs = spNeedOwn K cs := by
  unfold hOwn
  rfl
theorem mono_own {vs : List V} {H : Hp} {Q Q' : VK} {E : XW} (h : spNeedOwn K cs vs H Q E) (i : ∀ v H', Q v H' → Q' v H') : hOwn K cs vs H Q' E := by
  rw [hOwn_eq]
  obtain ⟨v, n, e, kd, h | ⟨hn, a, xs, bs, e1, e2, e3, e4, q1, q2⟩⟩ := h
  · exact ⟨v, n, e, kd, .inl h⟩
  · exact ⟨v, n, e, kd, .inr ⟨hn, a, xs, bs, e1, e2, e3, e4, fun z H' s => i _ _ (q1 z H' s), q2⟩⟩
@[irreducible] def hWide (K : PySem.W.Frag) (cs : Nat → Addr) : Sp := spNeedWide K cs
theorem hWide_eq {K : PySem.W.Frag} {cs : Nat → Addr} : hWide K cs = spNeedWide K cs := by
  unfold hWide
  rfl
theorem mono_wide {vs : List V} {H : Hp} {Q Q' : VK} {E : XW} (h : spNeedWide K cs vs H Q E) (i : ∀ v H', Q v H' → Q' v H') : hWide K cs vs H Q' E := by
  rw [hWide_eq]
  obtain ⟨v, e, r | ⟨j, a, q1, q2⟩⟩ := h
  · exact ⟨v, e, .inl r⟩
  · exact ⟨v, e, .inr ⟨j, a, fun z => i _ _ (q1 z), q2⟩⟩
@[irreducible] def hFew (K : PySem.W.Frag) (cs : Nat → Addr) : Sp := spNeedFew K cs
theorem hFew_eq {K : PySem.W.Frag} {cs : Nat → Addr} : hFew K cs = spNeedFew K cs := by
  unfold hFew
  rfl
theorem mono_few {vs : List V} {H : Hp} {Q Q' : VK} {E : XW} (h : spNeedFew K cs vs H Q E) (i : ∀ v H', Q v H' → Q' v H') : hFew K cs vs H Q' E := by
  rw [hFew_eq]
  obtain ⟨a, xs, e, hS, q1, q2⟩ := h
  exact ⟨a, xs, e, hS, fun z => i _ _ (q1 z), q2⟩
/-- sounds and a paper against them -/
def RsAt (Z : Addr) (H : Hp) (xs : List V) (rs : List (Nat × Nat × Pl2)) : Prop := xs.length = rs.length ∧ ∀ (i : Nat) x r, xs[i]? = some x → rs[i]? = some r → ∃ T z, x = .ref T ∧ H T = some (.tup [sgV r.1, sgV r.2.1, .ref z]) ∧ ZmB Z H z (dPl r.2.2.1) (dPl r.2.2.2)
theorem RsAt.nil {H : Hp} : RsAt Z H [] [] := ⟨rfl, fun i x r e => by cases e⟩
theorem RsAt.sm {H H' : Hp} {xs : List V} {rs : List (Nat × Nat × Pl2)} (h : RsAt Z H xs rs) (s : Same H H') : RsAt Z H' xs rs := ⟨h.1, fun i x r e1 e2 => by
  obtain ⟨T, z, e, a, b⟩ := h.2 i x r e1 e2
  exact ⟨T, z, e, s _ _ a, zmb_sm s b⟩⟩
theorem ft_put {D : Addr} {xs ys : List V} {H : Hp} (hD : H D = some (.lst xs)) : ∀ {n : Nat} {v : V} {d : PyData}, FTN H n v d → FTN (upd H D (.lst ys)) n v d
  | 0, _, _, h => h
  | n + 1, _, _, .inl h => .inl h
  | n + 1, _, _, .inr ⟨a, us, ds, e1, e2, ⟨o, ht, r⟩, hl, h⟩ => .inr ⟨a, us, ds, e1, e2, ⟨o, (upd_ne fun z => by rw [z, hD] at ht; cases ht).trans ht, r⟩, hl, fun i x e h1 h2 => ft_put hD (h i x e h1 h2)⟩
theorem zmb_put {D : Addr} {xs ys : List V} {H : Hp} (hD : H D = some (.lst xs)) {z : Addr} {d1 d2 : PyData} (h : ZmB Z H z d1 d2) : ZmB Z (upd H D (.lst ys)) z d1 d2 := by
  obtain ⟨dx, u1, u2, p, e, f1, f2, f3⟩ := h
  exact ⟨dx, u1, u2, p, (upd_ne fun q => by rw [q, hD] at e; cases e).trans e, ft_put hD f1, ft_put hD f2, ft_put hD f3⟩
theorem RsAt.put {H : Hp} {D : Addr} {xs us ys : List V} {rs : List (Nat × Nat × Pl2)} (hD : H D = some (.lst us)) (h : RsAt Z H xs rs) : RsAt Z (upd H D (.lst ys)) xs rs := ⟨h.1, fun i x r e1 e2 => by
  obtain ⟨T, z, e, a, b⟩ := h.2 i x r e1 e2
  exact ⟨T, z, e, (upd_ne fun q => by rw [q, hD] at a; cases a).trans a, zmb_put hD b⟩⟩
theorem RsAt.snoc {H : Hp} {T z : Addr} {xs : List V} {rs : List (Nat × Nat × Pl2)} {r : Nat × Nat × Pl2} (h : RsAt Z H xs rs) (a : H T = some (.tup [sgV r.1, sgV r.2.1, .ref z])) (b : ZmB Z H z (dPl r.2.2.1) (dPl r.2.2.2)) : RsAt Z H (xs ++ [.ref T]) (rs ++ [r]) := ⟨by rw [List.length_append, List.length_append, h.1]; rfl, fun i x r' h1 h2 => by
  rcases Nat.lt_or_ge i xs.length with q | q
  · rw [List.getElem?_append_left q] at h1
    rw [List.getElem?_append_left (by rw [← h.1]; exact q)] at h2
    exact h.2 i x r' h1 h2
  · have hb := (List.getElem?_eq_some_iff.mp h1).1
    rw [List.length_append] at hb
    have hb : i < xs.length + 1 := hb
    have hi2 : i = xs.length := by omega
    subst hi2
    rw [List.getElem?_append_right (Nat.le_refl _), Nat.sub_self] at h1
    rw [h.1, List.getElem?_append_right (Nat.le_refl _), Nat.sub_self] at h2
    obtain rfl := Option.some.inj h1
    obtain rfl := Option.some.inj h2
    exact ⟨T, z, rfl, a, b⟩⟩
theorem nd_le : ∀ {l m : List Nat}, l.Nodup → (∀ x ∈ l, x ∈ m) → l.length ≤ m.length
  | [], m, _, _ => Nat.zero_le _
  | x :: r, m, nd, sub => by
    obtain ⟨h1, h2⟩ := List.nodup_cons.mp nd
    have hx : x ∈ m := sub x List.mem_cons_self
    have pe := List.perm_cons_erase hx
    have hl := pe.length_eq
    have := nd_le h2 (m := m.erase x) fun y hy => by
      rcases List.mem_cons.mp (pe.mem_iff.mp (sub y (List.mem_cons_of_mem _ hy))) with z | z
      · exact absurd (z ▸ hy) h1
      · exact z
    rw [List.length_cons] at hl ⊢
    omega
/-- all but a list stands -/
def KB1 (D : Addr) (H H' : Hp) : Prop := ∀ b o, b ≠ D → H b = some o → H' b = some o
theorem KB1.of {D : Addr} {H H' : Hp} (s : Same H H') : KB1 D H H' := fun b o _ e => s b o e
theorem KB1.sm {D : Addr} {H H1 H2 : Hp} (k : KB1 D H H1) (s : Same H1 H2) : KB1 D H H2 := fun b o n e => s _ _ (k b o n e)
theorem KB1.put {D : Addr} {o : HO} {H H1 : Hp} (k : KB1 D H H1) : KB1 D H (upd H1 D o) := fun b o n e => (upd_ne n).trans (k b o n e)
theorem InAt.kb {D : Addr} {xs : List V} {H H' : Hp} {ts : List (List L2.Key × V)} {f : NB → Option (Nat × Nat)} (hD : H D = some (.lst xs)) (k : KB1 D H H') (h : InAt H ts f) : InAt H' ts f :=
  ⟨fun n q e => let ⟨t, a, b⟩ := h.get n q e; ⟨t, a, k _ _ (fun z => by rw [z, hD] at b; cases b) b⟩, h.no, h.keys, h.nd⟩
theorem FdAt.kb {D : Addr} {xs : List V} {H0 H H' : Hp} {p : Addr} {L : List Occ} {kvs : List (L2.Key × V)} {ks : List Nat} {da : Nat → Addr} (hD : H D = some (.lst xs)) (k : KB1 D H H') (h : FdAt H0 H p L kvs ks da) : FdAt H0 H' p L kvs ks da :=
  ⟨k _ _ (fun z => by have := h.at_; rw [z, hD] at this; cases this) h.at_, h.ks_, h.nd, h.mem, h.len, h.val, fun c hc => let ⟨ts, a, b, i⟩ := h.inn c hc; ⟨ts, k _ _ (fun z => by rw [z, hD] at a; cases a) a, b, i.kb hD k⟩, h.inj, h.old⟩
theorem lw_lt {l : List Nat} (h : wdOk l = true) : (∀ c ∈ l, 97 ≤ c ∧ c ≤ 122) ∧ l.length ≤ 12 := by
  unfold wdOk lw at h
  rw [Bool.and_eq_true, List.all_eq_true, decide_eq_true_eq] at h
  refine ⟨fun c hc => ?_, h.2⟩
  have := h.1 c hc
  unfold isaz at this
  simpa using this
theorem sounds_lt {ws : List (List Nat)} (h : ∀ l ∈ ws, wdOk l = true) : ∀ c ∈ ws.flatten, 97 ≤ c ∧ c ≤ 122 := fun c hc => by
  obtain ⟨l, hl, hc⟩ := List.mem_flatten.mp hc
  exact (lw_lt (h l hl)).1 c hc
theorem sounds_nd (ws : List (List Nat)) : (soundsOf ws).Nodup := (K5.canon_lt _).imp fun h => Nat.ne_of_lt h
theorem sounds_mem {ws : List (List Nat)} (h : ∀ l ∈ ws, wdOk l = true) {c : Nat} : c ∈ soundsOf ws ↔ c ∈ ws.flatten := K5.canon_mem (fun c hc => by have := (sounds_lt h c hc).2; omega) c
theorem sounds_alpha {ws : List (List Nat)} (h : ∀ l ∈ ws, wdOk l = true) : soundsOf ws = (List.range' 97 26).filter fun c => decide (c ∈ ws.flatten) := by
  refine K5.eq_of_lt (K5.canon_lt _) (List.Pairwise.filter _ (List.pairwise_lt_range' ..)) fun x => ?_
  rw [sounds_mem h, List.mem_filter, decide_eq_true_eq, List.mem_range'_1]
  constructor
  · intro hx
    have := sounds_lt h x hx
    exact ⟨by omega, hx⟩
  · exact fun z => z.2
abbrev CNo (P : Program) (w : World) (K : PySem.W.Frag) (mg : Str → Option Value) (base : Heap) (cs : Nat → Addr) : Prop := CalX P w K mg base 3 "need_own_words" st_need_own_words ["words"] (spNeedOwn K cs)
abbrev CNwi (P : Program) (w : World) (K : PySem.W.Frag) (mg : Str → Option Value) (base : Heap) (cs : Nat → Addr) : Prop := CalX P w K mg base 4 "need_wide" st_need_wide ["wide"] (spNeedWide K cs)
abbrev CNf (P : Program) (w : World) (K : PySem.W.Frag) (mg : Str → Option Value) (base : Heap) (cs : Nat → Addr) : Prop := CalX P w K mg base 3 "need_few_words" st_need_few_words ["words"] (spNeedFew K cs)
abbrev CPl (P : Program) (w : World) (K : PySem.W.Frag) (mg : Str → Option Value) (base : Heap) : Prop := Cal P w K mg base 2 "places_by_sound" st_places_by_sound ["words", "wide"] (spPlaces K)
abbrev CLa (P : Program) (w : World) (K : PySem.W.Frag) (mg : Str → Option Value) (base : Heap) (Z : Addr) : Prop := Cal P w K mg base 9 "least_against" st_least_against ["places", "sound", "other"] (spLeastA K Z)
structure BltS (mg : Str → Option Value) : Prop extends Blt mg where
  n_sorted : mg "sorted" = none
end
end W5
namespace W5
open PySem PySem.Spec PyProof.Rows L2 K0 K6
open K4 hiding Blt
section
variable {P : Program} {w : World} {K : PySem.W.Frag} {mg : Str → Option Value} {base : Heap}
/-! ### the law's words -/
def sOk (l : List Nat) : Prop := (∀ c ∈ l, 97 ≤ c ∧ c ≤ 122) ∧ l.length ≤ 5
theorem sOk.wd {l : List Nat} (h : sOk l) : wdOk l = true := by
  unfold wdOk lw
  rw [Bool.and_eq_true, List.all_eq_true, decide_eq_true_eq]
  refine ⟨fun c hc => ?_, by have := h.2; omega⟩
  have := h.1 c hc
  unfold isaz
  rw [Bool.and_eq_true, decide_eq_true_eq, decide_eq_true_eq]
  exact this
theorem tws_dat {ws : List (List Nat)} (h : ∀ l ∈ ws, sOk l) : (tws ws).all datOk = true := List.all_eq_true.mpr fun v hv => by
  unfold tws at hv
  obtain ⟨l, hl, rfl⟩ := List.mem_map.mp hv
  exact str_low fun c hc => by have := (h l hl).1 c hc; omega
/-- one sign of a word another, or one more behind it -/
theorem sOk.put {l : List Nat} (h : sOk l) {k c : Nat} (hk : k ≤ 4) (hc : 97 ≤ c ∧ c ≤ 122) : sOk (l.take k ++ [c] ++ l.drop (k + 1)) := by
  refine ⟨fun x hx => ?_, ?_⟩
  · rcases List.mem_append.mp hx with hx | hx
    · rcases List.mem_append.mp hx with hx | hx
      · exact h.1 x (List.mem_of_mem_take hx)
      · rw [List.mem_singleton.mp hx]
        exact hc
    · exact h.1 x (List.mem_of_mem_drop hx)
  · have := h.2
    rw [List.length_append, List.length_append, List.length_take, List.length_drop]
    show min k l.length + 1 + _ ≤ 5
    omega
theorem eqv_nil {α : Type} {d : α → PyData} (l : List α) : PyData.eqv (.list (l.map d)) (.list []) = decide (l.length = 0) := by
  cases l with
  | nil => rfl
  | cons a l => rfl
theorem sh_nil : SeqAt.shaped (.list []) = true := shaped_of (by unfold PyData.canLay0; rfl) (by unfold PyData.depth; decide)
theorem join_tx (l : List Nat) : Txt.join (Str.ofString "") (l.map fun c => Tx [c]) = Tx l := by
  have go : ∀ (l : List Nat) (acc : Array Nat), (l.map fun c => Tx [c]).foldl (fun acc p => acc ++ (Str.ofString "").cps ++ p.cps) acc = acc ++ l.toArray := by
    intro l
    induction l with
    | nil => intro acc; simp
    | cons c r ih =>
      intro acc
      rw [List.map_cons, List.foldl_cons, ih]
      apply Array.ext'
      have e : (Str.ofString "").cps.toList = [] := rfl
      simp [Tx, e]
  unfold Txt.join
  cases l with
  | nil => rfl
  | cons c r =>
    show (⟨((r.map fun c => Tx [c])).foldl (fun acc p => acc ++ (Str.ofString "").cps ++ p.cps) (Tx [c]).cps⟩ : Str) = _
    rw [go]
    simp [Tx]
theorem cut_to (l : List Nat) (k : Nat) : cutS (Tx l) none (some (k : Nat)) = Tx (l.take k) := by
  unfold cutS
  rw [tx_list, tx_len, HT.sIx_none, HT.sIx_nat, List.drop_zero, Nat.sub_zero]
  rcases Nat.lt_or_ge k l.length with h | h
  · rw [Nat.min_eq_left (by omega)]
    rfl
  · rw [Nat.min_eq_right h, List.take_of_length_le (Nat.le_refl _), List.take_of_length_le h]
    rfl
theorem cut_from (l : List Nat) (k : Nat) : cutS (Tx l) (some (k : Nat)) none = Tx (l.drop k) := by
  unfold cutS
  rw [tx_list, tx_len, HT.sIx_none, HT.sIx_nat]
  rcases Nat.lt_or_ge k l.length with h | h
  · rw [Nat.min_eq_left (by omega), List.take_of_length_le (by rw [List.length_drop]; omega)]
    rfl
  · rw [Nat.min_eq_right h, List.drop_of_length_le (Nat.le_refl _), List.drop_of_length_le h, List.take_nil]
    rfl
theorem KB.lay {p D : Addr} {o : HO} {H H' : Hp} (k : KB p H H') (hD : H D = none) (nDp : D ≠ p) : KB p H (upd H' D o) :=
  ⟨fun b u n e => (upd_ne fun z => by rw [z, hD] at e; cases e).trans (k.kb b u n e), fun l x y e => by
    obtain ⟨x', y', q⟩ := k.kp l x y e
    exact ⟨x', y', (upd_ne nDp.symm).trans q⟩⟩
theorem PenAt.lay {p D : Addr} {o : HO} {H H' : Hp} {T0 T : Nat} (h0 : PenAt H p T0) (k : KB p H H') (hD : H D = none) (h : PenAt H' p T) : PenAt (upd H' D o) p T := by
  obtain ⟨l0, ns0, t0, r0, hp0, hl0, _⟩ := id h0
  obtain ⟨a, ns, t, r, h1, h2, h3, h4⟩ := h
  have nDp : D ≠ p := h0.ne hD
  refine ⟨a, ns, t, r, (upd_ne nDp.symm).trans h1, ?_, h3, h4⟩
  obtain ⟨x', y', q⟩ := k.kp l0 _ _ hp0
  rw [h1] at q
  have ea : a = l0 := by
    have := (List.cons.inj (HO.lst.inj (Option.some.inj q))).1
    exact V.ref.inj this
  exact (upd_ne fun z => by rw [← ea, z, hD] at hl0; cases hl0).trans h2
theorem split_else {k : Bool} {u : TT} {σ : L2.St} {H : Hp} {Q : Bool → Hp → Prop} (R : Hp → Prop) (hB : ∀ G, R G → Q false G) (h1 : (∀ G, R G → Q false G) → k = true → u σ H Q) (h2 : k = false → R H) : if k = true then u σ H Q else Q false H := by
  cases k with
  | true =>
    rw [if_pos rfl]
    exact h1 hB rfl
  | false =>
    rw [if_neg Bool.false_ne_true]
    exact hB _ (h2 rfl)
def inVi (l : List Int) : List V := l.map V.int
def soundsC : List (List Nat) := [[107, 105, 97], [107, 116, 105], [97, 107, 105, 116], [107, 97], [107, 105, 116, 97, 98], [112, 116, 107, 97]]
abbrev st_l_words : Stmt := top 44
abbrev nm_l_words : List Str := ["_law_pen_here", "_law_most", "_law_turn", "_law_sounds_here", "_law_found", "_law_word", "_law_at"]
theorem sc_l_words : FnScope nm_l_words ["_law_pen_here", "_law_most"] (defScope st_l_words) := ⟨rfl, rfl, rfl, by decide +kernel, rfl, by decide +kernel, by decide +kernel⟩
def spLWords (K : PySem.W.Frag) : Sp := fun vs H Q _ => ∃ (p : Addr) (most : Int) (T : Nat), vs = [.ref p, .int most] ∧ PenAt H p T ∧ T + 100 < 1000000 ∧ 1 ≤ most ∧ most ≤ 9 ∧
  ∀ H' D ws, KB p H H' → PenAt H' p (T + 60) → H D = none → H' D = some (.lst (tws ws)) → 1 ≤ ws.length → ws.length ≤ most → (∀ l ∈ ws, sOk l) → Q (.ref D) H'
end
end W5
namespace W5
open PySem PySem.Spec PyProof.Rows L2 K0 K6
open K4 hiding Blt
section
variable {P : Program} {w : World} {K : PySem.W.Frag} {mg : Str → Option Value} {base : Heap}
/-! ### the law's surroundings and places -/
abbrev sgL (l : List Nat) : List V := l.map fun c => V.str (Tx [c])
theorem line_at {wide p j : Nat} {l : List Nat} (hp : p < l.length) (hj : j < 2 * wide + 1) : (lineOf wide l)[p + j]? = some (if wide ≤ p + j ∧ p + j < wide + l.length then l.getD (p + j - wide) 0 else 35) := by
  unfold lineOf
  rcases Nat.lt_or_ge (p + j) wide with h | h
  · rw [if_neg (by omega), List.append_assoc, List.getElem?_append_left (by rw [List.length_replicate]; exact h), List.getElem?_replicate, if_pos h]
  · rw [List.append_assoc, List.getElem?_append_right (by rw [List.length_replicate]; exact h), List.length_replicate]
    rcases Nat.lt_or_ge (p + j) (wide + l.length) with h2 | h2
    · rw [if_pos ⟨h, h2⟩, List.getElem?_append_left (by omega), List.getD_eq_getElem?_getD, List.getElem?_eq_getElem (by omega)]
      rfl
    · rw [if_neg (by omega), List.getElem?_append_right (by omega), List.getElem?_replicate, if_pos (by omega)]
abbrev st_l_near : Stmt := top 45
abbrev nm_l_near : List Str := ["_law_word", "_law_at", "_law_wide", "_law_signs", "_law_spot"]
theorem sc_l_near : FnScope nm_l_near ["_law_word", "_law_at", "_law_wide"] (defScope st_l_near) := ⟨rfl, rfl, rfl, by decide +kernel, rfl, by decide +kernel, by decide +kernel⟩
def spLNear (K : PySem.W.Frag) : Sp := fun vs H Q _ => ∃ (l : List Nat) (p wide : Nat), vs = [.str (Tx l), .int (p : Nat), .int (wide : Nat)] ∧ l.length ≤ 1000 ∧ p < l.length ∧ wide ≤ 2 ∧ ∀ H' t, Same H H' → H t = none → H' t = some (.tup (nearV (nearL wide l p))) → Q (.ref t) H'
theorem ok_lnear {f : Addr} {fd : FuncData} (F : Fun K "_law_near" "_law_near" st_l_near f fd) (T : Blt mg) : FnOk P w K mg base CX0 1 f fd ["_law_word", "_law_at", "_law_wide"] (spLNear K) := by
  refine F.ok sc_l_near (fun vs H Q E h => ?_) (fun cdv A outer s H vs Q E hr h => ?_)
  · obtain ⟨_, _, _, rfl, _⟩ := h
    rfl
  · refine ⟨_, (pss_cons (ps_setLc (i := 3) (own := [("_law_spot", 4)]) (g := (gName 4)) (tt := tYes) rfl sc_l_near.nd rfl rfl (sw_true rfl rfl rfl (by decide +kernel)) (pi_range2 rfl T.n_range (pa_cons (pe_op op_sub (pv 1) (pv 2)) (pa_cons (pe_op op_add (pe_op op_add (pv 1) (pv 2)) pe_int) pa_nil))) (blkOk_by (N := nm_l_near) (sc := defScope st_l_near) (own := [("_law_spot", 4)]) (by decide +kernel)) (fun _ _ _ _ _ => by exact pg_name (i := 4) sc_l_near.nd rfl (Or.inl rfl)) (fun _ _ _ _ _ => pts_nil) (fun _ _ _ _ _ => (pe_ifExp (pt_chain op_le op_lt pe_int (pv 4) (pe_callB call_len_str (by rfl) T.n_len (by decide +kernel) (pa_cons (pv 0) pa_nil))) (pe_ix ix_str (pv 0) (pv 4) (fun _ _ => rfl)) pe_str)))
  (pss_one (ps_ret (pe_tup (pa_cons (pe_join pe_str (pe_slice sl_list (pv 3) po_none (po_some (pv 2)))) (pa_cons (pe_join pe_str (pe_slice sl_list (pv 3) (po_some (pe_op op_add (pv 2) pe_int)) po_none)) pa_nil)))))), ?_⟩
    obtain ⟨l, p, wide, rfl, hl, hp, hw, q⟩ := h
    rw [show L2.start nm_l_near [V.str (Tx l), V.int (p : Nat), V.int (wide : Nat)] = [some (V.str (Tx l)), some (V.int (p : Nat)), some (V.int (wide : Nat)), none, none] from rfl]
    refine ⟨_, rfl, _, rfl, _, _, rfl, rfl, _, rfl, _, rfl, _, _, rfl, rfl, _, _, rfl, rfl, _, _, rfl, by omega, fun D hD => ?_⟩
    rw [show ((p : Int) + (wide : Int) + 1 - ((p : Int) - (wide : Int))).toNat = 2 * wide + 1 by omega]
    refine lc_it walk_range (fun j H' => Same H H' ∧ H' D = some (.lst (sgL (((lineOf wide l).drop p).take j)))) ⟨Sm.new hD, upd_same⟩ (fun _ _ _ _ => trivial) ?_ ?_
    · rintro j y G1 G2 hj ⟨s1, e1⟩ ⟨rfl, rfl⟩
      dsimp only [gName, List.set_cons_succ, List.set_cons_zero]
      refine ⟨rfl, ?_⟩
      -- the sign there
      have at1 := line_at (wide := wide) hp hj
      have done : ∀ c, (lineOf wide l)[p + j]? = some c → ∃ acc, G2 D = some (HO.lst acc) ∧ acc.length < sizeLine ∧ Same H (upd G2 D (HO.lst (acc ++ [V.str (Tx [c])]))) ∧ upd G2 D (HO.lst (acc ++ [V.str (Tx [c])])) D = some (HO.lst (sgL (List.take (j + 1) (List.drop p (lineOf wide l))))) := fun c hc => by
        refine ⟨_, e1, ?_, Sm.put s1 hD, ?_⟩
        · unfold sgL
          rw [List.length_map, List.length_take]
          exact Nat.lt_of_le_of_lt (Nat.min_le_left _ _) (Nat.lt_of_lt_of_le hj (Nat.le_trans (show 2 * wide + 1 ≤ 5 by omega) (by decide)))
        · rw [upd_same, List.take_add_one, List.getElem?_drop, hc]
          unfold sgL
          rw [List.map_append]
          rfl
      refine ⟨_, rfl, _, _, rfl, rfl, _, rfl, ?_⟩
      by_cases h1 : (0 : Int) ≤ (p : Int) - (wide : Int) + (j : Int)
      · rw [decide_eq_true h1]
        refine iteT ?_
        refine ⟨_, rfl, _, rfl, by rw [tx_len]; exact Nat.le_trans hl (by decide), _, _, rfl, rfl, _, rfl, ?_⟩
        rw [tx_len]
        by_cases h2 : (p : Int) - (wide : Int) + (j : Int) < ((l.length : Nat) : Int)
        · rw [decide_eq_true h2]
          refine iteT ?_
          rw [if_pos ⟨by omega, by omega⟩] at at1
          have hk : p + j - wide < l.length := by omega
          have ek : (p : Int) - (wide : Int) + (j : Int) = ((p + j - wide : Nat) : Int) := by omega
          rw [ek]
          have eg : l.getD (p + j - wide) 0 = l[p + j - wide] := by
            rw [List.getD_eq_getElem?_getD, List.getElem?_eq_getElem hk]
            rfl
          refine ⟨_, rfl, _, rfl, Tx l, _, l[p + j - wide], rfl, rfl, by rw [tx_len]; exact Nat.le_trans hl (by decide), by rw [tx_list]; exact atI_nat (List.getElem?_eq_getElem hk), ?_⟩
          rw [eg] at at1
          exact done _ at1
        · rw [decide_eq_false h2]
          refine iteF ?_
          rw [if_neg (by omega)] at at1
          exact done _ at1
      · rw [decide_eq_false h1]
        refine iteF ⟨_, rfl, ?_⟩
        rw [if_neg (by omega)] at at1
        exact done _ at1
    · rintro H1 ⟨s1, e1⟩
      dsimp only [gName, List.set_cons_succ, List.set_cons_zero]
      have lnn := line_len wide l
      have hlen : (((lineOf wide l).drop p).take (2 * wide + 1)).length = 2 * wide + 1 := by
        rw [List.length_take, List.length_drop]
        omega
      have jl : ∀ cs : List Nat, cs.length ≤ 5 → (List.map (fun x : Str => x.length) (cs.map fun c => Tx [c])).sum + (cs.map fun c => Tx [c]).length * (Str.ofString "").length ≤ 16777216 := fun cs h => by
        have : ∀ (cs : List Nat), (List.map (fun x : Str => x.length) (cs.map fun c => Tx [c])).sum = cs.length := fun cs => by
          induction cs with
          | nil => rfl
          | cons a r ih => rw [List.map_cons, List.map_cons, List.sum_cons, ih, List.length_cons]; show 1 + _ = _; omega
        rw [this, show (Str.ofString "").length = 0 from rfl, Nat.mul_zero]
        omega
      refine ⟨⟨_, rfl⟩, _, rfl, _, rfl, _, rfl, D, _, rfl, SqL.of e1, fun D1 hD1 => ?_⟩
      have sD1 := Sm.new (o := .lst (cutV (sgL (((lineOf wide l).drop p).take (2 * wide + 1))) none (some ((wide : Nat) : Int)))) hD1
      have c1 : cutV (sgL (((lineOf wide l).drop p).take (2 * wide + 1))) none (some ((wide : Nat) : Int)) = sgL (nearL wide l p).1 := by
        rw [rcut_to]
        unfold sgL
        rw [← List.map_take, List.take_take, Nat.min_eq_left (by omega)]
        rfl
      have c2 : cutV (sgL (((lineOf wide l).drop p).take (2 * wide + 1))) (some ((wide + 1 : Nat) : Int)) none = sgL (nearL wide l p).2 := by
        rw [rcut_from]
        unfold sgL
        rw [← List.map_drop, List.drop_take, List.drop_drop, show 2 * wide + 1 - (wide + 1) = wide by omega, show p + (wide + 1) = p + wide + 1 by omega]
        rfl
      have n1 : (nearL wide l p).1.length ≤ 5 := by
        show (List.take _ _).length ≤ 5
        rw [List.length_take]
        omega
      have n2 : (nearL wide l p).2.length ≤ 5 := by
        show (List.take _ _).length ≤ 5
        rw [List.length_take]
        omega
      refine ⟨_, D1, (nearL wide l p).1.map fun c => Tx [c], rfl, rfl, .inl (SqL.of (by rw [upd_same, c1, List.map_map]; rfl)), jl _ n1, ?_⟩
      rw [join_tx]
      refine ⟨⟨_, rfl⟩, _, rfl, _, rfl, _, _, rfl, rfl, _, rfl, D, _, rfl, SqL.of (sD1 _ _ e1), fun D2 hD2 => ?_⟩
      have sD2 := Sm.new (o := .lst (cutV (sgL (((lineOf wide l).drop p).take (2 * wide + 1))) (some (((wide : Nat) : Int) + 1)) none)) hD2
      refine ⟨_, D2, (nearL wide l p).2.map fun c => Tx [c], rfl, rfl, .inl (SqL.of (by rw [show ((wide : Nat) : Int) + 1 = ((wide + 1 : Nat) : Int) from rfl, upd_same, c2, List.map_map]; rfl)), jl _ n2, ?_⟩
      rw [join_tx]
      refine ⟨by show 2 ≤ sizeLine; decide, fun t ht => ?_⟩
      have st := Sm.new (o := .tup (nearV (nearL wide l p))) ht
      have sA := (s1.trans sD1).trans sD2
      refine q _ t (sA.trans st) ?_ upd_same
      cases z : H t with
      | none => rfl
      | some o => have := sA _ _ z; rw [ht] at this; cases this
end
end W5
namespace W5
open PySem PySem.Spec PyProof.Rows L2 K0 K6
open K4 hiding Blt
section
variable {P : Program} {w : World} {K : PySem.W.Frag} {mg : Str → Option Value} {base : Heap}
/-! ### the law's places -/
/-- places, told as pairs -/
def QsAt (H : Hp) (xs : List V) (qs : List (Nat × Nat)) : Prop := xs.length = qs.length ∧ ∀ (i : Nat) x q, xs[i]? = some x → qs[i]? = some q → ∃ T, x = .ref T ∧ H T = some (.tup (plV q))
theorem QsAt.sm {H H' : Hp} {xs : List V} {qs : List (Nat × Nat)} (h : QsAt H xs qs) (s : Same H H') : QsAt H' xs qs := ⟨h.1, fun i x q e1 e2 => by
  obtain ⟨T, e, a⟩ := h.2 i x q e1 e2
  exact ⟨T, e, s _ _ a⟩⟩
theorem QsAt.put {H : Hp} {D : Addr} {xs us ys : List V} {qs : List (Nat × Nat)} (hD : H D = some (.lst us)) (h : QsAt H xs qs) : QsAt (upd H D (.lst ys)) xs qs := ⟨h.1, fun i x q e1 e2 => by
  obtain ⟨T, e, a⟩ := h.2 i x q e1 e2
  exact ⟨T, e, (upd_ne fun z => by rw [z, hD] at a; cases a).trans a⟩⟩
theorem QsAt.app {H : Hp} {xs ys : List V} {qs rs : List (Nat × Nat)} (h : QsAt H xs qs) (h2 : QsAt H ys rs) : QsAt H (xs ++ ys) (qs ++ rs) := ⟨by rw [List.length_append, List.length_append, h.1, h2.1], fun i x q e1 e2 => by
  rcases Nat.lt_or_ge i xs.length with z | z
  · rw [List.getElem?_append_left z] at e1
    rw [List.getElem?_append_left (by rw [← h.1]; exact z)] at e2
    exact h.2 i x q e1 e2
  · rw [List.getElem?_append_right z] at e1
    rw [List.getElem?_append_right (by rw [← h.1]; exact z), ← h.1] at e2
    exact h2.2 _ x q e1 e2⟩
theorem QsAt.nil {H : Hp} : QsAt H [] [] := ⟨rfl, fun i x q e => by cases e⟩
theorem QsAt.one {H : Hp} {T : Addr} {q : Nat × Nat} (a : H T = some (.tup (plV q))) : QsAt H [.ref T] [q] := ⟨rfl, fun i x r e1 e2 => by
  match i, e1, e2 with
  | 0, e1, e2 =>
    obtain rfl := Option.some.inj e1
    obtain rfl := Option.some.inj e2
    exact ⟨T, rfl, a⟩
  | i + 1, e1, e2 => cases e1⟩
/-- where c stands, in the words ahead of i, and at p in word i -/
def AtL (ws : List (List Nat)) (c i : Nat) (q : Nat × Nat) : Prop := q.1 < i ∧ q.2 < (ws.getD q.1 []).length ∧ (ws.getD q.1 []).getD q.2 0 = c
abbrev st_l_places : Stmt := top 46
abbrev nm_l_places : List Str := ["_law_words_here", "_law_sound", "_law_found", "_law_number", "_law_word", "_law_at"]
theorem sc_l_places : FnScope nm_l_places ["_law_words_here", "_law_sound"] (defScope st_l_places) := ⟨rfl, rfl, rfl, by decide +kernel, rfl, by decide +kernel, by decide +kernel⟩
def spLPlaces (K : PySem.W.Frag) : Sp := fun vs H Q _ => ∃ (a : Addr) (ws : List (List Nat)) (c : Nat), vs = [.ref a, .str (Tx [c])] ∧ SqL K H a (tws ws) ∧ ws.length ≤ 13 ∧ (∀ l ∈ ws, l.length ≤ 12) ∧
  ∀ H' D xs qs, Same H H' → H D = none → H' D = some (.lst xs) → QsAt H' xs qs → qs.length ≤ 200 → (∀ q, q ∈ qs ↔ AtL ws c ws.length q) → Q (.ref D) H'
theorem ok_lplaces {f : Addr} {fd : FuncData} (F : Fun K "_law_places" "_law_places" st_l_places f fd) (T : Blt mg) : FnOk P w K mg base CX0 1 f fd ["_law_words_here", "_law_sound"] (spLPlaces K) := by
  refine F.ok sc_l_places (fun vs H Q E h => ?_) (fun cdv A outer s H vs Q E hr h => ?_)
  · obtain ⟨_, _, _, rfl, _⟩ := h
    rfl
  · refine ⟨_, (pss_cons (ps_set (i := 2) sc_l_places.nd rfl (Or.inl rfl) (pe_lst pa_nil))
  (pss_cons (ps_for PassesOwn.never rfl (pi_enum (by rfl) T.n_enumerate (pa_cons (pv 0) pa_nil)) (pg_tup rfl (pgs_cons (pg_name (i := 3) sc_l_places.nd rfl (Or.inr rfl)) (pgs_cons (pg_name (i := 4) sc_l_places.nd rfl (Or.inr rfl)) pgs_nil))) (pss_one (ps_expr (pe_bm PySem.F.plainAttrs_list PySem.F.slot_list_extend PySem.F.type_list_extend mt_extend (pv 2) (pa_cons (pe_lc (own := [("_law_at", 5)]) (g := (gName 5)) rfl sc_l_places.nd (pi_range1 rfl T.n_range (pa_cons (pe_callB call_len_str (by rfl) T.n_len (by decide +kernel) (pa_cons (pv 4) pa_nil)) pa_nil)) (blkOk_by (N := nm_l_places) (sc := defScope st_l_places) (own := [("_law_at", 5)]) (by decide +kernel)) (fun _ _ _ _ _ => by exact pg_name (i := 5) sc_l_places.nd rfl (Or.inl rfl)) (fun _ _ _ _ _ => pts_one (pt_cmpR op_eq (pe_ix ix_str (pv 4) (pv 5) (fun _ _ => rfl)) (pv 1) (nomark _))) (fun _ _ _ _ _ => (pe_tup (pa_cons (pv 3) (pa_cons (pv 5) pa_nil))))) pa_nil)))))
  (pss_one (ps_ret (pv 2))))), ?_⟩
    obtain ⟨a, ws, c, rfl, hS, hl, hok, q⟩ := h
    rw [show L2.start nm_l_places [V.ref a, V.str (Tx [c])] = [some (V.ref a), some (V.str (Tx [c])), none, none, none, none] from rfl]
    refine ⟨Nat.zero_le _, fun D hD => ?_⟩
    dsimp only [gName, List.set_cons_succ, List.set_cons_zero]
    have twl : (tws ws).length = ws.length := tws_len _
    refine ⟨_, rfl, a, _, rfl, sm_l (Sm.new hD) hS, ?_⟩
    refine for_it walk_enum (fun i σ H' => (∃ v3 v4 v5, σ = [some (V.ref a), some (V.str (Tx [c])), some (V.ref D), v3, v4, v5]) ∧ Same H H' ∧ ∃ xs qs, H' D = some (.lst xs) ∧ QsAt H' xs qs ∧ qs.length ≤ 12 * i ∧ ∀ q, q ∈ qs ↔ AtL ws c i q)
      ⟨⟨_, _, _, rfl⟩, Sm.new hD, [], [], upd_same, QsAt.nil, Nat.zero_le _, fun q => ⟨fun h => absurd h List.not_mem_nil, fun h => absurd h.1 (Nat.not_lt_zero _)⟩⟩ (fun i σ G hi z => sm_l z.2.1 hS) ?_ ?_
    · rintro i x σ G1 G2 hi ⟨⟨v3, v4, v5, rfl⟩, s1, xs, qs, eX, qX, lX, mX⟩ hy
      obtain ⟨t2, x1, x2, rfl, ht2, rfl, e1, e2⟩ := hy
      obtain rfl := Option.some.inj e1
      have hi' : i < ws.length := by
        have hi : i < (tws ws).length := hi
        rw [twl] at hi
        exact hi
      obtain rfl : x2 = .str (Tx ws[i]) := by
        have e2 : (ws.map fun l => V.str (Tx l))[i]? = some x2 := e2
        rw [List.getElem?_map, List.getElem?_eq_getElem hi'] at e2
        exact (Option.some.inj e2).symm
      have egd : ws.getD i [] = ws[i] := by
        rw [List.getD_eq_getElem?_getD, List.getElem?_eq_getElem hi']
        rfl
      have hl12 : ws[i].length ≤ 12 := hok _ (List.getElem_mem hi')
      have st := Sm.new (o := .tup [.int (i : Nat), .str (Tx ws[i])]) ht2
      refine ⟨t2, _, rfl, SqT.of upd_same, rfl, ⟨_, _, rfl, ⟨_, _, rfl, rfl, ?_⟩⟩⟩
      dsimp only [gName, List.set_cons_succ, List.set_cons_zero]
      have s1 := s1.trans st
      have eX := st _ _ eX
      have qX := qX.sm st
      generalize upd G1 t2 (.tup [.int (i : Nat), .str (Tx ws[i])]) = G2 at s1 eX qX ⊢
      clear st ht2 e1 e2
      rw [← egd] at hl12 ⊢
      clear egd
      generalize el : ws.getD i [] = l at hl12 ⊢
      have hz : (Tx l).length ≤ sizeLine := by rw [tx_len]; exact Nat.le_trans hl12 (by decide)
      refine ⟨_, rfl, .inl ⟨rfl, _, SqL.of eX⟩, _, rfl, _, rfl, hz, _, rfl, by omega, by rw [tx_len]; omega, fun B hB => ?_⟩
      rw [tx_len, Int.toNat_natCast]
      have nBD : B ≠ D := fun z => by rw [z, eX] at hB; cases hB
      have hB0 : H B = none := by
        cases z : H B with
        | none => rfl
        | some o => rw [s1 _ _ z] at hB; cases hB
      have sB := Sm.new (o := .lst []) hB
      refine lc_it walk_range (fun j H' => Same H H' ∧ H' D = some (.lst xs) ∧ QsAt H' xs qs ∧ ∃ ys rs, H' B = some (.lst ys) ∧ QsAt H' ys rs ∧ rs.length ≤ j ∧ ∀ q, q ∈ rs ↔ q.1 = i ∧ q.2 < j ∧ l.getD q.2 0 = c)
        ⟨s1.trans sB, sB _ _ eX, qX.sm sB, [], [], upd_same, QsAt.nil, Nat.zero_le _, fun q => ⟨fun h => absurd h List.not_mem_nil, fun h => absurd h.2.1 (Nat.not_lt_zero _)⟩⟩ (fun _ _ _ _ => trivial) ?_ ?_
      · rintro j y G5 G6 hj ⟨sj, ej, qj, ys, rs, eY, qY, lY, mY⟩ ⟨rfl, rfl⟩
        dsimp only [gName, List.set_cons_succ, List.set_cons_zero]
        have hj : j < l.length := hj
        have ej0 : l.getD j 0 = l[j] := by
          rw [List.getD_eq_getElem?_getD, List.getElem?_eq_getElem hj]
          rfl
        rw [show (0 : Int) + ((j : Nat) : Int) = ((j : Nat) : Int) by omega]
        refine ⟨rfl, _, rfl, _, rfl, Tx l, _, l[j], rfl, rfl, hz, by rw [tx_list]; exact atI_nat (List.getElem?_eq_getElem hj), _, rfl, ?_⟩
        have dE : decide (V.str (⟨#[l[j]]⟩ : Str) = V.str (Tx [c])) = decide (l[j] = c) := by
          by_cases e : l[j] = c
          · rw [e, decide_eq_true rfl]
            exact decide_eq_true rfl
          · rw [decide_eq_false e]
            exact decide_eq_false fun z => e (List.cons.inj (tx_inj (V.str.inj z))).1
        refine ⟨rfl, _, rfl, ?_⟩
        rw [dE]
        by_cases e : l[j] = c
        · rw [decide_eq_true e]
          refine iteT ?_
          refine ⟨_, rfl, _, rfl, by show 2 ≤ sizeLine; decide, fun t ht => ?_⟩
          have st := Sm.new (o := .tup [.int (i : Nat), .int (j : Nat)]) ht
          have eY' := st _ _ eY
          refine ⟨ys, eY', by rw [qY.1]; exact Nat.lt_of_le_of_lt (show _ ≤ 12 by omega) (by decide), Sm.put (sj.trans st) hB0, (upd_ne nBD.symm).trans (st _ _ ej), (qj.sm st).put eY', ys ++ [.ref t], rs ++ [(i, j)], upd_same, ((qY.sm st).app (QsAt.one upd_same)).put eY', by rw [List.length_append]; show _ + 1 ≤ _; omega, fun q => ?_⟩
          rw [List.mem_append, mY, List.mem_singleton]
          constructor
          · rintro (⟨h1, h2, h3⟩ | rfl)
            · exact ⟨h1, by omega, h3⟩
            · exact ⟨rfl, Nat.lt_succ_self _, ej0.trans e⟩
          · rintro ⟨h1, h2, h3⟩
            rcases Nat.lt_or_ge q.2 j with z | z
            · exact .inl ⟨h1, z, h3⟩
            · exact .inr (Prod.ext h1 (by show q.2 = j; omega))
        · rw [decide_eq_false e]
          refine iteF ?_
          refine ⟨sj, ej, qj, ys, rs, eY, qY, by omega, fun q => ?_⟩
          rw [mY]
          constructor
          · rintro ⟨h1, h2, h3⟩
            exact ⟨h1, by omega, h3⟩
          · rintro ⟨h1, h2, h3⟩
            refine ⟨h1, ?_, h3⟩
            rcases Nat.lt_or_ge q.2 j with z | z
            · exact z
            · have e2 : q.2 = j := by omega
              rw [e2, ej0] at h3
              exact absurd h3 e
      · rintro H7 ⟨sj, ej, qj, ys, rs, eY, qY, lY, mY⟩
        dsimp only [gName, List.set_cons_succ, List.set_cons_zero]
        refine ⟨D, B, xs, ys, rfl, rfl, ej, eY, ?_, ⟨_, _, _, rfl⟩, ?_, xs ++ ys, qs ++ rs, upd_same, (qj.app qY).put ej, by rw [List.length_append]; omega, fun q => ?_⟩
        · rw [qX.1, qY.1]
          exact Nat.le_trans (show _ ≤ 200 by omega) (by decide)
        · exact Sm.put sj hD
        · rw [List.mem_append, mX, mY]
          unfold AtL
          constructor
          · rintro (⟨h1, h2⟩ | ⟨h1, h2, h3⟩)
            · exact ⟨by omega, h2⟩
            · rw [h1, el]
              exact ⟨by omega, h2, h3⟩
          · rintro ⟨h1, h2, h3⟩
            rcases Nat.lt_or_ge q.1 i with z | z
            · exact .inl ⟨z, h2, h3⟩
            · have e : q.1 = i := by omega
              rw [e, el] at h2 h3
              exact .inr ⟨e, h2, h3⟩
    · rintro σ H9 ⟨⟨v3, v4, v5, rfl⟩, s1, xs, qs, eX, qX, lX, mX⟩
      rw [twl] at lX mX
      exact ⟨_, rfl, q _ _ xs qs s1 hD eX qX (by omega) mX⟩
end
end W5
namespace W5
open PySem PySem.Spec PyProof.Rows L2 K0 K6
open K4 hiding Blt
section
variable {P : Program} {w : World} {K : PySem.W.Frag} {mg : Str → Option Value} {base : Heap}
/-! ### the law's least pair -/
theorem min_pp (r : Pl2) (ps : List Pl2) : ∃ r0 ∈ r :: ps, ppOf r0 = PySem.W.minOf (ppOf r) (ps.map ppOf) ∧ ∀ r' ∈ r :: ps, ¬ ltP2 r' r0 := by
  obtain ⟨mIn, mLe⟩ := minOf_least (ps.map ppOf) (ppOf r)
  obtain ⟨r0, hr0, er0⟩ : ∃ r0 ∈ r :: ps, ppOf r0 = PySem.W.minOf (ppOf r) (ps.map ppOf) := by
    have : PySem.W.minOf (ppOf r) (ps.map ppOf) ∈ (r :: ps).map ppOf := mIn
    obtain ⟨a, h1, h2⟩ := List.mem_map.mp this
    exact ⟨a, h1, h2⟩
  refine ⟨r0, hr0, er0, fun r' hr' h5 => ?_⟩
  have := mLe (ppOf r') (by
    show ppOf r' ∈ (r :: ps).map ppOf
    exact List.mem_map.mpr ⟨_, hr', rfl⟩)
  rw [← er0, lt_pp, decide_eq_false_iff_not] at this
  refine this ?_
  obtain ⟨⟨a1, a2⟩, a3, a4⟩ := r0
  obtain ⟨⟨x1, x2⟩, y1, y2⟩ := r'
  unfold ltP2 ltPl at h5
  unfold ppOf
  simp only [Prod.mk.injEq] at h5 ⊢
  omega
theorem PsAt.app {H : Hp} {xs ys : List V} {ps rs : List Pl2} (h : PsAt H xs ps) (h2 : PsAt H ys rs) : PsAt H (xs ++ ys) (ps ++ rs) := ⟨by rw [List.length_append, List.length_append, h.1, h2.1], fun i x q e1 e2 => by
  rcases Nat.lt_or_ge i xs.length with z | z
  · rw [List.getElem?_append_left z] at e1
    rw [List.getElem?_append_left (by rw [← h.1]; exact z)] at e2
    exact h.2 i x q e1 e2
  · rw [List.getElem?_append_right z] at e1
    rw [List.getElem?_append_right (by rw [← h.1]; exact z), ← h.1] at e2
    exact h2.2 _ x q e1 e2⟩
theorem PsAt.nil {H : Hp} : PsAt H [] [] := ⟨rfl, fun i x q e => by cases e⟩
theorem PsAt.put {H : Hp} {D : Addr} {xs us ys : List V} {ps : List Pl2} (hD : H D = some (.lst us)) (h : PsAt H xs ps) : PsAt (L2.upd H D (.lst ys)) xs ps := h.upd fun ys z => by rw [hD] at z; cases z
theorem ps_sh {K : PySem.W.Frag} (ps : List Pl2) : SeqAt.shaped (.list ((ps.map ppOf).map PySem.W.Datum.toD)) = true := by
  rw [List.map_map]
  refine shaped_of ?_ ?_
  · unfold PyData.canLay0
    exact K6.lay_all (d := (PySem.W.Datum.toD (α := K5.PP)) ∘ ppOf) fun x _ => by
      show PyData.canLay0 (PySem.W.Datum.toD (ppOf x)) = true
      rw [K5.toD_pp]
      rfl
  · unfold PyData.depth
    have := depth_all (b := 8) (d := (PySem.W.Datum.toD (α := K5.PP)) ∘ ppOf) (xs := ps) fun x _ => by
      show PyData.depth (PySem.W.Datum.toD (ppOf x)) ≤ 8
      rw [K5.toD_pp]
      exact (by decide : 2 ≤ 8)
    omega
abbrev dNB (n : NB) : PyData := .tuple [.str (Tx n.1), .str (Tx n.2)]
theorem eqv_tx (a b : List Nat) : PyData.eqv (.str (Tx a)) (.str (Tx b)) = decide (a = b) := by
  rw [PyData.eqv]
  by_cases h : a = b
  · rw [h, decide_eq_true rfl]
    exact beq_self_eq_true _
  · rw [decide_eq_false h]
    exact beq_eq_false_iff_ne.mpr fun z => h (tx_inj z)
theorem eqv_nb (n m : NB) : PyData.eqv (dNB n) (dNB m) = decide (n = m) := by
  obtain ⟨a, b⟩ := n
  obtain ⟨c, d⟩ := m
  show PyData.eqv (.tuple [.str (Tx a), .str (Tx b)]) (.tuple [.str (Tx c), .str (Tx d)]) = _
  rw [eqv_two, eqv_tx, eqv_tx]
  by_cases h1 : a = c
  · by_cases h2 : b = d
    · rw [h1, h2]
      simp
    · rw [decide_eq_false h2, Bool.and_false]
      exact (decide_eq_false fun z => h2 (Prod.mk.inj z).2).symm
  · rw [decide_eq_false h1, Bool.false_and]
    exact (decide_eq_false fun z => h1 (Prod.mk.inj z).1).symm
theorem nb_sh {wide : Nat} {l : List Nat} {p : Nat} (h : sOk l) : SeqAt.shaped (dNB (nearL wide l p)) = true := by
  have hl : ∀ c ∈ lineOf wide l, c < 1114112 := fun c hc => by
    unfold lineOf at hc
    rcases List.mem_append.mp hc with hc | hc
    · rcases List.mem_append.mp hc with hc | hc
      · rw [(List.mem_replicate.mp hc).2]
        decide
      · have := h.1 c hc
        omega
    · rw [(List.mem_replicate.mp hc).2]
      decide
  have h1 : PyData.canLay0 (.str (Tx (nearL wide l p).1)) = true := str_low fun c hc => hl c (List.mem_of_mem_drop (List.mem_of_mem_take hc))
  have h2 : PyData.canLay0 (.str (Tx (nearL wide l p).2)) = true := str_low fun c hc => hl c (List.mem_of_mem_drop (List.mem_of_mem_take hc))
  refine shaped_of ?_ (show 1 ≤ 64 by decide)
  unfold dNB PyData.canLay0 PyData.canLayAll0 PyData.canLayAll0 PyData.canLayAll0
  rw [h1, h2]
  rfl
def nearT (wide : Nat) (ws : List (List Nat)) (q : Nat × Nat) : NB := nearL wide (ws.getD q.1 []) q.2
def OutQ (H' : Hp) (v : V) : Option Pl2 → Prop
  | none => v = .non
  | some r => ∃ T t1 t2, v = .ref T ∧ H' T = some (.tup [.ref t1, .ref t2]) ∧ H' t1 = some (.tup (plV r.1)) ∧ H' t2 = some (.tup (plV r.2))
abbrev CLpl (P : Program) (w : World) (K : PySem.W.Frag) (mg : Str → Option Value) (base : Heap) : Prop := Cal P w K mg base 1 "_law_places" st_l_places ["_law_words_here", "_law_sound"] (spLPlaces K)
abbrev CLnr (P : Program) (w : World) (K : PySem.W.Frag) (mg : Str → Option Value) (base : Heap) : Prop := Cal P w K mg base 1 "_law_near" st_l_near ["_law_word", "_law_at", "_law_wide"] (spLNear K)
abbrev st_l_against : Stmt := top 48
abbrev nm_l_against : List Str := ["_law_words_here", "_law_sound", "_law_other", "_law_wide", "_law_found", "_law_mine", "_law_near_here", "_law_its"]
theorem sc_l_against : FnScope nm_l_against ["_law_words_here", "_law_sound", "_law_other", "_law_wide"] (defScope st_l_against) := ⟨rfl, rfl, rfl, by decide +kernel, rfl, by decide +kernel, by decide +kernel⟩
def spLAg (K : PySem.W.Frag) : Sp := fun vs H Q _ => ∃ (a : Addr) (ws : List (List Nat)) (c d wide : Nat), vs = [.ref a, .str (Tx [c]), .str (Tx [d]), .int (wide : Nat)] ∧ SqL K H a (tws ws) ∧ ws.length ≤ 13 ∧ (∀ l ∈ ws, sOk l) ∧ wide ≤ 2 ∧
  ∀ H' v r, Same H H' → LeastO (occA wide ws) c d r → OutQ H' v r → Q v H'
theorem ok_lag {f : Addr} {fd : FuncData} (F : Fun K "_law_against" "_law_against" st_l_against f fd) (T : Blt mg) (C__law_places : CLpl P w K mg base) (C__law_near : CLnr P w K mg base) : FnOk P w K mg base CX0 2 f fd ["_law_words_here", "_law_sound", "_law_other", "_law_wide"] (spLAg K) := by
  refine F.ok sc_l_against (fun vs H Q E h => ?_) (fun cdv A outer s H vs Q E hr h => ?_)
  · obtain ⟨_, _, _, _, _, rfl, _⟩ := h
    rfl
  · refine ⟨_, (pss_cons (ps_set (i := 4) sc_l_against.nd rfl (Or.inl rfl) (pe_lst pa_nil))
  (pss_cons (ps_for PassesOwn.never rfl (pi_list (pe_cl C__law_places (hr.mono (by decide)) rfl (pa_cons (pv 0) (pa_cons (pv 1) pa_nil)))) (pg_name (i := 5) sc_l_against.nd rfl (Or.inr rfl)) (pss_cons (ps_set (i := 6) sc_l_against.nd rfl (Or.inr rfl) (pe_cl C__law_near (hr.mono (by decide)) rfl (pa_cons (pe_ix ix_list (pv 0) (pe_ix (ix_tup : IxR _ (rIxT K)) (pv 5) pe_int (fun _ _ => rfl)) (fun _ _ => rfl)) (pa_cons (pe_ix (ix_tup : IxR _ (rIxT K)) (pv 5) pe_int (fun _ _ => rfl)) (pa_cons (pv 3) pa_nil)))))
  (pss_one (ps_expr (pe_bm PySem.F.plainAttrs_list PySem.F.slot_list_extend PySem.F.type_list_extend mt_extend (pv 4) (pa_cons (pe_lc (own := [("_law_its", 7)]) (g := (gName 7)) rfl sc_l_against.nd (pi_list (pe_cl C__law_places (hr.mono (by decide)) rfl (pa_cons (pv 0) (pa_cons (pv 2) pa_nil)))) (blkOk_by (N := nm_l_against) (sc := defScope st_l_against) (own := [("_law_its", 7)]) (by decide +kernel)) (fun _ _ _ _ _ => by exact pg_name (i := 7) sc_l_against.nd rfl (Or.inl rfl)) (fun _ _ _ _ _ => pts_one (pt_cmpR (op_eqD (by exact hr.units) : OpR _ (compareOp .Eq) (rEqD K)) (pe_cl C__law_near (hr.mono (by decide)) rfl (pa_cons (pe_ix (ix_list : IxR _ (rIxL K)) (pv 0) (pe_ix (ix_tup : IxR _ (rIxT K)) (pv 7) pe_int (fun _ _ => rfl)) (fun _ _ => rfl)) (pa_cons (pe_ix (ix_tup : IxR _ (rIxT K)) (pv 7) pe_int (fun _ _ => rfl)) (pa_cons (pv 3) pa_nil)))) (pv 6) (nomark _))) (fun _ _ _ _ _ => (pe_tup (pa_cons (pv 5) (pa_cons (pv 7) pa_nil))))) pa_nil))))))
  (pss_one (ps_ret (pe_ifExp (pt_cmpR (op_neD hr.units) (pv 4) (pe_lst pa_nil) (nomark _)) (pe_callB (K5.cr_minPP rfl (hu20 hr)) (by rfl) T.n_min (by decide +kernel) (pa_cons (pv 4) pa_nil)) pe_non))))), ?_⟩
    obtain ⟨a, ws, c, d, wide, rfl, hS, hl, hok, hw, q⟩ := h
    rw [show L2.start nm_l_against [V.ref a, V.str (Tx [c]), V.str (Tx [d]), V.int (wide : Nat)] = [some (V.ref a), some (V.str (Tx [c])), some (V.str (Tx [d])), some (V.int (wide : Nat)), none, none, none, none] from rfl]
    have h12 : ∀ l ∈ ws, l.length ≤ 12 := fun l hl => by have := (hok l hl).2; omega
    refine ⟨Nat.zero_le _, fun D hD => ?_⟩
    dsimp only [gName, List.set_cons_succ, List.set_cons_zero]
    have sD := Sm.new (o := .lst []) hD
    refine ⟨_, rfl, _, rfl, a, ws, c, rfl, sm_l sD hS, hl, h12, fun H1 D1 xs1 qs1 s1 nD1 hD1 qA1 lq1 mq1 => ⟨D1, rfl, ⟨_, SqL.of hD1⟩, ?_⟩⟩
    have eD := s1 _ _ (show upd H D (.lst []) D = some (.lst []) from upd_same)
    have nD : D1 ≠ D := fun z => by rw [z, upd_same] at nD1; cases nD1
    have sA := sD.trans s1
    -- the pairs so far
    refine for_it walk_list (fun i σ H' => (∃ v5 v6 v7, σ = [some (V.ref a), some (V.str (Tx [c])), some (V.str (Tx [d])), some (V.int (wide : Nat)), some (V.ref D), v5, v6, v7]) ∧ Same H H' ∧ KB1 D H1 H' ∧ ∃ xs ps, H' D = some (.lst xs) ∧ PsAt H' xs ps ∧ ps.length ≤ 200 * i ∧ ∀ r, r ∈ ps ↔ (∃ k < i, qs1[k]? = some r.1) ∧ AtL ws d ws.length r.2 ∧ nearT wide ws r.1 = nearT wide ws r.2)
      ⟨⟨_, _, _, rfl⟩, sA, KB1.of (Same.refl _), [], [], eD, PsAt.nil, Nat.zero_le _, fun r => ⟨fun h => absurd h List.not_mem_nil, fun ⟨⟨k, hk, _⟩, _⟩ => absurd hk (Nat.not_lt_zero _)⟩⟩ (fun i σ G hi z => SqL.of (z.2.2.1 _ _ nD hD1)) ?_ ?_
    · rintro i x σ G1 G2 hi ⟨⟨v5, v6, v7, rfl⟩, g1, g2, xs, ps, eX, pX, lX, mX⟩ ⟨rfl, hx⟩
      dsimp only [gName, List.set_cons_succ, List.set_cons_zero]
      have hi' : i < qs1.length := by
        have hi : i < xs1.length := hi
        rw [← qA1.1]
        exact hi
      obtain ⟨T1, rfl, hT1⟩ := qA1.2 i x qs1[i] hx (List.getElem?_eq_getElem hi')
      have eqi := List.getElem?_eq_getElem hi'
      generalize qs1[i] = q1 at hT1 eqi
      have at1 := (mq1 q1).mp (List.mem_of_getElem? eqi)
      have hT := g2 _ _ (fun z => by rw [z, eD] at hT1; cases hT1) hT1
      -- a word by its number
      have word : ∀ {k : Nat}, k < ws.length → atI (tws ws) ((k : Nat) : Int) = some (V.str (Tx (ws.getD k []))) := fun {k} hk => atI_nat (by
        unfold tws
        rw [List.getElem?_map, List.getD_eq_getElem?_getD, List.getElem?_eq_getElem hk]
        rfl)
      have okw : ∀ {k : Nat}, k < ws.length → sOk (ws.getD k []) := fun {k} hk => by
        rw [List.getD_eq_getElem?_getD, List.getElem?_eq_getElem hk]
        exact hok _ (List.getElem_mem hk)
      refine ⟨_, rfl, _, rfl, T1, plV q1, 0, _, rfl, rfl, SqT.of hT, rfl, a, tws ws, _, _, rfl, rfl, sm_l g1 hS, word at1.1, _, rfl, T1, plV q1, 1, _, rfl, rfl, SqT.of hT, rfl, _, rfl, ?_⟩
      refine ⟨_, q1.2, wide, rfl, by have := (okw at1.1).2; omega, at1.2.1, hw, fun G3 t1 s3 n3 e3 => ?_⟩
      dsimp only [gName, List.set_cons_succ, List.set_cons_zero]
      have g1 := g1.trans s3
      have g2 := g2.sm s3
      have eX := s3 _ _ eX
      have pX := pX.sm s3
      have hT := s3 _ _ hT
      clear s3 n3
      refine ⟨_, rfl, .inl ⟨rfl, _, SqL.of eX⟩, ?_⟩
      refine ⟨_, rfl, _, rfl, a, ws, d, rfl, sm_l g1 hS, hl, h12, fun H4 D2 xs2 qs2 s4 nD2 hD2 qA2 lq2 mq2 => ⟨D2, rfl, ⟨_, SqL.of hD2⟩, fun B hB => ?_⟩⟩
      have g1 := g1.trans s4
      have g2 := g2.sm s4
      have eX := s4 _ _ eX
      have pX := pX.sm s4
      have hT := s4 _ _ hT
      have e3 := s4 _ _ e3
      have nBD : B ≠ D := fun z => by rw [z, eX] at hB; cases hB
      have hB0 : H B = none := by
        cases z : H B with
        | none => rfl
        | some o => rw [g1 _ _ z] at hB; cases hB
      have sB := Sm.new (o := .lst []) hB
      refine lc_it walk_list (fun j H' => Same H4 H' ∧ ∃ ys rs, H' B = some (.lst ys) ∧ PsAt H' ys rs ∧ rs.length ≤ j ∧ ∀ r, r ∈ rs ↔ r.1 = q1 ∧ (∃ k < j, qs2[k]? = some r.2) ∧ nearT wide ws q1 = nearT wide ws r.2)
        ⟨sB, [], [], upd_same, PsAt.nil, Nat.zero_le _, fun r => ⟨fun h => absurd h List.not_mem_nil, fun ⟨_, ⟨k, hk, _⟩, _⟩ => absurd hk (Nat.not_lt_zero _)⟩⟩ (fun j G hj z => SqL.of (z.1 _ _ hD2)) ?_ ?_
      · rintro j y G5 G6 hj ⟨sj, ys, rs, eY, pY, lY, mY⟩ ⟨rfl, hy⟩
        dsimp only [gName, List.set_cons_succ, List.set_cons_zero]
        have hj' : j < qs2.length := by
          have hj : j < xs2.length := hj
          rw [← qA2.1]
          exact hj
        obtain ⟨T2, rfl, hT2⟩ := qA2.2 j y qs2[j] hy (List.getElem?_eq_getElem hj')
        have eqj := List.getElem?_eq_getElem hj'
        generalize qs2[j] = q2 at hT2 eqj
        have at2 := (mq2 q2).mp (List.mem_of_getElem? eqj)
        have hT2 := sj _ _ hT2
        refine ⟨rfl, ?_⟩
        refine ⟨_, rfl, _, rfl, T2, plV q2, 0, _, rfl, rfl, SqT.of hT2, rfl, a, tws ws, _, _, rfl, rfl, sm_l (g1.trans sj) hS, word at2.1, _, rfl, T2, plV q2, 1, _, rfl, rfl, SqT.of hT2, rfl, _, rfl, ?_⟩
        refine ⟨_, q2.2, wide, rfl, by have := (okw at2.1).2; omega, at2.2.1, hw, fun G7 t2 s7 n7 e7 => ?_⟩
        have sj := sj.trans s7
        have eY := s7 _ _ eY
        have pY := pY.sm s7
        have hT2 := s7 _ _ hT2
        refine ⟨_, rfl, dNB (nearT wide ws q2), dNB (nearT wide ws q1), .tup (SqT.of e7) (.cons (.str _) (.cons (.str _) .nil)), .tup (SqT.of (sj _ _ e3)) (.cons (.str _) (.cons (.str _) .nil)), nb_sh (okw at2.1), nb_sh (okw at1.1), ?_⟩
        rw [eqv_nb]
        refine ⟨_, rfl, ?_⟩
        by_cases e : nearT wide ws q2 = nearT wide ws q1
        · rw [decide_eq_true e]
          refine iteT ?_
          refine ⟨_, rfl, _, rfl, by show 2 ≤ sizeLine; decide, fun t ht => ?_⟩
          have st := Sm.new (o := .tup [.ref T1, .ref T2]) ht
          have eY' := st _ _ eY
          refine ⟨ys, eY', by rw [pY.1]; exact Nat.lt_of_le_of_lt (show _ ≤ 200 by omega) (by decide), Sm.put (sj.trans st) hB, ys ++ [.ref t], rs ++ [(q1, q2)], upd_same, ((pY.sm st).snoc (r := (q1, q2)) upd_same (st _ _ (sj _ _ hT)) (st _ _ hT2)).put eY', by rw [List.length_append]; show _ + 1 ≤ _; omega, fun r => ?_⟩
          rw [List.mem_append, mY, List.mem_singleton]
          constructor
          · rintro (⟨h1, ⟨k, h2, h3⟩, h4⟩ | rfl)
            · exact ⟨h1, ⟨k, by omega, h3⟩, h4⟩
            · exact ⟨rfl, ⟨j, Nat.lt_succ_self _, eqj⟩, e.symm⟩
          · rintro ⟨h1, ⟨k, h2, h3⟩, h4⟩
            rcases Nat.lt_or_ge k j with z | z
            · exact .inl ⟨h1, ⟨k, z, h3⟩, h4⟩
            · have ek : k = j := by omega
              rw [ek, eqj] at h3
              exact .inr (Prod.ext h1 (Option.some.inj h3).symm)
        · rw [decide_eq_false e]
          refine iteF ?_
          refine ⟨sj, ys, rs, eY, pY, by omega, fun r => ?_⟩
          rw [mY]
          constructor
          · rintro ⟨h1, ⟨k, h2, h3⟩, h4⟩
            exact ⟨h1, ⟨k, by omega, h3⟩, h4⟩
          · rintro ⟨h1, ⟨k, h2, h3⟩, h4⟩
            rcases Nat.lt_or_ge k j with z | z
            · exact ⟨h1, ⟨k, z, h3⟩, h4⟩
            · have ek : k = j := by omega
              rw [ek, eqj] at h3
              rw [← Option.some.inj h3] at h4
              exact absurd h4.symm e
      · rintro H7 ⟨sj, ys, rs, eY, pY, lY, mY⟩
        dsimp only [gName, List.set_cons_succ, List.set_cons_zero]
        have g1 := g1.trans sj
        have eX := sj _ _ eX
        refine ⟨D, B, xs, ys, rfl, rfl, eX, eY, ?_, ⟨_, _, _, rfl⟩, Sm.put g1 hD, (g2.sm sj).put, xs ++ ys, ps ++ rs, upd_same, ((pX.sm sj).app pY).put eX, ?_, fun r => ?_⟩
        · rw [pX.1, pY.1]
          have := qA1.1
          have := qA2.1
          exact Nat.le_trans (show _ ≤ 200 * 200 + 200 by omega) (by decide)
        · rw [List.length_append]
          have := qA2.1
          omega
        · rw [List.mem_append, mX, mY]
          have m2 : (∃ k, k < xs2.length ∧ qs2[k]? = some r.2) ↔ AtL ws d ws.length r.2 := by
            rw [← mq2]
            constructor
            · rintro ⟨k, _, h⟩
              exact List.mem_of_getElem? h
            · intro h
              obtain ⟨k, hk⟩ := List.mem_iff_getElem?.mp h
              exact ⟨k, by rw [qA2.1]; exact (List.getElem?_eq_some_iff.mp hk).1, hk⟩
          constructor
          · rintro (⟨⟨k, h1, h2⟩, h3⟩ | ⟨h1, h2, h3⟩)
            · exact ⟨⟨k, by omega, h2⟩, h3⟩
            · exact ⟨⟨i, Nat.lt_succ_self _, by rw [h1]; exact eqi⟩, m2.mp h2, by rw [h1]; exact h3⟩
          · rintro ⟨⟨k, h1, h2⟩, h3, h4⟩
            rcases Nat.lt_or_ge k i with z | z
            · exact .inl ⟨⟨k, z, h2⟩, h3, h4⟩
            · have ek : k = i := by omega
              rw [ek, eqi] at h2
              have := Option.some.inj h2
              exact .inr ⟨this.symm, m2.mpr h3, by rw [this]; exact h4⟩
    · rintro σ H9 ⟨⟨v5, v6, v7, rfl⟩, g1, g2, xs, ps, eX, pX, lX, mX⟩
      have hx1 : xs1.length = qs1.length := qA1.1
      -- the pairs are those of equal surroundings
      have all : ∀ r, r ∈ ps ↔ AtL ws c ws.length r.1 ∧ AtL ws d ws.length r.2 ∧ nearT wide ws r.1 = nearT wide ws r.2 := fun r => by
        rw [mX, ← mq1]
        constructor
        · rintro ⟨⟨k, _, h⟩, h2⟩
          exact ⟨List.mem_of_getElem? h, h2⟩
        · rintro ⟨h, h2⟩
          obtain ⟨k, hk⟩ := List.mem_iff_getElem?.mp h
          exact ⟨⟨k, by rw [hx1]; exact (List.getElem?_eq_some_iff.mp hk).1, hk⟩, h2⟩
      have inL : ∀ {e : Nat} {q : Nat × Nat}, AtL ws e ws.length q → (e, nearT wide ws q, q) ∈ occA wide ws := fun {e q} h => occs_mem.mpr ⟨q.1, h.1, q.2, h.2.1, by rw [h.2.2]; rfl⟩
      have ofL : ∀ {x : Occ}, x ∈ occA wide ws → AtL ws x.1 ws.length x.2.2 ∧ nearT wide ws x.2.2 = x.2.1 := fun {x} h => by
        obtain ⟨k, hk, p, hp, rfl⟩ := occs_mem.mp h
        exact ⟨⟨hk, hp, rfl⟩, rfl⟩
      refine ⟨_, rfl, Nat.zero_le _, fun e he => ?_⟩
      have se := Sm.new (o := .lst []) he
      refine ⟨_, .list [], .lst (SqL.of (se _ _ eX)) (pX.sm se).dp, .lst (SqL.of upd_same) .nil, ps_sh (K := K) ps, sh_nil, ?_⟩
      rw [eqv_nil, List.length_map]
      have g1 := g1.trans se
      have eX := se _ _ eX
      have pX := pX.sm se
      generalize upd H9 e (.lst []) = H8 at g1 eX pX ⊢
      cases ps with
      | nil =>
        refine ⟨_, rfl, ?_⟩
        refine iteF ?_
        refine q _ _ none g1 (fun x hx y hy e1 e2 e3 => ?_) rfl
        obtain ⟨x1, x2⟩ := ofL hx
        obtain ⟨y1, y2⟩ := ofL hy
        rw [e1] at x1
        rw [e2] at y1
        exact absurd ((all (x.2.2, y.2.2)).mpr ⟨x1, y1, x2.trans (e3.trans y2.symm)⟩) List.not_mem_nil
      | cons r ps =>
        refine ⟨_, rfl, ?_⟩
        refine iteT ?_
        obtain ⟨r0, hr0, er0, le0⟩ := min_pp r ps
        refine ⟨_, rfl, D, xs, ppOf r, ps.map ppOf, rfl, SqL.of eX, pX.dp, fun i v h1 h2 => ?_⟩
        have e2 : ((r :: ps).map ppOf)[i]? = some (PySem.W.minOf (ppOf r) (ps.map ppOf)) := h2
        rw [List.getElem?_map] at e2
        cases z : (r :: ps)[i]? with
        | none => rw [z] at e2; cases e2
        | some r' =>
          rw [z] at e2
          have e3 : ppOf r' = _ := Option.some.inj e2
          rw [← er0] at e3
          have e4 := pp_inj e3
          subst e4
          obtain ⟨T, t1, t2, rfl, a1, a2, a3⟩ := pX.2 i v r' h1 z
          refine q _ _ (some r') g1 ⟨?_, fun x hx y hy e1 e2 e3 => ?_⟩ ⟨T, t1, t2, rfl, a1, a2, a3⟩
          · obtain ⟨m1, m2, m3⟩ := (all r').mp hr0
            exact ⟨_, inL m1, _, inL m2, rfl, rfl, m3, rfl⟩
          · obtain ⟨x1, x2⟩ := ofL hx
            obtain ⟨y1, y2⟩ := ofL hy
            rw [e1] at x1
            rw [e2] at y1
            exact le0 _ ((all (x.2.2, y.2.2)).mpr ⟨x1, y1, x2.trans (e3.trans y2.symm)⟩)
end
end W5
namespace W5
open PySem PySem.Spec PyProof.Rows L2 K0 K6
open K4 hiding Blt
section
variable {P : Program} {w : World} {K : PySem.W.Frag} {mg : Str → Option Value} {base : Heap}
/-! ### the law's sounds -/
def abcS : Str := Str.ofString "abcdefghijklmnopqrstuvwxyz"
theorem abc_at : ∀ i < 26, abcS.cps[i]? = some (97 + i) := by decide +kernel
abbrev st_l_sounds : Stmt := top 49
abbrev nm_l_sounds : List Str := ["_law_words_here", "_law_found", "_law_sound", "_law_word"]
theorem sc_l_sounds : FnScope nm_l_sounds ["_law_words_here"] (defScope st_l_sounds) := ⟨rfl, rfl, rfl, by decide +kernel, rfl, by decide +kernel, by decide +kernel⟩
def spLSounds (K : PySem.W.Frag) : Sp := fun vs H Q _ => ∃ (a : Addr) (ws : List (List Nat)), vs = [.ref a] ∧ SqL K H a (tws ws) ∧ ws.length ≤ 13 ∧ (∀ l ∈ ws, sOk l) ∧
  ∀ H' D, Same H H' → H D = none → H' D = some (.lst (sgL (soundsOf ws))) → Q (.ref D) H'
theorem ok_lsounds {f : Addr} {fd : FuncData} (F : Fun K "_law_sounds" "_law_sounds" st_l_sounds f fd) (T : Blt mg) : FnOk P w K mg base CX0 1 f fd ["_law_words_here"] (spLSounds K) := by
  refine F.ok sc_l_sounds (fun vs H Q E h => ?_) (fun cdv A outer s H vs Q E hr h => ?_)
  · obtain ⟨_, _, rfl, _⟩ := h
    rfl
  · refine ⟨_, (pss_cons (ps_set (i := 1) sc_l_sounds.nd rfl (Or.inl rfl) (pe_lst pa_nil))
  (pss_cons (ps_for PassesOwn.never rfl (pi_str pe_str) (pg_name (i := 2) sc_l_sounds.nd rfl (Or.inr rfl)) (pss_one (ps_expr (pe_bm PySem.F.plainAttrs_list PySem.F.slot_list_extend PySem.F.type_list_extend mt_extend (pv 1) (pa_cons (pe_ifExp (pt_cmpR (op_neD hr.units) (pe_lc (own := [("_law_word", 3)]) (g := (gName 3)) rfl sc_l_sounds.nd (pi_list (pv 0)) (blkOk_by (N := nm_l_sounds) (sc := defScope st_l_sounds) (own := [("_law_word", 3)]) (by decide +kernel)) (fun _ _ _ _ _ => by exact pg_name (i := 3) sc_l_sounds.nd rfl (Or.inl rfl)) (fun _ _ _ _ _ => pts_one (pt_cmpR op_in_sign (pv 2) (pv 3) rfl)) (fun _ _ _ _ _ => (pv 3))) (pe_lst pa_nil) (nomark _)) (pe_lst (pa_cons (pv 2) pa_nil)) (pe_lst pa_nil)) pa_nil)))))
  (pss_one (ps_ret (pv 1))))), ?_⟩
    obtain ⟨a, ws, rfl, hS, hl, hok, q⟩ := h
    rw [show L2.start nm_l_sounds [V.ref a] = [some (V.ref a), none, none, none] from rfl]
    refine ⟨Nat.zero_le _, fun D hD => ?_⟩
    dsimp only [gName, List.set_cons_succ, List.set_cons_zero]
    have sD := Sm.new (o := .lst []) hD
    refine ⟨abcS, rfl, ?_⟩
    refine for_it walk_str (fun i σ H' => (∃ v2 v3, σ = [some (V.ref a), some (V.ref D), v2, v3]) ∧ Same H H' ∧ H' D = some (.lst (sgL ((List.range' 97 i).filter fun c => decide (c ∈ ws.flatten)))))
      ⟨⟨_, _, rfl⟩, sD, upd_same⟩ (fun _ _ _ _ _ => trivial) ?_ ?_
    · rintro i x σ G1 G2 hi ⟨⟨v2, v3, rfl⟩, g1, eX⟩ ⟨rfl, c, hc, rfl⟩
      have hi : i < 26 := hi
      rw [abc_at i hi] at hc
      obtain rfl := Option.some.inj hc
      dsimp only [gName, List.set_cons_succ, List.set_cons_zero]
      refine ⟨_, rfl, .inl ⟨rfl, _, SqL.of eX⟩, ?_⟩
      refine ⟨_, rfl, a, rfl, ⟨_, sm_l g1 hS⟩, fun B hB => ?_⟩
      have nBD : B ≠ D := fun z => by rw [z, eX] at hB; cases hB
      have sB := Sm.new (o := .lst []) hB
      -- the sounds found and this one, if a word has it
      have len26 : (sgL ((List.range' 97 i).filter fun c => decide (c ∈ ws.flatten))).length ≤ 26 := by
        unfold sgL
        rw [List.length_map]
        exact Nat.le_trans (List.length_filter_le _ _) (by rw [List.length_range']; omega)
      have stp : (List.range' 97 (i + 1)).filter (fun c => decide (c ∈ ws.flatten)) = (List.range' 97 i).filter (fun c => decide (c ∈ ws.flatten)) ++ (if 97 + i ∈ ws.flatten then [97 + i] else []) := by
        rw [List.range'_concat, Nat.one_mul, List.filter_append]
        congr 1
        by_cases e : 97 + i ∈ ws.flatten
        · rw [if_pos e, List.filter_cons, if_pos (decide_eq_true e)]
          rfl
        · rw [if_neg e, List.filter_cons, if_neg (by rw [decide_eq_false e]; exact Bool.false_ne_true)]
          rfl
      refine lc_it walk_list (fun j H' => Same G2 H' ∧ H' B = some (.lst (tws ((ws.take j).filter fun l => decide (97 + i ∈ l))))) ⟨sB, upd_same⟩ (fun j G hj z => sm_l z.1 (sm_l g1 hS)) ?_ ?_
      · rintro j y G5 G6 hj ⟨sj, eY⟩ ⟨rfl, hy⟩
        have hj' : j < ws.length := by
          have hj : j < (tws ws).length := hj
          rw [tws_len] at hj
          exact hj
        obtain rfl : y = .str (Tx ws[j]) := by
          have e2 : (ws.map fun l => V.str (Tx l))[j]? = some y := hy
          rw [List.getElem?_map, List.getElem?_eq_getElem hj'] at e2
          exact (Option.some.inj e2).symm
        dsimp only [gName, List.set_cons_succ, List.set_cons_zero]
        refine ⟨rfl, ?_⟩
        refine ⟨_, rfl, _, rfl, 97 + i, Tx ws[j], rfl, rfl, _, rfl, ?_⟩
        rw [tx_list]
        have tk : (ws.take (j + 1)).filter (fun l => decide (97 + i ∈ l)) = (ws.take j).filter (fun l => decide (97 + i ∈ l)) ++ (if 97 + i ∈ ws[j] then [ws[j]] else []) := by
          rw [List.take_add_one, List.getElem?_eq_getElem hj', List.filter_append]
          congr 1
          by_cases e : 97 + i ∈ ws[j]
          · rw [if_pos e]
            show [ws[j]].filter _ = _
            rw [List.filter_cons, if_pos (decide_eq_true e)]
            rfl
          · rw [if_neg e]
            show [ws[j]].filter _ = _
            rw [List.filter_cons, if_neg (by rw [decide_eq_false e]; exact Bool.false_ne_true)]
            rfl
        by_cases e : 97 + i ∈ ws[j]
        · rw [decide_eq_true e]
          refine iteT ?_
          rw [if_pos e] at tk
          refine ⟨_, rfl, _, eY, ?_, Sm.put sj hB, by rw [upd_same, tk]; unfold tws; rw [List.map_append]; rfl⟩
          rw [tws_len]
          exact Nat.lt_of_le_of_lt (Nat.le_trans (List.length_filter_le _ _) (by rw [List.length_take]; exact Nat.le_trans (Nat.min_le_left _ _) (show j ≤ 13 by omega))) (by decide)
        · rw [decide_eq_false e]
          refine iteF ?_
          rw [if_neg e, List.append_nil] at tk
          exact ⟨sj, by rw [tk]; exact eY⟩
      · rintro H7 ⟨sj, eY⟩
        dsimp only [gName, List.set_cons_succ, List.set_cons_zero]
        rw [tws_len, List.take_length] at eY
        have g1 := g1.trans sj
        have eX := sj _ _ eX
        have okf : ∀ l ∈ ws.filter (fun l => decide (97 + i ∈ l)), sOk l := fun l hl => hok l (List.mem_filter.mp hl).1
        refine ⟨Nat.zero_le _, fun e he => ?_⟩
        have se := Sm.new (o := .lst []) he
        refine ⟨_, .list [], .lst (SqL.of (se _ _ eY)) (dp_all (tws_dat okf)), .lst (SqL.of upd_same) .nil, dat_shaped (tws_dat okf), sh_nil, ?_⟩
        rw [eqv_nil, tws_len]
        have g1 := g1.trans se
        have eX := se _ _ eX
        generalize upd H7 e (.lst []) = H8 at g1 eX ⊢
        have dE : (!decide ((ws.filter fun l => decide (97 + i ∈ l)).length = 0)) = decide (97 + i ∈ ws.flatten) := by
          by_cases e : 97 + i ∈ ws.flatten
          · obtain ⟨l, hl, hc⟩ := List.mem_flatten.mp e
            have : l ∈ ws.filter fun l => decide (97 + i ∈ l) := List.mem_filter.mpr ⟨hl, decide_eq_true hc⟩
            have := List.length_pos_of_mem this
            rw [decide_eq_true e, decide_eq_false (by omega)]
            rfl
          · have : ws.filter (fun l => decide (97 + i ∈ l)) = [] := List.filter_eq_nil_iff.mpr fun l hl z => e (List.mem_flatten.mpr ⟨l, hl, of_decide_eq_true z⟩)
            rw [this, decide_eq_false e]
            rfl
        rw [dE]
        refine ⟨_, rfl, ?_⟩
        by_cases e : 97 + i ∈ ws.flatten
        · rw [decide_eq_true e]
          refine iteT ?_
          rw [if_pos e] at stp
          refine ⟨_, rfl, by show 1 ≤ sizeLine; decide, fun b hb => ?_⟩
          have nbD : b ≠ D := fun z => by rw [z, eX] at hb; cases hb
          have sb := Sm.new (o := .lst [.str ⟨#[97 + i]⟩]) hb
          refine ⟨D, b, _, _, rfl, rfl, sb _ _ eX, upd_same, Nat.le_trans (Nat.add_le_add_right len26 _) (show 26 + 1 ≤ sizeLine by decide), ⟨_, _, rfl⟩, Sm.put (g1.trans sb) hD, ?_⟩
          rw [upd_same, stp]
          unfold sgL
          rw [List.map_append]
          rfl
        · rw [decide_eq_false e]
          refine iteF ?_
          rw [if_neg e, List.append_nil] at stp
          refine ⟨Nat.zero_le _, fun b hb => ?_⟩
          have nbD : b ≠ D := fun z => by rw [z, eX] at hb; cases hb
          have sb := Sm.new (o := .lst []) hb
          refine ⟨D, b, _, _, rfl, rfl, sb _ _ eX, upd_same, Nat.le_trans (Nat.add_le_add_right len26 _) (show 26 + 0 ≤ sizeLine by decide), ⟨_, _, rfl⟩, Sm.put (g1.trans sb) hD, ?_⟩
          rw [upd_same, stp, List.append_nil]
    · rintro σ H9 ⟨⟨v2, v3, rfl⟩, g1, eX⟩
      refine ⟨_, rfl, q _ _ g1 hD ?_⟩
      rw [sounds_alpha fun l hl => (hok l hl).wd]
      exact eX
end
end W5
namespace W5
open PySem PySem.Spec PyProof.Rows L2 K0 K6
open K4 hiding Blt
section
variable {P : Program} {w : World} {K : PySem.W.Frag} {mg : Str → Option Value} {base : Heap}
variable {Z : Addr}
/-! ### what is due -/
abbrev CLso (P : Program) (w : World) (K : PySem.W.Frag) (mg : Str → Option Value) (base : Heap) : Prop := Cal P w K mg base 1 "_law_sounds" st_l_sounds ["_law_words_here"] (spLSounds K)
abbrev CLag (P : Program) (w : World) (K : PySem.W.Frag) (mg : Str → Option Value) (base : Heap) : Prop := Cal P w K mg base 2 "_law_against" st_l_against ["_law_words_here", "_law_sound", "_law_other", "_law_wide"] (spLAg K)
theorem zmb_makeA {v1 v2 : V} {d1 d2 : PyData} {H : Hp} {Q : Addr → Hp → Prop} {E : XK} (h1 : FxN K H 2 v1 d1) (h2 : FxN K H 2 v2 d2) (k : ∀ H' x, Same H H' → H x = none → ZmB Z H' x d1 d2 → Q x H') : ∀ x dx, H x = none → H dx = none → dx ≠ x →
    spZmJ K Z (.ref x :: ([v1, v2] ++ [])) (upd (upd H dx (.own x)) x (.ins Z dx [])) (fun v H2 => v = .non ∧ Q x H2) E := by
  intro x dx nx nd ne
  have s1 : Same H (upd (upd H dx (.own x)) x (.ins Z dx [])) := fun c o e => by
    rw [upd_ne (ne_of_none e nx), upd_ne (ne_of_none e nd)]
    exact e
  refine ⟨x, dx, v1, v2, d1, d2, rfl, upd_same, fx_same s1 h1, fx_same s1 h2, fun H' hz kp => ⟨rfl, k H' x (fun c o e => kp c o (ne_of_none e nx) (s1 _ _ e)) nx hz⟩⟩
theorem sg_at {ss : List Nat} {i : Nat} {x : V} (h : (sgL ss)[i]? = some x) : ∃ c, ss[i]? = some c ∧ x = .str (Tx [c]) := by
  unfold sgL at h
  rw [List.getElem?_map] at h
  cases z : ss[i]? with
  | none => rw [z] at h; cases h
  | some c =>
    rw [z] at h
    exact ⟨c, rfl, (Option.some.inj h).symm⟩
end
end W5
namespace W5
open PySem PySem.Spec PyProof.Rows L2 K0 K6
open K4 hiding Blt
/-! ### the law's mathematics: what is parted -/
theorem leastF_some {L : List Occ} {c d : Nat} : (leastF L c d).isSome = true ↔ ∃ x ∈ L, ∃ y ∈ L, x.1 = c ∧ y.1 = d ∧ x.2.1 = y.2.1 := by
  constructor
  · intro h
    unfold leastF at h
    by_cases e : ∃ r, LeastO L c d (some r)
    · obtain ⟨r, ⟨x, hx, y, hy, a1, a2, a3, _⟩, _⟩ := e
      exact ⟨x, hx, y, hy, a1, a2, a3⟩
    · rw [dif_neg e] at h
      cases h
  · rintro ⟨x, hx, y, hy, a1, a2, a3⟩
    -- all such pairs
    let ps : List Pl2 := L.flatMap fun x => (L.filter fun y => decide (x.1 = c ∧ y.1 = d ∧ x.2.1 = y.2.1)).map fun y => (x.2.2, y.2.2)
    have mem : ∀ r, r ∈ ps ↔ ∃ x ∈ L, ∃ y ∈ L, x.1 = c ∧ y.1 = d ∧ x.2.1 = y.2.1 ∧ r = (x.2.2, y.2.2) := fun r => by
      constructor
      · intro h
        obtain ⟨x, hx, h⟩ := List.mem_flatMap.mp h
        obtain ⟨y, hy, rfl⟩ := List.mem_map.mp h
        obtain ⟨hy, e⟩ := List.mem_filter.mp hy
        obtain ⟨e1, e2, e3⟩ := of_decide_eq_true e
        exact ⟨x, hx, y, hy, e1, e2, e3, rfl⟩
      · rintro ⟨x, hx, y, hy, e1, e2, e3, rfl⟩
        exact List.mem_flatMap.mpr ⟨x, hx, List.mem_map.mpr ⟨y, List.mem_filter.mpr ⟨hy, decide_eq_true ⟨e1, e2, e3⟩⟩, rfl⟩⟩
    have hin : (x.2.2, y.2.2) ∈ ps := (mem _).mpr ⟨x, hx, y, hy, a1, a2, a3, rfl⟩
    generalize hps : ps = qs at mem hin
    cases qs with
    | nil => cases hin
    | cons r rs =>
      obtain ⟨r0, h0, _, hle⟩ := min_pp r rs
      have : LeastO L c d (some r0) := ⟨(mem r0).mp h0, fun x hx y hy e1 e2 e3 => hle _ ((mem _).mpr ⟨x, hx, y, hy, e1, e2, e3, rfl⟩)⟩
      rw [leastF_of this]
      rfl
/-! ### in order -/
theorem pr2_asc : ∀ {l : List Nat}, l.Pairwise (· < ·) → (pr2 l).Pairwise ltPl ∧ ∀ p, p ∈ pr2 l ↔ p.1 ∈ l ∧ p.2 ∈ l ∧ p.1 < p.2
  | [], _ => ⟨.nil, fun p => ⟨fun h => absurd h List.not_mem_nil, fun h => absurd h.1 List.not_mem_nil⟩⟩
  | c :: r, h => by
    obtain ⟨h1, h2⟩ := List.pairwise_cons.mp h
    obtain ⟨i1, i2⟩ := pr2_asc h2
    refine ⟨List.pairwise_append.mpr ⟨?_, i1, fun x hx y hy => ?_⟩, fun p => ?_⟩
    · exact List.pairwise_map.mpr (h2.imp fun z => .inr ⟨rfl, z⟩)
    · obtain ⟨d, _, rfl⟩ := List.mem_map.mp hx
      exact .inl (h1 _ ((i2 y).mp hy).1)
    · show p ∈ r.map (fun d => (c, d)) ++ pr2 r ↔ _
      rw [List.mem_append, i2, List.mem_map]
      constructor
      · rintro (⟨d, hd, rfl⟩ | ⟨a, b, e⟩)
        · exact ⟨List.mem_cons_self, List.mem_cons_of_mem _ hd, h1 d hd⟩
        · exact ⟨List.mem_cons_of_mem _ a, List.mem_cons_of_mem _ b, e⟩
      · rintro ⟨a, b, e⟩
        rcases List.mem_cons.mp a with a | a
        · rcases List.mem_cons.mp b with b | b
          · omega
          · exact .inl ⟨p.2, b, by rw [← a]⟩
        · rcases List.mem_cons.mp b with b | b
          · have := h1 _ a
            omega
          · exact .inr ⟨a, b, e⟩
/-! ### sorted -/
end W5
namespace W5
open PySem PySem.Spec PyProof.Rows L2 K0 K6
open K4 hiding Blt
/-! ### what is heard -/
abbrev nm_l_heard : List Str := ["_law_ask", "_law_heard_here", "error"]
end W5
namespace W5
open PySem PySem.Spec PyProof.Rows L2 K0 K6
open K4 hiding Blt
section
variable {P : Program} {w : World} {K : PySem.W.Frag} {mg : Str → Option Value} {base : Heap}
variable {Z : Addr}
/-! ### what is told is equal to what is due -/
def RZ (Z : Addr) : Addr → Addr → Hp → Prop := fun x y H => ∃ d1 d2 e1 e2, ZmB Z H x d1 d2 ∧ ZmB Z H y e1 e2 ∧ SeqAt.shaped (.tuple [d1, d2]) = true ∧ SeqAt.shaped (.tuple [e1, e2]) = true ∧ PyData.eqv (.tuple [d1, d2]) (.tuple [e1, e2]) = true
theorem ok_Denial_eqE {f Pp : Addr} {fd : FuncData} (F : Fun K "__eq__" "Denial.__eq__" st_Denial____eq__ f fd) (T : Blt mg) (U : ZmE K mg Z Pp) (C_are_equal : CAeq P w K mg base Z) : FnOk P w K mg base CX0 2 f fd ["self", "other"] (spEq (RZ Z)) := by
  have C_are_equal := cal_to' C_are_equal hAeq_eq
  refine F.ok sc_Denial____eq__ (fun vs H Q E h => ?_) (fun cdv A outer s H vs Q E hr h => ?_)
  · obtain ⟨x, y, rfl, _⟩ := h
    rfl
  · refine ⟨_, (pss_one (ps_ret (pe_and (pe_callB call_isi (by rfl) T.n_isinstance (by decide +kernel) (pa_cons (pv 1) (pa_cons (pe_glob (v := .ref _) rfl (U.g_Denial) rfl) pa_nil))) (pe_one (pe_cl C_are_equal (hr.mono (by decide)) rfl (pa_cons (pv 0) (pa_cons (pv 1) pa_nil))))))), ?_⟩
    obtain ⟨x, y, rfl, ⟨d1, d2, e1, e2, hx, hy, s1, s2, e⟩, q⟩ := h
    refine ⟨_, rfl, _, _, .ref Z, _, _, rfl, .own Pp, zm_tyx U hy, U.kP, true, rfl, ?_⟩
    refine ⟨_, rfl, _, rfl, ?_⟩
    show hAeq K Z [.ref x, .ref y] H _ _
    rw [hAeq_eq]
    refine ⟨x, y, d1, d2, e1, e2, rfl, hx, hy, s1, s2, ?_⟩
    rw [e]
    exact q H Ext.rfl'
structure CEq (P : Program) (w : World) (K : PySem.W.Frag) (mg : Str → Option Value) (base : Heap) (Z : Addr) : Prop where
  ex : ∃ (f : Addr) (fd : FuncData), FnOk P w K mg base CX0 2 f fd ["self", "other"] (spEq (RZ Z)) ∧ PySem.W.findIn K (.ref Z) "__eq__" = some (some (.ref f)) ∧ PySem.W.isFn K (.ref f) = true ∧ Binds K fd ["self", "other"] []
def rowD (Z : Addr) : Eqv := fun x y H => DFlat x y H ∨ DIns Z (RZ Z) x y H
theorem mon_row : Mon (rowD Z) := mon_flat.or (mon_ins fun a b H H' e ⟨d1, d2, e1, e2, h1, h2, r⟩ => ⟨d1, d2, e1, e2, zmb_sm e h1, zmb_sm e h2, r⟩)
section
variable {X : Cx}
theorem eqG_row (C : CEq X.prog X.w X.K X.mg X.base Z) : EqG X 2 (rowD Z) := by
  obtain ⟨f, fd, F, hs, hf, hb⟩ := C.ex
  exact (eqG_flat.mono (by decide)).or (eqG_ins F hs hf hb pass0)
end
theorem sh_pl2 (a b : Nat × Nat) : SeqAt.shaped (.tuple [dPl a, dPl b]) = true := by
  refine shaped_of ?_ (show 2 ≤ 64 by decide)
  unfold dPl PyData.canLay0 PyData.canLayAll0 PyData.canLayAll0 PyData.canLay0 PyData.canLayAll0
  rfl
theorem eq_pl2 (a b : Nat × Nat) : PyData.eqv (.tuple [dPl a, dPl b]) (.tuple [dPl a, dPl b]) = true := by
  rw [eqv_two, show dPl a = dPr a from rfl, show dPl b = dPr b from rfl, eqv_dPr, eqv_dPr, decide_eq_true rfl, decide_eq_true rfl]
  rfl
end
end W5
namespace W5
open PySem PySem.Spec PyProof.Rows L2 K0 K6
open K4 hiding Blt
section
variable {P : Program} {w : World} {K : PySem.W.Frag} {mg : Str → Option Value} {base : Heap}
variable {cs : Nat → Addr} {Z : Addr}
/-! ### what is refused -/
/-- all but what stands at p and the tables is as it was -/
def KN (p : Addr) (H H' : Hp) : Prop := ∀ b o, b ≠ p → H b = some o → (∀ ps, o ≠ .tbl ps) → H' b = some o
theorem KN.kb {p : Addr} {H H' : Hp} (k : KB p H H') : KN p H H' := fun b o n e _ => k.kb b o n e
theorem KN.sm {p : Addr} {H H' : Hp} (k : Same H H') : KN p H H' := fun b o _ e _ => k b o e
theorem KN.trans {p : Addr} {H H1 H2 : Hp} (a : KN p H H1) (b : KN p H1 H2) : KN p H H2 := fun c o n e t => b c o n (a c o n e t) t
/-- no list of words -/
def OdW (p : Addr) (H : Hp) (v : V) : Prop := v = .non ∨ v = .int 5 ∨ v = .str "ka" ∨ ∃ e, v = .ref e ∧ e ≠ p ∧ (H e = some (.lst []) ∨ H e = some (.tup []) ∨ H e = some (.lst [.str "ka", .str "k-"]) ∨ H e = some (.lst [.non]) ∨ H e = some (.dT []))
/-- no word -/
def OdB (p : Addr) (H : Hp) (v : V) : Prop := v = .non ∨ v = .int 5 ∨ v = .str "K" ∨ v = .str (Tx (List.replicate 13 97)) ∨ v = .str "k-" ∨ ∃ e, v = .ref e ∧ e ≠ p ∧ H e = some (.lst [.str "ka"])
/-- no width -/
def OdF (p : Addr) (H : Hp) (v : V) : Prop := v = .int 0 ∨ v = .int 3 ∨ v = .non ∨ v = .bl true ∨ v = .str "1" ∨ ∃ e, v = .ref e ∧ e ≠ p ∧ H e = some (.lst [.int 1])
theorem OdW.kn {p : Addr} {H H' : Hp} {v : V} (k : KN p H H') (h : OdW p H v) : OdW p H' v := by
  rcases h with h | h | h | ⟨e, h, n, z⟩
  · exact .inl h
  · exact .inr (.inl h)
  · exact .inr (.inr (.inl h))
  · refine .inr (.inr (.inr ⟨e, h, n, ?_⟩))
    rcases z with z | z | z | z | z
    · exact .inl (k _ _ n z (fun _ z => nomatch z))
    · exact .inr (.inl (k _ _ n z (fun _ z => nomatch z)))
    · exact .inr (.inr (.inl (k _ _ n z (fun _ z => nomatch z))))
    · exact .inr (.inr (.inr (.inl (k _ _ n z (fun _ z => nomatch z)))))
    · exact .inr (.inr (.inr (.inr (k _ _ n z (fun _ z => nomatch z)))))
theorem OdB.kn {p : Addr} {H H' : Hp} {v : V} (k : KN p H H') (h : OdB p H v) : OdB p H' v := by
  rcases h with h | h | h | h | h | ⟨e, h, n, z⟩
  · exact .inl h
  · exact .inr (.inl h)
  · exact .inr (.inr (.inl h))
  · exact .inr (.inr (.inr (.inl h)))
  · exact .inr (.inr (.inr (.inr (.inl h))))
  · exact .inr (.inr (.inr (.inr (.inr ⟨e, h, n, k _ _ n z (fun _ z => nomatch z)⟩))))
theorem OdF.kn {p : Addr} {H H' : Hp} {v : V} (k : KN p H H') (h : OdF p H v) : OdF p H' v := by
  rcases h with h | h | h | h | h | ⟨e, h, n, z⟩
  · exact .inl h
  · exact .inr (.inl h)
  · exact .inr (.inr (.inl h))
  · exact .inr (.inr (.inr (.inl h)))
  · exact .inr (.inr (.inr (.inr (.inl h))))
  · exact .inr (.inr (.inr (.inr (.inr ⟨e, h, n, k _ _ n z (fun _ z => nomatch z)⟩))))
theorem own_l {H : Hp} {Q : VK} {E : XW} {a : Addr} {xs : List V} {bs : List Bool} (h : SqLT K H a xs) (hl : xs.length ≤ 1000) (hw : Wvs K H xs bs) (q1 : (xs ≠ [] ∧ bs.all id = true) → ∀ H', Same H H' → Q .non H') (q2 : ¬ (xs ≠ [] ∧ bs.all id = true) → XPart cs 0 "words" H E) : spNeedOwn K cs [.ref a] H Q E := by
  obtain ⟨n, kd, hn⟩ := kd_l h
  exact ⟨_, n, rfl, kd, .inr ⟨hn, a, xs, bs, rfl, h, hl, hw, q1, q2⟩⟩
theorem wvs_nil {H : Hp} : Wvs K H [] [] := ⟨rfl, fun i x e => by cases e⟩
theorem wvs_cons {H : Hp} {x : V} {b : Bool} {xs : List V} {bs : List Bool} (h : Wv K H x b) (hs : Wvs K H xs bs) : Wvs K H (x :: xs) (b :: bs) := ⟨by rw [List.length_cons, List.length_cons, hs.1], fun i y e => by
  cases i with
  | zero =>
    obtain rfl := Option.some.inj e
    exact h
  | succ i => exact hs.2 i y e⟩
theorem wv_tx {H : Hp} {l : List Nat} (h : l.length ≤ 10000) : Wv K H (.str (Tx l)) (wdOk l) := .inl ⟨l, rfl, h, rfl⟩
theorem wv_non {H : Hp} : Wv K H .non false := .inr ⟨"NoneType", ⟨.base .non, by decide⟩, rfl, rfl⟩
theorem wvs_tws {H : Hp} : ∀ {ws : List (List Nat)}, (∀ l ∈ ws, wdOk l = true) → Wvs K H (tws ws) (ws.map fun _ => true)
  | [], _ => wvs_nil
  | l :: r, h => wvs_cons (by
    have e := h l List.mem_cons_self
    have := wv_tx (K := K) (H := H) (l := l) (by have := (lw_lt e).2; omega)
    rw [e] at this
    exact this) (wvs_tws fun l hl => h l (List.mem_cons_of_mem _ hl))
theorem own_ok {H : Hp} {Q : VK} {E : XW} {a : Addr} {ws : List (List Nat)} (h : SqLT K H a (tws ws)) (h0 : ws ≠ []) (hl : ws.length ≤ 1000) (hw : ∀ l ∈ ws, wdOk l = true) (q : ∀ H', Same H H' → Q .non H') : spNeedOwn K cs [.ref a] H Q E := by
  refine own_l h (by rw [tws_len]; exact hl) (wvs_tws hw) (fun _ => q) (fun z => absurd ⟨?_, ?_⟩ z)
  · intro e
    have := congrArg List.length e
    rw [tws_len] at this
    exact h0 (List.eq_nil_of_length_eq_zero this)
  · rw [List.all_eq_true]
    intro b hb
    obtain ⟨_, _, rfl⟩ := List.mem_map.mp hb
    rfl
theorem wide_bad {p : Addr} {H : Hp} {Q : VK} {E : XW} {v : V} (h : OdF p H v) (x : XPart cs 1 "wide" H E) : spNeedWide K cs [v] H Q E := by
  rcases h with rfl | rfl | rfl | rfl | rfl | ⟨e, rfl, n, z⟩
  · exact ⟨_, rfl, .inr ⟨0, rfl, (fun e => nomatch e), fun _ => x⟩⟩
  · exact ⟨_, rfl, .inr ⟨3, rfl, (fun e => nomatch e), fun _ => x⟩⟩
  · exact ⟨_, rfl, .inl ⟨"NoneType", ⟨.base .non, by decide⟩, rfl, x⟩⟩
  · exact ⟨_, rfl, .inl ⟨"bool", ⟨.base (.bl _), by decide⟩, rfl, x⟩⟩
  · exact ⟨_, rfl, .inl ⟨"str", kd_str, rfl, x⟩⟩
  · exact ⟨_, rfl, .inl ⟨"list", ⟨.base (.lst z), by decide⟩, rfl, x⟩⟩
theorem wide_ok {H : Hp} {Q : VK} {E : XW} {i : Nat} (h1 : 1 ≤ i) (h2 : i ≤ 2) (q : Q .non H) : spNeedWide K cs [.int (i : Nat)] H Q E := ⟨_, rfl, .inr ⟨_, rfl, fun _ => q, fun e => (by rw [decide_eq_true (by omega)] at e; cases e)⟩⟩
end
end W5
namespace W5
open PySem PySem.Spec PyProof.Rows L2 K0 K6
open K4 hiding Blt
section
variable {P : Program} {w : World} {K : PySem.W.Frag} {mg : Str → Option Value} {base : Heap}
variable {cs : Nat → Addr} {Z : Addr}
/-! ### what is refused, told whole -/
abbrev TLr (T1 : Addr) : List (Addr × Str) := [(T1, Str.ofString "_law_refused_right.<locals>.<lambda>")]
theorem tabs_kb {TL : List (Addr × Str)} {p : Addr} {T : Nat} {H H' : Hp} (hp : PenAt H p T) (k : KB p H H') (t : LamX.Tabs TL H) : LamX.Tabs TL H' := fun q hq => by
  obtain ⟨ps, h1, h2, h3⟩ := t q hq
  obtain ⟨xs, hx⟩ := hp.some
  refine ⟨ps, k.kb _ _ (fun z => by rw [z, hx] at h1; cases h1) h1, h2, fun pos cv hc => ?_⟩
  obtain ⟨c, e1, e2⟩ := h3 pos cv hc
  exact ⟨c, e1, k.kb _ _ (fun z => by rw [z, hx] at e2; cases e2) e2⟩
/-- told so far, in the list at L -/
structure HS (T1 L : Addr) (H0 : Hp) (ts : List (V × V)) (H : Hp) : Prop where
  k : ∀ b o, b ≠ L → H0 b = some o → (∀ ps, o ≠ .tbl ps) → H b = some o
  t : LamX.Tabs (TLr T1) H
  at_ : ∃ xs, H L = some (.lst xs) ∧ Prs H xs ts
theorem HS.kn {T1 L p : Addr} {H0 H : Hp} {ts : List (V × V)} (hL : H0 L = none ∨ ∃ ps, H0 L = some (.tbl ps)) (h : HS T1 L H0 ts H) : KN p H0 H := fun b o _ e t => h.k b o (fun z => by
  rw [z] at e
  rcases hL with hL | ⟨ps, hL⟩
  · rw [hL] at e
    cases e
  · rw [hL] at e
    cases e
    exact t _ rfl) e t
theorem HS.tb {T1 L : Addr} {H : Hp} {b : Addr} {o : HO} (ht : LamX.Tabs (TLr T1) H) {zs : List V} (hL : H L = some (.lst zs)) : LamX.Tabs (TLr T1) (upd H L o) := fun q hq => by
  obtain ⟨ps, h1, h2, h3⟩ := ht q hq
  refine ⟨ps, (upd_ne fun z => by rw [z, hL] at h1; cases h1).trans h1, h2, fun pos cv hc => ?_⟩
  obtain ⟨c, e1, e2⟩ := h3 pos cv hc
  exact ⟨c, e1, (upd_ne fun z => by rw [z, hL] at e2; cases e2).trans e2⟩
theorem HS.more {T1 L : Addr} {H0 G H9 H10 : Hp} {ts : List (V × V)} {b : Addr} {x y : V} {xs : List V} (h : HS T1 L H0 ts G) (eX : G L = some (.lst xs)) (x9 : LamX.ExtN G H9) (t9 : LamX.Tabs (TLr T1) H9) (s10 : Same H9 H10) (nb : H10 b = none) :
    upd H10 b (.tup [x, y]) L = some (.lst xs) ∧ HS T1 L H0 (ts ++ [(x, y)]) (upd (upd H10 b (.tup [x, y])) L (.lst (xs ++ [.ref b]))) := by
  have sb := Sm.new (o := .tup [x, y]) nb
  have eL : upd H10 b (.tup [x, y]) L = some (.lst xs) := sb _ _ (s10 _ _ (x9 _ _ eX fun _ z => nomatch z))
  refine ⟨eL, fun c o n e t => (upd_ne n).trans (sb _ _ (s10 _ _ (x9 _ _ (h.k c o n e t) t))), HS.tb (b := b) ((t9.ext s10).ext sb) eL, xs ++ [.ref b], upd_same, ?_⟩
  obtain ⟨zs, ez, hz⟩ := h.at_
  rw [eX] at ez
  have ez := HO.lst.inj (Option.some.inj ez)
  subst ez
  have h1 : Prs (upd H10 b (.tup [x, y])) xs ts := ⟨hz.1, fun i t p e1 e2 => by
    obtain ⟨a, e, ha⟩ := hz.2 i t p e1 e2
    exact ⟨a, e, sb _ _ (s10 _ _ (x9 _ _ ha fun _ z => nomatch z))⟩⟩
  exact prs_upd eL (prs_snoc h1 upd_same)
abbrev nm_l_refused_right : List Str := ["_law_pen_here", "_law_heard_here", "_law_odd", "_law_far", "_law_bad", "_law_many"]
end
end W5
namespace W5
open PySem PySem.Spec PyProof.Rows L2 K0 K6
open K4 hiding Blt
section
variable {P : Program} {w : World} {K : PySem.W.Frag} {mg : Str → Option Value} {base : Heap}
variable {cs : Nat → Addr} {Z : Addr}
/-! ### the law -/
theorem RsAt.app {H : Hp} {xs ys : List V} {rs qs : List (Nat × Nat × Pl2)} (h : RsAt Z H xs rs) (h2 : RsAt Z H ys qs) : RsAt Z H (xs ++ ys) (rs ++ qs) := ⟨by rw [List.length_append, List.length_append, h.1, h2.1], fun i x q e1 e2 => by
  rcases Nat.lt_or_ge i xs.length with z | z
  · rw [List.getElem?_append_left z] at e1
    rw [List.getElem?_append_left (by rw [← h.1]; exact z)] at e2
    exact h.2 i x q e1 e2
  · rw [List.getElem?_append_right z] at e1
    rw [List.getElem?_append_right (by rw [← h.1]; exact z), ← h.1] at e2
    exact h2.2 _ x q e1 e2⟩
abbrev nm_law : List Str := ["_law_script", "_law_pen_here", "_law_near_here", "_law_at", "_law_copy", "_law_word", "_law_more", "_law_both", "_law_words_here", "_law_wide", "_law_told", "_law_first", "_law_second", "_law_row", "_law_one", "_law_other", "_law_paper"]
end
end W5
namespace W5.V
open PySem PySem.Spec PyProof.Rows L2 K0 K6
open K4 hiding Blt
section
variable {P : Program} {w : World} {K : PySem.W.Frag} {mg : Str → Option Value} {base : Heap}
abbrev st_l_pen : Stmt := top 41
abbrev nm_l_pen : List Str := ["_law_script", "_law_cell"]
theorem sc_l_pen : FnScope nm_l_pen ["_law_script"] (defScope st_l_pen) := ⟨rfl, rfl, rfl, by decide +kernel, rfl, by decide +kernel, by decide +kernel⟩
theorem ok_pen {f : Addr} {fd : FuncData} (F : Fun K "_law_pen" "_law_pen" st_l_pen f fd) (T : Blt mg) : FnOk P w K mg base CX0 1 f fd ["_law_script"] (spPen K) := by
  refine F.ok sc_l_pen (fun vs H Q E h => ?_) (fun cdv A outer s H vs Q E hr h => ?_)
  · obtain ⟨a, ns, rfl, _⟩ := h
    rfl
  · refine ⟨_, (pss_one (ps_ret (pe_lst (pa_cons (pe_lc (own := [("_law_cell", 1)]) (g := (gName 1)) (tt := tYes) rfl sc_l_pen.nd (pi_list (pe_slice sl_list (pv 0) po_none (po_some pe_int))) (blkOk_by (N := nm_l_pen) (sc := defScope st_l_pen) (own := [("_law_cell", 1)]) (by decide +kernel)) (fun _ _ _ _ _ => by exact pg_name (i := 1) sc_l_pen.nd rfl (Or.inl rfl)) (fun _ _ _ _ _ => pts_nil) (fun _ _ _ _ _ => (pe_callTy call_int1 (by rfl) T.n_int (by decide +kernel) (pa_cons (pv 1) pa_nil)))) (pa_cons pe_int (pa_cons pe_int pa_nil)))))), ?_⟩
    obtain ⟨a, ns, rfl, hS, hl, q⟩ := h
    have e0 : cutV (ns.map V.int) none (some 62) = (ns.take 62).map V.int := by
      unfold cutV
      rw [HT.sIx_none, show ((62 : Int)) = ((62 : Nat) : Int) from rfl, HT.sIx_nat, List.length_map, List.drop_zero, Nat.sub_zero, List.map_take]
      by_cases c : 62 ≤ ns.length
      · rw [Nat.min_eq_left c]
      · rw [Nat.min_eq_right (by omega), List.take_of_length_le (by simp), List.take_of_length_le (by rw [List.length_map]; omega)]
    refine ⟨_, rfl, _, rfl, a, _, rfl, hS, fun c hc => ?_⟩
    rw [e0]
    refine ⟨c, rfl, ⟨_, SqL.of upd_same⟩, fun D hD => ?_⟩
    have ncD : c ≠ D := fun z => by
      rw [z, upd_same] at hD
      cases hD
    refine lc_it (n := ((ns.take 62).map V.int).length) walk_list (SPv (upd H c (.lst ((ns.take 62).map V.int))) D fun i => ((ns.take 62).map V.int).take i) (spv0 hD rfl) (fun i H2 _ p => SqL.of (p.1 _ _ upd_same)) ?_ ?_
    · rintro i x H2 H3 hi ⟨p1, p2⟩ ⟨rfl, hx⟩
      refine ⟨rfl, ?_⟩
      obtain ⟨z, rfl⟩ : ∃ z, x = V.int z := by
        rw [List.getElem?_map] at hx
        cases e : (ns.take 62)[i]? with
        | none =>
          rw [e] at hx
          cases hx
        | some z =>
          rw [e] at hx
          exact ⟨z, (Option.some.inj hx).symm⟩
      refine ⟨_, rfl, .inl ⟨z, rfl, ?_⟩⟩
      refine spv_put hD p1 p2 ?_ ?_
      · rw [List.length_take, List.length_map, List.length_take]
        omega
      · rw [List.take_succ, hx]
        rfl
    · rintro H2 ⟨p1, p2⟩
      dsimp only at p2
      rw [List.take_length] at p2
      refine ⟨by show 3 ≤ sizeLine; decide, fun p hp => ?_⟩
      have npD : D ≠ p := ne_of_none p2 hp
      refine q _ p (fun b o e => ?_) ⟨D, ns.take 62, 0, 0, upd_same, (upd_ne npD).trans p2, npD, ?_, by omega, by omega, by omega⟩
      · rw [upd_ne]
        · exact p1 b o (by rw [upd_ne (ne_of_none e hc)]; exact e)
        · exact ne_of_none (p1 b o (by rw [upd_ne (ne_of_none e hc)]; exact e)) hp
      · rw [List.length_take]
        omega
abbrev nm_l_draw : List Str := ["_law_pen_here", "_law_many", "_law_at", "_law_cell", "_law_mixed", "_law_rest"]
abbrev st_l_pick : Stmt := top 43
abbrev nm_l_pick : List Str := ["_law_pen_here", "_law_some"]
theorem sc_l_pick : FnScope nm_l_pick ["_law_pen_here", "_law_some"] (defScope st_l_pick) := ⟨rfl, rfl, rfl, by decide +kernel, rfl, by decide +kernel, by decide +kernel⟩
abbrev CPick (P : Program) (w : World) (K : PySem.W.Frag) (mg : Str → Option Value) (base : Heap) : Prop := Cal P w K mg base 2 "_law_pick" st_l_pick ["_law_pen_here", "_law_some"] (spPick K)
abbrev st_l_words : Stmt := top 44
abbrev nm_l_words : List Str := ["_law_pen_here", "_law_most", "_law_turn", "_law_sounds_here", "_law_found", "_law_word", "_law_at"]
theorem sc_l_words : FnScope nm_l_words ["_law_pen_here", "_law_most"] (defScope st_l_words) := ⟨rfl, rfl, rfl, by decide +kernel, rfl, by decide +kernel, by decide +kernel⟩
end
end W5.V
namespace W5.V
open PySem PySem.Spec PyProof.Rows L2 K0 K6
open K4 hiding Blt
section
variable {P : Program} {w : World} {K : PySem.W.Frag} {mg : Str → Option Value} {base : Heap}
variable {cs : Nat → Addr} {Z : Addr}
/-! ### sounds -/
def sdOk (l : List Nat) : Bool := lw l && decide (l.length = 1)
end
end W5.V
/-! sorted(a dict whose keys are pairs of texts) -/
namespace W5.V
open PySem PySem.Spec PyProof.Rows L2 K0 K6
open K4 hiding Blt
section
variable {P : Program} {w : World} {K : PySem.W.Frag} {mg : Str → Option Value} {base : Heap}
variable {C Z : Addr}
/-! ### OneRule -/
/-- a rule of these languages and these pairs, its parts known -/
def OrB (Z : Addr) (H : Hp) (x : Addr) (d1 d2 : PyData) : Prop := ∃ dx u1 u2 p, H x = some (.ins Z dx [("kind", .str "onerule"), ("parts", p), ("one", u1), ("other", u2)]) ∧ FTN H 2 u1 d1 ∧ FTN H 2 u2 d2 ∧ FTN H 3 p (.tuple [d1, d2])
theorem orb_sm {H H' : Hp} {x : Addr} {d1 d2 : PyData} (s : Same H H') (h : OrB Z H x d1 d2) : OrB Z H' x d1 d2 := by
  obtain ⟨dx, u1, u2, p, e, f1, f2, f3⟩ := h
  exact ⟨dx, u1, u2, p, s _ _ e, ft_same s f1, ft_same s f2, ft_same s f3⟩
end
end W5.V
namespace W5.V
open PySem PySem.Spec PyProof.Rows L2 K0 K6
open K4 hiding Blt
section
variable {P : Program} {w : World} {K : PySem.W.Frag} {mg : Str → Option Value} {base : Heap}
variable {cs : Nat → Addr} {Z Y : Addr}
/-! ### told_rule -/
abbrev nbT (n : NB) : K5.TT := (Tx n.1, Tx n.2)
/-- the surroundings of a sound, ascending, each once -/
structure NrL (L : List Occ) (c : Nat) (l : List K5.TT) : Prop where
  ord : l.Pairwise fun a b => K5.leT a b = true
  nd : l.Nodup
  mem : ∀ t, t ∈ l ↔ ∃ n, (firstAt L c n).isSome = true ∧ t = nbT n
theorem nbT_inj {n m : NB} (h : nbT n = nbT m) : n = m := by
  obtain ⟨a, b⟩ := n
  obtain ⟨c, d⟩ := m
  have h1 : Tx a = Tx c := (Prod.mk.inj h).1
  have h2 : Tx b = Tx d := (Prod.mk.inj h).2
  rw [tx_inj h1, tx_inj h2]
theorem leT_tot : PySem.W.TotalLe K5.leT := PySem.W.sortLe_total (listOrd itemOrd) false (fun b : K5.TT => PySem.W.keyToks (K5.encT b))
/-- the rule of two sounds, or the least pair -/
def TolR (Z Y : Addr) (H' : Hp) (v : V) (L : List Occ) (c d : Nat) : Prop := (∃ r z, LeastO L c d (some r) ∧ v = .ref z ∧ ZmB Z H' z (dPl r.1) (dPl r.2)) ∨
  (LeastO L c d none ∧ ∃ z l1 l2, v = .ref z ∧ NrL L c l1 ∧ NrL L d l2 ∧ OrB Y H' z (.tuple (l1.map K5.encT)) (.tuple (l2.map K5.encT)))
end
end W5.V
namespace W5.V
open PySem PySem.Spec PyProof.Rows L2 K0 K6
open K4 hiding Blt
section
variable {P : Program} {w : World} {K : PySem.W.Frag} {mg : Str → Option Value} {base : Heap}
variable {cs : Nat → Addr} {Z Y : Addr}
/-! ### is_against -/
instance {ws : List (List Nat)} {c i : Nat} {q : Nat × Nat} : Decidable (AtL ws c i q) := by
  unfold AtL
  infer_instance
end
end W5.V
namespace W5.V
open PySem PySem.Spec PyProof.Rows L2 K0 K6
open K4 hiding Blt
/-! ### surroundings in order: one list alone -/
theorem leT_anti {a b : K5.TT} (h1 : K5.leT a b = true) (h2 : K5.leT b a = true) : a = b := by
  have h1 : (!PyProof.Rows.lexLt itemOrd (PySem.W.keyToks (K5.encT b)) (PySem.W.keyToks (K5.encT a))) = true := h1
  have h2 : (!PyProof.Rows.lexLt itemOrd (PySem.W.keyToks (K5.encT a)) (PySem.W.keyToks (K5.encT b))) = true := h2
  rw [Bool.not_eq_true'] at h1 h2
  have e := lex_total (O := itemOrd) _ _ h2 h1
  obtain ⟨x, y⟩ := a
  obtain ⟨z, w⟩ := b
  have e : [Sum.inl 1, Sum.inr x.cps.toList, Sum.inl 1, Sum.inr y.cps.toList, Sum.inl 0] = ([Sum.inl 1, Sum.inr z.cps.toList, Sum.inl 1, Sum.inr w.cps.toList, Sum.inl 0] : List (Int ⊕ List Nat)) := e
  simp only [List.cons.injEq, Sum.inr.injEq, true_and, and_true] at e
  rw [← tx_of x, ← tx_of y, e.1, e.2, tx_of, tx_of]
theorem NrL.uniq {L : List Occ} {c : Nat} {l m : List K5.TT} (h : NrL L c l) (h' : NrL L c m) : l = m :=
  List.Perm.eq_of_pairwise (le := fun a b => K5.leT a b = true) (fun a b _ _ => leT_anti) h.ord h'.ord ((List.perm_ext_iff_of_nodup h.nd h'.nd).mpr fun t => (h.mem t).trans (h'.mem t).symm)
theorem near_lay {wide : Nat} {l : List Nat} {p : Nat} (h : sOk l) : PyData.canLay0 (.str (Tx (nearL wide l p).1)) = true ∧ PyData.canLay0 (.str (Tx (nearL wide l p).2)) = true := by
  have hl : ∀ c ∈ lineOf wide l, c < 1114112 := fun c hc => by
    unfold lineOf at hc
    rcases List.mem_append.mp hc with hc | hc
    · rcases List.mem_append.mp hc with hc | hc
      · rw [(List.mem_replicate.mp hc).2]
        decide
      · have := h.1 c hc
        omega
    · rw [(List.mem_replicate.mp hc).2]
      decide
  exact ⟨str_low fun c hc => hl c (List.mem_of_mem_drop (List.mem_of_mem_take hc)), str_low fun c hc => hl c (List.mem_of_mem_drop (List.mem_of_mem_take hc))⟩
end W5.V
namespace W5.V
open PySem PySem.Spec PyProof.Rows L2 K0 K6
open K4 hiding Blt
section
variable {P : Program} {w : World} {K : PySem.W.Frag} {mg : Str → Option Value} {base : Heap}
variable {cs : Nat → Addr} {Z Y : Addr}
/-! ### shows_rule, told of right papers -/
theorem LeastO.uniq {L : List Occ} {c d : Nat} {r r' : Option Pl2} (h : LeastO L c d r) (h' : LeastO L c d r') : r = r' := (leastF_of h).symm.trans (leastF_of h')
/-- a right paper of two sounds: the rule, or any two places -/
def RuleOk (Z Y : Addr) (H : Hp) (z : Addr) (wide : Nat) (ws : List (List Nat)) (c d : Nat) : Prop :=
  (∃ l1 l2, LeastO (occA wide ws) c d none ∧ NrL (occA wide ws) c l1 ∧ NrL (occA wide ws) d l2 ∧ OrB Y H z (.tuple (l1.map K5.encT)) (.tuple (l2.map K5.encT))) ∨
  (∃ q1 q2, AtL ws c ws.length q1 ∧ AtL ws d ws.length q2 ∧ nearT wide ws q1 = nearT wide ws q2 ∧ ZmB Z H z (dPl q1) (dPl q2))
theorem RuleOk.sm {H H' : Hp} {z : Addr} {wide : Nat} {ws : List (List Nat)} {c d : Nat} (s : Same H H') (h : RuleOk Z Y H z wide ws c d) : RuleOk Z Y H' z wide ws c d := by
  rcases h with ⟨l1, l2, a, b, e, h⟩ | ⟨q1, q2, a, b, e, h⟩
  · exact .inl ⟨l1, l2, a, b, e, orb_sm s h⟩
  · exact .inr ⟨q1, q2, a, b, e, zmb_sm s h⟩
theorem at_of {wide : Nat} {ws : List (List Nat)} {x : Occ} (h : x ∈ occA wide ws) : AtL ws x.1 ws.length x.2.2 ∧ nearT wide ws x.2.2 = x.2.1 := by
  obtain ⟨k, hk, p, hp, rfl⟩ := occs_mem.mp h
  exact ⟨⟨hk, hp, rfl⟩, rfl⟩
end
end W5.V
namespace W5.V
open PySem PySem.Spec PyProof.Rows L2 K0 K6
open K4 hiding Blt
section
variable {P : Program} {w : World} {K : PySem.W.Frag} {mg : Str → Option Value} {base : Heap}
variable {cs : Nat → Addr} {Z Y : Addr}
/-! ### the truth of rules and pairs, their != -/
def rBoolP (Z Y : Addr) : V → Hp → (Bool → Hp → Prop) → Prop := fun x H Q => ∃ a, x = .ref a ∧ ((∃ dx fs, H a = some (.ins Z dx fs) ∧ Q false H) ∨ ∃ dx fs, H a = some (.ins Y dx fs) ∧ Q true H)
/-! ### by_one_rule and shows_rule are called -/
/- by_one_rule, as the law calls it -/
end
end W5.V
namespace W5.V
open PySem PySem.Spec PyProof.Rows L2 K0 K6
open K4 hiding Blt
section
variable {P : Program} {w : World} {K : PySem.W.Frag} {mg : Str → Option Value} {base : Heap}
/-! ### the law's surroundings of a sound -/
/-- surroundings, told as pairs -/
def NsAt (H : Hp) (xs : List V) (ns : List NB) : Prop := xs.length = ns.length ∧ ∀ (i : Nat) x n, xs[i]? = some x → ns[i]? = some n → ∃ T, x = .ref T ∧ H T = some (.tup (nearV n))
theorem NsAt.sm {H H' : Hp} {xs : List V} {ns : List NB} (h : NsAt H xs ns) (s : Same H H') : NsAt H' xs ns := ⟨h.1, fun i x q e1 e2 => by
  obtain ⟨T, e, a⟩ := h.2 i x q e1 e2
  exact ⟨T, e, s _ _ a⟩⟩
theorem NsAt.put {H : Hp} {D : Addr} {xs us ys : List V} {ns : List NB} (hD : H D = some (.lst us)) (h : NsAt H xs ns) : NsAt (upd H D (.lst ys)) xs ns := ⟨h.1, fun i x q e1 e2 => by
  obtain ⟨T, e, a⟩ := h.2 i x q e1 e2
  exact ⟨T, e, (upd_ne fun z => by rw [z, hD] at a; cases a).trans a⟩⟩
theorem NsAt.nil {H : Hp} : NsAt H [] [] := ⟨rfl, fun i x q e => by cases e⟩
theorem NsAt.snoc {H : Hp} {xs : List V} {ns : List NB} {T : Addr} {n : NB} (h : NsAt H xs ns) (a : H T = some (.tup (nearV n))) : NsAt H (xs ++ [.ref T]) (ns ++ [n]) := ⟨by rw [List.length_append, List.length_append, h.1]; rfl, fun i x q e1 e2 => by
  rcases Nat.lt_or_ge i xs.length with z | z
  · rw [List.getElem?_append_left z] at e1
    rw [List.getElem?_append_left (by rw [← h.1]; exact z)] at e2
    exact h.2 i x q e1 e2
  · rw [List.getElem?_append_right z] at e1
    rw [List.getElem?_append_right (by rw [← h.1]; exact z), ← h.1] at e2
    have hi : i - xs.length = 0 := by
      have := (List.getElem?_eq_some_iff.mp e1).1
      have : i - xs.length < 1 := this
      omega
    rw [hi] at e1 e2
    obtain rfl := Option.some.inj e1
    obtain rfl := Option.some.inj e2
    exact ⟨T, rfl, a⟩⟩
theorem NsAt.dp {H : Hp} {xs : List V} {ns : List NB} (h : NsAt H xs ns) : DpAll K H xs ((ns.map nbT).map K5.encT) := dpa_ix (by rw [List.length_map, List.length_map]; exact h.1) fun i x e e1 e2 => by
  rw [List.getElem?_map, List.getElem?_map] at e2
  cases z : ns[i]? with
  | none => rw [z] at e2; cases e2
  | some n =>
    rw [z] at e2
    obtain rfl := Option.some.inj e2
    obtain ⟨T, rfl, a⟩ := h.2 i x n e1 z
    exact .tup (SqT.of a) (.cons (.str _) (.cons (.str _) .nil))
theorem nbs_sh {l : List K5.TT} (h : ∀ t ∈ l, PyData.canLay0 (K5.encT t) = true) : SeqAt.shaped (.list (l.map K5.encT)) = true := by
  refine shaped_of ?_ ?_
  · unfold PyData.canLay0
    exact K6.lay_all (d := K5.encT) h
  · unfold PyData.depth
    have := depth_all (b := 8) (d := K5.encT) (xs := l) fun p _ => by
      show PyData.depth (.tuple [.str p.1, .str p.2]) ≤ 8
      exact (by decide : 1 ≤ 8)
    omega
theorem any_nb (ns : List NB) (n : NB) : (((ns.map nbT).map K5.encT).any fun z => PyData.eqv z (dNB n)) = decide (n ∈ ns) := by
  induction ns with
  | nil => rfl
  | cons m r ih =>
    rw [List.map_cons, List.map_cons, List.any_cons, ih, show K5.encT (nbT m) = dNB m from rfl, eqv_nb]
    by_cases h : m = n
    · rw [decide_eq_true h, decide_eq_true (List.mem_cons.mpr (.inl h.symm))]
      rfl
    · rw [decide_eq_false h, Bool.false_or]
      exact decide_eq_decide.mpr ⟨fun z => List.mem_cons_of_mem _ z, fun z => (List.mem_cons.mp z).resolve_left fun e => h e.symm⟩
abbrev st_l_nears : Stmt := top 47
abbrev nm_l_nears : List Str := ["_law_words_here", "_law_sound", "_law_wide", "_law_found", "_law_number", "_law_at", "_law_near_here"]
theorem sc_l_nears : FnScope nm_l_nears ["_law_words_here", "_law_sound", "_law_wide"] (defScope st_l_nears) := ⟨rfl, rfl, rfl, by decide +kernel, rfl, by decide +kernel, by decide +kernel⟩
def spLNears (K : PySem.W.Frag) : Sp := fun vs H Q _ => ∃ (a : Addr) (ws : List (List Nat)) (c wide : Nat), vs = [.ref a, .str (Tx [c]), .int (wide : Nat)] ∧ SqL K H a (tws ws) ∧ ws.length ≤ 13 ∧ (∀ l ∈ ws, sOk l) ∧ wide ≤ 2 ∧
  ∀ H' p xs l, Same H H' → H' p = some (.tup xs) → (∀ G, Same H' G → DpAll K G xs (l.map K5.encT)) → NrL (occA wide ws) c l → Q (.ref p) H'
theorem ok_lnears {f : Addr} {fd : FuncData} (F : Fun K "_law_nears" "_law_nears" st_l_nears f fd) (T : BltS mg) (C__law_places : CLpl P w K mg base) (C__law_near : CLnr P w K mg base) : FnOk P w K mg base CX0 2 f fd ["_law_words_here", "_law_sound", "_law_wide"] (spLNears K) := by
  refine F.ok sc_l_nears (fun vs H Q E h => ?_) (fun cdv A outer s H vs Q E hr h => ?_)
  · obtain ⟨_, _, _, _, rfl, _⟩ := h
    rfl
  · refine ⟨_, (pss_cons (ps_set (i := 3) sc_l_nears.nd rfl (Or.inl rfl) (pe_lst pa_nil))
  (pss_cons (ps_for PassesOwn.never rfl (pi_list (pe_cl C__law_places (hr.mono (by decide)) rfl (pa_cons (pv 0) (pa_cons (pv 1) pa_nil)))) (pg_tup rfl (pgs_cons (pg_name (i := 4) sc_l_nears.nd rfl (Or.inl rfl)) (pgs_cons (pg_name (i := 5) sc_l_nears.nd rfl (Or.inl rfl)) pgs_nil))) (pss_cons (ps_set (i := 6) sc_l_nears.nd rfl (Or.inl rfl) (pe_cl C__law_near (hr.mono (by decide)) rfl (pa_cons (pe_ix ix_list (pv 0) (pv 4) (fun _ _ => rfl)) (pa_cons (pv 5) (pa_cons (pv 2) pa_nil)))))
  (pss_one (ps_expr (pe_bm PySem.F.plainAttrs_list PySem.F.slot_list_extend PySem.F.type_list_extend mt_extend (pv 3) (pa_cons (pe_ifExp (pt_cmpR (op_notInD (hu65 hr)) (pv 6) (pv 3) rfl) (pe_lst (pa_cons (pv 6) pa_nil)) (pe_lst pa_nil)) pa_nil))))))
  (pss_one (ps_ret (pe_callTy call_tuple_of (by rfl) T.n_tuple (by decide +kernel) (pa_cons (pe_callB (K5.cr_sortTT rfl (hu20 hr)) (by rfl) T.n_sorted (by decide +kernel) (pa_cons (pv 3) pa_nil)) pa_nil)))))), ?_⟩
    obtain ⟨a, ws, c, wide, rfl, hS, hl, hok, hw, q⟩ := h
    rw [show L2.start nm_l_nears [V.ref a, V.str (Tx [c]), V.int (wide : Nat)] = [some (V.ref a), some (V.str (Tx [c])), some (V.int (wide : Nat)), none, none, none, none] from rfl]
    have h12 : ∀ l ∈ ws, l.length ≤ 12 := fun l hl => by have := (hok l hl).2; omega
    refine ⟨Nat.zero_le _, fun D hD => ?_⟩
    dsimp only [gName, List.set_cons_succ, List.set_cons_zero]
    have sD := Sm.new (o := .lst []) hD
    refine ⟨_, rfl, _, rfl, a, ws, c, rfl, sm_l sD hS, hl, h12, fun H1 D1 xs1 qs1 s1 nD1 hD1 qA1 lq1 mq1 => ⟨D1, rfl, ⟨_, SqL.of hD1⟩, ?_⟩⟩
    have eD := s1 _ _ (show upd H D (.lst []) D = some (.lst []) from upd_same)
    have nD : D1 ≠ D := fun z => by rw [z, upd_same] at nD1; cases nD1
    have sA := sD.trans s1
    refine for_it walk_list (fun i σ H' => (∃ v4 v5 v6, σ = [some (V.ref a), some (V.str (Tx [c])), some (V.int (wide : Nat)), some (V.ref D), v4, v5, v6]) ∧ Same H H' ∧ KB1 D H1 H' ∧ ∃ xs ns, H' D = some (.lst xs) ∧ NsAt H' xs ns ∧ ns.length ≤ i ∧ ns.Nodup ∧ ∀ n, n ∈ ns ↔ ∃ k < i, ∃ q, qs1[k]? = some q ∧ n = nearT wide ws q)
      ⟨⟨_, _, _, rfl⟩, sA, KB1.of (Same.refl _), [], [], eD, NsAt.nil, Nat.zero_le _, .nil, fun n => ⟨fun h => absurd h List.not_mem_nil, fun ⟨k, hk, _⟩ => absurd hk (Nat.not_lt_zero _)⟩⟩ (fun i σ G hi z => SqL.of (z.2.2.1 _ _ nD hD1)) ?_ ?_
    · rintro i x σ G1 G2 hi ⟨⟨v4, v5, v6, rfl⟩, g1, g2, xs, ns, eX, pX, lX, nX, mX⟩ ⟨rfl, hx⟩
      dsimp only [gName, List.set_cons_succ, List.set_cons_zero]
      have hi' : i < qs1.length := by
        have hi : i < xs1.length := hi
        rw [← qA1.1]
        exact hi
      obtain ⟨T1, rfl, hT1⟩ := qA1.2 i x qs1[i] hx (List.getElem?_eq_getElem hi')
      have eqi := List.getElem?_eq_getElem hi'
      generalize qs1[i] = q1 at hT1 eqi
      have at1 := (mq1 q1).mp (List.mem_of_getElem? eqi)
      have hT := g2 _ _ (fun z => by rw [z, eD] at hT1; cases hT1) hT1
      have word : ∀ {k : Nat}, k < ws.length → atI (tws ws) ((k : Nat) : Int) = some (V.str (Tx (ws.getD k []))) := fun {k} hk => atI_nat (by
        unfold tws
        rw [List.getElem?_map, List.getD_eq_getElem?_getD, List.getElem?_eq_getElem hk]
        rfl)
      have okw : ∀ {k : Nat}, k < ws.length → sOk (ws.getD k []) := fun {k} hk => by
        rw [List.getD_eq_getElem?_getD, List.getElem?_eq_getElem hk]
        exact hok _ (List.getElem_mem hk)
      refine ⟨T1, _, rfl, SqT.of hT, rfl, ⟨_, _, rfl, ⟨_, _, rfl, rfl, ?_⟩⟩⟩
      dsimp only [gName, List.set_cons_succ, List.set_cons_zero]
      refine ⟨_, rfl, _, rfl, a, tws ws, _, _, rfl, rfl, sm_l g1 hS, word at1.1, _, rfl, _, rfl, ?_⟩
      refine ⟨_, q1.2, wide, rfl, by have := (okw at1.1).2; omega, at1.2.1, hw, fun G3 t1 s3 n3 e3 => ?_⟩
      dsimp only [gName, List.set_cons_succ, List.set_cons_zero]
      have g1 := g1.trans s3
      have g2 := g2.sm s3
      have eX := s3 _ _ eX
      have pX := pX.sm s3
      clear s3 n3
      have lay : ∀ t ∈ ns.map nbT, PyData.canLay0 (K5.encT t) = true := fun t ht => by
        obtain ⟨n, hn, rfl⟩ := List.mem_map.mp ht
        obtain ⟨k, hk, q2, hq2, rfl⟩ := (mX n).mp hn
        have at2 := (mq1 q2).mp (List.mem_of_getElem? hq2)
        obtain ⟨h1, h2⟩ := near_lay (wide := wide) (p := q2.2) (okw at2.1)
        show PyData.canLay0 (.tuple [.str (Tx (nearT wide ws q2).1), .str (Tx (nearT wide ws q2).2)]) = true
        unfold PyData.canLay0 PyData.canLayAll0 PyData.canLayAll0 PyData.canLayAll0
        unfold nearT
        rw [h1, h2]
        rfl
      refine ⟨_, rfl, .inl ⟨rfl, _, SqL.of eX⟩, ?_⟩
      refine ⟨_, rfl, _, rfl, dNB (nearT wide ws q1), (ns.map nbT).map K5.encT, .tup (SqT.of e3) (.cons (.str _) (.cons (.str _) .nil)), .lst (SqL.of eX) pX.dp, nb_sh (okw at1.1), nbs_sh lay, ?_⟩
      rw [any_nb]
      have same : ∀ n, n ∈ ns ↔ ∃ k < i, ∃ q, qs1[k]? = some q ∧ n = nearT wide ws q := mX
      by_cases hin : nearT wide ws q1 ∈ ns
      · rw [decide_eq_true hin]
        refine ⟨_, rfl, ?_⟩
        refine iteF ?_
        refine ⟨Nat.zero_le _, fun B hB => ?_⟩
        have sB := Sm.new (o := .lst []) hB
        refine ⟨D, B, xs, [], rfl, rfl, sB _ _ eX, upd_same, by rw [pX.1]; exact Nat.le_trans (show ns.length + 0 ≤ 200 by omega) (by decide), ?_⟩
        refine ⟨⟨_, _, _, rfl⟩, Sm.put (g1.trans sB) hD, (g2.sm sB).put, xs ++ [], ns, upd_same, ?_, by omega, nX, fun n => ?_⟩
        · rw [List.append_nil]
          exact (pX.sm sB).put (sB _ _ eX)
        · rw [mX]
          constructor
          · rintro ⟨k, h1, h2⟩
            exact ⟨k, by omega, h2⟩
          · rintro ⟨k, h1, q2, h2, h3⟩
            rcases Nat.lt_or_ge k i with z | z
            · exact ⟨k, z, q2, h2, h3⟩
            · have ek : k = i := by omega
              rw [ek, eqi] at h2
              have e2 := Option.some.inj h2
              subst e2
              rw [h3]
              exact (mX _).mp hin
      · rw [decide_eq_false hin]
        refine ⟨_, rfl, ?_⟩
        refine iteT ?_
        refine ⟨_, rfl, by show 1 ≤ sizeLine; decide, fun B hB => ?_⟩
        have sB := Sm.new (o := .lst [.ref t1]) hB
        refine ⟨D, B, xs, [.ref t1], rfl, rfl, sB _ _ eX, upd_same, by rw [pX.1]; exact Nat.le_trans (show ns.length + 1 ≤ 201 by omega) (by decide), ?_⟩
        refine ⟨⟨_, _, _, rfl⟩, Sm.put (g1.trans sB) hD, (g2.sm sB).put, xs ++ [.ref t1], ns ++ [nearT wide ws q1], upd_same, ((pX.sm sB).snoc (sB _ _ e3)).put (sB _ _ eX), by rw [List.length_append]; show _ + 1 ≤ _; omega, List.nodup_append.mpr ⟨nX, List.nodup_cons.mpr ⟨List.not_mem_nil, .nil⟩, fun x hx y hy e => hin (by rw [← List.mem_singleton.mp hy, ← e]; exact hx)⟩, fun n => ?_⟩
        rw [List.mem_append, mX, List.mem_singleton]
        constructor
        · rintro (⟨k, h1, h2⟩ | rfl)
          · exact ⟨k, by omega, h2⟩
          · exact ⟨i, Nat.lt_succ_self _, q1, eqi, rfl⟩
        · rintro ⟨k, h1, q2, h2, h3⟩
          rcases Nat.lt_or_ge k i with z | z
          · exact .inl ⟨k, z, q2, h2, h3⟩
          · have ek : k = i := by omega
            rw [ek, eqi] at h2
            have e2 := Option.some.inj h2
            subst e2
            exact .inr h3
    · rintro σ H9 ⟨⟨v4, v5, v6, rfl⟩, g1, g2, xs, ns, eX, pX, lX, nX, mX⟩
      have hx1 : xs1.length = qs1.length := qA1.1
      have nd2 : (ns.map nbT).Nodup := List.pairwise_map.mpr (nX.imp fun z e => z (nbT_inj e))
      have pm := List.mergeSort_perm (ns.map nbT) K5.leT
      refine ⟨_, rfl, D, xs, ns.map nbT, rfl, SqL.of eX, fun G sG => (pX.sm sG).dp, fun b ys hb hys => ?_⟩
      have sb := Sm.new (o := .lst ys) hb
      refine ⟨b, ys, rfl, .inl ⟨SqL.of upd_same, fun t ht => ?_⟩⟩
      have st := Sm.new (o := .tup ys) ht
      refine q _ t ys ((ns.map nbT).mergeSort K5.leT) ((g1.trans sb).trans st) upd_same (fun G sG => hys _ ((sb.trans st).trans sG)) ⟨List.pairwise_mergeSort (fun a b c => leT_tot.trans a b c) (fun a b => ?_) _, pm.nodup_iff.mpr nd2, fun t => ?_⟩
      · rcases leT_tot.total a b with z | z
        · rw [z]
          rfl
        · rw [z, Bool.or_true]
      · rw [pm.mem_iff, List.mem_map]
        have key : ∀ n, n ∈ ns ↔ (firstAt (occA wide ws) c n).isSome = true := fun n => by
          rw [mX]
          unfold firstAt
          rw [Option.isSome_map, List.find?_isSome]
          constructor
          · rintro ⟨k, _, q2, h2, rfl⟩
            have at2 := (mq1 q2).mp (List.mem_of_getElem? h2)
            exact ⟨(c, nearT wide ws q2, q2), occs_mem.mpr ⟨q2.1, at2.1, q2.2, at2.2.1, by rw [at2.2.2]; rfl⟩, decide_eq_true ⟨rfl, rfl⟩⟩
          · rintro ⟨x, hx, e⟩
            obtain ⟨e1, e2⟩ := of_decide_eq_true e
            obtain ⟨x1, x2⟩ := at_of hx
            rw [e1] at x1
            obtain ⟨k, hk⟩ := List.mem_iff_getElem?.mp ((mq1 _).mpr x1)
            exact ⟨k, by rw [hx1]; exact (List.getElem?_eq_some_iff.mp hk).1, _, hk, e2.symm.trans x2.symm⟩
        constructor
        · rintro ⟨n, hn, rfl⟩
          exact ⟨n, (key n).mp hn, rfl⟩
        · rintro ⟨n, hn, rfl⟩
          exact ⟨n, (key n).mpr hn, rfl⟩
end
end W5.V
namespace W5.V
open PySem PySem.Spec PyProof.Rows L2 K0 K6
open K4 hiding Blt
/-! ### what is alike -/
/-! ### by_one_rule and shows_rule, of what is right -/
section
variable {K : PySem.W.Frag} {cs : Nat → Addr} {Z Y : Addr} {H : Hp} {Q : VK} {E : XW}
abbrev azN (c : Nat) : Prop := 97 ≤ c ∧ c ≤ 122
end
end W5.V
namespace W5.V
open PySem PySem.Spec PyProof.Rows L2 K0 K6
open K4 hiding Blt
section
variable {P : Program} {w : World} {K : PySem.W.Frag} {mg : Str → Option Value} {base : Heap}
variable {cs : Nat → Addr} {Z Y : Addr}
/-! ### the paper that is due -/
abbrev CLnrs (P : Program) (w : World) (K : PySem.W.Frag) (mg : Str → Option Value) (base : Heap) : Prop := Cal P w K mg base 2 "_law_nears" st_l_nears ["_law_words_here", "_law_sound", "_law_wide"] (spLNears K)
theorem TolR.sm {H H' : Hp} {v : V} {L : List Occ} {c d : Nat} (s : Same H H') (h : TolR Z Y H v L c d) : TolR Z Y H' v L c d := by
  rcases h with ⟨r, z, hO, e, hz⟩ | ⟨hO, z, l1, l2, e, n1, n2, hz⟩
  · exact .inl ⟨r, z, hO, e, zmb_sm s hz⟩
  · exact .inr ⟨hO, z, l1, l2, e, n1, n2, orb_sm s hz⟩
theorem OutQ.sm {H H' : Hp} {v : V} {r : Option Pl2} (s : Same H H') (h : OutQ H v r) : OutQ H' v r := by
  cases r with
  | none => exact h
  | some r =>
    obtain ⟨T, t1, t2, e, h0, h1, h2⟩ := h
    exact ⟨T, t1, t2, e, s _ _ h0, s _ _ h1, s _ _ h2⟩
end
end W5.V
namespace W5.V
open PySem PySem.Spec PyProof.Rows L2 K0 K6
open K4 hiding Blt
section
variable {P : Program} {w : World} {K : PySem.W.Frag} {mg : Str → Option Value} {base : Heap}
variable {cs : Nat → Addr} {Z Y : Addr}
/-! ### what has the same word -/
/-- a paper that is true or not -/
def BoAt (Z Y : Addr) (H : Hp) (v : V) (b : Bool) : Prop := ∃ z dx fs, v = .ref z ∧ ((H z = some (.ins Z dx fs) ∧ b = false) ∨ (H z = some (.ins Y dx fs) ∧ b = true))
theorem BoAt.sm {H H' : Hp} {v : V} {b : Bool} (s : Same H H') (h : BoAt Z Y H v b) : BoAt Z Y H' v b := by
  obtain ⟨z, dx, fs, e, ⟨h, f⟩ | ⟨h, f⟩⟩ := h
  · exact ⟨z, dx, fs, e, .inl ⟨s _ _ h, f⟩⟩
  · exact ⟨z, dx, fs, e, .inr ⟨s _ _ h, f⟩⟩
theorem BoAt.upd {H : Hp} {v : V} {b : Bool} {D : Addr} {us ys : List V} (hD : H D = some (.lst us)) (h : BoAt Z Y H v b) : BoAt Z Y (upd H D (.lst ys)) v b := by
  obtain ⟨z, dx, fs, e, ⟨h, f⟩ | ⟨h, f⟩⟩ := h
  · exact ⟨z, dx, fs, e, .inl ⟨(upd_ne fun y => by rw [y, hD] at h; cases h).trans h, f⟩⟩
  · exact ⟨z, dx, fs, e, .inr ⟨(upd_ne fun y => by rw [y, hD] at h; cases h).trans h, f⟩⟩
theorem BoAt.kb {H H' : Hp} {v : V} {b : Bool} {p : Addr} {T : Nat} (hp : PenAt H p T) (k : KB p H H') (h : BoAt Z Y H v b) : BoAt Z Y H' v b := by
  obtain ⟨xs, ep⟩ := hp.some
  obtain ⟨z, dx, fs, e, ⟨h, f⟩ | ⟨h, f⟩⟩ := h
  · exact ⟨z, dx, fs, e, .inl ⟨k.kb _ _ (fun y => by rw [y, ep] at h; cases h) h, f⟩⟩
  · exact ⟨z, dx, fs, e, .inr ⟨k.kb _ _ (fun y => by rw [y, ep] at h; cases h) h, f⟩⟩
theorem BoAt.of {H : Hp} {v : V} {L : List Occ} {c d : Nat} (h : TolR Z Y H v L c d) : BoAt Z Y H v (leastF L c d).isNone := by
  rcases h with ⟨r, z, hO, rfl, hz⟩ | ⟨hO, z, l1, l2, rfl, n1, n2, hz⟩
  · rw [leastF_of hO]
    obtain ⟨dx, u1, u2, p1, hx, _⟩ := hz
    exact ⟨z, _, _, rfl, .inl ⟨hx, rfl⟩⟩
  · rw [leastF_of hO]
    obtain ⟨dx, u1, u2, p1, hx, _⟩ := hz
    exact ⟨z, _, _, rfl, .inr ⟨hx, rfl⟩⟩
theorem BoAt.r {H : Hp} {v : V} {b : Bool} {Q : Bool → Hp → Prop} (h : BoAt Z Y H v b) (q : Q b H) : rBoolP Z Y v H Q := by
  obtain ⟨z, dx, fs, rfl, ⟨h, rfl⟩ | ⟨h, rfl⟩⟩ := h
  · exact ⟨z, rfl, .inl ⟨dx, fs, h, q⟩⟩
  · exact ⟨z, rfl, .inr ⟨dx, fs, h, q⟩⟩
/-- all of one word -/
def BosAt (Z Y : Addr) (H : Hp) (xs : List V) (b : Bool) : Prop := ∀ x ∈ xs, BoAt Z Y H x b
theorem BosAt.sm {H H' : Hp} {xs : List V} {b : Bool} (s : Same H H') (h : BosAt Z Y H xs b) : BosAt Z Y H' xs b := fun x hx => (h x hx).sm s
theorem BosAt.snoc {H : Hp} {xs : List V} {x : V} {b : Bool} (h : BosAt Z Y H xs b) (hx : BoAt Z Y H x b) : BosAt Z Y H (xs ++ [x]) b := fun y hy => by
  rcases List.mem_append.mp hy with hy | hy
  · exact h y hy
  · rw [List.mem_singleton.mp hy]
    exact hx
theorem BosAt.upd {H : Hp} {xs : List V} {b : Bool} {D : Addr} {us ys : List V} (hD : H D = some (.lst us)) (h : BosAt Z Y H xs b) : BosAt Z Y (upd H D (.lst ys)) xs b := fun x hx => (h x hx).upd hD
end
end W5.V
namespace W5.V
open PySem PySem.Spec PyProof.Rows L2 K0 K6
open K4 hiding Blt
section
variable {P : Program} {w : World} {K : PySem.W.Frag} {mg : Str → Option Value} {base : Heap}
variable {cs : Nat → Addr} {Z Y : Addr}
/-! ### what is heard, of all four errors and of none -/
/-! ### told so far: pairs, or None -/
abbrev It : Type := Option (V × V)
def IsIt (H : Hp) (x : V) : It → Prop
  | none => x = .non
  | some p => ∃ T, x = .ref T ∧ H T = some (.tup [p.1, p.2])
def Its (H : Hp) (xs : List V) (ts : List It) : Prop := xs.length = ts.length ∧ ∀ (i : Nat) x t, xs[i]? = some x → ts[i]? = some t → IsIt H x t
theorem its_snoc {H : Hp} {xs : List V} {ts : List It} {x : V} {t : It} (h : Its H xs ts) (hx : IsIt H x t) : Its H (xs ++ [x]) (ts ++ [t]) := ⟨by rw [List.length_append, List.length_append, h.1]; rfl, fun i y q e1 e2 => by
  rcases Nat.lt_or_ge i xs.length with z | z
  · rw [List.getElem?_append_left z] at e1
    rw [List.getElem?_append_left (by rw [← h.1]; exact z)] at e2
    exact h.2 i y q e1 e2
  · rw [List.getElem?_append_right z] at e1
    rw [List.getElem?_append_right (by rw [← h.1]; exact z), ← h.1] at e2
    have hi : i - xs.length = 0 := by
      have := (List.getElem?_eq_some_iff.mp e1).1
      have : i - xs.length < 1 := this
      omega
    rw [hi] at e1 e2
    obtain rfl := Option.some.inj e1
    obtain rfl := Option.some.inj e2
    exact hx⟩
theorem its_nil {H : Hp} : Its H [] [] := ⟨rfl, fun i x q e => by cases e⟩
theorem its_mono {H H' : Hp} {xs : List V} {ts : List It} (k : ∀ b us, H b = some (.tup us) → H' b = some (.tup us)) (h : Its H xs ts) : Its H' xs ts := ⟨h.1, fun i x t e1 e2 => by
  have := h.2 i x t e1 e2
  cases t with
  | none => exact this
  | some p =>
    obtain ⟨T, e, a⟩ := this
    exact ⟨T, e, k _ _ a⟩⟩
/-- told so far, in the list at L -/
structure HSo (T1 L : Addr) (H0 : Hp) (ts : List It) (H : Hp) : Prop where
  k : ∀ b o, b ≠ L → H0 b = some o → (∀ ps, o ≠ .tbl ps) → H b = some o
  t : LamX.Tabs (TLr T1) H
  at_ : ∃ xs, H L = some (.lst xs) ∧ Its H xs ts
theorem HSo.kn {T1 L p : Addr} {H0 H : Hp} {ts : List It} (hL : H0 L = none ∨ ∃ ps, H0 L = some (.tbl ps)) (h : HSo T1 L H0 ts H) : KN p H0 H := fun b o _ e t => h.k b o (fun z => by
  rw [z] at e
  rcases hL with hL | ⟨ps, hL⟩
  · rw [hL] at e
    cases e
  · rw [hL] at e
    cases e
    exact t _ rfl) e t
theorem HSo.more {T1 L : Addr} {H0 G H9 H10 : Hp} {ts : List It} {b : Addr} {x y : V} {xs : List V} (h : HSo T1 L H0 ts G) (eX : G L = some (.lst xs)) (x9 : LamX.ExtN G H9) (t9 : LamX.Tabs (TLr T1) H9) (s10 : Same H9 H10) (nb : H10 b = none) :
    upd H10 b (.tup [x, y]) L = some (.lst xs) ∧ xs.length = ts.length ∧ HSo T1 L H0 (ts ++ [some (x, y)]) (upd (upd H10 b (.tup [x, y])) L (.lst (xs ++ [.ref b]))) := by
  have sb := Sm.new (o := .tup [x, y]) nb
  have eL : upd H10 b (.tup [x, y]) L = some (.lst xs) := sb _ _ (s10 _ _ (x9 _ _ eX fun _ z => nomatch z))
  obtain ⟨zs, ez, hz⟩ := h.at_
  rw [eX] at ez
  have ez := HO.lst.inj (Option.some.inj ez)
  subst ez
  refine ⟨eL, hz.1, fun c o n e t => (upd_ne n).trans (sb _ _ (s10 _ _ (x9 _ _ (h.k c o n e t) t))), HS.tb (b := b) ((t9.ext s10).ext sb) eL, xs ++ [.ref b], upd_same, ?_⟩
  have put : ∀ (b' : Addr) us, upd H10 b (.tup [x, y]) b' = some (.tup us) → upd (upd H10 b (.tup [x, y])) L (.lst (xs ++ [.ref b])) b' = some (.tup us) := fun b' us e => (upd_ne fun z => by rw [z, eL] at e; cases e).trans e
  refine its_snoc (its_mono (fun b' us e => put _ _ (sb _ _ (s10 _ _ (x9 _ _ e fun _ z => nomatch z)))) hz) ⟨b, rfl, put _ _ upd_same⟩
theorem HSo.moreN {T1 L : Addr} {H0 G H9 H10 : Hp} {ts : List It} {xs : List V} (h : HSo T1 L H0 ts G) (eX : G L = some (.lst xs)) (x9 : LamX.ExtN G H9) (t9 : LamX.Tabs (TLr T1) H9) (s10 : Same H9 H10) :
    H10 L = some (.lst xs) ∧ xs.length = ts.length ∧ HSo T1 L H0 (ts ++ [none]) (upd H10 L (.lst (xs ++ [.non]))) := by
  have eL : H10 L = some (.lst xs) := s10 _ _ (x9 _ _ eX fun _ z => nomatch z)
  obtain ⟨zs, ez, hz⟩ := h.at_
  rw [eX] at ez
  have ez := HO.lst.inj (Option.some.inj ez)
  subst ez
  refine ⟨eL, hz.1, fun c o n e t => (upd_ne n).trans (s10 _ _ (x9 _ _ (h.k c o n e t) t)), HS.tb (b := L) (t9.ext s10) eL, xs ++ [.non], upd_same, ?_⟩
  have put : ∀ (b' : Addr) us, H10 b' = some (.tup us) → upd H10 L (.lst (xs ++ [.non])) b' = some (.tup us) := fun b' us e => (upd_ne fun z => by rw [z, eL] at e; cases e).trans e
  exact its_snoc (its_mono (fun b' us e => put _ _ (s10 _ _ (x9 _ _ e fun _ z => nomatch z))) hz) rfl
theorem HSo.start {T1 L b : Addr} {H8 H9 H10 : Hp} {x y : V} (x9 : LamX.ExtN H8 H9) (t9 : LamX.Tabs (TLr T1) H9) (s10 : Same H9 H10) (nb : H10 b = none) (hL : upd H10 b (.tup [x, y]) L = none) :
    (H8 L = none ∨ ∃ ps, H8 L = some (.tbl ps)) ∧ HSo T1 L H8 [some (x, y)] (upd (upd H10 b (.tup [x, y])) L (.lst [.ref b])) := by
  have sb := Sm.new (o := .tup [x, y]) nb
  have sL := Sm.new (o := .lst [.ref b]) hL
  refine ⟨?_, fun c o n e t => sL _ _ (sb _ _ (s10 _ _ (x9 _ _ e t))), ((t9.ext s10).ext sb).ext sL, [.ref b], upd_same, its_snoc (ts := []) its_nil ⟨b, rfl, sL _ _ upd_same⟩⟩
  cases z : H8 L with
  | none => exact .inl rfl
  | some o =>
    cases o with
    | tbl ps => exact .inr ⟨ps, rfl⟩
    | _ =>
      have := sb _ _ (s10 _ _ (x9 _ _ z fun _ z => nomatch z))
      rw [hL] at this
      cases this
end
end W5.V
namespace W5.V
open PySem PySem.Spec PyProof.Rows L2 K0 K6
open K4 hiding Blt
section
variable {P : Program} {w : World} {K : PySem.W.Frag} {mg : Str → Option Value} {base : Heap}
variable {cs : Nat → Addr} {Z Y : Addr}
/-! ### what is refused -/
/-- no list of words -/
def OdWs (p : Addr) (H : Hp) (v : V) : Prop := v = .non ∨ v = .int 5 ∨ v = .str "ka" ∨ ∃ e, v = .ref e ∧ e ≠ p ∧ (H e = some (.lst []) ∨ H e = some (.tup []) ∨ H e = some (.lst [.str "ka", .str "K"]) ∨ H e = some (.lst [.str (Tx (List.replicate 13 97))]) ∨ H e = some (.lst [.non]) ∨ H e = some (.dT []))
/-- no sound -/
def OdSs (p : Addr) (H : Hp) (v : V) : Prop := v = .non ∨ v = .int 5 ∨ (∃ l, v = .str (Tx l) ∧ sdOk l = false ∧ l.length ≤ 10000) ∨ ∃ e, v = .ref e ∧ e ≠ p ∧ H e = some (.lst [.str "a"])
theorem OdWs.kn {p : Addr} {H H' : Hp} {v : V} (k : KN p H H') (h : OdWs p H v) : OdWs p H' v := by
  rcases h with h | h | h | ⟨e, h, n, z⟩
  · exact .inl h
  · exact .inr (.inl h)
  · exact .inr (.inr (.inl h))
  · refine .inr (.inr (.inr ⟨e, h, n, ?_⟩))
    rcases z with z | z | z | z | z | z
    · exact .inl (k _ _ n z (fun _ z => nomatch z))
    · exact .inr (.inl (k _ _ n z (fun _ z => nomatch z)))
    · exact .inr (.inr (.inl (k _ _ n z (fun _ z => nomatch z))))
    · exact .inr (.inr (.inr (.inl (k _ _ n z (fun _ z => nomatch z)))))
    · exact .inr (.inr (.inr (.inr (.inl (k _ _ n z (fun _ z => nomatch z))))))
    · exact .inr (.inr (.inr (.inr (.inr (k _ _ n z (fun _ z => nomatch z))))))
theorem OdSs.kn {p : Addr} {H H' : Hp} {v : V} (k : KN p H H') (h : OdSs p H v) : OdSs p H' v := by
  rcases h with h | h | h | ⟨e, h, n, z⟩
  · exact .inl h
  · exact .inr (.inl h)
  · exact .inr (.inr (.inl h))
  · exact .inr (.inr (.inr ⟨e, h, n, k _ _ n z (fun _ z => nomatch z)⟩))
theorem oo_up {no : Nat} {fs : List (Str × V)} {H H1 : Hp} (s : Same H H1) : Rq cs no fs H1 (Oo cs no fs H) := fun _ _ _ ⟨e, dd, ed, s2, q⟩ => ⟨e, dd, ed, s.trans s2, q⟩
abbrev nm_l_refused_right : List Str := ["_law_pen_here", "_law_heard_here", "_law_more", "_law_due", "_law_shown", "_law_odd", "_law_bad", "_law_far", "_law_many"]
end
end W5.V
namespace W5.V
open PySem PySem.Spec PyProof.Rows L2 K0 K6
open K4 hiding Blt
section
variable {P : Program} {w : World} {K : PySem.W.Frag} {mg : Str → Option Value} {base : Heap}
variable {cs : Nat → Addr} {Z Y : Addr}
/-! ### the law -/
abbrev nm_law : List Str := ["_law_script", "_law_pen_here", "_law_sounds_here", "_law_turn", "_law_words_here", "_law_wide", "_law_sound", "_law_other", "_law_paper"]
end
end W5.V
namespace W5.V
open PySem PySem.Spec PyProof.Rows L2 K0 K6
open K4 hiding Blt
/-! ### {k: v for target in iter if ..}, the keys tuples -/
section
variable {X : Cx}
def stepTI (g : TG) (tt : TT) (tk tv : TE) (vs : List Nat) (σ : L2.St) (D : Addr) (Nx : Hp → Prop) (x : V) (H' : Hp) : Prop := g x (wipe σ vs) H' fun σ2 H2 => wipe σ2 vs = wipe σ vs ∧ tt σ2 H2 fun yes H3 => if yes = true then (tk σ2 H3 fun y H4 => tv σ2 H4 fun z H5 =>
  ∃ (kvs : List (List L2.Key × V)) (k : List L2.Key) (b : Addr), y = .ref b ∧ H5 b = some (.tup (k.map kV)) ∧ H5 D = some (.dT kvs) ∧ kvs.length < sizeLine ∧ Nx (upd H5 D (.dT (putK kvs k z)))) else Nx H3
def tDcTI (wi : TI) (g : TG) (tt : TT) (tk tv : TE) (vs : List Nat) : TE := fun σ H Q => wi σ H fun J H1 => ∀ D, H1 D = none → ∃ W : Nat → Nat → Hp → Prop, (∃ m, W 0 m (upd H1 D (.dT []))) ∧ ∀ i m H, W i m H →
  (J.stop i H ∧ Q (.ref D) H) ∨ (J.go i H ∧ ∃ Nx : Hp → Prop, (∀ H', Nx H' → ∃ m', m' < m ∧ W (i + 1) m' H') ∧ ∀ x H', J.yld i H x H' → stepTI g tt tk tv vs σ D Nx x H')
theorem dcT_coreI {pins : List (Addr × Obj)} {s : Shared} {σ : L2.St} {H : Hp} {Q : VK} {kx vx tg iter : Expr} {ifs : List Expr} {scope : Scope} {own : List (Str × Nat)} {pos pos' : Pos} {wi : TI} {g : TG} {tt : TT} {tk tv : TE} {Qf : Value → Shared → Prop}
    (hu : X.A.units + 1 < cLine) (hc : X.calm = true) (hN : X.N.Nodup) (I : Inv X pins σ H s) (hi : PI X tg iter wi) (ok : BlkOk X.N X.env.scope scope own)
    (hg : ∀ s H C cl fp, PG (X.blk s H scope (compEnvC scope cl C X.env) fp) tg g) (ht : ∀ s H C cl fp, PTs (X.blk s H scope (compEnvC scope cl C X.env) fp) ifs tt) (hk : ∀ s H C cl fp, PE (X.blk s H scope (compEnvC scope cl C X.env) fp) kx tk)
    (he : ∀ s H C cl fp, PE (X.blk s H scope (compEnvC scope cl C X.env) fp) vx tv) (hs : ∀ x, foldedSetIterable iter X.env x = pure x) (h : tDcTI wi g tt tk tv (own.map (·.2)) σ H Q)
    (hRR : ∀ D C s' m H', Inv X pins σ H' s' → Q (.ref D) H' → s'.heap.Ns C m → FpOk X pins H' C → compPost (model X.prog X.w) X.A X.xe none Qf (.ref D) C (.ok .next) s') :
    wpAny (model X.prog X.w) X.A (comprehension (.DictComp kx vx [⟨tg, iter, ifs, 0⟩] scope pos) scope X.env pos' newDict false (eval iter X.env) none) Qf X.xe s := by
  have free : ∀ y ∈ scope.names, y.2 = .free → ∃ c, X.env.cells.lookup y.1 = some c := fun y hy e => (ok.free y hy e).elim (fun k => I.ok.has _ (.inl k)) fun k => I.ok.has _ (.inr k)
  refine wpAny_comprehension_free (use := none) rfl hs (closure_ok free) ok.kind (fun y hy e => by rw [ok.uniq y hy, e]) (thn (hi.run pins s σ H _ I h) fun xv s1 hx => thn hx fun itv s2 h2 => ?_)
  obtain ⟨it, fp, tn, J, H2, rfl, I2, T, st2, f2, q⟩ := h2
  refine wpAny_newObj_type (newEnv_comp ?_)
  obtain ⟨D, hD⟩ : ∃ D, s2.heap.objs.size = D := ⟨_, rfl⟩
  rw [hD]
  obtain ⟨W, ⟨m0, w0⟩, turn⟩ := q D (I2.hok.fresh (Nat.le_of_eq hD))
  generalize hs3 : ({ s2 with heap := s2.heap.push { cls := .type "dict", data := .dict #[] } } : Shared) = s3
  have h3 : s3.heap = s2.heap.push { cls := .type "dict", data := .dict #[] } := by rw [← hs3]
  obtain ⟨H3, hH3⟩ : ∃ H3, upd H2 D (.dT []) = H3 := ⟨_, rfl⟩
  have I3 : Inv X pins σ H3 s3 := by
    rw [← hs3, ← hH3]
    exact I2.laid (t' := s2.toks) (fun b o e => Heap.get?_push_of_some _ e) (Nat.le_of_eq hD) (by rw [← hD]; exact dt_empty s2.heap I2.big)
  have f3 : ∀ b ∈ fp, FpOk X pins H3 b ∧ b < s3.heap.objs.size := fun b hb => by
    obtain ⟨o, e, _⟩ := T.obj _ _ st2 b hb
    have lt := Heap.lt_size e
    exact ⟨⟨by rw [← hH3, upd_ne (by rw [← hD]; exact Nat.ne_of_lt lt)]; exact (f2 b hb).1, (f2 b hb).2⟩, by rw [h3, Heap.size_push]; exact Nat.lt_succ_of_lt lt⟩
  have st3 : tn 0 s3.heap := T.keep _ _ _ st2 fun b _ o e => by rw [h3]; exact Heap.get?_push_of_some _ e
  have I4 := block_start I3 ok hN f3
  rw [hH3] at w0
  obtain ⟨cl, hcl⟩ : ∃ cl, cellsFrom (s3.heap.objs.size + 1) scope.names (cloFrom X.env.cells scope.names []) = cl := ⟨_, rfl⟩
  obtain ⟨ce, hce⟩ : ∃ ce, compEnvC scope cl s3.heap.objs.size X.env = ce := ⟨_, rfl⟩
  have pg := hg s3 H3 s3.heap.objs.size cl fp
  have pt := ht s3 H3 s3.heap.objs.size cl fp
  have pk := hk s3 H3 s3.heap.objs.size cl fp
  have pe := he s3 H3 s3.heap.objs.size cl fp
  show codeAny _ _ (.compStart (.DictComp kx vx [⟨tg, iter, ifs, 0⟩] scope pos) 0 (.ref it) (.ref D) (compEnvC scope (cellsFrom (s3.heap.objs.size + 1) scope.names (cloFrom X.env.cells scope.names [])) s3.heap.objs.size X.env)) (compPost (model X.prog X.w) X.A X.xe none Qf (.ref D) s3.heap.objs.size) { s3 with heap := pushCells (s3.heap.push { cls := .type "dict", data := .dict #[] }) scope.names }
  rw [hcl] at I4 ⊢
  rw [hce] at I4 pg pt pk pe ⊢
  have cL : ce.locals = s3.heap.objs.size := by rw [← hce]; rfl
  generalize hs4 : ({ s3 with heap := pushCells (s3.heap.push { cls := .type "dict", data := .dict #[] }) scope.names } : Shared) = s4 at I4 ⊢
  have st4 : tn 0 s4.heap := T.keep _ _ _ st3 fun b _ o e => by rw [← hs4]; exact pushCells_keeps _ _ _ _ (Heap.get?_push_of_some _ e)
  have stat : ∀ {σ' : L2.St} {H' : Hp} {s' : Shared}, Inv (X.blk s3 H3 scope ce fp) [] σ' H' s' → (∀ b ∈ fp, H' b = none) → ∀ b ∈ fp, FpOk (X.blk s3 H3 scope ce fp) [] H' b := fun {σ' H' s'} I' hn b hb => by
    exact ⟨hn b hb, (I'.ok.exf b hb).1, I'.ok.exfs b hb, .inl hb, fun x c e => (I'.ok.exf b hb).2 x c e, fun p hp => absurd (show p ∈ ([] : List (Addr × Obj)) ++ [] from hp) (by simp)⟩
  have loop : codeAny (model X.prog X.w) X.A (.compLoop (.DictComp kx vx [⟨tg, iter, ifs, 0⟩] scope pos) 0 (.ref it) (.ref D) ce) (compPost (model X.prog X.w) X.A X.xe none Qf (.ref D) s3.heap.objs.size) s4 := by
    refine compLoop_anyD (fun n s' => ∃ i H', Inv (X.blk s3 H3 scope ce fp) [] (wipe σ (own.map (·.2))) H' s' ∧ tn i s'.heap ∧ (∀ b ∈ fp, H' b = none) ∧ W i n H') ?_ m0 ⟨0, H3, I4, st4, fun b hb => (f3 b hb).1.1, w0⟩
    rintro n s5 ⟨i, H5, I5, st5, n5, w5⟩
    rcases turn i n H5 w5 with ⟨stop, qq⟩ | ⟨go, Nx, hNx, step⟩
    · refine thnF (T.done (X.blk s3 H3 scope ce fp) rfl rfl rfl hc i [] s5 _ H5 (fun _ _ => False) I5 (stat I5 n5) st5 stop) fun r s6 ⟨hr, I6⟩ => ?_
      subst hr
      have nC : H5 s3.heap.objs.size = none := by rw [← cL]; exact I6.free
      obtain ⟨m, hn, _⟩ := I6.loc
      exact hRR D s3.heap.objs.size s6 m H5 (I3.call' (ch := fp) I6.os I6.base I6.hok I6.bare fun b hb => ⟨(f3 b hb).1.2.2.2.1, (f3 b hb).1.2.1, (f3 b hb).1.2.2.2.2.1, (f3 b hb).1.2.2.2.2.2⟩) qq (by rw [← cL]; exact hn) (I3.fpOk (Nat.le_refl _) nC)
    · refine thnF (T.item (X.blk s3 H3 scope ce fp) rfl rfl rfl hc i [] s5 _ H5 (fun _ _ => False) I5 (stat I5 n5) st5 go) fun r s6 ⟨u, hr, h6⟩ => ?_
      subst hr
      refine thnF h6 fun _ s7 ⟨x, H7, I7, r7, y7, st7, n7⟩ => ?_
      refine thnF (pg.run _ s7 _ H7 x u _ (I7.pinned (stat I7 n7) (T.obj _ _ st7)) r7 (step x H7 y7)) fun _ s8 ⟨σ8, H8, I8, hw8, q8⟩ => ?_
      refine thnF (pt.run _ s8 σ8 H8 _ I8 q8) fun yes s9 ⟨H9, I9, q9⟩ => ?_
      have huY : (X.blk s3 H3 scope ce fp).A.units + 1 < cLine := hu
      have fin : ∀ {s' : Shared} {H' : Hp}, Inv (X.blk s3 H3 scope ce fp) ([] ++ pinsAt fp s7.heap) σ8 H' s' → Nx H' → ∃ m, m < n ∧ ∃ i H', Inv (X.blk s3 H3 scope ce fp) [] (wipe σ (own.map (·.2))) H' s' ∧ tn i s'.heap ∧ (∀ b ∈ fp, H' b = none) ∧ W i m H' := fun {s' H'} I' nx => by
        obtain ⟨m', hm, w'⟩ := hNx _ nx
        have pin' := fun b (hb : b ∈ fp) o (e : s7.heap.get? b = some o) => I'.pin (b, o) (List.mem_append_right _ (List.mem_append_right _ (mem_pinsAt hb e)))
        refine ⟨m', hm, i + 1, _, (I'.unpinned (pins := [])).weak (by rw [← hw8, wipe_length]) (fun j v e => ?_), T.keep _ _ _ st7 fun b hb o e => (pin' b hb o e).1, fun b hb => ?_, w'⟩
        · rw [← hw8] at e
          exact (wipe_some e).1
        · obtain ⟨o, e, _⟩ := T.obj _ _ st7 b hb
          exact (pin' b hb o e).2.1
      cases yes with
      | false =>
        rw [if_neg (by decide)] at q9 ⊢
        exact fin I9 q9
      | true =>
        rw [if_pos rfl] at q9 ⊢
        refine thnF (pk.run _ s9 σ8 H9 _ I9 q9) fun z s10 ⟨yk, H10, I10, r10, q10⟩ => ?_
        refine thnF (pe.run _ s10 σ8 H10 _ I10 q10) fun z2 s11 ⟨yv, H11, I11, r11, kvs, k, b, ek, hb11, hD11, hz11, nx⟩ => ?_
        subst ek
        obtain rfl : z = Value.ref b := r10
        have key := K7.dset_t (X := (X.blk s3 H3 scope ce fp)) (E := fun _ _ => False) (Q := fun _ s12 => ∃ m, m < n ∧ ∃ i H', Inv (X.blk s3 H3 scope ce fp) [] (wipe σ (own.map (·.2))) H' s12 ∧ tn i s12.heap ∧ (∀ b ∈ fp, H' b = none) ∧ W i m H') huY I11 hD11 hb11 hz11 r11 fun s12 I12 => fin I12 nx
        exact wpAny_mono key (fun _ _ h => h) fun _ _ z => z.elim
  exact codeAny_compStart_dict loop (T.self X.A 0 _ _ _ st4 loop)
theorem pe_dcTI {kx vx tg iter : Expr} {ifs : List Expr} {scope : Scope} {own : List (Str × Nat)} {pos : Pos} {wi : TI} {g : TG} {tt : TT} {tk tv : TE} (hu : X.A.units + 1 < cLine) (hc : X.calm = true) (hN : X.N.Nodup) (hi : PI X tg iter wi) (ok : BlkOk X.N X.env.scope scope own)
    (hg : ∀ s H C cl fp, PG (X.blk s H scope (compEnvC scope cl C X.env) fp) tg g) (ht : ∀ s H C cl fp, PTs (X.blk s H scope (compEnvC scope cl C X.env) fp) ifs tt) (hk : ∀ s H C cl fp, PE (X.blk s H scope (compEnvC scope cl C X.env) fp) kx tk)
    (he : ∀ s H C cl fp, PE (X.blk s H scope (compEnvC scope cl C X.env) fp) vx tv) (hs : ∀ x, foldedSetIterable iter X.env x = pure x := by intro _; rfl) :
    PE X (.DictComp kx vx [⟨tg, iter, ifs, 0⟩] scope pos) (tDcTI wi g tt tk tv (own.map (·.2))) := by
  refine ⟨fun pins s σ H Q I h => ?_⟩
  rw [arm_eval_DictComp]
  refine dcT_coreI hu hc hN I hi ok hg ht hk he hs h fun D C s' m H' I' q hn ⟨f0, f1, f2, f3, f4, f5⟩ => ⟨m, hn, fun h'' sb => ?_⟩
  exact ⟨.ref D, H', I'.turned (t' := s'.toks) (fun b o hb e => (sb.2 b hb).trans e) f0 f1 f3 f4 f5, rfl, q⟩
end
section
variable {J : L2.It} {n : Nat} {G : Hp → Prop} {Y : Nat → Hp → V → Hp → Prop}
theorem dcT_itI (w : Walk J n G Y) {g : TG} {tt : TT} {tk tv : TE} {vs : List Nat} {σ : L2.St} {H1 : Hp} {D : Addr} {Qd : Hp → Prop} (Pv : Nat → Hp → Prop) (h0 : Pv 0 (upd H1 D (.dT []))) (hG : ∀ i H, i ≤ n → Pv i H → G H)
    (hs : ∀ i x H H', i < n → Pv i H → Y i H x H' → stepTI g tt tk tv vs σ D (Pv (i + 1)) x H') (hd : ∀ H, Pv n H → Qd H) :
    ∃ W : Nat → Nat → Hp → Prop, (∃ m, W 0 m (upd H1 D (.dT []))) ∧ ∀ i m H, W i m H →
      (J.stop i H ∧ Qd H) ∨ (J.go i H ∧ ∃ Nx : Hp → Prop, (∀ H', Nx H' → ∃ m', m' < m ∧ W (i + 1) m' H') ∧ ∀ x H', J.yld i H x H' → stepTI g tt tk tv vs σ D Nx x H') := by
  refine ⟨fun i m H => m = n - i ∧ i ≤ n ∧ Pv i H, ⟨n, rfl, Nat.zero_le _, h0⟩, fun i m H ⟨em, hi, p⟩ => ?_⟩
  subst em
  rcases Nat.lt_or_eq_of_le hi with q | rfl
  · exact .inr ⟨w.goes i H q (hG i H hi p), Pv (i + 1), fun H' p' => ⟨n - (i + 1), by omega, rfl, q, p'⟩, fun x H' y => hs i x H H' q p (w.yields i H x H' q (hG i H hi p) y)⟩
  · exact .inl ⟨w.stops H (hG i H hi p), hd H p⟩
end
/-- what is never reached -/
theorem ps_never {X : Cx} {x : Stmt} : PS X x fun _ _ _ => False := ⟨fun _ _ _ _ _ _ h => h.elim⟩
end W5.V
namespace W5.V
open PySem PySem.Spec PyProof.Rows L2 K0 K6
open K4 hiding Blt
/-! ### sorted, of any data made alike -/
section
variable {α : Type} {enc : α → PyData}
def leE (enc : α → PyData) (x y : α) : Bool := PySem.W.dataLe false enc x y
def rSortE (enc : α → PyData) (K : PySem.W.Frag) : List V → Hp → VK → Prop := fun vs H Q => ∃ (a : Addr) (xs : List V) (ps : List α), vs = [V.ref a] ∧ SqL K H a xs ∧ (∀ G, Same H G → DpAll K G xs (ps.map enc)) ∧
  ∀ b ys, H b = none → (∀ G, Same H G → DpAll K G ys ((ps.mergeSort (leE enc)).map enc)) → Q (.ref b) (upd H b (.lst ys))
theorem each_valsE {K : PySem.W.Frag} {S : Hp → Prop} : ∀ {us : List Value} {bs : List α}, PySem.W.EachIs (fun u b => ∃ x : V, RelV x u ∧ ∀ G, S G → Dp K G x (enc b)) us bs → ∃ ys, Vals ys us ∧ ∀ G, S G → DpAll K G ys (bs.map enc)
  | [], [], .nil => ⟨[], .nil, fun _ _ => .nil⟩
  | u :: us, b :: bs, .cons ⟨x, r, h⟩ e => by
    obtain ⟨ys, rv, hd⟩ := each_valsE e
    exact ⟨x :: ys, .cons r rv, fun G s => .cons (h G s) (hd G s)⟩
theorem cr_sortE {X : Cx} (hc : X.calm = true) (hu : X.A.units + 20 < cLine) (al : ∀ x y, PySem.W.alike (enc x) (enc y) = true) (tu : ∀ x, ∃ a b, enc x = .tuple (a :: b)) (dp : ∀ x, (enc x).depth ≤ 10) : CallR X (.builtin "sorted") (rSortE enc X.K) := by
  intro pins s σ H vs us Q I r h
  obtain ⟨a, xs, ps, rfl, hs, hd, q⟩ := h
  obtain ⟨its, rv, hl, hz⟩ := I.list hs
  rw [Vals.ref1 r]
  have hlen := rv.length
  obtain ⟨as, hR⟩ := Dp.readsAll I _ _ _ (hd H fun _ _ e => e) rv
  have hlp : its.length = ps.length := by
    have := K5.dp_len (hd H fun _ _ e => e)
    rw [List.length_map] at this
    omega
  have e0 : PySem.W.EachIs (fun u b => ∃ x : V, RelV x u ∧ ∀ G, Same H G → Dp X.K G x (enc b)) its ps := K5.each_of hlp fun i u b e1 e2 => by
    obtain ⟨x, hx, rel⟩ := K5.vals_at rv e1
    refine ⟨x, rel, fun G sG => ?_⟩
    obtain ⟨d, ed, hdp⟩ := K5.dp_all_at (hd G sG) hx
    rw [List.getElem?_map, e2] at ed
    obtain rfl := Option.some.inj ed
    exact hdp
  have er : PySem.W.EachIs (fun v b => ∃ as, Reads s.heap v (enc b) as) its ps := K5.each_of hlp fun i u b e1 e2 => by
    obtain ⟨d, cs, ed, hr⟩ := K5.reads_at hR e1
    rw [List.getElem?_map, e2] at ed
    obtain rfl := Option.some.inj ed
    exact ⟨cs, hr⟩
  refine PySem.W.sorted_data (vs := its) (bs := ps) (enc := enc) (l := a) hl.isList e0 er (PySem.W.AllAlike.of al) (PySem.W.Sortable.tuples tu) (by omega) (fun b _ => by have := dp b; omega) fun out h1 h2 => ?_
  obtain ⟨ys, rv2, hd2⟩ := each_valsE h2
  obtain ⟨ep, at_⟩ := PyProof.Rows.sortedAll_at s.heap its (List.toArray out)
  have hyl : ys.length ≤ sizeLine := by
    have := rv2.length
    omega
  exact ⟨.ref _, upd H (s.heap.objs.size + 1) (.lst ys), I.laid (t' := s.toks) (fun _ _ => PyProof.Rows.sortedAll_old) (Nat.le_succ _) ⟨hyl, out, ep, by simpa using rv2, at_⟩, rfl, q _ ys (I.hok.fresh (Nat.le_succ _)) hd2⟩
theorem leE_tot (enc : α → PyData) : PySem.W.TotalLe (leE enc) := PySem.W.sortLe_total (listOrd itemOrd) false (fun b : α => PySem.W.keyToks (enc b))
end
/-! ### pairs of any values -/
section
variable {P : Program} {w : World} {K : PySem.W.Frag} {mg : Str → Option Value} {base : Heap}
/-- the values that a list or a text has -/
def ItOf (K : PySem.W.Frag) (H : Hp) (v : V) (xs : List V) : Prop := (∃ a, v = .ref a ∧ SqL K H a xs) ∨ ∃ l : List Nat, v = .str (Tx l) ∧ xs = l.map sgV
theorem ItOf.sm {H H' : Hp} {v : V} {xs : List V} (s : Same H H') (h : ItOf K H v xs) : ItOf K H' v xs := by
  rcases h with ⟨a, e, h⟩ | h
  · exact .inl ⟨a, e, sm_l s h⟩
  · exact .inr h
abbrev atV (xs : List V) (i : Nat) : V := xs.getD i .non
theorem pr2_map {α β : Type} (g : α → β) : ∀ l : List α, pr2 (l.map g) = (pr2 l).map fun p => (g p.1, g p.2)
  | [] => rfl
  | x :: r => by
    rw [List.map_cons, pr2, pr2, List.map_append, pr2_map g r, List.map_map, List.map_map]
    rfl
theorem pr2_ip (xs : List V) : pr2 xs = (ipTo xs.length xs.length).map fun p => (atV xs p.1, atV xs p.2) := by
  have e1 : xs = (List.range xs.length).map (atV xs) := by
    refine List.ext_getElem (by rw [List.length_map, List.length_range]) fun i h1 h2 => ?_
    rw [List.getElem_map, List.getElem_range]
    show xs[i] = xs.getD i .non
    rw [List.getD_eq_getElem?_getD, List.getElem?_eq_getElem h1]
    rfl
  have e2 := prsOf_eq (List.range xs.length)
  unfold prsOf at e2
  rw [List.length_range] at e2
  conv => lhs; rw [e1, pr2_map, ← e2, List.map_map]
  refine List.map_congr_left fun p hp => ?_
  obtain ⟨h1, h2⟩ := ipTo_mem (Nat.le_refl _) hp
  show (atV xs ((List.range xs.length).getD p.1 0), atV xs ((List.range xs.length).getD p.2 0)) = _
  rw [List.getD_eq_getElem?_getD (l := List.range xs.length), List.getElem?_range (by omega), List.getD_eq_getElem?_getD (l := List.range xs.length), List.getElem?_range (by omega)]
  rfl
def spAmongV (K : PySem.W.Frag) : Sp := fun vs H Q _ => ∃ (v : V) (xs : List V), vs = [v] ∧ ItOf K H v xs ∧ xs.length ≤ 30 ∧ ∀ H' D ts, Same H H' → H' D = some (.lst ts) → Prs H' ts (pr2 xs) → Q (.ref D) H'
theorem ok_amongV {f : Addr} {fd : FuncData} (F : Fun K "pairs_among" "pairs_among" st_pairs_among f fd) (T : Blt mg) (C_pairs_of_places : CPop P w K mg base) : FnOk P w K mg base CX0 2 f fd ["values"] (spAmongV K) := by
  refine F.ok sc_pairs_among (fun vs H Q E h => ?_) (fun cdv A outer s H vs Q E hr h => ?_)
  · obtain ⟨v, xs, rfl, _⟩ := h
    rfl
  · refine ⟨_, (pss_one (ps_ret (pe_lc (own := [("at", 1), ("beside", 2)]) (g := (gTup K 2 (gCons (gName 1) (gCons (gName 2) gNil)))) (tt := tYes) rfl sc_pairs_among.nd (pi_list (pe_cl C_pairs_of_places (hr.mono (by decide)) rfl (pa_cons (pe_callB call_len (by rfl) T.n_len (by decide +kernel) (pa_cons (pv 0) pa_nil)) pa_nil))) (blkOk_by (N := nm_pairs_among) (sc := defScope st_pairs_among) (own := [("at", 1), ("beside", 2)]) (by decide +kernel)) (fun _ _ _ _ _ => by exact pg_tup rfl (pgs_cons (pg_name (i := 1) sc_pairs_among.nd rfl (Or.inl rfl)) (pgs_cons (pg_name (i := 2) sc_pairs_among.nd rfl (Or.inl rfl)) pgs_nil))) (fun _ _ _ _ _ => pts_nil) (fun _ _ _ _ _ => (pe_tup (pa_cons (pe_ix (ix_seq : IxR _ (rIx K)) (pv 0) (pv 1) (fun _ _ => rfl)) (pa_cons (pe_ix (ix_seq : IxR _ (rIx K)) (pv 0) (pv 2) (fun _ _ => rfl)) pa_nil))))))), ?_⟩
    obtain ⟨v, xs, rfl, hS, hl, q⟩ := h
    have len : LenV K v H xs.length := by
      rcases hS with ⟨a, rfl, h⟩ | ⟨l, rfl, rfl⟩
      · exact .inl ⟨xs, h, rfl⟩
      · rw [List.length_map] at hl ⊢
        exact ⟨by rw [tx_len]; exact Nat.le_trans hl (by decide), (tx_len l).symm⟩
    refine ⟨_, rfl, _, _, rfl, len, xs.length, rfl, by omega, fun H1 p1 ts1 s1 np1 hp1 hP1 => ?_⟩
    refine ⟨p1, rfl, ⟨_, SqL.of hp1⟩, fun D hD => ?_⟩
    rw [prTo_ip] at hP1
    have hlen : ts1.length = (ipTo xs.length xs.length).length := by rw [hP1.1, List.length_map]
    have hbd := ipTo_len xs.length xs.length
    have h900 : xs.length * xs.length ≤ 900 := Nat.mul_le_mul hl hl
    have el : (pr2 xs).length = (ipTo xs.length xs.length).length := by rw [pr2_ip, List.length_map]
    refine lc_it walk_list (fun i H' => Same H1 H' ∧ ∃ ts, H' D = some (.lst ts) ∧ Prs H' ts ((pr2 xs).take i)) ⟨Sm.new hD, [], upd_same, prs_nil⟩ (fun i G hi z => SqL.of (z.1 _ _ hp1)) ?_ ?_
    · rintro i y G1 G2 hi ⟨q1, ts, q2, q3⟩ ⟨rfl, hy⟩
      have hi' : i < (ipTo xs.length xs.length).length := by rw [← hlen]; exact hi
      obtain ⟨b, rfl, hb⟩ := hP1.2 i y _ hy (by rw [List.getElem?_map, List.getElem?_eq_getElem hi']; rfl)
      have hm := ipTo_mem (Nat.le_refl _) (List.getElem_mem hi')
      have en0 : (pr2 xs)[i]? = some (atV xs ((ipTo xs.length xs.length)[i]).1, atV xs ((ipTo xs.length xs.length)[i]).2) := by
        rw [pr2_ip, List.getElem?_map, List.getElem?_eq_getElem hi']
        rfl
      generalize (ipTo xs.length xs.length)[i] = pq at hb hm en0
      have it2 := (hS.sm s1).sm q1
      have ix : ∀ {j : Nat} {G : Hp}, Same G2 G → j < xs.length → ∀ R : VK, R (atV xs j) G → rIx K v (.int (j : Nat)) G R := fun {j G} sG hj R hR => by
        have e : atV xs j = xs[j] := by
          show xs.getD j .non = xs[j]
          rw [List.getD_eq_getElem?_getD, List.getElem?_eq_getElem hj]
          rfl
        rw [e] at hR
        rcases it2.sm sG with ⟨a, rfl, h⟩ | ⟨l, rfl, rfl⟩
        · exact .inl ⟨a, _, _, _, rfl, rfl, h, atI_nat (List.getElem?_eq_getElem hj), hR⟩
        · have hj' : j < l.length := by rw [List.length_map] at hj; exact hj
          refine .inr (.inr ⟨Tx l, _, l[j], rfl, rfl, by rw [List.length_map] at hl; rw [tx_len]; exact Nat.le_trans hl (by decide), by rw [tx_list]; exact atI_nat (List.getElem?_eq_getElem hj'), ?_⟩)
          rw [List.getElem_map] at hR
          exact hR
      refine ⟨b, _, rfl, SqT.of (q1 _ _ hb), rfl, _, _, rfl, _, _, rfl, rfl, rfl, ?_⟩
      refine ⟨_, rfl, _, rfl, ix (Same.refl _) (by omega) _ ?_⟩
      refine ⟨_, rfl, _, rfl, ix (Same.refl _) (by omega) _ ?_⟩
      refine ⟨by show 2 ≤ sizeLine; decide, fun t ht => ?_⟩
      have nD : t ≠ D := fun z => by rw [z, q2] at ht; cases ht
      have st := Sm.new (o := .tup [atV xs pq.1, atV xs pq.2]) ht
      refine ⟨ts, st _ _ q2, small_lt (by rw [q3.1, List.length_take]; omega), Sm.put (q1.trans st) hD, _, upd_same, ?_⟩
      rw [List.take_succ, en0]
      exact prs_upd (st _ _ q2) (prs_snoc (prs_same st q3) upd_same)
    · rintro G ⟨q1, ts, q2, q3⟩
      refine q _ D ts (s1.trans q1) q2 ?_
      rw [hlen, ← el, List.take_length] at q3
      exact q3
end
end W5.V
namespace W5.V
open PySem PySem.Spec PyProof.Rows L2 K0 K6
open K4 hiding Blt
/-! ### partings of sounds -/
theorem pr2_iff {α : Type} {R : α → α → Prop} : ∀ {l : List α}, l.Pairwise R ↔ ∀ p ∈ pr2 l, R p.1 p.2
  | [] => ⟨fun _ p h => absurd h List.not_mem_nil, fun _ => .nil⟩
  | x :: r => by
    rw [List.pairwise_cons, pr2_iff (l := r)]
    constructor
    · rintro ⟨h1, h2⟩ p hp
      rcases List.mem_append.mp hp with hp | hp
      · obtain ⟨y, hy, rfl⟩ := List.mem_map.mp hp
        exact h1 y hy
      · exact h2 p hp
    · intro h
      exact ⟨fun y hy => h (x, y) (List.mem_append_left _ (List.mem_map.mpr ⟨y, hy, rfl⟩)), fun p hp => h p (List.mem_append_right _ hp)⟩
/-- no two of a lot are against one another -/
def lotOk (B : Nat → Nat → Bool) (l : List Nat) : Bool := !((pr2 l).any fun p => B p.1 p.2)
theorem lotOk_iff {B : Nat → Nat → Bool} {l : List Nat} : lotOk B l = true ↔ l.Pairwise fun x y => B x y = false := by
  unfold lotOk
  rw [pr2_iff, Bool.not_eq_true', List.any_eq_false]
  exact ⟨fun h p hp => Bool.not_eq_true _ ▸ h p hp, fun h p hp => by rw [h p hp]; decide⟩
def stepP (B : Nat → Nat → Bool) (s : Nat) (lots : List (List Nat)) : List (List (List Nat)) :=
  (lots ++ [[s]]) :: (List.range lots.length).filterMap fun i => if lotOk B (lots.getD i [] ++ [s]) = true then some (lots.take i ++ (lots.getD i [] ++ [s]) :: lots.drop (i + 1)) else none
def prt (B : Nat → Nat → Bool) (S : List Nat) : List (List (List Nat)) := S.foldl (fun found s => found.flatMap (stepP B s)) [[]]
theorem prt_snoc (B : Nat → Nat → Bool) (S : List Nat) (s : Nat) : prt B (S ++ [s]) = (prt B S).flatMap (stepP B s) := by
  unfold prt
  rw [List.foldl_append]
  rfl
/-- sounds told apart by colours -/
structure Col (B : Nat → Nat → Bool) (S : List Nat) (f : Nat → Nat) (cs : List Nat) : Prop where
  nd : cs.Nodup
  mem : ∀ x ∈ S, f x ∈ cs
  ne : ∀ c ∈ cs, ∃ x ∈ S, f x = c
  ok : S.Pairwise fun x y => f x = f y → B x y = false
def cls (S : List Nat) (f : Nat → Nat) (c : Nat) : List Nat := S.filter fun x => decide (f x = c)
def lotsOf (S : List Nat) (f : Nat → Nat) (cs : List Nat) : List (List Nat) := cs.map (cls S f)
theorem cls_snoc (S : List Nat) (f : Nat → Nat) (c s : Nat) : cls (S ++ [s]) f c = cls S f c ++ (if f s = c then [s] else []) := by
  unfold cls
  rw [List.filter_append, List.filter_cons]
  by_cases h : f s = c
  · rw [if_pos (decide_eq_true h), if_pos h]
    rfl
  · rw [if_neg (by rw [decide_eq_false h]; decide), if_neg h]
    rfl
theorem cls_mem {S : List Nat} {f : Nat → Nat} {c x : Nat} : x ∈ cls S f c ↔ x ∈ S ∧ f x = c := by
  unfold cls
  rw [List.mem_filter, decide_eq_true_eq]
theorem pw_snoc {α : Type} {R : α → α → Prop} {l : List α} {x : α} : (l ++ [x]).Pairwise R ↔ l.Pairwise R ∧ ∀ y ∈ l, R y x := by
  rw [List.pairwise_append]
  constructor
  · rintro ⟨h1, _, h2⟩
    exact ⟨h1, fun y hy => h2 y hy x List.mem_cons_self⟩
  · rintro ⟨h1, h2⟩
    exact ⟨h1, List.pairwise_singleton _ _, fun y hy z hz => by rw [List.mem_singleton.mp hz]; exact h2 y hy⟩
theorem cls_ok {B : Nat → Nat → Bool} {S : List Nat} {f : Nat → Nat} (h : S.Pairwise fun x y => f x = f y → B x y = false) (c : Nat) : lotOk B (cls S f c) = true := by
  refine lotOk_iff.mpr ?_
  have h2 := h.filter (p := fun x => decide (f x = c))
  unfold cls
  refine h2.imp_of_mem fun {a b} ha hb q => q ?_
  rw [of_decide_eq_true (List.mem_filter.mp ha).2, of_decide_eq_true (List.mem_filter.mp hb).2]
theorem put_lot {cs : List Nat} (nd : cs.Nodup) {i : Nat} (hi : i < cs.length) {S : List Nat} {f : Nat → Nat} {s : Nat} (hs : f s = cs[i]) :
    (lotsOf S f cs).take i ++ ((lotsOf S f cs).getD i [] ++ [s]) :: (lotsOf S f cs).drop (i + 1) = lotsOf (S ++ [s]) f cs := by
  have e1 : (lotsOf S f cs).getD i [] = cls S f (f s) := by
    unfold lotsOf
    rw [List.getD_eq_getElem?_getD, List.getElem?_map, List.getElem?_eq_getElem hi, ← hs]
    rfl
  have e2 : cls S f (f s) ++ [s] = cls (S ++ [s]) f (f s) := by rw [cls_snoc, if_pos rfl]
  rw [e1, e2]
  unfold lotsOf
  rw [← List.map_take, ← List.map_drop]
  have e3 : cs = cs.take i ++ f s :: cs.drop (i + 1) := by
    have := List.drop_eq_getElem_cons hi
    rw [← hs] at this
    rw [← this, List.take_append_drop]
  have same : ∀ c ∈ cs, c ≠ f s → cls (S ++ [s]) f c = cls S f c := fun c _ n => by
    rw [cls_snoc, if_neg fun z => n z.symm, List.append_nil]
  rw [e3] at nd
  obtain ⟨n1, n2, n3⟩ := List.nodup_append.mp nd
  obtain ⟨n4, n5⟩ := List.nodup_cons.mp n2
  conv => rhs; rw [e3, List.map_append, List.map_cons]
  congr 1
  · refine (List.map_congr_left fun c hc' => ?_).symm
    exact same c (List.mem_of_mem_take hc') fun z => n3 c hc' (f s) List.mem_cons_self z
  · congr 1
    refine (List.map_congr_left fun c hc' => ?_).symm
    exact same c (List.mem_of_mem_drop hc') fun z => n4 (z ▸ hc')
theorem fresh : ∀ cs : List Nat, ∃ n, ∀ c ∈ cs, c < n
  | [] => ⟨0, fun c h => absurd h List.not_mem_nil⟩
  | a :: r => by
    obtain ⟨n, hn⟩ := fresh r
    exact ⟨max n (a + 1), fun c hc => by
      rcases List.mem_cons.mp hc with rfl | hc
      · omega
      · have := hn c hc
        omega⟩
/-- all of them are found -/
theorem prt_of {B : Nat → Nat → Bool} {f : Nat → Nat} (S : List Nat) : (S.Pairwise fun x y => f x = f y → B x y = false) → ∃ cs, Col B S f cs ∧ lotsOf S f cs ∈ prt B S := by
  have key : ∀ (T : List Nat), (T.reverse.Pairwise fun x y => f x = f y → B x y = false) → ∃ cs, Col B T.reverse f cs ∧ lotsOf T.reverse f cs ∈ prt B T.reverse := by
    intro T
    induction T with
    | nil => exact fun _ => ⟨[], ⟨.nil, fun x h => absurd h List.not_mem_nil, fun x h => absurd h List.not_mem_nil, .nil⟩, List.mem_singleton.mpr rfl⟩
    | cons s T ih =>
      rw [List.reverse_cons]
      intro h
      obtain ⟨h1, h2⟩ := pw_snoc.mp h
      obtain ⟨cs, hc, hin⟩ := ih h1
      generalize T.reverse = S at *
      rw [prt_snoc]
      by_cases hm : f s ∈ cs
      · refine ⟨cs, ⟨hc.nd, fun x hx => ?_, fun c hc' => ?_, h⟩, List.mem_flatMap.mpr ⟨_, hin, ?_⟩⟩
        · rcases List.mem_append.mp hx with hx | hx
          · exact hc.mem x hx
          · rw [List.mem_singleton.mp hx]
            exact hm
        · obtain ⟨x, hx, e⟩ := hc.ne c hc'
          exact ⟨x, List.mem_append_left _ hx, e⟩
        · obtain ⟨i, hi, ei⟩ := List.getElem_of_mem hm
          refine List.mem_cons_of_mem _ (List.mem_filterMap.mpr ⟨i, List.mem_range.mpr (by unfold lotsOf; rw [List.length_map]; exact hi), ?_⟩)
          have e1 : (lotsOf S f cs).getD i [] = cls S f (f s) := by
            unfold lotsOf
            rw [List.getD_eq_getElem?_getD, List.getElem?_map, List.getElem?_eq_getElem hi, ei]
            rfl
          have e2 : cls S f (f s) ++ [s] = cls (S ++ [s]) f (f s) := by rw [cls_snoc, if_pos rfl]
          rw [if_pos (by rw [e1, e2]; exact cls_ok h (f s)), put_lot hc.nd hi ei.symm]
      · refine ⟨cs ++ [f s], ⟨List.nodup_append.mpr ⟨hc.nd, List.nodup_cons.mpr ⟨List.not_mem_nil, .nil⟩, fun a ha b hb z => hm (by rw [← List.mem_singleton.mp hb, ← z]; exact ha)⟩, fun x hx => ?_, fun c hc' => ?_, h⟩, List.mem_flatMap.mpr ⟨_, hin, ?_⟩⟩
        · rcases List.mem_append.mp hx with hx | hx
          · exact List.mem_append_left _ (hc.mem x hx)
          · rw [List.mem_singleton.mp hx]
            exact List.mem_append_right _ List.mem_cons_self
        · rcases List.mem_append.mp hc' with hc' | hc'
          · obtain ⟨x, hx, e⟩ := hc.ne c hc'
            exact ⟨x, List.mem_append_left _ hx, e⟩
          · exact ⟨s, List.mem_append_right _ List.mem_cons_self, (List.mem_singleton.mp hc').symm⟩
        · refine List.mem_cons.mpr (.inl ?_)
          unfold lotsOf
          rw [List.map_append]
          congr 1
          · refine List.map_congr_left fun c hc' => ?_
            rw [cls_snoc, if_neg (fun z : f s = c => hm (by rw [z]; exact hc')), List.append_nil]
          · show [cls (S ++ [s]) f (f s)] = [[s]]
            rw [cls_snoc, if_pos rfl]
            have : cls S f (f s) = [] := List.filter_eq_nil_iff.mpr fun x hx z => hm (by rw [← of_decide_eq_true z]; exact hc.mem x hx)
            rw [this]
            rfl
  intro h
  have := key S.reverse
  rw [List.reverse_reverse] at this
  exact this h
/-- and nothing else is -/
theorem col_of {B : Nat → Nat → Bool} (S : List Nat) : S.Nodup → ∀ R ∈ prt B S, ∃ f cs, Col B S f cs ∧ R = lotsOf S f cs := by
  have key : ∀ (T : List Nat), T.reverse.Nodup → ∀ R ∈ prt B T.reverse, ∃ f cs, Col B T.reverse f cs ∧ R = lotsOf T.reverse f cs := by
    intro T
    induction T with
    | nil =>
      intro _ R h
      rw [List.mem_singleton.mp h]
      exact ⟨fun _ => 0, [], ⟨.nil, fun x h => absurd h List.not_mem_nil, fun x h => absurd h List.not_mem_nil, .nil⟩, rfl⟩
    | cons s T ih =>
      rw [List.reverse_cons]
      intro nd R h
      obtain ⟨nd1, nd2⟩ := pw_snoc.mp nd
      generalize T.reverse = S at *
      rw [prt_snoc] at h
      obtain ⟨R0, h0, h1⟩ := List.mem_flatMap.mp h
      obtain ⟨f, cs, hc, rfl⟩ := ih nd1 R0 h0
      have other : ∀ a, ∃ g : Nat → Nat, (∀ x ∈ S, g x = f x) ∧ g s = a := fun a => ⟨fun x => if x = s then a else f x, fun x hx => if_neg fun z => nd2 x hx z, if_pos rfl⟩
      have clsO : ∀ {g : Nat → Nat} (c : Nat), (∀ x ∈ S, g x = f x) → cls S g c = cls S f c := fun {g} c h => by
        unfold cls
        refine List.filter_congr fun x hx => ?_
        rw [h x hx]
      rcases List.mem_cons.mp h1 with rfl | h1
      · -- a lot of its own: a new colour
        obtain ⟨fr, hfr⟩ := fresh cs
        have nfr : fr ∉ cs := fun z => Nat.lt_irrefl _ (hfr _ z)
        obtain ⟨g, eS, es⟩ := other fr
        refine ⟨g, cs ++ [fr], ⟨List.nodup_append.mpr ⟨hc.nd, List.nodup_cons.mpr ⟨List.not_mem_nil, .nil⟩, fun a ha b hb z => nfr (by rw [← List.mem_singleton.mp hb, ← z]; exact ha)⟩, fun x hx => ?_, fun c hc' => ?_, pw_snoc.mpr ⟨?_, fun y hy e => ?_⟩⟩, ?_⟩
        · rcases List.mem_append.mp hx with hx | hx
          · rw [eS x hx]
            exact List.mem_append_left _ (hc.mem x hx)
          · rw [List.mem_singleton.mp hx, es]
            exact List.mem_append_right _ List.mem_cons_self
        · rcases List.mem_append.mp hc' with hc' | hc'
          · obtain ⟨x, hx, e⟩ := hc.ne c hc'
            exact ⟨x, List.mem_append_left _ hx, (eS x hx).trans e⟩
          · exact ⟨s, List.mem_append_right _ List.mem_cons_self, es.trans (List.mem_singleton.mp hc').symm⟩
        · refine hc.ok.imp_of_mem fun {a b} ha hb q e => q ?_
          rw [← eS a ha, ← eS b hb]
          exact e
        · rw [eS y hy, es] at e
          exact absurd (e ▸ hc.mem y hy) nfr
        · unfold lotsOf
          rw [List.map_append]
          congr 1
          · refine List.map_congr_left fun c hc' => ?_
            rw [cls_snoc, if_neg (fun z : g s = c => nfr (by rw [← es, z]; exact hc')), List.append_nil, clsO c eS]
          · show [[s]] = [cls (S ++ [s]) g fr]
            rw [cls_snoc, if_pos es, clsO fr eS]
            have : cls S f fr = [] := List.filter_eq_nil_iff.mpr fun x hx z => nfr (by rw [← of_decide_eq_true z]; exact hc.mem x hx)
            rw [this]
            rfl
      · obtain ⟨i, hi, e⟩ := List.mem_filterMap.mp h1
        have hi := List.mem_range.mp hi
        have hi' : i < cs.length := by
          unfold lotsOf at hi
          rw [List.length_map] at hi
          exact hi
        by_cases hl : lotOk B ((lotsOf S f cs).getD i [] ++ [s]) = true
        · rw [if_pos hl] at e
          have e := Option.some.inj e
          obtain ⟨g, eS, es⟩ := other cs[i]
          have eL : lotsOf S f cs = lotsOf S g cs := List.map_congr_left fun c _ => (clsO c eS).symm
          have eg : (lotsOf S f cs).getD i [] = cls S f cs[i] := by
            unfold lotsOf
            rw [List.getD_eq_getElem?_getD, List.getElem?_map, List.getElem?_eq_getElem hi']
            rfl
          rw [eg] at hl
          obtain ⟨_, hl⟩ := pw_snoc.mp (lotOk_iff.mp hl)
          refine ⟨g, cs, ⟨hc.nd, fun x hx => ?_, fun c hc' => ?_, pw_snoc.mpr ⟨?_, fun y hy q => ?_⟩⟩, ?_⟩
          · rcases List.mem_append.mp hx with hx | hx
            · rw [eS x hx]
              exact hc.mem x hx
            · rw [List.mem_singleton.mp hx, es]
              exact List.getElem_mem hi'
          · obtain ⟨x, hx, e⟩ := hc.ne c hc'
            exact ⟨x, List.mem_append_left _ hx, (eS x hx).trans e⟩
          · refine hc.ok.imp_of_mem fun {a b} ha hb q e => q ?_
            rw [← eS a ha, ← eS b hb]
            exact e
          · rw [eS y hy, es] at q
            exact hl y (cls_mem.mpr ⟨hy, q⟩)
          · rw [← e, eL]
            exact put_lot hc.nd hi' es
        · rw [if_neg hl] at e
          cases e
  intro nd R h
  have := key S.reverse
  rw [List.reverse_reverse] at this
  exact this nd R h
/-! ### coarsest partings -/
abbrev joinS (l m : List Nat) : List Nat := K5.canon (l ++ m)
def isC (B : Nat → Nat → Bool) (R : List (List Nat)) : Bool := !((pr2 R).any fun p => lotOk B (joinS p.1 p.2))
theorem nd_len : ∀ (k : Nat) (l : List Nat), l.Nodup → (∀ x ∈ l, x < k) → l.length ≤ k
  | 0, [], _, _ => Nat.le_refl _
  | 0, a :: _, _, h => absurd (h a List.mem_cons_self) (Nat.not_lt_zero _)
  | k + 1, l, nd, h => by
    have h2 := nd_len k (l.erase k) (nd.erase k) fun x hx => by
      obtain ⟨n, hx⟩ := nd.mem_erase_iff.mp hx
      have := h x hx
      omega
    rw [List.length_erase] at h2
    split at h2 <;> omega
theorem min_nat (P : Nat → Prop) : ∀ n, P n → ∃ k, k ≤ n ∧ P k ∧ ∀ j, j < k → ¬ P j := by
  intro n
  induction n using Nat.strongRecOn with
  | _ n ih =>
    intro h
    by_cases c : ∃ j, j < n ∧ P j
    · obtain ⟨j, h1, h2⟩ := c
      obtain ⟨k, a, b, d⟩ := ih j h1 h2
      exact ⟨k, by omega, b, d⟩
    · exact ⟨n, Nat.le_refl _, h, fun j h1 h2 => c ⟨j, h1, h2⟩⟩
theorem pw_lt {R : Nat → Nat → Prop} : ∀ {l : List Nat}, (l.Pairwise fun a b => a ≤ b) → l.Pairwise R → ∀ {x y}, x ∈ l → y ∈ l → x < y → R x y
  | a :: r, h1, h2, x, y, hx, hy, h => by
    obtain ⟨p1, p2⟩ := List.pairwise_cons.mp h1
    obtain ⟨q1, q2⟩ := List.pairwise_cons.mp h2
    rcases List.mem_cons.mp hx with e | hx'
    · rcases List.mem_cons.mp hy with e' | hy'
      · omega
      · rw [e]
        exact q1 y hy'
    · rcases List.mem_cons.mp hy with e' | hy'
      · have := p1 x hx'
        omega
      · exact pw_lt p2 q2 hx' hy' h
theorem joinS_mem {l m : List Nat} (h : ∀ x ∈ l ++ m, x < 128) {x : Nat} : x ∈ joinS l m ↔ x ∈ l ∨ x ∈ m := by
  rw [← List.mem_append]
  exact K5.canon_mem h x
theorem coarse {B : Nat → Nat → Bool} {S : List Nat} (low : ∀ x ∈ S, x < 128) (asc : S.Pairwise fun a b => a < b) {f0 : Nat → Nat} {cs0 : List Nat} (h0 : Col B S f0 cs0) :
    ∃ f cs, Col B S f cs ∧ lotsOf S f cs ∈ prt B S ∧ isC B (lotsOf S f cs) = true ∧ (∀ x ∈ S, ∀ y ∈ S, f0 x = f0 y → f x = f y) ∧ cs.length ≤ cs0.length := by
  obtain ⟨k, hk, ⟨f, f1, f2, f3⟩, least⟩ := min_nat (fun k => ∃ f : Nat → Nat, (∀ x ∈ S, f x < k) ∧ (S.Pairwise fun x y => f x = f y → B x y = false) ∧ ∀ x ∈ S, ∀ y ∈ S, f0 x = f0 y → f x = f y) cs0.length
    ⟨fun x => cs0.idxOf (f0 x), fun x hx => List.idxOf_lt_length_of_mem (h0.mem x hx), h0.ok.imp_of_mem fun {a b} ha hb q e => q (by
      have e1 := List.getElem_idxOf (List.idxOf_lt_length_of_mem (h0.mem a ha))
      have e2 := List.getElem_idxOf (List.idxOf_lt_length_of_mem (h0.mem b hb))
      rw [← e1, ← e2]
      simp only [e]), fun x _ y _ e => by show cs0.idxOf (f0 x) = cs0.idxOf (f0 y); rw [e]⟩
  obtain ⟨cs, hc, hin⟩ := prt_of S f2
  refine ⟨f, cs, hc, hin, ?_, f3, Nat.le_trans (nd_len k cs hc.nd fun c h => ?_) hk⟩
  · by_cases no : isC B (lotsOf S f cs) = true
    · exact no
    · unfold isC at no
      rw [Bool.not_eq_true', Bool.not_eq_false, List.any_eq_true] at no
      obtain ⟨p, hp, hl⟩ := no
      unfold lotsOf at hp
      rw [pr2_map] at hp
      obtain ⟨⟨a, b⟩, hab, rfl⟩ := List.mem_map.mp hp
      have ne : a ≠ b := pr2_iff.mp hc.nd (a, b) hab
      have mem : ∀ {l : List Nat} {p : Nat × Nat}, p ∈ pr2 l → p.1 ∈ l ∧ p.2 ∈ l := by
        intro l
        induction l with
        | nil => exact fun {p} h => absurd h List.not_mem_nil
        | cons x r ih =>
          intro p h
          rcases List.mem_append.mp h with h | h
          · obtain ⟨y, hy, rfl⟩ := List.mem_map.mp h
            exact ⟨List.mem_cons_self, List.mem_cons_of_mem _ hy⟩
          · obtain ⟨h1, h2⟩ := ih h
            exact ⟨List.mem_cons_of_mem _ h1, List.mem_cons_of_mem _ h2⟩
      obtain ⟨ha, hb⟩ := mem hab
      have lt : ∀ c ∈ cs, c < k := fun c h => by
        obtain ⟨x, hx, e⟩ := hc.ne c h
        rw [← e]
        exact f1 x hx
      have la := lt a ha
      have lb := lt b hb
      have jok : ∀ x ∈ S, ∀ y ∈ S, (f x = a ∨ f x = b) → (f y = a ∨ f y = b) → x < y → B x y = false := fun x hx y hy h1 h2 h => by
        have m : ∀ z ∈ S, (f z = a ∨ f z = b) → z ∈ joinS (cls S f a) (cls S f b) := fun z hz h => (joinS_mem fun x hx => low x ((List.mem_append.mp hx).elim (fun h => (cls_mem.mp h).1) fun h => (cls_mem.mp h).1)).mpr (h.imp (fun h => cls_mem.mpr ⟨hz, h⟩) fun h => cls_mem.mpr ⟨hz, h⟩)
        exact pw_lt (R := fun x y => B x y = false) ((K5.canon_lt _).imp fun h => Nat.le_of_lt h) (lotOk_iff.mp hl) (m x hx h1) (m y hy h2) h
      refine absurd ?_ (least (k - 1) (by omega))
      obtain ⟨lo, hi, hlo, hhi⟩ : ∃ lo hi, lo < hi ∧ ((a = lo ∧ b = hi) ∨ (a = hi ∧ b = lo)) := by
        rcases Nat.lt_or_gt_of_ne ne with h | h
        · exact ⟨a, b, h, .inl ⟨rfl, rfl⟩⟩
        · exact ⟨b, a, h, .inr ⟨rfl, rfl⟩⟩
      have hik : hi < k := by omega
      obtain ⟨g, g1, g2, g3⟩ : ∃ g : Nat → Nat, g hi = lo ∧ (hi ≠ k - 1 → g (k - 1) = hi) ∧ ∀ c, c ≠ hi → c ≠ k - 1 → g c = c :=
        ⟨fun c => if c = hi then lo else if c = k - 1 then hi else c, if_pos rfl, fun n => (if_neg fun z => n z.symm).trans (if_pos rfl), fun c n1 n2 => (if_neg n1).trans (if_neg n2)⟩
      have gl : ∀ c, c < k → g c < k - 1 ∧ (g c = lo → c = lo ∨ c = hi) ∧ (g c ≠ lo → ∀ c', c' < k → g c' = g c → c' = c) := by
        intro c hc'
        have cases : ∀ c, c < k → (c = hi ∧ g c = lo) ∨ (c = k - 1 ∧ hi ≠ k - 1 ∧ g c = hi) ∨ (c ≠ hi ∧ c ≠ k - 1 ∧ g c = c) := fun c _ => by
          by_cases n1 : c = hi
          · exact .inl ⟨n1, by rw [n1, g1]⟩
          · by_cases n2 : c = k - 1
            · exact .inr (.inl ⟨n2, fun z => n1 (n2.trans z.symm), by rw [n2]; exact g2 fun z => n1 (n2.trans z.symm)⟩)
            · exact .inr (.inr ⟨n1, n2, g3 c n1 n2⟩)
        refine ⟨?_, fun h => ?_, fun h c' hc2 e => ?_⟩
        · rcases cases c hc' with ⟨h1, h2⟩ | ⟨h1, h2, h3⟩ | ⟨h1, h2, h3⟩ <;> omega
        · rcases cases c hc' with ⟨h1, h2⟩ | ⟨h1, h2, h3⟩ | ⟨h1, h2, h3⟩ <;> omega
        · rcases cases c hc' with ⟨h1, h2⟩ | ⟨h1, h2, h3⟩ | ⟨h1, h2, h3⟩ <;> rcases cases c' hc2 with ⟨i1, i2⟩ | ⟨i1, i2, i3⟩ | ⟨i1, i2, i3⟩ <;> omega
      refine ⟨fun x => g (f x), fun x hx => (gl _ (f1 x hx)).1, ?_, fun x hx y hy e => by show g (f x) = g (f y); rw [f3 x hx y hy e]⟩
      have both := asc.and f2
      refine both.imp_of_mem fun {x y} hx hy ⟨h1, h2⟩ e => ?_
      have e : g (f x) = g (f y) := e
      by_cases z : g (f x) = lo
      · have p1 := (gl _ (f1 x hx)).2.1 z
        have p2 := (gl _ (f1 y hy)).2.1 (e ▸ z)
        exact jok x hx y hy (by omega) (by omega) h1
      · exact h2 ((gl _ (f1 y hy)).2.2 (e ▸ z) _ (f1 x hx) e)
  · obtain ⟨x, hx, e⟩ := hc.ne c h
    rw [← e]
    exact f1 x hx
end W5.V
namespace W5.V
open PySem PySem.Spec PyProof.Rows L2 K0 K6
open K4 hiding Blt
/-! ### sorted(text) -/
section
open Builtin PySem.Calls PySem.W
variable {P : Program} {w : World} {A : Around} {E : Value → Shared → Prop} {s : Shared}
/-- a text's signs in a list; the heap has grown -/
theorem collect_txt {Q : List Value → Shared → Prop} {x : Str} {t : Tok} (hh : A.handled = none) (few : x.cps.size ≤ sizeLine)
    (go : ∀ (s' : Shared) (acc : Array Value), (∀ b o, s.heap.get? b = some o → s'.heap.get? b = some o) → s.heap.objs.size < s'.heap.objs.size → s'.gens = s.gens → s'.os = s.os → ItemsOf (SignAt x) acc x.cps.size → Q acc.toList s') :
    wpAny (model P w) A (collect (.str x t)) Q E s := by
  let L : Obj := { cls := .type "list", data := .seq ([] : List Value).toArray }
  have atL : (s.heap.push L).get? s.heap.objs.size = some L := Heap.get?_push_size _ rfl
  have szL : (s.heap.push L).objs.size = s.heap.objs.size + 1 := Heap.size_push _ _
  unfold collect
  apply wpAny_bind
  apply wpAny_runValue
  apply codeAny_builtin F.entry_proto_collect
  rw [Around.under_plainId F.plain_proto_collect]
  apply wpAny_bind
  refine wpAny_newObj_type ?_
  apply wpAny_pure
  constructor
  · exact plainId_quiet F.plain_list_iadd _
  apply codeAny_builtin F.entry_list_iadd
  rw [Around.under_plainId F.plain_list_iadd]
  change wpAny _ _ (Builtin.List.listExtendWith (.ref s.heap.objs.size) (.str x t) (.ref s.heap.objs.size)) _ _ _
  unfold Builtin.List.listExtendWith
  apply wpAny_bind
  apply wpAny_typeOf (T := "str") (v := Value.str x t) rfl
  rw [show Builtin.List.listSameRef (.ref s.heap.objs.size) (.str x t) = false from rfl]
  rw [show (Value.type "str" == Value.type "list") = false by decide, show (Value.type "str" == Value.type "tuple") = false by decide]
  dsimp only [Bool.or_false, Bool.false_eq_true, if_false]
  apply wpAny_bind
  apply wpAny_pyIter_str
  intro o St W hst
  apply wpAny_bind
  apply wpAny_holding
  unfold Builtin.List.listLengthHint
  apply wpAny_bind
  apply wpAny_specialOf (T := "str") (v := Value.str x t) rfl F.str_len
  wp_delta
  apply wpAny_bind
  apply wpAny_isInstance (T := "str") (v := Value.str x t) (b := true) rfl (by rw [isSubtype_type]; kernel_rfl)
  change wpAny _ _ (typeOf (Value.str x t) >>= _) _ _ _
  apply wpAny_bind
  apply wpAny_typeOf (T := "str") (v := Value.str x t) rfl
  apply wpAny_pure
  rw [if_neg (by decide)]
  change St 0 ((s.heap.push L).push o) at hst
  change wpAny _ _ (pure _) _ _ { s with heap := (s.heap.push L).push o }
  have nIt : s.heap.objs.size ∉ [(s.heap.push L).objs.size] := fun z => by
    have := List.mem_singleton.mp z
    omega
  apply wpAny_pure
  refine ⟨plainId_quiet F.plain_extend_loop _, ?_⟩
  refine codeAny_extend_loopS (W A.in1 hh).toS few _ nIt _ x.cps.size 0 _ _ _ rfl (Nat.zero_le _) hst (Heap.get?_push_of_some _ atL) (ItemsOf.nil _) ?_
  intro s' acc c mv at' its
  change wpAny _ A (load s.heap.objs.size >>= _) _ _ s'
  apply wpAny_bind
  apply wpAny_load at'
  apply wpAny_pure
  refine go s' acc (fun b u e => ?_) (Heap.lt_size at') mv.gens mv.os its
  have lt := Heap.lt_size e
  refine mv.heap b u (fun z => ?_) (Heap.get?_push_of_some _ (Heap.get?_push_of_some _ e))
  rcases List.mem_cons.mp z with z | z
  · rw [z] at lt
    exact absurd lt (Nat.lt_irrefl _)
  · rw [List.mem_singleton.mp z] at lt
    have lt : (s.heap.push L).objs.size < s.heap.objs.size := lt
    rw [szL] at lt
    exact absurd lt (Nat.not_lt.mpr (Nat.le_succ _))
theorem sorted_text {x : Str} {t : Tok} {Q : Value → Shared → Prop} (hh : A.handled = none) (h64 : x.cps.size < 64)
    (hQ : ∀ (s' : Shared) (b : Addr) (out : Array Value) (c : Nat) (ss : List Str), (∀ b o, s.heap.get? b = some o → s'.heap.get? b = some o) → s'.gens = s.gens → s'.os = s.os → s.heap.objs.size ≤ b → s'.heap.get? b = some (seqObj "list" out c) → StrsAre out.toList ss → ss.Perm (x.cps.toList.map fun c => Tx [c]) →
      sortedS ss = true → Q (.ref b) s') : wpAny (model P w) A (call (.builtin "sorted") [.str x t]) Q E s := by
  refine Calls.call_function_entry kind_sorted plain_sorted entry_sorted (args_sorted1 _) ?_
  unfold Builtin.«sorted»
  refine wpAny_bind (m := checkCount "sorted" 1 1 _) (wpAny_pure ?_)
  refine wpAny_bind (collect_txt (A := A.in1) hh (Nat.le_of_lt (Nat.lt_trans h64 (by decide))) fun s1 acc k1 z1 g1 o1 hacc => ?_)
  have hvl : acc.toList.length = x.cps.size := by rw [Array.length_toList]; exact hacc.1
  have hS : StrsAre acc.toList (x.cps.toList.map fun c => Tx [c]) := by
    have key : ∀ (l : List Nat) (us : List Value), us.length = l.length → (∀ (j : Nat) (v : Value), us[j]? = some v → ∃ c u, l[j]? = some c ∧ v = .str ⟨#[c]⟩ u) → StrsAre us (l.map fun c => Tx [c]) := by
      intro l
      induction l with
      | nil =>
        intro us hl _
        rw [List.eq_nil_of_length_eq_zero hl]
        exact .nil
      | cons c l ih =>
        intro us hl hu
        match us, hl with
        | v :: us, hl =>
          obtain ⟨c', u', e1, e2⟩ := hu 0 v rfl
          obtain rfl := Option.some.inj e1
          rw [e2]
          exact .cons _ _ (ih us (Nat.succ.inj hl) fun j w hw => hu (j + 1) w hw)
    refine key _ _ hvl fun j v hv => ?_
    obtain ⟨c, u, e1, e2⟩ := hacc.2 j v (by rw [← Array.getElem?_toList]; exact hv)
    exact ⟨c, u, by rw [Array.getElem?_toList]; exact e1, e2⟩
  refine wpAny_bind (wpAny_newList ?_ (by rw [hvl, sizeLine_eq]; omega))
  have hoL : (s1.heap.push (seqObj "list" acc.toList.toArray 0)).get? s1.heap.objs.size = some (seqObj "list" acc.toList.toArray 0) := Heap.get?_push_size _ rfl
  refine wpAny_bind (wpAny_holding (wpAny_call_entry slot_list_sort ⟨_, hoL, rfl⟩ entry_list_sort (list_sort_treeK strKind_oneLt hoL hS.keysOf (fun v₁ v₂ rest e => keyKind_strs (by rw [← e]; exact hS)) (by rw [hvl]; exact h64) fun st' hp' hs' => ⟨_, rfl, ?_⟩) (args_list_sort _)))
  obtain ⟨ss, a1, a2, a3⟩ := sorted_out_str hS hp' hs'
  obtain ⟨c, hc⟩ := sortedHeap_at (vs := acc.toList) (out := (arrOf st').map (·.2)) hoL
  have hz := Nat.le_of_lt z1
  refine wpAny_pure ⟨_, rfl, hQ _ s1.heap.objs.size ((arrOf st').map (·.2)) c ss (fun b u e => ?_) g1 o1 hz hc a1 a2 a3⟩
  have q := k1 b u e
  have hlt := Heap.lt_size q
  show (sortedHeap (s1.heap.push (seqObj "list" acc.toList.toArray 0)) s1.heap.objs.size acc.toList ((arrOf st').map (·.2))).get? b = some u
  rw [sortedHeap_old (Nat.ne_of_lt hlt) (by rw [size_push']; exact Nat.lt_succ_of_lt hlt)]
  exact Heap.get?_push_of_some _ q
end
section
variable {X : Cx}
def rSortTx : List V → Hp → VK → Prop := fun vs H Q => ∃ l : List Nat, vs = [V.str (Tx l)] ∧ l.length < 64 ∧ l.Nodup ∧ (∀ c ∈ l, c < 128) ∧ ∀ b, H b = none → Q (.ref b) (upd H b (.lst ((K5.canon l).map sgV)))
theorem cr_sortTx (hc : X.calm = true) : CallR X (.builtin "sorted") rSortTx := by
  intro pins s σ H vs us Q I r h
  obtain ⟨l, rfl, h64, nd, low, q⟩ := h
  obtain ⟨u, rfl, t, rfl⟩ := vals1 r
  refine sorted_text (P := X.prog) (w := X.w) (I.ok.hd hc) (by show (Tx l).cps.size < 64; rw [show (Tx l).cps.size = (Tx l).length from rfl, tx_len]; exact h64) fun s' p out c ss k g o hp hg hs hpm hso => ?_
  rw [tx_list] at hpm
  have es : ss = (K5.canon l).map (fun c : Nat => Tx [c]) := K5.canon_of low (List.pairwise_map.mpr (nd.imp fun {a b} n e => n (List.cons.inj (tx_inj e)).1)) (fun k => by
    rw [List.mem_map]
    exact ⟨fun ⟨c, h, e⟩ => ⟨c, h, e.symm⟩, fun ⟨c, h, e⟩ => ⟨c, h, e.symm⟩⟩) hpm hso
  subst es
  have hlen : (((K5.canon l).map (fun c : Nat => Tx [c])).map V.str).length ≤ sizeLine := by
    have := hpm.length_eq
    rw [List.length_map] at this
    rw [List.length_map, List.length_map, this, List.length_map]
    exact Nat.le_trans (Nat.le_of_lt h64) (by decide)
  have hn : H p = none := I.hok.fresh hp
  have J : Inv X pins σ (upd H p (.lst (((K5.canon l).map (fun c : Nat => Tx [c])).map V.str))) { s with heap := s'.heap, gens := s'.gens, drawn := s'.drawn, toks := s'.toks } :=
    I.call (ch := []) (Un.laid k hp hn) (I.hok.laid k hp ⟨hlen, out.toList, c, vals_of_strs hs, hg⟩) (by rw [g]; exact I.bare) (fun _ z => nomatch z)
  have e : s' = { s with heap := s'.heap, gens := s'.gens, drawn := s'.drawn, toks := s'.toks } := by
    cases s'
    cases s
    cases o
    rfl
  rw [e]
  refine ⟨.ref p, _, J, rfl, ?_⟩
  have := q p hn
  rw [List.map_map]
  exact this
end
end W5.V
namespace W5.V
open PySem PySem.Spec PyProof.Rows L2 K0 K6
open K4 hiding Blt
section
variable {P : Program} {w : World} {K : PySem.W.Frag} {mg : Str → Option Value} {base : Heap}
/-! ### is_lot_by_rule -/
abbrev k2 (c d : Nat) : List L2.Key := [.inr (Tx [c]), .inr (Tx [d])]
/-- the dict of the pairs that are against one another -/
def AgD (H : Hp) (a : Addr) (S : List Nat) (B : Nat → Nat → Bool) : Prop := ∃ kvs, H a = some (.dT kvs) ∧ ∀ c d, c ∈ S → d ∈ S → c < d → (valV kvs (k2 c d)).isSome = B c d
theorem AgD.sm {H H' : Hp} {a : Addr} {S : List Nat} {B : Nat → Nat → Bool} (s : Same H H') (h : AgD H a S B) : AgD H' a S B := by
  obtain ⟨kvs, e, h⟩ := h
  exact ⟨kvs, s _ _ e, h⟩
abbrev CAmV (P : Program) (w : World) (K : PySem.W.Frag) (mg : Str → Option Value) (base : Heap) : Prop := Cal P w K mg base 2 "pairs_among" st_pairs_among ["values"] (spAmongV K)
abbrev st_is_lot_by_rule : Stmt := top 35
abbrev nm_is_lot_by_rule : List Str := ["lot", "against", "pair"]
theorem sc_is_lot_by_rule : FnScope nm_is_lot_by_rule ["lot", "against"] (defScope st_is_lot_by_rule) := ⟨rfl, rfl, rfl, by decide +kernel, rfl, by decide +kernel, by decide +kernel⟩
def spLotBy (K : PySem.W.Frag) : Sp := fun vs H Q _ => ∃ (v : V) (a : Addr) (l S : List Nat) (B : Nat → Nat → Bool), vs = [v, .ref a] ∧ ItOf K H v (l.map sgV) ∧ l.length ≤ 30 ∧ AgD H a S B ∧ (l.Pairwise fun c d => c < d) ∧ (∀ c ∈ l, c ∈ S) ∧ ∀ H', Same H H' → Q (.bl (lotOk B l)) H'
theorem pr2_in {α : Type} : ∀ {l : List α} {p : α × α}, p ∈ pr2 l → p.1 ∈ l ∧ p.2 ∈ l
  | x :: r, p, h => by
    rcases List.mem_append.mp h with h | h
    · obtain ⟨y, hy, rfl⟩ := List.mem_map.mp h
      exact ⟨List.mem_cons_self, List.mem_cons_of_mem _ hy⟩
    · obtain ⟨h1, h2⟩ := pr2_in h
      exact ⟨List.mem_cons_of_mem _ h1, List.mem_cons_of_mem _ h2⟩
theorem pr2_len {α : Type} : ∀ l : List α, (pr2 l).length ≤ l.length * l.length
  | [] => Nat.le_refl _
  | x :: r => by
    have := pr2_len r
    show (r.map _ ++ pr2 r).length ≤ (r.length + 1) * (r.length + 1)
    rw [List.length_append, List.length_map, Nat.add_mul, Nat.mul_add]
    omega
theorem ok_lotby {f : Addr} {fd : FuncData} (F : Fun K "is_lot_by_rule" "is_lot_by_rule" st_is_lot_by_rule f fd) (T : Blt mg) (C_pairs_among : CAmV P w K mg base) : FnOk P w K mg base CX0 3 f fd ["lot", "against"] (spLotBy K) := by
  refine F.ok sc_is_lot_by_rule (fun vs H Q E h => ?_) (fun cdv A outer s H vs Q E hr h => ?_)
  · obtain ⟨_, _, _, _, _, rfl, _⟩ := h
    rfl
  · refine ⟨_, (pss_one (ps_ret (pe_not (pe_callB (cr_any rfl) (by rfl) T.n_any (by decide +kernel) (pa_cons (pe_lc (own := [("pair", 2)]) (g := (gName 2)) (tt := tYes) rfl sc_is_lot_by_rule.nd (pi_list (pe_cl C_pairs_among (hr.mono (by decide)) rfl (pa_cons (pv 0) pa_nil))) (blkOk_by (N := nm_is_lot_by_rule) (sc := defScope st_is_lot_by_rule) (own := [("pair", 2)]) (by decide +kernel)) (fun _ _ _ _ _ => by exact pg_name (i := 2) sc_is_lot_by_rule.nd rfl (Or.inl rfl)) (fun _ _ _ _ _ => pts_nil) (fun _ _ _ _ _ => (pe_cmp (pc_din (by exact hu_of hr) (pv 2) (pv 1)) (by first | rfl | exact nomark _)))) pa_nil))))), ?_⟩
    obtain ⟨v, a, l, S, B, rfl, hI, hl, hA, asc, hS, q⟩ := h
    rw [show L2.start nm_is_lot_by_rule [v, V.ref a] = [some v, some (V.ref a), none] from rfl]
    refine ⟨_, rfl, v, _, rfl, hI, by rw [List.length_map]; exact hl, fun H1 D1 ts s1 e1 p1 => ⟨D1, rfl, ⟨_, SqL.of e1⟩, fun D hD => ?_⟩⟩
    rw [pr2_map] at p1
    have hlen : ts.length = (pr2 l).length := by rw [p1.1, List.length_map]
    have h9 := pr2_len l
    have h900 : l.length * l.length ≤ 900 := Nat.mul_le_mul hl hl
    refine lc_it walk_list (fun i H' => Same H1 H' ∧ H' D = some (.lst (((pr2 l).take i).map fun p => V.bl (B p.1 p.2)))) ⟨Sm.new hD, upd_same⟩ (fun i G hi z => SqL.of (z.1 _ _ e1)) ?_ ?_
    · rintro i y G1 G2 hi ⟨q1, q2⟩ ⟨rfl, hy⟩
      have hi' : i < (pr2 l).length := by rw [← hlen]; exact hi
      obtain ⟨b, rfl, hb⟩ := p1.2 i y _ hy (by rw [List.getElem?_map, List.getElem?_eq_getElem hi']; rfl)
      have hm := List.getElem_mem hi'
      have en := List.getElem?_eq_getElem hi'
      generalize (pr2 l)[i] = pq at hb hm en
      obtain ⟨m1, m2⟩ := pr2_in hm
      have lt := pr2_iff.mp asc pq hm
      obtain ⟨kvs, ea, hk⟩ := (hA.sm s1).sm q1
      refine ⟨rfl, _, rfl, _, rfl, a, _, rfl, DGet.t (k := k2 pq.1 pq.2) ea (q1 _ _ hb), ?_⟩
      rw [hk _ _ (hS _ m1) (hS _ m2) lt]
      refine ⟨_, q2, small_lt (by rw [List.length_map, List.length_take]; omega), Sm.put q1 hD, ?_⟩
      rw [upd_same, List.take_add_one, en, List.map_append]
      rfl
    · rintro G ⟨q1, q2⟩
      rw [hlen, List.take_length] at q2
      refine ⟨D, (pr2 l).map fun p => B p.1 p.2, rfl, SqL.of (by rw [q2, List.map_map]; rfl), ?_⟩
      refine ⟨_, rfl, ?_⟩
      rw [List.any_map]
      exact q _ (s1.trans q1)
end
end W5.V
namespace W5.V
open PySem PySem.Spec PyProof.Rows L2 K0 K6
open K4 hiding Blt
section
variable {P : Program} {w : World} {K : PySem.W.Frag} {mg : Str → Option Value} {base : Heap}
/-! ### partings_of -/
abbrev CLotBy (P : Program) (w : World) (K : PySem.W.Frag) (mg : Str → Option Value) (base : Heap) : Prop := Cal P w K mg base 3 "is_lot_by_rule" st_is_lot_by_rule ["lot", "against"] (spLotBy K)
/-- partings, each a list of lots -/
def PtAt (H : Hp) (xs : List V) (Rs : List (List (List Nat))) : Prop := xs.length = Rs.length ∧ ∀ (i : Nat) x R, xs[i]? = some x → Rs[i]? = some R → ∃ T, x = .ref T ∧ H T = some (.lst (tws R))
theorem PtAt.sm {H H' : Hp} {xs : List V} {Rs : List (List (List Nat))} (h : PtAt H xs Rs) (s : Same H H') : PtAt H' xs Rs := ⟨h.1, fun i x q e1 e2 => by
  obtain ⟨T, e, a⟩ := h.2 i x q e1 e2
  exact ⟨T, e, s _ _ a⟩⟩
theorem PtAt.nil {H : Hp} : PtAt H [] [] := ⟨rfl, fun i x q e => by cases e⟩
/-- the places of a list are none of D's -/
theorem PtAt.put {H : Hp} {D : Addr} {xs ys : List V} {Rs : List (List (List Nat))} (n : ∀ x ∈ xs, x ≠ .ref D) (h : PtAt H xs Rs) : PtAt (upd H D (.lst ys)) xs Rs := ⟨h.1, fun i x q e1 e2 => by
  obtain ⟨T, e, a⟩ := h.2 i x q e1 e2
  exact ⟨T, e, (upd_ne fun z => n x (List.mem_of_getElem? e1) (by rw [e, z])).trans a⟩⟩
theorem PtAt.snoc {H : Hp} {xs : List V} {Rs : List (List (List Nat))} {T : Addr} {R : List (List Nat)} (h : PtAt H xs Rs) (a : H T = some (.lst (tws R))) : PtAt H (xs ++ [.ref T]) (Rs ++ [R]) := ⟨by rw [List.length_append, List.length_append, h.1]; rfl, fun i x q e1 e2 => by
  rcases Nat.lt_or_ge i xs.length with z | z
  · rw [List.getElem?_append_left z] at e1
    rw [List.getElem?_append_left (by rw [← h.1]; exact z)] at e2
    exact h.2 i x q e1 e2
  · rw [List.getElem?_append_right z] at e1
    rw [List.getElem?_append_right (by rw [← h.1]; exact z), ← h.1] at e2
    have hi : i - xs.length = 0 := by
      have := (List.getElem?_eq_some_iff.mp e1).1
      have : i - xs.length < 1 := this
      omega
    rw [hi] at e1 e2
    obtain rfl := Option.some.inj e1
    obtain rfl := Option.some.inj e2
    exact ⟨T, rfl, a⟩⟩
theorem pt_ne {H : Hp} {D : Addr} {ys : List V} {Rs : List (List (List Nat))} (h : PtAt H ys Rs) (eD : H D = some (.lst ys)) : ∀ y ∈ ys, y ≠ .ref D := fun y hy z => by
  obtain ⟨i, hi⟩ := List.mem_iff_getElem?.mp hy
  have hl := (List.getElem?_eq_some_iff.mp hi).1
  rw [h.1] at hl
  obtain ⟨T, e, a⟩ := h.2 i y _ hi (List.getElem?_eq_getElem hl)
  rw [e] at z
  cases z
  rw [eD] at a
  have e3 := HO.lst.inj (Option.some.inj a)
  rw [e3] at hy
  unfold tws at hy
  obtain ⟨m, _, em⟩ := List.mem_map.mp hy
  rw [← em] at e
  cases e
theorem PtAt.app1 {H : Hp} {D T : Addr} {ys : List V} {Rs : List (List (List Nat))} {R : List (List Nat)} (h : PtAt H ys Rs) (eD : H D = some (.lst ys)) (n : T ≠ D) (a : H T = some (.lst (tws R))) : PtAt (upd H D (.lst (ys ++ [.ref T]))) (ys ++ [.ref T]) (Rs ++ [R]) :=
  (h.put (pt_ne h eD)).snoc ((upd_ne n).trans a)
theorem stepP_len {B : Nat → Nat → Bool} {s : Nat} {R : List (List Nat)} : (stepP B s R).length ≤ R.length + 1 := by
  unfold stepP
  rw [List.length_cons]
  have := List.length_filterMap_le (fun i => if lotOk B (R.getD i [] ++ [s]) = true then some (R.take i ++ (R.getD i [] ++ [s]) :: R.drop (i + 1)) else none) (List.range R.length)
  rw [List.length_range] at this
  omega
theorem prt_lots {B : Nat → Nat → Bool} (S : List Nat) : ∀ R ∈ prt B S, R.length ≤ S.length := by
  have key : ∀ T : List Nat, ∀ R ∈ prt B T.reverse, R.length ≤ T.length := by
    intro T
    induction T with
    | nil =>
      intro R h
      rw [List.mem_singleton.mp h]
      exact Nat.le_refl _
    | cons s T ih =>
      intro R h
      rw [List.reverse_cons, prt_snoc] at h
      obtain ⟨R0, h0, h1⟩ := List.mem_flatMap.mp h
      have l0 := ih R0 h0
      rcases List.mem_cons.mp h1 with rfl | h1
      · simp only [List.length_append, List.length_cons, List.length_nil]
        omega
      · obtain ⟨i, hi, e⟩ := List.mem_filterMap.mp h1
        have hi := List.mem_range.mp hi
        split at e
        · obtain rfl := Option.some.inj e
          rw [List.length_append, List.length_take, List.length_cons, List.length_drop, List.length_cons]
          omega
        · cases e
  intro R h
  have := key S.reverse R (by rw [List.reverse_reverse]; exact h)
  rw [List.length_reverse] at this
  exact this
theorem flat_len {α β : Type} {f : α → List β} {n : Nat} : ∀ {l : List α}, (∀ x ∈ l, (f x).length ≤ n) → (l.flatMap f).length ≤ l.length * n
  | [], _ => Nat.zero_le _
  | x :: r, h => by
    have h1 := h x List.mem_cons_self
    have h2 := flat_len (l := r) fun y hy => h y (List.mem_cons_of_mem _ hy)
    rw [List.flatMap_cons, List.length_append, List.length_cons, Nat.add_mul]
    omega
theorem prt_len {B : Nat → Nat → Bool} : ∀ (n : Nat) (S : List Nat), S.length = n → n ≤ 6 → (prt B S).length ≤ 7 ^ n
  | 0, S, h, _ => by
    rw [List.eq_nil_of_length_eq_zero h]
    exact Nat.le_refl _
  | n + 1, S, h, h6 => by
    obtain ⟨T, s, rfl⟩ : ∃ T s, S = T ++ [s] := by
      have := List.dropLast_concat_getLast (l := S) (by intro z; rw [z] at h; cases h)
      exact ⟨_, _, this.symm⟩
    rw [List.length_append] at h
    have hT : T.length = n := Nat.succ.inj h
    have ih := prt_len (B := B) n T hT (by omega)
    rw [prt_snoc]
    have := flat_len (l := prt B T) (f := stepP B s) (n := 7) fun R hR => by
      have a := prt_lots T R hR
      have b := stepP_len (B := B) (s := s) (R := R)
      omega
    rw [Nat.pow_succ]
    omega
abbrev st_partings_of : Stmt := top 36
abbrev nm_partings_of : List Str := ["sounds", "against", "found", "sound", "longer", "lots", "at", "lot"]
theorem sc_partings_of : FnScope nm_partings_of ["sounds", "against"] (defScope st_partings_of) := ⟨rfl, rfl, rfl, by decide +kernel, rfl, by decide +kernel, by decide +kernel⟩
def spPartings (K : PySem.W.Frag) : Sp := fun vs H Q _ => ∃ (b a : Addr) (S : List Nat) (B : Nat → Nat → Bool), vs = [.ref b, .ref a] ∧ SqL K H b (S.map sgV) ∧ S.length ≤ 6 ∧ (S.Pairwise fun c d => c < d) ∧ AgD H a S B ∧ ∀ H' D xs, Same H H' → H' D = some (.lst xs) → PtAt H' xs (prt B S) → Q (.ref D) H'
theorem ok_partings {f : Addr} {fd : FuncData} (F : Fun K "partings_of" "partings_of" st_partings_of f fd) (T : Blt mg) (C_is_lot_by_rule : CLotBy P w K mg base) : FnOk P w K mg base CX0 4 f fd ["sounds", "against"] (spPartings K) := by
  refine F.ok sc_partings_of (fun vs H Q E h => ?_) (fun cdv A outer s H vs Q E hr h => ?_)
  · obtain ⟨_, _, _, _, rfl, _⟩ := h
    rfl
  · refine ⟨_, (pss_cons (ps_set (i := 2) sc_partings_of.nd rfl (Or.inl rfl) (pe_lst (pa_cons (pe_lst pa_nil) pa_nil)))
  (pss_cons (ps_for PassesOwn.never rfl (pi_list (pv 0)) (pg_name (i := 3) sc_partings_of.nd rfl (Or.inl rfl)) (pss_cons (ps_set (i := 4) sc_partings_of.nd rfl (Or.inl rfl) (pe_lst pa_nil))
  (pss_cons (ps_for PassesOwn.never rfl (pi_list (pv 2)) (pg_name (i := 5) sc_partings_of.nd rfl (Or.inl rfl)) (pss_cons (ps_expr (pe_bm PySem.F.plainAttrs_list PySem.F.slot_list_append PySem.F.type_list_append mt_append (pv 4) (pa_cons (pe_lst (StX.pa_star (pv 5) (pa_cons (pv 3) pa_nil))) pa_nil)))
  (pss_one (ps_for PassesOwn.never rfl (pi_enum (by rfl) T.n_enumerate (pa_cons (pv 5) pa_nil)) (pg_tup rfl (pgs_cons (pg_name (i := 6) sc_partings_of.nd rfl (Or.inl rfl)) (pgs_cons (pg_name (i := 7) sc_partings_of.nd rfl (Or.inl rfl)) pgs_nil))) (pss_one (ps_if (pt_val (pe_cl C_is_lot_by_rule (hr.mono (by decide)) rfl (pa_cons (pe_op op_add_str (pv 7) (pv 3)) (pa_cons (pv 1) pa_nil)))) (pss_one (ps_expr (pe_bm PySem.F.plainAttrs_list PySem.F.slot_list_append PySem.F.type_list_append mt_append (pv 4) (pa_cons (pe_lst (StX.pa_star (pe_slice sl_list (pv 5) po_none (po_some (pv 6))) (pa_cons (pe_op op_add_str (pv 7) (pv 3)) (StX.pa_star (pe_slice sl_list (pv 5) (po_some (pe_op op_add (pv 6) pe_int)) po_none) pa_nil)))) pa_nil)))) pss_nil))))))
  (pss_one (ps_set (i := 2) sc_partings_of.nd rfl (Or.inl rfl) (pv 4))))))
  (pss_one (ps_ret (pv 2))))), ?_⟩
    obtain ⟨b, a, S, B, rfl, hS, hl, asc, hA, q⟩ := h
    rw [show L2.start nm_partings_of [V.ref b, V.ref a] = [some (V.ref b), some (V.ref a), none, none, none, none, none, none] from rfl]
    refine ⟨Nat.zero_le _, fun e he => ?_⟩
    have se := Sm.new (o := .lst []) he
    refine ⟨by show 1 ≤ sizeLine; decide, fun F0 hF => ?_⟩
    have sF := Sm.new (o := .lst [V.ref e]) hF
    have p0 : PtAt (upd (upd H e (.lst [])) F0 (.lst [V.ref e])) [V.ref e] (prt B []) := PtAt.nil.snoc (R := []) (sF _ _ upd_same)
    have f0 : upd (upd H e (.lst [])) F0 (.lst [V.ref e]) F0 = some (.lst [V.ref e]) := upd_same
    have s0 := se.trans sF
    dsimp only [gName, List.set_cons_succ, List.set_cons_zero]
    generalize upd (upd H e (.lst [])) F0 (.lst [V.ref e]) = H1 at p0 f0 s0 ⊢
    clear se sF he hF
    have lS : (S.map sgV).length = S.length := List.length_map _
    have p6 : ∀ i ≤ 6, (7 : Nat) ^ i ≤ 117649 := by decide
    refine ⟨_, rfl, b, rfl, ⟨_, sm_l s0 hS⟩, ?_⟩
    refine for_it walk_list (fun i σ H' => ∃ F v3 v4 v5 v6 v7, σ = [some (V.ref b), some (V.ref a), some (V.ref F), v3, v4, v5, v6, v7] ∧ Same H H' ∧ ∃ xs, H' F = some (.lst xs) ∧ PtAt H' xs (prt B (S.take i))) ⟨F0, _, _, _, _, _, rfl, s0, _, f0, p0⟩ (fun i σ G hi ⟨_, _, _, _, _, _, _, z, _⟩ => sm_l z hS) ?_ ?_
    · rintro i x σ G1 G2 hi ⟨F, v3, v4, v5, v6, v7, rfl, g1, xs, eF, pF⟩ ⟨rfl, hx⟩
      have hi' : i < S.length := by
        have hi : i < (S.map sgV).length := hi
        rw [lS] at hi
        exact hi
      obtain rfl : x = .str (Tx [S[i]]) := by
        rw [List.getElem?_map, List.getElem?_eq_getElem hi'] at hx
        exact (Option.some.inj hx).symm
      have snocS : S.take (i + 1) = S.take i ++ [S[i]] := by rw [List.take_add_one, List.getElem?_eq_getElem hi']; rfl
      have ascI : (S.take i ++ [S[i]]).Pairwise fun c d => c < d := snocS ▸ asc.sublist (List.take_sublist _ _)
      have inS : ∀ c ∈ S.take i ++ [S[i]], c ∈ S := fun c hc => by rw [← snocS] at hc; exact List.mem_of_mem_take hc
      have lI : (S.take i).length ≤ 6 := by rw [List.length_take]; omega
      have lP := prt_len (B := B) (S.take i).length (S.take i) rfl lI
      have p6' := p6 _ lI
      have lotsI := prt_lots (B := B) (S.take i)
      have form := col_of (B := B) (S.take i) ((asc.sublist (List.take_sublist _ _)).imp fun h => Nat.ne_of_lt h)
      rw [snocS, prt_snoc]
      generalize S[i] = s at *
      generalize S.take i = S0 at *
      dsimp only [gName, List.set_cons_succ, List.set_cons_zero]
      refine ⟨Nat.zero_le _, fun D hD => ?_⟩
      have sD := Sm.new (o := .lst []) hD
      have eD : upd G2 D (.lst []) D = some (.lst []) := upd_same
      have g3 := g1.trans sD
      dsimp only [gName, List.set_cons_succ, List.set_cons_zero]
      have eF3 := sD _ _ eF
      have pF3 := pF.sm sD
      have hD0 : H D = none := by
        cases z : H D with
        | none => rfl
        | some o => rw [g1 _ _ z] at hD; cases hD
      have nFD : F ≠ D := fun z => by rw [z, hD] at eF; cases eF
      have nTD : ∀ T o, G2 T = some o → T ≠ D := fun T o e z => by rw [z, hD] at e; cases e
      refine ⟨_, rfl, F, rfl, ⟨_, SqL.of eF3⟩, ?_⟩
      refine for_it walk_list (fun j σ H' => (∃ v5 v6 v7, σ = [some (V.ref b), some (V.ref a), some (V.ref F), some (V.str (Tx [s])), some (V.ref D), v5, v6, v7]) ∧ Same H H' ∧ KB1 D G2 H' ∧ ∃ ys, H' D = some (.lst ys) ∧ PtAt H' ys (((prt B S0).take j).flatMap (stepP B s)))
        ⟨⟨_, _, _, rfl⟩, g3, KB1.of sD, [], eD, PtAt.nil⟩ (fun j σ G hj ⟨_, _, z, _⟩ => SqL.of (z _ _ nFD eF)) ?_ ?_
      · rintro j x σ G3 G4 hj ⟨⟨v5, v6, v7, rfl⟩, k1, k2, ys, eY, pY⟩ ⟨rfl, hx⟩
        have hj' : j < (prt B S0).length := by rw [← pF.1]; exact hj
        obtain ⟨T, rfl, hT⟩ := pF.2 j x _ hx (List.getElem?_eq_getElem hj')
        have hR := List.getElem_mem hj'
        have eR := List.getElem?_eq_getElem hj'
        rw [List.take_add_one, eR, List.flatMap_append]
        generalize (prt B S0)[j] = R at hT hR eR
        have nT := nTD _ _ hT
        have hT4 := k2 _ _ nT hT
        have lR := lotsI R hR
        have lY : ys.length ≤ 117649 * 7 := by
          have a1 := flat_len (l := (prt B S0).take j) (f := stepP B s) (n := 7) fun Q hQ => by
            have a := lotsI Q (List.mem_of_mem_take hQ)
            have b := stepP_len (B := B) (s := s) (R := Q)
            omega
          rw [List.length_take] at a1
          rw [pY.1]
          have : min j (prt B S0).length * 7 ≤ 117649 * 7 := Nat.mul_le_mul (by omega) (Nat.le_refl _)
          omega
        dsimp only [gName, List.set_cons_succ, List.set_cons_zero]
        refine ⟨_, rfl, .inl ⟨rfl, _, SqL.of eY⟩, ?_⟩
        refine ⟨_, rfl, T, _, rfl, .inr (SqL.of hT4), _, rfl, ?_, fun N hN => ?_⟩
        · rw [List.length_append, tws_len]
          exact Nat.le_trans (show R.length + 1 ≤ 7 by omega) (by decide)
        have eN : tws R ++ [V.str (Tx [s])] = tws (R ++ [[s]]) := by
          unfold tws
          rw [List.map_append]
          rfl
        have sN := Sm.new (o := .lst (tws R ++ [V.str (Tx [s])])) hN
        have nND : N ≠ D := fun z => by rw [z, eY] at hN; cases hN
        have eY5 := sN _ _ eY
        have pY5 := (pY.sm sN).app1 eY5 nND (R := R ++ [[s]]) (by rw [← eN]; exact upd_same)
        have k15 := Sm.put (o := .lst (ys ++ [.ref N])) (k1.trans sN) hD0
        have k25 := (k2.sm sN).put (o := .lst (ys ++ [.ref N]))
        refine ⟨D, ys, _, rfl, rfl, eY5, Nat.lt_of_le_of_lt lY (by decide), ?_⟩
        have eY6 : upd (upd G4 N (.lst (tws R ++ [V.str (Tx [s])]))) D (.lst (ys ++ [.ref N])) D = some (.lst (ys ++ [.ref N])) := upd_same
        generalize upd (upd G4 N (.lst (tws R ++ [V.str (Tx [s])]))) D (.lst (ys ++ [.ref N])) = G5 at pY5 k15 k25 eY6 ⊢
        clear sN hN eY5 eN
        have hT5 := k25 _ _ nT hT
        obtain ⟨fc, cs, hc, eRc⟩ := form R hR
        have lotI : ∀ l ∈ R, (l ++ [s]).Pairwise (fun c d => c < d) ∧ (∀ c ∈ l ++ [s], c ∈ S) ∧ l.length ≤ 6 := fun l hl => by
          rw [eRc] at hl
          unfold lotsOf at hl
          obtain ⟨c, _, rfl⟩ := List.mem_map.mp hl
          unfold cls
          have sub : (S0.filter fun x => decide (fc x = c)).Sublist S0 := List.filter_sublist
          refine ⟨ascI.sublist (sub.append (List.Sublist.refl _)), fun d hd => inS d ?_, Nat.le_trans sub.length_le lI⟩
          rcases List.mem_append.mp hd with hd | hd
          · exact List.mem_append_left _ (sub.subset hd)
          · exact List.mem_append_right _ hd
        refine ⟨_, rfl, T, _, rfl, SqL.of hT5, ?_⟩
        refine for_it walk_enum (fun k σ H' => (∃ v6 v7, σ = [some (V.ref b), some (V.ref a), some (V.ref F), some (V.str (Tx [s])), some (V.ref D), some (V.ref T), v6, v7]) ∧ Same H H' ∧ KB1 D G2 H' ∧ ∃ zs, H' D = some (.lst zs) ∧ PtAt H' zs ((((prt B S0).take j).flatMap (stepP B s) ++ [R ++ [[s]]]) ++ (List.range k).filterMap fun i => if lotOk B (R.getD i [] ++ [s]) = true then some (R.take i ++ (R.getD i [] ++ [s]) :: R.drop (i + 1)) else none))
          ⟨⟨_, _, rfl⟩, k15, k25, _, eY6, by rw [show List.range 0 = [] from rfl, List.filterMap_nil, List.append_nil]; exact pY5⟩ (fun k σ G hk ⟨_, _, z, _⟩ => SqL.of (z _ _ nT hT)) ?_ ?_
        · rintro k x σ G6 G7 hk ⟨⟨v6, v7, rfl⟩, m1, m2, zs, eZ, pZ⟩ hy
          obtain ⟨t2, x1, x2, rfl, ht2, rfl, e1, e2⟩ := hy
          obtain rfl := Option.some.inj e1
          have hk' : k < R.length := by
            have hk : k < (tws R).length := hk
            rw [tws_len] at hk
            exact hk
          obtain rfl : x2 = .str (Tx (R.getD k [])) := by
            have e2 : (R.map fun l => V.str (Tx l))[k]? = some x2 := e2
            rw [List.getElem?_map, List.getElem?_eq_getElem hk'] at e2
            rw [List.getD_eq_getElem?_getD, List.getElem?_eq_getElem hk']
            exact (Option.some.inj e2).symm
          have hlR : R.getD k [] ∈ R := by
            rw [List.getD_eq_getElem?_getD, List.getElem?_eq_getElem hk']
            exact List.getElem_mem hk'
          obtain ⟨asc1, in1, len1⟩ := lotI _ hlR
          have st := Sm.new (o := .tup [.int (k : Nat), .str (Tx (R.getD k []))]) ht2
          refine ⟨t2, _, rfl, SqT.of upd_same, rfl, ⟨_, _, rfl, ⟨_, _, rfl, rfl, ?_⟩⟩⟩
          dsimp only [gName, List.set_cons_succ, List.set_cons_zero]
          have m1 := m1.trans st
          have m2 := m2.sm st
          have eZ := st _ _ eZ
          have pZ := pZ.sm st
          generalize upd G6 t2 (.tup [.int (k : Nat), .str (Tx (R.getD k []))]) = G6 at m1 m2 eZ pZ ⊢
          clear st ht2 e1 e2
          have lZ : zs.length ≤ 117649 * 7 + 8 := by
            have a1 := flat_len (l := (prt B S0).take j) (f := stepP B s) (n := 7) fun Q hQ => by
              have a := lotsI Q (List.mem_of_mem_take hQ)
              have b := stepP_len (B := B) (s := s) (R := Q)
              omega
            rw [List.length_take] at a1
            have a2 := List.length_filterMap_le (fun i => if lotOk B (R.getD i [] ++ [s]) = true then some (R.take i ++ (R.getD i [] ++ [s]) :: R.drop (i + 1)) else none) (List.range k)
            rw [List.length_range] at a2
            rw [pZ.1, List.length_append, List.length_append, List.length_cons, List.length_nil]
            have : min j (prt B S0).length * 7 ≤ 117649 * 7 := Nat.mul_le_mul (by omega) (Nat.le_refl _)
            omega
          rw [List.range_succ, List.filterMap_append]
          generalize el : R.getD k [] = l at *
          refine ⟨_, rfl, _, rfl, _, _, rfl, rfl, by rw [tx_len, tx_len]; exact Nat.le_trans (show l.length + 1 ≤ 7 by omega) (by decide), ?_⟩
          rw [tx_app]
          refine ⟨_, rfl, ?_⟩
          refine ⟨.str (Tx (l ++ [s])), a, l ++ [s], S, B, rfl, .inr ⟨_, rfl, rfl⟩, by rw [List.length_append]; show l.length + 1 ≤ 30; omega, hA.sm m1, asc1, in1, fun G9 s9 => ?_⟩
          have m1 := m1.trans s9
          have m2 := m2.sm s9
          have eZ := s9 _ _ eZ
          have pZ := pZ.sm s9
          clear s9
          refine ⟨_, rfl, ?_⟩
          by_cases hok : lotOk B (l ++ [s]) = true
          · rw [hok]
            refine iteT ?_
            refine ⟨_, rfl, .inl ⟨rfl, _, SqL.of eZ⟩, ?_⟩
            have hT9 := m2 _ _ nT hT
            refine ⟨_, rfl, _, rfl, _, rfl, T, _, rfl, SqL.of hT9, fun C1 hC1 => ⟨C1, _, rfl, .inr (SqL.of upd_same), ?_⟩⟩
            have c1 := Sm.new (o := .lst (cutV (tws R) none (some ((k : Nat) : Int)))) hC1
            refine ⟨_, rfl, _, rfl, _, _, rfl, rfl, by rw [tx_len, tx_len]; exact Nat.le_trans (show l.length + 1 ≤ 7 by omega) (by decide), ?_⟩
            rw [tx_app]
            refine ⟨_, rfl, _, rfl, _, _, rfl, rfl, _, rfl, T, _, rfl, SqL.of (c1 _ _ hT9), fun C2 hC2 => ⟨C2, _, rfl, .inr (SqL.of upd_same), ?_⟩⟩
            have c2 := Sm.new (o := .lst (cutV (tws R) (some (((k : Nat) : Int) + 1)) none)) hC2
            have eN : cutV (tws R) none (some ((k : Nat) : Int)) ++ (V.str (Tx (l ++ [s])) :: (cutV (tws R) (some (((k : Nat) : Int) + 1)) none ++ [])) = tws (R.take k ++ (l ++ [s]) :: R.drop (k + 1)) := by
              rw [rcut_to, show ((k : Nat) : Int) + 1 = ((k + 1 : Nat) : Int) from rfl, rcut_from, List.append_nil]
              unfold tws
              rw [List.map_append, List.map_cons, List.map_take, List.map_drop]
            refine ⟨Nat.le_trans (Nat.le_of_eq (congrArg List.length eN)) ?_, fun N hN => ?_⟩
            · rw [tws_len, List.length_append, List.length_take, List.length_cons, List.length_drop]
              exact Nat.le_trans (show min k R.length + (R.length - (k + 1) + 1) ≤ 20 by omega) (by decide)
            have sN := (c1.trans c2).trans (Sm.new (o := .lst (cutV (tws R) none (some ((k : Nat) : Int)) ++ (V.str (Tx (l ++ [s])) :: (cutV (tws R) (some (((k : Nat) : Int) + 1)) none ++ [])))) hN)
            have nND : N ≠ D := fun z => by rw [z, (c1.trans c2) _ _ eZ] at hN; cases hN
            refine ⟨D, zs, _, rfl, rfl, sN _ _ eZ, Nat.lt_of_le_of_lt lZ (by decide), ?_⟩
            refine ⟨⟨_, _, rfl⟩, Sm.put (m1.trans sN) hD0, (m2.sm sN).put, _, upd_same, ?_⟩
            rw [List.filterMap_cons, el, hok, if_pos rfl, List.filterMap_nil, ← List.append_assoc]
            exact (pZ.sm sN).app1 (sN _ _ eZ) nND (upd_same.trans (congrArg (fun z => some (HO.lst z)) eN))
          · rw [Bool.not_eq_true] at hok
            rw [hok]
            refine iteF ?_
            refine ⟨⟨_, _, rfl⟩, m1, m2, zs, eZ, ?_⟩
            rw [List.filterMap_cons, el, hok]
            rw [if_neg (by decide), List.filterMap_nil, List.append_nil]
            exact pZ
        · rintro σ G8 ⟨⟨v6, v7, rfl⟩, m1, m2, zs, eZ, pZ⟩
          rw [tws_len] at pZ
          refine ⟨⟨_, _, _, rfl⟩, m1, m2, zs, eZ, ?_⟩
          rw [List.append_assoc] at pZ
          show PtAt G8 zs (_ ++ [R].flatMap (stepP B s))
          rw [List.flatMap_cons, List.flatMap_nil, List.append_nil]
          exact pZ
      · rintro σ G ⟨⟨v5, v6, v7, rfl⟩, k1, k2, ys, eY, pY⟩
        have : xs.length = (prt B S0).length := pF.1
        rw [this, List.take_length] at pY
        refine ⟨_, rfl, D, _, _, _, _, _, rfl, k1, ys, eY, pY⟩
    · rintro σ G ⟨F, v3, v4, v5, v6, v7, rfl, g1, xs, eF, pF⟩
      rw [lS, List.take_length] at pF
      exact ⟨_, rfl, q _ _ xs g1 eF pF⟩
end
end W5.V
namespace W5.V
open PySem PySem.Spec PyProof.Rows L2 K0 K6
open K4 hiding Blt
section
variable {P : Program} {w : World} {K : PySem.W.Frag} {mg : Str → Option Value} {base : Heap}
/-! ### is_coarsest_parting -/
/-- a parting as it is looked at -/
structure PtOk (S : List Nat) (R : List (List Nat)) : Prop where
  len : R.length ≤ 6
  lot : ∀ l ∈ R, l.length ≤ 6 ∧ ∀ c ∈ l, c ∈ S
  dis : ∀ p ∈ pr2 R, (p.1 ++ p.2).Nodup
abbrev st_is_coarsest_parting : Stmt := top 37
abbrev nm_is_coarsest_parting : List Str := ["lots", "against", "one", "other"]
theorem sc_is_coarsest_parting : FnScope nm_is_coarsest_parting ["lots", "against"] (defScope st_is_coarsest_parting) := ⟨rfl, rfl, rfl, by decide +kernel, rfl, by decide +kernel, by decide +kernel⟩
def spIsC (K : PySem.W.Frag) : Sp := fun vs H Q _ => ∃ (b a : Addr) (S : List Nat) (B : Nat → Nat → Bool) (R : List (List Nat)), vs = [.ref b, .ref a] ∧ SqL K H b (tws R) ∧ PtOk S R ∧ (∀ c ∈ S, c < 128) ∧ AgD H a S B ∧ ∀ H', Same H H' → Q (.bl (isC B R)) H'
theorem ok_isC {f : Addr} {fd : FuncData} (F : Fun K "is_coarsest_parting" "is_coarsest_parting" st_is_coarsest_parting f fd) (T : BltS mg) (C_pairs_among : CAmV P w K mg base) (C_is_lot_by_rule : CLotBy P w K mg base) : FnOk P w K mg base CX0 4 f fd ["lots", "against"] (spIsC K) := by
  refine F.ok sc_is_coarsest_parting (fun vs H Q E h => ?_) (fun cdv A outer s H vs Q E hr h => ?_)
  · obtain ⟨_, _, _, _, _, rfl, _⟩ := h
    rfl
  · refine ⟨_, (pss_one (ps_ret (pe_not (pe_callB (cr_any rfl) (by rfl) T.n_any (by decide +kernel) (pa_cons (pe_lc (own := [("one", 2), ("other", 3)]) (g := (gTup K 2 (gCons (gName 2) (gCons (gName 3) gNil)))) (tt := tYes) rfl sc_is_coarsest_parting.nd (pi_list (pe_cl C_pairs_among (hr.mono (by decide)) rfl (pa_cons (pv 0) pa_nil))) (blkOk_by (N := nm_is_coarsest_parting) (sc := defScope st_is_coarsest_parting) (own := [("one", 2), ("other", 3)]) (by decide +kernel)) (fun _ _ _ _ _ => by exact pg_tup rfl (pgs_cons (pg_name (i := 2) sc_is_coarsest_parting.nd rfl (Or.inl rfl)) (pgs_cons (pg_name (i := 3) sc_is_coarsest_parting.nd rfl (Or.inl rfl)) pgs_nil))) (fun _ _ _ _ _ => pts_nil) (fun _ _ _ _ _ => (pe_cl C_is_lot_by_rule (hr.mono (by decide)) rfl (pa_cons (pe_callB (cr_sortTx rfl) (by rfl) T.n_sorted (by decide +kernel) (pa_cons (pe_op op_add_str (pv 2) (pv 3)) pa_nil)) (pa_cons (pv 1) pa_nil))))) pa_nil))))), ?_⟩
    obtain ⟨b, a, S, B, R, rfl, hR, hO, low, hA, q⟩ := h
    rw [show L2.start nm_is_coarsest_parting [V.ref b, V.ref a] = [some (V.ref b), some (V.ref a), none, none] from rfl]
    refine ⟨_, rfl, _, _, rfl, .inl ⟨b, rfl, hR⟩, by rw [tws_len]; exact Nat.le_trans hO.len (by decide), fun H1 D1 ts s1 e1 p1 => ⟨D1, rfl, ⟨_, SqL.of e1⟩, fun D hD => ?_⟩⟩
    unfold tws at p1
    rw [pr2_map] at p1
    have hlen : ts.length = (pr2 R).length := by rw [p1.1, List.length_map]
    have h9 := pr2_len R
    have h900 : R.length * R.length ≤ 36 := Nat.mul_le_mul hO.len hO.len
    refine lc_it walk_list (fun i H' => Same H1 H' ∧ H' D = some (.lst (((pr2 R).take i).map fun p => V.bl (lotOk B (joinS p.1 p.2))))) ⟨Sm.new hD, upd_same⟩ (fun i G hi z => SqL.of (z.1 _ _ e1)) ?_ ?_
    · rintro i y G1 G2 hi ⟨q1, q2⟩ ⟨rfl, hy⟩
      have hi' : i < (pr2 R).length := by rw [← hlen]; exact hi
      obtain ⟨t, rfl, ht⟩ := p1.2 i y _ hy (by rw [List.getElem?_map, List.getElem?_eq_getElem hi']; rfl)
      have hm := List.getElem_mem hi'
      have en := List.getElem?_eq_getElem hi'
      generalize (pr2 R)[i] = pq at ht hm en
      obtain ⟨m1, m2⟩ := pr2_in hm
      have nd := hO.dis _ hm
      obtain ⟨l1, i1⟩ := hO.lot _ m1
      obtain ⟨l2, i2⟩ := hO.lot _ m2
      have inS : ∀ c ∈ pq.1 ++ pq.2, c ∈ S := fun c hc => (List.mem_append.mp hc).elim (i1 c) (i2 c)
      have low' : ∀ c ∈ pq.1 ++ pq.2, c < 128 := fun c hc => low c (inS c hc)
      have lA : (pq.1 ++ pq.2).length ≤ 12 := by rw [List.length_append]; omega
      refine ⟨t, _, rfl, SqT.of (q1 _ _ ht), rfl, _, _, rfl, _, _, rfl, rfl, rfl, ?_⟩
      refine ⟨_, rfl, _, rfl, _, _, rfl, rfl, by rw [tx_len, tx_len, ← List.length_append]; exact Nat.le_trans lA (by decide), ?_⟩
      rw [tx_app]
      refine ⟨pq.1 ++ pq.2, rfl, by omega, nd, low', fun c1 hc1 => ?_⟩
      have sc := Sm.new (o := .lst ((K5.canon (pq.1 ++ pq.2)).map sgV)) hc1
      refine ⟨_, rfl, ?_⟩
      have cl : (K5.canon (pq.1 ++ pq.2)).length ≤ 30 := by
        rcases Nat.lt_or_ge (K5.canon (pq.1 ++ pq.2)).length 13 with z | z
        · omega
        · have := (K5.perm_of ((K5.canon_lt (pq.1 ++ pq.2)).imp fun h => Nat.ne_of_lt h) (fun c hc => (K5.canon_mem low' c).mp hc) (by omega)).length_eq
          omega
      refine ⟨.ref c1, a, K5.canon (pq.1 ++ pq.2), S, B, rfl, .inl ⟨c1, rfl, SqL.of upd_same⟩, cl, ((hA.sm s1).sm q1).sm sc, K5.canon_lt _, fun c hc => inS c ((K5.canon_mem low' c).mp hc), fun G3 s3 => ?_⟩
      have sE := (q1.trans sc).trans s3
      refine ⟨_, s3 _ _ (sc _ _ q2), small_lt (by rw [List.length_map, List.length_take]; omega), Sm.put sE hD, ?_⟩
      rw [upd_same, List.take_add_one, en, List.map_append]
      rfl
    · rintro G ⟨q1, q2⟩
      rw [hlen, List.take_length] at q2
      refine ⟨D, (pr2 R).map fun p => lotOk B (joinS p.1 p.2), rfl, SqL.of (by rw [q2, List.map_map]; rfl), ?_⟩
      refine ⟨_, rfl, ?_⟩
      rw [List.any_map]
      exact q _ (s1.trans q1)
end
end W5.V
namespace W5.V
open PySem PySem.Spec PyProof.Rows L2 K0 K6
open K4 hiding Blt
mutual
theorem dp_mono {K : PySem.W.Frag} {H H' : Hp} (s : Same H H') : ∀ (d : PyData) (v : V), Dp K H v d → Dp K H' v d
  | .list ds, _, h => by
    cases h with
    | lst a b => exact .lst (sm_l s a) (dpa_mono s ds _ b)
  | .tuple ds, _, h => by
    cases h with
    | tup a b => exact .tup (sm_t s a) (dpa_mono s ds _ b)
  | .none, _, h => by
    cases h
    exact .non
  | .bool b, _, h => by
    cases h
    exact .bl b
  | .int i, _, h => by
    cases h
    exact .int i
  | .str x, _, h => by
    cases h
    exact .str x
  | .dict _, _, h => by
    cases h
theorem dpa_mono {K : PySem.W.Frag} {H H' : Hp} (s : Same H H') : ∀ (ds : List PyData) (vs : List V), DpAll K H vs ds → DpAll K H' vs ds
  | [], _, h => by
    cases h
    exact .nil
  | d :: ds, _, h => by
    cases h with
    | cons a b => exact .cons (dp_mono s d _ a) (dpa_mono s ds _ b)
end
theorem dpa_snoc {K : PySem.W.Frag} {H : Hp} : ∀ {xs : List V} {ds : List PyData} {x : V} {d : PyData}, DpAll K H xs ds → Dp K H x d → DpAll K H (xs ++ [x]) (ds ++ [d])
  | [], [], _, _, _, h => .cons h .nil
  | _ :: _, _ :: _, _, _, .cons a b, h => .cons a (dpa_snoc b h)
theorem dp_two {K : PySem.W.Frag} {H : Hp} {v : V} {d0 d1 : PyData} (h : Dp K H v (.tuple [d0, d1])) : ∃ T x0 x1, v = .ref T ∧ SqT K H T [x0, x1] ∧ Dp K H x0 d0 ∧ Dp K H x1 d1 := by
  cases h with
  | tup a b =>
    cases b with
    | cons h0 b =>
      cases b with
      | cons h1 b =>
        cases b
        exact ⟨_, _, _, rfl, a, h0, h1⟩
/-! ### a parting as data -/
def encL (R : List (List Nat)) : PyData := .tuple (R.map fun l => .str (Tx l))
def encNL (p : Int × List (List Nat)) : PyData := .tuple [.int p.1, encL p.2]
theorem alT : ∀ l m : List (List Nat), PySem.W.alikeAll (l.map fun l => .str (Tx l)) (m.map fun l => .str (Tx l)) = true
  | [], m => by
    rw [List.map_nil, PySem.W.alikeAll]
  | x :: l, [] => by
    rw [List.map_cons, List.map_nil, PySem.W.alikeAll]
  | x :: l, y :: m => by
    rw [List.map_cons, List.map_cons, PySem.W.alikeAll, alT l m]
    rfl
theorem alNL (x y : Int × List (List Nat)) : PySem.W.alike (encNL x) (encNL y) = true := by
  show PySem.W.alike (.tuple [.int x.1, .tuple _]) (.tuple [.int y.1, .tuple _]) = true
  rw [PySem.W.alike, PySem.W.alikeAll, PySem.W.alikeAll, PySem.W.alike, PySem.W.alike, alT, PySem.W.alikeAll]
  rfl
theorem tuNL (x : Int × List (List Nat)) : ∃ a b, encNL x = .tuple (a :: b) := ⟨_, _, rfl⟩
theorem dpL (R : List (List Nat)) : PyData.depth (encL R) ≤ 2 := by
  unfold encL PyData.depth
  have := depth_all (b := 1) (d := fun l : List Nat => PyData.str (Tx l)) (xs := R) fun p _ => by
    show PyData.depth (.str _) ≤ 1
    exact (by decide : 0 ≤ 1)
  omega
theorem dpNL (x : Int × List (List Nat)) : (encNL x).depth ≤ 10 := by
  have := dpL x.2
  show max 0 (max (PyData.depth (encL x.2)) 0) + 1 ≤ 10
  omega
theorem leNL {x y : Int × List (List Nat)} (h : leE encNL x y = true) : x.1 ≤ y.1 := by
  have h : (!PyProof.Rows.lexLt itemOrd (PySem.W.keyToks (encNL y)) (PySem.W.keyToks (encNL x))) = true := h
  rw [Bool.not_eq_true'] at h
  rcases Int.lt_or_le y.1 x.1 with z | z
  · exfalso
    obtain ⟨n, R⟩ := x
    obtain ⟨m, R'⟩ := y
    have e : ∀ (n : Int) (R : List (List Nat)), ∃ r, PySem.W.keyToks (encNL (n, R)) = .inl 1 :: .inl n :: r := fun n R => ⟨_, rfl⟩
    obtain ⟨r, e1⟩ := e n R
    obtain ⟨r', e2⟩ := e m R'
    have z : m < n := z
    rw [e1, e2, lex_self (O := itemOrd), lex_diff (O := itemOrd) (fun w => by have := Sum.inl.inj w; omega)] at h
    have h : itemLt (.inl m) (.inl n) = false := h
    have h2 : itemLt (.inl m) (.inl n) = decide (m < n) := rfl
    rw [h2, decide_eq_true z] at h
    cases h
  · exact z
section
variable {P : Program} {w : World} {K : PySem.W.Frag} {mg : Str → Option Value} {base : Heap}
variable {cs : Nat → Addr} {Z : Addr}
/-! ### coarsest -/
def rTupK (K : PySem.W.Frag) : List V → Hp → VK → Prop := fun xs H Q => ∃ p ys, xs = [.ref p] ∧ ((SqL K H p ys ∧ ∀ l, H l = none → Q (.ref l) (upd H l (.tup ys))) ∨ (SqT K H p ys ∧ Q (.ref p) H))
theorem call_tupK {X : Cx} : CallR X (.type "tuple") (rTupK X.K) := call_tuple_of
def rLenK (K : PySem.W.Frag) : List V → Hp → VK → Prop := fun xs H Q => ∃ p ys, xs = [.ref p] ∧ (SqL K H p ys ∨ SqT K H p ys) ∧ Q (.int ys.length) H
theorem call_lenK {X : Cx} : CallR X (.builtin "len") (rLenK X.K) := call_len_seq
noncomputable def mB (wide : Nat) (ws : List (List Nat)) (c d : Nat) : Bool := (leastF (occA wide ws) c d).isSome
abbrev CPts (P : Program) (w : World) (K : PySem.W.Frag) (mg : Str → Option Value) (base : Heap) : Prop := Cal P w K mg base 4 "partings_of" st_partings_of ["sounds", "against"] (spPartings K)
abbrev CIsC (P : Program) (w : World) (K : PySem.W.Frag) (mg : Str → Option Value) (base : Heap) : Prop := Cal P w K mg base 4 "is_coarsest_parting" st_is_coarsest_parting ["lots", "against"] (spIsC K)
theorem ptOk_of {B : Nat → Nat → Bool} {S : List Nat} (nd : S.Nodup) (h6 : S.length ≤ 6) : ∀ R ∈ prt B S, PtOk S R := fun R hR => by
  obtain ⟨f, cs, hc, rfl⟩ := col_of S nd R hR
  refine ⟨Nat.le_trans (prt_lots S _ hR) h6, fun l hl => ?_, fun p hp => ?_⟩
  · unfold lotsOf at hl
    obtain ⟨c, _, rfl⟩ := List.mem_map.mp hl
    unfold cls
    exact ⟨Nat.le_trans (List.length_filter_le _ _) h6, fun x hx => (List.mem_filter.mp hx).1⟩
  · unfold lotsOf at hp
    rw [pr2_map] at hp
    obtain ⟨⟨a, b⟩, hab, rfl⟩ := List.mem_map.mp hp
    have ne : a ≠ b := pr2_iff.mp hc.nd (a, b) hab
    refine List.nodup_append.mpr ⟨nd.filter _, nd.filter _, fun x hx y hy e => ne ?_⟩
    exact ((cls_mem.mp hx).2.symm.trans (congrArg f e)).trans (cls_mem.mp hy).2
/-- partings, each a tuple of lots -/
def TpAt (H : Hp) (xs : List V) (Rs : List (List (List Nat))) : Prop := xs.length = Rs.length ∧ ∀ (i : Nat) x R, xs[i]? = some x → Rs[i]? = some R → ∃ T, x = .ref T ∧ H T = some (.tup (tws R))
theorem TpAt.sm {H H' : Hp} {xs : List V} {Rs : List (List (List Nat))} (h : TpAt H xs Rs) (s : Same H H') : TpAt H' xs Rs := ⟨h.1, fun i x q e1 e2 => by
  obtain ⟨T, e, a⟩ := h.2 i x q e1 e2
  exact ⟨T, e, s _ _ a⟩⟩
theorem TpAt.nil {H : Hp} : TpAt H [] [] := ⟨rfl, fun i x q e => by cases e⟩
theorem TpAt.put {H : Hp} {D : Addr} {xs us ys : List V} {Rs : List (List (List Nat))} (hD : H D = some (.lst us)) (h : TpAt H xs Rs) : TpAt (upd H D (.lst ys)) xs Rs := ⟨h.1, fun i x q e1 e2 => by
  obtain ⟨T, e, a⟩ := h.2 i x q e1 e2
  exact ⟨T, e, (upd_ne fun z => by rw [z, hD] at a; cases a).trans a⟩⟩
theorem TpAt.snoc {H : Hp} {xs : List V} {Rs : List (List (List Nat))} {T : Addr} {R : List (List Nat)} (h : TpAt H xs Rs) (a : H T = some (.tup (tws R))) : TpAt H (xs ++ [.ref T]) (Rs ++ [R]) := ⟨by rw [List.length_append, List.length_append, h.1]; rfl, fun i x q e1 e2 => by
  rcases Nat.lt_or_ge i xs.length with z | z
  · rw [List.getElem?_append_left z] at e1
    rw [List.getElem?_append_left (by rw [← h.1]; exact z)] at e2
    exact h.2 i x q e1 e2
  · rw [List.getElem?_append_right z] at e1
    rw [List.getElem?_append_right (by rw [← h.1]; exact z), ← h.1] at e2
    have hi : i - xs.length = 0 := by
      have := (List.getElem?_eq_some_iff.mp e1).1
      have : i - xs.length < 1 := this
      omega
    rw [hi] at e1 e2
    obtain rfl := Option.some.inj e1
    obtain rfl := Option.some.inj e2
    exact ⟨T, rfl, a⟩⟩
theorem dp_tws {H : Hp} : ∀ R : List (List Nat), DpAll K H (tws R) (R.map fun l => .str (Tx l))
  | [] => .nil
  | l :: r => .cons (.str _) (dp_tws r)
/-- numbers of lots, and lots -/
def NpAt (H : Hp) (xs : List V) (Rs : List (List (List Nat))) : Prop := xs.length = Rs.length ∧ ∀ (i : Nat) x R, xs[i]? = some x → Rs[i]? = some R → ∃ t T, x = .ref t ∧ H t = some (.tup [.int (R.length : Nat), .ref T]) ∧ H T = some (.tup (tws R))
theorem NpAt.sm {H H' : Hp} {xs : List V} {Rs : List (List (List Nat))} (h : NpAt H xs Rs) (s : Same H H') : NpAt H' xs Rs := ⟨h.1, fun i x q e1 e2 => by
  obtain ⟨t, T, e, a, b⟩ := h.2 i x q e1 e2
  exact ⟨t, T, e, s _ _ a, s _ _ b⟩⟩
theorem NpAt.nil {H : Hp} : NpAt H [] [] := ⟨rfl, fun i x q e => by cases e⟩
theorem NpAt.put {H : Hp} {D : Addr} {xs us ys : List V} {Rs : List (List (List Nat))} (hD : H D = some (.lst us)) (h : NpAt H xs Rs) : NpAt (upd H D (.lst ys)) xs Rs := ⟨h.1, fun i x q e1 e2 => by
  obtain ⟨t, T, e, a, b⟩ := h.2 i x q e1 e2
  exact ⟨t, T, e, (upd_ne fun z => by rw [z, hD] at a; cases a).trans a, (upd_ne fun z => by rw [z, hD] at b; cases b).trans b⟩⟩
theorem NpAt.snoc {H : Hp} {xs : List V} {Rs : List (List (List Nat))} {t T : Addr} {R : List (List Nat)} (h : NpAt H xs Rs) (a : H t = some (.tup [.int (R.length : Nat), .ref T])) (b : H T = some (.tup (tws R))) : NpAt H (xs ++ [.ref t]) (Rs ++ [R]) := ⟨by rw [List.length_append, List.length_append, h.1]; rfl, fun i x q e1 e2 => by
  rcases Nat.lt_or_ge i xs.length with z | z
  · rw [List.getElem?_append_left z] at e1
    rw [List.getElem?_append_left (by rw [← h.1]; exact z)] at e2
    exact h.2 i x q e1 e2
  · rw [List.getElem?_append_right z] at e1
    rw [List.getElem?_append_right (by rw [← h.1]; exact z), ← h.1] at e2
    have hi : i - xs.length = 0 := by
      have := (List.getElem?_eq_some_iff.mp e1).1
      have : i - xs.length < 1 := this
      omega
    rw [hi] at e1 e2
    obtain rfl := Option.some.inj e1
    obtain rfl := Option.some.inj e2
    exact ⟨t, T, rfl, a, b⟩⟩
abbrev numR (R : List (List Nat)) : Int × List (List Nat) := ((R.length : Nat), R)
theorem NpAt.dp {H : Hp} {xs : List V} {Rs : List (List (List Nat))} (h : NpAt H xs Rs) : DpAll K H xs ((Rs.map numR).map encNL) := dpa_ix (by rw [List.length_map, List.length_map]; exact h.1) fun i x e h1 h2 => by
  rw [List.getElem?_map, List.getElem?_map] at h2
  cases z : Rs[i]? with
  | none => rw [z] at h2; cases h2
  | some R =>
    rw [z] at h2
    obtain rfl := Option.some.inj h2
    obtain ⟨t, T, rfl, a, b⟩ := h.2 i x R h1 z
    exact .tup (SqT.of a) (.cons (.int _) (.cons (.tup (SqT.of b) (dp_tws R)) .nil))
abbrev st_coarsest : Stmt := top 38
abbrev nm_coarsest : List Str := ["words", "wide", "places", "sounds", "pairs", "against", "told", "pair", "lots", "_"]
theorem sc_coarsest : FnScope nm_coarsest ["words", "wide"] (defScope st_coarsest) := ⟨rfl, rfl, rfl, by decide +kernel, rfl, by decide +kernel, by decide +kernel⟩
def spCoarse (K : PySem.W.Frag) : Sp := fun vs H Q _ => ∃ (a : Addr) (ws : List (List Nat)) (wide : Nat), vs = [.ref a, .int (wide : Nat)] ∧ SqLT K H a (tws ws) ∧ ws ≠ [] ∧ ws.length ≤ 12 ∧ (∀ l ∈ ws, sOk l) ∧ (soundsOf ws).length ≤ 6 ∧ 1 ≤ wide ∧ wide ≤ 2 ∧
  ∀ H' p xs (Rs : List (List (List Nat))), Same H H' → H' p = some (.tup xs) → (∀ G, Same H' G → DpAll K G xs (Rs.map encL)) → Rs.Perm ((prt (mB wide ws) (soundsOf ws)).filter (isC (mB wide ws))) → Rs.Pairwise (fun a b => a.length ≤ b.length) → Q (.ref p) H'
theorem ok_coarsest {f : Addr} {fd : FuncData} {dvs : List V} (F : FunD K "coarsest" "coarsest" (defArgs st_coarsest) (defBody st_coarsest) (defScope st_coarsest) dvs [] f fd) (T : BltS mg) (g_MOST_SOUNDS : ∃ t, mg "MOST_SOUNDS" = some (.int 6 t)) (C_need_own_words : CNo P w K mg base cs) (C_need_wide : CNwi P w K mg base cs) (C_need_few_words : CNf P w K mg base cs)
    (C_places_by_sound : CPl P w K mg base) (C_pairs_among : CAmV P w K mg base) (C_least_against : CLa P w K mg base Z) (C_partings_of : CPts P w K mg base) (C_is_coarsest_parting : CIsC P w K mg base) : FnOk P w K mg base (L2.CX P w) 10 f fd ["words", "wide"] (spCoarse K) := by
  have C_need_own_words := calX_to C_need_own_words hOwn_eq
  have C_need_wide := calX_to C_need_wide hWide_eq
  have C_need_few_words := calX_to C_need_few_words hFew_eq
  obtain ⟨t_, g_MOST_SOUNDS⟩ := g_MOST_SOUNDS
  refine F.ok (k := 9) sc_coarsest (fun vs H Q E h => ?_) (fun cdv A outer s H vs Q E hr h => ?_)
  · obtain ⟨_, _, _, rfl, _⟩ := h
    rfl
  · refine ⟨_, (pss_cons (ps_expr (pe_clX C_need_own_words (passes_call (takes_of rfl rfl rfl rfl) fun _ _ _ _ z => z) (hr.mono (by decide)) rfl (pa_cons (pv 0) pa_nil)))
  (pss_cons (ps_expr (pe_clX C_need_wide (passes_call (takes_of rfl rfl rfl rfl) fun _ _ _ _ z => z) (hr.mono (by decide)) rfl (pa_cons (pv 1) pa_nil)))
  (pss_cons (ps_expr (pe_clX C_need_few_words (passes_call (takes_of rfl rfl rfl rfl) fun _ _ _ _ z => z) (hr.mono (by decide)) rfl (pa_cons (pv 0) pa_nil)))
  (pss_cons (ps_set (i := 2) sc_coarsest.nd rfl (Or.inr rfl) (pe_cl C_places_by_sound (hr.mono (by decide)) rfl (pa_cons (pv 0) (pa_cons (pv 1) pa_nil))))
  (pss_cons (ps_set (i := 3) sc_coarsest.nd rfl (Or.inl rfl) (pe_callB (call_sortedD rfl) (by rfl) T.n_sorted (by decide +kernel) (pa_cons (pv 2) pa_nil)))
  (pss_cons (ps_if (pt_cmpR op_gt (pe_callB call_len_seq (by rfl) T.n_len (by decide +kernel) (pa_cons (pv 3) pa_nil)) (pe_glob (v := .int 6) rfl g_MOST_SOUNDS ⟨_, rfl⟩) (nomark _)) (pss_one ps_never) pss_nil)
  (pss_cons (ps_set (i := 4) sc_coarsest.nd rfl (Or.inl rfl) (pe_cl C_pairs_among (hr.mono (by decide)) rfl (pa_cons (pv 3) pa_nil)))
  (pss_cons (ps_set (i := 5) sc_coarsest.nd rfl (Or.inr rfl) (pe_dcTI (by exact hu_of hr) rfl (own := [("pair", 7)]) (g := (gName 7)) sc_coarsest.nd (pi_list (pv 4)) (blkOk_by (N := nm_coarsest) (sc := defScope st_coarsest) (own := [("pair", 7)]) (by decide +kernel)) (fun _ _ _ _ _ => by exact pg_name (i := 7) sc_coarsest.nd rfl (Or.inl rfl)) (fun _ _ _ _ _ => pts_one (pt_cmpR op_notN (pe_cl C_least_against (hr.mono (by decide)) rfl (pa_cons (pv 2) (pa_cons (pe_ix (ix_tup : IxR _ (rIxT K)) (pv 7) pe_int (fun _ _ => rfl)) (pa_cons (pe_ix (ix_tup : IxR _ (rIxT K)) (pv 7) pe_int (fun _ _ => rfl)) pa_nil)))) pe_non (nomark _))) (fun _ _ _ _ _ => (pv 7)) (fun _ _ _ _ _ => pe_bl)))
  (pss_cons (ps_setLc (i := 6) (own := [("lots", 8)]) (g := (gName 8)) rfl sc_coarsest.nd rfl rfl (sw_true rfl rfl rfl (by decide +kernel)) (pi_list (pe_cl C_partings_of (hr.mono (by decide)) rfl (pa_cons (pv 3) (pa_cons (pv 5) pa_nil)))) (blkOk_by (N := nm_coarsest) (sc := defScope st_coarsest) (own := [("lots", 8)]) (by decide +kernel)) (fun _ _ _ _ _ => by exact pg_name (i := 8) sc_coarsest.nd rfl (Or.inl rfl)) (fun _ _ _ _ _ => pts_one (pt_val (pe_cl C_is_coarsest_parting (hr.mono (by decide)) rfl (pa_cons (pv 8) (pa_cons (pv 5) pa_nil))))) (fun _ _ _ _ _ => (pe_callTy (call_tupK : CallR _ (.type "tuple") (rTupK K)) (by rfl) T.n_tuple (by decide +kernel) (pa_cons (pv 8) pa_nil))))
  (pss_one (ps_ret (pe_callTy call_tuple_of (by rfl) T.n_tuple (by decide +kernel) (pa_cons (pe_lc (own := [("_", 9), ("lots", 8)]) (g := (gTup K 2 (gCons (gName 9) (gCons (gName 8) gNil)))) (tt := tYes) rfl sc_coarsest.nd (pi_list (pe_callB (cr_sortE (enc := encNL) rfl (hu20 hr) alNL tuNL dpNL) (by rfl) T.n_sorted (by decide +kernel) (pa_cons (pe_lc (own := [("lots", 8)]) (g := (gName 8)) (tt := tYes) rfl sc_coarsest.nd (pi_list (pv 6)) (blkOk_by (N := nm_coarsest) (sc := defScope st_coarsest) (own := [("lots", 8)]) (by decide +kernel)) (fun _ _ _ _ _ => by exact pg_name (i := 8) sc_coarsest.nd rfl (Or.inl rfl)) (fun _ _ _ _ _ => pts_nil) (fun _ _ _ _ _ => (pe_tup (pa_cons (pe_callB (call_lenK : CallR _ (.builtin "len") (rLenK K)) (by rfl) T.n_len (by decide +kernel) (pa_cons (pv 8) pa_nil)) (pa_cons (pv 8) pa_nil))))) pa_nil))) (blkOk_by (N := nm_coarsest) (sc := defScope st_coarsest) (own := [("_", 9), ("lots", 8)]) (by decide +kernel)) (fun _ _ _ _ _ => by exact pg_tup rfl (pgs_cons (pg_name (i := 9) sc_coarsest.nd rfl (Or.inl rfl)) (pgs_cons (pg_name (i := 8) sc_coarsest.nd rfl (Or.inl rfl)) pgs_nil))) (fun _ _ _ _ _ => pts_nil) (fun _ _ _ _ _ => (pv 8))) pa_nil))))))))))))), ?_⟩
    obtain ⟨a, ws, wide, rfl, hS, h0, hl, hok, h6, w1, w2, q⟩ := h
    rw [show L2.start nm_coarsest [V.ref a, V.int (wide : Nat)] = [some (V.ref a), some (V.int (wide : Nat)), none, none, none, none, none, none, none, none] from rfl]
    have hw : ∀ l ∈ ws, wdOk l = true := fun l hl => (hok l hl).wd
    have h12 : ∀ x ∈ ws, x.length ≤ 12 := fun x hx => (lw_lt (hw x hx)).2
    refine ⟨_, rfl, ?_⟩
    show hOwn K cs [.ref a] _ _ E
    refine mono_own (own_ok hS h0 (by omega) hw fun H1 s1 => ?_) fun _ _ h => h
    refine ⟨_, rfl, ?_⟩
    show hWide K cs [.int (wide : Nat)] _ _ E
    refine mono_wide (wide_ok w1 w2 ?_) fun _ _ h => h
    have hS1 : SqLT K H1 a (tws ws) := hS.imp (sm_l s1) (sm_t s1)
    refine ⟨_, rfl, ?_⟩
    show hFew K cs [.ref a] _ _ E
    refine mono_few ⟨a, _, rfl, hS1, fun _ => ?_, fun z => (by rw [tws_len] at z; omega)⟩ fun _ _ h => h
    refine ⟨_, rfl, _, rfl, a, ws, wide, rfl, hS1, by omega, h12, w2, fun H5 p kvs ks da s5 F5 => ?_⟩
    dsimp only [gName, List.set_cons_succ, List.set_cons_zero]
    have kmem : ∀ c, c ∈ ks ↔ c ∈ ws.flatten := fun c => (F5.mem c).trans occs_sound
    have kkey : kvs.map (·.1) = (ks.map Froz.sing).map Sum.inr := by
      rw [F5.ks_, List.map_map]
      rfl
    have kper : ks.Perm (soundsOf ws) := K5.perm_of F5.nd (fun x hx => (sounds_mem hw).mpr ((kmem x).mp hx)) (nd_le (sounds_nd _) fun x hx => (kmem x).mpr ((sounds_mem hw).mp hx))
    have klen : ks.length ≤ 6 := by rw [kper.length_eq]; exact h6
    refine ⟨_, rfl, p, kvs, ks.map Froz.sing, rfl, .inl F5.at_, kkey, by rw [List.length_map]; omega, fun ys b hper hsort hb => ?_⟩
    have eys : ys = (soundsOf ws).map Froz.sing := K5.canon_of (fun c hc => by have := (sounds_lt hw c hc).2; omega) (F5.nd.map _ fun x y n e => n (K5.sing_inj e)) (fun k => by
      rw [List.mem_map]
      constructor
      · rintro ⟨c, hc, rfl⟩
        exact ⟨c, (kmem c).mp hc, rfl⟩
      · rintro ⟨c, hc, rfl⟩
        exact ⟨c, (kmem c).mpr hc, rfl⟩) hper hsort
    subst eys
    rw [show ((soundsOf ws).map Froz.sing).map V.str = (soundsOf ws).map sgV from by rw [List.map_map]; rfl]
    have sb := Sm.new (o := .lst ((soundsOf ws).map sgV)) hb
    have eb : upd H5 b (.lst ((soundsOf ws).map sgV)) b = some (.lst ((soundsOf ws).map sgV)) := upd_same
    have F6 := F5.sm sb
    have L6 := occs_len (wide := wide) h12 ws.length
    have s6 := (s1.trans s5).trans sb
    dsimp only [gName, List.set_cons_succ, List.set_cons_zero]
    generalize upd H5 b (.lst ((soundsOf ws).map sgV)) = H6 at eb F6 s6 ⊢
    clear sb hb hper hsort F5 s5 hS1 s1
    have asc : (soundsOf ws).Pairwise fun c d => c < d := K5.canon_lt _
    have low : ∀ c ∈ soundsOf ws, c < 128 := fun c hc => by have := (sounds_lt hw c ((sounds_mem hw).mp hc)).2; omega
    refine ⟨_, rfl, b, _, rfl, .inl (SqL.of eb), _, _, rfl, rfl, _, rfl, ?_⟩
    have nd := sounds_nd ws
    have B_ : ∀ R ∈ prt (mB wide ws) (soundsOf ws), PtOk (soundsOf ws) R := ptOk_of nd h6
    have nP := prt_len (B := mB wide ws) _ (soundsOf ws) rfl h6
    have nP6 : (prt (mB wide ws) (soundsOf ws)).length ≤ 117649 := Nat.le_trans nP (by
      have p6 : ∀ i ≤ 6, (7 : Nat) ^ i ≤ 117649 := by decide
      exact p6 _ h6)
    have inA := pr2_asc asc
    have mBd : ∀ c d, mB wide ws c d = (leastF (occA wide ws) c d).isSome := fun _ _ => rfl
    generalize soundsOf ws = S at *
    generalize hB : mB wide ws = B at *
    rw [List.length_map, decide_eq_false (by omega)]
    refine iteF ?_
    refine ⟨_, rfl, _, _, rfl, .inl ⟨b, rfl, SqL.of eb⟩, by rw [List.length_map]; omega, fun H7 D7 ts s7 e7 p7 => ?_⟩
    rw [pr2_map] at p7
    dsimp only [gName, List.set_cons_succ, List.set_cons_zero]
    have F7 := F6.sm s7
    have eb7 := s7 _ _ eb
    have s17 := s6.trans s7
    clear F6 eb s6 s7
    have lts : ts.length = (pr2 S).length := by rw [p7.1, List.length_map]
    have l36 := pr2_len S
    have h36 : S.length * S.length ≤ 36 := Nat.mul_le_mul h6 h6
    -- who is against whom
    refine ⟨_, rfl, D7, rfl, ⟨_, SqL.of e7⟩, fun A7 hA => ?_⟩
    refine dcT_itI walk_list (fun i H' => Same H7 H' ∧ ∃ kvs', H' A7 = some (.dT kvs') ∧ kvs'.length ≤ i ∧ ∀ c d, (valV kvs' (k2 c d)).isSome = decide ((c, d) ∈ (pr2 S).take i ∧ B c d = true)) ⟨Sm.new hA, [], upd_same, Nat.zero_le _, fun c d => by simp [valV]⟩ (fun i G hi z => SqL.of (z.1 _ _ e7)) ?_ ?_
    · rintro i y G1 G2 hi ⟨q1, kv, q2, q3, q4⟩ ⟨rfl, hy⟩
      have hi' : i < (pr2 S).length := by rw [← lts]; exact hi
      obtain ⟨t, rfl, ht⟩ := p7.2 i y _ hy (by rw [List.getElem?_map, List.getElem?_eq_getElem hi']; rfl)
      have hm := List.getElem_mem hi'
      have en := List.getElem?_eq_getElem hi'
      generalize (pr2 S)[i] = pq at ht hm en
      have lt := pr2_iff.mp asc pq hm
      have ht2 := q1 _ _ ht
      refine ⟨rfl, ?_⟩
      have ne : pq.1 ≠ pq.2 := Nat.ne_of_lt lt
      refine ⟨_, rfl, _, rfl, t, _, 0, _, rfl, rfl, SqT.of ht2, rfl, _, rfl, t, _, 1, _, rfl, rfl, SqT.of ht2, rfl, ?_⟩
      refine ⟨_, p, _, kvs, ks, da, pq.1, pq.2, rfl, ne, F7.sm q1, by omega, fun G3 v r s3 hr hv => ?_⟩
      have hO := leastO_of (occs_sorted _) hr
      have q2 := s3 _ _ q2
      have ht3 := s3 _ _ ht2
      have qA := q1.trans s3
      refine ⟨rfl, _, rfl, ?_⟩
      have more : ∀ c d, ((c, d) ∈ (pr2 S).take (i + 1) ∧ B c d = true) ↔ ((c, d) ∈ (pr2 S).take i ∧ B c d = true) ∨ ((c, d) = pq ∧ B pq.1 pq.2 = true) := fun c d => by
        rw [List.take_add_one, en, List.mem_append]
        show (_ ∨ (c, d) ∈ [pq]) ∧ _ ↔ _
        rw [List.mem_singleton]
        constructor
        · rintro ⟨h | h, h2⟩
          · exact .inl ⟨h, h2⟩
          · exact .inr ⟨h, by rw [← h]; exact h2⟩
        · rintro (⟨h, h2⟩ | ⟨h, h2⟩)
          · exact ⟨.inl h, h2⟩
          · exact ⟨.inr h, by rw [← h] at h2; exact h2⟩
      have bq : B pq.1 pq.2 = r.isSome := by rw [mBd, leastF_of hO]
      cases r with
      | none =>
        obtain rfl : v = .non := hv
        refine iteF ?_
        refine ⟨qA, kv, q2, by omega, fun c d => ?_⟩
        rw [q4]
        refine decide_eq_decide.mpr ((more c d).trans ⟨fun h => h.resolve_right fun z => ?_, .inl⟩).symm
        rw [bq] at z
        cases z.2
      | some r =>
        obtain ⟨z, rfl, hz⟩ := hv
        refine iteT ?_
        refine ⟨_, rfl, kv, k2 pq.1 pq.2, t, rfl, ht3, q2, small_lt (by omega), ?_⟩
        refine ⟨Sm.put qA hA, _, upd_same, by have := length_putK kv (k2 pq.1 pq.2) (V.bl true); omega, fun c d => ?_⟩
        rw [valV_put]
        have kinj : k2 c d = k2 pq.1 pq.2 ↔ (c, d) = pq := by
          constructor
          · intro e
            injection e with e1 e2
            injection e2 with e2 _
            have a1 := tx_inj (Sum.inr.inj e1)
            have a2 := tx_inj (Sum.inr.inj e2)
            exact Prod.ext (List.cons.inj a1).1 (List.cons.inj a2).1
          · rintro rfl
            rfl
        by_cases e : k2 c d = k2 pq.1 pq.2
        · rw [if_pos e]
          exact (decide_eq_true ((more c d).mpr (.inr ⟨kinj.mp e, bq⟩))).symm
        · rw [if_neg e, q4]
          exact decide_eq_decide.mpr ((more c d).trans ⟨fun h => h.resolve_right fun z => e (kinj.mpr z.1), .inl⟩).symm
    · rintro G ⟨q1, kv, q2, q3, q4⟩
      rw [lts, List.take_length] at q4
      have hAg : AgD G A7 S B := ⟨kv, q2, fun c d hc hd lt => by
        rw [q4]
        have hin : (c, d) ∈ pr2 S := (inA.2 (c, d)).mpr ⟨hc, hd, lt⟩
        cases h : B c d
        · exact decide_eq_false fun z => (by cases z.2)
        · exact decide_eq_true ⟨hin, rfl⟩⟩
      dsimp only [gName, List.set_cons_succ, List.set_cons_zero]
      have s1G := s17.trans q1
      have ebG := q1 _ _ eb7
      clear F7 q4 q2 hA
      -- the coarsest of the partings
      refine ⟨_, rfl, _, rfl, b, A7, S, B, rfl, SqL.of ebG, h6, asc, hAg, fun H9 D9 xs9 s9 e9 p9 => ⟨D9, rfl, ⟨_, SqL.of e9⟩, fun E9 hE => ?_⟩⟩
      have hAg9 := hAg.sm s9
      refine lc_it walk_list (fun i H' => Same H9 H' ∧ ∃ ys, H' E9 = some (.lst ys) ∧ TpAt H' ys (((prt B S).take i).filter (isC B))) ⟨Sm.new hE, [], upd_same, TpAt.nil⟩ (fun i G hi z => SqL.of (z.1 _ _ e9)) ?_ ?_
      · rintro i y G1 G2 hi ⟨q1, ys, q2, q3⟩ ⟨rfl, hy⟩
        have hi' : i < (prt B S).length := by rw [← p9.1]; exact hi
        obtain ⟨T, rfl, hT⟩ := p9.2 i y _ hy (List.getElem?_eq_getElem hi')
        have hR := List.getElem_mem hi'
        have en := List.getElem?_eq_getElem hi'
        generalize (prt B S)[i] = R at hT hR en
        refine ⟨rfl, ?_⟩
        refine ⟨_, rfl, _, rfl, T, A7, S, B, R, rfl, SqL.of (q1 _ _ hT), B_ R hR, low, hAg9.sm q1, fun G3 s3 => ?_⟩
        refine ⟨_, rfl, ?_⟩
        rw [List.take_add_one, en, List.filter_append]
        have q13 := q1.trans s3
        have q23 := s3 _ _ q2
        have q33 := q3.sm s3
        cases hC : isC B R with
        | false =>
          refine iteF ?_
          refine ⟨q13, ys, q23, ?_⟩
          show TpAt G3 ys (_ ++ List.filter (isC B) [R])
          rw [List.filter_cons, hC, if_neg (by decide), List.filter_nil, List.append_nil]
          exact q33
        | true =>
          refine iteT ?_
          refine ⟨_, rfl, T, _, rfl, .inl ⟨SqL.of (q13 _ _ hT), fun t ht => ?_⟩⟩
          have st := Sm.new (o := .tup (tws R)) ht
          refine ⟨ys, st _ _ q23, small_lt (by
            rw [q33.1]
            have a1 := List.length_filter_le (isC B) ((prt B S).take i)
            rw [List.length_take] at a1
            omega), Sm.put (q13.trans st) hE, ys ++ [.ref t], upd_same, ?_⟩
          show TpAt _ _ (_ ++ List.filter (isC B) [R])
          rw [List.filter_cons, hC, if_pos rfl, List.filter_nil]
          exact ((q33.sm st).snoc upd_same).put (st _ _ q23)
      · rintro G3 ⟨q3, ys, q4, q5⟩
        have : xs9.length = (prt B S).length := p9.1
        rw [this, List.take_length] at q5
        dsimp only [gName, List.set_cons_succ, List.set_cons_zero]
        have s13 := (s1G.trans s9).trans q3
        have lRs : ((prt B S).filter (isC B)).length ≤ 117649 := Nat.le_trans (List.length_filter_le _ _) nP6
        have Rs6 : ∀ R ∈ (prt B S).filter (isC B), R.length ≤ 6 := fun R hR => (B_ R (List.mem_filter.mp hR).1).len
        generalize hRs : (prt B S).filter (isC B) = Rs at *
        clear q3 s9 e9 p9 hE hAg9
        -- each with its number of lots
        refine ⟨_, rfl, E9, rfl, ⟨_, SqL.of q4⟩, fun I1 hI => ?_⟩
        refine lc_it walk_list (fun i H' => Same G3 H' ∧ ∃ zs, H' I1 = some (.lst zs) ∧ NpAt H' zs (Rs.take i)) ⟨Sm.new hI, [], upd_same, NpAt.nil⟩ (fun i G hi z => SqL.of (z.1 _ _ q4)) ?_ ?_
        · rintro i y G5 G6 hi ⟨m1, zs, m2, m3⟩ ⟨rfl, hy⟩
          have hi' : i < Rs.length := by rw [← q5.1]; exact hi
          obtain ⟨T, rfl, hT⟩ := q5.2 i y _ hy (List.getElem?_eq_getElem hi')
          have en := List.getElem?_eq_getElem hi'
          generalize Rs[i] = R at hT en
          refine ⟨rfl, ?_⟩
          refine ⟨_, rfl, T, _, rfl, .inr (SqT.of (m1 _ _ hT)), _, rfl, by show 2 ≤ sizeLine; decide, fun t ht => ?_⟩
          rw [tws_len]
          have st := Sm.new (o := .tup [.int (R.length : Nat), .ref T]) ht
          refine ⟨zs, st _ _ m2, small_lt (by rw [m3.1, List.length_take]; omega), Sm.put (m1.trans st) hI, _, upd_same, ?_⟩
          rw [List.take_add_one, en]
          exact ((m3.sm st).snoc upd_same (st _ _ (m1 _ _ hT))).put (st _ _ m2)
        · rintro G5 ⟨m1, zs, m2, m3⟩
          have : ys.length = Rs.length := q5.1
          rw [this, List.take_length] at m3
          refine ⟨I1, zs, Rs.map numR, rfl, SqL.of m2, fun G sG => (m3.sm sG).dp, fun b2 ys2 hb2 hys => ⟨b2, rfl, ⟨_, SqL.of upd_same⟩, fun O hO => ?_⟩⟩
          have sb2 := Sm.new (o := .lst ys2) hb2
          have hys2 := hys _ sb2
          have eb2 : upd G5 b2 (.lst ys2) b2 = some (.lst ys2) := upd_same
          have s5 := (s13.trans m1).trans sb2
          have pm := List.mergeSort_perm (Rs.map numR) (leE encNL)
          have so := List.pairwise_mergeSort (le := leE encNL) (fun a b c => (leE_tot encNL).trans a b c) (fun a b => by
            rcases (leE_tot encNL).total a b with z | z
            · rw [z]; rfl
            · rw [z, Bool.or_true]) (Rs.map numR)
          generalize (Rs.map numR).mergeSort (leE encNL) = ps at hys2 pm so
          generalize upd G5 b2 (.lst ys2) = G7 at hys2 eb2 s5 hO ⊢
          have lps : ps.length = Rs.length := by rw [pm.length_eq, List.length_map]
          have lys : ys2.length = ps.length := by
            have := K5.dp_len hys2
            rw [List.length_map] at this
            exact this
          refine lc_it walk_list (fun i H' => Same G7 H' ∧ ∃ os, H' O = some (.lst os) ∧ os.length ≤ i ∧ DpAll K G7 os ((ps.take i).map fun p => encL p.2)) ⟨Sm.new hO, [], upd_same, Nat.le_refl _, .nil⟩ (fun i G hi z => SqL.of (z.1 _ _ eb2)) ?_ ?_
          · rintro i y G8 G9 hi ⟨n1, os, n2, n3, n4⟩ ⟨rfl, hy⟩
            have hi' : i < ps.length := by rw [← lys]; exact hi
            obtain ⟨d, ed, hd⟩ := K5.dp_all_at hys2 hy
            rw [List.getElem?_map, List.getElem?_eq_getElem hi'] at ed
            obtain rfl := Option.some.inj ed
            have en := List.getElem?_eq_getElem hi'
            generalize ps[i] = pr at hd en
            obtain ⟨T, x0, x1, rfl, hT, h0, h1⟩ := dp_two hd
            refine ⟨T, _, rfl, sm_t n1 hT, rfl, ⟨_, _, rfl, ⟨_, _, rfl, rfl, ?_⟩⟩⟩
            refine ⟨rfl, ?_⟩
            refine ⟨_, rfl, os, n2, small_lt (by omega), Sm.put n1 hO, _, upd_same, by rw [List.length_append]; show _ + 1 ≤ _; omega, ?_⟩
            rw [List.take_add_one, en, List.map_append]
            exact dpa_snoc n4 h1
          · rintro G8 ⟨n1, os, n2, n3, n4⟩
            rw [lys, List.take_length] at n4
            refine ⟨O, os, rfl, .inl ⟨SqL.of n2, fun t ht => ?_⟩⟩
            have st := Sm.new (o := .tup os) ht
            have eR : ps.map (fun p => encL p.2) = (ps.map (·.2)).map encL := by rw [List.map_map]; rfl
            rw [eR] at n4
            refine q _ t os (ps.map (·.2)) (((s5.trans n1)).trans st) upd_same (fun G sG => dpa_mono ((n1.trans st).trans sG) _ _ n4) ?_ ?_
            · have := pm.map (·.2)
              rw [List.map_map] at this
              exact this.trans (by
                refine List.Perm.of_eq ((List.map_congr_left fun R _ => rfl).trans (List.map_id Rs)))
            · refine List.pairwise_map.mpr (so.imp_of_mem fun {x y} hx hy h => ?_)
              have num : ∀ x ∈ ps, x.1 = ((x.2.length : Nat) : Int) := fun x hx => by
                obtain ⟨R, _, rfl⟩ := List.mem_map.mp (pm.mem_iff.mp hx)
                rfl
              have := leNL h
              rw [num x hx, num y hy] at this
              omega
end
end W5.V
namespace W5.V
open PySem PySem.Spec PyProof.Rows L2 K0 K6
open K4 hiding Blt
/-! ### tuples of one form -/
def AtF {α : Type} (f : α → List V) (H : Hp) (xs : List V) (rs : List α) : Prop := xs.length = rs.length ∧ ∀ (i : Nat) x r, xs[i]? = some x → rs[i]? = some r → ∃ T, x = .ref T ∧ H T = some (.tup (f r))
theorem AtF.sm {α : Type} {f : α → List V} {H H' : Hp} {xs : List V} {rs : List α} (h : AtF f H xs rs) (s : Same H H') : AtF f H' xs rs := ⟨h.1, fun i x q e1 e2 => by
  obtain ⟨T, e, a⟩ := h.2 i x q e1 e2
  exact ⟨T, e, s _ _ a⟩⟩
theorem AtF.nil {α : Type} {f : α → List V} {H : Hp} : AtF f H [] [] := ⟨rfl, fun i x q e => by cases e⟩
theorem AtF.put {α : Type} {f : α → List V} {H : Hp} {D : Addr} {xs us ys : List V} {rs : List α} (hD : H D = some (.lst us)) (h : AtF f H xs rs) : AtF f (upd H D (.lst ys)) xs rs := ⟨h.1, fun i x q e1 e2 => by
  obtain ⟨T, e, a⟩ := h.2 i x q e1 e2
  exact ⟨T, e, (upd_ne fun z => by rw [z, hD] at a; cases a).trans a⟩⟩
theorem AtF.snoc {α : Type} {f : α → List V} {H : Hp} {xs : List V} {rs : List α} {T : Addr} {r : α} (h : AtF f H xs rs) (a : H T = some (.tup (f r))) : AtF f H (xs ++ [.ref T]) (rs ++ [r]) := ⟨by rw [List.length_append, List.length_append, h.1]; rfl, fun i x q e1 e2 => by
  rcases Nat.lt_or_ge i xs.length with z | z
  · rw [List.getElem?_append_left z] at e1
    rw [List.getElem?_append_left (by rw [← h.1]; exact z)] at e2
    exact h.2 i x q e1 e2
  · rw [List.getElem?_append_right z] at e1
    rw [List.getElem?_append_right (by rw [← h.1]; exact z), ← h.1] at e2
    have hi : i - xs.length = 0 := by
      have := (List.getElem?_eq_some_iff.mp e1).1
      have : i - xs.length < 1 := this
      omega
    rw [hi] at e1 e2
    obtain rfl := Option.some.inj e1
    obtain rfl := Option.some.inj e2
    exact ⟨T, rfl, a⟩⟩
theorem AtF.dp {α : Type} {f : α → List V} {K : PySem.W.Frag} {H : Hp} {xs : List V} {rs : List α} {ds : α → List PyData} (h : AtF f H xs rs) (hd : ∀ r, DpAll K H (f r) (ds r)) : DpAll K H xs (rs.map fun r => .tuple (ds r)) := dpa_ix (by rw [List.length_map]; exact h.1) fun i x e h1 h2 => by
  rw [List.getElem?_map] at h2
  cases z : rs[i]? with
  | none => rw [z] at h2; cases h2
  | some R =>
    rw [z] at h2
    obtain rfl := Option.some.inj h2
    obtain ⟨T, rfl, a⟩ := h.2 i x R h1 z
    exact .tup (SqT.of a) (hd R)
/-! ### rows of a table -/
abbrev Row3 : Type := NB × Nat
abbrev row3 (r : Row3) : List V := [.str (Tx r.1.1), .str (Tx r.1.2), .str (Tx [r.2])]
abbrev row3d (r : Row3) : List PyData := [.str (Tx r.1.1), .str (Tx r.1.2), .str (Tx [r.2])]
def enc3 (r : Row3) : PyData := .tuple (row3d r)
theorem al3 (x y : Row3) : PySem.W.alike (enc3 x) (enc3 y) = true := by
  show PySem.W.alike (.tuple [.str _, .str _, .str _]) (.tuple [.str _, .str _, .str _]) = true
  simp only [PySem.W.alike, PySem.W.alikeAll]
  rfl
theorem tu3 (x : Row3) : ∃ a b, enc3 x = .tuple (a :: b) := ⟨_, _, rfl⟩
theorem dp3 (x : Row3) : (enc3 x).depth ≤ 10 := by
  show max 0 (max 0 (max 0 0)) + 1 ≤ 10
  decide
theorem row3_dp {K : PySem.W.Frag} {H : Hp} (r : Row3) : DpAll K H (row3 r) (row3d r) := .cons (.str _) (.cons (.str _) (.cons (.str _) .nil))
structure RowsOf (L : List Occ) (l : List Nat) (rows : List Row3) : Prop where
  nd : rows.Nodup
  mem : ∀ r, r ∈ rows ↔ r.2 ∈ l ∧ (firstAt L r.2 r.1).isSome = true
  so : rows.Pairwise fun a b => leE enc3 a b = true
/-! ### a reading while several things are locked -/
def tLockN : Nat → TE → TE
  | 0, t => t
  | n + 1, t => tLockE (tLockN n t)
theorem pe_lockN {X : Cx} (n : Nat) {e : Expr} {t : TE} (h : PE X e t) : PE X e (tLockN n t) := by
  induction n with
  | zero => exact h
  | succ n ih => exact pe_lock ih
theorem lockN_go {t : TE} {σ : L2.St} : ∀ (ms : List (Addr × List (List L2.Key × V))) {H : Hp} {Q : VK}, (ms.map (·.1)).Nodup → (∀ m ∈ ms, H m.1 = some (.dT m.2)) →
    (∀ H3 Qn, (∀ b, (∀ m ∈ ms, b ≠ m.1) → H3 b = H b) → (∀ m ∈ ms, ∃ o, H3 m.1 = some (.frz o (.dT m.2))) →
      (∀ v H', Same H3 H' → (∀ Hf, (∀ b, (∀ m ∈ ms, b ≠ m.1) → Hf b = H' b) → (∀ m ∈ ms, Hf m.1 = some (.dT m.2)) → Q v Hf) → Qn v H') → t σ H3 Qn) → tLockN ms.length t σ H Q
  | [], H, Q, _, _, k => k H Q (fun _ _ => rfl) (fun _ h => absurd h List.not_mem_nil) fun v H' _ h => h H' (fun _ _ => rfl) fun _ h => absurd h List.not_mem_nil
  | m :: ms, H, Q, nd, raw, k => by
    rw [List.map_cons, List.nodup_cons] at nd
    have ne : ∀ m' ∈ ms, m'.1 ≠ m.1 := fun m' hm z => nd.1 (List.mem_map.mpr ⟨m', hm, z⟩)
    refine ⟨m.1, .dT m.2, raw m List.mem_cons_self, True.intro, fun od => ?_⟩
    refine lockN_go ms nd.2 (fun m' hm => (upd_ne (ne m' hm)).trans (raw m' (List.mem_cons_of_mem _ hm))) fun H3 Qn o3 f3 hQ => ?_
    have hm3 : H3 m.1 = some (.frz od (.dT m.2)) := (o3 m.1 fun m' hm => (ne m' hm).symm).trans upd_same
    refine k H3 Qn (fun b hb => ?_) (fun m' hm => ?_) fun v H' s h => ?_
    · exact (o3 b fun m' hm => hb m' (List.mem_cons_of_mem _ hm)).trans (upd_ne (hb m List.mem_cons_self))
    · rcases List.mem_cons.mp hm with rfl | hm
      · exact ⟨_, hm3⟩
      · exact f3 m' hm
    · refine hQ v H' s fun Hf of_ rf => ⟨(of_ m.1 fun m' hm => (ne m' hm).symm).trans (s _ _ hm3), h _ (fun b hb => ?_) fun m' hm => ?_⟩
      · exact (upd_ne (hb m List.mem_cons_self)).trans (of_ b fun m' hm => hb m' (List.mem_cons_of_mem _ hm))
      · rcases List.mem_cons.mp hm with rfl | hm
        · exact upd_same
        · exact (upd_ne (ne m' hm)).trans (rf m' hm)
section
variable {P : Program} {w : World} {K : PySem.W.Frag} {mg : Str → Option Value} {base : Heap}
variable {cs : Nat → Addr} {Z : Addr}
abbrev st_is_rising : Stmt := top 5
abbrev nm_is_rising : List Str := ["signs", "one", "other"]
theorem sc_is_rising : FnScope nm_is_rising ["signs"] (defScope st_is_rising) := ⟨rfl, rfl, rfl, by decide +kernel, rfl, by decide +kernel, by decide +kernel⟩
def spIsRising : Sp := fun vs H Q _ => ∃ l, vs = [.str (Tx l)] ∧ l.length ≤ 1000 ∧ ∀ H', Same H H' → Q (.bl (ris l)) H'
theorem ok_is_rising {f : Addr} {fd : FuncData} (F : Fun K "is_rising" "is_rising" st_is_rising f fd) (T : Blt mg) : FnOk P w K mg base CX0 1 f fd ["signs"] spIsRising := by
  refine F.ok sc_is_rising (fun vs H Q E h => ?_) (fun cdv A outer s H vs Q E hr h => ?_)
  · obtain ⟨l, rfl, _⟩ := h
    rfl
  · obtain ⟨l, rfl, hl, q⟩ := h
    refine ⟨_, (pss_one (ps_ret (pe_callB (cr_all rfl) (by rfl) T.n_all (by decide +kernel) (pa_cons (pe_lc (own := [("one", 1), ("other", 2)]) (g := (gTup K 2 (gCons (gName 1) (gCons (gName 2) gNil)))) (tt := tYes) rfl sc_is_rising.nd (pi_zipS (by rfl) T.n_zip (pa_cons (pv 0) (pa_cons (pe_slice sl_str (pv 0) (po_some pe_int) po_none) pa_nil))) (blkOk_by (N := nm_is_rising) (sc := defScope st_is_rising) (own := [("one", 1), ("other", 2)]) (by decide +kernel)) (fun _ _ _ _ _ => by exact pg_tup rfl (pgs_cons (pg_name (i := 1) sc_is_rising.nd rfl (Or.inl rfl)) (pgs_cons (pg_name (i := 2) sc_is_rising.nd rfl (Or.inl rfl)) pgs_nil))) (fun _ _ _ _ _ => pts_nil) (fun _ _ _ _ _ => (pe_cmpR op_lt_str (pv 1) (pv 2) (nomark _)))) pa_nil)))), ?_⟩
    refine ⟨_, rfl, _, rfl, _, rfl, _, rfl, Nat.le_of_lt (Nat.lt_of_le_of_lt (by rw [tx_len]; exact hl) (by decide : 1000 < sizeLine)), _, _, rfl, fun D hD => ?_⟩
    have e1 : cutS (Tx l) (some 1) none = Tx (l.drop 1) := cut_from l 1
    rw [e1]
    refine lc_it (n := l.length - 1) (walk_zs (by rw [tx_size, tx_size, List.length_drop]; omega)) (SPv H D fun i => ((List.range i).map fun i => decide (l.getD i 0 < l.getD (i + 1) 0)).map V.bl) (spv0 hD rfl) (fun _ _ _ _ => trivial) ?_ ?_
    · rintro i x H2 H3 hi ⟨p1, p2⟩ ⟨Tt, c, d, rfl, hT, rfl, g1, g2⟩
      refine ⟨Tt, _, rfl, SqT.of upd_same, rfl, _, _, rfl, _, _, rfl, rfl, rfl, ?_⟩
      refine ⟨_, rfl, _, rfl, _, _, rfl, rfl, ?_⟩
      have d2 : (l.drop 1)[i]? = some d := tx_at g2
      rw [List.getElem?_drop, Nat.add_comm] at d2
      have ec : l.getD i 0 = c := getD_of (tx_at g1)
      have ed : l.getD (i + 1) 0 = d := getD_of d2
      have e2 : decide ((⟨#[c]⟩ : Str).cps.toList < (⟨#[d]⟩ : Str).cps.toList) = decide (l.getD i 0 < l.getD (i + 1) 0) := by
        rw [ec, ed]
        exact one_lt c d
      rw [e2]
      refine spv_put hD (Same.trans p1 (Sm.new hT)) ((upd_ne (ne_of_none p2 hT)).trans p2) ?_ ?_
      · simp only [List.length_map, List.length_range]
        omega
      · rw [map_range_succ]
        simp
    · rintro H2 ⟨p1, p2⟩
      refine ⟨D, _, rfl, SqL.of p2, ?_⟩
      rw [← ris_at]
      exact q _ p1
abbrev CRis (P : Program) (w : World) (K : PySem.W.Frag) (mg : Str → Option Value) (base : Heap) : Prop := Cal P w K mg base 1 "is_rising" st_is_rising ["signs"] spIsRising
end
end W5.V
namespace W5.V
open PySem PySem.Spec PyProof.Rows L2 K0 K6
open K4 hiding Blt
section
variable {P : Program} {w : World} {K : PySem.W.Frag} {mg : Str → Option Value} {base : Heap}
variable {cs : Nat → Addr} {Z : Addr}
theorem inAt_names {H : Hp} {ts : List (List L2.Key × V)} {f : NB → Option (Nat × Nat)} (h : InAt H ts f) : ∃ ns : List NB, ts.map (·.1) = ns.map kN ∧ ns.Nodup ∧ ∀ n, n ∈ ns ↔ (f n).isSome = true := by
  have pick : ∀ us : List (List L2.Key × V), (∀ e ∈ us, ∃ n, e.1 = kN n ∧ (f n).isSome = true) → ∃ ns : List NB, us.map (·.1) = ns.map kN ∧ ∀ n ∈ ns, (f n).isSome = true := by
    intro us
    induction us with
    | nil => exact fun _ => ⟨[], rfl, fun _ h => absurd h List.not_mem_nil⟩
    | cons u us ih =>
      intro hu
      obtain ⟨ns, e, hn⟩ := ih fun e he => hu e (List.mem_cons_of_mem _ he)
      obtain ⟨n, en, hf⟩ := hu u List.mem_cons_self
      exact ⟨n :: ns, by rw [List.map_cons, List.map_cons, e, en], fun m hm => by
        rcases List.mem_cons.mp hm with rfl | hm
        · exact hf
        · exact hn m hm⟩
  obtain ⟨ns, e, hn⟩ := pick ts h.keys
  refine ⟨ns, e, ?_, fun n => ⟨hn n, fun z => ?_⟩⟩
  · have := h.nd
    rw [e] at this
    exact (List.pairwise_map.mp this).imp fun z e => z (by rw [e])
  · obtain ⟨q, hq⟩ := Option.isSome_iff_exists.mp z
    obtain ⟨t, v, _⟩ := h.get n q hq
    have := valV_in v
    rw [e] at this
    obtain ⟨m, hm, em⟩ := List.mem_map.mp this
    rw [← kN_inj em]
    exact hm
theorem lockN_go2 {t : TE} {σ : L2.St} {n : Nat} (ms : List (Addr × List (List L2.Key × V))) {H : Hp} {Q : VK} (hn : ms.length = n) (nd : (ms.map (·.1)).Nodup) (raw : ∀ m ∈ ms, H m.1 = some (.dT m.2))
    (k : ∀ H3 Qn, (∀ b, (∀ m ∈ ms, b ≠ m.1) → H3 b = H b) → (∀ m ∈ ms, ∃ o, H3 m.1 = some (.frz o (.dT m.2))) →
      (∀ v H', Same H3 H' → (∀ Hf, (∀ b, (∀ m ∈ ms, b ≠ m.1) → Hf b = H' b) → (∀ m ∈ ms, Hf m.1 = some (.dT m.2)) → Q v Hf) → Qn v H') → t σ H3 Qn) : tLockN n t σ H Q := by
  rw [← hn]
  exact lockN_go ms nd raw k
def tDNewF : TE := fun _ H Q => ∀ d o, H d = none → Q (.ref d) (upd H d (.frz o (.dT [])))
theorem pe_dnewF {X : Cx} {pos : Pos} : PE X (.Dict [] [] pos) tDNewF := ⟨fun pins s σ H Q I h =>
  wpAny_Dict_empty ⟨.ref s.heap.objs.size, _, I.laid (a := s.heap.objs.size) (o := .frz _ (.dT [])) (t' := s.toks) (fun _ _ q => Heap.get?_push_of_some _ q) (Nat.le_refl _) ⟨Heap.get?_push_size _ rfl, dt_empty s.heap I.big⟩, rfl, h _ _ (I.hok.fresh (Nat.le_refl _))⟩⟩
abbrev st_rule_table : Stmt := top 39
abbrev nm_rule_table : List Str := ["words", "lot", "wide", "places", "sound", "other", "against", "left", "right"]
theorem sc_rule_table : FnScope nm_rule_table ["words", "lot", "wide"] (defScope st_rule_table) := ⟨rfl, rfl, rfl, by decide +kernel, rfl, by decide +kernel, by decide +kernel⟩
def lotB (l : List Nat) : Bool := lw l && decide (l ≠ []) && ris l
def RGood (K : PySem.W.Frag) (cs : Nat → Addr) (Z : Addr) (n : Nat) (v : V) (l : List Nat) (t : V) (H : Hp) (Q : VK) (E : XW) : Prop := ∃ (a : Addr) (ws : List (List Nat)) (wide : Nat), v = .ref a ∧ t = .int (wide : Nat) ∧ SqLT K H a (tws ws) ∧ ws.length ≤ 12 ∧ (∀ l ∈ ws, sOk l) ∧ 1 ≤ wide ∧ wide ≤ 2 ∧
  n = (l.filter fun c => decide (c ∈ ws.flatten)).length ∧ l.length ≤ 26 ∧ l.Pairwise (fun c d => c < d) ∧
  ((∃ pre p r post, pr2 l = pre ++ p :: post ∧ (∀ q ∈ pre, leastF (occA wide ws) q.1 q.2 = none) ∧ leastF (occA wide ws) p.1 p.2 = some r ∧ ∀ H' z, Same H H' → ZmB Z H' z (dPl r.1) (dPl r.2) → Rq cs 5 [("paper", .ref z)] H' E) ∨
   ((∀ p ∈ pr2 l, mB wide ws p.1 p.2 = false) ∧ ∀ H' p xs rows, Same H H' → H' p = some (.tup xs) → (∀ G, Same H' G → DpAll K G xs (rows.map enc3)) → RowsOf (occA wide ws) l rows → Q (.ref p) H'))
def spRuleX (K : PySem.W.Frag) (cs : Nat → Addr) (Z : Addr) : Sp := fun vs H Q E => ∃ (v u t : V) (n : Nat), vs = [v, u, t] ∧ spNeedOwn K cs [v] H (fun _ H1 => Sov K H1 u (fun l => l.length ≤ 1000 ∧ (lotB l = false → XPart cs 4 "lot" H1 E) ∧
  (lotB l = true → ∀ G, Same H1 G → spNeedWide K cs [t] G (fun _ H2 => spNeedFew K cs [v] H2 (fun _ H3 => RGood K cs Z n v l t H3 Q E) E) E)) (XPart cs 4 "lot" H1 E)) E
theorem ok_rule_table {f : Addr} {fd : FuncData} {dvs : List V} (F : FunD K "rule_table" "rule_table" (defArgs st_rule_table) (defBody st_rule_table) (defScope st_rule_table) dvs [] f fd) (T : BltS mg) (E_BadStock : Rs1 P w K mg base "BadStock" (cs 4) "part") (E_Impossible : Rs1 P w K mg base "Impossible" (cs 5) "paper") (C_need_own_words : CNo P w K mg base cs) (C_need_wide : CNwi P w K mg base cs) (C_need_few_words : CNf P w K mg base cs)
    (C_is_long_word : CLW P w K mg base) (C_is_rising : CRis P w K mg base) (C_places_by_sound : CPl P w K mg base) (C_pairs_among : CAmV P w K mg base) (C_least_against : CLa P w K mg base Z) : FnOk P w K mg base (L2.CX P w) 10 f fd ["words", "lot", "wide"] (spRuleX K cs Z) := by
  have C_need_own_words := calX_to C_need_own_words hOwn_eq
  have C_need_wide := calX_to C_need_wide hWide_eq
  have C_need_few_words := calX_to C_need_few_words hFew_eq
  refine F.ok (k := 9) sc_rule_table (fun vs H Q E h => ?_) (fun cdv A outer s H vs Q E hr h => ?_)
  · obtain ⟨_, _, _, _, rfl, _⟩ := h
    rfl
  · obtain ⟨v, u, t, n, rfl, h⟩ := h
    refine ⟨_, (pss_cons (ps_expr (pe_clX C_need_own_words (passes_call (takes_of rfl rfl rfl rfl) fun _ _ _ _ z => z) (hr.mono (by decide)) rfl (pa_cons (pv 0) pa_nil)))
  (pss_cons (ps_if (PW.pt (pw_or (pt_not (pt_val (pe_cl C_is_long_word (hr.mono (by decide)) rfl (pa_cons (pv 1) pa_nil)))) (pw_or (pt_cmpR op_eq (pv 1) pe_str (nomark _)) (pw_or1 (pt_not (pt_val (pe_cl C_is_rising (hr.mono (by decide)) rfl (pa_cons (pv 1) pa_nil)))))))) (pss_one (ps_raise1 E_BadStock (hr.mono (by decide)) rfl (takes_of rfl rfl rfl rfl) rfl (pa_cons pe_str pa_nil))) pss_nil)
  (pss_cons (ps_expr (pe_clX C_need_wide (passes_call (takes_of rfl rfl rfl rfl) fun _ _ _ _ z => z) (hr.mono (by decide)) rfl (pa_cons (pv 2) pa_nil)))
  (pss_cons (ps_expr (pe_clX C_need_few_words (passes_call (takes_of rfl rfl rfl rfl) fun _ _ _ _ z => z) (hr.mono (by decide)) rfl (pa_cons (pv 0) pa_nil)))
  (pss_cons (ps_set (i := 3) sc_rule_table.nd rfl (Or.inr rfl) (pe_cl C_places_by_sound (hr.mono (by decide)) rfl (pa_cons (pv 0) (pa_cons (pv 2) pa_nil))))
  (pss_cons (ps_for (passes_of rfl) rfl (pi_list (pe_cl C_pairs_among (hr.mono (by decide)) rfl (pa_cons (pv 1) pa_nil))) (pg_tup rfl (pgs_cons (pg_name (i := 4) sc_rule_table.nd rfl (Or.inl rfl)) (pgs_cons (pg_name (i := 5) sc_rule_table.nd rfl (Or.inl rfl)) pgs_nil))) (pss_cons (ps_set (i := 6) sc_rule_table.nd rfl (Or.inl rfl) (pe_cl C_least_against (hr.mono (by decide)) rfl (pa_cons (pv 3) (pa_cons (pv 4) (pa_cons (pv 5) pa_nil)))))
  (pss_one (ps_if (pt_cmpR op_notN (pv 6) pe_non (nomark _)) (pss_one (ps_raise1 E_Impossible (hr.mono (by decide)) rfl (takes_of rfl rfl rfl rfl) rfl (pa_cons (pv 6) pa_nil))) pss_nil))))
  (pss_one (ps_ret (pe_callTy call_tuple_of (by rfl) T.n_tuple (by decide +kernel) (pa_cons (pe_callB (cr_sortE (enc := enc3) rfl (hu20 hr) al3 tu3 dp3) (by rfl) T.n_sorted (by decide +kernel) (pa_cons (pe_lockN n (pe_lc2 (own := [("sound", 4), ("left", 7), ("right", 8)]) (vs1 := [7, 8]) (g := (gName 4)) (tt := tYes) (g1 := (gTup K 2 (gCons (gName 7) (gCons (gName 8) gNil)))) (tt1 := tYes) rfl sc_rule_table.nd (pi_str (pv 1)) (blkOk_by (N := nm_rule_table) (sc := defScope st_rule_table) (own := [("sound", 4), ("left", 7), ("right", 8)]) (by decide +kernel)) (by decide) (fun _ _ _ _ _ => by exact pg_name (i := 4) sc_rule_table.nd rfl (Or.inl rfl)) (fun _ _ _ _ _ => pts_nil) (fun _ _ _ _ _ => (pi_keys (pe_dget2 (by exact hu_of hr) (pv 3) (pv 4) pe_dnewF (by exact ⟨rfl, rfl, rfl, rfl⟩)))) (fun _ _ _ _ _ => by exact pg_tup rfl (pgs_cons (pg_name (i := 7) sc_rule_table.nd rfl (Or.inl rfl)) (pgs_cons (pg_name (i := 8) sc_rule_table.nd rfl (Or.inl rfl)) pgs_nil))) (fun _ _ _ _ _ => pts_nil) (fun _ _ _ _ _ => (pe_tup (pa_cons (pv 7) (pa_cons (pv 8) (pa_cons (pv 4) pa_nil))))))) pa_nil)) pa_nil)))))))))), ?_⟩
    rw [show L2.start nm_rule_table [v, u, t] = [some v, some u, some t, none, none, none, none, none, none] from rfl]
    refine ⟨_, rfl, ?_⟩
    show hOwn K cs [v] _ _ E
    refine mono_own h fun _ H1 h => ?_
    rcases h with ⟨l, rfl, hl, h1000, bad, good⟩ | ⟨m, kd, ne, bad⟩
    · refine ⟨_, rfl, _, rfl, .inl ⟨l, rfl, hl, ?_⟩⟩
      cases hlw : lw l with
      | false =>
        refine ⟨_, rfl, ?_⟩
        rw [hlw]
        exact (show cR1 (cs 4) "part" (fun cls d H' => E cls d H') [V.str "lot"] H1 from raise1 (bad (by unfold lotB; rw [hlw]; rfl)))
      | true =>
        refine ⟨_, rfl, ?_⟩
        rw [hlw]
        refine iteF ?_
        refine ⟨_, rfl, rfl, _, rfl, ?_⟩
        by_cases l0 : l = []
        · subst l0
          rw [show decide (V.str (Tx []) = V.str (Str.ofString "")) = true from rfl]
          exact (show cR1 (cs 4) "part" (fun cls d H' => E cls d H') [V.str "lot"] H1 from raise1 (bad rfl))
        rw [show decide (V.str (Tx l) = V.str (Str.ofString "")) = false from decide_eq_false fun z => l0 (tx_inj (V.str.inj z : Tx l = Tx []))]
        refine iteF ?_
        refine ⟨_, rfl, l, rfl, h1000, fun H2 s2 => ⟨_, rfl, ?_⟩⟩
        cases hris : ris l with
        | false =>
          exact (show cR1 (cs 4) "part" (fun cls d H' => E cls d H') [V.str "lot"] H2 from raise1 ((bad (by unfold lotB; rw [hlw, hris]; simp)).sm s2))
        | true =>
          refine iteF ?_
          refine ⟨_, rfl, ?_⟩
          show hWide K cs [t] _ _ E
          refine mono_wide (good (by unfold lotB; rw [hlw, hris]; simp [l0]) H2 s2) fun _ H3 h => ?_
          refine ⟨_, rfl, ?_⟩
          show hFew K cs [v] _ _ E
          refine mono_few h fun _ H4 h => ?_
          obtain ⟨a, ws, wide, rfl, rfl, hS1, hl12, hok, w1, w2, en, l26, asc, q⟩ := h
          have h12 : ∀ x ∈ ws, x.length ≤ 12 := fun x hx => Nat.le_trans (hok x hx).2 (by decide)
          refine ⟨_, rfl, _, rfl, a, ws, wide, rfl, hS1, by omega, h12, w2, fun H5 p kvs ks da s5 F5 => ?_⟩
          dsimp only [gName, List.set_cons_succ, List.set_cons_zero]
          have kmem : ∀ c, c ∈ ks ↔ c ∈ ws.flatten := fun c => (F5.mem c).trans occs_sound
          refine ⟨_, rfl, _, _, rfl, .inr ⟨l, rfl, rfl⟩, by rw [List.length_map]; omega, fun H7 D7 ts s7 e7 p7 => ⟨D7, rfl, ⟨_, SqL.of e7⟩, ?_⟩⟩
          have F7 := F5.sm s7
          rw [pr2_map] at p7
          have lts : ts.length = (pr2 l).length := by rw [p7.1, List.length_map]
          have L6 := occs_len (wide := wide) h12 ws.length
          have s17 := s5.trans s7
          have inA := pr2_asc asc
          refine for_it walk_list (fun i σ H' => (∃ v4 v5 v6, σ = [some (V.ref a), some (V.str (Tx l)), some (V.int (wide : Nat)), some (V.ref p), v4, v5, v6, none, none]) ∧ Same H7 H' ∧ ∀ j < i, ∀ q, (pr2 l)[j]? = some q → leastF (occA wide ws) q.1 q.2 = none) ⟨⟨_, _, _, rfl⟩, fun _ _ e => e, fun j hj => absurd hj (Nat.not_lt_zero _)⟩ (fun i σ G hi ⟨_, z, _⟩ => SqL.of (z _ _ e7)) ?_ ?_
          · rintro i y σ G1 G2 hi ⟨⟨v4, v5, v6, rfl⟩, q1, none_⟩ ⟨rfl, hy⟩
            have hi' : i < (pr2 l).length := by rw [← lts]; exact hi
            obtain ⟨t, rfl, ht⟩ := p7.2 i y _ hy (by rw [List.getElem?_map, List.getElem?_eq_getElem hi']; rfl)
            have hm := List.getElem_mem hi'
            have en := List.getElem?_eq_getElem hi'
            generalize (pr2 l)[i] = pq at ht hm en
            have lt := pr2_iff.mp asc pq hm
            have ht2 := q1 _ _ ht
            have ne : pq.1 ≠ pq.2 := Nat.ne_of_lt lt
            refine ⟨t, _, rfl, SqT.of ht2, rfl, _, _, rfl, _, _, rfl, rfl, ?_⟩
            dsimp only [gName, List.set_cons_succ, List.set_cons_zero]
            refine ⟨_, rfl, _, rfl, _, rfl, ?_⟩
            refine ⟨_, p, _, kvs, ks, da, pq.1, pq.2, rfl, ne, F7.sm q1, by omega, fun G3 v r s3 hr hv => ?_⟩
            have hO := leastO_of (occs_sorted _) hr
            have er := leastF_of hO
            dsimp only [gName, List.set_cons_succ, List.set_cons_zero]
            cases r with
            | some r =>
              obtain ⟨z, rfl, hz⟩ := hv
              refine ⟨_, rfl, rfl, _, rfl, ?_⟩
              refine iteT ?_
              rcases q with ⟨pre, p0, r0, post, e0, all0, er0, q⟩ | ⟨lno, _⟩
              · have ei : i = pre.length := by
                  rcases Nat.lt_trichotomy i pre.length with z | z | z
                  · rw [e0, List.getElem?_append_left z] at en
                    have := all0 _ (List.mem_of_getElem? en)
                    rw [this] at er
                    cases er
                  · exact z
                  · have := none_ pre.length z p0 (by rw [e0]; simp)
                    rw [this] at er0
                    cases er0
                have ep : pq = p0 := by
                  rw [e0, ei] at en
                  simpa using en.symm
                subst ep
                rw [er0] at er
                obtain rfl := Option.some.inj er
                exact ⟨_, rfl, raise1 (q _ _ (s17.trans (q1.trans s3)) hz)⟩
              · have := lno pq hm
                unfold mB at this
                rw [er] at this
                cases this
            | none =>
              obtain rfl : v = .non := hv
              refine ⟨_, rfl, rfl, ?_⟩
              refine ⟨_, rfl, ?_⟩
              dsimp only
              refine ⟨⟨_, _, _, rfl⟩, q1.trans s3, fun j hj q' hq => ?_⟩
              rcases Nat.lt_or_ge j i with z | z
              · exact none_ j z q' hq
              · obtain rfl : j = i := by omega
                rw [en] at hq
                obtain rfl := Option.some.inj hq
                exact er
          · rintro σ G ⟨⟨v4, v5, v6, rfl⟩, q1, none_⟩
            rw [lts] at none_
            rcases q with ⟨pre, p0, r0, post, e0, all0, er0, _⟩ | ⟨lno, q⟩
            · have := none_ pre.length (by rw [e0]; simp) p0 (by rw [e0]; simp)
              rw [this] at er0
              cases er0
            have F9 := F7.sm q1
            have s19 := s17.trans q1
            have pick : ∀ c, ∃ x : List (List L2.Key × V) × List NB, c ∈ ks → G (da c) = some (.dT x.1) ∧ x.1.length ≤ (occA wide ws).length ∧ x.1.map (·.1) = x.2.map kN ∧ x.2.Nodup ∧ ∀ n, n ∈ x.2 ↔ (firstAt (occA wide ws) c n).isSome = true := fun c => by
              by_cases hc : c ∈ ks
              · obtain ⟨ts, a, b, i⟩ := F9.inn c hc
                obtain ⟨ns, e, n1, n2⟩ := inAt_names i
                exact ⟨(ts, ns), fun _ => ⟨a, b, e, n1, n2⟩⟩
              · exact ⟨([], []), fun z => absurd z hc⟩
            obtain ⟨X, hX⟩ := Classical.axiomOfChoice pick
            have lk : ∀ c ∈ l, c ∈ ws.flatten → c ∈ ks := fun c hc hw => (kmem c).mpr hw
            have lmem : ∀ c, c ∈ (l.filter fun c => decide (c ∈ ws.flatten)) ↔ c ∈ l ∧ c ∈ ws.flatten := fun c => by rw [List.mem_filter, decide_eq_true_eq]
            have ndf : (l.filter fun c => decide (c ∈ ws.flatten)).Nodup := (asc.imp fun h => Nat.ne_of_lt h).sublist List.filter_sublist
            have ndl : l.Nodup := asc.imp fun h => Nat.ne_of_lt h
            have L4 : (occA wide ws).length ≤ 400 := Nat.le_trans L6 (by omega)
            have nb : ∀ c ∈ l, c ∈ ws.flatten → (X c).2.length ≤ 400 := fun c hc hw => by
              obtain ⟨_, h2, h3, _⟩ := hX c (lk c hc hw)
              have := congrArg List.length h3
              rw [List.length_map, List.length_map] at this
              omega
            have vmem : ∀ m, m ∈ ((l.filter fun c => decide (c ∈ ws.flatten)).map fun c => (da c, (X c).1)) ↔ ∃ c ∈ (l.filter fun c => decide (c ∈ ws.flatten)), (da c, (X c).1) = m := fun m => List.mem_map
            have ml : ((l.filter fun c => decide (c ∈ ws.flatten)).map fun c => (da c, (X c).1)).length = n := (List.length_map _).trans en.symm
            have mnd : (((l.filter fun c => decide (c ∈ ws.flatten)).map fun c => (da c, (X c).1)).map (·.1)).Nodup := by
              rw [List.map_map]
              refine List.pairwise_map.mpr (List.Pairwise.imp_of_mem (fun {c d} hc hd ne e => ne (F9.inj c (lk c ((lmem c).mp hc).1 ((lmem c).mp hc).2) d (lk d ((lmem d).mp hd).1 ((lmem d).mp hd).2) e)) ndf)
            have mraw : ∀ m ∈ ((l.filter fun c => decide (c ∈ ws.flatten)).map fun c => (da c, (X c).1)), G m.1 = some (.dT m.2) := fun m hm => by
              obtain ⟨c, hc, rfl⟩ := (vmem m).mp hm
              exact (hX c (lk c ((lmem c).mp hc).1 ((lmem c).mp hc).2)).1
            generalize ((l.filter fun c => decide (c ∈ ws.flatten)).map fun c => (da c, (X c).1)) = ms at ml mnd mraw vmem
            refine lockN_go2 ms ml mnd mraw fun H3 Qn o3 f3 hQ => ?_
            refine ⟨_, rfl, _, rfl, fun D hD => ?_⟩
            have pm : ∀ m ∈ ms, p ≠ m.1 := fun m hm z => by
              have := mraw m hm
              rw [← z, F9.at_] at this
              cases this
            have hp3 : H3 p = some (.dK kvs) := (o3 p pm).trans F9.at_
            have hf3 : ∀ c ∈ l, c ∈ ws.flatten → ∃ o, H3 (da c) = some (.frz o (.dT (X c).1)) := fun c hc hw => f3 _ ((vmem _).mpr ⟨c, (lmem c).mpr ⟨hc, hw⟩, rfl⟩)
            obtain ⟨Yn, hY⟩ : ∃ Yn : Nat → List NB, ∀ c, Yn c = if c ∈ ws.flatten then (X c).2 else [] := ⟨_, fun _ => rfl⟩
            have dm : ∀ m ∈ ms, D ≠ m.1 := fun m hm z => by
              obtain ⟨o, h⟩ := f3 m hm
              rw [← z, hD] at h
              cases h
            have RL : ∀ i, ((l.take i).flatMap fun c => (Yn c).map fun n => (n, c)).length ≤ i * 400 := fun i => by
              induction i with
              | zero => exact Nat.zero_le _
              | succ i ih =>
                rw [List.take_add_one, List.flatMap_append, List.length_append]
                cases e : l[i]? with
                | none =>
                  show _ + 0 ≤ _
                  omega
                | some c =>
                  show _ + (List.flatMap _ [c]).length ≤ _
                  rw [List.flatMap_singleton, List.length_map]
                  have : (Yn c).length ≤ 400 := by
                    rw [hY]
                    by_cases hw : c ∈ ws.flatten
                    · rw [if_pos hw]
                      exact nb c (List.mem_of_getElem? e) hw
                    · rw [if_neg hw]
                      exact Nat.zero_le _
                  omega
            refine lc2_it walk_str (fun i H' => Same H3 H' ∧ ∃ acc, H' D = some (.lst acc) ∧ AtF row3 H' acc ((l.take i).flatMap fun c => (Yn c).map fun n => (n, c))) ⟨Sm.new hD, [], upd_same, AtF.nil⟩ (fun _ _ _ _ => trivial) ?_ ?_
            · rintro i x G1 G2 hi ⟨g1, acc, g2, g3⟩ ⟨rfl, c, hc, rfl⟩
              have hc : l[i]? = some c := tx_at hc
              have hcl := List.mem_of_getElem? hc
              have il : i < l.length := (List.getElem?_eq_some_iff.mp hc).1
              have hp4 := g1 _ _ hp3
              have RLi := RL i
              refine ⟨rfl, ?_⟩
              refine ⟨_, rfl, p, rfl, .inl ⟨kvs, .inl hp4⟩, _, rfl, fun e1 o1 he1 => ?_⟩
              have se := Sm.new (o := .frz o1 (.dT [])) he1
              refine ⟨_, DGet.k (k := kS c) (se _ _ hp4), ?_⟩
              have ge := g1.trans se
              by_cases hw : c ∈ ws.flatten
              case neg =>
                rw [F9.no (fun z => hw ((kmem c).mp z))]
                refine ⟨e1, o1, rfl, .inr ⟨[], upd_same, ?_⟩⟩
                have ey : (l.take (i + 1)).flatMap (fun c => (Yn c).map fun n => (n, c)) = (l.take i).flatMap fun c => (Yn c).map fun n => (n, c) := by
                  rw [List.take_add_one, hc, List.flatMap_append]
                  show _ ++ List.flatMap _ [c] = _
                  rw [List.flatMap_singleton, hY, if_neg hw]
                  exact List.append_nil _
                rw [ey]
                refine in2_it walk_keysT (fun k H' => Same (upd G2 e1 (.frz o1 (.dT []))) H' ∧ ∃ acc, H' D = some (.lst acc) ∧ AtF row3 H' acc ((l.take i).flatMap fun c => (Yn c).map fun n => (n, c))) ⟨fun _ _ e => e, acc, se _ _ g2, g3.sm se⟩ (fun k G' hk z => z.1 _ _ upd_same) ?_ ?_
                · rintro k y G4 G5 hk
                  exact absurd hk (Nat.not_lt_zero _)
                · rintro G4 ⟨m1, acc, m2, m3⟩
                  exact ⟨ge.trans m1, acc, m2, m3⟩
              obtain ⟨o, hf⟩ := hf3 c hcl hw
              obtain ⟨_, _, hns, _, _⟩ := hX c (lk c hcl hw)
              have hn4 := nb c hcl hw
              rw [F9.val c (lk c hcl hw)]
              refine ⟨da c, o, rfl, .inr ⟨_, ge _ _ hf, ?_⟩⟩
              have lns : (X c).1.length = (X c).2.length := by
                have := congrArg List.length hns
                rw [List.length_map, List.length_map] at this
                exact this
              have eYc : Yn c = (X c).2 := by rw [hY, if_pos hw]
              have eY1 : (l.take (i + 1)).flatMap (fun c => (Yn c).map fun n => (n, c)) = ((l.take i).flatMap fun c => (Yn c).map fun n => (n, c)) ++ (X c).2.map fun n => (n, c) := by
                rw [List.take_add_one, hc, List.flatMap_append]
                show _ ++ List.flatMap _ [c] = _
                rw [List.flatMap_singleton, eYc]
              refine in2_it walk_keysT (fun k H' => Same H3 H' ∧ ∃ acc, H' D = some (.lst acc) ∧ AtF row3 H' acc (((l.take i).flatMap fun c => (Yn c).map fun n => (n, c)) ++ ((X c).2.take k).map fun n => (n, c))) ⟨ge, acc, se _ _ g2, ?_⟩ (fun k G' hk z => z.1 _ _ hf) ?_ ?_
              · rw [List.take_zero, List.map_nil, List.append_nil]
                exact g3.sm se
              · rintro k y G4 G5 hk ⟨m1, acc, m2, m3⟩ ⟨rfl, key, v, qa, hk2, rfl, hqa⟩
                have hk' : k < (X c).2.length := by rw [← lns]; exact hk
                have ek : key = kN (X c).2[k] := by
                  have := congrArg (fun z : List (List L2.Key) => z[k]?) hns
                  simp only [List.getElem?_map, hk2, List.getElem?_eq_getElem hk'] at this
                  exact Option.some.inj this
                have en : (X c).2[k]? = some (X c).2[k] := List.getElem?_eq_getElem hk'
                generalize (X c).2[k] = n at ek en
                subst ek
                refine ⟨qa, _, rfl, SqT.of hqa, rfl, _, _, rfl, _, _, rfl, rfl, ?_⟩
                refine ⟨rfl, ?_⟩
                refine ⟨_, rfl, _, rfl, _, rfl, by show 3 ≤ sizeLine; decide, fun T hT => ?_⟩
                have sT := Sm.new (o := .tup [V.str (Tx n.1), V.str (Tx n.2), V.str (Tx [c])]) hT
                have lm := m3.1
                rw [List.length_append, List.length_map, List.length_take] at lm
                refine ⟨acc, sT _ _ m2, small_lt (by omega), Sm.put (m1.trans sT) hD, _, upd_same, ?_⟩
                rw [List.take_add_one, en, List.map_append, ← List.append_assoc]
                exact ((m3.sm sT).snoc (r := (n, c)) upd_same).put (sT _ _ m2)
              · rintro G4 ⟨m1, acc, m2, m3⟩
                refine ⟨m1, acc, m2, ?_⟩
                rw [lns, List.take_length] at m3
                rw [eY1]
                exact m3
            · rintro H4 ⟨g1, acc, g2, g3⟩
              rw [tx_size, List.take_length] at g3
              refine hQ (.ref D) H4 g1 fun Hf of_ rf => ?_
              have sGf : Same G Hf := fun b o e => by
                by_cases hb : ∃ m ∈ ms, b = m.1
                · obtain ⟨m, hm, rfl⟩ := hb
                  rw [rf m hm, ← mraw m hm]
                  exact e
                · have nb : ∀ m ∈ ms, b ≠ m.1 := fun m hm z => hb ⟨m, hm, z⟩
                  rw [of_ b nb]
                  exact g1 _ _ ((o3 b nb).trans e)
              have eD : Hf D = some (.lst acc) := (of_ D dm).trans g2
              have gf : AtF row3 Hf acc (l.flatMap fun c => (Yn c).map fun n => (n, c)) := ⟨g3.1, fun i x r e1 e2 => by
                obtain ⟨T, e, h⟩ := g3.2 i x r e1 e2
                refine ⟨T, e, (of_ T fun m hm z => ?_).trans h⟩
                obtain ⟨o, hm'⟩ := f3 m hm
                rw [z, g1 _ _ hm'] at h
                cases h⟩
              generalize hR : (l.flatMap fun c => (Yn c).map fun n => (n, c)) = rows at gf
              refine ⟨D, acc, rows, rfl, SqL.of eD, fun G' sG => (gf.sm sG).dp row3_dp, fun b2 ys2 hb2 hys => ?_⟩
              have sb := Sm.new (o := .lst ys2) hb2
              refine ⟨b2, ys2, rfl, .inl ⟨SqL.of upd_same, fun t ht => ?_⟩⟩
              have st := Sm.new (o := .tup ys2) ht
              refine q _ t ys2 _ ((((s19.trans sGf).trans sb).trans st)) upd_same (fun G' sG => hys G' ((sb.trans st).trans sG)) ?_
              have pm := List.mergeSort_perm rows (leE enc3)
              refine ⟨pm.nodup_iff.mpr ?_, fun r => ?_, List.pairwise_mergeSort (le := leE enc3) (fun a b c => (leE_tot enc3).trans a b c) (fun a b => by
                  rcases (leE_tot enc3).total a b with z | z
                  · rw [z]; rfl
                  · rw [z, Bool.or_true]) rows⟩
              · rw [← hR]
                refine List.pairwise_flatMap.mpr ⟨fun c hc => ?_, ndl.imp fun {c d} ne x hx y hy e => ?_⟩
                · rw [hY]
                  split
                  · next hw => exact List.pairwise_map.mpr ((hX c (lk c hc hw)).2.2.2.1.imp fun ne e => ne (Prod.mk.inj e).1)
                  · exact .nil
                · obtain ⟨_, _, rfl⟩ := List.mem_map.mp hx
                  obtain ⟨_, _, rfl⟩ := List.mem_map.mp hy
                  exact ne (Prod.mk.inj e).2
              · rw [pm.mem_iff, ← hR, List.mem_flatMap]
                constructor
                · rintro ⟨c, hc, hr⟩
                  obtain ⟨n, hn, rfl⟩ := List.mem_map.mp hr
                  rw [hY] at hn
                  split at hn
                  · next hw => exact ⟨hc, ((hX c (lk c hc hw)).2.2.2.2 n).mp hn⟩
                  · exact absurd hn List.not_mem_nil
                · rintro ⟨hc, hr⟩
                  have hw : r.2 ∈ ws.flatten := by
                    obtain ⟨z, hz⟩ := Option.isSome_iff_exists.mp hr
                    exact occs_sound.mp ⟨_, firstAt_some hz, rfl⟩
                  refine ⟨r.2, hc, List.mem_map.mpr ⟨r.1, ?_, rfl⟩⟩
                  rw [hY, if_pos hw]
                  exact ((hX r.2 (lk r.2 hc hw)).2.2.2.2 r.1).mpr hr
    · exact ⟨_, rfl, _, rfl, .inr ⟨m, kd, ne, _, rfl, (show cR1 (cs 4) "part" (fun cls d H' => E cls d H') [V.str "lot"] H1 from raise1 bad)⟩⟩
end
end W5.V
namespace W5.V
open PySem PySem.Spec PyProof.Rows L2 K0 K6
open K4 hiding Blt
section
variable {P : Program} {w : World} {K : PySem.W.Frag} {mg : Str → Option Value} {base : Heap}
variable {cs : Nat → Addr} {Z : Addr}
/-! ### what is heard: words, stocks, numbers, what is impossible, too many -/
structure H5 (K : PySem.W.Frag) (mg : Str → Option Value) (cs : Nat → Addr) : Prop where
  g0 : mg "BadWord" = some (.ref (cs 0))
  g4 : mg "BadStock" = some (.ref (cs 4))
  g1 : mg "BadNumber" = some (.ref (cs 1))
  g5 : mg "Impossible" = some (.ref (cs 5))
  g3 : mg "TooMany" = some (.ref (cs 3))
  x0 : XfC K (cs 0)
  x4 : XfC K (cs 4)
  x1 : XfC K (cs 1)
  x5 : XfC K (cs 5)
  x3 : XfC K (cs 3)
  n0 : PySem.W.findIn K (.ref (cs 0)) "part" = some none
  n4 : PySem.W.findIn K (.ref (cs 4)) "part" = some none
  n1 : PySem.W.findIn K (.ref (cs 1)) "part" = some none
  n5 : PySem.W.findIn K (.ref (cs 5)) "paper" = some none
  n3w : PySem.W.findIn K (.ref (cs 3)) "what" = some none
  n3m : PySem.W.findIn K (.ref (cs 3)) "most" = some none
  e00 : PySem.W.exmOne K (.ref (cs 0)) (.ref (cs 0)) = some true
  e40 : PySem.W.exmOne K (.ref (cs 4)) (.ref (cs 0)) = some false
  e44 : PySem.W.exmOne K (.ref (cs 4)) (.ref (cs 4)) = some true
  e10 : PySem.W.exmOne K (.ref (cs 1)) (.ref (cs 0)) = some false
  e14 : PySem.W.exmOne K (.ref (cs 1)) (.ref (cs 4)) = some false
  e11 : PySem.W.exmOne K (.ref (cs 1)) (.ref (cs 1)) = some true
  e50 : PySem.W.exmOne K (.ref (cs 5)) (.ref (cs 0)) = some false
  e54 : PySem.W.exmOne K (.ref (cs 5)) (.ref (cs 4)) = some false
  e51 : PySem.W.exmOne K (.ref (cs 5)) (.ref (cs 1)) = some false
  e55 : PySem.W.exmOne K (.ref (cs 5)) (.ref (cs 5)) = some true
  e30 : PySem.W.exmOne K (.ref (cs 3)) (.ref (cs 0)) = some false
  e34 : PySem.W.exmOne K (.ref (cs 3)) (.ref (cs 4)) = some false
  e31 : PySem.W.exmOne K (.ref (cs 3)) (.ref (cs 1)) = some false
  e35 : PySem.W.exmOne K (.ref (cs 3)) (.ref (cs 5)) = some false
  e33 : PySem.W.exmOne K (.ref (cs 3)) (.ref (cs 3)) = some true
def An5 (no : Nat) (fs : List (Str × V)) (x y : V) : Prop := (no = 0 ∧ fs = [(Str.ofString "part", y)] ∧ x = .str "word") ∨ (no = 4 ∧ fs = [(Str.ofString "part", y)] ∧ x = .str "stock") ∨ (no = 1 ∧ fs = [(Str.ofString "part", y)] ∧ x = .str "number") ∨
  (no = 5 ∧ fs = [(Str.ofString "paper", y)] ∧ x = .str "impossible") ∨ (no = 3 ∧ fs = [(Str.ofString "most", y), (Str.ofString "what", x)])
/-- an error was heard of, told by what it is, or none -/
def TT5 (cs : Nat → Addr) : (XK → Hp → VK → Prop) → Hp → VK → Prop := fun tl H Q => (∃ E : XK, (∀ cls d H', E cls d H' → ∃ no fs x y dd, An5 no fs x y ∧ cls = .ref (cs no) ∧ d = some dd ∧ H' dd = some (.xd fs) ∧ ∀ t, H' t = none → Q (.ref t) (upd H' t (.tup [x, y]))) ∧ ∀ Q', tl E H Q') ∨
  ∀ Φ : VK, (∀ v H', Q .non H' → Φ v H') → tl (fun _ _ _ => False) H Φ
abbrev st_l_heard : Stmt := top 50
abbrev nm_l_heard : List Str := ["_law_ask", "_law_heard_here", "error"]
theorem sc_l_heard : FnScope nm_l_heard ["_law_ask"] (defScope st_l_heard) := ⟨rfl, rfl, rfl, by decide +kernel, rfl, by decide +kernel, by decide +kernel⟩
theorem heard5 {X : Cx} {g : Addr} {cdg : Value} {q : Str} (T : H5 X.K X.mg cs) : LamX.GivesTo X nm_l_heard "_law_heard" (defScope st_l_heard) g cdg (defBody st_l_heard) "_law_ask" q (TT5 cs) := by
  intro f c' s H Q tl act hc h
  refine ⟨_, pss_cons (ps_set (i := 1) sc_l_heard.nd rfl (Or.inl rfl) pe_non) (pss_cons (K5T.ps_try_named (X := (cxOf C8.CX0 X.prog X.w X.K X.mg X.base nm_l_heard "_law_heard" (defScope st_l_heard) g cdg X.A X.stack s H C8.E0).nox)
      (tb := fun W D σ H => ∃ Ech : XK, (∀ cls d σ' H', Ech cls d H' → σ'.length = 3 → W cls d σ' H') ∧ σ[0]? = some (some (.ref f)) ∧ H c' = some (LamX.CodeO c' q) ∧ tl Ech H (fun _ H' => D.nx σ H'))
      rfl rfl sc_l_heard.nd (fun W pn xe tk _ => ?_)
      (.cons (i := 2) rfl rfl ⟨by rfl, by decide, .inl T.g0⟩ (fun a oe cls d pn hz hf => pss_one (ps_set (i := 1) sc_l_heard.nd rfl (Or.inl rfl) (pe_tup (pa_cons pe_str (pa_cons (pe_xf T.x0 T.n0 hz hf (pv 2)) pa_nil)))))
      (.cons (i := 2) rfl rfl ⟨by rfl, by decide, .inl T.g4⟩ (fun a oe cls d pn hz hf => pss_one (ps_set (i := 1) sc_l_heard.nd rfl (Or.inl rfl) (pe_tup (pa_cons pe_str (pa_cons (pe_xf T.x4 T.n4 hz hf (pv 2)) pa_nil)))))
      (.cons (i := 2) rfl rfl ⟨by rfl, by decide, .inl T.g1⟩ (fun a oe cls d pn hz hf => pss_one (ps_set (i := 1) sc_l_heard.nd rfl (Or.inl rfl) (pe_tup (pa_cons pe_str (pa_cons (pe_xf T.x1 T.n1 hz hf (pv 2)) pa_nil)))))
      (.cons (i := 2) rfl rfl ⟨by rfl, by decide, .inl T.g5⟩ (fun a oe cls d pn hz hf => pss_one (ps_set (i := 1) sc_l_heard.nd rfl (Or.inl rfl) (pe_tup (pa_cons pe_str (pa_cons (pe_xf T.x5 T.n5 hz hf (pv 2)) pa_nil)))))
      (.cons (i := 2) rfl rfl ⟨by rfl, by decide, .inl T.g3⟩ (fun a oe cls d pn hz hf => pss_one (ps_set (i := 1) sc_l_heard.nd rfl (Or.inl rfl) (pe_tup (pa_cons (pe_xf T.x3 T.n3w hz hf (pv 2)) (pa_cons (pe_xf T.x3 T.n3m hz hf (pv 2)) pa_nil))))) .nil))))))
      (pss_one (ps_ret (pv 1)))), ?_⟩
  · refine ⟨fun pins s' σ H' D I h' => ?_⟩
    obtain ⟨Ech, hW, h1, h2, h3⟩ := h'
    exact (pss_one (ps_expr (act _ pn xe Ech _ _ (takes_len tk) hW))).run pins s' σ H' D I ⟨h1, h2, h3⟩
  · rcases h with ⟨E, hE, h1⟩ | h
    · refine ⟨E, fun cls d σ' H' he hl => ?_, rfl, hc, ?_⟩
      · obtain ⟨x, y, z, rfl⟩ : ∃ x y z, σ' = [x, y, z] := by
          match σ', hl with
          | [x, y, z], _ => exact ⟨x, y, z, rfl⟩
        obtain ⟨no, fs, vx, vy, dd, an, rfl, rfl, hd, k⟩ := hE _ _ _ he
        have no' : ∀ {p : Prop}, false = true → p := fun e => by cases e
        have yes' : ∀ {p : Prop}, true = false → p := fun e => by cases e
        rcases an with ⟨rfl, rfl, rfl⟩ | ⟨rfl, rfl, rfl⟩ | ⟨rfl, rfl, rfl⟩ | ⟨rfl, rfl, rfl⟩ | ⟨rfl, rfl⟩
        · exact ⟨true, T.e00, fun _ a na => ⟨_, rfl, rfl, rfl, dd, _, _, rfl, hd, rfl, by show 2 ≤ sizeLine; decide, fun t ht => ⟨_, rfl, k t ht⟩⟩, yes'⟩
        · exact ⟨false, T.e40, no', fun _ => ⟨true, T.e44, fun _ a na => ⟨_, rfl, rfl, rfl, dd, _, _, rfl, hd, rfl, by show 2 ≤ sizeLine; decide, fun t ht => ⟨_, rfl, k t ht⟩⟩, yes'⟩⟩
        · exact ⟨false, T.e10, no', fun _ => ⟨false, T.e14, no', fun _ => ⟨true, T.e11, fun _ a na => ⟨_, rfl, rfl, rfl, dd, _, _, rfl, hd, rfl, by show 2 ≤ sizeLine; decide, fun t ht => ⟨_, rfl, k t ht⟩⟩, yes'⟩⟩⟩
        · exact ⟨false, T.e50, no', fun _ => ⟨false, T.e54, no', fun _ => ⟨false, T.e51, no', fun _ => ⟨true, T.e55, fun _ a na => ⟨_, rfl, rfl, rfl, dd, _, _, rfl, hd, rfl, by show 2 ≤ sizeLine; decide, fun t ht => ⟨_, rfl, k t ht⟩⟩, yes'⟩⟩⟩⟩
        · exact ⟨false, T.e30, no', fun _ => ⟨false, T.e34, no', fun _ => ⟨false, T.e31, no', fun _ => ⟨false, T.e35, no', fun _ => ⟨true, T.e33, fun _ a na => ⟨_, rfl, rfl, rfl, dd, _, _, rfl, hd, rfl, _, rfl, rfl, rfl, dd, _, _, rfl, hd, rfl, by show 2 ≤ sizeLine; decide, fun t ht => ⟨_, rfl, k t ht⟩⟩, yes'⟩⟩⟩⟩⟩
      · exact h1 _
    · exact ⟨fun _ _ _ => False, fun _ _ _ _ z => z.elim, rfl, hc, h _ fun v H' q => ⟨_, rfl, q⟩⟩
theorem pe_heard5 {X : Cx} {TL : List (Addr × Str)} {c T g : Addr} {fd : FuncData} {params : Arguments} {body : Expr} {scope : Scope} {t : XK → TE} {p lpos pos : Pos} {k : Nat} (Fh : Fun X.K "_law_heard" "_law_heard" st_l_heard g fd) (TE : H5 X.K X.mg cs) (hg : Gl X "_law_heard") (hm : X.mg "_law_heard" = some (.ref g))
    (TB : LamX.TabB X.base X.mg c T) (hcode : X.env.code = .ref c) (hmT : (T, X.env.qual ++ "<lambda>") ∈ TL) (hu : ∀ p ∈ TL, p.1 = T → p.2 = X.env.qual ++ "<lambda>") (hr : Room (k + 2) X.A) (L : LamX.LamS X.env.scope scope) (hdef : defaultsOf params X.env = ([], []))
    (hbind : ∀ (q : Str) (cl : List (Str × Addr)) (pm cv ctv : Value), bindArgs (PySem.W.kla_fn "<lambda>" q params body scope cl pm cv ctv) ⟨[], []⟩ = pure [])
    (hbody : ∀ (A : Around) (outer : List Env) (s : Shared) (H : Hp) (E : XK) (f c' : Addr), Room k (A.deeper (LamX.lamEnv X scope s.heap.objs.size f c')) → PE (LamX.lamCx X A outer s H E scope f c') body (t E)) :
    PE X (.Call (.Name "_law_heard" p) [.Lambda params body scope lpos] [] pos) (LamX.tLam TL (TT5 cs) t) := by
  have hb0 := Fh.binds (ps := ["_law_ask"]) fun _ _ _ _ _ _ us hl => match us, hl with | [_], _ => rfl
  have kp := Fh.kp
  obtain ⟨oc, od, kV, doc, pm, an, cdv, ct, osl, rfl, lk, hcd⟩ := Fh.ex
  exact LamX.pe_lamcall (a := "_law_ask") hg hm kp lk hcd hb0 sc_l_heard rfl (Or.inl rfl) (heard5 TE) TB hcode hmT hu hr L hdef hbind hbody
end
end W5.V
namespace W5.V
open PySem PySem.Spec PyProof.Rows L2 K0 K6
open K4 hiding Blt
namespace Z
section
variable {P : Program} {w : World} {K : PySem.W.Frag} {mg : Str → Option Value} {base : Heap}
theorem bnd2z {m t : Int} (h1 : 0 ≤ m) (h2 : m < 2147483629) (h3 : 0 ≤ t) (h4 : t < 1000000) : (m * (2 * t + 2657) + 90089 * t * t + 81097).natAbs < 2 ^ 64 := by
  have a1 : 0 ≤ m * (2 * t + 2657) := Int.mul_nonneg h1 (by omega)
  have a2 : m * (2 * t + 2657) ≤ 2147483629 * 2002657 := Int.mul_le_mul (by omega) (by omega) (by omega) (by decide)
  have a3 : 0 ≤ 90089 * t * t := Int.mul_nonneg (by omega) h3
  have a4 : 90089 * t * t ≤ 90089000000 * 1000000 := Int.mul_le_mul (by omega) (by omega) h3 (by decide)
  generalize m * (2 * t + 2657) = x at a1 a2
  generalize 90089 * t * t = y at a3 a4
  omega
theorem bnd1z {x t : Int} (h1 : 0 ≤ x) (h2 : x < 2147483549) (h3 : 0 ≤ t) (h4 : t < 1000000) : (x + 81097 * t + 4561).natAbs < 2 ^ 64 := by omega
abbrev st_l_pen : Stmt := top 41
abbrev nm_l_pen : List Str := ["_law_script", "_law_cell"]
theorem sc_l_pen : FnScope nm_l_pen ["_law_script"] (defScope st_l_pen) := ⟨rfl, rfl, rfl, by decide +kernel, rfl, by decide +kernel, by decide +kernel⟩
theorem ok_pen {f : Addr} {fd : FuncData} (F : Fun K "_law_pen" "_law_pen" st_l_pen f fd) (T : Blt mg) : FnOk P w K mg base CX0 1 f fd ["_law_script"] (spPen K) := by
  refine F.ok sc_l_pen (fun vs H Q E h => ?_) (fun cdv A outer s H vs Q E hr h => ?_)
  · obtain ⟨a, ns, rfl, _⟩ := h
    rfl
  · refine ⟨_, (pss_one (ps_ret (pe_lst (pa_cons (pe_lc (own := [("_law_cell", 1)]) (g := (gName 1)) (tt := tYes) rfl sc_l_pen.nd (pi_list (pe_slice sl_list (pv 0) po_none (po_some pe_int))) (blkOk_by (N := nm_l_pen) (sc := defScope st_l_pen) (own := [("_law_cell", 1)]) (by decide +kernel)) (fun _ _ _ _ _ => by exact pg_name (i := 1) sc_l_pen.nd rfl (Or.inl rfl)) (fun _ _ _ _ _ => pts_nil) (fun _ _ _ _ _ => (pe_callTy call_int1 (by rfl) T.n_int (by decide +kernel) (pa_cons (pv 1) pa_nil)))) (pa_cons pe_int (pa_cons pe_int pa_nil)))))), ?_⟩
    obtain ⟨a, ns, rfl, hS, hl, q⟩ := h
    have e0 : cutV (ns.map V.int) none (some 62) = (ns.take 62).map V.int := by
      unfold cutV
      rw [HT.sIx_none, show ((62 : Int)) = ((62 : Nat) : Int) from rfl, HT.sIx_nat, List.length_map, List.drop_zero, Nat.sub_zero, List.map_take]
      by_cases c : 62 ≤ ns.length
      · rw [Nat.min_eq_left c]
      · rw [Nat.min_eq_right (by omega), List.take_of_length_le (by simp), List.take_of_length_le (by rw [List.length_map]; omega)]
    refine ⟨_, rfl, _, rfl, a, _, rfl, hS, fun c hc => ?_⟩
    rw [e0]
    refine ⟨c, rfl, ⟨_, SqL.of upd_same⟩, fun D hD => ?_⟩
    have ncD : c ≠ D := fun z => by
      rw [z, upd_same] at hD
      cases hD
    refine lc_it (n := ((ns.take 62).map V.int).length) walk_list (SPv (upd H c (.lst ((ns.take 62).map V.int))) D fun i => ((ns.take 62).map V.int).take i) (spv0 hD rfl) (fun i H2 _ p => SqL.of (p.1 _ _ upd_same)) ?_ ?_
    · rintro i x H2 H3 hi ⟨p1, p2⟩ ⟨rfl, hx⟩
      refine ⟨rfl, ?_⟩
      obtain ⟨z, rfl⟩ : ∃ z, x = V.int z := by
        rw [List.getElem?_map] at hx
        cases e : (ns.take 62)[i]? with
        | none =>
          rw [e] at hx
          cases hx
        | some z =>
          rw [e] at hx
          exact ⟨z, (Option.some.inj hx).symm⟩
      refine ⟨_, rfl, .inl ⟨z, rfl, ?_⟩⟩
      refine spv_put hD p1 p2 ?_ ?_
      · rw [List.length_take, List.length_map, List.length_take]
        omega
      · rw [List.take_succ, hx]
        rfl
    · rintro H2 ⟨p1, p2⟩
      dsimp only at p2
      rw [List.take_length] at p2
      refine ⟨by show 3 ≤ sizeLine; decide, fun p hp => ?_⟩
      have npD : D ≠ p := ne_of_none p2 hp
      refine q _ p (fun b o e => ?_) ⟨D, ns.take 62, 0, 0, upd_same, (upd_ne npD).trans p2, npD, ?_, by omega, by omega, by omega⟩
      · rw [upd_ne]
        · exact p1 b o (by rw [upd_ne (ne_of_none e hc)]; exact e)
        · exact ne_of_none (p1 b o (by rw [upd_ne (ne_of_none e hc)]; exact e)) hp
      · rw [List.length_take]
        omega
abbrev st_l_draw : Stmt := top 42
abbrev nm_l_draw : List Str := ["_law_pen_here", "_law_many", "_law_at", "_law_cell", "_law_mixed", "_law_rest"]
theorem sc_l_draw : FnScope nm_l_draw ["_law_pen_here", "_law_many"] (defScope st_l_draw) := ⟨rfl, rfl, rfl, by decide +kernel, rfl, by decide +kernel, by decide +kernel⟩
theorem ok_draw {f : Addr} {fd : FuncData} (F : Fun K "_law_draw" "_law_draw" st_l_draw f fd) (T : Blt mg) : FnOk P w K mg base CX0 1 f fd ["_law_pen_here", "_law_many"] (spDraw K) := by
  refine F.ok sc_l_draw (fun vs H Q E h => ?_) (fun cdv A outer s H vs Q E hr h => ?_)
  · obtain ⟨p, many, T, rfl, _⟩ := h
    rfl
  · refine ⟨_, (pss_cons (ps_if (pt_cmpR op_gt (pe_ix ix_list (pv 0) pe_int (fun _ _ => rfl)) pe_int (nomark _)) (pss_cons (ps_set (i := 5) sc_l_draw.nd rfl (Or.inl rfl) (pe_callTy call_int1 (by rfl) T.n_int (by decide +kernel) (pa_cons (pe_ix ix_list (pv 0) pe_int (fun _ _ => rfl)) pa_nil)))
  (pss_cons (ps_asg (pe_op op_fdiv (pv 5) (pv 1)) (pg_sub (pv 0) pe_int set_list))
  (pss_one (ps_ret (pe_op op_mod (pe_callTy call_int1 (by rfl) T.n_int (by decide +kernel) (pa_cons (pv 5) pa_nil)) (pv 1)))))) pss_nil)
  (pss_cons (ps_set (i := 2) sc_l_draw.nd rfl (Or.inl rfl) (pe_ix ix_list (pv 0) pe_int (fun _ _ => rfl)))
  (pss_cons (ps_asg (pe_op op_add (pv 2) pe_int) (pg_sub (pv 0) pe_int set_list))
  (pss_cons (ps_set (i := 3) sc_l_draw.nd rfl (Or.inl rfl) (pe_op op_add (pe_op op_mul pe_int (pv 2)) pe_int))
  (pss_cons (ps_if (pt_cmpR (op_neD hr.units) (pe_ix ix_list (pv 0) pe_int (fun _ _ => rfl)) (pe_lst pa_nil) (nomark _)) (pss_one (ps_set (i := 3) sc_l_draw.nd rfl (Or.inl rfl) (pe_ix ix_list (pe_ix ix_list (pv 0) pe_int (fun _ _ => rfl)) (pe_op op_mod (pe_callTy call_int1 (by rfl) T.n_int (by decide +kernel) (pa_cons (pv 2) pa_nil)) (pe_callB call_len_seq (by rfl) T.n_len (by decide +kernel) (pa_cons (pe_ix ix_list (pv 0) pe_int (fun _ _ => rfl)) pa_nil))) (fun _ _ => rfl)))) pss_nil)
  (pss_cons (ps_if (PW.pt (pw_and (pt_cmpR op_lt (pv 2) (pe_callB call_len_seq (by rfl) T.n_len (by decide +kernel) (pa_cons (pe_ix ix_list (pv 0) pe_int (fun _ _ => rfl)) pa_nil)) (nomark _)) (pw_and1 (pt_cmpR op_ge (pe_callB call_abs (by rfl) T.n_abs (by decide +kernel) (pa_cons (pv 3) pa_nil)) (pe_op op_pow pe_int pe_int) (nomark _))))) (pss_cons (ps_set (i := 5) sc_l_draw.nd rfl (Or.inl rfl) (pe_op op_add (pe_op op_mul pe_int (pe_op op_sub (pe_callB call_abs (by rfl) T.n_abs (by decide +kernel) (pa_cons (pv 3) pa_nil)) (pe_op op_pow pe_int pe_int))) (pe_callTy call_int1 (by rfl) T.n_int (by decide +kernel) (pa_cons (pe_cmpR op_lt (pv 3) pe_int (nomark _)) pa_nil))))
  (pss_cons (ps_asg (pe_op op_fdiv (pe_callTy call_int1 (by rfl) T.n_int (by decide +kernel) (pa_cons (pv 5) pa_nil)) (pv 1)) (pg_sub (pv 0) pe_int set_list))
  (pss_one (ps_ret (pe_op op_mod (pe_callTy call_int1 (by rfl) T.n_int (by decide +kernel) (pa_cons (pv 5) pa_nil)) (pv 1)))))) pss_nil)
  (pss_cons (ps_set (i := 4) sc_l_draw.nd rfl (Or.inl rfl) (pe_op op_mod (pe_callTy call_int1 (by rfl) T.n_int (by decide +kernel) (pa_cons (pe_op op_pow (pe_op op_add (pe_op op_add (pe_op op_mod (pe_callTy call_int1 (by rfl) T.n_int (by decide +kernel) (pa_cons (pv 3) pa_nil)) pe_int) (pe_op op_mul pe_int (pv 2))) pe_int) pe_int) pa_nil)) pe_int))
  (pss_cons (ps_set (i := 4) sc_l_draw.nd rfl (Or.inl rfl) (pe_op op_mod (pe_callTy call_int1 (by rfl) T.n_int (by decide +kernel) (pa_cons (pe_op op_pow (pe_op op_add (pe_op op_add (pe_op op_mul (pv 4) (pe_op op_add (pe_op op_mul pe_int (pv 2)) pe_int)) (pe_op op_mul (pe_op op_mul pe_int (pv 2)) (pv 2))) pe_int) pe_int) pa_nil)) pe_int))
  (pss_one (ps_ret (pe_op op_mod (pe_callTy call_int1 (by rfl) T.n_int (by decide +kernel) (pa_cons (pe_op op_fdiv (pv 4) pe_int) pa_nil)) (pv 1)))))))))))), ?_⟩
    obtain ⟨p, many, T, rfl, ⟨l, ns, t, r, hp, hl, hlp, hn, ht0, htT, hr0⟩, hT, hm1, hm2, q⟩ := h
    have done1 : ∀ (t' r' : Int), 0 ≤ t' → t' ≤ T + 1 → 0 ≤ r' → ∀ v, 0 ≤ v → v < many → Q (.int v) (upd H p (.lst [.ref l, .int t', .int r'])) := fun t' r' a b c v d e =>
      q _ v (KB.put hp) ⟨l, ns, t', r', upd_same, (upd_ne hlp).trans hl, hlp, hn, a, by omega, c⟩ d e
    -- if the rest is above 0
    refine ⟨_, rfl, p, _, 2, .int r, rfl, rfl, SqL.of hp, rfl, _, _, rfl, rfl, _, rfl, ?_⟩
    refine ite2 (fun c => ?_) (fun c => ?_)
    · refine ⟨_, rfl, p, _, 2, .int r, rfl, rfl, SqL.of hp, rfl, .inl ⟨_, rfl, ?_⟩⟩
      refine ⟨_, rfl, _, rfl, _, _, rfl, rfl, ⟨by omega, by omega⟩, ?_⟩
      refine ⟨_, rfl, p, _, 2, 2, rfl, rfl, hp, rfl, ?_⟩
      refine ⟨_, rfl, .inl ⟨_, rfl, _, rfl, _, _, rfl, rfl, (by show 0 < many; omega), ?_⟩⟩
      exact done1 t (r / many) ht0 (by omega) (Int.ediv_nonneg hr0 (by omega)) _ (Int.emod_nonneg _ (by omega)) (Int.emod_lt_of_pos _ (by omega))
    · refine ⟨_, rfl, p, _, 1, .int t, rfl, rfl, SqL.of hp, rfl, ?_⟩
      refine ⟨_, rfl, _, _, rfl, rfl, ?_⟩
      refine ⟨_, rfl, p, _, 1, 1, rfl, rfl, hp, rfl, ?_⟩
      have hT' : (T : Int) < 1000000 := by omega
      have hp2 : (upd H p (.lst [.ref l, .int (t + 1), .int r])) p = some (.lst [.ref l, .int (t + 1), .int r]) := upd_same
      have hl2 : (upd H p (.lst [.ref l, .int (t + 1), .int r])) l = some (.lst (ns.map V.int)) := (upd_ne hlp).trans hl
      -- the cell, when the pen has no numbers
      refine ⟨_, rfl, _, _, rfl, rfl, .inl ⟨by decide, by decide⟩, _, _, rfl, rfl, ?_⟩
      -- if the pen has numbers
      refine ⟨_, rfl, p, _, 0, .ref l, rfl, rfl, SqL.of hp2, rfl, ?_⟩
      refine ⟨Nat.zero_le _, fun e he => ?_⟩
      have he : (upd H p (.lst [.ref l, .int (t + 1), .int r])) e = none := he
      have hep : e ≠ p := fun z => by
        rw [z, hp2] at he
        cases he
      have hel : e ≠ l := fun z => by
        rw [z, hl2] at he
        cases he
      have hal : (ns.map V.int).all datOk = true := List.all_eq_true.mpr fun v hv => by
        obtain ⟨i, _, rfl⟩ := List.mem_map.mp hv
        rfl
      refine ⟨.list ((ns.map V.int).map datV), .list ([].map datV), .lst (SqL.of ((upd_ne hel.symm).trans hl2)) (dp_all hal), .lst (SqL.of upd_same) .nil, dat_shaped hal, dat_shaped (xs := []) rfl, _, rfl, ?_⟩
      have hp3 : (upd (upd H p (.lst [.ref l, .int (t + 1), .int r])) e (.lst [])) p = some (.lst [.ref l, .int (t + 1), .int r]) := (upd_ne hep.symm).trans hp2
      have hl3 : (upd (upd H p (.lst [.ref l, .int (t + 1), .int r])) e (.lst [])) l = some (.lst (ns.map V.int)) := (upd_ne hel.symm).trans hl2
      have kb3 : KB p H (upd (upd H p (.lst [.ref l, .int (t + 1), .int r])) e (.lst [])) := KB.trans (KB.put hp) (KB.sm (Sm.new he))
      have kb3' : ∀ x y, KB p H (upd (upd (upd H p (.lst [.ref l, .int (t + 1), .int r])) e (.lst [])) p (.lst [.ref l, x, y])) := fun x y => KB.trans kb3 (KB.put hp3)
      have c10 : CPow 10 18 := ⟨by decide, by decide, by decide⟩
      refine ite2 (fun c1 => ?g1) (fun c1 => ?g2)
      case' g1 =>
        have hns : 0 < ns.length := by
          cases ns with
          | nil => exact absurd c1 (by decide)
          | cons x r => exact Nat.succ_pos _
        have hlen : (0 : Int) < ((ns.map V.int).length : Int) := by
          rw [List.length_map]
          omega
        obtain ⟨v, hv, hat, _⟩ := at_in (xs := ns.map V.int) (i := t % ((ns.map V.int).length : Int)) (Int.emod_nonneg _ (by omega)) (Int.emod_lt_of_pos _ hlen)
        obtain ⟨cell, _, rfl⟩ := List.mem_map.mp hv
        refine ⟨_, rfl, p, _, 0, .ref l, rfl, rfl, SqL.of hp3, rfl, _, rfl, .inl ⟨t, rfl, _, rfl, p, _, 0, .ref l, rfl, rfl, SqL.of hp3, rfl, l, _, rfl, .inl (SqL.of hl3), _, _, rfl, rfl,
          hlen, l, _, _, .int cell, rfl, rfl, SqL.of hl3, hat, ?_⟩⟩
      case' g2 =>
        let cell : Int := 90089 * t + 4561
      all_goals
        apply cutP
        · intro last
          refine ⟨_, rfl, _, rfl, p, _, 0, .ref l, rfl, rfl, SqL.of hp3, rfl, l, _, rfl, .inl (SqL.of hl3), _, _, rfl, rfl, _, rfl, ite2 (fun c2 => ?_) (fun c2 => ?_)⟩
          · refine ⟨_, rfl, _, rfl, _, _, rfl, rfl, c10, _, _, rfl, rfl, _, rfl, ite2 (fun c3 => ?_) (fun c3 => ?_)⟩
            · clear last
              have c4 : (10 : Int) ^ (Int.toNat 18) ≤ if cell < 0 then -cell else cell := of_decide_eq_true c3
              refine ⟨_, rfl, _, rfl, _, _, rfl, rfl, c10, _, _, rfl, rfl, _, _, rfl, rfl, .inl ⟨by decide, by decide⟩, _, rfl, _, _, rfl, rfl, .inr ⟨_, rfl, _, _, rfl, rfl, ?_⟩⟩
              have hr : 0 ≤ 2 * ((if cell < 0 then -cell else cell) - 10 ^ (Int.toNat 18)) + (if decide (cell < 0) = true then (1 : Int) else 0) := by
                have h1 : (0 : Int) ≤ if decide (cell < 0) = true then (1 : Int) else 0 := by split <;> omega
                generalize (10 : Int) ^ (Int.toNat 18) = ten at c4
                generalize (if cell < 0 then -cell else cell) = ab at c4
                omega
              refine ⟨_, rfl, .inl ⟨_, rfl, _, rfl, _, _, rfl, rfl, ⟨by omega, by omega⟩, _, rfl, p, _, 2, 2, rfl, rfl, hp3, rfl, ?_⟩⟩
              refine ⟨_, rfl, .inl ⟨_, rfl, _, rfl, _, _, rfl, rfl, (by show 0 < many; omega), ?_⟩⟩
              exact q _ _ (kb3' _ _) ⟨l, ns, t + 1, _, upd_same, (upd_ne hlp).trans hl3, hlp, hn, by omega, by omega, Int.ediv_nonneg hr (by omega)⟩ (Int.emod_nonneg _ (by omega)) (Int.emod_lt_of_pos _ (by omega))
            · exact last
          · exact iteF last
        · have b1 : 0 ≤ cell % 2147483549 := Int.emod_nonneg _ (by decide)
          have b2 : cell % 2147483549 < 2147483549 := Int.emod_lt_of_pos _ (by decide)
          have b3 : 0 ≤ (cell % 2147483549 + 81097 * t + 4561) ^ (Int.toNat 5) % 2147483629 := Int.emod_nonneg _ (by decide)
          have b4 : (cell % 2147483549 + 81097 * t + 4561) ^ (Int.toNat 5) % 2147483629 < 2147483629 := Int.emod_lt_of_pos _ (by decide)
          have b5 : -(2 ^ 64) < 90089 * t := by omega
          have b6 : 90089 * t < 2 ^ 64 := by omega
          refine ⟨_, rfl, .inl ⟨_, rfl, _, _, rfl, rfl, (by show (0 : Int) < 2147483549; decide), _, rfl, _, _, rfl, rfl, .inl ⟨by decide, by decide⟩, _, _, rfl, rfl, _, _, rfl, rfl, _, _, rfl, rfl, ⟨by decide, by decide, bnd1z b1 b2 ht0 (by omega)⟩, .inl ⟨_, rfl, _, _, rfl, rfl, (by show (0 : Int) < 2147483629; decide), ?_⟩⟩⟩
          refine ⟨_, rfl, _, rfl, _, _, rfl, rfl, .inl ⟨by decide, by decide⟩, _, _, rfl, rfl, _, _, rfl, rfl, .inl ⟨Int.lt_of_lt_of_le (by decide) b3, Int.lt_trans b4 (by decide)⟩, _, rfl, _, _, rfl, rfl, .inl ⟨by decide, by decide⟩, _, rfl, _, _, rfl, rfl, .inl ⟨b5, b6⟩,
            _, _, rfl, rfl, _, _, rfl, rfl, _, _, rfl, rfl, ⟨by decide, by decide, bnd2z b3 b4 ht0 (by omega)⟩, .inl ⟨_, rfl, _, _, rfl, rfl, (by show (0 : Int) < 2147483587; decide), ?_⟩⟩
          refine ⟨_, rfl, _, _, rfl, rfl, ⟨by decide, by decide⟩, .inl ⟨_, rfl, _, rfl, _, _, rfl, rfl, (by show 0 < many; omega), ?_⟩⟩
          exact q _ _ kb3 ⟨l, ns, t + 1, r, hp3, hl3, hlp, hn, by omega, by omega, hr0⟩ (Int.emod_nonneg _ (by omega)) (Int.emod_lt_of_pos _ (by omega))
abbrev CDraw (P : Program) (w : World) (K : PySem.W.Frag) (mg : Str → Option Value) (base : Heap) : Prop := Cal P w K mg base 1 "_law_draw" st_l_draw ["_law_pen_here", "_law_many"] (spDraw K)
abbrev st_l_pick : Stmt := top 43
abbrev nm_l_pick : List Str := ["_law_pen_here", "_law_some"]
theorem sc_l_pick : FnScope nm_l_pick ["_law_pen_here", "_law_some"] (defScope st_l_pick) := ⟨rfl, rfl, rfl, by decide +kernel, rfl, by decide +kernel, by decide +kernel⟩
theorem ok_pick {f : Addr} {fd : FuncData} (F : Fun K "_law_pick" "_law_pick" st_l_pick f fd) (T : Blt mg) (C__law_draw : CDraw P w K mg base) : FnOk P w K mg base CX0 2 f fd ["_law_pen_here", "_law_some"] (spPick K) := by
  refine F.ok sc_l_pick (fun vs H Q E h => ?_) (fun cdv A outer s H vs Q E hr h => ?_)
  · obtain ⟨p, s, T, rfl, _⟩ := h
    rfl
  · refine ⟨_, (pss_one (ps_ret (pe_ix ix_seq (pv 1) (pe_cl C__law_draw (hr.mono (by decide)) rfl (pa_cons (pv 0) (pa_cons (pe_callB call_len (by rfl) T.n_len (by decide +kernel) (pa_cons (pv 1) pa_nil)) pa_nil))) (fun _ _ => rfl)))), ?_⟩
    obtain ⟨p, s, T, rfl, hp, hT, ⟨a, xs, rfl, ha, hap, h1, h2, q⟩ | ⟨l, rfl, h1, h2, q⟩⟩ := h
    · refine ⟨_, rfl, _, rfl, _, rfl, _, xs.length, rfl, .inl ⟨xs, ha, rfl⟩, p, xs.length, T, rfl, hp, hT, by omega, by omega, fun H' v kb hp' v0 v1 => ?_⟩
      obtain ⟨u, hu, hat, _⟩ := at_in v0 v1
      exact .inl ⟨a, xs, v, u, rfl, rfl, kb.l hap ha, hat, q H' u kb hp' hu⟩
    · have hz : (Tx l).length ≤ sizeLine := by rw [tx_len]; exact Nat.le_trans h2 (by decide)
      refine ⟨_, rfl, _, rfl, _, rfl, _, l.length, rfl, ⟨hz, (tx_len l).symm⟩, p, l.length, T, rfl, hp, hT, by omega, by omega, fun H' v kb hp' v0 v1 => ?_⟩
      obtain ⟨u, hu, hat, _⟩ := at_in v0 v1
      exact .inr (.inr ⟨Tx l, v, u, rfl, rfl, hz, hat, q H' u kb hp' hu⟩)
theorem kb_t {K : PySem.W.Frag} {p a : Addr} {H H' : Hp} {xs : List V} (k : KB p H H') (hp : ∃ ys, H p = some (.lst ys)) (h : SqT K H a xs) : SqT K H' a xs := by
  obtain ⟨ys, ep⟩ := hp
  rcases h with (e | ⟨o, e⟩) | r
  · exact .inl (.inl (k.kb _ _ (fun z => by rw [z, ep] at e; cases e) e))
  · exact .inl (.inr ⟨o, k.kb _ _ (fun z => by rw [z, ep] at e; cases e) e⟩)
  · exact .inr r
def spPickT (K : PySem.W.Frag) : Sp := fun vs H Q _ => ∃ (p a : Addr) (xs : List V) (T : Nat), vs = [.ref p, .ref a] ∧ PenAt H p T ∧ T < 1000000 ∧ SqT K H a xs ∧ 1 ≤ xs.length ∧ xs.length ≤ 1000 ∧ ∀ H' v, KB p H H' → PenAt H' p (T + 1) → v ∈ xs → Q v H'
theorem ok_pickT {f : Addr} {fd : FuncData} (F : Fun K "_law_pick" "_law_pick" st_l_pick f fd) (T : Blt mg) (C__law_draw : CDraw P w K mg base) : FnOk P w K mg base CX0 2 f fd ["_law_pen_here", "_law_some"] (spPickT K) := by
  refine F.ok sc_l_pick (fun vs H Q E h => ?_) (fun cdv A outer s H vs Q E hr h => ?_)
  · obtain ⟨p, a, _, T, rfl, _⟩ := h
    rfl
  · refine ⟨_, (pss_one (ps_ret (pe_ix ix_seq (pv 1) (pe_cl C__law_draw (hr.mono (by decide)) rfl (pa_cons (pv 0) (pa_cons (pe_callB call_len_seq (by rfl) T.n_len (by decide +kernel) (pa_cons (pv 1) pa_nil)) pa_nil))) (fun _ _ => rfl)))), ?_⟩
    obtain ⟨p, a, xs, T, rfl, hp, hT, ha, h1, h2, q⟩ := h
    refine ⟨_, rfl, _, rfl, _, rfl, a, xs, rfl, .inr ha, p, xs.length, T, rfl, hp, hT, by omega, by omega, fun H' v kb hp' v0 v1 => ?_⟩
    obtain ⟨u, hu, hat, _⟩ := at_in v0 v1
    exact .inr (.inl ⟨a, xs, v, u, rfl, rfl, kb_t kb hp.some ha, hat, q H' u kb hp' hu⟩)
abbrev CPick (P : Program) (w : World) (K : PySem.W.Frag) (mg : Str → Option Value) (base : Heap) : Prop := Cal P w K mg base 2 "_law_pick" st_l_pick ["_law_pen_here", "_law_some"] (spPick K)
def sOk (l : List Nat) : Prop := (∀ c ∈ l, 97 ≤ c ∧ c ≤ 121 ∧ c ≠ 117) ∧ l.length ≤ 5
theorem sOk.up {l : List Nat} (h : sOk l) : W5.sOk l := ⟨fun c hc => ⟨(h.1 c hc).1, Nat.le_succ_of_le (h.1 c hc).2.1⟩, h.2⟩
theorem tws_dat {ws : List (List Nat)} (h : ∀ l ∈ ws, sOk l) : (tws ws).all datOk = true := W5.tws_dat fun l hl => (h l hl).up
theorem sOk.put {l : List Nat} (h : sOk l) {k c : Nat} (hk : k ≤ 4) (hc : 97 ≤ c ∧ c ≤ 121 ∧ c ≠ 117) : sOk (l.take k ++ [c] ++ l.drop (k + 1)) := by
  refine ⟨fun x hx => ?_, (h.up.put hk ⟨hc.1, Nat.le_succ_of_le hc.2.1⟩).2⟩
  rcases List.mem_append.mp hx with hx | hx
  · rcases List.mem_append.mp hx with hx | hx
    · exact h.1 x (List.mem_of_mem_take hx)
    · rw [List.mem_singleton.mp hx]
      exact hc
  · exact h.1 x (List.mem_of_mem_drop hx)
/-- words of few signs -/
def sOkS (sd l : List Nat) : Prop := (∀ c ∈ l, c ∈ sd) ∧ l.length ≤ 5
theorem sOkS.ok {sd l : List Nat} (hs : ∀ c ∈ sd, 97 ≤ c ∧ c ≤ 121 ∧ c ≠ 117) (h : sOkS sd l) : sOk l := ⟨fun c hc => hs c (h.1 c hc), h.2⟩
theorem sOkS.put {sd l : List Nat} (hs : ∀ c ∈ sd, 97 ≤ c ∧ c ≤ 121 ∧ c ≠ 117) (h : sOkS sd l) {k c : Nat} (hk : k ≤ 4) (hc : c ∈ sd) : sOkS sd (l.take k ++ [c] ++ l.drop (k + 1)) := by
  refine ⟨fun x hx => ?_, ((h.ok hs).put hk (hs c hc)).2⟩
  rcases List.mem_append.mp hx with hx | hx
  · rcases List.mem_append.mp hx with hx | hx
    · exact h.1 x (List.mem_of_mem_take hx)
    · rw [List.mem_singleton.mp hx]
      exact hc
  · exact h.1 x (List.mem_of_mem_drop hx)
def spLWords (K : PySem.W.Frag) : Sp := fun vs H Q _ => ∃ (p : Addr) (most : Int) (T : Nat), vs = [.ref p, .int most] ∧ PenAt H p T ∧ T + 100 < 1000000 ∧ 1 ≤ most ∧ most ≤ 9 ∧
  ∀ H' D ws, KB p H H' → PenAt H' p (T + 60) → H D = none → H' D = some (.lst (tws ws)) → 1 ≤ ws.length → ws.length ≤ most → (∀ l ∈ ws, sOk l) → (∃ sd : List Nat, sd.length ≤ 5 ∧ ∀ l ∈ ws, ∀ c ∈ l, c ∈ sd) → Q (.ref D) H'
abbrev st_l_words : Stmt := top 44
abbrev nm_l_words : List Str := ["_law_pen_here", "_law_most", "_law_turn", "_law_sounds_here", "_law_found", "_law_word", "_law_at"]
theorem sc_l_words : FnScope nm_l_words ["_law_pen_here", "_law_most"] (defScope st_l_words) := ⟨rfl, rfl, rfl, by decide +kernel, rfl, by decide +kernel, by decide +kernel⟩
theorem ok_lwords {f : Addr} {fd : FuncData} (F : Fun K "_law_words" "_law_words" st_l_words f fd) (T : Blt mg) (C__law_pick : CPick P w K mg base) (C__law_draw : CDraw P w K mg base) : FnOk P w K mg base CX0 3 f fd ["_law_pen_here", "_law_most"] (spLWords K) := by
  refine F.ok sc_l_words (fun vs H Q E h => ?_) (fun cdv A outer s H vs Q E hr h => ?_)
  · obtain ⟨_, _, _, rfl, _⟩ := h
    rfl
  · refine ⟨_, (pss_cons (ps_asg (pe_tup (pa_cons (pe_cl C__law_pick (hr.mono (by decide)) rfl (pa_cons (pv 0) (pa_cons (pe_lst (pa_cons pe_str (pa_cons pe_str (pa_cons pe_str (pa_cons pe_str (pa_cons pe_str (pa_cons pe_str pa_nil))))))) pa_nil))) (pa_cons (pe_lst pa_nil) pa_nil))) (pg_tup rfl (pgs_cons (pg_name (i := 3) sc_l_words.nd rfl (Or.inr rfl)) (pgs_cons (pg_name (i := 4) sc_l_words.nd rfl (Or.inl rfl)) pgs_nil))))
  (pss_cons (ps_for PassesOwn.never rfl (pi_range1 rfl T.n_range (pa_cons (pe_op op_add pe_int (pe_cl C__law_draw (hr.mono (by decide)) rfl (pa_cons (pv 0) (pa_cons (pv 1) pa_nil)))) pa_nil)) (pg_name (i := 2) sc_l_words.nd rfl (Or.inl rfl)) (pss_one (ps_if (PW.pt (pw_and (pt_cmpR (op_neD hr.units) (pv 4) (pe_lst pa_nil) (nomark _)) (pw_and1 (pt_cmpR op_eq (pe_cl C__law_draw (hr.mono (by decide)) rfl (pa_cons (pv 0) (pa_cons pe_int pa_nil))) pe_int (nomark _))))) (pss_cons (ps_par (i := 5) (j := 6) rfl sc_l_words.nd rfl rfl (by decide) rfl rfl (pa_cons (pe_cl C__law_pick (hr.mono (by decide)) rfl (pa_cons (pv 0) (pa_cons (pv 4) pa_nil))) (pa_cons (pe_cl C__law_draw (hr.mono (by decide)) rfl (pa_cons (pv 0) (pa_cons pe_int pa_nil))) pa_nil)) rfl)
  (pss_one (ps_expr (pe_bm PySem.F.plainAttrs_list PySem.F.slot_list_append PySem.F.type_list_append mt_append (pv 4) (pa_cons (pe_op op_add_str (pe_op op_add_str (pe_slice sl_str (pv 5) po_none (po_some (pv 6))) (pe_cl C__law_pick (hr.mono (by decide)) rfl (pa_cons (pv 0) (pa_cons (pv 3) pa_nil)))) (pe_slice sl_str (pv 5) (po_some (pe_op op_add (pv 6) pe_int)) po_none)) pa_nil))))) (pss_one (ps_expr (pe_bm PySem.F.plainAttrs_list PySem.F.slot_list_append PySem.F.type_list_append mt_append (pv 4) (pa_cons (pe_join pe_str (pe_lc (own := [("_law_at", 6)]) (g := (gName 6)) (tt := tYes) rfl sc_l_words.nd (pi_range1 rfl T.n_range (pa_cons (pe_cl C__law_pick (hr.mono (by decide)) rfl (pa_cons (pv 0) (pa_cons (pe_lst (pa_cons pe_int (pa_cons pe_int (pa_cons pe_int (pa_cons pe_int (pa_cons pe_int (pa_cons pe_int pa_nil))))))) pa_nil))) pa_nil)) (blkOk_by (N := nm_l_words) (sc := defScope st_l_words) (own := [("_law_at", 6)]) (by decide +kernel)) (fun _ _ _ _ _ => by exact pg_name (i := 6) sc_l_words.nd rfl (Or.inl rfl)) (fun _ _ _ _ _ => pts_nil) (fun _ _ _ _ _ => (pe_cl C__law_pick (hr.mono (by decide)) rfl (pa_cons (pv 0) (pa_cons (pv 3) pa_nil)))))) pa_nil)))))))
  (pss_one (ps_ret (pv 4))))), ?_⟩
    obtain ⟨p, most, T, rfl, hp, hT, hm1, hm9, q⟩ := h
    rw [show L2.start nm_l_words [V.ref p, V.int most] = [some (V.ref p), some (V.int most), none, none, none, none, none] from rfl]
    refine ⟨_, rfl, by decide, fun B hB => ?_⟩
    have sB := Sm.new (o := .lst (tws soundsC)) hB
    refine ⟨p, _, T, rfl, hp.sm sB, by omega, .inl ⟨B, tws soundsC, rfl, SqL.of upd_same, hp.ne hB, by decide, by decide, fun H1 v k1 p1 hv => ?_⟩⟩
    obtain ⟨sd, hsd, rfl⟩ := List.mem_map.mp hv
    have kA := (KB.sm sB).trans k1
    clear hv k1 sB hB
    refine ⟨Nat.zero_le _, fun D hD => ?_⟩
    have sD := Sm.new (o := .lst []) hD
    refine ⟨by show 2 ≤ sizeLine; decide, fun t2 ht2 => ?_⟩
    have st := Sm.new (o := .tup [.str (Tx sd), .ref D]) ht2
    have eD : upd (upd H1 D (.lst [])) t2 (.tup [.str (Tx sd), .ref D]) D = some (.lst []) := st _ _ upd_same
    refine ⟨t2, _, rfl, SqT.of upd_same, rfl, ⟨_, _, rfl, ⟨_, _, rfl, rfl, ?_⟩⟩⟩
    dsimp only [gName, List.set_cons_succ, List.set_cons_zero]
    have kB := kA.trans (KB.sm (sD.trans st))
    have p2 := p1.sm (sD.trans st)
    have nDp : D ≠ p := p1.ne hD
    have hD0 : H D = none := by
      cases z : H D with
      | none => rfl
      | some o => rw [kA.kb _ _ nDp z] at hD; cases hD
    generalize upd (upd H1 D (.lst [])) t2 (.tup [.str (Tx sd), .ref D]) = H2 at eD kB p2 ⊢
    clear st sD ht2 p1 kA hD
    refine ⟨_, rfl, _, rfl, p, most, T + 1, rfl, p2, by omega, hm1, by omega, fun H3 n k3 p3 hn0 hn1 => ?_⟩
    have eD3 := k3.kb _ _ nDp eD
    have kC := kB.trans k3
    refine ⟨1, n, rfl, rfl, _, rfl, by omega, by omega, ?_⟩
    obtain ⟨m, rfl⟩ : ∃ m : Nat, n = (m : Int) := ⟨n.toNat, by omega⟩
    rw [show (1 + ((m : Nat) : Int)).toNat = 1 + m by omega]
    have hsd0 : 1 ≤ sd.length ∧ sd.length ≤ 5 ∧ ∀ c ∈ sd, (97 ≤ c ∧ c ≤ 121 ∧ c ≠ 117) := by
      have all : ∀ s ∈ soundsC, 1 ≤ s.length ∧ s.length ≤ 5 ∧ ∀ c ∈ s, (97 ≤ c ∧ c ≤ 121 ∧ c ≠ 117) := by decide
      exact all sd hsd
    obtain ⟨hs1, hs5, hsa⟩ := hsd0
    clear hsd eD kB k3 p2
    refine for_it walk_range (fun i σ H' => (∃ v2 v5 v6, σ = [some (V.ref p), some (V.int most), v2, some (V.str (Tx sd)), some (V.ref D), v5, v6]) ∧ KB p H H' ∧ PenAt H' p (T + 2 + 6 * i) ∧ ∃ ws, H' D = some (.lst (tws ws)) ∧ ws.length = i ∧ ∀ l ∈ ws, sOkS sd l)
      ⟨⟨_, _, _, rfl⟩, kC, p3.mono (by omega), [], eD3, rfl, fun _ h => absurd h List.not_mem_nil⟩ (fun _ _ _ _ _ => trivial) ?_ ?_
    · rintro i x σ G1 G2 hi ⟨⟨v2, v5, v6, rfl⟩, kb, pp, ws, eW, lW, oW⟩ ⟨rfl, rfl⟩
      dsimp only [gName, List.set_cons_succ, List.set_cons_zero]
      have hW : (tws ws).length = i := by rw [tws_len, lW]
      -- one word more
      have more : ∀ G' l, KB p H G' → PenAt G' p (T + 2 + 6 * (i + 1)) → G' D = some (.lst (tws ws)) → sOkS sd l → (tws ws).length < sizeLine ∧ KB p H (upd G' D (.lst (tws ws ++ [V.str (Tx l)]))) ∧ PenAt (upd G' D (.lst (tws ws ++ [V.str (Tx l)]))) p (T + 2 + 6 * (i + 1)) ∧ ∃ ws', (upd G' D (.lst (tws ws ++ [V.str (Tx l)]))) D = some (.lst (tws ws')) ∧ ws'.length = i + 1 ∧ ∀ l ∈ ws', sOkS sd l := fun G' l k' p' e' hl => by
        refine ⟨by rw [hW]; exact Nat.lt_of_lt_of_le (show i < 1 + m from hi) (Nat.le_trans (show 1 + m ≤ 10 by omega) (by decide)), ?_, ?_, ws ++ [l], by rw [upd_same]; unfold tws; rw [List.map_append]; rfl, by rw [List.length_append, lW]; rfl, fun x hx => ?_⟩
        · exact k'.lay hD0 nDp
        · exact hp.lay k' hD0 p'
        · rcases List.mem_append.mp hx with hx | hx
          · exact oW x hx
          · rw [List.mem_singleton.mp hx]
            exact hl
      refine ⟨_, rfl, Nat.zero_le _, fun e he => ?_⟩
      have se := Sm.new (o := .lst []) he
      refine ⟨_, .list [], .lst (SqL.of (se _ _ eW)) (dp_all (tws_dat fun l hl => (oW l hl).ok hsa)), .lst (SqL.of upd_same) .nil, dat_shaped (tws_dat fun l hl => (oW l hl).ok hsa), sh_nil, ?_⟩
      have en : (!PyData.eqv (.list ((tws ws).map datV)) (.list [])) = decide (i ≠ 0) := by
        rw [eqv_nil, hW]
        by_cases z : i = 0
        · rw [decide_eq_true z, decide_eq_false (fun y => y z)]
          rfl
        · rw [decide_eq_false z, decide_eq_true z]
          rfl
      rw [en]
      clear en
      have kb := kb.trans (KB.sm se)
      have pp := pp.sm se
      have eW := se _ _ eW
      generalize upd G2 e (.lst []) = G3 at kb pp eW ⊢
      clear se he
      refine ⟨_, rfl, split_else (R := fun G => KB p H G ∧ PenAt G p (T + 3 + 6 * i) ∧ G D = some (.lst (tws ws))) (fun G ⟨kb, pp, eW⟩ => ?_) (fun els hk => ?_) (fun _ => ⟨kb, pp.mono (by omega), eW⟩)⟩
      · refine iteF ?_
        refine ⟨_, rfl, .inl ⟨rfl, _, SqL.of eW⟩, ?_⟩
        refine ⟨⟨_, rfl⟩, _, rfl, by decide, fun B hB => ?_⟩
        have sB := Sm.new (o := .lst (inVi [2, 3, 1, 3, 4, 0])) hB
        refine ⟨p, _, _, rfl, pp.sm sB, by omega, .inl ⟨B, inVi [2, 3, 1, 3, 4, 0], rfl, SqL.of upd_same, pp.ne hB, by decide, by decide, fun H1 v k1 p1 hv => ?_⟩⟩
        obtain ⟨k, hk, rfl⟩ := List.mem_map.mp hv
        have hk4 : 0 ≤ k ∧ k ≤ 4 := by
          have all : ∀ s ∈ ([2, 3, 1, 3, 4, 0] : List Int), 0 ≤ s ∧ s ≤ 4 := by decide
          exact all k hk
        obtain ⟨n, rfl⟩ : ∃ n : Nat, k = (n : Int) := ⟨k.toNat, by omega⟩
        refine ⟨_, rfl, by omega, by omega, fun D2 hD2 => ?_⟩
        have kb1 := (KB.sm sB).trans k1
        have eW1 := kb1.kb _ _ nDp eW
        have kb2 := kb.trans kb1
        clear sB hB k1 hv
        rw [show (((n : Nat) : Int)).toNat = n by omega]
        have nD2 : D2 ≠ D := fun z => by rw [z, eW1] at hD2; cases hD2
        have hD20 : H D2 = none := by
          cases z : H D2 with
          | none => rfl
          | some o => rw [kb2.kb _ _ (p1.ne hD2) z] at hD2; cases hD2
        refine lc_it walk_range (fun j H' => KB p H H' ∧ H' D = some (.lst (tws ws)) ∧ PenAt H' p (T + 4 + 6 * i + j) ∧ ∃ cs : List Nat, H' D2 = some (.lst (cs.map fun c => V.str (Tx [c]))) ∧ cs.length = j ∧ ∀ c ∈ cs, c ∈ sd)
          ⟨kb2.lay hD20 (p1.ne hD2), (upd_ne nD2.symm).trans eW1, hp.lay kb2 hD20 (p1.mono (by omega)), [], upd_same, rfl, fun _ h => absurd h List.not_mem_nil⟩ (fun _ _ _ _ => trivial) ?_ ?_
        · rintro j y G5 G6 hj ⟨kj, ej, pj, cs, ec, lc, oc⟩ ⟨rfl, rfl⟩
          dsimp only [gName, List.set_cons_succ, List.set_cons_zero]
          refine ⟨rfl, ?_⟩
          refine ⟨_, rfl, _, rfl, p, _, _, rfl, pj, by omega, .inr ⟨sd, rfl, hs1, by omega, fun H3 c k3 p3 hc => ?_⟩⟩
          have ej3 := k3.kb _ _ nDp ej
          have ec3 := k3.kb _ _ (p1.ne hD2) ec
          have kk := kj.trans k3
          refine ⟨_, ec3, by rw [List.length_map, lc]; exact Nat.lt_of_lt_of_le (show j < 5 by have hj : j < n := hj; omega) (by decide), kk.lay hD20 (p1.ne hD2), (upd_ne nD2.symm).trans ej3, hp.lay kk hD20 (p3.mono (by omega)), cs ++ [c], by rw [upd_same, List.map_append]; rfl, by rw [List.length_append, lc]; rfl, fun x hx => ?_⟩
          rcases List.mem_append.mp hx with hx | hx
          · exact oc x hx
          · rw [List.mem_singleton.mp hx]
            exact hc
        · rintro H7 ⟨kj, ej, pj, cs, ec, lc, oc⟩
          dsimp only [gName, List.set_cons_succ, List.set_cons_zero]
          refine ⟨_, D2, cs.map fun c => Tx [c], rfl, rfl, .inl (SqL.of (by rw [ec, List.map_map]; rfl)), ?_, ?_⟩
          · rw [List.map_map, List.length_map]
            show (cs.map fun _ => 1).sum + cs.length * 0 ≤ 16777216
            have : ∀ (cs : List Nat), (cs.map fun _ => 1).sum = cs.length := fun cs => by
              induction cs with
              | nil => rfl
              | cons a r ih => rw [List.map_cons, List.sum_cons, ih, List.length_cons]; omega
            rw [this]
            omega
          · rw [join_tx]
            obtain ⟨m1, m2⟩ := more H7 cs kj (pj.mono (by omega)) ej ⟨oc, by omega⟩
            exact ⟨D, tws ws, _, rfl, rfl, ej, m1, ⟨_, _, _, rfl⟩, m2⟩
      · have i0 : i ≠ 0 := of_decide_eq_true hk
        refine ⟨_, rfl, p, 4, _, rfl, pp, by omega, by decide, by decide, fun G4 n4 k4 p4 a4 b4 => ?_⟩
        refine ⟨rfl, _, rfl, ?_⟩
        have eW4 := k4.kb _ _ nDp eW
        have kb4 := kb.trans k4
        by_cases z : V.int n4 = V.int 0
        · rw [decide_eq_true z]
          refine iteT ?_
          refine ⟨_, rfl, _, rfl, p, _, _, rfl, p4, by omega, .inl ⟨D, tws ws, rfl, SqL.of eW4, nDp, by omega, by have hi : i < 1 + m := hi; omega, fun G5 v k5 p5 hv => ?_⟩⟩
          obtain ⟨l, hl, rfl⟩ := List.mem_map.mp hv
          refine ⟨_, rfl, p, 5, _, rfl, p5, by omega, by decide, by decide, fun G6 n6 k6 p6 a6 b6 => ?_⟩
          obtain ⟨k, rfl⟩ : ∃ n : Nat, n6 = (n : Int) := ⟨n6.toNat, by omega⟩
          have eW6 := k6.kb _ _ nDp (k5.kb _ _ nDp eW4)
          have kb6 := (kb4.trans k5).trans k6
          have ol := oW l hl
          have hz : ∀ l : List Nat, l.length ≤ 10 → (Tx l).length ≤ sizeLine := fun l h => by rw [tx_len]; exact Nat.le_trans h (by decide)
          refine ⟨_, _, rfl, ?_⟩
          dsimp only [gName, List.set_cons_succ, List.set_cons_zero]
          refine ⟨_, rfl, .inl ⟨rfl, _, SqL.of eW6⟩, ?_⟩
          refine ⟨_, rfl, _, rfl, _, rfl, _, rfl, hz _ (by have := ol.2; omega), ?_⟩
          rw [cut_to]
          refine ⟨_, rfl, _, rfl, p, _, _, rfl, p6, by omega, .inr ⟨sd, rfl, hs1, by omega, fun H3 c k3 p3 hc => ?_⟩⟩
          have eW7 := k3.kb _ _ nDp eW6
          have kb7 := kb6.trans k3
          have ok1 : sOkS sd (l.take k ++ [c] ++ l.drop (k + 1)) := ol.put hsa (by omega) hc
          have hlen := ok1.2
          rw [List.length_append, List.length_append] at hlen
          refine ⟨_, _, rfl, rfl, by rw [tx_len, tx_len]; exact Nat.le_trans (show _ ≤ 5 by omega) (by decide), ?_⟩
          rw [tx_app]
          refine ⟨_, rfl, _, rfl, _, _, rfl, rfl, _, rfl, _, rfl, hz _ (by have := ol.2; omega), ?_⟩
          rw [show ((k : Nat) : Int) + 1 = ((k + 1 : Nat) : Int) from rfl, cut_from]
          refine ⟨_, _, rfl, rfl, by rw [tx_len, tx_len, List.length_append]; exact Nat.le_trans (show _ ≤ 5 by omega) (by decide), ?_⟩
          rw [tx_app]
          obtain ⟨m1, m2⟩ := more H3 _ kb7 (p3.mono (by omega)) eW7 ok1
          exact ⟨D, tws ws, _, rfl, rfl, eW7, m1, ⟨_, _, _, rfl⟩, m2⟩
        · rw [decide_eq_false z]
          refine iteF ?_
          exact els _ ⟨kb4, p4.mono (by omega), eW4⟩
    · rintro σ H9 ⟨⟨v2, v5, v6, rfl⟩, kb, pp, ws, eW, lW, oW⟩
      exact ⟨_, rfl, q _ _ ws kb (pp.mono (by omega)) hD0 eW (by omega) (by omega) (fun l hl => (oW l hl).ok hsa) ⟨sd, hs5, fun l hl => (oW l hl).1⟩⟩
end
end Z
end W5.V
namespace W5.V
open PySem PySem.Spec PyProof.Rows L2 K0 K6
open K4 hiding Blt
/-! ### coarsest and rule_table are called -/
section
variable {P : Program} {w : World} {K : PySem.W.Frag} {mg : Str → Option Value} {base : Heap}
abbrev FCo (K : PySem.W.Frag) (f : Addr) (fd : FuncData) : Prop := FunD K "coarsest" "coarsest" (defArgs st_coarsest) (defBody st_coarsest) (defScope st_coarsest) [.int 1] [] f fd
abbrev FRt (K : PySem.W.Frag) (f : Addr) (fd : FuncData) : Prop := FunD K "rule_table" "rule_table" (defArgs st_rule_table) (defBody st_rule_table) (defScope st_rule_table) [.int 1] [] f fd
theorem rt3 {f : Addr} {fd : FuncData} (F : FRt K f fd) : Binds K fd ["words", "lot", "wide"] [] := by
  obtain ⟨ds, r, b⟩ := F.binds1 (ps := ["words", "lot", "wide"]) 3 1 (by exact List.cons_ne_nil _ _) rfl (fun T kV doc pm an cdv ct us its h1 h2 => by
    match us, its, h1, h2 with
    | [a, b, c], [d], _, _ => exact ⟨_, rfl, rfl⟩)
  cases r
  exact b
/-- coarsest and rule_table, as the law calls them -/
structure CCo (P : Program) (w : World) (K : PySem.W.Frag) (mg : Str → Option Value) (base : Heap) (sp : Sp) : Prop where
  ex : ∃ (f : Addr) (fd : FuncData), FCo K f fd ∧ mg "coarsest" = some (.ref f) ∧ FnOk P w K mg base (L2.CX P w) 10 f fd ["words", "wide"] sp
structure CRt (P : Program) (w : World) (K : PySem.W.Frag) (mg : Str → Option Value) (base : Heap) (sp : Sp) : Prop where
  ex : ∃ (f : Addr) (fd : FuncData), FRt K f fd ∧ mg "rule_table" = some (.ref f) ∧ FnOk P w K mg base (L2.CX P w) 10 f fd ["words", "lot", "wide"] sp
section
variable {X : Cx} {sp : Sp} {k : Nat} {p pos : Pos} {e : Expr} {es : List Expr} {t tk : TA} {kws : List Keyword} {E : XK}
theorem pe_rt3 (C : CRt X.prog X.w X.K X.mg X.base sp) (hx : Passes (L2.CX X.prog X.w) X E) (hr : Room 10 X.A) (hg : Gl X "rule_table") (ha : PA X (e :: es) t)
    (he : starEach (e :: es) X.env = (false, eval e X.env) :: starEach es X.env := by rfl)
    (hpl : (backTo pos (starEach es X.env)).any (·.1) = false := by rfl) : PE X (.Call (.Name "rule_table" p) (e :: es) [] pos) (tCall sp [] E t) := by
  obtain ⟨f, fd, F, hm, G⟩ := C.ex
  exact pe_call G hr hg hm F.kp (rt3 F) .nil hx ha (by decide) he hpl
end
end
/-! ### the mathematics of the law -/
theorem le3_anti {a b : Row3} (h1 : leE enc3 a b = true) (h2 : leE enc3 b a = true) : a = b := by
  have h1 : (!PyProof.Rows.lexLt itemOrd (PySem.W.keyToks (enc3 b)) (PySem.W.keyToks (enc3 a))) = true := h1
  have h2 : (!PyProof.Rows.lexLt itemOrd (PySem.W.keyToks (enc3 a)) (PySem.W.keyToks (enc3 b))) = true := h2
  rw [Bool.not_eq_true'] at h1 h2
  have e := lex_total (O := itemOrd) _ _ h2 h1
  obtain ⟨⟨x, y⟩, c⟩ := a
  obtain ⟨⟨z, w⟩, d⟩ := b
  have e : [Sum.inl 1, Sum.inr (Tx x).cps.toList, Sum.inl 1, Sum.inr (Tx y).cps.toList, Sum.inl 1, Sum.inr (Tx [c]).cps.toList, Sum.inl 0] = ([Sum.inl 1, Sum.inr (Tx z).cps.toList, Sum.inl 1, Sum.inr (Tx w).cps.toList, Sum.inl 1, Sum.inr (Tx [d]).cps.toList, Sum.inl 0] : List (Int ⊕ List Nat)) := e
  simp only [List.cons.injEq, Sum.inr.injEq, true_and, and_true, tx_list] at e
  rw [e.1, e.2.1, e.2.2]
theorem RowsOf.uniq {L : List Occ} {l : List Nat} {r1 r2 : List Row3} (h : RowsOf L l r1) (h' : RowsOf L l r2) : r1 = r2 :=
  List.Perm.eq_of_pairwise (le := fun a b => leE enc3 a b = true) (fun a b _ _ => le3_anti) h.so h'.so ((List.perm_ext_iff_of_nodup h.nd h'.nd).mpr fun t => (h.mem t).trans (h'.mem t).symm)
theorem occs_len5 {wide : Nat} {ws : List (List Nat)} (h : ∀ l ∈ ws, sOk l) : ∀ i, (occs wide ws i).length ≤ 5 * i
  | 0 => Nat.le_refl _
  | i + 1 => by
    have h1 := occs_len5 (wide := wide) h i
    rw [occs, List.length_append, occWord_len]
    have : (ws.getD i []).length ≤ 5 := by
      rw [List.getD_eq_getElem?_getD]
      cases e : ws[i]? with
      | none => exact Nat.zero_le _
      | some l => exact (h l (List.mem_of_getElem? e)).2
    omega
theorem nd_leA {α : Type} : ∀ {l m : List α}, l.Nodup → (∀ x ∈ l, x ∈ m) → l.length ≤ m.length
  | [], m, _, _ => Nat.zero_le _
  | x :: r, m, nd, sub => by
    obtain ⟨n1, n2⟩ := List.nodup_cons.mp nd
    obtain ⟨a, b, rfl⟩ := List.append_of_mem (sub x List.mem_cons_self)
    have := nd_leA n2 (m := a ++ b) fun y hy => by
      have := sub y (List.mem_cons_of_mem _ hy)
      rcases List.mem_append.mp this with z | z
      · exact List.mem_append_left _ z
      · rcases List.mem_cons.mp z with rfl | z
        · exact absurd hy n1
        · exact List.mem_append_right _ z
    rw [List.length_append] at this ⊢
    show r.length + 1 ≤ a.length + (b.length + 1)
    omega
theorem dp_txt {K : PySem.W.Frag} {H : Hp} : ∀ {k : List Str} {xs : List V}, DpAll K H xs (k.map .str) → xs = k.map V.str
  | [], _, .nil => rfl
  | _ :: _, _, .cons (.str _) h => by
    rw [dp_txt h]
    rfl
theorem dp_tupS {K : PySem.W.Frag} {H : Hp} {v : V} {k : List Str} (h : Dp K H v (.tuple (k.map .str))) : ∃ T, v = .ref T ∧ SqT K H T (k.map V.str) := by
  cases h with
  | tup a b => exact ⟨_, rfl, dp_txt b ▸ a⟩
theorem dp_row3 {K : PySem.W.Frag} {H : Hp} {v : V} {r : Row3} (h : Dp K H v (enc3 r)) : ∃ T, v = .ref T ∧ SqT K H T (row3 r) := dp_tupS (k := [Tx r.1.1, Tx r.1.2, Tx [r.2]]) h
theorem rows_sh {wide : Nat} {ws : List (List Nat)} {l : List Nat} {rows : List Row3} (hw : ∀ l ∈ ws, sOk l) (hl : ∀ c ∈ l, c < 128) (h : RowsOf (occA wide ws) l rows) : SeqAt.shaped (.tuple (rows.map enc3)) = true := by
  refine shaped_of ?_ ?_
  · unfold PyData.canLay0
    refine K6.lay_all (d := enc3) fun r hr => ?_
    obtain ⟨h1, h2⟩ := (h.mem r).mp hr
    obtain ⟨q, hq⟩ := Option.isSome_iff_exists.mp h2
    obtain ⟨k, hk, p, hp, e⟩ := occs_mem.mp (firstAt_some hq)
    have en : r.1 = nearL wide (ws.getD k []) p := (Prod.mk.inj (Prod.mk.inj e).2).1
    have okk : sOk (ws.getD k []) := by
      rw [List.getD_eq_getElem?_getD, List.getElem?_eq_getElem hk]
      exact hw _ (List.getElem_mem hk)
    obtain ⟨e1, e2⟩ := near_lay (wide := wide) (p := p) okk
    rw [← en] at e1 e2
    have e3 : PyData.canLay0 (.str (Tx [r.2])) = true := str_low fun c hc => by rw [List.mem_singleton.mp hc]; have := hl _ h1; omega
    show PyData.canLay0 (.tuple [.str (Tx r.1.1), .str (Tx r.1.2), .str (Tx [r.2])]) = true
    unfold PyData.canLay0 PyData.canLayAll0 PyData.canLayAll0 PyData.canLayAll0 PyData.canLayAll0
    rw [e1, e2, e3]
    rfl
  · unfold PyData.depth
    have := depth_all (b := 8) (d := enc3) (xs := rows) fun r _ => by
      show PyData.depth (.tuple [.str (Tx r.1.1), .str (Tx r.1.2), .str (Tx [r.2])]) ≤ 8
      exact (by decide : 1 ≤ 8)
    omega
theorem eqv_row (r : Row3) : PyData.eqv (enc3 r) (enc3 r) = true := by
  show PyData.eqv (.tuple [.str (Tx r.1.1), .str (Tx r.1.2), .str (Tx [r.2])]) (.tuple [.str (Tx r.1.1), .str (Tx r.1.2), .str (Tx [r.2])]) = true
  simp [PyData.eqv, PyData.eqvAll]
theorem eqv_rows (rows : List Row3) : PyData.eqv (.tuple (rows.map enc3)) (.tuple (rows.map enc3)) = true := by
  rw [PyData.eqv]
  induction rows with
  | nil => rfl
  | cons r rows ih =>
    rw [List.map_cons, PyData.eqvAll, eqv_row, ih]
    rfl
end W5.V
namespace W5.V
open PySem PySem.Spec PyProof.Rows L2 K0 K6
open K4 hiding Blt
/-! ### rule_table and coarsest in other ways of calling -/
theorem rt2 {K : PySem.W.Frag} {f : Addr} {fd : FuncData} (F : FRt K f fd) : ∃ ds, Vals [V.int 1] ds ∧ Binds K fd ["words", "lot", "wide"] ds := F.binds1 (ps := ["words", "lot", "wide"]) 2 0 (by exact List.cons_ne_nil _ _) rfl (fun T kV doc pm an cdv ct us its h1 h2 => by
    match us, its, h1, h2 with
    | [a, b], [d], _, _ => exact ⟨_, rfl, rfl⟩)
theorem co2 {K : PySem.W.Frag} {f : Addr} {fd : FuncData} (F : FCo K f fd) : Binds K fd ["words", "wide"] [] := by
  obtain ⟨ds, r, b⟩ := F.binds1 (ps := ["words", "wide"]) 2 1 (by exact List.cons_ne_nil _ _) rfl (fun T kV doc pm an cdv ct us its h1 h2 => by
    match us, its, h1, h2 with
    | [a, b], [d], _, _ => exact ⟨_, rfl, rfl⟩)
  cases r
  exact b
/-- told as lot, words, wide -/
def kgL {α : Type} : List α → List α → List α
  | [], [a, b, c] => [b, a, c]
  | _, _ => []
theorem relL {vs zs : List V} {us ws : List Value} (r : Vals vs us) (rz : Vals zs ws) : Vals (kgL vs zs) (kgL us ws) := by
  cases r with
  | cons a b => exact .nil
  | nil =>
    match zs, ws, rz with
    | [], _, .nil => exact .nil
    | [_], _, .cons _ .nil => exact .nil
    | [_, _], _, .cons _ (.cons _ .nil) => exact .nil
    | [_, _, _], _, .cons a (.cons b (.cons c .nil)) => exact .cons b (.cons a (.cons c .nil))
    | _ :: _ :: _ :: _ :: _, _, .cons _ (.cons _ (.cons _ (.cons _ _))) => exact .nil
theorem rtL {K : PySem.W.Frag} {f : Addr} {fd : FuncData} (F : FRt K f fd) : KBinds K fd ["words", "lot", "wide"] ["lot", "words", "wide"] kgL kgL := by
  obtain ⟨oc, od, dV, kV, doc, pm, an, cdv, ct, osl, rfl, lk, hcd, hD, hK⟩ := F.ex
  rcases hD with ⟨e, _⟩ | ⟨_, T, o, its, m, rfl, lT, oT, rT⟩
  · cases e
  · refine ⟨fun s us ws X hl => ?_, relL⟩
    obtain ⟨d, rfl⟩ : ∃ d, its = [d] := by
      have h1 : its.length = 1 := rT.length.symm
      match its, h1 with
      | [d], _ => exact ⟨d, rfl⟩
    match us, ws, hl with
    | [], [u, v, y], _ =>
      refine BindsTo.of_looks fun M => ?_
      have e : ∃ k, bindArgs (PySem.W.fnOf "rule_table" "rule_table" (defArgs st_rule_table) (defBody st_rule_table) (defScope st_rule_table) (.ref T) kV doc pm an cdv ct) ⟨[], [("lot", u), ("words", v), ("wide", y)]⟩ = seqItems? (.ref T) >>= k ∧ k (some [d].toArray) = pure [(("words" : Str), v), ("lot", u), ("wide", y)] := ⟨_, rfl, rfl⟩
      obtain ⟨k, e1, e2⟩ := e
      show PySem.W.Looks M s.heap (bindArgs _ ⟨[], [("lot", u), ("words", v), ("wide", y)]⟩) [(("words" : Str), v), ("lot", u), ("wide", y)]
      rw [e1]
      exact looks_items X lT oT (.of_pure e2)
section
variable {X : Cx} {sp : Sp} {k : Nat} {p pos : Pos} {e : Expr} {es : List Expr} {t tk : TA} {kws : List Keyword} {E : XK}
theorem pe_rt2 (C : CRt X.prog X.w X.K X.mg X.base sp) (hx : Passes (L2.CX X.prog X.w) X E) (hr : Room 10 X.A) (hg : Gl X "rule_table") (ha : PA X (e :: es) t)
    (he : starEach (e :: es) X.env = (false, eval e X.env) :: starEach es X.env := by rfl)
    (hpl : (backTo pos (starEach es X.env)).any (·.1) = false := by rfl) : PE X (.Call (.Name "rule_table" p) (e :: es) [] pos) (tCall sp [.int 1] E t) := by
  obtain ⟨f, fd, F, hm, G⟩ := C.ex
  obtain ⟨ds, rd, hb⟩ := rt2 F
  exact pe_call G hr hg hm F.kp hb rd hx ha (by decide) he hpl
theorem pe_co2 (C : CCo X.prog X.w X.K X.mg X.base sp) (hx : Passes (L2.CX X.prog X.w) X E) (hr : Room 10 X.A) (hg : Gl X "coarsest") (ha : PA X (e :: es) t)
    (he : starEach (e :: es) X.env = (false, eval e X.env) :: starEach es X.env := by rfl)
    (hpl : (backTo pos (starEach es X.env)).any (·.1) = false := by rfl) : PE X (.Call (.Name "coarsest" p) (e :: es) [] pos) (tCall sp [] E t) := by
  obtain ⟨f, fd, F, hm, G⟩ := C.ex
  exact pe_call G hr hg hm F.kp (co2 F) .nil hx ha (by decide) he hpl
theorem pe_rtL (C : CRt X.prog X.w X.K X.mg X.base sp) (hx : Passes (L2.CX X.prog X.w) X E) (hr : Room 10 X.A) (hg : Gl X "rule_table") (hkw : PK X kws tk)
    (hall : (backToKw pos (keywordEach kws X.env)).all (·.1.isSome) = true := by rfl) (hks : (backToKw pos (keywordEach kws X.env)).filterMap (·.1) = (["lot", "words", "wide"] : List Str) := by rfl)
    (hpl : ((backTo pos (starEach [] X.env)).any (·.1) || (backToKw pos (keywordEach kws X.env)).any (·.1.isNone)) = false := by rfl) :
    PE X (.Call (.Name "rule_table" p) [] kws pos) (K6.tCallN sp kgL E tk) := by
  obtain ⟨f, fd, F, hm, G⟩ := C.ex
  refine ⟨fun pins s σ H Q I h => ?_⟩
  refine wpAny_Call_Name_kw (ld_glob I hg hm ?_ (by decide))
  refine PySem.W.callWith_KW0 (h₀ := X.base) I.ok.mod.kin F.kp hall (thn (hkw.run pos pins s σ H _ I h) fun ws s1 ⟨zs, H1, I1, rz, q1⟩ => ⟨I1.kIn, ?_⟩) hpl
  rw [hks]
  exact run_fnk G hr (rtL F) hx I1 .nil rz q1
end
/-! ### what is heard, compared -/
section
variable {X : Cx} {Z : Addr}
theorem eq_pairZ (C : CEq X.prog X.w X.K X.mg X.base Z) (hr : Room 3 X.A) : OpR X (compareOp .Eq) (rEqG (DTup X.K (rowD Z))) := op_eqG (rcG_tup mon_row (eqG_row C)) hr
/-- nothing heard, or a pair -/
def heardD (K : PySem.W.Frag) (Z : Addr) : Eqv := fun x y H => rowD Z x y H ∨ DTup K (rowD Z) x y H
theorem eq_heard5 (C : CEq X.prog X.w X.K X.mg X.base Z) (hr : Room 4 X.A) : OpR X (compareOp .Eq) (rEqG (DList (heardD X.K Z))) :=
  op_eqG (rcG_list (mon_row.or (mon_tup mon_row)) (((eqG_row C).mono (by decide)).or (eqG_tup mon_row (eqG_row C)))) hr
end
/-! ### the pairs of a lot, by their places -/
theorem pr2_at {α : Type} : ∀ (l : List α) (i j : Nat) (x y : α), i < j → l[i]? = some x → l[j]? = some y → ∃ pre post, pr2 l = pre ++ (x, y) :: post ∧ ∀ q ∈ pre, ∃ i' j' : Nat, i' < j' ∧ l[i']? = some q.1 ∧ l[j']? = some q.2 ∧ (i' < i ∨ (i' = i ∧ j' < j))
  | [], i, j, x, y, _, h, _ => by cases h
  | c :: r, 0, 0, _, _, h, _, _ => absurd h (Nat.lt_irrefl 0)
  | c :: r, 0, j + 1, x, y, _, h1, h2 => by
    obtain rfl := Option.some.inj h1
    have h2 : r[j]? = some y := h2
    have hj := (List.getElem?_eq_some_iff.mp h2).1
    have e : r = r.take j ++ y :: r.drop (j + 1) := by
      conv => lhs; rw [← List.take_append_drop j r]
      rw [List.drop_eq_getElem_cons hj, (List.getElem?_eq_some_iff.mp h2).2]
    refine ⟨(r.take j).map fun d => (c, d), (r.drop (j + 1)).map (fun d => (c, d)) ++ pr2 r, ?_, fun q hq => ?_⟩
    · show r.map (fun d => (c, d)) ++ pr2 r = _
      conv => lhs; rw [e]
      rw [List.map_append, List.map_cons, List.append_assoc, List.cons_append, ← e]
    · obtain ⟨d, hd, rfl⟩ := List.mem_map.mp hq
      obtain ⟨k, hk⟩ := List.mem_iff_getElem?.mp hd
      have kj : k < j := by
        have := (List.getElem?_eq_some_iff.mp hk).1
        rw [List.length_take] at this
        omega
      rw [List.getElem?_take, if_pos kj] at hk
      exact ⟨0, k + 1, by omega, rfl, hk, .inr ⟨rfl, by omega⟩⟩
  | c :: r, i + 1, 0, _, _, h, _, _ => absurd h (Nat.not_lt_zero _)
  | c :: r, i + 1, j + 1, x, y, h, h1, h2 => by
    obtain ⟨pre, post, e, hp⟩ := pr2_at r i j x y (by omega) h1 h2
    refine ⟨r.map (fun d => (c, d)) ++ pre, post, ?_, fun q hq => ?_⟩
    · show r.map (fun d => (c, d)) ++ pr2 r = _
      rw [e, List.append_assoc]
    · rcases List.mem_append.mp hq with hq | hq
      · obtain ⟨d, hd, rfl⟩ := List.mem_map.mp hq
        obtain ⟨k, hk⟩ := List.mem_iff_getElem?.mp hd
        exact ⟨0, k + 1, by omega, rfl, hk, .inl (by omega)⟩
      · obtain ⟨i', j', a, b, c', d⟩ := hp q hq
        exact ⟨i' + 1, j' + 1, by omega, b, c', d.elim (fun z => .inl (by omega)) fun z => .inr ⟨by omega, by omega⟩⟩
theorem pr2_by {α : Type} : ∀ (l : List α) (q : α × α), q ∈ pr2 l → ∃ i j : Nat, i < j ∧ l[i]? = some q.1 ∧ l[j]? = some q.2
  | [], q, h => absurd h List.not_mem_nil
  | c :: r, q, h => by
    have h : q ∈ r.map (fun d => (c, d)) ++ pr2 r := h
    rcases List.mem_append.mp h with h | h
    · obtain ⟨d, hd, rfl⟩ := List.mem_map.mp h
      obtain ⟨k, hk⟩ := List.mem_iff_getElem?.mp hd
      exact ⟨0, k + 1, by omega, rfl, hk⟩
    · obtain ⟨i, j, a, b, c'⟩ := pr2_by r q h
      exact ⟨i + 1, j + 1, by omega, b, c'⟩
end W5.V
namespace W5.V
open PySem PySem.Spec PyProof.Rows L2 K0 K6
open K4 hiding Blt
section
variable {P : Program} {w : World} {K : PySem.W.Frag} {mg : Str → Option Value} {base : Heap}
variable {cs : Nat → Addr} {Z : Addr}
/-! ### a lot's table, or why there is none -/
@[irreducible] def hRX (K : PySem.W.Frag) (cs : Nat → Addr) (Z : Addr) : Sp := spRuleX K cs Z
theorem hRX_eq : hRX K cs Z = spRuleX K cs Z := by
  unfold hRX
  rfl
theorem crt_to {sp sp' : Sp} (c : CRt P w K mg base sp) (e : sp' = sp) : CRt P w K mg base sp' := by
  rw [e]
  exact c
theorem cco_to {sp sp' : Sp} (c : CCo P w K mg base sp) (e : sp' = sp) : CCo P w K mg base sp' := by
  rw [e]
  exact c
/-- the tables of the two defs that make functions -/
def TL2 (T1 T2 : Addr) : List (Addr × Str) := [(T1, "_law_refused_right.<locals>.<lambda>"), (T2, "_law_lot_right.<locals>.<lambda>")]
def azL (l : List Nat) : Prop := ∀ c ∈ l, azN c
theorem lotB_ok {l : List Nat} (h0 : l ≠ []) (ha : azL l) (asc : l.Pairwise fun c d => c < d) : lotB l = true := by
  have h1 : lw l = true := by
    unfold lw
    refine List.all_eq_true.mpr fun c hc => ?_
    have := ha c hc
    unfold isaz
    rw [Bool.and_eq_true, decide_eq_true_eq, decide_eq_true_eq]
    exact this
  have h2 : ris l = true := ris_of_lt asc
  unfold lotB
  rw [h1, h2, decide_eq_true h0]
  rfl
/-- rule_table of good words, a good lot and a good width -/
theorem rx_ok {H : Hp} {Q : VK} {E : XW} {a : Addr} {ws : List (List Nat)} {l : List Nat} {wide : Nat} (h : SqLT K H a (tws ws)) (h0 : ws ≠ []) (hl : ws.length ≤ 12) (hw : ∀ l ∈ ws, sOk l) (l0 : l ≠ []) (la : azL l) (l26 : l.length ≤ 26) (asc : l.Pairwise fun c d => c < d) (w1 : 1 ≤ wide) (w2 : wide ≤ 2)
    (q : (∃ pre p r post, pr2 l = pre ++ p :: post ∧ (∀ q ∈ pre, leastF (occA wide ws) q.1 q.2 = none) ∧ leastF (occA wide ws) p.1 p.2 = some r ∧ ∀ H' z, Same H H' → ZmB Z H' z (dPl r.1) (dPl r.2) → Rq cs 5 [("paper", .ref z)] H' E) ∨
      ((∀ p ∈ pr2 l, mB wide ws p.1 p.2 = false) ∧ ∀ H' p xs rows, Same H H' → H' p = some (.tup xs) → (∀ G, Same H' G → DpAll K G xs (rows.map enc3)) → RowsOf (occA wide ws) l rows → Q (.ref p) H')) :
    hRX K cs Z [.ref a, .str (Tx l), .int (wide : Nat)] H Q E := by
  rw [hRX_eq]
  refine ⟨_, _, _, (l.filter fun c => decide (c ∈ ws.flatten)).length, rfl, own_ok h h0 (by omega) (fun l hl => (hw l hl).wd) fun H1 s1 => .inl ⟨l, rfl, by omega, by omega, fun z => ?_, fun _ G sG => wide_ok w1 w2 ?_⟩⟩
  · rw [lotB_ok l0 la asc] at z
    cases z
  · have hG : SqLT K G a (tws ws) := h.imp (sm_l (s1.trans sG)) (sm_t (s1.trans sG))
    refine ⟨a, _, rfl, hG, fun _ => ?_, fun z => (by rw [tws_len] at z; omega)⟩
    refine ⟨a, ws, wide, rfl, rfl, hG, hl, hw, w1, w2, rfl, l26, asc, ?_⟩
    rcases q with ⟨pre, p, r, post, e1, e2, e3, e4⟩ | ⟨e1, e2⟩
    · exact .inl ⟨pre, p, r, post, e1, e2, e3, fun H' z s hz => e4 H' z ((s1.trans sG).trans s) hz⟩
    · exact .inr ⟨e1, fun H' p xs rows s => e2 H' p xs rows ((s1.trans sG).trans s)⟩
theorem AtF.app {α : Type} {f : α → List V} {H : Hp} {xs ys : List V} {rs qs : List α} (h : AtF f H xs rs) (h2 : AtF f H ys qs) : AtF f H (xs ++ ys) (rs ++ qs) := ⟨by rw [List.length_append, List.length_append, h.1, h2.1], fun i x r e1 e2 => by
  rcases Nat.lt_or_ge i xs.length with z | z
  · rw [List.getElem?_append_left z] at e1
    rw [List.getElem?_append_left (by rw [← h.1]; exact z)] at e2
    exact h.2 i x r e1 e2
  · rw [List.getElem?_append_right z] at e1
    rw [List.getElem?_append_right (by rw [← h.1]; exact z), ← h.1] at e2
    exact h2.2 _ x r e1 e2⟩
/-- the surroundings behind their texts -/
theorem nr_names {L : List Occ} {c : Nat} {l : List K5.TT} (h : NrL L c l) : ∃ ns : List NB, l = ns.map nbT ∧ ns.Nodup ∧ ∀ n, n ∈ ns ↔ (firstAt L c n).isSome = true := by
  have pick : ∀ m : List K5.TT, (∀ t ∈ m, ∃ n : NB, t = nbT n) → ∃ ns : List NB, m = ns.map nbT := by
    intro m
    induction m with
    | nil => exact fun _ => ⟨[], rfl⟩
    | cons t m ih =>
      intro ht
      obtain ⟨n, rfl⟩ := ht t List.mem_cons_self
      obtain ⟨ns, rfl⟩ := ih fun u hu => ht u (List.mem_cons_of_mem _ hu)
      exact ⟨n :: ns, rfl⟩
  obtain ⟨ns, rfl⟩ := pick l fun t ht => by
    obtain ⟨n, _, e⟩ := (h.mem t).mp ht
    exact ⟨n, e⟩
  refine ⟨ns, rfl, (List.pairwise_map.mp h.nd).imp fun ne e => ne (by rw [e]), fun n => ⟨fun hn => ?_, fun hn => ?_⟩⟩
  · obtain ⟨m, hm, e⟩ := (h.mem _).mp (List.mem_map_of_mem hn)
    rw [nbT_inj e]
    exact hm
  · obtain ⟨m, hm, e⟩ := List.mem_map.mp ((h.mem (nbT n)).mpr ⟨n, hn, rfl⟩)
    rw [← nbT_inj e]
    exact hm
theorem nd_at {l : List Nat} (nd : l.Nodup) {i j c : Nat} (h1 : l[i]? = some c) (h2 : l[j]? = some c) : i = j := by
  obtain ⟨a, ea⟩ := List.getElem?_eq_some_iff.mp h1
  obtain ⟨b, eb⟩ := List.getElem?_eq_some_iff.mp h2
  have pw := List.pairwise_iff_getElem.mp nd
  rcases Nat.lt_trichotomy i j with z | z | z
  · exact absurd (ea.trans eb.symm) (pw i j a b z)
  · exact z
  · exact absurd (eb.trans ea.symm) (pw j i b a z)
theorem rows_60 {wide : Nat} {ws : List (List Nat)} {rs : List Row3} (hl : ws.length ≤ 12) (hok : ∀ l ∈ ws, sOk l) (nd : rs.Nodup) (h : ∀ r ∈ rs, (firstAt (occA wide ws) r.2 r.1).isSome = true) : rs.length ≤ 60 := by
  have h1 := nd_leA nd (m := (occA wide ws).map fun x => (x.2.1, x.1)) fun r hr => by
    obtain ⟨q, hq⟩ := Option.isSome_iff_exists.mp (h r hr)
    exact List.mem_map.mpr ⟨_, firstAt_some hq, rfl⟩
  have h2 := occs_len5 (wide := wide) hok ws.length
  rw [List.length_map] at h1
  have h3 : (occA wide ws).length = (occs wide ws ws.length).length := rfl
  omega
def spLotR (K : PySem.W.Frag) (T1 T2 : Addr) : Sp := fun vs H Q _ => ∃ (a : Addr) (ws : List (List Nat)) (l : List Nat) (wide : Nat), vs = [.ref a, .str (Tx l), .int (wide : Nat)] ∧ H a = some (.lst (tws ws)) ∧ ws ≠ [] ∧ ws.length ≤ 12 ∧ (∀ l ∈ ws, sOk l) ∧
  1 ≤ wide ∧ wide ≤ 2 ∧ l ≠ [] ∧ azL l ∧ l.length ≤ 26 ∧ l.Pairwise (fun c d => c < d) ∧ LamX.Tabs (TL2 T1 T2) H ∧ ∀ H', LamX.ExtN H H' → LamX.Tabs (TL2 T1 T2) H' → Q (.bl true) H'
abbrev st_l_lot_right : Stmt := top 51
abbrev nm_l_lot_right : List Str := ["_law_words_here", "_law_lot", "_law_wide", "_law_due", "_law_sound", "_law_at", "_law_one", "_law_other", "_law_pair", "_law_left", "_law_right"]
theorem sc_l_lot_right : FnScope nm_l_lot_right ["_law_words_here", "_law_lot", "_law_wide"] (defScope st_l_lot_right) := ⟨rfl, rfl, rfl, by decide +kernel, rfl, by decide +kernel, by decide +kernel⟩
theorem ok_lot_right {T1 T2 c f gh : Addr} {fd fdh : FuncData} (F : Fun K "_law_lot_right" "_law_lot_right" st_l_lot_right f fd) (hn : PySem.W.nsIn K mainGlobals "_law_lot_right" = some (some (.ref f))) (ht : PySem.W.tabIn K "_law_lot_right" = some (c, T2)) (n12 : T1 ≠ T2) (T : BltS mg)
    (TE : H5 K mg cs) (F_heard : Fun K "_law_heard" "_law_heard" st_l_heard gh fdh) (m_heard : mg "_law_heard" = some (.ref gh)) (TB : LamX.TabB base mg c T2) (C__law_against : CLag P w K mg base) (C__law_nears : CLnrs P w K mg base) (C_rule_table : CRt P w K mg base (spRuleX K cs Z))
    (C_Against : CAg P w K mg base Z) (CE : CEq P w K mg base Z) : FnG P w K mg base CX0 13 f fd ["_law_words_here", "_law_lot", "_law_wide"] (spLotR K T1 T2) := by
  have C_rule_table := crt_to C_rule_table hRX_eq
  refine okGC F hn ht sc_l_lot_right (fun vs H Q E h => ?_) (fun A outer s H vs Q E hg hr h => ?_)
  · obtain ⟨_, _, _, _, rfl, _⟩ := h
    rfl
  · have hmT : (T2, Str.ofString "_law_lot_right.<locals>.<lambda>") ∈ TL2 T1 T2 := List.mem_cons_of_mem _ List.mem_cons_self
    have hu : ∀ p ∈ TL2 T1 T2, p.1 = T2 → p.2 = Str.ofString "_law_lot_right.<locals>.<lambda>" := fun p hp e => by
      rcases List.mem_cons.mp hp with rfl | hp
      · exact absurd e n12
      · rw [List.mem_singleton.mp hp]
    refine ⟨_, (pss_cons (ps_for PassesOwn.never rfl (K5.pi_enumS (by rfl) T.n_enumerate (pa_cons (pv 1) pa_nil)) (pg_tup rfl (pgs_cons (pg_name (i := 5) sc_l_lot_right.nd rfl (Or.inl rfl)) (pgs_cons (pg_name (i := 6) sc_l_lot_right.nd rfl (Or.inl rfl)) pgs_nil))) (pss_one (ps_for PassesOwn.never rfl (pi_str (pe_slice sl_str (pv 1) (po_some (pe_op op_add (pv 5) pe_int)) po_none)) (pg_name (i := 7) sc_l_lot_right.nd rfl (Or.inl rfl)) (pss_cons (ps_set (i := 8) sc_l_lot_right.nd rfl (Or.inl rfl) (pe_cl C__law_against (hr.mono (by decide)) rfl (pa_cons (pv 0) (pa_cons (pv 6) (pa_cons (pv 7) (pa_cons (pv 2) pa_nil))))))
  (pss_one (ps_if (pt_cmpR op_notN (pv 8) pe_non (nomark _)) (pss_one (ps_ret (pe_cmpR (eq_pairZ CE (hr.mono (by decide))) (pe_heard5 (k := 10) F_heard TE (by rfl) m_heard TB rfl hmT hu (hr.mono (by decide)) (LamX.lamS_by (by rfl)) rfl (fun _ _ _ _ _ => rfl) (fun A outer s H E f c' hr => (pe_rt3 C_rule_table (passes_call (takes_of rfl rfl rfl rfl) fun _ _ _ _ z => z) (hr.mono (by decide)) rfl (pa_cons (pv 0) (pa_cons (pv 1) (pa_cons (pv 2) pa_nil)))))) (pe_tup (pa_cons pe_str (pa_cons (pe_mkX C_Against px0 (hr.mono (by decide)) rfl (pa_cons (pe_ix (ix_tup : IxR _ (rIxT K)) (pv 8) pe_int (fun _ _ => rfl)) (pa_cons (pe_ix (ix_tup : IxR _ (rIxT K)) (pv 8) pe_int (fun _ _ => rfl)) pa_nil))) pa_nil))) (nomark _)))) pss_nil))))))
  (pss_cons (ps_set (i := 3) sc_l_lot_right.nd rfl (Or.inl rfl) (pe_lst pa_nil))
  (pss_cons (ps_for PassesOwn.never rfl (pi_str (pv 1)) (pg_name (i := 4) sc_l_lot_right.nd rfl (Or.inr rfl)) (pss_one (ps_expr (pe_bm PySem.F.plainAttrs_list PySem.F.slot_list_extend PySem.F.type_list_extend mt_extend (pv 3) (pa_cons (pe_lc (own := [("_law_left", 9), ("_law_right", 10)]) (g := (gTup K 2 (gCons (gName 9) (gCons (gName 10) gNil)))) (tt := tYes) rfl sc_l_lot_right.nd (pi_tup (pe_cl C__law_nears (hr.mono (by decide)) rfl (pa_cons (pv 0) (pa_cons (pv 4) (pa_cons (pv 2) pa_nil))))) (blkOk_by (N := nm_l_lot_right) (sc := defScope st_l_lot_right) (own := [("_law_left", 9), ("_law_right", 10)]) (by decide +kernel)) (fun _ _ _ _ _ => by exact pg_tup rfl (pgs_cons (pg_name (i := 9) sc_l_lot_right.nd rfl (Or.inl rfl)) (pgs_cons (pg_name (i := 10) sc_l_lot_right.nd rfl (Or.inl rfl)) pgs_nil))) (fun _ _ _ _ _ => pts_nil) (fun _ _ _ _ _ => (pe_tup (pa_cons (pv 9) (pa_cons (pv 10) (pa_cons (pv 4) pa_nil)))))) pa_nil)))))
  (pss_one (ps_ret (pe_cmpR (op_eqD hr.units) (pe_rtL C_rule_table px0 (hr.mono (by decide)) rfl (pk_cons (pv 1) (pk_cons (pv 0) (pk_cons (pv 2) pk_nil)))) (pe_callTy call_tuple_of (by rfl) T.n_tuple (by decide +kernel) (pa_cons (pe_callB (cr_sortE (enc := enc3) rfl (hu20 hr) al3 tu3 dp3) (by rfl) T.n_sorted (by decide +kernel) (pa_cons (pv 3) pa_nil)) pa_nil)) (nomark _))))))), ?_⟩
    obtain ⟨a, ws, l, wide, rfl, hA, h0, hl, hok, w1, w2, l0, la, l26, asc, hT, q⟩ := h
    rw [show L2.start nm_l_lot_right [V.ref a, V.str (Tx l), V.int (wide : Nat)] = [some (V.ref a), some (V.str (Tx l)), some (V.int (wide : Nat)), none, none, none, none, none, none, none, none] from rfl]
    have hS := SqL.of (K := K) hA
    have lz : (Tx l).length ≤ sizeLine := by rw [tx_len]; exact Nat.le_trans l26 (by decide)
    refine ⟨_, rfl, Tx l, rfl, ?_⟩
    refine for_it K5.walk_enS (fun i σ H' => (∃ v5 v6 v7 v8, σ = [some (V.ref a), some (V.str (Tx l)), some (V.int (wide : Nat)), none, none, v5, v6, v7, v8, none, none]) ∧ Same H H' ∧ ∀ i' < i, ∀ j' x y, i' < j' → l[i']? = some x → l[j']? = some y → leastF (occA wide ws) x y = none)
      ⟨⟨_, _, _, _, rfl⟩, fun _ _ e => e, fun i' h => absurd h (Nat.not_lt_zero _)⟩ (fun _ _ _ _ _ => trivial) ?_ ?_
    · rintro i x σ G1 G2 hi ⟨⟨v5, v6, v7, v8, rfl⟩, g1, none1⟩ ⟨T, c, rfl, hT0, rfl, hc⟩
      have hc : l[i]? = some c := tx_at hc
      have il := (List.getElem?_eq_some_iff.mp hc).1
      have st := Sm.new (o := .tup [.int (i : Nat), .str (Tx [c])]) hT0
      refine ⟨T, _, rfl, SqT.of upd_same, rfl, _, _, rfl, _, _, rfl, rfl, ?_⟩
      dsimp only [gName, List.set_cons_succ, List.set_cons_zero]
      have g1 := g1.trans st
      have e2 : (⟨#[c]⟩ : Str) = Tx [c] := rfl
      rw [e2]
      generalize upd G1 T (.tup [.int (i : Nat), .str (Tx [c])]) = G3 at g1 ⊢
      have ec : cutS (Tx l) (some ((i : Nat) + 1 : Int)) none = Tx (l.drop (i + 1)) := by
        rw [show ((i : Nat) : Int) + 1 = ((i + 1 : Nat) : Int) from rfl]
        exact W5.cut_from l (i + 1)
      refine ⟨_, rfl, _, rfl, _, _, rfl, rfl, _, rfl, _, rfl, lz, _, rfl, ?_⟩
      rw [ec]
      refine for_it walk_str (fun j σ H' => (∃ v7 v8, σ = [some (V.ref a), some (V.str (Tx l)), some (V.int (wide : Nat)), none, none, some (V.int (i : Nat)), some (V.str (Tx [c])), v7, v8, none, none]) ∧ Same G3 H' ∧ ∀ j' < j, ∀ y, (l.drop (i + 1))[j']? = some y → leastF (occA wide ws) c y = none)
        ⟨⟨_, _, rfl⟩, fun _ _ e => e, fun j' h => absurd h (Nat.not_lt_zero _)⟩ (fun _ _ _ _ _ => trivial) ?_ ?_
      · rintro j x σ G4 G5 hj ⟨⟨v7, v8, rfl⟩, g4, none2⟩ ⟨rfl, d, hd, rfl⟩
        have hd : (l.drop (i + 1))[j]? = some d := tx_at hd
        have hd' : l[i + 1 + j]? = some d := by rw [List.getElem?_drop] at hd; exact hd
        have e3 : (⟨#[d]⟩ : Str) = Tx [d] := rfl
        rw [e3]
        dsimp only [gName, List.set_cons_succ, List.set_cons_zero]
        have g14 := g1.trans g4
        refine ⟨_, rfl, _, rfl, _, rfl, _, rfl, a, ws, c, d, wide, rfl, sm_l g14 hS, by omega, hok, w2, fun G6 v r s6 hr hv => ?_⟩
        have er := leastF_of hr
        dsimp only [gName, List.set_cons_succ, List.set_cons_zero]
        cases r with
        | none =>
          obtain rfl : v = .non := hv
          refine ⟨_, rfl, rfl, _, rfl, ?_⟩
          refine iteF ?_
          refine ⟨⟨_, _, rfl⟩, g4.trans s6, fun j' hj' y hy => ?_⟩
          rcases Nat.lt_or_ge j' j with z | z
          · exact none2 j' z y hy
          · obtain rfl : j' = j := by omega
            rw [hd] at hy
            obtain rfl := Option.some.inj hy
            exact er
        | some r =>
          obtain ⟨T5, t1, t2, rfl, h5, h51, h52⟩ := hv
          refine ⟨_, rfl, rfl, _, rfl, ?_⟩
          refine iteT ?_
          have s06 := g14.trans s6
          have hT6 := hT.ext s06
          obtain ⟨pre, post, ep, hp⟩ := pr2_at l i (i + 1 + j) c d (by omega) hc hd'
          have all : ∀ q ∈ pre, leastF (occA wide ws) q.1 q.2 = none := fun q hq => by
            obtain ⟨i', j', lt, x1, x2, z⟩ := hp q hq
            rcases z with z | ⟨rfl, z⟩
            · exact none1 i' z j' _ _ lt x1 x2
            · rw [hc] at x1
              rw [← Option.some.inj x1]
              refine none2 (j' - (i' + 1)) (by omega) _ ?_
              rw [List.getElem?_drop, show i' + 1 + (j' - (i' + 1)) = j' by omega]
              exact x2
          refine ⟨hT6, fun H6 x6 t6 => .inl ⟨fun cls d H' => ∃ z dd, cls = .ref (cs 5) ∧ d = some dd ∧ Same H6 H' ∧ H' dd = some (.xd [(Str.ofString "paper", .ref z)]) ∧ ZmB Z H' z (dPl r.1) (dPl r.2), ?_, fun Q' => ?_⟩⟩
          · rintro cls dd0 H7 ⟨z, dd, rfl, rfl, s7, hdd, hz⟩
            refine ⟨5, _, .str "impossible", .ref z, dd, .inr (.inr (.inr (.inl ⟨rfl, rfl, rfl⟩))), rfl, rfl, hdd, fun t ht => ?_⟩
            have st := Sm.new (o := .tup [.str "impossible", .ref z]) ht
            have h5' := st _ _ (s7 _ _ (x6 _ _ h5 fun _ z => nomatch z))
            have h51' := st _ _ (s7 _ _ (x6 _ _ h51 fun _ z => nomatch z))
            have h52' := st _ _ (s7 _ _ (x6 _ _ h52 fun _ z => nomatch z))
            have hz' := zmb_sm st hz
            have et : upd H7 t (.tup [.str "impossible", .ref z]) t = some (.tup [.str "impossible", .ref z]) := upd_same
            have x7 : LamX.ExtN H (upd H7 t (.tup [.str "impossible", .ref z])) := ((LamX.ExtN.of s06).trans x6).trans (LamX.ExtN.of (s7.trans st))
            have t7 := t6.ext (s7.trans st)
            generalize upd H7 t (.tup [.str "impossible", .ref z]) = H8 at h5' h51' h52' hz' et x7 t7 ⊢
            refine ⟨_, rfl, T5, _, 0, _, rfl, rfl, SqT.of h5', rfl, _, rfl, T5, _, 1, _, rfl, rfl, SqT.of h5', rfl, ?_⟩
            refine zmb_makeA (fx_pl h51') (fx_pl h52') fun H9 z2 s9 nz hz2 => ?_
            refine ⟨by show 2 ≤ sizeLine; decide, fun t3 ht3 => ?_⟩
            have s3 := Sm.new (o := .tup [.str "impossible", .ref z2]) ht3
            have b1 := zmb_sm (s9.trans s3) hz'
            have b2 := zmb_sm s3 hz2
            refine ⟨⟨t, t3, _, _, rfl, rfl, SqT.of ((s9.trans s3) _ _ et), SqT.of upd_same, .cons (.inl ⟨rfl, rfl, ?_⟩) (.cons (.inr ?_) .nil)⟩, fun H10 e10 => ?_⟩
            · show eqV (.str _) (.str _) = true
              unfold eqV
              simp
            · obtain ⟨dx, u1, u2, p1, hx, _⟩ := id b1
              obtain ⟨dy, v1, v2, p2, hy, _⟩ := id b2
              exact ⟨z, z2, dx, dy, _, _, rfl, rfl, hx, hy, _, _, _, _, b1, b2, sh_pl2 _ _, sh_pl2 _ _, eq_pl2 _ _⟩
            · have s10 : Same H8 H10 := (s9.trans s3).trans e10
              exact q H10 (x7.trans (LamX.ExtN.of s10)) (t7.ext s10)
          · have h6 := x6 _ _ (s06 _ _ hA) fun _ z => nomatch z
            refine ⟨_, rfl, _, rfl, _, rfl, ?_⟩
            show hRX K cs Z [.ref a, .str (Tx l), .int (wide : Nat)] _ _ _
            refine rx_ok (.inl (SqL.of h6)) h0 hl hok l0 la l26 asc w1 w2 (.inl ⟨pre, (c, d), r, post, ep, all, er, fun H' z s hz => ?_⟩)
            rintro cls dd0 H'' ⟨rfl, dd, rfl, s2, hdd⟩
            exact ⟨z, dd, rfl, rfl, s.trans s2, hdd, zmb_sm s2 hz⟩
      · rintro σ G4 ⟨⟨v7, v8, rfl⟩, g4, none2⟩
        refine ⟨⟨_, _, _, _, rfl⟩, g1.trans g4, fun i' hi' j' x y lt hx hy => ?_⟩
        rcases Nat.lt_or_ge i' i with z | z
        · exact none1 i' z j' x y lt hx hy
        · obtain rfl : i' = i := by omega
          rw [hc] at hx
          obtain rfl := Option.some.inj hx
          have hj := (List.getElem?_eq_some_iff.mp hy).1
          refine none2 (j' - (i' + 1)) (by rw [tx_size, List.length_drop]; omega) y ?_
          rw [List.getElem?_drop, show i' + 1 + (j' - (i' + 1)) = j' by omega]
          exact hy
    · rintro σ G ⟨⟨v5, v6, v7, v8, rfl⟩, g1, none1⟩
      have lno : ∀ p ∈ pr2 l, mB wide ws p.1 p.2 = false := fun p hp => by
        obtain ⟨i, j, lt, e1, e2⟩ := pr2_by l p hp
        have hi := (List.getElem?_eq_some_iff.mp e1).1
        have := none1 i (by rw [tx_size]; exact hi) j _ _ lt e1 e2
        unfold mB
        rw [this]
        rfl
      clear none1
      refine ⟨Nat.zero_le _, fun D hD => ?_⟩
      have sD := Sm.new (o := .lst []) hD
      have hD0 : H D = none := by
        cases z : H D with
        | none => rfl
        | some o => rw [g1 _ _ z] at hD; cases hD
      have ndl : l.Nodup := asc.imp fun h => Nat.ne_of_lt h
      dsimp only [gName, List.set_cons_succ, List.set_cons_zero]
      refine ⟨_, rfl, _, rfl, ?_⟩
      refine for_it walk_str (fun i σ H' => (∃ v4 v5 v6 v7 v8, σ = [some (V.ref a), some (V.str (Tx l)), some (V.int (wide : Nat)), some (V.ref D), v4, v5, v6, v7, v8, none, none]) ∧ Same H H' ∧ ∃ acc rs, H' D = some (.lst acc) ∧ AtF row3 H' acc rs ∧ rs.Nodup ∧ ∀ r, r ∈ rs ↔ r.2 ∈ l.take i ∧ (firstAt (occA wide ws) r.2 r.1).isSome = true)
        ⟨⟨_, _, _, _, _, rfl⟩, g1.trans sD, [], [], upd_same, AtF.nil, List.nodup_nil, fun r => ⟨fun h => absurd h List.not_mem_nil, fun h => absurd h.1 List.not_mem_nil⟩⟩ (fun _ _ _ _ _ => trivial) ?_ ?_
      · rintro i x σ G1 G2 hi ⟨⟨v4, v5, v6, v7, v8, rfl⟩, q1, acc, rs, q2, q3, q4, q5⟩ ⟨rfl, c, hc, rfl⟩
        have hc : l[i]? = some c := tx_at hc
        have e3 : (⟨#[c]⟩ : Str) = Tx [c] := rfl
        rw [e3]
        dsimp only [gName, List.set_cons_succ, List.set_cons_zero]
        have r60 := rows_60 hl hok q4 fun r hr => ((q5 r).mp hr).2
        refine ⟨_, rfl, .inl ⟨rfl, _, SqL.of q2⟩, _, rfl, _, rfl, _, rfl, a, ws, c, wide, rfl, sm_l q1 hS, by omega, hok, w2, fun G5 p5 xs5 l5 s5 e5 d5 n5 => ?_⟩
        obtain ⟨ns, rfl, n1, n2⟩ := nr_names n5
        refine ⟨p5, rfl, ⟨_, SqT.of e5⟩, fun L hL => ?_⟩
        have l5n : xs5.length = ns.length := by
          have := K5.dp_len (d5 _ fun _ _ e => e)
          rw [List.length_map, List.length_map] at this
          exact this
        have n60 : ns.length ≤ 60 := by
          have := rows_60 (wide := wide) (rs := ns.map fun n => (n, c)) hl hok (n1.map _ fun x y n e => n (Prod.mk.inj e).1) fun r hr => by
            obtain ⟨n, hn, rfl⟩ := List.mem_map.mp hr
            exact (n2 n).mp hn
          rw [List.length_map] at this
          exact this
        refine lc_it walk_tup (fun j H' => Same G5 H' ∧ ∃ ys, H' L = some (.lst ys) ∧ AtF row3 H' ys ((ns.map fun n => (n, c)).take j)) ⟨Sm.new hL, [], upd_same, AtF.nil⟩ (fun j G hj z => SqT.of (z.1 _ _ e5)) ?_ ?_
        · rintro j y G6 G7 hj ⟨m1, ys, m2, m3⟩ ⟨rfl, hy⟩
          have hj' : j < ns.length := by rw [← l5n]; exact hj
          have en := List.getElem?_eq_getElem hj'
          obtain ⟨dd, ed, hd⟩ := K5.dp_all_at (d5 _ m1) hy
          rw [List.getElem?_map, List.getElem?_map, en] at ed
          obtain rfl := Option.some.inj ed
          generalize ns[j] = n at en hd
          obtain ⟨T, rfl, hT⟩ := dp_tupS (k := [Tx n.1, Tx n.2]) hd
          refine ⟨T, _, rfl, hT, rfl, _, _, rfl, _, _, rfl, rfl, ?_⟩
          refine ⟨rfl, ?_⟩
          refine ⟨_, rfl, _, rfl, _, rfl, by show 3 ≤ sizeLine; decide, fun T3 hT3 => ?_⟩
          have sT := Sm.new (o := .tup [V.str (Tx n.1), V.str (Tx n.2), V.str (Tx [c])]) hT3
          have lm := m3.1
          rw [List.length_take, List.length_map] at lm
          refine ⟨ys, sT _ _ m2, small_lt (by omega), Sm.put (m1.trans sT) hL, _, upd_same, ?_⟩
          rw [List.take_add_one, List.getElem?_map, en]
          exact ((m3.sm sT).snoc (r := (n, c)) upd_same).put (sT _ _ m2)
        · rintro G6 ⟨m1, ys, m2, m3⟩
          rw [show xs5.length = (ns.map fun n => (n, c)).length by rw [List.length_map]; exact l5n, List.take_length] at m3
          have s16 := s5.trans m1
          have nLD : L ≠ D := fun z => by
            rw [z, s5 _ _ q2] at hL
            cases hL
          have lacc := q3.1
          have lys := m3.1
          rw [List.length_map] at lys
          refine ⟨D, L, acc, ys, rfl, rfl, s16 _ _ q2, m2, Nat.le_trans (show acc.length + ys.length ≤ 120 by omega) (by decide), ?_⟩
          refine ⟨⟨_, _, _, _, _, rfl⟩, Sm.put (q1.trans s16) hD0, acc ++ ys, rs ++ ns.map fun n => (n, c), upd_same, ((q3.sm s16).app m3).put (s16 _ _ q2), ?_, fun r => ?_⟩
          · refine List.nodup_append.mpr ⟨q4, n1.map _ fun x y n e => n (Prod.mk.inj e).1, fun r hr r' hr' e => ?_⟩
            obtain ⟨n, hn, rfl⟩ := List.mem_map.mp hr'
            subst e
            have hm := ((q5 _).mp hr).1
            obtain ⟨k, hk⟩ := List.mem_iff_getElem?.mp hm
            have hk1 := (List.getElem?_eq_some_iff.mp hk).1
            rw [List.length_take] at hk1
            rw [List.getElem?_take, if_pos (by omega)] at hk
            have := nd_at ndl hk hc
            omega
          · rw [List.mem_append, q5, List.take_add_one, hc, List.mem_append]
            constructor
            · rintro (⟨h1, h2⟩ | h)
              · exact ⟨.inl h1, h2⟩
              · obtain ⟨n, hn, rfl⟩ := List.mem_map.mp h
                exact ⟨.inr (List.mem_singleton.mpr rfl), (n2 n).mp hn⟩
            · rintro ⟨h1 | h1, h2⟩
              · exact .inl ⟨h1, h2⟩
              · have e : r.2 = c := List.mem_singleton.mp h1
                rw [e] at h2
                exact .inr (List.mem_map.mpr ⟨r.1, (n2 r.1).mpr h2, Prod.ext rfl e.symm⟩)
      · rintro σ G1 ⟨⟨v4, v5, v6, v7, v8, rfl⟩, q1, acc, rs, q2, q3, q4, q5⟩
        rw [tx_size, List.take_length] at q5
        refine ⟨_, rfl, _, rfl, _, rfl, ?_⟩
        show hRX K cs Z [.ref a, .str (Tx l), .int (wide : Nat)] _ _ _
        refine rx_ok (.inl (SqL.of (q1 _ _ hA))) h0 hl hok l0 la l26 asc w1 w2 (.inr ⟨lno, fun H5 p xs rows s5 e5 d5 o5 => ?_⟩)
        have s16 := q1.trans s5
        have eD := s5 _ _ q2
        have q3 := q3.sm s5
        refine ⟨_, rfl, D, acc, rs, rfl, SqL.of eD, fun G' sG => (q3.sm sG).dp row3_dp, fun b2 ys2 hb2 hys => ?_⟩
        have sb := Sm.new (o := .lst ys2) hb2
        refine ⟨b2, ys2, rfl, .inl ⟨SqL.of upd_same, fun t ht => ?_⟩⟩
        have st := Sm.new (o := .tup ys2) ht
        have pm := List.mergeSort_perm rs (leE enc3)
        have oD : RowsOf (occA wide ws) l (rs.mergeSort (leE enc3)) := ⟨pm.nodup_iff.mpr q4, fun r => (pm.mem_iff).trans (q5 r), List.pairwise_mergeSort (le := leE enc3) (fun a b c => (leE_tot enc3).trans a b c) (fun a b => by
          rcases (leE_tot enc3).total a b with z | z
          · rw [z]; rfl
          · rw [z, Bool.or_true]) rs⟩
        have eq := o5.uniq oD
        have low : ∀ c ∈ l, c < 128 := fun c hc => by have := (la c hc).2; omega
        have s2 := sb.trans st
        refine ⟨.tuple (rows.map enc3), .tuple ((rs.mergeSort (leE enc3)).map enc3), .tup (SqT.of (s2 _ _ e5)) (d5 _ s2), .tup (SqT.of upd_same) (hys _ (sb.trans st)), rows_sh hok low o5, rows_sh hok low oD, ?_⟩
        rw [eq, eqv_rows]
        have s17 := s16.trans s2
        exact q _ (LamX.ExtN.of s17) (hT.ext s17)
end
end W5.V
namespace W5.V
open PySem PySem.Spec PyProof.Rows L2 K0 K6
open K4 hiding Blt
section
variable {P : Program} {w : World} {K : PySem.W.Frag} {mg : Str → Option Value} {base : Heap}
variable {cs : Nat → Addr} {Z : Addr}
/-! ### words told back by the tables of a parting -/
theorem lot_of {B : Nat → Nat → Bool} {S : List Nat} (nd : S.Nodup) {R : List (List Nat)} (hR : R ∈ prt B S) {l : List Nat} (hl : l ∈ R) : l ≠ [] ∧ l.Sublist S ∧ ∀ p ∈ pr2 l, B p.1 p.2 = false := by
  obtain ⟨f, cs, hc, rfl⟩ := col_of S nd R hR
  unfold lotsOf at hl
  obtain ⟨k, hk, rfl⟩ := List.mem_map.mp hl
  refine ⟨fun z => ?_, List.filter_sublist, pr2_iff.mp (lotOk_iff.mp (cls_ok hc.ok k))⟩
  obtain ⟨x, hx, ex⟩ := hc.ne k hk
  have := cls_mem.mpr ⟨hx, ex⟩
  rw [z] at this
  cases this
theorem first_iff {L : List Occ} {c : Nat} {n : NB} : (firstAt L c n).isSome = true ↔ ∃ x ∈ L, x.1 = c ∧ x.2.1 = n := by
  unfold firstAt
  rw [Option.isSome_map, List.find?_isSome]
  constructor
  · rintro ⟨x, hx, e⟩
    exact ⟨x, hx, of_decide_eq_true e⟩
  · rintro ⟨x, hx, e⟩
    exact ⟨x, hx, decide_eq_true e⟩
theorem nb_of {wide : Nat} {ws : List (List Nat)} {c : Nat} {n : NB} (hok : ∀ l ∈ ws, sOk l) (h : (firstAt (occA wide ws) c n).isSome = true) : SeqAt.shaped (dNB n) = true := by
  obtain ⟨x, hx, x1, x2⟩ := first_iff.mp h
  obtain ⟨k, hk, p, hp, rfl⟩ := occs_mem.mp hx
  rw [← x2]
  refine nb_sh (hok _ ?_)
  rw [List.getD_eq_getElem?_getD, List.getElem?_eq_getElem hk]
  exact List.getElem_mem hk
/-- one row alone has these surroundings -/
theorem row_one {wide : Nat} {ws : List (List Nat)} {l : List Nat} {rows : List Row3} (h : RowsOf (occA wide ws) l rows) (asc : l.Pairwise fun c d => c < d) (no : ∀ p ∈ pr2 l, mB wide ws p.1 p.2 = false) {c : Nat} {n : NB} (hc : c ∈ l) (hn : (firstAt (occA wide ws) c n).isSome = true) :
    rows.filter (fun r => decide (r.1 = n)) = [(n, c)] := by
  have one : ∀ r ∈ rows.filter (fun r => decide (r.1 = n)), r = (n, c) := fun r hr => by
    obtain ⟨h1, h2⟩ := List.mem_filter.mp hr
    have h2 : r.1 = n := of_decide_eq_true h2
    obtain ⟨h3, h4⟩ := (h.mem r).mp h1
    rw [h2] at h4
    obtain ⟨x, hx, x1, x2⟩ := first_iff.mp hn
    obtain ⟨y, hy, y1, y2⟩ := first_iff.mp h4
    have iff := (pr2_asc asc).2
    rcases Nat.lt_trichotomy r.2 c with z | z | z
    · have m : mB wide ws r.2 c = true := leastF_some.mpr ⟨y, hy, x, hx, y1, x1, y2.trans x2.symm⟩
      rw [no (r.2, c) ((iff _).mpr ⟨h3, hc, z⟩)] at m
      cases m
    · exact Prod.ext h2 z
    · have m : mB wide ws c r.2 = true := leastF_some.mpr ⟨x, hx, y, hy, x1, y1, x2.trans y2.symm⟩
      rw [no (c, r.2) ((iff _).mpr ⟨hc, h3, z⟩)] at m
      cases m
  have nd : (rows.filter fun r => decide (r.1 = n)).Nodup := h.nd.sublist List.filter_sublist
  have mem : (n, c) ∈ rows.filter fun r => decide (r.1 = n) := List.mem_filter.mpr ⟨(h.mem _).mpr ⟨hc, hn⟩, decide_eq_true rfl⟩
  generalize rows.filter (fun r => decide (r.1 = n)) = F at one nd mem
  match F, one, nd, mem with
  | [], _, _, mem => exact absurd mem List.not_mem_nil
  | [x], one, _, _ => rw [one x List.mem_cons_self]
  | x :: y :: r, one, nd, _ =>
    have e1 := one x List.mem_cons_self
    have e2 := one y (List.mem_cons_of_mem _ List.mem_cons_self)
    have := (List.nodup_cons.mp nd).1
    rw [e1, e2] at this
    exact absurd List.mem_cons_self this
theorem sq_put {K : PySem.W.Frag} {H : Hp} {D T : Addr} {us vs xs : List V} (hD : H D = some (.lst us)) (h : SqT K H T xs) : SqT K (upd H D (.lst vs)) T xs := by
  rcases h with (e | ⟨o, e⟩) | r
  · exact .inl (.inl ((upd_ne fun z => by rw [z, hD] at e; cases e).trans e))
  · exact .inl (.inr ⟨o, (upd_ne fun z => by rw [z, hD] at e; cases e).trans e⟩)
  · exact .inr r
/-- the table of a lot -/
def TabAt (K : PySem.W.Frag) (H : Hp) (L : List Occ) (x : V) (l : List Nat) : Prop := ∃ (p : Addr) (xs : List V) (rows : List Row3), x = .ref p ∧ SqT K H p xs ∧ xs.length = rows.length ∧ (∀ (i : Nat) y r, xs[i]? = some y → rows[i]? = some r → ∃ T, y = .ref T ∧ SqT K H T (row3 r)) ∧ RowsOf L l rows
theorem TabAt.sm {K : PySem.W.Frag} {H H' : Hp} {L : List Occ} {x : V} {l : List Nat} (h : TabAt K H L x l) (s : Same H H') : TabAt K H' L x l := by
  obtain ⟨p, xs, rows, e, a, b, c, d⟩ := h
  exact ⟨p, xs, rows, e, sm_t s a, b, fun i y r e1 e2 => let ⟨T, e3, h⟩ := c i y r e1 e2; ⟨T, e3, sm_t s h⟩, d⟩
theorem TabAt.put {K : PySem.W.Frag} {H : Hp} {L : List Occ} {x : V} {l : List Nat} {D : Addr} {us vs : List V} (h : TabAt K H L x l) (hD : H D = some (.lst us)) : TabAt K (upd H D (.lst vs)) L x l := by
  obtain ⟨p, xs, rows, e, a, b, c, d⟩ := h
  exact ⟨p, xs, rows, e, sq_put hD a, b, fun i y r e1 e2 => let ⟨T, e3, h⟩ := c i y r e1 e2; ⟨T, e3, sq_put hD h⟩, d⟩
theorem TabAt.of {K : PySem.W.Frag} {H : Hp} {L : List Occ} {p : Addr} {xs : List V} {rows : List Row3} {l : List Nat} (e : H p = some (.tup xs)) (d : DpAll K H xs (rows.map enc3)) (o : RowsOf L l rows) : TabAt K H L (.ref p) l := by
  refine ⟨p, xs, rows, rfl, SqT.of e, ?_, fun i y r e1 e2 => ?_, o⟩
  · have := K5.dp_len d
    rw [List.length_map] at this
    exact this
  · obtain ⟨dd, ed, hd⟩ := K5.dp_all_at d e1
    rw [List.getElem?_map, e2] at ed
    obtain rfl := Option.some.inj ed
    exact dp_row3 hd
def spLTold (K : PySem.W.Frag) : Sp := fun vs H Q _ => ∃ (a TR : Addr) (ws : List (List Nat)) (R : List (List Nat)) (wide : Nat), vs = [.ref a, .ref TR, .int (wide : Nat)] ∧ H a = some (.lst (tws ws)) ∧ SqT K H TR (tws R) ∧ ws ≠ [] ∧ ws.length ≤ 9 ∧ (∀ l ∈ ws, sOk l) ∧
  1 ≤ wide ∧ wide ≤ 2 ∧ (soundsOf ws).length ≤ 6 ∧ R ∈ prt (mB wide ws) (soundsOf ws) ∧ ∀ H', Same H H' → Q (.bl true) H'
abbrev st_l_told_back : Stmt := top 52
abbrev nm_l_told_back : List Str := ["_law_words_here", "_law_parting", "_law_wide", "_law_tables", "_law_word", "_law_lot", "_law_at", "_law_sound", "_law_near_here", "_law_table", "_law_found", "_law_row"]
theorem sc_l_told_back : FnScope nm_l_told_back ["_law_words_here", "_law_parting", "_law_wide"] (defScope st_l_told_back) := ⟨rfl, rfl, rfl, by decide +kernel, rfl, by decide +kernel, by decide +kernel⟩
theorem ok_told_back {f : Addr} {fd : FuncData} (F : Fun K "_law_told_back" "_law_told_back" st_l_told_back f fd) (T : BltS mg) (C__law_near : CLnr P w K mg base) (C_rule_table : CRt P w K mg base (spRuleX K cs Z)) :
    FnOk P w K mg base CX0 11 f fd ["_law_words_here", "_law_parting", "_law_wide"] (spLTold K) := by
  have C_rule_table := crt_to C_rule_table hRX_eq
  refine F.ok sc_l_told_back (fun vs H Q E h => ?_) (fun cdv A outer s H vs Q E hr h => ?_)
  · obtain ⟨_, _, _, _, _, rfl, _⟩ := h
    rfl
  · refine ⟨_, (pss_cons (ps_setLc (i := 3) (own := [("_law_lot", 5)]) (g := (gName 5)) (tt := tYes) rfl sc_l_told_back.nd rfl rfl (sw_true rfl rfl rfl (by decide +kernel)) (pi_tup (pv 1)) (blkOk_by (N := nm_l_told_back) (sc := defScope st_l_told_back) (own := [("_law_lot", 5)]) (by decide +kernel)) (fun _ _ _ _ _ => by exact pg_name (i := 5) sc_l_told_back.nd rfl (Or.inl rfl)) (fun _ _ _ _ _ => pts_nil) (fun _ _ _ _ _ => (pe_rt3 C_rule_table px0 (hr.mono (by decide)) rfl (pa_cons (pv 0) (pa_cons (pv 5) (pa_cons (pv 2) pa_nil))))))
  (pss_cons (ps_for PassesOwn.never rfl (pi_list (pv 0)) (pg_name (i := 4) sc_l_told_back.nd rfl (Or.inl rfl)) (pss_one (ps_for PassesOwn.never rfl (K5.pi_enumS (by rfl) T.n_enumerate (pa_cons (pv 4) pa_nil)) (pg_tup rfl (pgs_cons (pg_name (i := 6) sc_l_told_back.nd rfl (Or.inl rfl)) (pgs_cons (pg_name (i := 7) sc_l_told_back.nd rfl (Or.inl rfl)) pgs_nil))) (pss_cons (ps_set (i := 8) sc_l_told_back.nd rfl (Or.inr rfl) (pe_cl C__law_near (hr.mono (by decide)) rfl (pa_cons (pv 4) (pa_cons (pv 6) (pa_cons (pv 2) pa_nil)))))
  (pss_one (ps_for PassesOwn.never rfl (K5S.pi_zipM (K5S.pe_zipM (by rfl) T.n_zip (pa_cons (pv 1) (pa_cons (pv 3) pa_nil))) rfl) (pg_tup rfl (pgs_cons (pg_name (i := 5) sc_l_told_back.nd rfl (Or.inl rfl)) (pgs_cons (pg_name (i := 9) sc_l_told_back.nd rfl (Or.inl rfl)) pgs_nil))) (pss_cons (ps_setLc (i := 10) (own := [("_law_row", 11)]) (g := (gName 11)) rfl sc_l_told_back.nd rfl rfl (sw_true rfl rfl rfl (by decide +kernel)) (pi_tup (pv 9)) (blkOk_by (N := nm_l_told_back) (sc := defScope st_l_told_back) (own := [("_law_row", 11)]) (by decide +kernel)) (fun _ _ _ _ _ => by exact pg_name (i := 11) sc_l_told_back.nd rfl (Or.inl rfl)) (fun _ _ _ _ _ => pts_one (pt_cmpR (op_eqD (by exact hr.units) : OpR _ (compareOp .Eq) (rEqD K)) (pe_slice (sl_tup : SlR _ (rSlT K)) (pv 11) po_none (po_some pe_int)) (pv 8) (nomark _))) (fun _ _ _ _ _ => (pe_ix (ix_tup : IxR _ (rIxT K)) (pv 11) pe_int (fun _ _ => rfl))))
  (pss_one (ps_if (PW.pt (pw_and (pt_cmpR op_in_sign (pv 7) (pv 5) rfl) (pw_and1 (pt_cmpR (op_neD hr.units) (pv 10) (pe_lst (pa_cons (pv 7) pa_nil)) (nomark _))))) (pss_one (ps_ret pe_bl)) pss_nil)))))))))
  (pss_one (ps_ret pe_bl)))), ?_⟩
    obtain ⟨a, TR, ws, R, wide, rfl, hA, hTR, h0, hl, hok, w1, w2, S6, hR, q⟩ := h
    rw [show L2.start nm_l_told_back [V.ref a, V.ref TR, V.int (wide : Nat)] = [some (V.ref a), some (V.ref TR), some (V.int (wide : Nat)), none, none, none, none, none, none, none, none, none] from rfl]
    have hw : ∀ l ∈ ws, wdOk l = true := fun l hl => (hok l hl).wd
    have ascS : (soundsOf ws).Pairwise fun c d => c < d := K5.canon_lt _
    have ptR := ptOk_of (sounds_nd ws) S6 R hR
    have lotR : ∀ l ∈ R, l ≠ [] ∧ azL l ∧ l.length ≤ 26 ∧ l.Pairwise (fun c d => c < d) ∧ ∀ p ∈ pr2 l, mB wide ws p.1 p.2 = false := fun l hlR => by
      obtain ⟨x0, x1, x2⟩ := lot_of (sounds_nd ws) hR hlR
      refine ⟨x0, fun c hc => ?_, by have := x1.length_le; omega, ascS.sublist x1, x2⟩
      obtain ⟨m, hm, hcm⟩ := List.mem_flatten.mp ((sounds_mem hw).mp (x1.subset hc))
      exact (hok m hm).1 c hcm
    refine ⟨_, rfl, TR, rfl, ⟨_, hTR⟩, fun D hD => ?_⟩
    refine lc_it walk_tup (fun j H' => Same H H' ∧ ∃ acc, H' D = some (.lst acc) ∧ acc.length = j ∧ ∀ (k : Nat) x l, acc[k]? = some x → R[k]? = some l → TabAt K H' (occA wide ws) x l) ⟨Sm.new hD, [], upd_same, rfl, fun k x l e => by cases e⟩ (fun j G hj z => sm_t z.1 hTR) ?_ ?_
    · rintro j y G1 G2 hj ⟨q1, acc, q2, q3, q4⟩ ⟨rfl, hy⟩
      obtain ⟨l, el, rfl⟩ := tws_at hy
      obtain ⟨x0, xa, xl, xc, xn⟩ := lotR l (List.mem_of_getElem? el)
      have jR := (List.getElem?_eq_some_iff.mp el).1
      refine ⟨rfl, ?_⟩
      refine ⟨_, rfl, _, rfl, _, rfl, ?_⟩
      show hRX K cs Z [.ref a, .str (Tx l), .int (wide : Nat)] _ _ _
      refine rx_ok (.inl (SqL.of (q1 _ _ hA))) h0 (by omega) hok x0 xa xl xc w1 w2 (.inr ⟨xn, fun H5 p xs rows s5 e5 d5 o5 => ?_⟩)
      have pl := ptR.len
      refine ⟨acc, s5 _ _ q2, small_lt (by omega), Sm.put (q1.trans s5) hD, acc ++ [.ref p], upd_same, by rw [List.length_append, q3]; rfl, fun k x m e1 e2 => ?_⟩
      have q2' := s5 _ _ q2
      rcases Nat.lt_or_ge k acc.length with z | z
      · rw [List.getElem?_append_left z] at e1
        exact ((q4 k x m e1 e2).sm s5).put q2'
      · rw [List.getElem?_append_right z] at e1
        have hk : k - acc.length = 0 := by
          have := (List.getElem?_eq_some_iff.mp e1).1
          have : k - acc.length < 1 := this
          omega
        rw [hk] at e1
        obtain rfl := Option.some.inj e1
        obtain rfl : k = j := by omega
        rw [el] at e2
        obtain rfl := Option.some.inj e2
        exact (TabAt.of e5 (d5 _ fun _ _ e => e) o5).put q2'
    · rintro G ⟨q1, acc, q2, q3, q4⟩
      dsimp only [gName, List.set_cons_succ, List.set_cons_zero]
      have eD := q2
      have eW := q1 _ _ hA
      have hTR := sm_t q1 hTR
      refine ⟨_, rfl, a, rfl, ⟨_, SqL.of eW⟩, ?_⟩
      refine for_it walk_list (fun i σ H' => (∃ v4 v5 v6 v7 v8 v9 v10 v11, σ = [some (V.ref a), some (V.ref TR), some (V.int (wide : Nat)), some (V.ref D), v4, v5, v6, v7, v8, v9, v10, v11]) ∧ Same G H') ⟨⟨_, _, _, _, _, _, _, _, rfl⟩, fun _ _ e => e⟩ (fun i σ G' hi z => SqL.of (z.2 _ _ eW)) ?_ ?_
      · rintro i y σ G1 G2 hi ⟨⟨v4, v5, v6, v7, v8, v9, v10, v11, rfl⟩, g1⟩ ⟨rfl, hy⟩
        obtain ⟨m, em, rfl⟩ := tws_at hy
        have mm := List.mem_of_getElem? em
        have okm := hok m mm
        dsimp only [gName, List.set_cons_succ, List.set_cons_zero]
        refine ⟨_, rfl, Tx m, rfl, ?_⟩
        refine for_it K5.walk_enS (fun p σ H' => (∃ v5 v6 v7 v8 v9 v10 v11, σ = [some (V.ref a), some (V.ref TR), some (V.int (wide : Nat)), some (V.ref D), some (V.str (Tx m)), v5, v6, v7, v8, v9, v10, v11]) ∧ Same G H') ⟨⟨_, _, _, _, _, _, _, rfl⟩, g1⟩ (fun _ _ _ _ _ => trivial) ?_ ?_
        · rintro p x σ G3 G4 hp ⟨⟨v5, v6, v7, v8, v9, v10, v11, rfl⟩, g3⟩ ⟨T1, c, rfl, hT1, rfl, hc⟩
          have hc : m[p]? = some c := tx_at hc
          have pl := (List.getElem?_eq_some_iff.mp hc).1
          have e2 : (⟨#[c]⟩ : Str) = Tx [c] := rfl
          rw [e2]
          have st := Sm.new (o := .tup [.int (p : Nat), .str (Tx [c])]) hT1
          refine ⟨T1, _, rfl, SqT.of upd_same, rfl, _, _, rfl, _, _, rfl, rfl, ?_⟩
          dsimp only [gName, List.set_cons_succ, List.set_cons_zero]
          have g3 := g3.trans st
          generalize upd G3 T1 (.tup [.int (p : Nat), .str (Tx [c])]) = G4 at g3 ⊢
          refine ⟨_, rfl, _, rfl, _, rfl, m, p, wide, rfl, by have := okm.2; omega, pl, w2, fun G5 tn s5 ntn etn => ?_⟩
          dsimp only [gName, List.set_cons_succ, List.set_cons_zero]
          have g5 := g3.trans s5
          have eg : ws.getD i [] = m := by rw [List.getD_eq_getElem?_getD, em]; rfl
          have eg2 : m.getD p 0 = c := by rw [List.getD_eq_getElem?_getD, hc]; rfl
          have isn : (firstAt (occA wide ws) c (nearL wide m p)).isSome = true := first_iff.mpr ⟨(c, nearL wide m p, (i, p)), occs_mem.mpr ⟨i, (List.getElem?_eq_some_iff.mp em).1, p, by rw [eg]; exact pl, by rw [eg, eg2]⟩, rfl, rfl⟩
          have shn := nb_sh (wide := wide) (p := p) okm
          generalize nearL wide m p = n at etn isn shn
          have hle : (tws R).length ≤ acc.length := by rw [q3]; exact Nat.le_refl _
          refine ⟨_, rfl, _, rfl, TR, D, tws R, acc, rfl, sm_t g5 hTR, SqL.of (g5 _ _ eD), fun N la lb hN => ?_⟩
          refine ⟨N, TR, D, G5, rfl, rfl, la, lb, fun c hc => ⟨(hN c hc).1, none_back (q1.trans g5) (hN c hc).1, (hN c hc).2⟩, ?_⟩
          refine for_it (K5S.walk_zM hle) (fun k σ H' => (∃ v5 v9 v10 v11, σ = [some (V.ref a), some (V.ref TR), some (V.int (wide : Nat)), some (V.ref D), some (V.str (Tx m)), v5, some (V.int (p : Nat)), some (V.str (Tx [c])), some (V.ref tn), v9, v10, v11]) ∧ Same G5 H') ⟨⟨_, _, _, _, rfl⟩, fun _ _ e => e⟩
            (fun k σ G' _ z => ⟨sm_t (g5.trans z.2) hTR, SqL.of ((g5.trans z.2) _ _ eD)⟩) ?_ ?_
          · rintro k x σ G6 G7 hk ⟨⟨v5, v9, v10, v11, rfl⟩, g6⟩ ⟨T2, x, y, rfl, hT2, rfl, hx, hy⟩
            obtain ⟨l, el, rfl⟩ := tws_at hx
            obtain ⟨x0, xa, xl, xc, xn⟩ := lotR l (List.mem_of_getElem? el)
            have tab := q4 k y l hy el
            obtain ⟨pt, xs, rows, rfl, hpt, lxs, at_, oR⟩ := tab
            have st := Sm.new (o := .tup [.str (Tx l), .ref pt]) hT2
            refine ⟨T2, _, rfl, SqT.of upd_same, rfl, _, _, rfl, _, _, rfl, rfl, ?_⟩
            dsimp only [gName, List.set_cons_succ, List.set_cons_zero]
            have g6 := g6.trans st
            generalize upd G6 T2 (.tup [.str (Tx l), .ref pt]) = G8 at g6 ⊢
            have g8 := g5.trans g6
            have r60 := rows_60 (by omega) hok oR.nd fun r hr => ((oR.mem r).mp hr).2
            refine ⟨_, rfl, pt, rfl, ⟨_, sm_t g8 hpt⟩, fun F hF => ?_⟩
            refine lc_it walk_tup (fun q H' => Same G8 H' ∧ H' F = some (.lst (((rows.take q).filter (fun r => decide (r.1 = n))).map fun r => V.str (Tx [r.2])))) ⟨Sm.new hF, upd_same⟩ (fun q G' hq z => sm_t (g8.trans z.1) hpt) ?_ ?_
            · rintro j y G9 G10 hj ⟨h1, h2⟩ ⟨rfl, hyq⟩
              have hj' : j < rows.length := by rw [← lxs]; exact hj
              have en := List.getElem?_eq_getElem hj'
              have rm := List.getElem_mem hj'
              obtain ⟨T3, rfl, hT3⟩ := at_ j y _ hyq en
              generalize rows[j] = r at en rm hT3
              have hT3 := sm_t (g8.trans h1) hT3
              refine ⟨rfl, ?_⟩
              refine ⟨_, rfl, _, rfl, T3, _, rfl, hT3, by show ¬ (0 = 0 ∧ 2 = 3); decide, fun u hu => ?_⟩
              have su := Sm.new (o := .tup (cutV (row3 r) none (some 2))) hu
              refine ⟨_, rfl, dNB r.1, dNB n, .tup (SqT.of (show upd G10 u (.tup (nearV r.1)) u = some (.tup (nearV r.1)) from upd_same)) (.cons (.str _) (.cons (.str _) .nil)), .tup (SqT.of (su _ _ (h1 _ _ (g6 _ _ etn)))) (.cons (.str _) (.cons (.str _) .nil)), nb_of hok ((oR.mem r).mp rm).2, shn, ?_⟩
              rw [eqv_nb]
              refine ⟨_, rfl, ?_⟩
              have h2' := su _ _ h2
              have et : (rows.take (j + 1)) = rows.take j ++ [r] := by rw [List.take_add_one, en]; rfl
              rw [et, List.filter_append]
              by_cases ern : r.1 = n
              · rw [decide_eq_true ern, show List.filter (fun r => decide (r.1 = n)) [r] = [r] from List.filter_cons_of_pos (by rw [ern]; exact decide_eq_true rfl), List.map_append]
                refine ⟨_, rfl, T3, _, 2, _, rfl, rfl, sm_t su hT3, rfl, ?_⟩
                refine ⟨_, h2', small_lt ?_, Sm.put (h1.trans su) hF, upd_same⟩
                rw [List.length_map]
                have a1 := List.length_filter_le (fun r : Row3 => decide (r.1 = n)) (rows.take j)
                rw [List.length_take] at a1
                omega
              · rw [decide_eq_false ern, show List.filter (fun r => decide (r.1 = n)) [r] = [] from List.filter_cons_of_neg (by rw [decide_eq_true_eq]; exact ern), List.append_nil]
                exact ⟨h1.trans su, h2'⟩
            · rintro G9 ⟨h1, h2⟩
              rw [lxs, List.take_length] at h2
              dsimp only [gName, List.set_cons_succ, List.set_cons_zero]
              refine ⟨_, rfl, _, rfl, c, Tx l, rfl, rfl, _, rfl, ?_⟩
              rw [tx_list]
              by_cases hcl : c ∈ l
              · rw [decide_eq_true hcl]
                rw [row_one oR xc xn hcl isn] at h2
                refine ⟨_, rfl, _, rfl, by show 1 ≤ sizeLine; decide, fun e he => ?_⟩
                have se := Sm.new (o := .lst [V.str (Tx [c])]) he
                have shc : SeqAt.shaped (.list [.str (Tx [c])]) = true := by
                  have hc2 := xa c hcl
                  have e1 : PyData.canLay0 (.str (Tx [c])) = true := str_low fun x hx => by rw [List.mem_singleton.mp hx]; have := hc2.2; omega
                  refine shaped_of ?_ (show 1 ≤ 64 by decide)
                  unfold PyData.canLay0 PyData.canLayAll0 PyData.canLayAll0
                  rw [e1]
                  rfl
                have eqc : PyData.eqv (.list [.str (Tx [c])]) (.list [.str (Tx [c])]) = true := by simp [PyData.eqv, PyData.eqvAll]
                refine ⟨.list [.str (Tx [c])], .list [.str (Tx [c])], .lst (SqL.of (se _ _ h2)) (.cons (.str _) .nil), .lst (SqL.of upd_same) (.cons (.str _) .nil), shc, shc, ?_⟩
                rw [eqc]
                refine ⟨_, rfl, ?_⟩
                refine iteF ?_
                exact ⟨⟨_, _, _, _, rfl⟩, (g6.trans h1).trans se⟩
              · rw [decide_eq_false hcl]
                exact ⟨⟨_, _, _, _, rfl⟩, g6.trans h1⟩
          · rintro σ G6 ⟨⟨v5, v9, v10, v11, rfl⟩, g6⟩
            exact ⟨⟨_, _, _, _, _, _, _, rfl⟩, g5.trans g6⟩
        · rintro σ G3 ⟨⟨v5, v6, v7, v8, v9, v10, v11, rfl⟩, g3⟩
          exact ⟨⟨_, _, _, _, _, _, _, _, rfl⟩, g3⟩
      · rintro σ G1 ⟨⟨v4, v5, v6, v7, v8, v9, v10, v11, rfl⟩, g1⟩
        exact q _ (q1.trans g1)
end
end W5.V
namespace W5.V
open PySem PySem.Spec PyProof.Rows L2 K0 K6
open K4 hiding Blt
section
variable {P : Program} {w : World} {K : PySem.W.Frag} {mg : Str → Option Value} {base : Heap}
variable {cs : Nat → Addr} {Z : Addr}
/-! ### what is told so far, any tables -/
/-- told so far, in the list at L -/
structure H5o (TL : List (Addr × Str)) (L : Addr) (H0 : Hp) (ts : List It) (H : Hp) : Prop where
  k : ∀ b o, b ≠ L → H0 b = some o → (∀ ps, o ≠ .tbl ps) → H b = some o
  t : LamX.Tabs TL H
  at_ : ∃ xs, H L = some (.lst xs) ∧ Its H xs ts
theorem H5o.tb {TL : List (Addr × Str)} {L : Addr} {H : Hp} {b : Addr} {o : HO} (ht : LamX.Tabs TL H) {zs : List V} (hL : H L = some (.lst zs)) : LamX.Tabs TL (upd H L o) := fun q hq => by
  obtain ⟨ps, h1, h2, h3⟩ := ht q hq
  refine ⟨ps, (upd_ne fun z => by rw [z, hL] at h1; cases h1).trans h1, h2, fun pos cv hc => ?_⟩
  obtain ⟨c, e1, e2⟩ := h3 pos cv hc
  exact ⟨c, e1, (upd_ne fun z => by rw [z, hL] at e2; cases e2).trans e2⟩
theorem H5o.kn {TL : List (Addr × Str)} {L p : Addr} {H0 H : Hp} {ts : List It} (hL : H0 L = none ∨ ∃ ps, H0 L = some (.tbl ps)) (h : H5o TL L H0 ts H) : KN p H0 H := fun b o _ e t => h.k b o (fun z => by
  rw [z] at e
  rcases hL with hL | ⟨ps, hL⟩
  · rw [hL] at e
    cases e
  · rw [hL] at e
    cases e
    exact t _ rfl) e t
theorem H5o.more {TL : List (Addr × Str)} {L : Addr} {H0 G H9 H10 : Hp} {ts : List It} {b : Addr} {x y : V} {xs : List V} (h : H5o TL L H0 ts G) (eX : G L = some (.lst xs)) (x9 : LamX.ExtN G H9) (t9 : LamX.Tabs TL H9) (s10 : Same H9 H10) (nb : H10 b = none) :
    upd H10 b (.tup [x, y]) L = some (.lst xs) ∧ xs.length = ts.length ∧ H5o TL L H0 (ts ++ [some (x, y)]) (upd (upd H10 b (.tup [x, y])) L (.lst (xs ++ [.ref b]))) := by
  have sb := Sm.new (o := .tup [x, y]) nb
  have eL : upd H10 b (.tup [x, y]) L = some (.lst xs) := sb _ _ (s10 _ _ (x9 _ _ eX fun _ z => nomatch z))
  obtain ⟨zs, ez, hz⟩ := h.at_
  rw [eX] at ez
  have ez := HO.lst.inj (Option.some.inj ez)
  subst ez
  refine ⟨eL, hz.1, fun c o n e t => (upd_ne n).trans (sb _ _ (s10 _ _ (x9 _ _ (h.k c o n e t) t))), H5o.tb (b := b) ((t9.ext s10).ext sb) eL, xs ++ [.ref b], upd_same, ?_⟩
  have put : ∀ (b' : Addr) us, upd H10 b (.tup [x, y]) b' = some (.tup us) → upd (upd H10 b (.tup [x, y])) L (.lst (xs ++ [.ref b])) b' = some (.tup us) := fun b' us e => (upd_ne fun z => by rw [z, eL] at e; cases e).trans e
  refine its_snoc (its_mono (fun b' us e => put _ _ (sb _ _ (s10 _ _ (x9 _ _ e fun _ z => nomatch z)))) hz) ⟨b, rfl, put _ _ upd_same⟩
theorem H5o.moreN {TL : List (Addr × Str)} {L : Addr} {H0 G H9 H10 : Hp} {ts : List It} {xs : List V} (h : H5o TL L H0 ts G) (eX : G L = some (.lst xs)) (x9 : LamX.ExtN G H9) (t9 : LamX.Tabs TL H9) (s10 : Same H9 H10) :
    H10 L = some (.lst xs) ∧ xs.length = ts.length ∧ H5o TL L H0 (ts ++ [none]) (upd H10 L (.lst (xs ++ [.non]))) := by
  have eL : H10 L = some (.lst xs) := s10 _ _ (x9 _ _ eX fun _ z => nomatch z)
  obtain ⟨zs, ez, hz⟩ := h.at_
  rw [eX] at ez
  have ez := HO.lst.inj (Option.some.inj ez)
  subst ez
  refine ⟨eL, hz.1, fun c o n e t => (upd_ne n).trans (s10 _ _ (x9 _ _ (h.k c o n e t) t)), H5o.tb (b := L) (t9.ext s10) eL, xs ++ [.non], upd_same, ?_⟩
  have put : ∀ (b' : Addr) us, H10 b' = some (.tup us) → upd H10 L (.lst (xs ++ [.non])) b' = some (.tup us) := fun b' us e => (upd_ne fun z => by rw [z, eL] at e; cases e).trans e
  exact its_snoc (its_mono (fun b' us e => put _ _ (s10 _ _ (x9 _ _ e fun _ z => nomatch z))) hz) rfl
theorem H5o.start {TL : List (Addr × Str)} {L b : Addr} {H8 H9 H10 : Hp} {x y : V} (x9 : LamX.ExtN H8 H9) (t9 : LamX.Tabs TL H9) (s10 : Same H9 H10) (nb : H10 b = none) (hL : upd H10 b (.tup [x, y]) L = none) :
    (H8 L = none ∨ ∃ ps, H8 L = some (.tbl ps)) ∧ H5o TL L H8 [some (x, y)] (upd (upd H10 b (.tup [x, y])) L (.lst [.ref b])) := by
  have sb := Sm.new (o := .tup [x, y]) nb
  have sL := Sm.new (o := .lst [.ref b]) hL
  refine ⟨?_, fun c o n e t => sL _ _ (sb _ _ (s10 _ _ (x9 _ _ e t))), ((t9.ext s10).ext sb).ext sL, [.ref b], upd_same, its_snoc (ts := []) its_nil ⟨b, rfl, sL _ _ upd_same⟩⟩
  cases z : H8 L with
  | none => exact .inl rfl
  | some o =>
    cases o with
    | tbl ps => exact .inr ⟨ps, rfl⟩
    | _ =>
      have := sb _ _ (s10 _ _ (x9 _ _ z fun _ z => nomatch z))
      rw [hL] at this
      cases this
/-- all but lists and tables stay -/
def KL (H H' : Hp) : Prop := ∀ b o, H b = some o → (∀ xs, o ≠ .lst xs) → (∀ ps, o ≠ .tbl ps) → H' b = some o
theorem KL.sm {H H' : Hp} (s : Same H H') : KL H H' := fun b o e _ _ => s b o e
theorem KL.ext {H H' : Hp} (s : LamX.ExtN H H') : KL H H' := fun b o e _ t => s b o e t
theorem KL.trans {H H1 H2 : Hp} (a : KL H H1) (b : KL H1 H2) : KL H H2 := fun c o e l t => b c o (a c o e l t) l t
theorem KL.put {H : Hp} {L : Addr} {us vs : List V} (hL : H L = some (.lst us)) : KL H (upd H L (.lst vs)) := fun b o e l _ => (upd_ne fun z => by
  rw [z, hL] at e
  exact l _ (Option.some.inj e).symm).trans e
theorem ft_kl {H H' : Hp} (s : KL H H') : ∀ {n : Nat} {v : V} {d : PyData}, FTN H n v d → FTN H' n v d
  | 0, _, _, h => h
  | n + 1, _, _, .inl h => .inl h
  | n + 1, _, _, .inr ⟨a, xs, ds, e1, e2, hS, hl, h⟩ => .inr ⟨a, xs, ds, e1, e2, (let ⟨o, e, r⟩ := hS; ⟨o, s _ _ e (fun _ z => nomatch z) (fun _ z => nomatch z), r⟩), hl, fun i x e h1 h2 => ft_kl s (h i x e h1 h2)⟩
theorem zmb_kl {H H' : Hp} {x : Addr} {d1 d2 : PyData} (s : KL H H') (h : ZmB Z H x d1 d2) : ZmB Z H' x d1 d2 := by
  obtain ⟨dx, u1, u2, p, e, f1, f2, f3⟩ := h
  exact ⟨dx, u1, u2, p, s _ _ e (fun _ z => nomatch z) (fun _ z => nomatch z), ft_kl s f1, ft_kl s f2, ft_kl s f3⟩
end
end W5.V
namespace W5.V
open PySem PySem.Spec PyProof.Rows L2 K0 K6
open K4 hiding Blt
namespace R
section
variable {P : Program} {w : World} {K : PySem.W.Frag} {mg : Str → Option Value} {base : Heap}
variable {cs : Nat → Addr} {Z : Addr}
/-! ### what is refused, and what is not -/
theorem tt5_err {tl : XK → Hp → VK → Prop} {H : Hp} {Q : VK} (no : Nat) (fs : List (Str × V)) (x y : V) (an : An5 no fs x y) (call : ∀ Q', tl (Oo cs no fs H) H Q') (k : ∀ H' t, Same H H' → H' t = none → Q (.ref t) (upd H' t (.tup [x, y]))) : TT5 cs tl H Q := by
  refine .inl ⟨Oo cs no fs H, ?_, call⟩
  rintro cls d H' ⟨rfl, dd, rfl, s, hd⟩
  exact ⟨no, fs, x, y, dd, an, rfl, rfl, hd, fun t ht => k H' t s ht⟩
def OdW5 (p : Addr) (H : Hp) (v : V) : Prop := v = .non ∨ v = .int 5 ∨ v = .str "ka" ∨ ∃ e, v = .ref e ∧ e ≠ p ∧ (H e = some (.lst []) ∨ H e = some (.tup []) ∨ H e = some (.lst [.str "ka", .str "K"]) ∨ H e = some (.lst [.non]) ∨ H e = some (.dT []))
theorem OdW5.kn {p : Addr} {H H' : Hp} {v : V} (k : KN p H H') (h : OdW5 p H v) : OdW5 p H' v := by
  rcases h with h | h | h | ⟨e, h, n, z⟩
  · exact .inl h
  · exact .inr (.inl h)
  · exact .inr (.inr (.inl h))
  · refine .inr (.inr (.inr ⟨e, h, n, ?_⟩))
    rcases z with z | z | z | z | z
    · exact .inl (k _ _ n z (fun _ z => nomatch z))
    · exact .inr (.inl (k _ _ n z (fun _ z => nomatch z)))
    · exact .inr (.inr (.inl (k _ _ n z (fun _ z => nomatch z))))
    · exact .inr (.inr (.inr (.inl (k _ _ n z (fun _ z => nomatch z)))))
    · exact .inr (.inr (.inr (.inr (k _ _ n z (fun _ z => nomatch z)))))
theorem owns_bad5 {p : Addr} {H : Hp} {Q : VK} {E : XW} {v : V} (h : OdW5 p H v) (x : XPart cs 0 "words" H E) : spNeedOwn K cs [v] H Q E := by
  have ka : ("ka" : Str) = Tx [107, 97] := by decide +kernel
  have km : ("K" : Str) = Tx [75] := by decide +kernel
  rcases h with rfl | rfl | rfl | ⟨e, rfl, n, z⟩
  · exact ⟨_, "NoneType", rfl, ⟨.base .non, by decide⟩, .inl ⟨rfl, x⟩⟩
  · exact ⟨_, "int", rfl, kd_int, .inl ⟨rfl, x⟩⟩
  · exact ⟨_, "str", rfl, kd_str, .inl ⟨rfl, x⟩⟩
  · rcases z with z | z | z | z | z
    · exact own_l (.inl (SqL.of z)) (by decide) wvs_nil (fun c => absurd rfl c.1) (fun _ => x)
    · exact own_l (.inr (SqT.of z)) (by decide) wvs_nil (fun c => absurd rfl c.1) (fun _ => x)
    · rw [ka, km] at z
      exact own_l (bs := [wdOk [107, 97], wdOk [75]]) (.inl (SqL.of z)) (by show 2 ≤ 1000; decide) (wvs_cons (wv_tx (by decide)) (wvs_cons (wv_tx (by decide)) wvs_nil)) (fun c => absurd c.2 (by decide)) (fun _ => x)
    · exact own_l (bs := [false]) (.inl (SqL.of z)) (by show 1 ≤ 1000; decide) (wvs_cons wv_non wvs_nil) (fun c => absurd c.2 (by decide)) (fun _ => x)
    · exact ⟨_, "dict", rfl, ⟨.base (.dT z), by decide⟩, .inl ⟨rfl, x⟩⟩
/-- no lot -/
def OdL (p : Addr) (H : Hp) (v : V) : Prop := v = .non ∨ v = .int 5 ∨ v = .bl true ∨ (∃ l, v = .str (Tx l) ∧ lotB l = false ∧ l.length ≤ 1000) ∨ ∃ e, v = .ref e ∧ e ≠ p ∧ (H e = some (.lst [.str "a"]) ∨ H e = some (.tup [.str "a", .str "b"]))
theorem OdL.kn {p : Addr} {H H' : Hp} {v : V} (k : KN p H H') (h : OdL p H v) : OdL p H' v := by
  rcases h with h | h | h | h | ⟨e, h, n, z | z⟩
  · exact .inl h
  · exact .inr (.inl h)
  · exact .inr (.inr (.inl h))
  · exact .inr (.inr (.inr (.inl h)))
  · exact .inr (.inr (.inr (.inr ⟨e, h, n, .inl (k _ _ n z (fun _ z => nomatch z))⟩)))
  · exact .inr (.inr (.inr (.inr ⟨e, h, n, .inr (k _ _ n z (fun _ z => nomatch z))⟩)))
theorem lot_bad {p : Addr} {H : Hp} {E : XW} {v : V} {G : List Nat → Prop} (h : OdL p H v) (x : XPart cs 4 "lot" H E) : Sov K H v (fun l => l.length ≤ 1000 ∧ (lotB l = false → XPart cs 4 "lot" H E) ∧ (lotB l = true → G l)) (XPart cs 4 "lot" H E) := by
  rcases h with rfl | rfl | rfl | ⟨l, rfl, h1, h2⟩ | ⟨e, rfl, n, z | z⟩
  · exact .inr ⟨"NoneType", ⟨.base .non, by decide⟩, rfl, x⟩
  · exact .inr ⟨"int", kd_int, rfl, x⟩
  · exact .inr ⟨"bool", ⟨.base (.bl true), by decide⟩, rfl, x⟩
  · exact .inl ⟨l, rfl, by omega, h2, fun _ => x, fun z => (by rw [h1] at z; cases z)⟩
  · exact .inr ⟨"list", ⟨.base (.lst z), by decide⟩, rfl, x⟩
  · exact .inr ⟨"tuple", ⟨.base (.tup z), by decide⟩, rfl, x⟩
def w5m : List (List Nat) := [107, 97] :: [99, 97] :: List.replicate 11 [107, 97]
theorem w5m_ok : ∀ l ∈ w5m, wdOk l = true := by decide
def w12m : List (List Nat) := [99, 97] :: List.replicate 11 [107, 97]
theorem w12m_ok : ∀ l ∈ w12m, sOk l := by
  intro l hl
  rcases List.mem_cons.mp hl with rfl | hl
  · exact ⟨by decide, by decide⟩
  · rw [(List.mem_replicate.mp hl).2]
    exact ⟨by decide, by decide⟩
theorem occ_ca : ((99, ([35], [97]), (0, 0)) : Occ) ∈ occA 1 w12m := by decide +kernel
theorem occ_ka : ((107, ([35], [97]), (1, 0)) : Occ) ∈ occA 1 w12m := by decide +kernel
theorem occ_cs : ∀ x ∈ occA 1 w12m, x.1 = 99 → x.2.2 = (0, 0) := by decide +kernel
theorem occ_ks : ∀ x ∈ occA 1 w12m, x.1 = 107 → 1 ≤ x.2.2.1 := by decide +kernel
theorem least_ck : leastF (occA 1 w12m) 99 107 = some ((0, 0), (1, 0)) := leastF_of ⟨⟨_, occ_ca, _, occ_ka, rfl, rfl, rfl, rfl⟩, fun x hx y hy e1 e2 _ => by
  rw [occ_cs x hx e1]
  have h := occ_ks y hy e2
  generalize y.2.2 = q at h
  intro z
  unfold ltP2 ltPl at z
  simp at z
  omega⟩
theorem occ_no : occA 1 [[], []] = [] := by decide +kernel
theorem pr2_ck : pr2 [99, 107] = [(99, 107)] := by decide
theorem oo_up {no : Nat} {fs : List (Str × V)} {H H1 : Hp} (s : Same H H1) : Rq cs no fs H1 (Oo cs no fs H) := fun _ _ _ ⟨e, dd, ed, s2, q⟩ => ⟨e, dd, ed, s.trans s2, q⟩
theorem pair_eq {H : Hp} {T d : Addr} {a b : V} (h1 : H T = some (.tup [a, b])) (h2 : H d = some (.tup [a, b])) (fa : flatV a = true ∧ eqV a a = true) (fb : flatV b = true ∧ eqV b b = true) : heardD K Z (.ref T) (.ref d) H :=
  .inr ⟨T, d, _, _, rfl, rfl, SqT.of h1, SqT.of h2, .cons (.inl ⟨fa.1, fa.1, fa.2⟩) (.cons (.inl ⟨fb.1, fb.1, fb.2⟩) .nil)⟩
theorem fl_str (x : Str) : flatV (.str x) = true ∧ eqV (.str x) (.str x) = true := ⟨rfl, by unfold eqV; simp⟩
theorem fl_int (x : Int) : flatV (.int x) = true ∧ eqV (.int x) (.int x) = true := ⟨rfl, by unfold eqV; simp⟩
def spRef5 (T1 T2 : Addr) : Sp := fun vs H Q _ => ∃ (p : Addr) (T : Nat), vs = [.ref p] ∧ PenAt H p T ∧ T + 10 < 1000000 ∧ LamX.Tabs (TL2 T1 T2) H ∧ ∀ H', Q (.bl true) H'
abbrev st_l_refused_right : Stmt := top 53
abbrev nm_l_refused_right : List Str := ["_law_pen_here", "_law_bad", "_law_many", "_law_heard_here", "_law_due", "_law_odd", "_law_far"]
theorem sc_l_refused_right : FnScope nm_l_refused_right ["_law_pen_here"] (defScope st_l_refused_right) := ⟨rfl, rfl, rfl, by decide +kernel, rfl, by decide +kernel, by decide +kernel⟩
theorem ok_refused {T1 T2 c f gh : Addr} {fd fdh : FuncData} (F : Fun K "_law_refused_right" "_law_refused_right" st_l_refused_right f fd) (hn : PySem.W.nsIn K mainGlobals "_law_refused_right" = some (some (.ref f))) (ht : PySem.W.tabIn K "_law_refused_right" = some (c, T1)) (n12 : T1 ≠ T2) (T : BltS mg)
    (TE : H5 K mg cs) (F_heard : Fun K "_law_heard" "_law_heard" st_l_heard gh fdh) (m_heard : mg "_law_heard" = some (.ref gh)) (TB : LamX.TabB base mg c T1) (C__law_pick : CPick P w K mg base) (C_rule_table : CRt P w K mg base (spRuleX K cs Z))
    (C_Against : CAg P w K mg base Z) (CE : CEq P w K mg base Z) : FnG P w K mg base CX0 13 f fd ["_law_pen_here"] (spRef5 T1 T2) := by
  have C_rule_table := crt_to C_rule_table hRX_eq
  refine okGC F hn ht sc_l_refused_right (fun vs H Q E h => ?_) (fun A outer s H vs Q E hg hr h => ?_)
  · obtain ⟨p, T, rfl, _⟩ := h
    rfl
  · have hmT : (T1, Str.ofString "_law_refused_right.<locals>.<lambda>") ∈ TL2 T1 T2 := List.mem_cons_self
    have hu : ∀ p ∈ TL2 T1 T2, p.1 = T1 → p.2 = Str.ofString "_law_refused_right.<locals>.<lambda>" := fun p hp e => by
      rcases List.mem_cons.mp hp with rfl | hp
      · rfl
      · rw [List.mem_singleton.mp hp] at e
        exact absurd e.symm n12
    refine ⟨_, (pss_cons (ps_asg (pe_tup (pa_cons (pe_cl C__law_pick (hr.mono (by decide)) rfl (pa_cons (pv 0) (pa_cons (pe_lst (pa_cons pe_non (pa_cons pe_int (pa_cons pe_str (pa_cons (pe_lst pa_nil) (pa_cons (pe_tup pa_nil) (pa_cons (pe_lst (pa_cons pe_str (pa_cons pe_str pa_nil))) (pa_cons (pe_lst (pa_cons pe_non pa_nil)) (pa_cons pe_dnewT pa_nil))))))))) pa_nil))) (pa_cons (pe_cl C__law_pick (hr.mono (by decide)) rfl (pa_cons (pv 0) (pa_cons (pe_lst (pa_cons pe_int (pa_cons pe_int (pa_cons pe_non (pa_cons pe_bl (pa_cons pe_str (pa_cons (pe_lst (pa_cons pe_int pa_nil)) pa_nil))))))) pa_nil))) pa_nil))) (pg_tup rfl (pgs_cons (pg_name (i := 5) sc_l_refused_right.nd rfl (Or.inr rfl)) (pgs_cons (pg_name (i := 6) sc_l_refused_right.nd rfl (Or.inr rfl)) pgs_nil))))
  (pss_cons (ps_set (i := 1) sc_l_refused_right.nd rfl (Or.inr rfl) (pe_cl C__law_pick (hr.mono (by decide)) rfl (pa_cons (pv 0) (pa_cons (pe_lst (pa_cons pe_non (pa_cons pe_str (pa_cons pe_str (pa_cons pe_str (pa_cons pe_str (pa_cons pe_str (pa_cons pe_int (pa_cons (pe_lst (pa_cons pe_str pa_nil)) (pa_cons pe_str (pa_cons (pe_tup (pa_cons pe_str (pa_cons pe_str pa_nil))) (pa_cons pe_bl pa_nil)))))))))))) pa_nil))))
  (pss_cons (ps_set (i := 2) sc_l_refused_right.nd rfl (Or.inr rfl) (pe_op op_cat (pe_lst (pa_cons pe_str (pa_cons pe_str pa_nil))) (pe_op op_rep (pe_lst (pa_cons pe_str pa_nil)) pe_int)))
  (pss_cons (ps_set (i := 3) sc_l_refused_right.nd rfl (Or.inl rfl) (pe_lst (pa_cons (pe_heard5 (k := 10) F_heard TE (by rfl) m_heard TB rfl hmT hu (hr.mono (by decide)) (LamX.lamS_by (by rfl)) rfl (fun _ _ _ _ _ => rfl) (fun A outer s H E f c' hr => (pe_rt3 C_rule_table (passes_call (takes_of rfl rfl rfl rfl) fun _ _ _ _ z => z) (hr.mono (by decide)) rfl (pa_cons (pv 5) (pa_cons (pv 1) (pa_cons (pv 6) pa_nil)))))) pa_nil)))
  (pss_cons (ps_expr (pe_bm PySem.F.plainAttrs_list PySem.F.slot_list_append PySem.F.type_list_append mt_append (pv 3) (pa_cons (pe_heard5 (k := 10) F_heard TE (by rfl) m_heard TB rfl hmT hu (hr.mono (by decide)) (LamX.lamS_by (by rfl)) rfl (fun _ _ _ _ _ => rfl) (fun A outer s H E f c' hr => (pe_rt3 C_rule_table (passes_call (takes_of rfl rfl rfl rfl) fun _ _ _ _ z => z) (hr.mono (by decide)) rfl (pa_cons (pv 2) (pa_cons (pv 1) (pa_cons (pv 6) pa_nil)))))) pa_nil)))
  (pss_cons (ps_expr (pe_bm PySem.F.plainAttrs_list PySem.F.slot_list_append PySem.F.type_list_append mt_append (pv 3) (pa_cons (pe_heard5 (k := 10) F_heard TE (by rfl) m_heard TB rfl hmT hu (hr.mono (by decide)) (LamX.lamS_by (by rfl)) rfl (fun _ _ _ _ _ => rfl) (fun A outer s H E f c' hr => (pe_rt3 C_rule_table (passes_call (takes_of rfl rfl rfl rfl) fun _ _ _ _ z => z) (hr.mono (by decide)) rfl (pa_cons (pv 2) (pa_cons pe_str (pa_cons (pv 6) pa_nil)))))) pa_nil)))
  (pss_cons (ps_expr (pe_bm PySem.F.plainAttrs_list PySem.F.slot_list_append PySem.F.type_list_append mt_append (pv 3) (pa_cons (pe_heard5 (k := 10) F_heard TE (by rfl) m_heard TB rfl hmT hu (hr.mono (by decide)) (LamX.lamS_by (by rfl)) rfl (fun _ _ _ _ _ => rfl) (fun A outer s H E f c' hr => (pe_rt3 C_rule_table (passes_call (takes_of rfl rfl rfl rfl) fun _ _ _ _ z => z) (hr.mono (by decide)) rfl (pa_cons (pv 2) (pa_cons pe_str (pa_cons pe_int pa_nil)))))) pa_nil)))
  (pss_cons (ps_expr (pe_bm PySem.F.plainAttrs_list PySem.F.slot_list_append PySem.F.type_list_append mt_append (pv 3) (pa_cons (pe_heard5 (k := 10) F_heard TE (by rfl) m_heard TB rfl hmT hu (hr.mono (by decide)) (LamX.lamS_by (by rfl)) rfl (fun _ _ _ _ _ => rfl) (fun A outer s H E f c' hr => (pe_rt2 C_rule_table (passes_call (takes_of rfl rfl rfl rfl) fun _ _ _ _ z => z) (hr.mono (by decide)) rfl (pa_cons (pe_slice (sl_list : SlR _ (rSlL K)) (pv 2) (po_some pe_int) po_none) (pa_cons pe_str pa_nil))))) pa_nil)))
  (pss_cons (ps_expr (pe_bm PySem.F.plainAttrs_list PySem.F.slot_list_append PySem.F.type_list_append mt_append (pv 3) (pa_cons (pe_heard5 (k := 10) F_heard TE (by rfl) m_heard TB rfl hmT hu (hr.mono (by decide)) (LamX.lamS_by (by rfl)) rfl (fun _ _ _ _ _ => rfl) (fun A outer s H E f c' hr => (pe_rt2 C_rule_table (passes_call (takes_of rfl rfl rfl rfl) fun _ _ _ _ z => z) (hr.mono (by decide)) rfl (pa_cons (show PE _ _ (tLst (tCons (tC (.str "")) (tCons (tC (.str "")) tNil))) from pe_lst (pa_cons pe_str (pa_cons pe_str pa_nil))) (pa_cons pe_str pa_nil))))) pa_nil)))
  (pss_cons (ps_set (i := 4) sc_l_refused_right.nd rfl (Or.inl rfl) (pe_lst (pa_cons (pe_tup (pa_cons pe_str (pa_cons pe_str pa_nil))) (pa_cons (pe_tup (pa_cons pe_str (pa_cons pe_str pa_nil))) (pa_cons (pe_tup (pa_cons pe_str (pa_cons pe_str pa_nil))) (pa_cons (pe_tup (pa_cons pe_str (pa_cons pe_int pa_nil))) (pa_cons (pe_tup (pa_cons pe_str (pa_cons (pe_mkX C_Against px0 (hr.mono (by decide)) rfl (pa_cons (pe_tup (pa_cons pe_int (pa_cons pe_int pa_nil))) (pa_cons (pe_tup (pa_cons pe_int (pa_cons pe_int pa_nil))) pa_nil))) pa_nil))) pa_nil)))))))
  (pss_one (ps_ret (pe_cmpR (eq_heard5 CE (hr.mono (by decide))) (pv 3) (pe_op op_cat (pv 4) (pe_lst (pa_cons pe_non pa_nil))) (nomark _)))))))))))))), ?_⟩
    obtain ⟨p, T, rfl, hp, hT, hTab, q⟩ := h
    rw [show L2.start nm_l_refused_right [V.ref p] = [some (V.ref p), none, none, none, none, none, none] from rfl]
    -- odd words
    refine ⟨_, rfl, Nat.zero_le _, fun e1 h1 => ?_⟩
    have s1 := Sm.new (o := .lst []) h1
    refine ⟨Nat.zero_le _, fun e2 h2 => ?_⟩
    have s2 := Sm.new (o := .tup []) h2
    refine ⟨by show 2 ≤ sizeLine; decide, fun e3 h3 => ?_⟩
    have s3 := Sm.new (o := .lst [V.str "ka", .str "K"]) h3
    refine ⟨by show 1 ≤ sizeLine; decide, fun e4 h4 e5 h5 => ?_⟩
    have s4 := Sm.new (o := .lst [V.non]) h4
    have s5 := Sm.new (o := .dT []) h5
    have n1 := hp.ne h1
    have n2 := (hp.sm s1).ne h2
    have n3 := (hp.sm (s1.trans s2)).ne h3
    have n4 := (hp.sm ((s1.trans s2).trans s3)).ne h4
    have n5 := (hp.sm (((s1.trans s2).trans s3).trans s4)).ne h5
    have a5 := (upd_same : upd (upd (upd (upd (upd H e1 (.lst [])) e2 (.tup [])) e3 (.lst [V.str "ka", .str "K"])) e4 (.lst [V.non])) e5 (.dT []) e5 = some (.dT []))
    have a4 := s5 _ _ (upd_same : upd (upd (upd (upd H e1 (.lst [])) e2 (.tup [])) e3 (.lst [V.str "ka", .str "K"])) e4 (.lst [V.non]) e4 = some (.lst [V.non]))
    have a3 := s5 _ _ (s4 _ _ (upd_same : upd (upd (upd H e1 (.lst [])) e2 (.tup [])) e3 (.lst [V.str "ka", .str "K"]) e3 = some (.lst [V.str "ka", .str "K"])))
    have a2 := s5 _ _ (s4 _ _ (s3 _ _ (upd_same : upd (upd H e1 (.lst [])) e2 (.tup []) e2 = some (.tup []))))
    have a1 := s5 _ _ (s4 _ _ (s3 _ _ (s2 _ _ (upd_same : upd H e1 (.lst []) e1 = some (.lst [])))))
    have sA := (((s1.trans s2).trans s3).trans s4).trans s5
    generalize upd (upd (upd (upd (upd H e1 (.lst [])) e2 (.tup [])) e3 (.lst [V.str "ka", .str "K"])) e4 (.lst [V.non])) e5 (.dT []) = H1 at a1 a2 a3 a4 a5 sA ⊢
    clear s1 s2 s3 s4 s5 h1 h2 h3 h4 h5
    refine ⟨by show 8 ≤ sizeLine; decide, fun B hB => ?_⟩
    have sB := Sm.new (o := .lst [V.non, .int 5, .str "ka", .ref e1, .ref e2, .ref e3, .ref e4, .ref e5]) hB
    have p1 := hp.sm sA
    refine ⟨p, _, T, rfl, p1.sm sB, by omega, .inl ⟨B, _, rfl, SqL.of upd_same, p1.ne hB, by show 1 ≤ 8; decide, by show 8 ≤ 1000; decide, fun H2 odd k2 p2 hodd => ?_⟩⟩
    have od1 : OdW5 p H1 odd := by
      simp only [List.mem_cons, List.not_mem_nil, or_false] at hodd
      rcases hodd with rfl | rfl | rfl | rfl | rfl | rfl | rfl | rfl
      · exact .inl rfl
      · exact .inr (.inl rfl)
      · exact .inr (.inr (.inl rfl))
      · exact .inr (.inr (.inr ⟨e1, rfl, n1, .inl a1⟩))
      · exact .inr (.inr (.inr ⟨e2, rfl, n2, .inr (.inl a2)⟩))
      · exact .inr (.inr (.inr ⟨e3, rfl, n3, .inr (.inr (.inl a3))⟩))
      · exact .inr (.inr (.inr ⟨e4, rfl, n4, .inr (.inr (.inr (.inl a4)))⟩))
      · exact .inr (.inr (.inr ⟨e5, rfl, n5, .inr (.inr (.inr (.inr a5)))⟩))
    have kA : KB p H H2 := (KB.sm (sA.trans sB)).trans k2
    have od2 : OdW5 p H2 odd := od1.kn ((KN.sm sB).trans (KN.kb k2))
    have tab2 := tabs_kb hp kA hTab
    clear hodd od1 a1 a2 a3 a4 a5 n1 n2 n3 n4 n5 sB hB p1 sA k2 hTab
    -- no width
    refine ⟨_, rfl, by show 1 ≤ sizeLine; decide, fun e1 h1 => ?_⟩
    have s1 := Sm.new (o := .lst [V.int 1]) h1
    have a1 : upd H2 e1 (.lst [V.int 1]) e1 = some (.lst [V.int 1]) := upd_same
    have n1 := p2.ne h1
    generalize upd H2 e1 (.lst [V.int 1]) = H3 at s1 a1 ⊢
    refine ⟨by show 6 ≤ sizeLine; decide, fun B hB => ?_⟩
    have sB := Sm.new (o := .lst [V.int 0, .int 3, .non, .bl true, .str "1", .ref e1]) hB
    have p3 := p2.sm s1
    refine ⟨p, _, _, rfl, p3.sm sB, by omega, .inl ⟨B, _, rfl, SqL.of upd_same, p3.ne hB, by show 1 ≤ 6; decide, by show 6 ≤ 1000; decide, fun H4 far k4 p4 hfar => ?_⟩⟩
    have of3 : OdF p H3 far := by
      simp only [List.mem_cons, List.not_mem_nil, or_false] at hfar
      rcases hfar with rfl | rfl | rfl | rfl | rfl | rfl
      · exact .inl rfl
      · exact .inr (.inl rfl)
      · exact .inr (.inr (.inl rfl))
      · exact .inr (.inr (.inr (.inl rfl)))
      · exact .inr (.inr (.inr (.inr (.inl rfl))))
      · exact .inr (.inr (.inr (.inr (.inr ⟨e1, rfl, n1, a1⟩))))
    have k24 : KB p H2 H4 := (KB.sm (s1.trans sB)).trans k4
    have of4 : OdF p H4 far := of3.kn ((KN.sm sB).trans (KN.kb k4))
    have od4 := od2.kn (KN.kb k24)
    have tab4 := tabs_kb p2 k24 tab2
    clear hfar of3 a1 n1 sB hB p3 s1 h1 k4 k24 od2 tab2 p2
    refine ⟨by show 2 ≤ sizeLine; decide, fun t ht => ?_⟩
    refine ⟨t, _, rfl, SqT.of upd_same, rfl, ⟨_, _, rfl, ⟨_, _, rfl, rfl, ?_⟩⟩⟩
    have st := Sm.new (o := .tup [odd, far]) ht
    dsimp only [gName, List.set_cons_succ, List.set_cons_zero]
    have p5 := p4.sm st
    have od5 := od4.kn (KN.sm st)
    have of5 := of4.kn (KN.sm st)
    have tab5 := tab4.ext st
    generalize upd H4 t (.tup [odd, far]) = H5' at p5 od5 of5 tab5 ⊢
    clear st ht p4 od4 of4 tab4 kA
    -- no lot
    refine ⟨_, rfl, by show 1 ≤ sizeLine; decide, fun e1 h1 => ?_⟩
    have s1 := Sm.new (o := .lst [V.str "a"]) h1
    refine ⟨by show 2 ≤ sizeLine; decide, fun e2 h2 => ?_⟩
    have s2 := Sm.new (o := .tup [V.str "a", .str "b"]) h2
    have a2 : upd (upd H5' e1 (.lst [V.str "a"])) e2 (.tup [V.str "a", .str "b"]) e2 = some (.tup [V.str "a", .str "b"]) := upd_same
    have a1 := s2 _ _ (upd_same : upd H5' e1 (.lst [V.str "a"]) e1 = some (.lst [V.str "a"]))
    have n1 := p5.ne h1
    have n2 := (p5.sm s1).ne h2
    have sA := s1.trans s2
    generalize upd (upd H5' e1 (.lst [V.str "a"])) e2 (.tup [V.str "a", .str "b"]) = H6 at a1 a2 sA ⊢
    clear s1 s2 h1 h2
    refine ⟨by show 11 ≤ sizeLine; decide, fun B hB => ?_⟩
    have sB := Sm.new (o := .lst [V.non, .str "", .str "ba", .str "aa", .str "a-", .str "#a", .int 5, .ref e1, .str "A", .ref e2, .bl true]) hB
    have p6 := p5.sm sA
    refine ⟨p, _, _, rfl, p6.sm sB, by omega, .inl ⟨B, _, rfl, SqL.of upd_same, p6.ne hB, by show 1 ≤ 11; decide, by show 11 ≤ 1000; decide, fun H7 bad k7 p7 hbad => ?_⟩⟩
    have ob6 : OdL p H6 bad := by
      simp only [List.mem_cons, List.not_mem_nil, or_false] at hbad
      rcases hbad with rfl | rfl | rfl | rfl | rfl | rfl | rfl | rfl | rfl | rfl | rfl
      · exact .inl rfl
      · exact .inr (.inr (.inr (.inl ⟨[], congrArg V.str (by decide +kernel), by decide, by decide⟩)))
      · exact .inr (.inr (.inr (.inl ⟨[98, 97], congrArg V.str (by decide +kernel), by decide, by decide⟩)))
      · exact .inr (.inr (.inr (.inl ⟨[97, 97], congrArg V.str (by decide +kernel), by decide, by decide⟩)))
      · exact .inr (.inr (.inr (.inl ⟨[97, 45], congrArg V.str (by decide +kernel), by decide, by decide⟩)))
      · exact .inr (.inr (.inr (.inl ⟨[35, 97], congrArg V.str (by decide +kernel), by decide, by decide⟩)))
      · exact .inr (.inl rfl)
      · exact .inr (.inr (.inr (.inr ⟨e1, rfl, n1, .inl a1⟩)))
      · exact .inr (.inr (.inr (.inl ⟨[65], congrArg V.str (by decide +kernel), by decide, by decide⟩)))
      · exact .inr (.inr (.inr (.inr ⟨e2, rfl, n2, .inr a2⟩)))
      · exact .inr (.inr (.inl rfl))
    have k57 : KB p H5' H7 := (KB.sm (sA.trans sB)).trans k7
    have ob7 : OdL p H7 bad := ob6.kn ((KN.sm sB).trans (KN.kb k7))
    have od7 := od5.kn (KN.kb k57)
    have of7 := of5.kn (KN.kb k57)
    have tab7 := tabs_kb p5 k57 tab5
    clear hbad ob6 a1 a2 n1 n2 sB hB p6 sA k7 k57 od5 of5 tab5 p5
    dsimp only [gName, List.set_cons_succ, List.set_cons_zero]
    -- thirteen words
    refine ⟨by show 2 ≤ sizeLine; decide, fun e1 h1 => ?_⟩
    have s1 := Sm.new (o := .lst [V.str "ka", .str "ca"]) h1
    refine ⟨by show 1 ≤ sizeLine; decide, fun e2 h2 => ?_⟩
    have s2 := Sm.new (o := .lst [V.str "ka"]) h2
    refine ⟨e2, 11, _, rfl, rfl, upd_same, by decide, by decide, by show 1 * 11 ≤ sizeLine; decide, fun e3 h3 => ?_⟩
    rw [show (List.replicate ((11 : Int)).toNat [V.str "ka"]).flatten = tws (List.replicate 11 [107, 97]) from by decide +kernel]
    have s3 := Sm.new (o := .lst (tws (List.replicate 11 [107, 97]))) h3
    refine ⟨e1, e3, _, _, rfl, rfl, s3 _ _ (s2 _ _ upd_same), upd_same, by decide, fun M hM => ?_⟩
    rw [show ([V.str "ka", .str "ca"] ++ tws (List.replicate 11 [107, 97])) = tws w5m from by decide +kernel]
    have s4 := Sm.new (o := .lst (tws w5m)) hM
    have sA := ((s1.trans s2).trans s3).trans s4
    have eM : upd (upd (upd (upd H7 e1 (.lst [V.str "ka", .str "ca"])) e2 (.lst [V.str "ka"])) e3 (.lst (tws (List.replicate 11 [107, 97])))) M (.lst (tws w5m)) M = some (.lst (tws w5m)) := upd_same
    have od8 := od7.kn (KN.sm sA)
    have of8 := of7.kn (KN.sm sA)
    have ob8 := ob7.kn (KN.sm sA)
    have tab8 := tab7.ext sA
    have p8 := p7.sm sA
    generalize upd (upd (upd (upd H7 e1 (.lst [V.str "ka", .str "ca"])) e2 (.lst [V.str "ka"])) e3 (.lst (tws (List.replicate 11 [107, 97])))) M (.lst (tws w5m)) = H8 at eM od8 of8 ob8 tab8 p8 ⊢
    clear sA s1 s2 s3 s4 h1 h2 h3 hM od7 of7 ob7 tab7 p7
    dsimp only [gName, List.set_cons_succ, List.set_cons_zero]
    have ek : ("ck" : Str) = Tx [99, 107] := by decide +kernel
    have nMp : M ≠ p := fun z => by
      obtain ⟨l, ns, tt, r, e, _⟩ := id p8
      rw [z, e] at eM
      have := HO.lst.inj (Option.some.inj eM)
      cases this
    -- what is heard first
    refine ⟨tab8, fun H9 x9 t9 => tt5_err 0 _ (.str "word") (.str "words") (.inl ⟨rfl, rfl, rfl⟩) (fun Q' => ?_) fun H10 b s10 nb => ?_⟩
    · refine ⟨_, rfl, _, rfl, _, rfl, ?_⟩
      show hRX K cs Z [odd, bad, far] _ _ _
      rw [hRX_eq]
      exact ⟨_, _, _, 0, rfl, owns_bad5 (od8.kn fun b o _ e t => x9 b o e t) fun _ _ _ z => z⟩
    refine ⟨by show 1 ≤ sizeLine; decide, fun L hL => ?_⟩
    obtain ⟨hL8, R1⟩ := H5o.start x9 t9 s10 nb hL
    dsimp only [gName, List.set_cons_succ, List.set_cons_zero]
    generalize upd (upd H10 b (.tup [V.str "word", .str "words"])) L (.lst [.ref b]) = G1 at R1 ⊢
    clear x9 t9 s10 nb hL
    obtain ⟨xs, eX, _⟩ := id R1.at_
    refine ⟨_, rfl, .inl ⟨rfl, _, SqL.of eX⟩, R1.t, fun H9 x9 t9 => tt5_err 4 _ (V.str "stock") (V.str "lot") (.inr (.inl ⟨rfl, rfl, rfl⟩)) (fun Q' => ?_) fun H10 b s10 nb => ?_⟩
    · have kA : KN p H8 H9 := (R1.kn hL8).trans fun b o _ e t => x9 b o e t
      have eM9 := kA _ _ nMp eM fun _ z => nomatch z
      refine ⟨_, rfl, _, rfl, _, rfl, ?_⟩
      show hRX K cs Z [.ref M, bad, far] _ _ _
      rw [hRX_eq]
      exact ⟨_, _, _, 0, rfl, own_ok (.inl (SqL.of eM9)) (by decide) (by decide) w5m_ok fun H' s' => lot_bad ((ob8.kn kA).kn (KN.sm s')) (oo_up s')⟩
    obtain ⟨eL, lX, R2⟩ := R1.more (x := V.str "stock") (y := V.str "lot") eX x9 t9 s10 nb
    refine ⟨L, xs, _, rfl, rfl, eL, Nat.lt_of_le_of_lt (show xs.length ≤ 12 by rw [lX]; decide) (by decide), ?_⟩
    generalize upd (upd H10 b (.tup [V.str "stock", V.str "lot"])) L (.lst (xs ++ [.ref b])) = G2 at R2 ⊢
    clear eL lX x9 t9 s10 nb eX
    obtain ⟨xs, eX, _⟩ := id R2.at_
    refine ⟨_, rfl, .inl ⟨rfl, _, SqL.of eX⟩, R2.t, fun H9 x9 t9 => tt5_err 1 _ (V.str "number") (V.str "wide") (.inr (.inr (.inl ⟨rfl, rfl, rfl⟩))) (fun Q' => ?_) fun H10 b s10 nb => ?_⟩
    · have kA : KN p H8 H9 := (R2.kn hL8).trans fun b o _ e t => x9 b o e t
      have eM9 := kA _ _ nMp eM fun _ z => nomatch z
      refine ⟨_, rfl, _, rfl, ?_⟩
      show hRX K cs Z [.ref M, .str "ck", far] _ _ _
      rw [hRX_eq]
      exact ⟨_, _, _, 0, rfl, own_ok (.inl (SqL.of eM9)) (by decide) (by decide) w5m_ok fun H' s' => .inl ⟨[99, 107], congrArg V.str ek, by decide, by decide, fun z => absurd z (by decide), fun _ G sG => wide_bad ((of8.kn kA).kn (KN.sm (s'.trans sG))) (oo_up (s'.trans sG))⟩⟩
    obtain ⟨eL, lX, R3⟩ := R2.more (x := V.str "number") (y := V.str "wide") eX x9 t9 s10 nb
    refine ⟨L, xs, _, rfl, rfl, eL, Nat.lt_of_le_of_lt (show xs.length ≤ 12 by rw [lX]; decide) (by decide), ?_⟩
    generalize upd (upd H10 b (.tup [V.str "number", V.str "wide"])) L (.lst (xs ++ [.ref b])) = G3 at R3 ⊢
    clear eL lX x9 t9 s10 nb eX
    obtain ⟨xs, eX, _⟩ := id R3.at_
    refine ⟨_, rfl, .inl ⟨rfl, _, SqL.of eX⟩, R3.t, fun H9 x9 t9 => tt5_err 3 _ (V.str "words") (V.int 12) (.inr (.inr (.inr (.inr ⟨rfl, rfl⟩)))) (fun Q' => ?_) fun H10 b s10 nb => ?_⟩
    · have kA : KN p H8 H9 := (R3.kn hL8).trans fun b o _ e t => x9 b o e t
      have eM9 := kA _ _ nMp eM fun _ z => nomatch z
      refine ⟨_, rfl, ?_⟩
      show hRX K cs Z [.ref M, .str "ck", .int 2] _ _ _
      rw [hRX_eq]
      exact ⟨_, _, _, 0, rfl, own_ok (.inl (SqL.of eM9)) (by decide) (by decide) w5m_ok fun H' s' => .inl ⟨[99, 107], congrArg V.str ek, by decide, by decide, fun z => absurd z (by decide), fun _ G sG => wide_ok (i := 2) (by decide) (by decide) ⟨M, _, rfl, .inl (SqL.of ((s'.trans sG) _ _ eM9)), fun z => absurd z (by rw [tws_len]; decide), fun _ => oo_up (s'.trans sG)⟩⟩⟩
    obtain ⟨eL, lX, R4⟩ := R3.more (x := V.str "words") (y := V.int 12) eX x9 t9 s10 nb
    refine ⟨L, xs, _, rfl, rfl, eL, Nat.lt_of_le_of_lt (show xs.length ≤ 12 by rw [lX]; decide) (by decide), ?_⟩
    generalize upd (upd H10 b (.tup [V.str "words", V.int 12])) L (.lst (xs ++ [.ref b])) = G4 at R4 ⊢
    clear eL lX x9 t9 s10 nb eX
    -- what is impossible
    obtain ⟨xs, eX, _⟩ := id R4.at_
    refine ⟨_, rfl, .inl ⟨rfl, _, SqL.of eX⟩, R4.t, fun H9 x9 t9 => .inl ⟨fun cls d H' => ∃ z dd, cls = .ref (cs 5) ∧ d = some dd ∧ Same H9 H' ∧ H' dd = some (.xd [(Str.ofString "paper", .ref z)]) ∧ ZmB Z H' z (dPl (0, 0)) (dPl (1, 0)), ?_, fun Q' => ?_⟩⟩
    case refine_2 =>
      have kA : KN p H8 H9 := (R4.kn hL8).trans fun b o _ e t => x9 b o e t
      have eM9 := kA _ _ nMp eM fun _ z => nomatch z
      refine ⟨_, rfl, 1, rfl, M, _, rfl, SqL.of eM9, fun N hN => ?_⟩
      rw [show cutV (tws w5m) (some 1) none = tws w12m from by decide +kernel]
      have sN := Sm.new (o := .lst (tws w12m)) hN
      show hRX K cs Z [.ref N, .str "ck", .int ((1 : Nat) : Int)] _ _ _
      rw [ek]
      refine rx_ok (wide := 1) (ws := w12m) (l := [99, 107]) (.inl (SqL.of upd_same)) (by decide) (by decide) w12m_ok (by decide) (by unfold azL; decide) (by decide) (by decide) (by decide) (by decide) (.inl ⟨[], (99, 107), ((0, 0), (1, 0)), [], pr2_ck, fun q hq => absurd hq List.not_mem_nil, least_ck, fun H' z s hz => ?_⟩)
      rintro cls dd0 H'' ⟨rfl, dd, rfl, s2, hdd⟩
      exact ⟨z, dd, rfl, rfl, (sN.trans s).trans s2, hdd, zmb_sm s2 hz⟩
    rintro cls dd0 H10 ⟨z, dd, rfl, rfl, s10, hdd, hz⟩
    refine ⟨5, _, .str "impossible", .ref z, dd, .inr (.inr (.inr (.inl ⟨rfl, rfl, rfl⟩))), rfl, rfl, hdd, fun b nb => ?_⟩
    obtain ⟨eL, lX, R5⟩ := R4.more (x := V.str "impossible") (y := .ref z) eX x9 t9 s10 nb
    refine ⟨L, xs, _, rfl, rfl, eL, Nat.lt_of_le_of_lt (show xs.length ≤ 12 by rw [lX]; decide) (by decide), ?_⟩
    have hz5 : ZmB Z (upd (upd H10 b (.tup [V.str "impossible", .ref z])) L (.lst (xs ++ [.ref b]))) z (dPl (0, 0)) (dPl (1, 0)) := zmb_kl ((KL.sm (Sm.new nb)).trans (KL.put eL)) hz
    generalize upd (upd H10 b (.tup [V.str "impossible", .ref z])) L (.lst (xs ++ [.ref b])) = G5 at R5 hz5 ⊢
    clear eL lX x9 t9 s10 nb eX hz hdd
    -- nothing
    obtain ⟨xs, eX, _⟩ := id R5.at_
    refine ⟨_, rfl, .inl ⟨rfl, _, SqL.of eX⟩, R5.t, fun H9 x9 t9 => .inr fun Φ hΦ => ?_⟩
    have hz9 := zmb_kl (KL.ext x9) hz5
    refine ⟨by show 2 ≤ sizeLine; decide, fun N hN => ?_⟩
    have sN := Sm.new (o := .lst (tws [[], []])) hN
    show hRX K cs Z [.ref N, .str "abcdefghij", .int ((1 : Nat) : Int)] (upd H9 N (.lst (tws [[], []]))) _ _
    rw [show ("abcdefghij" : Str) = Tx [97, 98, 99, 100, 101, 102, 103, 104, 105, 106] from by decide +kernel]
    refine rx_ok (wide := 1) (ws := [[], []]) (l := [97, 98, 99, 100, 101, 102, 103, 104, 105, 106]) (.inl (SqL.of upd_same)) (by decide) (by decide) (fun l hl => ?_) (by decide) (by unfold azL; decide) (by decide) (by decide) (by decide) (by decide) (.inr ⟨fun pq _ => ?_, fun H10 pt ys rows s10 e10 d10 o10 => hΦ _ _ ?_⟩)
    · have : l = [] := by simpa using hl
      rw [this]
      exact ⟨by decide, by decide⟩
    · unfold mB
      rw [leastF_of (show LeastO (occA 1 [[], []]) pq.1 pq.2 none from fun x hx => by rw [occ_no] at hx; exact absurd hx List.not_mem_nil)]
      rfl
    have s910 := sN.trans s10
    obtain ⟨eL, lX, R6⟩ := R5.moreN eX x9 t9 s910
    refine ⟨L, xs, _, rfl, rfl, eL, Nat.lt_of_le_of_lt (show xs.length ≤ 12 by rw [lX]; show 5 ≤ 12; decide) (by decide), ?_⟩
    have hz6 : ZmB Z (upd H10 L (.lst (xs ++ [.non]))) z (dPl (0, 0)) (dPl (1, 0)) := zmb_kl ((KL.sm s910).trans (KL.put eL)) hz9
    generalize upd H10 L (.lst (xs ++ [.non])) = G6 at R6 hz6 ⊢
    clear eL lX x9 t9 s10 s910 sN hN eX hΦ hz5 hz9 e10 d10 o10
    -- what is due
    obtain ⟨xs, eX, iX⟩ := R6.at_
    refine ⟨by show 2 ≤ sizeLine; decide, fun d1 h1 => ?_⟩
    have s1 := Sm.new (o := .tup [V.str "word", .str "words"]) h1
    have a1 : upd G6 d1 (.tup [V.str "word", .str "words"]) d1 = some (.tup [V.str "word", .str "words"]) := upd_same
    generalize upd G6 d1 (.tup [V.str "word", .str "words"]) = F1 at s1 a1 ⊢
    refine ⟨by show 2 ≤ sizeLine; decide, fun d2 h2 => ?_⟩
    have s2 := Sm.new (o := .tup [V.str "stock", .str "lot"]) h2
    have a2 : upd F1 d2 (.tup [V.str "stock", .str "lot"]) d2 = some (.tup [V.str "stock", .str "lot"]) := upd_same
    generalize upd F1 d2 (.tup [V.str "stock", .str "lot"]) = F2 at s2 a2 ⊢
    refine ⟨by show 2 ≤ sizeLine; decide, fun d3 h3 => ?_⟩
    have s3 := Sm.new (o := .tup [V.str "number", .str "wide"]) h3
    have a3 : upd F2 d3 (.tup [V.str "number", .str "wide"]) d3 = some (.tup [V.str "number", .str "wide"]) := upd_same
    generalize upd F2 d3 (.tup [V.str "number", .str "wide"]) = F3 at s3 a3 ⊢
    refine ⟨by show 2 ≤ sizeLine; decide, fun d4 h4 => ?_⟩
    have s4 := Sm.new (o := .tup [V.str "words", .int 12]) h4
    have a4 : upd F3 d4 (.tup [V.str "words", .int 12]) d4 = some (.tup [V.str "words", .int 12]) := upd_same
    generalize upd F3 d4 (.tup [V.str "words", .int 12]) = F4 at s4 a4 ⊢
    refine ⟨by show 2 ≤ sizeLine; decide, fun u1 hu1 => ?_⟩
    have t1 := Sm.new (o := .tup [V.int 0, .int 0]) hu1
    have b1 : upd F4 u1 (.tup [V.int 0, .int 0]) u1 = some (.tup (plV (0, 0))) := upd_same
    generalize upd F4 u1 (.tup [V.int 0, .int 0]) = F5 at t1 b1 ⊢
    refine ⟨by show 2 ≤ sizeLine; decide, fun u2 hu2 => ?_⟩
    have t2 := Sm.new (o := .tup [V.int 1, .int 0]) hu2
    have b2 : upd F5 u2 (.tup [V.int 1, .int 0]) u2 = some (.tup (plV (1, 0))) := upd_same
    have b1 := t2 _ _ b1
    generalize upd F5 u2 (.tup [V.int 1, .int 0]) = F6 at t2 b1 b2 ⊢
    refine zmb_makeA (fx_pl b1) (fx_pl b2) fun F7 z2 s7 nz hz2 => ?_
    refine ⟨by show 2 ≤ sizeLine; decide, fun d5 h5 => ?_⟩
    have s5 := Sm.new (o := .tup [V.str "impossible", .ref z2]) h5
    have a5 : upd F7 d5 (.tup [V.str "impossible", .ref z2]) d5 = some (.tup [V.str "impossible", .ref z2]) := upd_same
    have hz2 := zmb_sm s5 hz2
    generalize upd F7 d5 (.tup [V.str "impossible", .ref z2]) = F8 at s5 a5 hz2 ⊢
    refine ⟨by show 5 ≤ sizeLine; decide, fun LD hLD => ?_⟩
    have s6 := Sm.new (o := .lst [V.ref d1, .ref d2, .ref d3, .ref d4, .ref d5]) hLD
    have a6 : upd F8 LD (.lst [V.ref d1, .ref d2, .ref d3, .ref d4, .ref d5]) LD = some (.lst [V.ref d1, .ref d2, .ref d3, .ref d4, .ref d5]) := upd_same
    generalize upd F8 LD (.lst [V.ref d1, .ref d2, .ref d3, .ref d4, .ref d5]) = F9 at s6 a6 ⊢
    dsimp only [gName, List.set_cons_succ, List.set_cons_zero]
    refine ⟨_, rfl, _, rfl, by show 1 ≤ sizeLine; decide, fun e he => ?_⟩
    have s8 := Sm.new (o := .lst [V.non]) he
    refine ⟨LD, e, _, _, rfl, rfl, s8 _ _ a6, upd_same, by show 5 + 1 ≤ sizeLine; decide, fun LF hLF => ?_⟩
    have s9 := Sm.new (o := .lst ([V.ref d1, .ref d2, .ref d3, .ref d4, .ref d5] ++ [V.non])) hLF
    have s89 := s8.trans s9
    have s69 := s6.trans s89
    have s49 := (t1.trans t2).trans (s7.trans (s5.trans s69))
    have s39 := s4.trans s49
    have s29 := s3.trans s39
    have s19 := s2.trans s29
    have s09 := s1.trans s19
    refine ⟨⟨L, LF, xs, _, rfl, rfl, s09 _ _ eX, upd_same, iX.1, fun i x y e1 e2 => ?_⟩, fun H' _ => q H'⟩
    have it : ∀ (k : Nat) (tk : It), i = k → ([some (V.str "word", V.str "words")] ++ [some (V.str "stock", V.str "lot")] ++ [some (V.str "number", V.str "wide")] ++ [some (V.str "words", V.int 12)] ++ [some (V.str "impossible", V.ref z)] ++ [none] : List It)[k]? = some tk → IsIt G6 x tk := fun k tk ek e3 => iX.2 k x tk (ek ▸ e1) e3
    match i, it, e2 with
    | 0, it, e2 =>
      obtain rfl := Option.some.inj e2
      obtain ⟨T0, rfl, h⟩ := it 0 _ rfl rfl
      exact pair_eq (s09 _ _ h) (s19 _ _ a1) (fl_str _) (fl_str _)
    | 1, it, e2 =>
      obtain rfl := Option.some.inj e2
      obtain ⟨T0, rfl, h⟩ := it 1 _ rfl rfl
      exact pair_eq (s09 _ _ h) (s29 _ _ a2) (fl_str _) (fl_str _)
    | 2, it, e2 =>
      obtain rfl := Option.some.inj e2
      obtain ⟨T0, rfl, h⟩ := it 2 _ rfl rfl
      exact pair_eq (s09 _ _ h) (s39 _ _ a3) (fl_str _) (fl_str _)
    | 3, it, e2 =>
      obtain rfl := Option.some.inj e2
      obtain ⟨T0, rfl, h⟩ := it 3 _ rfl rfl
      exact pair_eq (s09 _ _ h) (s49 _ _ a4) (fl_str _) (fl_int _)
    | 4, it, e2 =>
      obtain rfl := Option.some.inj e2
      obtain ⟨T0, rfl, h⟩ := it 4 _ rfl rfl
      have c1 := zmb_sm s09 hz6
      have c2 := zmb_sm s69 hz2
      refine .inr ⟨T0, d5, _, _, rfl, rfl, SqT.of (s09 _ _ h), SqT.of (s69 _ _ a5), .cons (.inl ⟨rfl, rfl, (fl_str _).2⟩) (.cons (.inr ?_) .nil)⟩
      obtain ⟨dx, v1, v2, p1, hx, _⟩ := id c1
      obtain ⟨dy, w1, w2, p2, hy, _⟩ := id c2
      exact ⟨z, z2, dx, dy, _, _, rfl, rfl, hx, hy, _, _, _, _, c1, c2, sh_pl2 _ _, sh_pl2 _ _, eq_pl2 _ _⟩
    | 5, it, e2 =>
      obtain rfl := Option.some.inj e2
      obtain rfl : x = .non := it 5 _ rfl rfl
      exact .inl (.inl ⟨rfl, rfl, rfl⟩)
    | i + 6, it, e2 => cases e2
end
end R
end W5.V
namespace W5.V
open PySem PySem.Spec PyProof.Rows L2 K0 K6
open K4 hiding Blt
namespace R
/-! ### sorted, of a list of signs -/
section
theorem each_tx : ∀ {cs : List Nat} {us : List Value}, Vals (sgL cs) us → PySem.W.EachIs (fun u (c : Nat) => ∃ k, u = Value.str (Tx [c]) k) us cs
  | [], _, .nil => .nil
  | _ :: _, _, .cons ⟨k, e⟩ r => .cons ⟨k, e⟩ (each_tx r)
theorem tx_each : ∀ {us : List Value} {cs : List Nat}, PySem.W.EachIs (fun u (c : Nat) => ∃ k, u = Value.str (Tx [c]) k) us cs → Vals (sgL cs) us
  | [], [], .nil => .nil
  | _ :: _, _ :: _, .cons ⟨k, e⟩ r => .cons ⟨k, e⟩ (tx_each r)
def rSortL (K : PySem.W.Frag) : List V → Hp → VK → Prop := fun vs H Q => ∃ (a : Addr) (cs : List Nat), vs = [V.ref a] ∧ SqL K H a (sgL cs) ∧ ∀ b ds, H b = none → ds.Perm cs → ds.Pairwise (fun c d => c ≤ d) → Q (.ref b) (upd H b (.lst (sgL ds)))
theorem sg_le (a b : Nat) : decide ((Tx [a]).cps.toList ≤ (Tx [b]).cps.toList) = decide (a ≤ b) := by
  rw [tx_list, tx_list]
  by_cases h : a ≤ b
  · rw [decide_eq_true h]
    refine decide_eq_true ?_
    rcases Nat.lt_or_eq_of_le h with z | z
    · exact List.le_of_lt (List.cons_lt_cons_iff.mpr (.inl z))
    · rw [z]
      exact List.le_refl _
  · rw [decide_eq_false h]
    refine decide_eq_false fun z => h ?_
    have : ¬ ([b] < [a]) := List.not_lt.mpr z
    exact Nat.le_of_not_lt fun y => this (List.cons_lt_cons_iff.mpr (.inl y))
theorem cr_sortL {X : Cx} (hc : X.calm = true) (hu : X.A.units + 20 < cLine) : CallR X (.builtin "sorted") (rSortL X.K) := by
  intro pins s σ H vs us Q I r h
  obtain ⟨a, cs, rfl, hs, q⟩ := h
  obtain ⟨its, rv, hl, hz⟩ := I.list hs
  rw [Vals.ref1 r]
  have hlen := rv.length
  have lcs : (sgL cs).length = cs.length := List.length_map _
  have e0 := each_tx rv
  have er : PySem.W.EachIs (fun v (c : Nat) => ∃ as, Reads s.heap v (.str (Tx [c])) as) its cs := e0.mono fun _ _ ⟨k, e⟩ => ⟨[], e ▸ .str _ k⟩
  refine PySem.W.sorted_data (vs := its) (bs := cs) (enc := fun c : Nat => .str (Tx [c])) (l := a) hl.isList e0 er (PySem.W.AllAlike.of fun x y => rfl) (PySem.W.Sortable.others (enc := fun c : Nat => PyData.str (Tx [c])) fun b => ⟨fun z => (by cases z), fun xs z => (by cases z)⟩) (by omega) (fun b _ => by show _ + 0 < _; omega) fun out h1 h2 => ?_
  have rv2 := tx_each h2
  obtain ⟨ep, at_⟩ := PyProof.Rows.sortedAll_at s.heap its (List.toArray out)
  have pm := List.mergeSort_perm cs (PySem.W.dataLe false fun c : Nat => .str (Tx [c]))
  have hyl : (sgL (cs.mergeSort (PySem.W.dataLe false fun c : Nat => .str (Tx [c])))).length ≤ sizeLine := by
    have e : (sgL (cs.mergeSort (PySem.W.dataLe false fun c : Nat => .str (Tx [c])))).length = cs.length := by
      unfold sgL
      rw [List.length_map, pm.length_eq]
    omega
  refine ⟨.ref _, upd H (s.heap.objs.size + 1) (.lst (sgL (cs.mergeSort (PySem.W.dataLe false fun c : Nat => .str (Tx [c]))))), I.laid (t' := s.toks) (fun _ _ => PyProof.Rows.sortedAll_old) (Nat.le_succ _) ⟨hyl, out, ep, by simpa using rv2, at_⟩, rfl, q _ _ (I.hok.fresh (Nat.le_succ _)) pm ?_⟩
  have el : (PySem.W.dataLe false fun c : Nat => PyData.str (Tx [c])) = fun a b => decide (a ≤ b) := by
    rw [PySem.W.dataLe_str]
    funext a b
    exact sg_le a b
  rw [el]
  refine (List.pairwise_mergeSort (le := fun a b : Nat => decide (a ≤ b)) (fun a b c h1 h2 => ?_) (fun a b => ?_) cs).imp fun h => of_decide_eq_true h
  · exact decide_eq_true (Nat.le_trans (of_decide_eq_true h1) (of_decide_eq_true h2))
  · rcases Nat.le_total a b with z | z
    · rw [decide_eq_true z]; rfl
    · rw [decide_eq_true z, Bool.or_true]
end
section
variable {P : Program} {w : World} {K : PySem.W.Frag} {mg : Str → Option Value} {base : Heap}
variable {cs : Nat → Addr} {Z : Addr}
/-! ### the law -/
@[irreducible] def hCo (K : PySem.W.Frag) : Sp := spCoarse K
theorem hCo_eq {K : PySem.W.Frag} : hCo K = spCoarse K := by
  unfold hCo
  rfl
abbrev CLn (P : Program) (w : World) (K : PySem.W.Frag) (mg : Str → Option Value) (base : Heap) : Prop := Cal P w K mg base 1 "_law_pen" (top 41) ["_law_script"] (spPen K)
abbrev CLw (P : Program) (w : World) (K : PySem.W.Frag) (mg : Str → Option Value) (base : Heap) : Prop := Cal P w K mg base 3 "_law_words" (top 44) ["_law_pen_here", "_law_most"] (W5.V.Z.spLWords K)
abbrev CLd (P : Program) (w : World) (K : PySem.W.Frag) (mg : Str → Option Value) (base : Heap) : Prop := Cal P w K mg base 1 "_law_draw" (top 42) ["_law_pen_here", "_law_many"] (spDraw K)
abbrev CLpt (P : Program) (w : World) (K : PySem.W.Frag) (mg : Str → Option Value) (base : Heap) : Prop := Cal P w K mg base 2 "_law_pick" (top 43) ["_law_pen_here", "_law_some"] (W5.V.Z.spPickT K)
abbrev CLtb (P : Program) (w : World) (K : PySem.W.Frag) (mg : Str → Option Value) (base : Heap) : Prop := Cal P w K mg base 11 "_law_told_back" (top 52) ["_law_words_here", "_law_parting", "_law_wide"] (spLTold K)
abbrev CLlr (P : Program) (w : World) (K : PySem.W.Frag) (mg : Str → Option Value) (base : Heap) (T1 T2 : Addr) : Prop := CalG P w K mg base 13 "_law_lot_right" (top 51) ["_law_words_here", "_law_lot", "_law_wide"] (spLotR K T1 T2)
abbrev CLrf (P : Program) (w : World) (K : PySem.W.Frag) (mg : Str → Option Value) (base : Heap) (T1 T2 : Addr) : Prop := CalG P w K mg base 13 "_law_refused_right" (top 53) ["_law_pen_here"] (spRef5 T1 T2)
theorem pen_ext {H H' : Hp} {p : Addr} {T : Nat} (h : PenAt H p T) (x : LamX.ExtN H H') : PenAt H' p T := by
  obtain ⟨l, ns, t, r, a, b, c⟩ := h
  exact ⟨l, ns, t, r, x _ _ a (fun _ z => nomatch z), x _ _ b (fun _ z => nomatch z), c⟩
theorem pen_ne {H : Hp} {p b : Addr} {T : Nat} {l : List Nat} (h : PenAt H p T) (e : H b = some (.lst (sgL l))) : b ≠ p := fun z => by
  obtain ⟨x, ns, t, r, a, _⟩ := h
  rw [z, a] at e
  match l, HO.lst.inj (Option.some.inj e) with
  | [], e => cases e
  | _ :: _, e => cases e
theorem kn_ext {p : Addr} {H H' : Hp} (x : LamX.ExtN H H') : KN p H H' := fun b o _ e t => x b o e t
theorem sg_dat {l : List Nat} (h : ∀ c ∈ l, c ≤ 122) : (sgL l).all datOk = true := by
  refine List.all_eq_true.mpr fun v hv => ?_
  obtain ⟨c, hc, rfl⟩ := List.mem_map.mp hv
  exact str_low fun d hd => by rw [List.mem_singleton.mp hd]; have := h c hc; omega
theorem sum_one : ∀ l : List Nat, (l.map fun _ => 1).sum = l.length
  | [] => rfl
  | a :: r => by rw [List.map_cons, List.sum_cons, sum_one r, List.length_cons]; omega
theorem sum_tx (l : List Nat) : ((l.map fun c => Tx [c]).map fun x => x.length).sum = l.length := by
  rw [List.map_map]
  exact sum_one l
def within (R S : List (List Nat)) : Bool := R.all fun l => S.any fun m => l.all fun c => decide (c ∈ m)
theorem dp_strs {K : PySem.W.Frag} {H : Hp} : ∀ {R : List (List Nat)} {xs : List V}, DpAll K H xs (R.map fun l => .str (Tx l)) → xs = tws R
  | [], _, .nil => rfl
  | _ :: _, _, .cons (.str _) h => by
    rw [dp_strs h]
    rfl
theorem near_far {B1 B2 : Nat → Nat → Bool} {S : List Nat} (low : ∀ x ∈ S, x < 128) (asc : S.Pairwise fun a b => a < b) (le : ∀ c d, B2 c d = true → B1 c d = true) {R : List (List Nat)} (hR : R ∈ prt B1 S) :
    ∃ R' ∈ (prt B2 S).filter (isC B2), within R R' = true ∧ R'.length ≤ R.length := by
  obtain ⟨f0, cs0, h0, rfl⟩ := col_of S (asc.imp fun h => Nat.ne_of_lt h) R hR
  have h2 : Col B2 S f0 cs0 := ⟨h0.nd, h0.mem, h0.ne, h0.ok.imp fun {x y} h e => (by
    have z := h e
    cases e2 : B2 x y with
    | false => rfl
    | true =>
      rw [le _ _ e2] at z
      cases z)⟩
  obtain ⟨f, cs, hc, h3, h4, h5, h6⟩ := coarse low asc h2
  refine ⟨_, List.mem_filter.mpr ⟨h3, h4⟩, ?_, ?_⟩
  · unfold within
    refine List.all_eq_true.mpr fun l hl => List.any_eq_true.mpr ?_
    unfold lotsOf at hl
    obtain ⟨k, hk, rfl⟩ := List.mem_map.mp hl
    obtain ⟨x, hx, ex⟩ := h0.ne k hk
    refine ⟨cls S f (f x), List.mem_map.mpr ⟨f x, hc.mem x hx, rfl⟩, List.all_eq_true.mpr fun c hcl => decide_eq_true ?_⟩
    obtain ⟨c1, c2⟩ := cls_mem.mp hcl
    exact cls_mem.mpr ⟨c1, h5 c c1 x hx (c2.trans ex.symm)⟩
  · unfold lotsOf
    rw [List.length_map, List.length_map]
    exact h6
theorem some_coarse {B : Nat → Nat → Bool} {S : List Nat} (low : ∀ x ∈ S, x < 128) (asc : S.Pairwise fun a b => a < b) : ∃ R, R ∈ (prt B S).filter (isC B) := by
  obtain ⟨cs, h1, h2⟩ := prt_of (B := B) (f := fun x => x) S (asc.imp fun h e => absurd e (Nat.ne_of_lt h))
  obtain ⟨R', h3, _⟩ := near_far (B1 := B) (B2 := B) low asc (fun _ _ h => h) h2
  exact ⟨R', h3⟩
def fac : Nat → Nat
  | 0 => 1
  | n + 1 => (n + 1) * fac n
theorem prt_fac {B : Nat → Nat → Bool} : ∀ (n : Nat) (S : List Nat), S.length = n → (prt B S).length ≤ fac n
  | 0, S, h => by
    rw [List.eq_nil_of_length_eq_zero h]
    exact Nat.le_refl _
  | n + 1, S, h => by
    obtain ⟨T, s, rfl⟩ : ∃ T s, S = T ++ [s] := by
      have := List.dropLast_concat_getLast (l := S) (by intro z; rw [z] at h; cases h)
      exact ⟨_, _, this.symm⟩
    rw [List.length_append] at h
    have hT : T.length = n := Nat.succ.inj h
    have ih := prt_fac (B := B) n T hT
    rw [prt_snoc]
    have h1 := flat_len (l := prt B T) (f := stepP B s) (n := n + 1) fun R hR => by
      have a := prt_lots T R hR
      have b := stepP_len (B := B) (s := s) (R := R)
      omega
    show _ ≤ (n + 1) * fac n
    exact Nat.le_trans h1 (by rw [Nat.mul_comm (prt B T).length]; exact Nat.mul_le_mul_left _ ih)
theorem fac_six : ∀ n ≤ 6, fac n ≤ 720 := by decide
theorem dp_encL {K : PySem.W.Frag} {H : Hp} {v : V} {R : List (List Nat)} (h : Dp K H v (encL R)) : ∃ T, v = .ref T ∧ SqT K H T (tws R) := by
  unfold encL at h
  cases h with
  | tup a b => exact ⟨_, rfl, dp_strs b ▸ a⟩
def spLaw5 (K : PySem.W.Frag) (T1 T2 : Addr) : Sp := fun vs H Q _ => ∃ (a : Addr) (ns : List Int), vs = [.ref a] ∧ SqL K H a (ns.map V.int) ∧ ns.length ≤ 63 ∧ LamX.Tabs (TL2 T1 T2) H ∧ ∀ H', Q (.bl true) H'
abbrev st_law : Stmt := top 54
abbrev nm_law : List Str := ["_law_script", "_law_pen_here", "_law_sounds_here", "_law_turn", "_law_partings", "_law_words_here", "_law_wide", "_law_lot", "_law_sound"]
theorem sc_law : FnScope nm_law ["_law_script"] (defScope st_law) := ⟨rfl, rfl, rfl, by decide +kernel, rfl, by decide +kernel, by decide +kernel⟩
theorem ok_law {T1 T2 f : Addr} {fd : FuncData} (F : Fun K "law" "law" st_law f fd) (T : BltS mg) (C__law_pen : CLn P w K mg base) (C__law_words : CLw P w K mg base) (C__law_draw : CLd P w K mg base) (C__law_pickT : CLpt P w K mg base) (C__law_sounds : CLso P w K mg base)
    (C__law_told_back : CLtb P w K mg base) (C__law_lot_right : CLlr P w K mg base T1 T2) (C__law_refused_right : CLrf P w K mg base T1 T2) (C_coarsest : CCo P w K mg base (spCoarse K)) (C_rule_table : CRt P w K mg base (spRuleX K cs Z)) :
    FnG P w K mg base CX0 14 f fd ["_law_script"] (spLaw5 K T1 T2) := by
  have C_rule_table := crt_to C_rule_table hRX_eq
  have C_coarsest := cco_to C_coarsest hCo_eq
  refine okG F sc_law (fun vs H Q E h => ?_) (fun cdv A outer s H vs Q E hg hr h => ?_)
  · obtain ⟨_, _, rfl, _⟩ := h
    rfl
  · refine ⟨_, (pss_cons (ps_set (i := 1) sc_law.nd rfl (Or.inr rfl) (pe_cl C__law_pen (hr.mono (by decide)) rfl (pa_cons (pv 0) pa_nil)))
  (pss_cons (ps_asg (pe_tup (pa_cons (pe_cl C__law_words (hr.mono (by decide)) rfl (pa_cons (pv 1) (pa_cons pe_int pa_nil))) (pa_cons (pe_op op_add pe_int (pe_cl C__law_draw (hr.mono (by decide)) rfl (pa_cons (pv 1) (pa_cons pe_int pa_nil)))) pa_nil))) (pg_tup rfl (pgs_cons (pg_name (i := 5) sc_law.nd rfl (Or.inr rfl)) (pgs_cons (pg_name (i := 6) sc_law.nd rfl (Or.inr rfl)) pgs_nil))))
  (pss_cons (ps_set (i := 2) sc_law.nd rfl (Or.inl rfl) (pe_cl C__law_sounds (hr.mono (by decide)) rfl (pa_cons (pv 5) pa_nil)))
  (pss_cons (ps_for PassesOwn.never rfl (pi_range1 rfl T.n_range (pa_cons pe_int pa_nil)) (pg_name (i := 3) sc_law.nd rfl (Or.inl rfl)) (pss_cons (ps_setLc (i := 7) (own := [("_law_sound", 8)]) (g := (gName 8)) rfl sc_law.nd rfl rfl (sw_true rfl rfl rfl (by decide +kernel)) (pi_list (pe_callB (cr_sortL rfl (hu20 hr)) (by rfl) T.n_sorted (by decide +kernel) (pa_cons (pe_op op_cat (pv 2) (pe_lst (pa_cons pe_str (pa_cons pe_str pa_nil)))) pa_nil))) (blkOk_by (N := nm_law) (sc := defScope st_law) (own := [("_law_sound", 8)]) (by decide +kernel)) (fun _ _ _ _ _ => by exact pg_name (i := 8) sc_law.nd rfl (Or.inl rfl)) (fun _ _ _ _ _ => pts_one (pt_cmpR op_gt (pe_cl C__law_draw (hr.mono (by decide)) rfl (pa_cons (pv 1) (pa_cons pe_int pa_nil))) pe_int (nomark _))) (fun _ _ _ _ _ => (pv 8)))
  (pss_one (ps_if (PW.pt (pw_and (pt_cmpR (op_neD hr.units) (pv 7) (pe_lst pa_nil) (nomark _)) (pw_and1 (pt_not (pt_val (pe_clG C__law_lot_right hg (hr.mono (by decide)) rfl (pa_cons (pv 5) (pa_cons (pe_join pe_str (pv 7)) (pa_cons (pv 6) pa_nil))))))))) (pss_one (ps_ret pe_bl)) pss_nil))))
  (pss_cons (ps_if (PW.pt (pw_or (pt_cmpR (op_neD hr.units) (pe_lc (own := [("_law_lot", 7)]) (g := (gName 7)) rfl sc_law.nd (pi_list (pv 2)) (blkOk_by (N := nm_law) (sc := defScope st_law) (own := [("_law_lot", 7)]) (by decide +kernel)) (fun _ _ _ _ _ => by exact pg_name (i := 7) sc_law.nd rfl (Or.inl rfl)) (fun _ _ _ _ _ => pts_one (pt_not (pt_val (pe_clG C__law_lot_right hg (hr.mono (by decide)) rfl (pa_cons (pv 5) (pa_cons (pv 7) (pa_cons (pv 6) pa_nil))))))) (fun _ _ _ _ _ => (pv 7))) (pe_lst pa_nil) (nomark _)) (pw_or1 (pt_not (pt_val (pe_clG C__law_lot_right hg (hr.mono (by decide)) rfl (pa_cons (pv 5) (pa_cons pe_str (pa_cons (pv 6) pa_nil))))))))) (pss_one (ps_ret pe_bl)) pss_nil)
  (pss_cons (ps_set (i := 4) sc_law.nd rfl (Or.inl rfl) (pe_co2 C_coarsest px0 (hr.mono (by decide)) rfl (pa_cons (pv 5) (pa_cons (pv 6) pa_nil))))
  (pss_cons (ps_if (pt_not (pt_val (pe_cl C__law_told_back (hr.mono (by decide)) rfl (pa_cons (pv 5) (pa_cons (pe_cl C__law_pickT (hr.mono (by decide)) rfl (pa_cons (pv 1) (pa_cons (pv 4) pa_nil))) (pa_cons (pv 6) pa_nil)))))) (pss_one (ps_ret pe_bl)) pss_nil)
  (pss_cons (ps_if (PW.pt (pw_and (pt_cmpR op_eq (pv 6) pe_int (nomark _)) (pw_and (pt_cmpR (op_neD hr.units) (pv 2) (pe_lst pa_nil) (nomark _)) (pw_and1 (pt_cmpR (op_neD hr.units) (pe_rt2 C_rule_table px0 (hr.mono (by decide)) rfl (pa_cons (pv 5) (pa_cons (pe_ix ix_list (pv 2) pe_int (fun _ _ => rfl)) pa_nil))) (pe_rt3 C_rule_table px0 (hr.mono (by decide)) rfl (pa_cons (pe_callTy call_tuple_of (by rfl) T.n_tuple (by decide +kernel) (pa_cons (pv 5) pa_nil)) (pa_cons (pe_ix ix_list (pv 2) pe_int (fun _ _ => rfl)) (pa_cons pe_int pa_nil)))) (nomark _)))))) (pss_one (ps_ret pe_bl)) pss_nil)
  (pss_one (ps_ret (pe_clG C__law_refused_right hg (hr.mono (by decide)) rfl (pa_cons (pv 1) pa_nil)))))))))))), ?_⟩
    obtain ⟨a, ns, rfl, hS, hl, hT, q⟩ := h
    rw [show L2.start nm_law [V.ref a] = [some (V.ref a), none, none, none, none, none, none, none, none] from rfl]
    refine ⟨_, rfl, a, ns, rfl, hS, hl, fun H1 p s1 p1 => ?_⟩
    dsimp only [gName, List.set_cons_succ, List.set_cons_zero]
    refine ⟨_, rfl, p, 9, 0, rfl, p1, by omega, by omega, by omega, fun H2 D ws k2 p2 hD e2 l1 l9 ok osd => ?_⟩
    refine ⟨_, rfl, p, 2, 60, rfl, p2, by omega, by omega, by omega, fun H3 v k3 p3 v0 v1 => ?_⟩
    refine ⟨_, _, rfl, rfl, by show 2 ≤ sizeLine; decide, fun t ht => ?_⟩
    have st := Sm.new (o := .tup [V.ref D, V.int (1 + v)]) ht
    refine ⟨t, _, rfl, SqT.of upd_same, rfl, _, _, rfl, _, _, rfl, rfl, ?_⟩
    dsimp only [gName, List.set_cons_succ, List.set_cons_zero]
    obtain ⟨wide, ew, w1, w2⟩ : ∃ wide : Nat, 1 + v = (wide : Int) ∧ 1 ≤ wide ∧ wide ≤ 2 := ⟨(1 + v).toNat, by omega, by omega, by omega⟩
    rw [ew]
    have l9 : ws.length ≤ 9 := by omega
    have h0 : ws ≠ [] := fun z => by rw [z] at l1; exact absurd l1 (by decide)
    have ok' : ∀ l ∈ ws, W5.sOk l := fun l hl => (ok l hl).up
    have nDp := p1.ne hD
    have eW := st _ _ (k3.kb _ _ nDp e2)
    have pp := p3.sm st
    have tab := (tabs_kb p2 k3 (tabs_kb p1 k2 (hT.ext s1))).ext st
    rw [ew] at st eW pp tab
    have at3 := (k3.trans (KB.sm st))
    generalize upd H3 t (.tup [V.ref D, V.int (wide : Nat)]) = H4 at st eW pp tab ⊢
    clear st at3 ht k3 p3 k2 e2 p2 p1 s1 hS hT
    have hw : ∀ l ∈ ws, wdOk l = true := fun l hl => (ok' l hl).wd
    have az : ∀ c ∈ soundsOf ws, 97 ≤ c ∧ c ≤ 121 ∧ c ≠ 117 := fun c hc => by
      obtain ⟨l, hl, hcl⟩ := List.mem_flatten.mp ((sounds_mem hw).mp hc)
      exact (ok l hl).1 c hcl
    have asc : (soundsOf ws).Pairwise fun c d => c < d := K5.canon_lt _
    have nd := sounds_nd ws
    have S5 : (soundsOf ws).length ≤ 5 := by
      obtain ⟨sd, h5, hin⟩ := osd
      have := nd_le (sounds_nd ws) (m := sd) fun x hx => by
        obtain ⟨l, hl, hcl⟩ := List.mem_flatten.mp ((sounds_mem hw).mp hx)
        exact hin l hl x hcl
      omega
    refine ⟨_, rfl, D, ws, rfl, SqL.of eW, by omega, ok', fun H5 D4 s4 n4 eS => ?_⟩
    dsimp only [gName, List.set_cons_succ, List.set_cons_zero]
    have eW := s4 _ _ eW
    have pp := pp.sm s4
    have tab := tab.ext s4
    clear s4 n4 osd
    have nSp : D4 ≠ p := pen_ne pp eS
    have noD : ∀ ps, HO.lst (tws ws) ≠ .tbl ps := fun _ z => nomatch z
    have noS : ∀ ps, HO.lst (sgL (soundsOf ws)) ≠ .tbl ps := fun _ z => nomatch z
    refine ⟨_, rfl, by decide, by decide, ?_⟩
    refine for_it walk_range (fun i σ G => (∃ v3 v7 v8, σ = [some (V.ref a), some (V.ref p), some (V.ref D4), v3, none, some (V.ref D), some (V.int (wide : Nat)), v7, v8]) ∧ KN p H5 G ∧ PenAt G p (61 + 8 * i) ∧ LamX.Tabs (TL2 T1 T2) G) ⟨⟨_, _, _, rfl⟩, fun _ _ _ e _ => e, pp.mono (by omega), tab⟩ (fun _ _ _ _ _ => trivial) ?_ ?_
    · rintro i x σ G1 G2 hi ⟨⟨v3, v7, v8, rfl⟩, kn, pp, tab⟩ ⟨rfl, rfl⟩
      dsimp only [gName, List.set_cons_succ, List.set_cons_zero]
      have eW := kn _ _ nDp eW noD
      have eS := kn _ _ nSp eS noS
      refine ⟨_, rfl, by show 2 ≤ sizeLine; decide, fun e he => ?_⟩
      have se := Sm.new (o := .lst [V.str (Str.ofString "u"), V.str (Str.ofString "z")]) he
      refine ⟨D4, e, _, _, rfl, rfl, se _ _ eS, upd_same, by show (sgL (soundsOf ws)).length + 2 ≤ sizeLine; rw [List.length_map]; exact Nat.le_trans (show (soundsOf ws).length + 2 ≤ 7 by omega) (by decide), fun e2 he2 => ?_⟩
      rw [show sgL (soundsOf ws) ++ [V.str (Str.ofString "u"), V.str (Str.ofString "z")] = sgL (soundsOf ws ++ [117, 122]) by
        unfold sgL
        rw [List.map_append]
        exact congrArg _ (by decide +kernel)]
      have s2 := Sm.new (o := .lst (sgL (soundsOf ws ++ [117, 122]))) he2
      have e2s : upd (upd G2 e (.lst [V.str (Str.ofString "u"), V.str (Str.ofString "z")])) e2 (.lst (sgL (soundsOf ws ++ [117, 122]))) e2 = some (.lst (sgL (soundsOf ws ++ [117, 122]))) := upd_same
      have kn := kn.trans (KN.sm (se.trans s2))
      have pp := pp.sm (se.trans s2)
      have tab := tab.ext (se.trans s2)
      have eW := (se.trans s2) _ _ eW
      generalize upd (upd G2 e (.lst [V.str (Str.ofString "u"), V.str (Str.ofString "z")])) e2 (.lst (sgL (soundsOf ws ++ [117, 122]))) = G3 at e2s kn pp tab eW ⊢
      clear se s2 he he2 eS
      refine ⟨e2, soundsOf ws ++ [117, 122], rfl, SqL.of e2s, fun b ds hb pm pw => ?_⟩
      have sb := Sm.new (o := .lst (sgL ds)) hb
      have eb : upd G3 b (.lst (sgL ds)) b = some (.lst (sgL ds)) := upd_same
      have kn := kn.trans (KN.sm sb)
      have pp := pp.sm sb
      have tab := tab.ext sb
      have eW := sb _ _ eW
      have nbp : b ≠ p := pen_ne pp eb
      generalize upd G3 b (.lst (sgL ds)) = G4 at eb kn pp tab eW ⊢
      clear sb hb e2s
      have nd2 : (soundsOf ws ++ [117, 122]).Nodup := by
        refine List.nodup_append.mpr ⟨nd, by decide, fun x hx y hy e => ?_⟩
        have := az x hx
        rcases List.mem_cons.mp hy with rfl | hy
        · omega
        · have := List.mem_singleton.mp hy
          omega
      have dsl : ds.length ≤ 7 := by
        rw [pm.length_eq, List.length_append]
        show _ + 2 ≤ 7
        omega
      have dsa : ∀ c ∈ ds, 97 ≤ c ∧ c ≤ 122 := fun c hc => by
        rcases List.mem_append.mp (pm.mem_iff.mp hc) with h | h
        · have := az c h
          omega
        · have all : ∀ x ∈ [117, 122], 97 ≤ x ∧ x ≤ 122 := by decide
          exact all c h
      have dlt : ds.Pairwise fun c d => c < d := by
        have n : ds.Nodup := pm.nodup_iff.mpr nd2
        exact (List.Pairwise.and pw n).imp fun h => Nat.lt_of_le_of_ne h.1 h.2
      clear nd2 pw pm
      refine ⟨_, rfl, ⟨_, SqL.of eb⟩, fun L hL => ?_⟩
      have hL4 : G4 L = none := hL
      have nLp := pp.ne hL4
      refine lc_it walk_list (fun j G => KB p G4 G ∧ PenAt G p (61 + 8 * i + j) ∧ ∃ ls, G L = some (.lst (sgL ls)) ∧ ls.Sublist (ds.take j)) ⟨KB.lay (KB.refl _ _) hL4 nLp, PenAt.lay pp (KB.refl _ _) hL4 pp, [], upd_same, List.nil_sublist _⟩ (fun j G hj z => SqL.of (z.1.kb _ _ nbp eb)) ?_ ?_
      · rintro j y G5 G6 hj ⟨kj, pj, ls, eL, sub⟩ ⟨rfl, hy⟩
        obtain ⟨c, ec, rfl⟩ := sg_at hy
        have hj' : j < ds.length := (List.getElem?_eq_some_iff.mp ec).1
        refine ⟨rfl, ?_⟩
        refine ⟨_, rfl, p, 3, _, rfl, pj, by omega, by omega, by omega, fun G7 v k7 p7 v0 v1 => ?_⟩
        have nLD := eL
        have kk := kj.trans k7
        have eL7 := k7.kb _ _ nLp eL
        have lsl : ls.length ≤ 7 := by
          have := sub.length_le
          rw [List.length_take] at this
          omega
        have tk : ds.take (j + 1) = ds.take j ++ [c] := by
          rw [List.take_add_one, ec]
          rfl
        refine ⟨_, _, rfl, rfl, _, rfl, ite2 (fun _ => ?_) (fun _ => ?_)⟩
        · refine ⟨_, rfl, _, eL7, by rw [List.length_map]; exact small_lt (by omega), kk.lay hL4 nLp, PenAt.lay pp kk hL4 (p7.mono (by omega)), ls ++ [c], ?_, ?_⟩
          · rw [upd_same]
            unfold sgL
            rw [List.map_append]
            rfl
          · rw [tk]
            exact sub.append (List.Sublist.refl _)
        · refine ⟨kk, p7.mono (by omega), ls, eL7, ?_⟩
          rw [tk]
          exact sub.trans (List.sublist_append_left _ _)
      · rintro G7 ⟨kj, pj, ls, eL, sub⟩
        have sub : ls.Sublist ds := sub.trans (List.take_sublist _ _)
        have tab := tabs_kb pp kj tab
        have eW := kj.kb _ _ nDp eW
        have kn := kn.trans (KN.kb kj)
        have lsl : ls.length ≤ 7 := by
          have := sub.length_le
          omega
        have pj : PenAt G7 p (61 + 8 * (i + 1)) := pj.mono (by rw [List.length_map]; omega)
        have lsa : ∀ c ∈ ls, 97 ≤ c ∧ c ≤ 122 := fun c hc => dsa c (sub.subset hc)
        have llt := dlt.sublist sub
        clear pp kj eb dsa dlt dsl sub
        dsimp only [gName, List.set_cons_succ, List.set_cons_zero]
        have dok := sg_dat fun c hc => (lsa c hc).2
        refine ⟨_, rfl, Nat.zero_le _, fun e he => ?_⟩
        have se := Sm.new (o := .lst []) he
        refine ⟨_, .list [], .lst (SqL.of (se _ _ eL)) (dp_all dok), .lst (SqL.of upd_same) .nil, dat_shaped dok, sh_nil, ?_⟩
        have kn := kn.trans (KN.sm se)
        have pj := pj.sm se
        have tab := tab.ext se
        have eW := se _ _ eW
        have eL := se _ _ eL
        generalize upd G7 e (.lst []) = G8 at kn pj tab eW eL ⊢
        clear se he
        have en : (!PyData.eqv (.list ((sgL ls).map datV)) (.list [])) = decide (ls ≠ []) := by
          rw [eqv_nil, List.length_map]
          cases ls <;> rfl
        rw [en]
        by_cases c : ls = []
        · rw [decide_eq_false (fun y => y c)]
          refine ⟨_, rfl, ?_⟩
          exact iteF (iteF ⟨⟨_, _, _, rfl⟩, kn, pj, tab⟩)
        · rw [decide_eq_true c]
          refine ⟨_, rfl, ?_⟩
          refine iteT ?_
          refine ⟨_, rfl, ⟨_, rfl⟩, _, rfl, _, L, ls.map fun c => Tx [c], rfl, rfl, .inl (SqL.of (by rw [eL]; unfold sgL; rw [List.map_map]; rfl)), ?_, ?_⟩
          · rw [sum_tx, List.length_map]
            show ls.length + ls.length * 0 ≤ 16777216
            omega
          · rw [join_tx]
            refine ⟨_, rfl, D, ws, ls, wide, rfl, eW, h0, by omega, ok', w1, w2, c, lsa, by omega, llt, tab, fun G9 x9 t9 => ?_⟩
            exact ⟨_, rfl, iteF ⟨⟨_, _, _, rfl⟩, kn.trans (kn_ext x9), pen_ext pj x9, t9⟩⟩
    · rintro σ G1 ⟨⟨v3, v7, v8, rfl⟩, kn, pp, tab⟩
      dsimp only [gName, List.set_cons_succ, List.set_cons_zero]
      have eW := kn _ _ nDp eW noD
      have eS := kn _ _ nSp eS noS
      have pp : PenAt G1 p 100 := pp.mono (by omega)
      clear kn
      refine ⟨_, rfl, D4, rfl, ⟨_, SqL.of eS⟩, fun L hL => ?_⟩
      have hL4 : G1 L = none := hL
      have nLp := pp.ne hL4
      refine lc_it walk_list (fun j G => LamX.ExtN (upd G1 L (.lst [])) G ∧ LamX.Tabs (TL2 T1 T2) G) ⟨fun b o e _ => e, tab.ext (Sm.new hL4)⟩ (fun j G hj z => SqL.of (z.1 _ _ ((upd_ne (ne_of_none eS hL4)).trans eS) noS)) ?_ ?_
      · rintro j y G5 G6 hj ⟨xj, tj⟩ ⟨rfl, hy⟩
        obtain ⟨c, ec, rfl⟩ := sg_at hy
        have cm := List.mem_of_getElem? ec
        have ca := az c cm
        refine ⟨rfl, ?_⟩
        refine ⟨_, rfl, _, rfl, _, rfl, D, ws, [c], wide, rfl, xj _ _ ((upd_ne (ne_of_none eW hL4)).trans eW) noD, h0, by omega, ok', w1, w2, List.cons_ne_nil _ _, fun d hd => ?_, by show 1 ≤ 26; decide, List.pairwise_singleton _ _, tj, fun G7 x7 t7 => ?_⟩
        · rw [List.mem_singleton.mp hd]
          exact ⟨by omega, by omega⟩
        · exact ⟨_, rfl, xj.trans x7, t7⟩
      · rintro G2 ⟨xj, tj⟩
        have eL : G2 L = some (.lst []) := xj _ _ upd_same (fun _ z => nomatch z)
        have eW := xj _ _ ((upd_ne (ne_of_none eW hL4)).trans eW) noD
        have eS := xj _ _ ((upd_ne (ne_of_none eS hL4)).trans eS) noS
        have pp := pen_ext (pp.sm (Sm.new (o := .lst []) hL4)) xj
        refine ⟨Nat.zero_le _, fun e he => ?_⟩
        have se := Sm.new (o := .lst []) he
        refine ⟨.list [], .list [], .lst (SqL.of (se _ _ eL)) .nil, .lst (SqL.of upd_same) .nil, sh_nil, sh_nil, ?_⟩
        have eW := se _ _ eW
        have eS := se _ _ eS
        have pp := pp.sm se
        have tab := tj.ext se
        generalize upd G2 e (.lst []) = G3 at eW eS pp tab ⊢
        clear xj tj eL se he hL4 hL nLp
        refine ⟨_, rfl, iteF ?_⟩
        refine ⟨_, rfl, _, rfl, D, ws, [98, 99, 100, 101, 102, 103, 117], wide, congrArg (fun x => [V.ref D, V.str x, V.int (wide : Nat)]) (by decide +kernel), eW, h0, by omega, ok', w1, w2, List.cons_ne_nil _ _, by unfold azL; decide, by decide, by decide, tab, fun G4 x4 t4 => ?_⟩
        refine ⟨_, rfl, iteF ?_⟩
        have eW := x4 _ _ eW noD
        have eS := x4 _ _ eS noS
        have pp := pen_ext pp x4
        clear x4 tab
        refine ⟨_, rfl, _, rfl, ?_⟩
        show hCo K [.ref D, .int (wide : Nat)] _ _ _
        rw [hCo_eq]
        refine ⟨D, ws, wide, rfl, .inl (SqL.of eW), h0, by omega, ok', by omega, w1, w2, fun G5 N ns Rs s5 eN dN pN oN => ?_⟩
        dsimp only [gName, List.set_cons_succ, List.set_cons_zero]
        have eW := s5 _ _ eW
        have eS := s5 _ _ eS
        have pp := pp.sm s5
        have tab := t4.ext s5
        clear s5 t4 oN
        have low : ∀ c ∈ soundsOf ws, c < 128 := fun c hc => by have := az c hc; omega
        have ln : ns.length = Rs.length := by
          have := K5.dp_len (dN _ fun _ _ e => e)
          rw [List.length_map] at this
          exact this
        have n720 : Rs.length ≤ 720 := by
          have h1 := pN.length_eq
          have h2 := List.length_filter_le (isC (mB wide ws)) (prt (mB wide ws) (soundsOf ws))
          have h3 := prt_fac (B := mB wide ws) _ (soundsOf ws) rfl
          have h4 := fac_six (soundsOf ws).length (by omega)
          omega
        have pos : 0 < Rs.length := by
          obtain ⟨R, hR⟩ := some_coarse (B := mB wide ws) low asc
          exact List.length_pos_of_mem (pN.mem_iff.mpr hR)
        refine ⟨_, rfl, _, rfl, _, rfl, p, N, ns, _, rfl, pp, by omega, SqT.of eN, by omega, by omega, fun HA v kA pA hv => ?_⟩
        obtain ⟨k, hk, hkv⟩ := List.getElem_of_mem hv
        have hk' : k < Rs.length := by omega
        obtain ⟨dd, ed, hd⟩ := K5.dp_all_at (dN _ fun _ _ e => e) (List.getElem?_eq_getElem hk)
        rw [List.getElem?_map, List.getElem?_eq_getElem hk'] at ed
        obtain rfl := Option.some.inj ed
        have hR := (List.mem_filter.mp (pN.mem_iff.mp (List.getElem_mem hk'))).1
        generalize Rs[k] = R0 at hd hR
        obtain ⟨TR, eTR, hTR⟩ := dp_encL hd
        rw [hkv] at eTR
        obtain rfl := eTR
        have eW := kA.kb _ _ nDp eW
        have eS := kA.kb _ _ nSp eS
        have tab := tabs_kb pp kA tab
        have hTR := W5.V.Z.kb_t kA pp.some hTR
        refine ⟨_, rfl, D, TR, ws, R0, wide, rfl, eW, hTR, h0, l9, ok', w1, w2, by omega, hR, fun H6 s6 => ?_⟩
        refine ⟨_, rfl, iteF ?_⟩
        have eW := s6 _ _ eW
        have eS := s6 _ _ eS
        have pp := pA.sm s6
        have tab := tab.ext s6
        clear hTR s6 kA pA hv hd hR eN dN pN ln n720 pos hkv
        have fin : ∀ G, PenAt G p 101 → LamX.Tabs (TL2 T1 T2) G → spRef5 T1 T2 [.ref p] G Q E0 := fun G a b => ⟨p, 101, rfl, a, by omega, b, fun H' => q H'⟩
        refine ⟨_, rfl, rfl, _, rfl, ?_⟩
        rw [dec_int]
        rcases (show wide = 2 ∨ wide = 1 by omega) with rfl | rfl
        · rw [show ((((2 : Nat) : Int)) == 1) = false from rfl]
          exact iteF (iteF ⟨_, rfl, fin _ pp tab⟩)
        · rw [show ((((1 : Nat) : Int)) == 1) = true from rfl]
          refine iteT ?_
          refine ⟨_, rfl, Nat.zero_le _, fun e he => ?_⟩
          have se := Sm.new (o := .lst []) he
          have dok := sg_dat fun c hc => Nat.le_succ_of_le (az c hc).2.1
          refine ⟨_, .list [], .lst (SqL.of (se _ _ eS)) (dp_all dok), .lst (SqL.of upd_same) .nil, dat_shaped dok, sh_nil, ?_⟩
          have eW := se _ _ eW
          have eS := se _ _ eS
          have pp := pp.sm se
          have tab := tab.ext se
          generalize upd H6 e (.lst []) = H7 at eW eS pp tab ⊢
          clear se he
          have en : (!PyData.eqv (.list ((sgL (soundsOf ws)).map datV)) (.list [])) = decide (soundsOf ws ≠ []) := by
            rw [eqv_nil, List.length_map]
            cases soundsOf ws <;> rfl
          rw [en]
          by_cases c : soundsOf ws = []
          · rw [decide_eq_false (fun y => y c)]
            exact ⟨_, rfl, iteF (iteF ⟨_, rfl, fin _ pp tab⟩)⟩
          · rw [decide_eq_true c]
            refine ⟨_, rfl, iteT ?_⟩
            obtain ⟨c0, r0, eso⟩ := List.exists_cons_of_ne_nil c
            have a0 : atI (sgL (soundsOf ws)) 0 = some (.str (Tx [c0])) := atI_nat (j := 0) (by rw [eso]; rfl)
            have ca := az c0 (by rw [eso]; exact List.mem_cons_self)
            have la : azL [c0] := fun d hd => by
              rw [List.mem_singleton.mp hd]
              exact ⟨by omega, by omega⟩
            have np : ∀ q ∈ pr2 [c0], mB 1 ws q.1 q.2 = false := fun q hq => absurd hq List.not_mem_nil
            have lo1 : ∀ d ∈ [c0], d < 128 := fun d hd => by
              rw [List.mem_singleton.mp hd]
              omega
            refine ⟨_, rfl, _, rfl, D4, _, 0, _, rfl, rfl, SqL.of eS, a0, ?_⟩
            show hRX K cs Z [.ref D, .str (Tx [c0]), .int ((1 : Nat) : Int)] _ _ _
            refine rx_ok (.inl (SqL.of eW)) h0 (by omega) ok' (List.cons_ne_nil _ _) la (by show 1 ≤ 26; decide) (List.pairwise_singleton _ _) (by decide) (by decide) (.inr ⟨np, fun H8 P8 xs8 rows8 s8 e8 d8 o8 => ?_⟩)
            refine ⟨_, rfl, D, _, rfl, .inl ⟨SqL.of (s8 _ _ eW), fun T9 hT9 => ?_⟩⟩
            have s9 := Sm.new (o := .tup (tws ws)) hT9
            refine ⟨_, rfl, D4, _, 0, _, rfl, rfl, SqL.of (s9 _ _ (s8 _ _ eS)), a0, ?_⟩
            show hRX K cs Z [.ref T9, .str (Tx [c0]), .int ((1 : Nat) : Int)] _ _ _
            refine rx_ok (.inr (SqT.of upd_same)) h0 (by omega) ok' (List.cons_ne_nil _ _) la (by show 1 ≤ 26; decide) (List.pairwise_singleton _ _) (by decide) (by decide) (.inr ⟨np, fun HA PA xsA rowsA sA eA dA oA => ?_⟩)
            obtain rfl := o8.uniq oA
            refine ⟨.tuple (rows8.map enc3), .tuple (rows8.map enc3), .tup (SqT.of (sA _ _ (s9 _ _ e8))) (d8 _ (s9.trans sA)), .tup (SqT.of eA) (dA _ fun _ _ e => e), rows_sh ok' lo1 o8, rows_sh ok' lo1 o8, ?_⟩
            rw [eqv_rows]
            refine ⟨_, rfl, iteF ?_⟩
            exact ⟨_, rfl, fin _ (pp.sm ((s8.trans s9).trans sA)) (tab.ext ((s8.trans s9).trans sA))⟩
end
end R
end W5.V
namespace W5.V
open PySem PySem.Spec PyProof.Rows L2 K0 K6
open K4 hiding Blt
section
variable {P : Program} {w : World} {K : PySem.W.Frag} {mg : Str → Option Value} {base : Heap}
abbrev st_i_BadStock : Stmt := inClass (top 10) 0
theorem sc_i_BadStock : FnScope ["self", "part"] ["self", "part"] (defScope st_i_BadStock) := ⟨rfl, rfl, rfl, by decide +kernel, rfl, by decide +kernel, by decide +kernel⟩
theorem ok_i_BadStock {f : Addr} {fd : FuncData} (F : Fun K "__init__" "BadStock.__init__" st_i_BadStock f fd) : FnOk P w K mg base CX0 1 f fd ["self", "part"] (spInit1 K "part") := by
  refine F.ok sc_i_BadStock (fun vs H Q E h => ?_) (fun cdv A outer s H vs Q E hr h => ?_)
  · obtain ⟨a, C, v, rfl, _⟩ := h
    rfl
  · obtain ⟨a, C, v, rfl, T, hno, ha, k⟩ := h
    exact ⟨_, pss_one (ps_ost (pv 0) (pv 1)), _, rfl, _, rfl, a, C, rfl, T, hno, .inl ⟨ha, fun dx n ne => k dx n ne⟩⟩
abbrev st_i_Impossible : Stmt := inClass (top 12) 0
theorem sc_i_Impossible : FnScope ["self", "paper"] ["self", "paper"] (defScope st_i_Impossible) := ⟨rfl, rfl, rfl, by decide +kernel, rfl, by decide +kernel, by decide +kernel⟩
theorem ok_i_Impossible {f : Addr} {fd : FuncData} (F : Fun K "__init__" "Impossible.__init__" st_i_Impossible f fd) : FnOk P w K mg base CX0 1 f fd ["self", "paper"] (spInit1 K "paper") := by
  refine F.ok sc_i_Impossible (fun vs H Q E h => ?_) (fun cdv A outer s H vs Q E hr h => ?_)
  · obtain ⟨a, C, v, rfl, _⟩ := h
    rfl
  · obtain ⟨a, C, v, rfl, T, hno, ha, k⟩ := h
    exact ⟨_, pss_one (ps_ost (pv 0) (pv 1)), _, rfl, _, rfl, a, C, rfl, T, hno, .inl ⟨ha, fun dx n ne => k dx n ne⟩⟩
end
theorem funD_coarsest {K : PySem.W.Frag} {f T : Addr} {oc : Value} {od an : Option Addr} {osl : Array (Option Value)} {kV doc pm cdv ct : Value} {o : Obj} {its : List Value} {n : Nat}
    (l : K.lookup f = some ⟨oc, od, .func (PySem.W.fnOf "coarsest" "coarsest" (defArgs st_coarsest) (defBody st_coarsest) (defScope st_coarsest) (.ref T) kV doc pm an cdv ct), osl⟩)
    (c : PySem.W.codeIn K cdv "coarsest" = true) (t : K.lookup T = some o) (d : o.data = .seq its.toArray n) (v : Vals [V.int 1] its) (k : PySem.W.keepIn K (.ref f) = true) : ∃ fd : FuncData, FCo K f fd :=
  ⟨_, ⟨oc, od, .ref T, kV, doc, pm, an, cdv, ct, osl, rfl, l, c, .inr ⟨by exact List.cons_ne_nil _ _, T, o, its, n, rfl, t, d, v⟩, .inl rfl⟩, k⟩
theorem funD_rule_table {K : PySem.W.Frag} {f T : Addr} {oc : Value} {od an : Option Addr} {osl : Array (Option Value)} {kV doc pm cdv ct : Value} {o : Obj} {its : List Value} {n : Nat}
    (l : K.lookup f = some ⟨oc, od, .func (PySem.W.fnOf "rule_table" "rule_table" (defArgs st_rule_table) (defBody st_rule_table) (defScope st_rule_table) (.ref T) kV doc pm an cdv ct), osl⟩)
    (c : PySem.W.codeIn K cdv "rule_table" = true) (t : K.lookup T = some o) (d : o.data = .seq its.toArray n) (v : Vals [V.int 1] its) (k : PySem.W.keepIn K (.ref f) = true) : ∃ fd : FuncData, FRt K f fd :=
  ⟨_, ⟨oc, od, .ref T, kV, doc, pm, an, cdv, ct, osl, rfl, l, c, .inr ⟨by exact List.cons_ne_nil _ _, T, o, its, n, rfl, t, d, v⟩, .inl rfl⟩, k⟩
/-! ### the way in: two tables, one script -/
/-- the script's list, as the caller laid it -/
abbrev oScr (vs : List Value) : Obj := { cls := .type "list", data := .seq vs.toArray }
structure Door (K : PySem.W.Frag) (h : Heap) (t t2 a : Addr) (vs : List Value) (ns : List Int) : Prop where
  kin : K.In h
  tab : h.get? t = some (PySem.W.tabObj #[])
  tab2 : h.get? t2 = some (PySem.W.tabObj #[])
  out : K.lookup t = none
  out2 : K.lookup t2 = none
  scr : h.get? a = some (oScr vs)
  rel : Vals (ns.map V.int) vs
  few : ns.length ≤ sizeLine
  few' : vs.length ≤ sizeLine
/-- what is told of the heap: the tables, and the script unless the written part has it -/
def told (K : PySem.W.Frag) (t t2 a : Addr) (vs : List Value) (ns : List Int) : Hp := fun b =>
  if b = t ∨ b = t2 then some (.tbl #[]) else if b = a then (if (K.lookup a).isNone then some (.frz (oScr vs) (.lst (ns.map V.int))) else none) else none
namespace Door
variable {P : Program} {w : World} {K : PySem.W.Frag} {mg : Str → Option Value} {h : Heap} {c u t t2 a b : Addr} {o : Obj} {vs : List Value} {ns : List Int}
theorem isTab (D : Door K h t t2 a vs ns) (z : b = t ∨ b = t2) : h.get? b = some (PySem.W.tabObj #[]) := by
  rcases z with rfl | rfl
  · exact D.tab
  · exact D.tab2
theorem isOut (D : Door K h t t2 a vs ns) (z : b = t ∨ b = t2) : K.lookup b = none := by
  rcases z with rfl | rfl
  · exact D.out
  · exact D.out2
theorem not_t (D : Door K h t t2 a vs ns) (e : h.get? b = some o) (hd : ∀ us, o.data ≠ .fields us) : ¬ (b = t ∨ b = t2) := fun z =>
  hd _ (congrArg Obj.data (Option.some.inj (e.symm.trans (D.isTab z))))
theorem not_a (D : Door K h t t2 a vs ns) (e : h.get? b = some o) (hd : ∀ us n, o.data ≠ .seq us n) : b ≠ a := fun z => by
  subst z
  exact hd _ _ (congrArg Obj.data (Option.some.inj (e.symm.trans D.scr)))
theorem ne (D : Door K h t t2 a vs ns) : ¬ (a = t ∨ a = t2) := D.not_t D.scr fun us z => by cases z
theorem told_t (z : b = t ∨ b = t2) : told K t t2 a vs ns b = some (.tbl #[]) := if_pos z
theorem told_a (D : Door K h t t2 a vs ns) (e : K.lookup a = none) : told K t t2 a vs ns a = some (.frz (oScr vs) (.lst (ns.map V.int))) := by
  unfold told
  rw [if_neg D.ne, if_pos rfl, if_pos (by rw [e]; rfl)]
theorem untold (n1 : ¬ (b = t ∨ b = t2)) (n2 : b = a → K.lookup a ≠ none) : told K t t2 a vs ns b = none := by
  unfold told
  rw [if_neg n1]
  split
  · next z => exact if_neg fun y => n2 z (Option.isNone_iff_eq_none.mp y)
  · rfl
theorem see (e : h.get? b = some o) (n1 : ¬ (b = t ∨ b = t2)) (n2 : b = a → K.lookup a ≠ none) : (hidT h (told K t t2 a vs ns)).get? b = some o := hidT_get e (untold n1 n2)
theorem stays (D : Door K h t t2 a vs ns) : K.In (hidT h (told K t t2 a vs ns)) := fun b o e =>
  see (D.kin b o e) (fun z => by rw [D.isOut z] at e; cases e) fun z y => by rw [← z, e] at y; cases y
theorem space (D : Door K h t t2 a vs ns) {m : Str → Option Value} : h.Ns b m → (hidT h (told K t t2 a vs ns)).Ns b m
  | ⟨o, es, ep, e, hd, r⟩ => ⟨o, es, ep, see e (D.not_t e fun us z => by rw [hd] at z; cases z) (fun z => absurd z (D.not_a e fun us n z => by rw [hd] at z; cases z)), hd, r⟩
theorem fits (D : Door K h t t2 a vs ns) : HOk P w (told K t t2 a vs ns) h := fun b u e => by
  unfold told at e
  split at e
  · next z =>
    cases e
    exact D.isTab z
  · split at e
    · next z =>
      split at e
      · cases e
        rw [z]
        exact ⟨D.scr, by rw [List.length_map]; exact D.few, vs, _, D.rel, D.scr⟩
      · cases e
    · cases e
theorem script (D : Door K h t t2 a vs ns) : SqL K (told K t t2 a vs ns) a (ns.map V.int) := by
  cases e : K.lookup a with
  | none => exact .inl (.inr ⟨_, D.told_a e⟩)
  | some o =>
    obtain rfl : o = oScr vs := Option.some.inj ((D.kin a o e).symm.trans D.scr)
    exact .inr ⟨_, _, _, e, rfl, rfl, rfl, by rw [List.size_toArray]; exact D.few', by simpa using D.rel⟩
theorem not_code (D : Door K h t t2 a vs ns) (e : h.get? b = some o) (hc : o.cls = .type "code") : ¬ (b = t ∨ b = t2) := fun z => by
  have := (congrArg Obj.cls (Option.some.inj (e.symm.trans (D.isTab z)))).symm.trans hc
  exact absurd this (by decide)
theorem table (D : Door K h t t2 a vs ns) (hu : u = t ∨ u = t2) (C : PySem.W.CodeHd h c u) (N : h.Ns mainGlobals mg)
    (B : ∃ (bm : Addr) (ob : Obj), mg "__builtins__" = some (.ref bm) ∧ bm ≠ builtinsNs ∧ h.get? bm = some ob ∧ ob.cls = .type "module" ∧ ob.dict = some builtinsNs ∧ ob.data = .plain) : LamX.TabB (hidT h (told K t t2 a vs ns)) mg c u := by
  obtain ⟨og, es, ep, eg, dg, _⟩ := N
  have nu : ∀ {b o}, h.get? b = some o → (∀ us, o.data ≠ .fields us) → b ≠ u := fun e q z => D.not_t e q (z ▸ hu)
  refine ⟨?_, ?_, nu eg fun us z => by rw [dg] at z; cases z⟩
  · obtain ⟨o, us, f, tf, g, tg, i, x, tt, e, r1, r2, r⟩ := C
    exact ⟨o, us, f, tf, g, tg, i, x, tt, see e (D.not_code e r1) (fun z => absurd z (D.not_a e fun us n z => by rw [r2] at z; cases z)), r1, r2, r⟩
  · obtain ⟨bm, ob, b1, b2, e, b4, b5, b6⟩ := B
    have nf : ∀ us, ob.data ≠ .fields us := fun us z => by rw [b6] at z; cases z
    refine ⟨bm, ob, b1, b2, fun z => ?_, nu e nf, see e (D.not_t e nf) (fun z => absurd z (D.not_a e fun us n z => by rw [b6] at z; cases z)), b4, b5, b6⟩
    rw [z, eg] at e
    cases e
    rw [b6] at dg
    cases dg
/-- what was there is there when a call ends that tells `true` -/
theorem close (D : Door K h t t2 a vs ns) (C : ∀ b, b = t ∨ b = t2 → ∃ c, PySem.W.CodeHd h c b) {H' : Hp} {h' : Heap} (U : Un [] [] (told K t t2 a vs ns) H' h h') (O : HOk P w H' h') : OldK h h' := by
  have same : ∀ b o, h.get? b = some o → ¬ (b = t ∨ b = t2) → h'.get? b = some o := fun b o e n => by
    by_cases q : b = a ∧ K.lookup a = none
    · obtain ⟨rfl, k⟩ := q
      exact (O _ _ (U.frzs _ _ _ (D.told_a k))).1.trans (D.scr.symm.trans e)
    · exact U.keep b o e (untold n fun z y => q ⟨z, y⟩) List.not_mem_nil List.not_mem_nil
  refine ⟨fun b o e => ?_, fun b o e => ?_⟩
  · by_cases z : b = t ∨ b = t2
    · obtain ⟨more, m⟩ := U.tbls b #[] (told_t z)
      have g := O _ _ m
      obtain ⟨c, C⟩ := C b z
      obtain rfl := Option.some.inj (e.symm.trans (D.isTab z))
      refine .inr (.inl ⟨(C.tab (D.isTab z)).isCodeTable, rfl, #[], more, rfl, ?_⟩)
      rw [Array.empty_append] at g ⊢
      exact g
    · exact .inl (same b o e z)
  · by_cases z : b = t ∨ b = t2
    · obtain ⟨more, m⟩ := U.tbls b #[] (told_t z)
      exact ⟨_, O _ _ m⟩
    · exact ⟨o, same b o e z⟩
end Door
/-- k74's law, ready to be called from the head's heap -/
def Ready (P : Program) (w : World) (K : PySem.W.Frag) (mg : Str → Option Value) (fa : Addr) (h : Heap) : Prop :=
  ∃ (fd : FuncData) (c t c2 t2 : Addr), h.get? t = some (PySem.W.tabObj #[]) ∧ K.lookup t = none ∧ PySem.W.CodeHd h c t ∧ h.get? t2 = some (PySem.W.tabObj #[]) ∧ K.lookup t2 = none ∧ PySem.W.CodeHd h c2 t2 ∧ (∀ (s : Shared) (u : Value), BindsTo s fd ⟨[u], []⟩ [("_law_script", u)]) ∧
    ∀ base : Heap, K.In base → base.Ns mainGlobals mg → LamX.TabB base mg c t → LamX.TabB base mg c2 t2 → FnG P w K mg base CX0 14 fa fd ["_law_script"] (R.spLaw5 K t t2)
theorem walk74 {l : PySem.W.OpenLaw} {q : Program} {loose : List Str} {XP : (Str → Option Value) → Heap → Prop} {YP : World → Heap → Prop} {d : DefRec} {K : Params → PySem.W.Frag} (hn : l.most = some 63) (hdf : d.params.defaults = [])
    (hY : ∀ (w : World) (h : Heap), YP w h → (K w.params).In h)
    (F : ∀ (w : World) (mg : Str → Option Value) (fa : Addr) (h : Heap), YP w h → (K w.params).In h → h.Ns mainGlobals mg → mg d.name = some (.ref fa) → Ready l.prog w (K w.params) mg fa h) :
    PySem.W.WalkO q loose XP YP l.row.toRowW d [] (fun f vs => PySem.call f vs) := by
  refine Att.attach_callB hn hdf fun w _ s mg mb fa _ _ _ _ a vs ns G Y _ _ _ hmg hobj hints hlen _ hg => ?_
  obtain ⟨fd, c, t, c2, t2, e, k, C, e2, k2, C2, hb, hF⟩ := F w mg fa _ Y (hY w _ Y) G.T.g hmg
  have n63 : ns.length ≤ sizeLine := Nat.le_trans hlen (by decide)
  have D : Door (K w.params) s.heap t t2 a vs ns := ⟨hY w _ Y, e, e2, k, k2, hobj, vals_ints hints, n63, by rw [hints.length]; exact n63⟩
  obtain ⟨ms, l1, l2⟩ := G.T.nolimit
  have M : L2.Mod (K w.params) mg (hidT s.heap (told (K w.params) t t2 a vs ns)) := ⟨D.stays, D.space G.T.g, ⟨mb, D.space G.T.b, G.T.builtins⟩, ms, D.space l1, l2⟩
  refine codeAny_mono ((hF _ D.stays (D.space G.T.g) (D.table (.inl rfl) C G.T.g G.T.bmain) (D.table (.inr rfl) C2 G.T.g G.T.bmain)).run callerA [] s (told (K w.params) t t2 a vs ns) ⟨[.ref a], []⟩ [.ref a] [.ref a] (fun v _ => v = .bl true) (fun _ _ _ => False) rfl ⟨rfl, by decide, by decide⟩
    { frames := rfl, mod := M, bs := fun b o z => of_hidT z, bsz := Nat.le_of_eq (hidT_size _ _), funs := trivial, frf := fun b z => absurd z List.not_mem_nil, hok := D.fits, bare := .of_eq hg }
    (hb s (.ref a)) (.cons rfl .nil) ⟨a, ns, rfl, D.script, hlen, fun p hp => ?_, fun _ => rfl⟩) fun r s' z => ?_
  · rcases List.mem_cons.mp hp with rfl | hp
    · exact .nil (Door.told_t (.inl rfl))
    · rw [List.mem_singleton.mp hp]
      exact .nil (Door.told_t (.inr rfl))
  · match r, z with
    | .ok (.ret u), ⟨v, H', z1, z2, un, ok', rv, e⟩ =>
      have e' : v = .bl true := e
      subst e'
      obtain rfl : u = Value.bool true := rv
      exact ⟨rfl, D.close (fun b z => z.elim (fun z => ⟨c, z ▸ C⟩) fun z => ⟨c2, z ▸ C2⟩) un ok', z1, z2⟩
    | .ok .next, z => exact False.elim z
    | .ok .brk, z => exact False.elim z
    | .ok .cont, z => exact False.elim z
    | .error e, z => exact False.elim z
end W5.V
namespace W5.V
open PySem PySem.Spec PyProof.Rows L2 K0 K6
open K4 hiding Blt
def csF (a b d e f : Addr) : Nat → Addr
  | 0 => a
  | 1 => b
  | 3 => d
  | 4 => e
  | 5 => f
  | _ => a
set_option maxHeartbeats 4000000 in
theorem all_mk {l : PySem.W.OpenLaw} {w : World} {K : PySem.W.Frag} {h : Heap} {mg : Str → Option Value} {fa : Addr} {c_BadWord c_BadNumber c_TooMany c_BadStock c_Impossible f_BadWord f_BadNumber f_TooMany f_BadStock f_Impossible c_Against c_Denial c_Paper f_Against f_Denial cda_A cc_A cda_D cc_D f_Paper f_Deq u__law_refused_right v__law_refused_right u__law_lot_right v__law_lot_right a_is_integer a_is_within a_is_list a_is_long_word a_is_rising a_is_word a_pairs_of_places a_need_number a_fixed a_are_equal a_need_own_words a_need_wide a_need_few_words a_surroundings_at a_places_by_sound a_least_against a_pairs_among a_is_lot_by_rule a_partings_of a_is_coarsest_parting a_coarsest a_rule_table a__law_pen a__law_draw a__law_pick a__law_words a__law_near a__law_places a__law_nears a__law_against a__law_sounds a__law_heard a__law_lot_right a__law_told_back a__law_refused_right a_law : Addr} {t_MOST_WORDS t_EDGE t_MOST_SOUNDS : Tok} (X : K.In h) (G : h.Ns mainGlobals mg) (hfa : mg "law" = some (.ref fa))
    (z_len : PySem.W.nsIn K mainGlobals "len" = some none)
    (z_isinstance : PySem.W.nsIn K mainGlobals "isinstance" = some none)
    (z_int : PySem.W.nsIn K mainGlobals "int" = some none)
    (z_bool : PySem.W.nsIn K mainGlobals "bool" = some none)
    (z_str : PySem.W.nsIn K mainGlobals "str" = some none)
    (z_list : PySem.W.nsIn K mainGlobals "list" = some none)
    (z_tuple : PySem.W.nsIn K mainGlobals "tuple" = some none)
    (z_all : PySem.W.nsIn K mainGlobals "all" = some none)
    (z_any : PySem.W.nsIn K mainGlobals "any" = some none)
    (z_zip : PySem.W.nsIn K mainGlobals "zip" = some none)
    (z_abs : PySem.W.nsIn K mainGlobals "abs" = some none)
    (z_range : PySem.W.nsIn K mainGlobals "range" = some none)
    (z_enumerate : PySem.W.nsIn K mainGlobals "enumerate" = some none)
    (z_set : PySem.W.nsIn K mainGlobals "set" = some none)
    (z_min : PySem.W.nsIn K mainGlobals "min" = some none)
    (z_max : PySem.W.nsIn K mainGlobals "max" = some none)
    (z_sum : PySem.W.nsIn K mainGlobals "sum" = some none)
    (z_repr : PySem.W.nsIn K mainGlobals "repr" = some none)
    (z_super : PySem.W.nsIn K mainGlobals "super" = some none)
    (z_sorted : PySem.W.nsIn K mainGlobals "sorted" = some none)
    (k_MOST_WORDS : PySem.W.nsIn K mainGlobals "MOST_WORDS" = some (some (.int 12 t_MOST_WORDS)))
    (k_MOST_SOUNDS : PySem.W.nsIn K mainGlobals "MOST_SOUNDS" = some (some (.int 6 t_MOST_SOUNDS)))
    (k_EDGE : PySem.W.nsIn K mainGlobals "EDGE" = some (some (.str "#" t_EDGE)))
    (n_BadWord : PySem.W.nsIn K mainGlobals "BadWord" = some (some (.ref c_BadWord)))
    (o_BadWord : OexC K c_BadWord)
    (i_BadWord : PySem.W.findIn K (.ref c_BadWord) "__init__" = some (some (.ref f_BadWord)))
    (p_BadWord_part : PySem.W.findIn K (.ref c_BadWord) "part" = some none)
    (n_BadNumber : PySem.W.nsIn K mainGlobals "BadNumber" = some (some (.ref c_BadNumber)))
    (o_BadNumber : OexC K c_BadNumber)
    (i_BadNumber : PySem.W.findIn K (.ref c_BadNumber) "__init__" = some (some (.ref f_BadNumber)))
    (p_BadNumber_part : PySem.W.findIn K (.ref c_BadNumber) "part" = some none)
    (n_TooMany : PySem.W.nsIn K mainGlobals "TooMany" = some (some (.ref c_TooMany)))
    (o_TooMany : OexC K c_TooMany)
    (i_TooMany : PySem.W.findIn K (.ref c_TooMany) "__init__" = some (some (.ref f_TooMany)))
    (p_TooMany_what : PySem.W.findIn K (.ref c_TooMany) "what" = some none)
    (p_TooMany_most : PySem.W.findIn K (.ref c_TooMany) "most" = some none)
    (n_BadStock : PySem.W.nsIn K mainGlobals "BadStock" = some (some (.ref c_BadStock)))
    (o_BadStock : OexC K c_BadStock)
    (i_BadStock : PySem.W.findIn K (.ref c_BadStock) "__init__" = some (some (.ref f_BadStock)))
    (p_BadStock_part : PySem.W.findIn K (.ref c_BadStock) "part" = some none)
    (n_Impossible : PySem.W.nsIn K mainGlobals "Impossible" = some (some (.ref c_Impossible)))
    (o_Impossible : OexC K c_Impossible)
    (i_Impossible : PySem.W.findIn K (.ref c_Impossible) "__init__" = some (some (.ref f_Impossible)))
    (p_Impossible_paper : PySem.W.findIn K (.ref c_Impossible) "paper" = some none)
    (t_BadWord : PySem.W.typeIn K (.ref f_BadWord) = some (.type "function"))
    (G_BadWord : ∃ fd : FuncData, Fun K "__init__" "BadWord.__init__" st_i_BadWord f_BadWord fd)
    (t_BadNumber : PySem.W.typeIn K (.ref f_BadNumber) = some (.type "function"))
    (G_BadNumber : ∃ fd : FuncData, Fun K "__init__" "BadNumber.__init__" st_i_BadNumber f_BadNumber fd)
    (t_TooMany : PySem.W.typeIn K (.ref f_TooMany) = some (.type "function"))
    (G_TooMany : ∃ fd : FuncData, Fun K "__init__" "TooMany.__init__" st_i_TooMany f_TooMany fd)
    (t_BadStock : PySem.W.typeIn K (.ref f_BadStock) = some (.type "function"))
    (G_BadStock : ∃ fd : FuncData, Fun K "__init__" "BadStock.__init__" st_i_BadStock f_BadStock fd)
    (t_Impossible : PySem.W.typeIn K (.ref f_Impossible) = some (.type "function"))
    (G_Impossible : ∃ fd : FuncData, Fun K "__init__" "Impossible.__init__" st_i_Impossible f_Impossible fd)
    (xf_BadWord : XfC K c_BadWord)
    (xf_BadNumber : XfC K c_BadNumber)
    (xf_TooMany : XfC K c_TooMany)
    (xf_BadStock : XfC K c_BadStock)
    (xf_Impossible : XfC K c_Impossible)
    (xm_00 : PySem.W.exmOne K (.ref c_BadWord) (.ref c_BadWord) = some true)
    (xm_40 : PySem.W.exmOne K (.ref c_BadStock) (.ref c_BadWord) = some false)
    (xm_44 : PySem.W.exmOne K (.ref c_BadStock) (.ref c_BadStock) = some true)
    (xm_10 : PySem.W.exmOne K (.ref c_BadNumber) (.ref c_BadWord) = some false)
    (xm_14 : PySem.W.exmOne K (.ref c_BadNumber) (.ref c_BadStock) = some false)
    (xm_11 : PySem.W.exmOne K (.ref c_BadNumber) (.ref c_BadNumber) = some true)
    (xm_50 : PySem.W.exmOne K (.ref c_Impossible) (.ref c_BadWord) = some false)
    (xm_54 : PySem.W.exmOne K (.ref c_Impossible) (.ref c_BadStock) = some false)
    (xm_51 : PySem.W.exmOne K (.ref c_Impossible) (.ref c_BadNumber) = some false)
    (xm_55 : PySem.W.exmOne K (.ref c_Impossible) (.ref c_Impossible) = some true)
    (xm_30 : PySem.W.exmOne K (.ref c_TooMany) (.ref c_BadWord) = some false)
    (xm_34 : PySem.W.exmOne K (.ref c_TooMany) (.ref c_BadStock) = some false)
    (xm_31 : PySem.W.exmOne K (.ref c_TooMany) (.ref c_BadNumber) = some false)
    (xm_35 : PySem.W.exmOne K (.ref c_TooMany) (.ref c_Impossible) = some false)
    (xm_33 : PySem.W.exmOne K (.ref c_TooMany) (.ref c_TooMany) = some true)
    (ks_hn : PySem.W.specialIn K (.builtin "object.__class__") "__get__" = some (some (.builtin "getset_descriptor.__get__")))
    (ks_ht : PySem.W.takesIn K (.builtin "object.__class__") = some true)
    (n_Against : PySem.W.nsIn K mainGlobals "Against" = some (some (.ref c_Against)))
    (n_Denial : PySem.W.nsIn K mainGlobals "Denial" = some (some (.ref c_Denial)))
    (n_Paper : PySem.W.nsIn K mainGlobals "Paper" = some (some (.ref c_Paper)))
    (cl_Against : Cls K c_Against)
    (na_Against_kind : PySem.W.findIn K (.ref c_Against) "kind" = some none)
    (na_Against_parts : PySem.W.findIn K (.ref c_Against) "parts" = some none)
    (na_Against_one : PySem.W.findIn K (.ref c_Against) "one" = some none)
    (na_Against_other : PySem.W.findIn K (.ref c_Against) "other" = some none)
    (mk_Against : Mk K c_Against f_Against)
    (su_foundA : PySem.W.ks_superIn K c_Against c_Against "__init__" = some (some (.ref f_Denial)))
    (su_foundD : PySem.W.ks_superIn K c_Against c_Denial "__init__" = some (some (.ref f_Paper)))
    (G_Against : ∃ fd : FuncData, FunS K "__init__" "Against.__init__" st_Against____init__ f_Against cda_A cc_A fd)
    (su_cellA : ∃ (cl : Value) (cld : Option Addr) (csl : Array (Option Value)), K.lookup cc_A = some ⟨cl, cld, .cell (some (.ref c_Against)), csl⟩)
    (su_codeA : ∃ (ccl : Value) (cdd : Option Addr) (vs : Array Value) (ccs : Array (Option Value)) (file : Str) (tf : Tok), K.lookup cda_A = some ⟨ccl, cdd, .fields vs, ccs⟩ ∧ vs[2]? = some (.str file tf) ∧ ((l.prog.main.file : Str) == file) = true)
    (su_clsA : ∃ cd : ClassData, PySem.W.clsIn K c_Against = some cd)
    (G_Denial : ∃ fd : FuncData, FunS K "__init__" "Denial.__init__" st_Denial____init__ f_Denial cda_D cc_D fd)
    (su_cellD : ∃ (cl : Value) (cld : Option Addr) (csl : Array (Option Value)), K.lookup cc_D = some ⟨cl, cld, .cell (some (.ref c_Denial)), csl⟩)
    (su_codeD : ∃ (ccl : Value) (cdd : Option Addr) (vs : Array Value) (ccs : Array (Option Value)) (file : Str) (tf : Tok), K.lookup cda_D = some ⟨ccl, cdd, .fields vs, ccs⟩ ∧ vs[2]? = some (.str file tf) ∧ ((l.prog.main.file : Str) == file) = true)
    (su_clsD : ∃ cd : ClassData, PySem.W.clsIn K c_Denial = some cd)
    (su_subA : PySem.W.mroIn K c_Against (.ref c_Against) = some true)
    (su_subD : PySem.W.mroIn K c_Against (.ref c_Denial) = some true)
    (su_opq : PySem.W.nsIn K cStatics "thirdparty.any" = some none)
    (su_fnA : PySem.W.typeIn K (.ref f_Denial) = some (.type "function"))
    (su_fiA : PySem.W.fnIn K f_Denial = true)
    (su_fnD : PySem.W.typeIn K (.ref f_Paper) = some (.type "function"))
    (su_fiD : PySem.W.fnIn K f_Paper = true)
    (su_top : (l.prog.main.scope.names.lookup ("super" : Str)).isSome = false)
    (G_Paper : ∃ fd : FuncData, Fun K "__init__" "Paper.__init__" st_Paper____init__ f_Paper fd)
    (zn_pg : PySem.W.plainGet K c_Against "__class__" = true)
    (zn_hd : PySem.W.hasDictIn K c_Against = true)
    (zn_fi : PySem.W.findIn K (.ref c_Against) "__class__" = some (some (.builtin "object.__class__")))
    (zn_mro : PySem.W.mroIn K c_Against (.type "object") = some true)
    (zn_rd : PySem.W.readsIn K c_Against (.type "type") = true)
    (zn_fn : PySem.W.findCls K (.ref c_Against) (.type "type") "__name__" = some (.get (.builtin "getset_descriptor.__get__") (.builtin "type.__name__") (.ref c_Against) (.type "type")))
    (zn_ty : PySem.W.typeIn K (.ref c_Against) = some (.type "type"))
    (zn_nm : K5.KeptName K c_Against "Against")
    (zn_kP : PySem.W.kitOne K (.ref c_Against) (.ref c_Denial) = some true)
    (zn_eq : PySem.W.findIn K (.ref c_Against) "__eq__" = some (some (.ref f_Deq)))
    (zn_ef : PySem.W.isFn K (.ref f_Deq) = true)
    (G_Deq : ∃ fd : FuncData, Fun K "__eq__" "Denial.__eq__" st_Denial____eq__ f_Deq fd)
    (tb__law_refused_right : PySem.W.tabIn K "_law_refused_right" = some (u__law_refused_right, v__law_refused_right))
    (tc__law_refused_right : PySem.W.codeHdIn K u__law_refused_right v__law_refused_right = true)
    (tn__law_refused_right : (K.lookup v__law_refused_right).isNone = true)
    (tb__law_lot_right : PySem.W.tabIn K "_law_lot_right" = some (u__law_lot_right, v__law_lot_right))
    (tc__law_lot_right : PySem.W.codeHdIn K u__law_lot_right v__law_lot_right = true)
    (tn__law_lot_right : (K.lookup v__law_lot_right).isNone = true)
    (d_is_integer : PySem.W.nsIn K mainGlobals "is_integer" = some (some (.ref a_is_integer)))
    (d_is_within : PySem.W.nsIn K mainGlobals "is_within" = some (some (.ref a_is_within)))
    (d_is_list : PySem.W.nsIn K mainGlobals "is_list" = some (some (.ref a_is_list)))
    (d_is_long_word : PySem.W.nsIn K mainGlobals "is_long_word" = some (some (.ref a_is_long_word)))
    (d_is_rising : PySem.W.nsIn K mainGlobals "is_rising" = some (some (.ref a_is_rising)))
    (d_is_word : PySem.W.nsIn K mainGlobals "is_word" = some (some (.ref a_is_word)))
    (d_pairs_of_places : PySem.W.nsIn K mainGlobals "pairs_of_places" = some (some (.ref a_pairs_of_places)))
    (d_need_number : PySem.W.nsIn K mainGlobals "need_number" = some (some (.ref a_need_number)))
    (d_fixed : PySem.W.nsIn K mainGlobals "fixed" = some (some (.ref a_fixed)))
    (d_are_equal : PySem.W.nsIn K mainGlobals "are_equal" = some (some (.ref a_are_equal)))
    (d_need_own_words : PySem.W.nsIn K mainGlobals "need_own_words" = some (some (.ref a_need_own_words)))
    (d_need_wide : PySem.W.nsIn K mainGlobals "need_wide" = some (some (.ref a_need_wide)))
    (d_need_few_words : PySem.W.nsIn K mainGlobals "need_few_words" = some (some (.ref a_need_few_words)))
    (d_surroundings_at : PySem.W.nsIn K mainGlobals "surroundings_at" = some (some (.ref a_surroundings_at)))
    (d_places_by_sound : PySem.W.nsIn K mainGlobals "places_by_sound" = some (some (.ref a_places_by_sound)))
    (d_least_against : PySem.W.nsIn K mainGlobals "least_against" = some (some (.ref a_least_against)))
    (d_pairs_among : PySem.W.nsIn K mainGlobals "pairs_among" = some (some (.ref a_pairs_among)))
    (d_is_lot_by_rule : PySem.W.nsIn K mainGlobals "is_lot_by_rule" = some (some (.ref a_is_lot_by_rule)))
    (d_partings_of : PySem.W.nsIn K mainGlobals "partings_of" = some (some (.ref a_partings_of)))
    (d_is_coarsest_parting : PySem.W.nsIn K mainGlobals "is_coarsest_parting" = some (some (.ref a_is_coarsest_parting)))
    (d_coarsest : PySem.W.nsIn K mainGlobals "coarsest" = some (some (.ref a_coarsest)))
    (d_rule_table : PySem.W.nsIn K mainGlobals "rule_table" = some (some (.ref a_rule_table)))
    (d__law_pen : PySem.W.nsIn K mainGlobals "_law_pen" = some (some (.ref a__law_pen)))
    (d__law_draw : PySem.W.nsIn K mainGlobals "_law_draw" = some (some (.ref a__law_draw)))
    (d__law_pick : PySem.W.nsIn K mainGlobals "_law_pick" = some (some (.ref a__law_pick)))
    (d__law_words : PySem.W.nsIn K mainGlobals "_law_words" = some (some (.ref a__law_words)))
    (d__law_near : PySem.W.nsIn K mainGlobals "_law_near" = some (some (.ref a__law_near)))
    (d__law_places : PySem.W.nsIn K mainGlobals "_law_places" = some (some (.ref a__law_places)))
    (d__law_nears : PySem.W.nsIn K mainGlobals "_law_nears" = some (some (.ref a__law_nears)))
    (d__law_against : PySem.W.nsIn K mainGlobals "_law_against" = some (some (.ref a__law_against)))
    (d__law_sounds : PySem.W.nsIn K mainGlobals "_law_sounds" = some (some (.ref a__law_sounds)))
    (d__law_heard : PySem.W.nsIn K mainGlobals "_law_heard" = some (some (.ref a__law_heard)))
    (d__law_lot_right : PySem.W.nsIn K mainGlobals "_law_lot_right" = some (some (.ref a__law_lot_right)))
    (d__law_told_back : PySem.W.nsIn K mainGlobals "_law_told_back" = some (some (.ref a__law_told_back)))
    (d__law_refused_right : PySem.W.nsIn K mainGlobals "_law_refused_right" = some (some (.ref a__law_refused_right)))
    (d_law : PySem.W.nsIn K mainGlobals "law" = some (some (.ref a_law)))
    (F_is_integer : ∃ fd : FuncData, Fun K "is_integer" "is_integer" st_is_integer a_is_integer fd)
    (F_is_within : ∃ fd : FuncData, Fun K "is_within" "is_within" st_is_within a_is_within fd)
    (F_is_list : ∃ fd : FuncData, Fun K "is_list" "is_list" st_is_list a_is_list fd)
    (F_is_long_word : ∃ fd : FuncData, Fun K "is_long_word" "is_long_word" st_is_long_word a_is_long_word fd)
    (F_is_rising : ∃ fd : FuncData, Fun K "is_rising" "is_rising" st_is_rising a_is_rising fd)
    (F_is_word : ∃ fd : FuncData, Fun K "is_word" "is_word" st_is_word a_is_word fd)
    (F_pairs_of_places : ∃ fd : FuncData, Fun K "pairs_of_places" "pairs_of_places" st_pairs_of_places a_pairs_of_places fd)
    (F_need_number : ∃ fd : FuncData, Fun K "need_number" "need_number" st_need_number a_need_number fd)
    (F_fixed : ∃ fd : FuncData, Fun K "fixed" "fixed" st_fixed a_fixed fd)
    (F_are_equal : ∃ fd : FuncData, Fun K "are_equal" "are_equal" st_are_equal a_are_equal fd)
    (F_need_own_words : ∃ fd : FuncData, Fun K "need_own_words" "need_own_words" st_need_own_words a_need_own_words fd)
    (F_need_wide : ∃ fd : FuncData, Fun K "need_wide" "need_wide" st_need_wide a_need_wide fd)
    (F_need_few_words : ∃ fd : FuncData, Fun K "need_few_words" "need_few_words" st_need_few_words a_need_few_words fd)
    (F_surroundings_at : ∃ fd : FuncData, Fun K "surroundings_at" "surroundings_at" st_surroundings_at a_surroundings_at fd)
    (F_places_by_sound : ∃ fd : FuncData, Fun K "places_by_sound" "places_by_sound" st_places_by_sound a_places_by_sound fd)
    (F_least_against : ∃ fd : FuncData, Fun K "least_against" "least_against" st_least_against a_least_against fd)
    (F_pairs_among : ∃ fd : FuncData, Fun K "pairs_among" "pairs_among" st_pairs_among a_pairs_among fd)
    (F_is_lot_by_rule : ∃ fd : FuncData, Fun K "is_lot_by_rule" "is_lot_by_rule" st_is_lot_by_rule a_is_lot_by_rule fd)
    (F_partings_of : ∃ fd : FuncData, Fun K "partings_of" "partings_of" st_partings_of a_partings_of fd)
    (F_is_coarsest_parting : ∃ fd : FuncData, Fun K "is_coarsest_parting" "is_coarsest_parting" st_is_coarsest_parting a_is_coarsest_parting fd)
    (F_coarsest : ∃ fd : FuncData, FCo K a_coarsest fd)
    (F_rule_table : ∃ fd : FuncData, FRt K a_rule_table fd)
    (F__law_pen : ∃ fd : FuncData, Fun K "_law_pen" "_law_pen" W5.V.Z.st_l_pen a__law_pen fd)
    (F__law_draw : ∃ fd : FuncData, Fun K "_law_draw" "_law_draw" W5.V.Z.st_l_draw a__law_draw fd)
    (F__law_pick : ∃ fd : FuncData, Fun K "_law_pick" "_law_pick" W5.V.Z.st_l_pick a__law_pick fd)
    (F__law_words : ∃ fd : FuncData, Fun K "_law_words" "_law_words" W5.V.Z.st_l_words a__law_words fd)
    (F__law_near : ∃ fd : FuncData, Fun K "_law_near" "_law_near" st_l_near a__law_near fd)
    (F__law_places : ∃ fd : FuncData, Fun K "_law_places" "_law_places" st_l_places a__law_places fd)
    (F__law_nears : ∃ fd : FuncData, Fun K "_law_nears" "_law_nears" st_l_nears a__law_nears fd)
    (F__law_against : ∃ fd : FuncData, Fun K "_law_against" "_law_against" st_l_against a__law_against fd)
    (F__law_sounds : ∃ fd : FuncData, Fun K "_law_sounds" "_law_sounds" st_l_sounds a__law_sounds fd)
    (F__law_heard : ∃ fd : FuncData, Fun K "_law_heard" "_law_heard" st_l_heard a__law_heard fd)
    (F__law_lot_right : ∃ fd : FuncData, Fun K "_law_lot_right" "_law_lot_right" st_l_lot_right a__law_lot_right fd)
    (F__law_told_back : ∃ fd : FuncData, Fun K "_law_told_back" "_law_told_back" st_l_told_back a__law_told_back fd)
    (F__law_refused_right : ∃ fd : FuncData, Fun K "_law_refused_right" "_law_refused_right" W5.V.R.st_l_refused_right a__law_refused_right fd)
    (F_law : ∃ fd : FuncData, Fun K "law" "law" W5.V.R.st_law a_law fd)
    (n12 : v__law_refused_right ≠ v__law_lot_right) (h1 : h.get? v__law_refused_right = some (PySem.W.tabObj #[])) (h2 : h.get? v__law_lot_right = some (PySem.W.tabObj #[])) : Ready l.prog w K mg fa h := by
  have ehfa := hfa.symm.trans (PySem.W.mg_of X G d_law)
  cases ehfa
  obtain ⟨fi_BadWord, G_BadWord⟩ := G_BadWord
  obtain ⟨fi_BadNumber, G_BadNumber⟩ := G_BadNumber
  obtain ⟨fi_TooMany, G_TooMany⟩ := G_TooMany
  obtain ⟨fi_BadStock, G_BadStock⟩ := G_BadStock
  obtain ⟨fi_Impossible, G_Impossible⟩ := G_Impossible
  obtain ⟨fi_Against, G_Against⟩ := G_Against
  obtain ⟨fi_Denial, G_Denial⟩ := G_Denial
  obtain ⟨fi_Paper, G_Paper⟩ := G_Paper
  obtain ⟨fi_Deq, G_Deq⟩ := G_Deq
  obtain ⟨fd_is_integer, F_is_integer⟩ := F_is_integer
  obtain ⟨fd_is_within, F_is_within⟩ := F_is_within
  obtain ⟨fd_is_list, F_is_list⟩ := F_is_list
  obtain ⟨fd_is_long_word, F_is_long_word⟩ := F_is_long_word
  obtain ⟨fd_is_rising, F_is_rising⟩ := F_is_rising
  obtain ⟨fd_is_word, F_is_word⟩ := F_is_word
  obtain ⟨fd_pairs_of_places, F_pairs_of_places⟩ := F_pairs_of_places
  obtain ⟨fd_need_number, F_need_number⟩ := F_need_number
  obtain ⟨fd_fixed, F_fixed⟩ := F_fixed
  obtain ⟨fd_are_equal, F_are_equal⟩ := F_are_equal
  obtain ⟨fd_need_own_words, F_need_own_words⟩ := F_need_own_words
  obtain ⟨fd_need_wide, F_need_wide⟩ := F_need_wide
  obtain ⟨fd_need_few_words, F_need_few_words⟩ := F_need_few_words
  obtain ⟨fd_surroundings_at, F_surroundings_at⟩ := F_surroundings_at
  obtain ⟨fd_places_by_sound, F_places_by_sound⟩ := F_places_by_sound
  obtain ⟨fd_least_against, F_least_against⟩ := F_least_against
  obtain ⟨fd_pairs_among, F_pairs_among⟩ := F_pairs_among
  obtain ⟨fd_is_lot_by_rule, F_is_lot_by_rule⟩ := F_is_lot_by_rule
  obtain ⟨fd_partings_of, F_partings_of⟩ := F_partings_of
  obtain ⟨fd_is_coarsest_parting, F_is_coarsest_parting⟩ := F_is_coarsest_parting
  obtain ⟨fd_coarsest, F_coarsest⟩ := F_coarsest
  obtain ⟨fd_rule_table, F_rule_table⟩ := F_rule_table
  obtain ⟨fd__law_pen, F__law_pen⟩ := F__law_pen
  obtain ⟨fd__law_draw, F__law_draw⟩ := F__law_draw
  obtain ⟨fd__law_pick, F__law_pick⟩ := F__law_pick
  obtain ⟨fd__law_words, F__law_words⟩ := F__law_words
  obtain ⟨fd__law_near, F__law_near⟩ := F__law_near
  obtain ⟨fd__law_places, F__law_places⟩ := F__law_places
  obtain ⟨fd__law_nears, F__law_nears⟩ := F__law_nears
  obtain ⟨fd__law_against, F__law_against⟩ := F__law_against
  obtain ⟨fd__law_sounds, F__law_sounds⟩ := F__law_sounds
  obtain ⟨fd__law_heard, F__law_heard⟩ := F__law_heard
  obtain ⟨fd__law_lot_right, F__law_lot_right⟩ := F__law_lot_right
  obtain ⟨fd__law_told_back, F__law_told_back⟩ := F__law_told_back
  obtain ⟨fd__law_refused_right, F__law_refused_right⟩ := F__law_refused_right
  obtain ⟨fd_law, F_law⟩ := F_law
  let cs : Nat → Addr := csF c_BadWord c_BadNumber c_TooMany c_BadStock c_Impossible
  let Z : Addr := c_Against
  have T : Blt mg := ⟨PySem.W.mg_none_of X G z_len, PySem.W.mg_none_of X G z_isinstance, PySem.W.mg_none_of X G z_int, PySem.W.mg_none_of X G z_bool, PySem.W.mg_none_of X G z_str, PySem.W.mg_none_of X G z_list, PySem.W.mg_none_of X G z_tuple, PySem.W.mg_none_of X G z_all, PySem.W.mg_none_of X G z_any, PySem.W.mg_none_of X G z_zip, PySem.W.mg_none_of X G z_abs, PySem.W.mg_none_of X G z_range, PySem.W.mg_none_of X G z_enumerate, PySem.W.mg_none_of X G z_set, PySem.W.mg_none_of X G z_min, PySem.W.mg_none_of X G z_max, PySem.W.mg_none_of X G z_sum, PySem.W.mg_none_of X G z_repr⟩
  have TS : BltS mg := ⟨T, PySem.W.mg_none_of X G z_sorted⟩
  have TC : Cst5 mg := ⟨⟨_, PySem.W.mg_of X G k_MOST_WORDS⟩, ⟨_, PySem.W.mg_of X G k_EDGE⟩⟩
  have TE : H5 K mg cs := ⟨PySem.W.mg_of X G n_BadWord, PySem.W.mg_of X G n_BadStock, PySem.W.mg_of X G n_BadNumber, PySem.W.mg_of X G n_Impossible, PySem.W.mg_of X G n_TooMany, xf_BadWord, xf_BadStock, xf_BadNumber, xf_Impossible, xf_TooMany, p_BadWord_part, p_BadStock_part, p_BadNumber_part, p_Impossible_paper, p_TooMany_what, p_TooMany_most, xm_00, xm_40, xm_44, xm_10, xm_14, xm_11, xm_50, xm_54, xm_51, xm_55, xm_30, xm_34, xm_31, xm_35, xm_33⟩
  have PC : PapC K Z := ⟨cl_Against, na_Against_kind, na_Against_parts⟩
  have ZC : AgC K Z := ⟨PC, na_Against_one, na_Against_other⟩
  have SA : K8.SupC l.prog K mg Z cda_A f_Denial "__init__" := ⟨su_codeA, su_clsA, su_subA, su_opq, su_foundA, su_fnA, su_fiA, PySem.W.mg_none_of X G z_super, su_top⟩
  have SD : SupC2 l.prog K mg Z c_Denial cda_D f_Paper "__init__" := ⟨su_codeD, su_clsD, su_clsA, su_subD, su_opq, su_foundD, su_fnD, su_fiD, PySem.W.mg_none_of X G z_super, su_top⟩
  have UE : ZmE K mg Z c_Denial := ⟨ZC, ⟨zn_pg, zn_hd, zn_fi, ks_hn, ks_ht, zn_mro, zn_rd, zn_fn, zn_ty, zn_nm⟩, PySem.W.mg_of X G n_Denial, PySem.W.mg_of X G n_Against, zn_kP, kit_self⟩
  have b_BadWord : Binds K fi_BadWord ["self", "part"] [] := (G_BadWord.binds (ps := ["self", "part"]) fun _ _ _ _ _ _ us hl => match us, hl with | [_, _], _ => rfl)
  have b_BadNumber : Binds K fi_BadNumber ["self", "part"] [] := (G_BadNumber.binds (ps := ["self", "part"]) fun _ _ _ _ _ _ us hl => match us, hl with | [_, _], _ => rfl)
  have b_TooMany : Binds K fi_TooMany ["self", "what", "most"] [] := (G_TooMany.binds (ps := ["self", "what", "most"]) fun _ _ _ _ _ _ us hl => match us, hl with | [_, _, _], _ => rfl)
  have b_BadStock : Binds K fi_BadStock ["self", "part"] [] := (G_BadStock.binds (ps := ["self", "part"]) fun _ _ _ _ _ _ us hl => match us, hl with | [_, _], _ => rfl)
  have b_Impossible : Binds K fi_Impossible ["self", "paper"] [] := (G_Impossible.binds (ps := ["self", "paper"]) fun _ _ _ _ _ _ us hl => match us, hl with | [_, _], _ => rfl)
  have b_Against : Binds K fi_Against ["self", "one", "other"] [] := binds_S G_Against fun _ _ _ _ _ us hl => match us, hl with | [_, _, _], _ => rfl
  have b_Deq : Binds K fi_Deq ["self", "other"] [] := (G_Deq.binds (ps := ["self", "other"]) fun _ _ _ _ _ _ us hl => match us, hl with | [_, _], _ => rfl)
  have b_is_integer : Binds K fd_is_integer ["value"] [] := (F_is_integer.binds (ps := ["value"]) fun _ _ _ _ _ _ us hl => match us, hl with | [_], _ => rfl)
  have b_is_within : Binds K fd_is_within ["value", "least", "most"] [] := (F_is_within.binds (ps := ["value", "least", "most"]) fun _ _ _ _ _ _ us hl => match us, hl with | [_, _, _], _ => rfl)
  have b_is_list : Binds K fd_is_list ["value"] [] := (F_is_list.binds (ps := ["value"]) fun _ _ _ _ _ _ us hl => match us, hl with | [_], _ => rfl)
  have b_is_long_word : Binds K fd_is_long_word ["value"] [] := (F_is_long_word.binds (ps := ["value"]) fun _ _ _ _ _ _ us hl => match us, hl with | [_], _ => rfl)
  have b_is_rising : Binds K fd_is_rising ["signs"] [] := (F_is_rising.binds (ps := ["signs"]) fun _ _ _ _ _ _ us hl => match us, hl with | [_], _ => rfl)
  have b_is_word : Binds K fd_is_word ["value"] [] := (F_is_word.binds (ps := ["value"]) fun _ _ _ _ _ _ us hl => match us, hl with | [_], _ => rfl)
  have b_pairs_of_places : Binds K fd_pairs_of_places ["many"] [] := (F_pairs_of_places.binds (ps := ["many"]) fun _ _ _ _ _ _ us hl => match us, hl with | [_], _ => rfl)
  have b_need_number : Binds K fd_need_number ["value", "part", "least", "most"] [] := (F_need_number.binds (ps := ["value", "part", "least", "most"]) fun _ _ _ _ _ _ us hl => match us, hl with | [_, _, _, _], _ => rfl)
  have b_fixed : Binds K fd_fixed ["value"] [] := (F_fixed.binds (ps := ["value"]) fun _ _ _ _ _ _ us hl => match us, hl with | [_], _ => rfl)
  have b_are_equal : Binds K fd_are_equal ["one", "other"] [] := (F_are_equal.binds (ps := ["one", "other"]) fun _ _ _ _ _ _ us hl => match us, hl with | [_, _], _ => rfl)
  have b_need_own_words : Binds K fd_need_own_words ["words"] [] := (F_need_own_words.binds (ps := ["words"]) fun _ _ _ _ _ _ us hl => match us, hl with | [_], _ => rfl)
  have b_need_wide : Binds K fd_need_wide ["wide"] [] := (F_need_wide.binds (ps := ["wide"]) fun _ _ _ _ _ _ us hl => match us, hl with | [_], _ => rfl)
  have b_need_few_words : Binds K fd_need_few_words ["words"] [] := (F_need_few_words.binds (ps := ["words"]) fun _ _ _ _ _ _ us hl => match us, hl with | [_], _ => rfl)
  have b_surroundings_at : Binds K fd_surroundings_at ["word", "place", "wide"] [] := (F_surroundings_at.binds (ps := ["word", "place", "wide"]) fun _ _ _ _ _ _ us hl => match us, hl with | [_, _, _], _ => rfl)
  have b_places_by_sound : Binds K fd_places_by_sound ["words", "wide"] [] := (F_places_by_sound.binds (ps := ["words", "wide"]) fun _ _ _ _ _ _ us hl => match us, hl with | [_, _], _ => rfl)
  have b_least_against : Binds K fd_least_against ["places", "sound", "other"] [] := (F_least_against.binds (ps := ["places", "sound", "other"]) fun _ _ _ _ _ _ us hl => match us, hl with | [_, _, _], _ => rfl)
  have b_pairs_among : Binds K fd_pairs_among ["values"] [] := (F_pairs_among.binds (ps := ["values"]) fun _ _ _ _ _ _ us hl => match us, hl with | [_], _ => rfl)
  have b_is_lot_by_rule : Binds K fd_is_lot_by_rule ["lot", "against"] [] := (F_is_lot_by_rule.binds (ps := ["lot", "against"]) fun _ _ _ _ _ _ us hl => match us, hl with | [_, _], _ => rfl)
  have b_partings_of : Binds K fd_partings_of ["sounds", "against"] [] := (F_partings_of.binds (ps := ["sounds", "against"]) fun _ _ _ _ _ _ us hl => match us, hl with | [_, _], _ => rfl)
  have b_is_coarsest_parting : Binds K fd_is_coarsest_parting ["lots", "against"] [] := (F_is_coarsest_parting.binds (ps := ["lots", "against"]) fun _ _ _ _ _ _ us hl => match us, hl with | [_, _], _ => rfl)
  have b__law_pen : Binds K fd__law_pen ["_law_script"] [] := (F__law_pen.binds (ps := ["_law_script"]) fun _ _ _ _ _ _ us hl => match us, hl with | [_], _ => rfl)
  have b__law_draw : Binds K fd__law_draw ["_law_pen_here", "_law_many"] [] := (F__law_draw.binds (ps := ["_law_pen_here", "_law_many"]) fun _ _ _ _ _ _ us hl => match us, hl with | [_, _], _ => rfl)
  have b__law_pick : Binds K fd__law_pick ["_law_pen_here", "_law_some"] [] := (F__law_pick.binds (ps := ["_law_pen_here", "_law_some"]) fun _ _ _ _ _ _ us hl => match us, hl with | [_, _], _ => rfl)
  have b__law_words : Binds K fd__law_words ["_law_pen_here", "_law_most"] [] := (F__law_words.binds (ps := ["_law_pen_here", "_law_most"]) fun _ _ _ _ _ _ us hl => match us, hl with | [_, _], _ => rfl)
  have b__law_near : Binds K fd__law_near ["_law_word", "_law_at", "_law_wide"] [] := (F__law_near.binds (ps := ["_law_word", "_law_at", "_law_wide"]) fun _ _ _ _ _ _ us hl => match us, hl with | [_, _, _], _ => rfl)
  have b__law_places : Binds K fd__law_places ["_law_words_here", "_law_sound"] [] := (F__law_places.binds (ps := ["_law_words_here", "_law_sound"]) fun _ _ _ _ _ _ us hl => match us, hl with | [_, _], _ => rfl)
  have b__law_nears : Binds K fd__law_nears ["_law_words_here", "_law_sound", "_law_wide"] [] := (F__law_nears.binds (ps := ["_law_words_here", "_law_sound", "_law_wide"]) fun _ _ _ _ _ _ us hl => match us, hl with | [_, _, _], _ => rfl)
  have b__law_against : Binds K fd__law_against ["_law_words_here", "_law_sound", "_law_other", "_law_wide"] [] := (F__law_against.binds (ps := ["_law_words_here", "_law_sound", "_law_other", "_law_wide"]) fun _ _ _ _ _ _ us hl => match us, hl with | [_, _, _, _], _ => rfl)
  have b__law_sounds : Binds K fd__law_sounds ["_law_words_here"] [] := (F__law_sounds.binds (ps := ["_law_words_here"]) fun _ _ _ _ _ _ us hl => match us, hl with | [_], _ => rfl)
  have b__law_heard : Binds K fd__law_heard ["_law_ask"] [] := (F__law_heard.binds (ps := ["_law_ask"]) fun _ _ _ _ _ _ us hl => match us, hl with | [_], _ => rfl)
  have b__law_lot_right : Binds K fd__law_lot_right ["_law_words_here", "_law_lot", "_law_wide"] [] := (F__law_lot_right.binds (ps := ["_law_words_here", "_law_lot", "_law_wide"]) fun _ _ _ _ _ _ us hl => match us, hl with | [_, _, _], _ => rfl)
  have b__law_told_back : Binds K fd__law_told_back ["_law_words_here", "_law_parting", "_law_wide"] [] := (F__law_told_back.binds (ps := ["_law_words_here", "_law_parting", "_law_wide"]) fun _ _ _ _ _ _ us hl => match us, hl with | [_, _, _], _ => rfl)
  have b__law_refused_right : Binds K fd__law_refused_right ["_law_pen_here"] [] := (F__law_refused_right.binds (ps := ["_law_pen_here"]) fun _ _ _ _ _ _ us hl => match us, hl with | [_], _ => rfl)
  have m_heard := PySem.W.mg_of X G d__law_heard
  refine ⟨fd_law, u__law_refused_right, v__law_refused_right, u__law_lot_right, v__law_lot_right, h1, Option.isNone_iff_eq_none.mp tn__law_refused_right, PySem.W.codeHd_of_K X tc__law_refused_right, h2, Option.isNone_iff_eq_none.mp tn__law_lot_right, PySem.W.codeHd_of_K X tc__law_lot_right, ?_, fun base KB GB TB1 TB2 => ?_⟩
  · obtain ⟨oc, od, kV, doc, pm, an, cdv, ct, osl, rfl, lk, hcd⟩ := F_law.ex
    exact fun s v => .of_eq rfl
  have E_BadWord : Rs1 l.prog w K mg base "BadWord" (cs 0) "part" := ⟨PySem.W.mg_of X G n_BadWord, o_BadWord, p_BadWord_part, f_BadWord, fi_BadWord, i_BadWord, t_BadWord, ok_i_BadWord G_BadWord, b_BadWord⟩
  have E_BadNumber : Rs1 l.prog w K mg base "BadNumber" (cs 1) "part" := ⟨PySem.W.mg_of X G n_BadNumber, o_BadNumber, p_BadNumber_part, f_BadNumber, fi_BadNumber, i_BadNumber, t_BadNumber, ok_i_BadNumber G_BadNumber, b_BadNumber⟩
  have E_TooMany : Rs2 l.prog w K mg base "TooMany" (cs 3) "what" "most" := ⟨PySem.W.mg_of X G n_TooMany, o_TooMany, p_TooMany_what, p_TooMany_most, f_TooMany, fi_TooMany, i_TooMany, t_TooMany, ok_i_TooMany G_TooMany, b_TooMany⟩
  have E_BadStock : Rs1 l.prog w K mg base "BadStock" (cs 4) "part" := ⟨PySem.W.mg_of X G n_BadStock, o_BadStock, p_BadStock_part, f_BadStock, fi_BadStock, i_BadStock, t_BadStock, ok_i_BadStock G_BadStock, b_BadStock⟩
  have E_Impossible : Rs1 l.prog w K mg base "Impossible" (cs 5) "paper" := ⟨PySem.W.mg_of X G n_Impossible, o_Impossible, p_Impossible_paper, f_Impossible, fi_Impossible, i_Impossible, t_Impossible, ok_i_Impossible G_Impossible, b_Impossible⟩
  have C_is_integer : Cal l.prog w K mg base 1 "is_integer" st_is_integer ["value"] (spIsInteger K) := ⟨a_is_integer, fd_is_integer, F_is_integer, PySem.W.mg_of X G d_is_integer, b_is_integer, ok_is_integer F_is_integer T⟩
  have C_is_within : Cal l.prog w K mg base 2 "is_within" st_is_within ["value", "least", "most"] (spIsWithin K) := ⟨a_is_within, fd_is_within, F_is_within, PySem.W.mg_of X G d_is_within, b_is_within, ok_is_within F_is_within T C_is_integer⟩
  have C_is_list : Cal l.prog w K mg base 1 "is_list" st_is_list ["value"] (spIsList K) := ⟨a_is_list, fd_is_list, F_is_list, PySem.W.mg_of X G d_is_list, b_is_list, ok_is_list F_is_list T⟩
  have C_is_long_word : Cal l.prog w K mg base 1 "is_long_word" st_is_long_word ["value"] (spIsLongWord K) := ⟨a_is_long_word, fd_is_long_word, F_is_long_word, PySem.W.mg_of X G d_is_long_word, b_is_long_word, ok_is_long_word F_is_long_word T⟩
  have C_is_rising : Cal l.prog w K mg base 1 "is_rising" st_is_rising ["signs"] (spIsRising) := ⟨a_is_rising, fd_is_rising, F_is_rising, PySem.W.mg_of X G d_is_rising, b_is_rising, ok_is_rising F_is_rising T⟩
  have C_is_word : Cal l.prog w K mg base 2 "is_word" st_is_word ["value"] (spIsWord K) := ⟨a_is_word, fd_is_word, F_is_word, PySem.W.mg_of X G d_is_word, b_is_word, ok_is_word F_is_word T C_is_long_word⟩
  have C_pairs_of_places : Cal l.prog w K mg base 1 "pairs_of_places" st_pairs_of_places ["many"] (spPairs) := ⟨a_pairs_of_places, fd_pairs_of_places, F_pairs_of_places, PySem.W.mg_of X G d_pairs_of_places, b_pairs_of_places, ok_pairs F_pairs_of_places T⟩
  have C_need_number : CalX l.prog w K mg base 3 "need_number" st_need_number ["value", "part", "least", "most"] (spNeedNumber K cs) := ⟨a_need_number, fd_need_number, F_need_number, PySem.W.mg_of X G d_need_number, b_need_number, ok_need_number F_need_number E_BadNumber C_is_within⟩
  have C_fixed0 : Cal l.prog w K mg base 0 "fixed" st_fixed ["value"] (spF K 0) := ⟨a_fixed, fd_fixed, F_fixed, PySem.W.mg_of X G d_fixed, b_fixed, ok_fixed0⟩
  have C_fixed1 : Cal l.prog w K mg base 1 "fixed" st_fixed ["value"] (spF K 1) := ⟨a_fixed, fd_fixed, F_fixed, PySem.W.mg_of X G d_fixed, b_fixed, ok_fixed F_fixed T C_fixed0⟩
  have C_fixed2 : Cal l.prog w K mg base 2 "fixed" st_fixed ["value"] (spF K 2) := ⟨a_fixed, fd_fixed, F_fixed, PySem.W.mg_of X G d_fixed, b_fixed, ok_fixed F_fixed T C_fixed1⟩
  have C_fixed3 : Cal l.prog w K mg base 3 "fixed" st_fixed ["value"] (spF K 3) := ⟨a_fixed, fd_fixed, F_fixed, PySem.W.mg_of X G d_fixed, b_fixed, ok_fixed F_fixed T C_fixed2⟩
  have C_fixed4 : Cal l.prog w K mg base 4 "fixed" st_fixed ["value"] (spF K 4) := ⟨a_fixed, fd_fixed, F_fixed, PySem.W.mg_of X G d_fixed, b_fixed, ok_fixed F_fixed T C_fixed3⟩
  have PI := ok_Paper_init (P := l.prog) (w := w) (base := base) G_Paper T C_fixed4
  obtain ⟨_, _, _, hcellD⟩ := su_cellD
  have hccD : base.IsCell cc_D (some (.ref c_Denial)) := ⟨_, KB _ _ hcellD, rfl⟩
  have PD := ok_Denial_init G_Denial PC SD hccD PI
  obtain ⟨_, _, _, hcellA⟩ := su_cellA
  have hccA : base.IsCell cc_A (some (.ref Z)) := ⟨_, KB _ _ hcellA, rfl⟩
  have C_Against : CAg l.prog w K mg base Z := ⟨f_Against, fi_Against, mk_Against, PySem.W.mg_of X G n_Against, b_Against, ok_ZM_initJ G_Against ZC SA hccA PD⟩
  have C_are_equal : Cal l.prog w K mg base 1 "are_equal" st_are_equal ["one", "other"] (spAreEq K Z) := ⟨a_are_equal, fd_are_equal, F_are_equal, PySem.W.mg_of X G d_are_equal, b_are_equal, ok_are_equal F_are_equal UE⟩
  have CE : CEq l.prog w K mg base Z := ⟨f_Deq, fi_Deq, ok_Denial_eqE G_Deq T UE C_are_equal, zn_eq, zn_ef, b_Deq⟩
  have C_need_own_words : CalX l.prog w K mg base 3 "need_own_words" st_need_own_words ["words"] (spNeedOwn K cs) := ⟨a_need_own_words, fd_need_own_words, F_need_own_words, PySem.W.mg_of X G d_need_own_words, b_need_own_words, ok_need_own_words F_need_own_words T E_BadWord C_is_list C_is_word⟩
  have C_need_wide : CalX l.prog w K mg base 4 "need_wide" st_need_wide ["wide"] (spNeedWide K cs) := ⟨a_need_wide, fd_need_wide, F_need_wide, PySem.W.mg_of X G d_need_wide, b_need_wide, ok_need_wide F_need_wide C_need_number⟩
  have C_need_few_words : CalX l.prog w K mg base 3 "need_few_words" st_need_few_words ["words"] (spNeedFew K cs) := ⟨a_need_few_words, fd_need_few_words, F_need_few_words, PySem.W.mg_of X G d_need_few_words, b_need_few_words, ok_need_few F_need_few_words T TC E_TooMany⟩
  have C_surroundings_at : Cal l.prog w K mg base 1 "surroundings_at" st_surroundings_at ["word", "place", "wide"] (spSurr) := ⟨a_surroundings_at, fd_surroundings_at, F_surroundings_at, PySem.W.mg_of X G d_surroundings_at, b_surroundings_at, ok_surr F_surroundings_at TC⟩
  have C_places_by_sound : Cal l.prog w K mg base 2 "places_by_sound" st_places_by_sound ["words", "wide"] (spPlaces K) := ⟨a_places_by_sound, fd_places_by_sound, F_places_by_sound, PySem.W.mg_of X G d_places_by_sound, b_places_by_sound, ok_places F_places_by_sound T C_surroundings_at⟩
  have C_least_against : Cal l.prog w K mg base 9 "least_against" st_least_against ["places", "sound", "other"] (spLeastA K Z) := ⟨a_least_against, fd_least_against, F_least_against, PySem.W.mg_of X G d_least_against, b_least_against, ok_leastA F_least_against T C_Against⟩
  have C_pairs_among : Cal l.prog w K mg base 2 "pairs_among" st_pairs_among ["values"] (spAmongV K) := ⟨a_pairs_among, fd_pairs_among, F_pairs_among, PySem.W.mg_of X G d_pairs_among, b_pairs_among, ok_amongV F_pairs_among T C_pairs_of_places⟩
  have C_is_lot_by_rule : Cal l.prog w K mg base 3 "is_lot_by_rule" st_is_lot_by_rule ["lot", "against"] (spLotBy K) := ⟨a_is_lot_by_rule, fd_is_lot_by_rule, F_is_lot_by_rule, PySem.W.mg_of X G d_is_lot_by_rule, b_is_lot_by_rule, ok_lotby F_is_lot_by_rule T C_pairs_among⟩
  have C_partings_of : Cal l.prog w K mg base 4 "partings_of" st_partings_of ["sounds", "against"] (spPartings K) := ⟨a_partings_of, fd_partings_of, F_partings_of, PySem.W.mg_of X G d_partings_of, b_partings_of, ok_partings F_partings_of T C_is_lot_by_rule⟩
  have C_is_coarsest_parting : Cal l.prog w K mg base 4 "is_coarsest_parting" st_is_coarsest_parting ["lots", "against"] (spIsC K) := ⟨a_is_coarsest_parting, fd_is_coarsest_parting, F_is_coarsest_parting, PySem.W.mg_of X G d_is_coarsest_parting, b_is_coarsest_parting, ok_isC F_is_coarsest_parting TS C_pairs_among C_is_lot_by_rule⟩
  have C_coarsest : CCo l.prog w K mg base (spCoarse K) := ⟨a_coarsest, fd_coarsest, F_coarsest, PySem.W.mg_of X G d_coarsest, ok_coarsest F_coarsest TS ⟨_, PySem.W.mg_of X G k_MOST_SOUNDS⟩ C_need_own_words C_need_wide C_need_few_words C_places_by_sound C_pairs_among C_least_against C_partings_of C_is_coarsest_parting⟩
  have C_rule_table : CRt l.prog w K mg base (spRuleX K cs Z) := ⟨a_rule_table, fd_rule_table, F_rule_table, PySem.W.mg_of X G d_rule_table, ok_rule_table F_rule_table TS E_BadStock E_Impossible C_need_own_words C_need_wide C_need_few_words C_is_long_word C_is_rising C_places_by_sound C_pairs_among C_least_against⟩
  have C__law_pen : Cal l.prog w K mg base 1 "_law_pen" W5.V.Z.st_l_pen ["_law_script"] (spPen K) := ⟨a__law_pen, fd__law_pen, F__law_pen, PySem.W.mg_of X G d__law_pen, b__law_pen, W5.V.Z.ok_pen F__law_pen T⟩
  have C__law_draw : Cal l.prog w K mg base 1 "_law_draw" W5.V.Z.st_l_draw ["_law_pen_here", "_law_many"] (spDraw K) := ⟨a__law_draw, fd__law_draw, F__law_draw, PySem.W.mg_of X G d__law_draw, b__law_draw, W5.V.Z.ok_draw F__law_draw T⟩
  have C__law_pick : Cal l.prog w K mg base 2 "_law_pick" W5.V.Z.st_l_pick ["_law_pen_here", "_law_some"] (W5.spPick K) := ⟨a__law_pick, fd__law_pick, F__law_pick, PySem.W.mg_of X G d__law_pick, b__law_pick, W5.V.Z.ok_pick F__law_pick T C__law_draw⟩
  have C__law_pickT : R.CLpt l.prog w K mg base := ⟨a__law_pick, fd__law_pick, F__law_pick, PySem.W.mg_of X G d__law_pick, b__law_pick, W5.V.Z.ok_pickT F__law_pick T C__law_draw⟩
  have C__law_words : Cal l.prog w K mg base 3 "_law_words" W5.V.Z.st_l_words ["_law_pen_here", "_law_most"] (W5.V.Z.spLWords K) := ⟨a__law_words, fd__law_words, F__law_words, PySem.W.mg_of X G d__law_words, b__law_words, W5.V.Z.ok_lwords F__law_words T C__law_pick C__law_draw⟩
  have C__law_near : Cal l.prog w K mg base 1 "_law_near" st_l_near ["_law_word", "_law_at", "_law_wide"] (spLNear K) := ⟨a__law_near, fd__law_near, F__law_near, PySem.W.mg_of X G d__law_near, b__law_near, ok_lnear F__law_near T⟩
  have C__law_places : Cal l.prog w K mg base 1 "_law_places" st_l_places ["_law_words_here", "_law_sound"] (spLPlaces K) := ⟨a__law_places, fd__law_places, F__law_places, PySem.W.mg_of X G d__law_places, b__law_places, ok_lplaces F__law_places T⟩
  have C__law_nears : Cal l.prog w K mg base 2 "_law_nears" st_l_nears ["_law_words_here", "_law_sound", "_law_wide"] (spLNears K) := ⟨a__law_nears, fd__law_nears, F__law_nears, PySem.W.mg_of X G d__law_nears, b__law_nears, ok_lnears F__law_nears TS C__law_places C__law_near⟩
  have C__law_against : Cal l.prog w K mg base 2 "_law_against" st_l_against ["_law_words_here", "_law_sound", "_law_other", "_law_wide"] (spLAg K) := ⟨a__law_against, fd__law_against, F__law_against, PySem.W.mg_of X G d__law_against, b__law_against, ok_lag F__law_against T C__law_places C__law_near⟩
  have C__law_sounds : Cal l.prog w K mg base 1 "_law_sounds" st_l_sounds ["_law_words_here"] (spLSounds K) := ⟨a__law_sounds, fd__law_sounds, F__law_sounds, PySem.W.mg_of X G d__law_sounds, b__law_sounds, ok_lsounds F__law_sounds T⟩
  have C__law_lot_right : R.CLlr l.prog w K mg base v__law_refused_right v__law_lot_right := ⟨a__law_lot_right, fd__law_lot_right, F__law_lot_right, PySem.W.mg_of X G d__law_lot_right, b__law_lot_right, ok_lot_right F__law_lot_right d__law_lot_right tb__law_lot_right n12 TS TE F__law_heard m_heard TB2 C__law_against C__law_nears C_rule_table C_Against CE⟩
  have C__law_told_back : Cal l.prog w K mg base 11 "_law_told_back" st_l_told_back ["_law_words_here", "_law_parting", "_law_wide"] (spLTold K) := ⟨a__law_told_back, fd__law_told_back, F__law_told_back, PySem.W.mg_of X G d__law_told_back, b__law_told_back, ok_told_back F__law_told_back TS C__law_near C_rule_table⟩
  have C__law_refused_right : R.CLrf l.prog w K mg base v__law_refused_right v__law_lot_right := ⟨a__law_refused_right, fd__law_refused_right, F__law_refused_right, PySem.W.mg_of X G d__law_refused_right, b__law_refused_right, R.ok_refused F__law_refused_right d__law_refused_right tb__law_refused_right n12 TS TE F__law_heard m_heard TB1 C__law_pick C_rule_table C_Against CE⟩
  exact R.ok_law F_law TS C__law_pen C__law_words C__law_draw C__law_pickT C__law_sounds C__law_told_back C__law_lot_right C__law_refused_right C_coarsest C_rule_table
end W5.V
open PySem PySem.W PyProof.Rows
set_option maxRecDepth 100000 in
set_option maxHeartbeats 0 in
theorem PySem.Challenge.cw_foretongue_k74_tables_of_a_rule_holds : PySem.Challenge.rw_foretongue_k74_tables_of_a_rule.Holds := by
  w_on; o_law; k_head; (case hw => w_witness2)
  k_fill
  refine W5.V.walk74 rfl rfl (fun w h Y => PySem.W.km_in_of Y) ?F
  case F =>
    intro w mg fa h Y KX G hmg
    have hT := PySem.W.km_tabs_of Y
    refine' W5.V.all_mk (u__law_refused_right := 423) (v__law_refused_right := 419) (u__law_lot_right := 411) (v__law_lot_right := 409) KX G hmg ?z_len ?z_isinstance ?z_int ?z_bool ?z_str ?z_list ?z_tuple ?z_all ?z_any ?z_zip ?z_abs ?z_range ?z_enumerate ?z_set ?z_min ?z_max ?z_sum ?z_repr ?z_super ?z_sorted ?k_MOST_WORDS ?k_MOST_SOUNDS ?k_EDGE ?n_BadWord ?o_BadWord ?i_BadWord ?p_BadWord_part ?n_BadNumber ?o_BadNumber ?i_BadNumber ?p_BadNumber_part ?n_TooMany ?o_TooMany ?i_TooMany ?p_TooMany_what ?p_TooMany_most ?n_BadStock ?o_BadStock ?i_BadStock ?p_BadStock_part ?n_Impossible ?o_Impossible ?i_Impossible ?p_Impossible_paper ?t_BadWord ?G_BadWord ?t_BadNumber ?G_BadNumber ?t_TooMany ?G_TooMany ?t_BadStock ?G_BadStock ?t_Impossible ?G_Impossible ?xf_BadWord ?xf_BadNumber ?xf_TooMany ?xf_BadStock ?xf_Impossible ?xm_00 ?xm_40 ?xm_44 ?xm_10 ?xm_14 ?xm_11 ?xm_50 ?xm_54 ?xm_51 ?xm_55 ?xm_30 ?xm_34 ?xm_31 ?xm_35 ?xm_33 ?ks_hn ?ks_ht ?n_Against ?n_Denial ?n_Paper ?cl_Against ?na_Against_kind ?na_Against_parts ?na_Against_one ?na_Against_other ?mk_Against ?su_foundA ?su_foundD ?G_Against ?su_cellA ?su_codeA ?su_clsA ?G_Denial ?su_cellD ?su_codeD ?su_clsD ?su_subA ?su_subD ?su_opq ?su_fnA ?su_fiA ?su_fnD ?su_fiD ?su_top ?G_Paper ?zn_pg ?zn_hd ?zn_fi ?zn_mro ?zn_rd ?zn_fn ?zn_ty ?zn_nm ?zn_kP ?zn_eq ?zn_ef ?G_Deq ?tb__law_refused_right ?tc__law_refused_right ?tn__law_refused_right ?tb__law_lot_right ?tc__law_lot_right ?tn__law_lot_right ?d_is_integer ?d_is_within ?d_is_list ?d_is_long_word ?d_is_rising ?d_is_word ?d_pairs_of_places ?d_need_number ?d_fixed ?d_are_equal ?d_need_own_words ?d_need_wide ?d_need_few_words ?d_surroundings_at ?d_places_by_sound ?d_least_against ?d_pairs_among ?d_is_lot_by_rule ?d_partings_of ?d_is_coarsest_parting ?d_coarsest ?d_rule_table ?d__law_pen ?d__law_draw ?d__law_pick ?d__law_words ?d__law_near ?d__law_places ?d__law_nears ?d__law_against ?d__law_sounds ?d__law_heard ?d__law_lot_right ?d__law_told_back ?d__law_refused_right ?d_law ?F_is_integer ?F_is_within ?F_is_list ?F_is_long_word ?F_is_rising ?F_is_word ?F_pairs_of_places ?F_need_number ?F_fixed ?F_are_equal ?F_need_own_words ?F_need_wide ?F_need_few_words ?F_surroundings_at ?F_places_by_sound ?F_least_against ?F_pairs_among ?F_is_lot_by_rule ?F_partings_of ?F_is_coarsest_parting ?F_coarsest ?F_rule_table ?F__law_pen ?F__law_draw ?F__law_pick ?F__law_words ?F__law_near ?F__law_places ?F__law_nears ?F__law_against ?F__law_sounds ?F__law_heard ?F__law_lot_right ?F__law_told_back ?F__law_refused_right ?F_law (by decide) (hT 419 (by decide)) (hT 409 (by decide))
    (case z_len => k_is)
    (case z_isinstance => k_is)
    (case z_int => k_is)
    (case z_bool => k_is)
    (case z_str => k_is)
    (case z_list => k_is)
    (case z_tuple => k_is)
    (case z_all => k_is)
    (case z_any => k_is)
    (case z_zip => k_is)
    (case z_abs => k_is)
    (case z_range => k_is)
    (case z_enumerate => k_is)
    (case z_set => k_is)
    (case z_min => k_is)
    (case z_max => k_is)
    (case z_sum => k_is)
    (case z_repr => k_is)
    (case z_super => k_is)
    (case z_sorted => k_is)
    (case k_MOST_WORDS => k_is)
    (case k_MOST_SOUNDS => k_is)
    (case k_EDGE => k_is)
    (case n_BadWord => k_is)
    (case o_BadWord => refine' ⟨⟨_, _, _, _, [.ref _, .type "ValueError", .type "Exception", .type "BaseException", .type "object"], _, _, _, _, _, _, _, _, _, _, ?x_o_BadWord, ?r_o_BadWord⟩, ?s_o_BadWord, ?e_o_BadWord, ?t_o_BadWord, ?k_o_BadWord⟩; (case x_o_BadWord => exact rfl); (case r_o_BadWord => decide +kernel); (case s_o_BadWord => k_is); (case e_o_BadWord => k_is); (case t_o_BadWord => k_is); (case k_o_BadWord => k_is))
    (case i_BadWord => k_is)
    (case p_BadWord_part => k_is)
    (case n_BadNumber => k_is)
    (case o_BadNumber => refine' ⟨⟨_, _, _, _, [.ref _, .type "ValueError", .type "Exception", .type "BaseException", .type "object"], _, _, _, _, _, _, _, _, _, _, ?x_o_BadNumber, ?r_o_BadNumber⟩, ?s_o_BadNumber, ?e_o_BadNumber, ?t_o_BadNumber, ?k_o_BadNumber⟩; (case x_o_BadNumber => exact rfl); (case r_o_BadNumber => decide +kernel); (case s_o_BadNumber => k_is); (case e_o_BadNumber => k_is); (case t_o_BadNumber => k_is); (case k_o_BadNumber => k_is))
    (case i_BadNumber => k_is)
    (case p_BadNumber_part => k_is)
    (case n_TooMany => k_is)
    (case o_TooMany => refine' ⟨⟨_, _, _, _, [.ref _, .type "ValueError", .type "Exception", .type "BaseException", .type "object"], _, _, _, _, _, _, _, _, _, _, ?x_o_TooMany, ?r_o_TooMany⟩, ?s_o_TooMany, ?e_o_TooMany, ?t_o_TooMany, ?k_o_TooMany⟩; (case x_o_TooMany => exact rfl); (case r_o_TooMany => decide +kernel); (case s_o_TooMany => k_is); (case e_o_TooMany => k_is); (case t_o_TooMany => k_is); (case k_o_TooMany => k_is))
    (case i_TooMany => k_is)
    (case p_TooMany_what => k_is)
    (case p_TooMany_most => k_is)
    (case n_BadStock => k_is)
    (case o_BadStock => refine' ⟨⟨_, _, _, _, [.ref _, .type "ValueError", .type "Exception", .type "BaseException", .type "object"], _, _, _, _, _, _, _, _, _, _, ?x_o_BadStock, ?r_o_BadStock⟩, ?s_o_BadStock, ?e_o_BadStock, ?t_o_BadStock, ?k_o_BadStock⟩; (case x_o_BadStock => exact rfl); (case r_o_BadStock => decide +kernel); (case s_o_BadStock => k_is); (case e_o_BadStock => k_is); (case t_o_BadStock => k_is); (case k_o_BadStock => k_is))
    (case i_BadStock => k_is)
    (case p_BadStock_part => k_is)
    (case n_Impossible => k_is)
    (case o_Impossible => refine' ⟨⟨_, _, _, _, [.ref _, .type "ValueError", .type "Exception", .type "BaseException", .type "object"], _, _, _, _, _, _, _, _, _, _, ?x_o_Impossible, ?r_o_Impossible⟩, ?s_o_Impossible, ?e_o_Impossible, ?t_o_Impossible, ?k_o_Impossible⟩; (case x_o_Impossible => exact rfl); (case r_o_Impossible => decide +kernel); (case s_o_Impossible => k_is); (case e_o_Impossible => k_is); (case t_o_Impossible => k_is); (case k_o_Impossible => k_is))
    (case i_Impossible => k_is)
    (case p_Impossible_paper => k_is)
    (case t_BadWord => k_is)
    (case G_BadWord => refine' ⟨_, L2.fun_mk ?l_G_BadWord ?c_G_BadWord ?k_G_BadWord⟩; (case l_G_BadWord => k_is); (case c_G_BadWord => k_is); (case k_G_BadWord => k_is))
    (case t_BadNumber => k_is)
    (case G_BadNumber => refine' ⟨_, L2.fun_mk ?l_G_BadNumber ?c_G_BadNumber ?k_G_BadNumber⟩; (case l_G_BadNumber => k_is); (case c_G_BadNumber => k_is); (case k_G_BadNumber => k_is))
    (case t_TooMany => k_is)
    (case G_TooMany => refine' ⟨_, L2.fun_mk ?l_G_TooMany ?c_G_TooMany ?k_G_TooMany⟩; (case l_G_TooMany => k_is); (case c_G_TooMany => k_is); (case k_G_TooMany => k_is))
    (case t_BadStock => k_is)
    (case G_BadStock => refine' ⟨_, L2.fun_mk ?l_G_BadStock ?c_G_BadStock ?k_G_BadStock⟩; (case l_G_BadStock => k_is); (case c_G_BadStock => k_is); (case k_G_BadStock => k_is))
    (case t_Impossible => k_is)
    (case G_Impossible => refine' ⟨_, L2.fun_mk ?l_G_Impossible ?c_G_Impossible ?k_G_Impossible⟩; (case l_G_Impossible => k_is); (case c_G_Impossible => k_is); (case k_G_Impossible => k_is))
    (case xf_BadWord => refine' ⟨?a_xf_BadWord, ?b_xf_BadWord, ?d_xf_BadWord, ?e_xf_BadWord⟩; (case a_xf_BadWord => k_is); (case b_xf_BadWord => k_is); (case d_xf_BadWord => k_is); (case e_xf_BadWord => k_is))
    (case xf_BadNumber => refine' ⟨?a_xf_BadNumber, ?b_xf_BadNumber, ?d_xf_BadNumber, ?e_xf_BadNumber⟩; (case a_xf_BadNumber => k_is); (case b_xf_BadNumber => k_is); (case d_xf_BadNumber => k_is); (case e_xf_BadNumber => k_is))
    (case xf_TooMany => refine' ⟨?a_xf_TooMany, ?b_xf_TooMany, ?d_xf_TooMany, ?e_xf_TooMany⟩; (case a_xf_TooMany => k_is); (case b_xf_TooMany => k_is); (case d_xf_TooMany => k_is); (case e_xf_TooMany => k_is))
    (case xf_BadStock => refine' ⟨?a_xf_BadStock, ?b_xf_BadStock, ?d_xf_BadStock, ?e_xf_BadStock⟩; (case a_xf_BadStock => k_is); (case b_xf_BadStock => k_is); (case d_xf_BadStock => k_is); (case e_xf_BadStock => k_is))
    (case xf_Impossible => refine' ⟨?a_xf_Impossible, ?b_xf_Impossible, ?d_xf_Impossible, ?e_xf_Impossible⟩; (case a_xf_Impossible => k_is); (case b_xf_Impossible => k_is); (case d_xf_Impossible => k_is); (case e_xf_Impossible => k_is))
    (case xm_00 => kernel_rfl)
    (case xm_40 => kernel_rfl)
    (case xm_44 => kernel_rfl)
    (case xm_10 => kernel_rfl)
    (case xm_14 => kernel_rfl)
    (case xm_11 => kernel_rfl)
    (case xm_50 => kernel_rfl)
    (case xm_54 => kernel_rfl)
    (case xm_51 => kernel_rfl)
    (case xm_55 => kernel_rfl)
    (case xm_30 => kernel_rfl)
    (case xm_34 => kernel_rfl)
    (case xm_31 => kernel_rfl)
    (case xm_35 => kernel_rfl)
    (case xm_33 => kernel_rfl)
    (case ks_hn => k_is)
    (case ks_ht => k_is)
    (case n_Against => k_is)
    (case n_Denial => k_is)
    (case n_Paper => k_is)
    (case cl_Against => refine' ⟨?a_cl_Against, ?b_cl_Against, ?d_cl_Against, ?e_cl_Against⟩; (case a_cl_Against => k_is); (case b_cl_Against => k_is); (case d_cl_Against => k_is); (case e_cl_Against => k_is))
    (case na_Against_kind => k_is)
    (case na_Against_parts => k_is)
    (case na_Against_one => k_is)
    (case na_Against_other => k_is)
    (case mk_Against => refine' ⟨?a_mk_Against, ?b_mk_Against, ?d_mk_Against, ?e_mk_Against⟩; (case a_mk_Against => k_is); (case b_mk_Against => k_is); (case d_mk_Against => k_is); (case e_mk_Against => k_is))
    (case su_foundA => ks_is)
    (case su_foundD => ks_is)
    (case G_Against => refine' ⟨_, K6.funS_mk ?l_G_Against ?c_G_Against⟩; (case l_G_Against => k_is); (case c_G_Against => k_is))
    (case su_cellA => refine' K6.cell_mk ?l_su_cellA; (case l_su_cellA => k_is))
    (case su_codeA => refine' K6.code_mk ?l_su_codeA ?c_su_codeA ?k_su_codeA; (case l_su_codeA => k_is); (case c_su_codeA => exact rfl); (case k_su_codeA => first | exact rfl | decide +kernel))
    (case su_clsA => refine' K6.cls_mk ?l_su_clsA; (case l_su_clsA => k_is))
    (case G_Denial => refine' ⟨_, K6.funS_mk ?l_G_Denial ?c_G_Denial⟩; (case l_G_Denial => k_is); (case c_G_Denial => k_is))
    (case su_cellD => refine' K6.cell_mk ?l_su_cellD; (case l_su_cellD => k_is))
    (case su_codeD => refine' K6.code_mk ?l_su_codeD ?c_su_codeD ?k_su_codeD; (case l_su_codeD => k_is); (case c_su_codeD => exact rfl); (case k_su_codeD => first | exact rfl | decide +kernel))
    (case su_clsD => refine' K6.cls_mk ?l_su_clsD; (case l_su_clsD => k_is))
    (case su_subA => k_is)
    (case su_subD => k_is)
    (case su_opq => k_is)
    (case su_fnA => k_is)
    (case su_fiA => k_is)
    (case su_fnD => k_is)
    (case su_fiD => k_is)
    (case su_top => first | exact rfl | decide +kernel)
    (case G_Paper => refine' ⟨_, L2.fun_mk ?l_G_Paper ?c_G_Paper ?k_G_Paper⟩; (case l_G_Paper => k_is); (case c_G_Paper => k_is); (case k_G_Paper => k_is))
    (case zn_pg => k_is)
    (case zn_hd => k_is)
    (case zn_fi => k_is)
    (case zn_mro => k_is)
    (case zn_rd => k_is)
    (case zn_fn => kernel_rfl)
    (case zn_ty => k_is)
    (case zn_nm => refine' K6.kept_mk ?l_zn_nm ?c_zn_nm; (case l_zn_nm => k_is); (case c_zn_nm => exact rfl))
    (case zn_kP => kernel_rfl)
    (case zn_eq => k_is)
    (case zn_ef => k_is)
    (case G_Deq => refine' ⟨_, L2.fun_mk ?l_G_Deq ?c_G_Deq ?k_G_Deq⟩; (case l_G_Deq => k_is); (case c_G_Deq => k_is); (case k_G_Deq => k_is))
    (case tb__law_refused_right => kernel_rfl)
    (case tc__law_refused_right => kernel_rfl)
    (case tn__law_refused_right => kernel_rfl)
    (case tb__law_lot_right => kernel_rfl)
    (case tc__law_lot_right => kernel_rfl)
    (case tn__law_lot_right => kernel_rfl)
    (case d_is_integer => k_is)
    (case d_is_within => k_is)
    (case d_is_list => k_is)
    (case d_is_long_word => k_is)
    (case d_is_rising => k_is)
    (case d_is_word => k_is)
    (case d_pairs_of_places => k_is)
    (case d_need_number => k_is)
    (case d_fixed => k_is)
    (case d_are_equal => k_is)
    (case d_need_own_words => k_is)
    (case d_need_wide => k_is)
    (case d_need_few_words => k_is)
    (case d_surroundings_at => k_is)
    (case d_places_by_sound => k_is)
    (case d_least_against => k_is)
    (case d_pairs_among => k_is)
    (case d_is_lot_by_rule => k_is)
    (case d_partings_of => k_is)
    (case d_is_coarsest_parting => k_is)
    (case d_coarsest => k_is)
    (case d_rule_table => k_is)
    (case d__law_pen => k_is)
    (case d__law_draw => k_is)
    (case d__law_pick => k_is)
    (case d__law_words => k_is)
    (case d__law_near => k_is)
    (case d__law_places => k_is)
    (case d__law_nears => k_is)
    (case d__law_against => k_is)
    (case d__law_sounds => k_is)
    (case d__law_heard => k_is)
    (case d__law_lot_right => k_is)
    (case d__law_told_back => k_is)
    (case d__law_refused_right => k_is)
    (case d_law => k_is)
    (case F_is_integer => refine' ⟨_, L2.fun_mk ?l_F_is_integer ?c_F_is_integer ?k_F_is_integer⟩; (case l_F_is_integer => k_is); (case c_F_is_integer => k_is); (case k_F_is_integer => k_is))
    (case F_is_within => refine' ⟨_, L2.fun_mk ?l_F_is_within ?c_F_is_within ?k_F_is_within⟩; (case l_F_is_within => k_is); (case c_F_is_within => k_is); (case k_F_is_within => k_is))
    (case F_is_list => refine' ⟨_, L2.fun_mk ?l_F_is_list ?c_F_is_list ?k_F_is_list⟩; (case l_F_is_list => k_is); (case c_F_is_list => k_is); (case k_F_is_list => k_is))
    (case F_is_long_word => refine' ⟨_, L2.fun_mk ?l_F_is_long_word ?c_F_is_long_word ?k_F_is_long_word⟩; (case l_F_is_long_word => k_is); (case c_F_is_long_word => k_is); (case k_F_is_long_word => k_is))
    (case F_is_rising => refine' ⟨_, L2.fun_mk ?l_F_is_rising ?c_F_is_rising ?k_F_is_rising⟩; (case l_F_is_rising => k_is); (case c_F_is_rising => k_is); (case k_F_is_rising => k_is))
    (case F_is_word => refine' ⟨_, L2.fun_mk ?l_F_is_word ?c_F_is_word ?k_F_is_word⟩; (case l_F_is_word => k_is); (case c_F_is_word => k_is); (case k_F_is_word => k_is))
    (case F_pairs_of_places => refine' ⟨_, L2.fun_mk ?l_F_pairs_of_places ?c_F_pairs_of_places ?k_F_pairs_of_places⟩; (case l_F_pairs_of_places => k_is); (case c_F_pairs_of_places => k_is); (case k_F_pairs_of_places => k_is))
    (case F_need_number => refine' ⟨_, L2.fun_mk ?l_F_need_number ?c_F_need_number ?k_F_need_number⟩; (case l_F_need_number => k_is); (case c_F_need_number => k_is); (case k_F_need_number => k_is))
    (case F_fixed => refine' ⟨_, L2.fun_mk ?l_F_fixed ?c_F_fixed ?k_F_fixed⟩; (case l_F_fixed => k_is); (case c_F_fixed => k_is); (case k_F_fixed => k_is))
    (case F_are_equal => refine' ⟨_, L2.fun_mk ?l_F_are_equal ?c_F_are_equal ?k_F_are_equal⟩; (case l_F_are_equal => k_is); (case c_F_are_equal => k_is); (case k_F_are_equal => k_is))
    (case F_need_own_words => refine' ⟨_, L2.fun_mk ?l_F_need_own_words ?c_F_need_own_words ?k_F_need_own_words⟩; (case l_F_need_own_words => k_is); (case c_F_need_own_words => k_is); (case k_F_need_own_words => k_is))
    (case F_need_wide => refine' ⟨_, L2.fun_mk ?l_F_need_wide ?c_F_need_wide ?k_F_need_wide⟩; (case l_F_need_wide => k_is); (case c_F_need_wide => k_is); (case k_F_need_wide => k_is))
    (case F_need_few_words => refine' ⟨_, L2.fun_mk ?l_F_need_few_words ?c_F_need_few_words ?k_F_need_few_words⟩; (case l_F_need_few_words => k_is); (case c_F_need_few_words => k_is); (case k_F_need_few_words => k_is))
    (case F_surroundings_at => refine' ⟨_, L2.fun_mk ?l_F_surroundings_at ?c_F_surroundings_at ?k_F_surroundings_at⟩; (case l_F_surroundings_at => k_is); (case c_F_surroundings_at => k_is); (case k_F_surroundings_at => k_is))
    (case F_places_by_sound => refine' ⟨_, L2.fun_mk ?l_F_places_by_sound ?c_F_places_by_sound ?k_F_places_by_sound⟩; (case l_F_places_by_sound => k_is); (case c_F_places_by_sound => k_is); (case k_F_places_by_sound => k_is))
    (case F_least_against => refine' ⟨_, L2.fun_mk ?l_F_least_against ?c_F_least_against ?k_F_least_against⟩; (case l_F_least_against => k_is); (case c_F_least_against => k_is); (case k_F_least_against => k_is))
    (case F_pairs_among => refine' ⟨_, L2.fun_mk ?l_F_pairs_among ?c_F_pairs_among ?k_F_pairs_among⟩; (case l_F_pairs_among => k_is); (case c_F_pairs_among => k_is); (case k_F_pairs_among => k_is))
    (case F_is_lot_by_rule => refine' ⟨_, L2.fun_mk ?l_F_is_lot_by_rule ?c_F_is_lot_by_rule ?k_F_is_lot_by_rule⟩; (case l_F_is_lot_by_rule => k_is); (case c_F_is_lot_by_rule => k_is); (case k_F_is_lot_by_rule => k_is))
    (case F_partings_of => refine' ⟨_, L2.fun_mk ?l_F_partings_of ?c_F_partings_of ?k_F_partings_of⟩; (case l_F_partings_of => k_is); (case c_F_partings_of => k_is); (case k_F_partings_of => k_is))
    (case F_is_coarsest_parting => refine' ⟨_, L2.fun_mk ?l_F_is_coarsest_parting ?c_F_is_coarsest_parting ?k_F_is_coarsest_parting⟩; (case l_F_is_coarsest_parting => k_is); (case c_F_is_coarsest_parting => k_is); (case k_F_is_coarsest_parting => k_is))
    (case F_coarsest => refine' W5.V.funD_coarsest ?l_F_coarsest ?c_F_coarsest ?t_F_coarsest ?d_F_coarsest ?v_F_coarsest ?k_F_coarsest; (case l_F_coarsest => k_is); (case c_F_coarsest => k_is); (case t_F_coarsest => k_is); (case d_F_coarsest => exact rfl); (case v_F_coarsest => exact .cons ⟨_, rfl⟩ .nil); (case k_F_coarsest => k_is))
    (case F_rule_table => refine' W5.V.funD_rule_table ?l_F_rule_table ?c_F_rule_table ?t_F_rule_table ?d_F_rule_table ?v_F_rule_table ?k_F_rule_table; (case l_F_rule_table => k_is); (case c_F_rule_table => k_is); (case t_F_rule_table => k_is); (case d_F_rule_table => exact rfl); (case v_F_rule_table => exact .cons ⟨_, rfl⟩ .nil); (case k_F_rule_table => k_is))
    (case F__law_pen => refine' ⟨_, L2.fun_mk ?l_F__law_pen ?c_F__law_pen ?k_F__law_pen⟩; (case l_F__law_pen => k_is); (case c_F__law_pen => k_is); (case k_F__law_pen => k_is))
    (case F__law_draw => refine' ⟨_, L2.fun_mk ?l_F__law_draw ?c_F__law_draw ?k_F__law_draw⟩; (case l_F__law_draw => k_is); (case c_F__law_draw => k_is); (case k_F__law_draw => k_is))
    (case F__law_pick => refine' ⟨_, L2.fun_mk ?l_F__law_pick ?c_F__law_pick ?k_F__law_pick⟩; (case l_F__law_pick => k_is); (case c_F__law_pick => k_is); (case k_F__law_pick => k_is))
    (case F__law_words => refine' ⟨_, L2.fun_mk ?l_F__law_words ?c_F__law_words ?k_F__law_words⟩; (case l_F__law_words => k_is); (case c_F__law_words => k_is); (case k_F__law_words => k_is))
    (case F__law_near => refine' ⟨_, L2.fun_mk ?l_F__law_near ?c_F__law_near ?k_F__law_near⟩; (case l_F__law_near => k_is); (case c_F__law_near => k_is); (case k_F__law_near => k_is))
    (case F__law_places => refine' ⟨_, L2.fun_mk ?l_F__law_places ?c_F__law_places ?k_F__law_places⟩; (case l_F__law_places => k_is); (case c_F__law_places => k_is); (case k_F__law_places => k_is))
    (case F__law_nears => refine' ⟨_, L2.fun_mk ?l_F__law_nears ?c_F__law_nears ?k_F__law_nears⟩; (case l_F__law_nears => k_is); (case c_F__law_nears => k_is); (case k_F__law_nears => k_is))
    (case F__law_against => refine' ⟨_, L2.fun_mk ?l_F__law_against ?c_F__law_against ?k_F__law_against⟩; (case l_F__law_against => k_is); (case c_F__law_against => k_is); (case k_F__law_against => k_is))
    (case F__law_sounds => refine' ⟨_, L2.fun_mk ?l_F__law_sounds ?c_F__law_sounds ?k_F__law_sounds⟩; (case l_F__law_sounds => k_is); (case c_F__law_sounds => k_is); (case k_F__law_sounds => k_is))
    (case F__law_heard => refine' ⟨_, L2.fun_mk ?l_F__law_heard ?c_F__law_heard ?k_F__law_heard⟩; (case l_F__law_heard => k_is); (case c_F__law_heard => k_is); (case k_F__law_heard => k_is))
    (case F__law_lot_right => refine' ⟨_, L2.fun_mk ?l_F__law_lot_right ?c_F__law_lot_right ?k_F__law_lot_right⟩; (case l_F__law_lot_right => k_is); (case c_F__law_lot_right => k_is); (case k_F__law_lot_right => k_is))
    (case F__law_told_back => refine' ⟨_, L2.fun_mk ?l_F__law_told_back ?c_F__law_told_back ?k_F__law_told_back⟩; (case l_F__law_told_back => k_is); (case c_F__law_told_back => k_is); (case k_F__law_told_back => k_is))
    (case F__law_refused_right => refine' ⟨_, L2.fun_mk ?l_F__law_refused_right ?c_F__law_refused_right ?k_F__law_refused_right⟩; (case l_F__law_refused_right => k_is); (case c_F__law_refused_right => k_is); (case k_F__law_refused_right => k_is))
    (case F_law => refine' ⟨_, L2.fun_mk ?l_F_law ?c_F_law ?k_F_law⟩; (case l_F_law => k_is); (case c_F_law => k_is); (case k_F_law => k_is))
