import PyProof.Rows.All
import Wide.All
import OpenK.AllK
import Wide.FinOn
import HandS.ForMost
import HandS.SortKw
import KE.SortKeyHeap
import HandS.DictComp
import HandS.DictTup
import HandS.Conv
import HandS.Walk
import KE.KDictKeyed
import HandS.More
import HandS.IsInst
import HandS.Style
import HandS.Deep
import HandS.TupSets
import PyProof.ListRange
import KE.KListLetter
import PyProof.NeKinds
import KE.KOpsOwn
import HandS.Small
import HandS.Defaults
import HandS.Star
import KE.KxText
import HandS.Text
import HandS.Dict
import HandS.Iter
import PyProof.AutoSeq1
import PyProof.Rows.TupDisplay
import HandS.ClsMeth
import PyProof.InstEq
import PyProof.InstNe
import HandS.OwnEq
import PyProof.TwoTypes
import KE.RegKSuper
import KE.KExcLine
import KE.RegKIsAll
import PySem.Challenge.RW_keptbase_k33_forms_reckoned
set_option Elab.async false
set_option linter.all false
set_option maxRecDepth 100000
set_option maxHeartbeats 4000000
/-! sorted(xs, key=f), f a def with a promise, whose keys may be data with lists. -/
namespace FS
open PySem PySem.W PySem.Spec PySem.Calls PyProof.Rows L2
/-- a freed object is none -/
theorem gone (h : Heap) (a : Addr) : (h.update a fun o => { o with data := .freed }).get? a = none := by
  obtain ⟨objs, l⟩ := h
  unfold Heap.update Heap.get?
  simp only
  by_cases ha : a < objs.size
  · rw [Array.getElem?_modify]
    simp only [if_true]
    rw [Array.getElem?_eq_getElem ha]
    rfl
  · rw [Array.getElem?_eq_none (by simpa using Nat.le_of_not_lt ha)]
section
variable {prog : Program} {w : World} {A : Around} {E : Value → Shared → Prop} {s : Shared} {a kS : Addr} {b : Bool} {vs : List Value} {e1 : Nat} {P : PySem.Fin → Shared → Prop}
/-- the keys, one call each: Φ i ks holds when ks are the keys of the first i items -/
theorem keys_by {f : Value} (Φ : Nat → Array Value → Shared → Prop) (hZ : vs.length ≤ sizeLine) (start : Φ 0 #[] s)
    (turn : ∀ (i : Nat) (v : Value) (ks : Array Value) (s1 : Shared), vs[i]? = some v → ks.size = i → Φ i ks s1 →
      wpAny (model prog w) A (call f [v]) (fun k s2 => ∃ e, s2.heap.get? kS = some (seqObj "list" ks e) ∧ Φ (i + 1) (ks.push k) { s2 with heap := s2.heap.update kS (Obj.mapSeq fun z => z.push k) }) (fun _ _ => False) s1)
    (fin : ∀ (ks : Array Value) (s1 : Shared), ks.size = vs.length → Φ vs.length ks s1 → ∃ e, s1.heap.get? kS = some (seqObj "list" ks e) ∧ wpAny (model prog w) A (ksk_end a b vs.toArray e1 (.ref kS) ks) P E s1) :
    wpAny (model prog w) A (ksk_rest a f b vs.toArray e1 (.ref kS)) P E s := by
  unfold ksk_rest
  refine wpAny_bind (wpAny_rule ?_)
  rw [List.forIn_toArray]
  refine wpAny_bind (ksk_fold (fun i s1 => ∃ ks : Array Value, ks.size = i ∧ Φ i ks s1) vs 0 s ⟨#[], rfl, start⟩ ?t ?d)
  case t =>
    rintro j x s1 hx ⟨ks, hk, hΦ⟩
    rw [Nat.zero_add] at hk hΦ
    have hj : j < vs.length := (List.getElem?_eq_some_iff.mp hx).1
    refine wpAny_bind (wpAny_attempt (wpAny_mono (turn j x ks s1 hx hk hΦ) (fun k s2 hq => ?_) fun _ _ z => z.elim))
    obtain ⟨e, hS, hn⟩ := hq
    refine wpAny_bind (listUpdate_at hS rfl ?_ (by omega) (by rw [Array.size_push]; omega))
    exact wpAny_pure ⟨rfl, ks.push k, by rw [Array.size_push, hk, Nat.zero_add], by rw [Nat.zero_add]; exact hn⟩
  case d =>
    rintro s1 ⟨ks, hk, hΦ⟩
    rw [Nat.zero_add] at hk hΦ
    obtain ⟨e, hS, hw⟩ := fin ks s1 hk hΦ
    exact wpAny_bind (listItems_at hS rfl hw)
end

theorem rd_same {H H' : Hp} {a : Addr} {u : HO} (h : Rd H a u) (k : Same H H') : Rd H' a u := by
  rcases h with h | ⟨o, h⟩
  · exact .inl (k _ _ h)
  · exact .inr ⟨o, k _ _ h⟩
theorem sqL_same {K : PySem.W.Frag} {H H' : Hp} {a : Addr} {xs : List V} (h : SqL K H a xs) (k : Same H H') : SqL K H' a xs := by
  rcases h with h | h
  · exact .inl (rd_same h k)
  · exact .inr h
theorem sqT_same {K : PySem.W.Frag} {H H' : Hp} {a : Addr} {xs : List V} (h : SqT K H a xs) (k : Same H H') : SqT K H' a xs := by
  rcases h with h | h
  · exact .inl (rd_same h k)
  · exact .inr h
section
variable {K : PySem.W.Frag} {H H' : Hp}
mutual
theorem dp_same (k : Same H H') : ∀ (d : PyData) (v : V), Dp K H v d → Dp K H' v d
  | .none, _, h => by cases h; exact .non
  | .bool _, _, h => by cases h; exact .bl _
  | .int _, _, h => by cases h; exact .int _
  | .str _, _, h => by cases h; exact .str _
  | .list ds, _, h => by
    cases h with
    | lst h1 h2 => exact .lst (sqL_same h1 k) (dp_sames k ds _ h2)
  | .tuple ds, _, h => by
    cases h with
    | tup h1 h2 => exact .tup (sqT_same h1 k) (dp_sames k ds _ h2)
  | .dict _, _, h => by cases h
theorem dp_sames (k : Same H H') : ∀ (ds : List PyData) (vs : List V), DpAll K H vs ds → DpAll K H' vs ds
  | [], _, h => by cases h; exact .nil
  | d :: ds, _, h => by
    cases h with
    | cons h1 h2 => exact .cons (dp_same k d _ h1) (dp_sames k ds _ h2)
end
end
section
variable {X : Cx} {β : Type} {f : Addr} {fd : FuncData} {k : Nat} {ps : List Str} {sp : Sp}
/-- sorted(xs, key=f): how an item lies, what its key reads as -/
def rSortBy (K : PySem.W.Frag) (f : Addr) (R : Hp → V → β → Prop) (enc : β → PyData) : List V → List V → Hp → VK → Prop := fun vs zs H Q =>
  ∃ (a : Addr) (L : List (V × β)), vs = [V.ref a] ∧ zs = [V.ref f] ∧ SqL K H a (L.map fun z => z.1) ∧ (∀ z ∈ L, R H z.1 z.2) ∧
    ∀ (p : Addr) (H' : Hp), H p = none → Same H H' → H' p = some (.lst ((L.mergeSort (dataLe false fun z => enc z.2)).map fun z => z.1)) → Q (.ref p) H'
theorem eachV : ∀ {L : List (V × β)} {its : List Value}, Vals (L.map fun z => z.1) its → EachIs (fun v z => RelV z.1 v) its L
  | [], _, .nil => .nil
  | _ :: _, _, .cons r t => .cons r (eachV t)
theorem vEach : ∀ {L : List (V × β)} {its : List Value}, EachIs (fun v z => RelV z.1 v) its L → Vals (L.map fun z => z.1) its
  | [], _, .nil => .nil
  | _ :: _, _, .cons r t => .cons r (vEach t)
theorem cr_sortBy {R : Hp → V → β → Prop} {enc : β → PyData} (F : FnOk X.prog X.w X.K X.mg X.base CX0 k f fd ps sp) (hb : Binds X.K fd ps []) (hr : Room (k + 2) X.A) (h1p : ps.length = 1)
    (hR : ∀ H H' v b, Same H H' → R H v b → R H' v b) (hsp : ∀ H v b, R H v b → sp [v] H (fun x H' => Same H H' ∧ Dp X.K H' x (enc b)) E0)
    (hal : ∀ b c, alike (enc b) (enc c) = true) (hsb : (∀ b, ∃ x r, enc b = .tuple (x :: r)) ∨ ∀ b, enc b ≠ .none ∧ ∀ xs, enc b ≠ .tuple xs) (hde : ∀ b, (enc b).depth ≤ 60) :
    CallRK X (.builtin "sorted") ["key"] (rSortBy X.K f R enc) := by
  intro pins s σ H vs zs us ws Q I r rz h
  obtain ⟨a, L, rfl, rfl, hs, hall, q⟩ := h
  obtain rfl := Vals.ref1 r
  obtain ⟨w1, rfl, e1⟩ := vals1 rz
  obtain rfl : w1 = Value.ref f := e1
  obtain ⟨its, rv, hl, hz⟩ := I.list hs
  have hz' : L.length ≤ sizeLine := by rw [List.length_map] at hz; exact hz
  have hits : its.length = L.length := by rw [← rv.length, List.length_map]
  have hzi : its.length ≤ sizeLine := by omega
  show wpAny _ _ (call (.builtin "sorted") [.ref a] [(Str.ofString "key", .ref f)]) _ _ _
  refine sorted_of_sort (vs := its) hl.isList hzi (ksk_s1 _ _) (fun _ => ksk_l1 _ _) fun E' => ?_
  rw [ksk_t1]
  have ho := copyHeap_at s.heap its
  generalize ha' : s.heap.objs.size + 1 = a' at ho ⊢
  have haS : s.heap.objs.size ≤ a' := by omega
  have h0 : ∀ b o, s.heap.get? b = some o → (copyHeap s.heap its).get? b = some o := fun b o e => copyHeap_old e
  generalize copyHeap s.heap its = hc at ho h0 ⊢
  obtain ⟨c1, ho1⟩ : ∃ c1, (hc.update a' (Obj.mapSeq fun _ => (#[] : Array Value))).get? a' = some (seqObj "list" #[] c1) := ⟨_, get?_update_seq ho fun _ => #[]⟩
  unfold ksk_tree
  refine wpAny_bind (listItems_at ho rfl ?_)
  refine wpAny_bind (listUpdate_at ho rfl ?_ (by rw [List.size_toArray]; exact hzi) (Nat.zero_le _))
  refine wpAny_bind (seqEpoch_at ho1 rfl ?_)
  refine wpAny_bind (wpAny_newTuple ?_ hzi)
  refine wpAny_bind (wpAny_newList ?_ (Nat.zero_le _))
  refine wpAny_holding ?_
  have hal' : a' < hc.objs.size := Heap.lt_size ho
  have hkS : ((hc.update a' (Obj.mapSeq fun _ => (#[] : Array Value))).push (seqObj "tuple" its.toArray 0)).objs.size = hc.objs.size + 1 := by rw [size_push', Heap.size_update]
  have hg0 : ∀ b o, s.heap.get? b = some o → (((hc.update a' (Obj.mapSeq fun _ => (#[] : Array Value))).push (seqObj "tuple" its.toArray 0)).push (seqObj "list" #[] 0)).get? b = some o := fun b o e =>
    Heap.get?_push_of_some _ (Heap.get?_push_of_some _ ((Heap.get?_update_other _ _ (Ne.symm (Nat.ne_of_lt (Nat.lt_of_lt_of_le (Heap.lt_size e) haS)))).trans (h0 b o e)))
  have hga : (((hc.update a' (Obj.mapSeq fun _ => (#[] : Array Value))).push (seqObj "tuple" its.toArray 0)).push (seqObj "list" #[] 0)).get? a' = some (seqObj "list" #[] c1) := Heap.get?_push_of_some _ (Heap.get?_push_of_some _ ho1)
  have hgk : (((hc.update a' (Obj.mapSeq fun _ => (#[] : Array Value))).push (seqObj "tuple" its.toArray 0)).push (seqObj "list" #[] 0)).get? ((hc.update a' (Obj.mapSeq fun _ => (#[] : Array Value))).push (seqObj "tuple" its.toArray 0)).objs.size = some (seqObj "list" #[] 0) := Heap.get?_push_size _ rfl
  show wpAny (model X.prog X.w) X.A.in1.in1 (ksk_rest a' (.ref f) false its.toArray c1 (.ref ((hc.update a' (Obj.mapSeq fun _ => (#[] : Array Value))).push (seqObj "tuple" its.toArray 0)).objs.size)) _ E'
    { s with heap := ((hc.update a' (Obj.mapSeq fun _ => (#[] : Array Value))).push (seqObj "tuple" its.toArray 0)).push (seqObj "list" #[] 0) }
  generalize (((hc.update a' (Obj.mapSeq fun _ => (#[] : Array Value))).push (seqObj "tuple" its.toArray 0)).push (seqObj "list" #[] 0)) = g at hg0 hga hgk ⊢
  rw [hkS] at hgk ⊢
  generalize hk' : hc.objs.size + 1 = kS at hgk ⊢
  have hka : kS ≠ a' := by omega
  have hkSs : s.heap.objs.size ≤ kS := by omega
  have own : ∀ c, s.heap.objs.size ≤ c → c ∉ frs X.stack ∧ (X.s_0.heap.objs.size ≤ c) ∧ c ≠ X.env.locals ∧ (∀ x y, X.env.cells.lookup x = some y → y ≠ c) ∧ ∀ p ∈ X.pn ++ pins, p.1 ≠ c := fun c hc => by
    refine ⟨fun hm => ?_, Nat.le_trans I.sz hc, Nat.ne_of_gt (Nat.lt_of_lt_of_le I.lt hc), fun x y e z => ?_, fun p hp z => ?_⟩
    · rcases List.mem_cons.mp (I.stkSub c hm) with z | z
      · exact absurd (Nat.lt_of_lt_of_le I.lt hc) (by rw [z]; exact Nat.lt_irrefl _)
      · exact I.nofs hc z
    · obtain ⟨v, o, ho, _⟩ := I.cell x y e
      exact absurd (Nat.lt_of_lt_of_le (Heap.lt_size ho) hc) (by rw [z]; exact Nat.lt_irrefl _)
    · have := Heap.lt_size (I.pin p hp).1
      exact absurd (Nat.lt_of_lt_of_le this hc) (by rw [z]; exact Nat.lt_irrefl _)
  have hn1 : H a' = none := I.hok.fresh haS
  have hn2 : H kS = none := I.hok.fresh hkSs
  have I0 : Inv X pins σ H { s with heap := g } := I.kept (t' := s.toks) hg0
  have hkz : ∀ (m : Nat), (L.map fun z => enc z.2).take m = (L.take m).map fun z => enc z.2 := fun m => (List.map_take).symm
  refine keys_by (fun i ks s1 => ∃ Hi e, Inv X pins σ Hi s1 ∧ Same H Hi ∧ Hi a' = none ∧ Hi kS = none ∧ s1.heap.get? kS = some (seqObj "list" ks e) ∧ s1.heap.get? a' = some (seqObj "list" #[] c1) ∧
      EachIs (fun u d => ∃ v, RelV v u ∧ Dp X.K Hi v d) ks.toList ((L.map fun z => enc z.2).take i)) hzi ⟨H, 0, I0, Same.refl _, hn1, hn2, hgk, hga, by rw [List.take_zero]; exact .nil⟩ ?_ ?_
  · rintro i u ks s1 hu hks ⟨Hi, e, I1, sm, n1, n2, gk, ga, ek⟩
    obtain ⟨x, hx⟩ : ∃ x, L[i]? = some x := ⟨_, List.getElem?_eq_getElem (by have := (List.getElem?_eq_some_iff.mp hu).1; omega)⟩
    obtain ⟨u', hu', rx⟩ := rv.get (i := i) (x := x.1) (by rw [List.getElem?_map, hx]; rfl)
    rw [hu] at hu'
    obtain rfl := Option.some.inj hu'
    have hps : ([u] ++ ([] : List Value)).length = ps.length := by rw [h1p]; rfl
    refine wpAny_call (codeAny_mono (F.run X.A.in1.in1 X.stack s1 Hi ⟨[u], []⟩ [u] [x.1] _ E0 (Room.in1 (Room.in1 hr)) I1.env0.in1.in1 (hb s1 [u] I1.kIn hps) (.cons rx .nil) (hsp Hi x.1 x.2 (hR _ _ _ _ sm (hall x (List.mem_of_getElem? hx))))) fun r2 s2 hq => ?_)
    cases r2 with
    | error e => exact hq.elim
    | ok fl =>
      cases fl with
      | next => exact hq.elim
      | brk => exact hq.elim
      | cont => exact hq.elim
      | ret uk =>
        obtain ⟨vk, Hj, os2, b2, un, ok2, rk, sm2, dk⟩ := (show CE X.stack X.prog X.w Hi s1 _ uk s2 from hq)
        obtain ⟨v', H', I2', rk', q2⟩ := I1.after (Q := fun v H' => v = vk ∧ H' = Hj) (show CE X.stack X.prog X.w Hi s1 _ uk s2 from ⟨vk, Hj, os2, b2, un, ok2, rk, rfl, rfl⟩)
        obtain ⟨rfl, rfl⟩ := q2
        have gk2 : s2.heap.get? kS = some (seqObj "list" ks e) := un.keep kS _ gk n2 (own kS hkSs).1 (by simp)
        have ga2 : s2.heap.get? a' = some (seqObj "list" #[] c1) := un.keep a' _ ga n1 (own a' haS).1 (by simp)
        have m1 : H' a' = none := un.free a' _ ga n1 (by simp)
        have m2 : H' kS = none := un.free kS _ gk n2 (by simp)
        obtain ⟨_, w2, w3, w4, w5⟩ := own kS hkSs
        refine ⟨e, gk2, H', _, I2'.turned (it := kS) (t' := s2.toks) (fun b o hb2 e2 => (Heap.get?_update_other _ _ (Ne.symm hb2)).trans e2) m2 w3 (.inr w2) w4 w5, sm.trans sm2, m1, m2, (get?_update_seq gk2 fun z => z.push uk), (Heap.get?_update_other _ _ hka).trans ga2, ?_⟩
        have ek2 : (L.map fun z => enc z.2).take (i + 1) = (L.map fun z => enc z.2).take i ++ [enc x.2] := by rw [List.take_add_one, List.getElem?_map, hx]; rfl
        rw [ek2, Array.toList_push]
        exact each_snoc ⟨v', rk, dk⟩ (ek.mono fun u d ⟨v, r, h⟩ => ⟨v, r, dp_same sm2 d v h⟩)
  · rintro ks s1 hks ⟨Hn, e, I1, sm, n1, n2, gk, ga, ek⟩
    refine ⟨e, gk, ?_⟩
    have ek' : EachIs (fun u d => ∃ as, Reads s1.heap u d as) ks.toList (L.map fun z => enc z.2) := by
      have e3 : (L.map fun z => enc z.2).take its.length = L.map fun z => enc z.2 := List.take_of_length_le (by rw [List.length_map]; omega)
      rw [e3] at ek
      exact ek.mono fun u d ⟨v, r, h⟩ => Dp.reads I1 d v u h r
    have hAl : AllAlike (L.map fun z => enc z.2) := AllAlike.of fun _ _ => hal _ _
    have hSo : Sortable (L.map fun z => enc z.2) := by
      rcases hsb with z | z
      · exact Sortable.tuples fun b => z b.2
      · exact Sortable.others fun b => z b.2
    have hu : X.A.units + 60 + 2 < cLine := by have := hr.un; omega
    have S : SortsAt X.prog X.w X.A.in1.in1 s1 (dataKind s1.heap (L.map fun z => enc z.2)) ks.toList := SortsAt.data ek' hAl hSo fun d hd => by
      obtain ⟨b, _, rfl⟩ := List.mem_map.mp hd
      have := hde b.2
      show X.A.units + 1 + 1 + _ < _
      omega
    refine keyH_end (h₁ := s1.heap.update kS fun o => { o with data := .freed }) (fun b o hb2 e2 => ?_) (gone _ _) gk ga hka S hks hzi fun h3 tk3 c3 k3 n3 => ?_
    · by_cases z : b = kS
      · rw [z, gone] at e2; cases e2
      · rw [← e2]; exact (Heap.get?_update_other _ _ (Ne.symm z)).symm
    · refine ⟨rfl, ?_⟩
      have kp : ∀ b o, b ∉ [a', kS] → s1.heap.get? b = some o → h3.get? b = some o := fun b o hb2 e2 => by
        have z1 : b ≠ a' := fun z => hb2 (by rw [z]; exact List.mem_cons_self)
        have z2 : b ≠ kS := fun z => hb2 (by rw [z]; exact List.mem_cons_of_mem _ List.mem_cons_self)
        exact k3 b o z1 ((Heap.get?_update_other _ _ (Ne.symm z2)).trans e2)
      have ko : EachIs (fun v z => RelV z.1 v) (sortVals (dataKind s1.heap (L.map fun z => enc z.2)) false ks.toList its) (L.mergeSort (dataLe false fun z => enc z.2)) :=
        keyedOut_each (R := fun v (z : V × β) => RelV z.1 v) (fun z => enc z.2) ⟨s1.heap, ks.toList, hAl, rfl, ek'⟩ (eachV rv)
      have hlen : ((L.mergeSort (dataLe false fun z => enc z.2)).map fun z => z.1).length ≤ sizeLine := by rw [List.length_map, List.length_mergeSort]; exact hz'
      have ne2 : ∀ b u, Hn b = some u → b ∉ [a', kS] := fun b u e2 hm => by
        rcases List.mem_cons.mp hm with z | z
        · rw [z, n1] at e2; cases e2
        · rw [List.mem_singleton.mp z, n2] at e2; cases e2
      have up : ∀ b u, Hn b = some u → upd Hn a' (.lst ((L.mergeSort (dataLe false fun z => enc z.2)).map fun z => z.1)) b = some u := fun b u e2 => by rw [upd_ne (ne_of_none e2 n1)]; exact e2
      refine ⟨.ref a', upd Hn a' (.lst ((L.mergeSort (dataLe false fun z => enc z.2)).map fun z => z.1)), I1.step (h' := h3) (g' := s1.gens) (d' := s1.drawn) (t' := tk3) (ch := [a', kS]) (fun b hb2 => ?_) (fun b o _ _ hc e2 _ => kp b o hc e2) (fun b o _ _ hc e2 _ => ⟨o.slots, kp b o hc e2⟩)
        (fun b o hc _ n => by rw [upd_ne fun z => hc (by rw [z]; exact List.mem_cons_self)]; exact n) (fun b o hc e2 => ⟨o, kp b o hc e2⟩) (fun b xs e2 => up b _ e2) (fun b o u e2 => up b _ e2) (fun b ps e2 => ⟨#[], by rw [up b _ e2]; simp⟩) (fun m hm => ?_) (fun b u e2 => ?_) I1.bare, rfl, q a' _ hn1 (fun b u e2 => up b u (sm b u e2)) upd_same⟩
      · rcases List.mem_cons.mp hb2 with z | z
        · obtain ⟨_, w2, w3, w4, w5⟩ := own a' haS
          rw [z]; exact ⟨.inr w2, w3, w4, w5⟩
        · obtain ⟨_, w2, w3, w4, w5⟩ := own kS hkSs
          rw [List.mem_singleton.mp z]; exact ⟨.inr w2, w3, w4, w5⟩
      · obtain ⟨ob, es, ep, ho2, r2⟩ := hm
        exact ⟨ob, es, ep, kp _ _ (fun z => by
          rcases List.mem_cons.mp z with z | z
          · exact (own a' haS).2.2.1 z.symm
          · exact (own kS hkSs).2.2.1 (List.mem_singleton.mp z).symm) ho2, r2⟩
      · by_cases hb2 : b = a'
        · subst hb2
          rw [upd_same] at e2
          cases e2
          exact ⟨hlen, _, c3, vEach ko, n3⟩
        · rw [upd_ne hb2] at e2
          refine (I1.hok b u e2).stay (fun c v hc2 e4 => kp c v ?_ e4) (fun c e4 => up c _ e4) fun c xs e4 => up c _ e4
          rcases hc2 with z | z
          · rw [z]; exact ne2 b u e2
          · exact ne2 c _ z
end
end FS
set_option maxRecDepth 100000
set_option maxHeartbeats 4000000
/-! Dicts whose keys are nested tuples of ints, texts and None. -/
namespace FD
open PySem PySem.Spec PyProof.Rows L2 FS
mutual
/-- the value reads as the key -/
inductive KI (H : Hp) : V → NestedKey → Prop
  | non : KI H .non .none
  | int (i : Int) : KI H (.int i) (.num i)
  | str (x : Str) : KI H (.str x) (.text x)
  | tup {a : Addr} {vs : List V} {ks : List NestedKey} : H a = some (.tup vs) → KIs H vs ks → KI H (.ref a) (.tup ks)
inductive KIs (H : Hp) : List V → List NestedKey → Prop
  | nil : KIs H [] []
  | cons {v : V} {vs : List V} {k : NestedKey} {ks : List NestedKey} : KI H v k → KIs H vs ks → KIs H (v :: vs) (k :: ks)
end
section
variable {H H' : Hp}
mutual
theorem KI.keep (t : ∀ b xs, H b = some (.tup xs) → H' b = some (.tup xs)) : ∀ (k : NestedKey) (v : V), KI H v k → KI H' v k
  | .none, _, h => by cases h; exact .non
  | .num _, _, h => by cases h; exact .int _
  | .text _, _, h => by cases h; exact .str _
  | .tup ks, _, h => by
    cases h with
    | tup h1 h2 => exact .tup (t _ _ h1) (KIs.keep t ks _ h2)
theorem KIs.keep (t : ∀ b xs, H b = some (.tup xs) → H' b = some (.tup xs)) : ∀ (ks : List NestedKey) (vs : List V), KIs H vs ks → KIs H' vs ks
  | [], _, h => by cases h; exact .nil
  | k :: ks, _, h => by
    cases h with
    | cons h1 h2 => exact .cons (KI.keep t k _ h1) (KIs.keep t ks _ h2)
end
theorem KI.same {k : NestedKey} {v : V} (h : KI H v k) (s : Same H H') : KI H' v k := h.keep (fun b xs e => s b _ e) k v
theorem KIs.same {ks : List NestedKey} {vs : List V} (h : KIs H vs ks) (s : Same H H') : KIs H' vs ks := h.keep (fun b xs e => s b _ e) ks vs
mutual
theorem KI.dp {K : PySem.W.Frag} : ∀ (k : NestedKey) (v : V), KI H v k → Dp K H v k.data
  | .none, _, h => by cases h; rw [NestedKey.data]; exact .non
  | .num _, _, h => by cases h; rw [NestedKey.data]; exact .int _
  | .text _, _, h => by cases h; rw [NestedKey.data]; exact .str _
  | .tup ks, _, h => by
    cases h with
    | tup h1 h2 => rw [NestedKey.data]; exact .tup (SqT.of h1) (KIs.dp ks _ h2)
theorem KIs.dp {K : PySem.W.Frag} : ∀ (ks : List NestedKey) (vs : List V), KIs H vs ks → DpAll K H vs (NestedKey.datas ks)
  | [], _, h => by cases h; rw [NestedKey.datas]; exact .nil
  | k :: ks, _, h => by
    cases h with
    | cons h1 h2 => rw [NestedKey.datas]; exact .cons (KI.dp k _ h1) (KIs.dp ks _ h2)
end
variable {P : Program} {w : World} {h : Heap}
mutual
theorem KI.nested (ok : HOk P w H h) : ∀ (k : NestedKey) (v : V) (u : Value), KI H v k → RelV v u → NestedIs h k u
  | .none, _, _, q, r => by cases q; obtain rfl := (show _ = Value.none from r); exact .none
  | .num _, _, _, q, r => by cases q; obtain ⟨t, rfl⟩ := r; exact .int _ _
  | .text _, _, _, q, r => by cases q; obtain ⟨t, rfl⟩ := r; exact .text _ _
  | .tup ks, _, _, q, r => by
    cases q with
    | @tup a vs _ h1 h2 =>
      obtain rfl := (show _ = Value.ref a from r)
      obtain ⟨_, its, rv, o, e1, e2, n, e3⟩ := (show ObjOk P w H h a (.tup vs) from ok a _ h1)
      exact .tup e1 e2 e3 (KIs.nested ok ks _ _ h2 rv)
theorem KIs.nested (ok : HOk P w H h) : ∀ (ks : List NestedKey) (vs : List V) (us : List Value), KIs H vs ks → Vals vs us → NestedAll h ks us
  | [], _, _, q, r => by cases q; cases r; exact .nil
  | k :: ks, _, _, q, r => by
    cases q with
    | cons q1 q2 =>
      cases r with
      | cons r1 r2 => exact .cons (KI.nested ok k _ _ q1 r1) (KIs.nested ok ks _ _ q2 r2)
end
end
/-- an entry: the key, its tuple, the value -/
abbrev NE := NestedKey × Addr × V
abbrev Ent : List NE → List (NestedKey × Addr × Value) → Prop := Paired fun p q => p.1 = q.1 ∧ p.2.1 = q.2.1 ∧ RelV p.2.2 q.2.2
def nval (kvs : List NE) (k : NestedKey) : Option V := (kvs.find? fun e => decide (e.1 = k)).map (·.2.2)
def nput (kvs : List NE) (k : NestedKey) (b : Addr) (v : V) : List NE := if (nval kvs k).isSome then kvs.map (fun e => if e.1 = k then (e.1, e.2.1, v) else e) else kvs ++ [(k, b, v)]
theorem Ent.val {kvs : List NE} {xs : List (NestedKey × Addr × Value)} (r : Ent kvs xs) (k : NestedKey) : RelO (nval kvs k) ((atKey xs k).map (·.2)) := by
  induction r with
  | nil => exact True.intro
  | @cons p q ps qs h t ih =>
    obtain ⟨h1, _, h2⟩ := h
    by_cases e : p.1 = k
    · have e' : q.1 = k := h1.symm.trans e
      simp only [nval, atKey, List.find?_cons, e, e', decide_true, Option.map_some]
      exact h2
    · have e' : ¬ q.1 = k := fun z => e (h1.trans z)
      have a : nval (p :: ps) k = nval ps k := by simp [nval, List.find?_cons, e]
      have b : atKey (q :: qs) k = atKey qs k := by simp [atKey, List.find?_cons, e']
      rw [a, b]; exact ih
theorem Ent.put {kvs : List NE} {xs : List (NestedKey × Addr × Value)} (r : Ent kvs xs) (k : NestedKey) (b : Addr) {y : V} {u : Value} (ry : RelV y u) : Ent (nput kvs k b y) (storedH xs k b u) := by
  have e : (nval kvs k).isSome = (atKey xs k).isSome := by rw [(r.val k).isSome_eq, Option.isSome_map]
  unfold nput storedH
  rw [e]
  by_cases q : (atKey xs k).isSome = true
  · rw [if_pos q, if_pos q]
    clear e q
    induction r with
    | nil => exact .nil
    | @cons p q ps qs h t ih =>
      rw [List.map_cons, List.map_cons]
      refine .cons ?_ ih
      obtain ⟨h1, h2, h3⟩ := h
      unfold putAt
      by_cases e : p.1 = k
      · rw [if_pos e, if_pos (h1.symm.trans e)]; exact ⟨h1, h2, ry⟩
      · rw [if_neg e, if_neg (fun z => e (h1.trans z))]; exact ⟨h1, h2, h3⟩
  · rw [if_neg q, if_neg q]; exact Paired.snoc r ⟨rfl, rfl, ry⟩
theorem nput_len (kvs : List NE) (k : NestedKey) (b : Addr) (v : V) : (nput kvs k b v).length ≤ kvs.length + 1 := by
  unfold nput; split
  · rw [List.length_map]; omega
  · rw [List.length_append]; exact Nat.le_refl _
def NDraw (P : Program) (w : World) (d : Addr) (kvs : List NE) (h : Heap) : Prop := ∃ xs, Ent kvs xs ∧ ∃ o es ep, h.get? d = some o ∧ o.ExactDict ∧ o.data = .dict es ep ∧ es.toList = xs.map (entryOfKey (nestedKind P w)) ∧ (xs.map (·.1)).Nodup
def ndO (P : Program) (w : World) (d : Addr) (kvs : List NE) : HO := .ext (NDraw P w d kvs)
/-- the keys' own tuples -/
def NKeys (H : Hp) (kvs : List NE) : Prop := ∀ e ∈ kvs, KI H (.ref e.2.1) e.1 ∧ e.1.depth ≤ 8
theorem NKeys.keep {H H' : Hp} {kvs : List NE} (h : NKeys H kvs) (t : ∀ b xs, H b = some (.tup xs) → H' b = some (.tup xs)) : NKeys H' kvs := fun e he => ⟨(h e he).1.keep t _ _, (h e he).2⟩
theorem NKeys.same {H H' : Hp} {kvs : List NE} (h : NKeys H kvs) (s : Same H H') : NKeys H' kvs := h.keep fun b xs e => s b _ e
theorem NKeys.put {H : Hp} {kvs : List NE} (h : NKeys H kvs) {k : NestedKey} {b : Addr} {v : V} (hb : KI H (.ref b) k) (hd : k.depth ≤ 8) : NKeys H (nput kvs k b v) := fun e he => by
  unfold nput at he
  split at he
  · obtain ⟨e0, m, q⟩ := List.mem_map.mp he
    by_cases c : e0.1 = k
    · rw [if_pos c] at q; rw [← q]; exact h e0 m
    · rw [if_neg c] at q; rw [← q]; exact h e0 m
  · rcases List.mem_append.mp he with m | m
    · exact h e m
    · rw [List.mem_singleton.mp m]; exact ⟨hb, hd⟩
/-- a dict with nested keys stands at d -/
structure IsND (P : Program) (w : World) (H : Hp) (d : Addr) (kvs : List NE) : Prop where
  rd : Rd H d (ndO P w d kvs)
  len : kvs.length ≤ sizeLine
  ns : (d == sysModules) = false
  key : NKeys H kvs
theorem IsND.same {P : Program} {w : World} {H H' : Hp} {d : Addr} {kvs : List NE} (h : IsND P w H d kvs) (s : Same H H') : IsND P w H' d kvs := ⟨rd_same h.rd s, h.len, h.ns, h.key.same s⟩
section
variable {X : Cx} {pins : List (Addr × Obj)} {σ : L2.St} {H : Hp} {s : Shared} {d : Addr} {kvs : List NE} {k : NestedKey} {b : Addr} {A : Around} {E : Value → Shared → Prop}
theorem ent_is {P : Program} {w : World} {h : Heap} (ok : HOk P w H h) : ∀ {l : List NE} {m : List (NestedKey × Addr × Value)}, Ent l m → NKeys H l → ∀ x ∈ m, (nestedKind P w).is h x.1 x.2.1 := by
  intro l m r
  induction r with
  | nil => intro _ x hx; exact nomatch hx
  | @cons p q ps qs hq t ih =>
    intro key x hx
    rcases List.mem_cons.mp hx with e | hx
    · subst e
      obtain ⟨q1, q2⟩ := key p List.mem_cons_self
      rw [← hq.1, ← hq.2.1]
      exact ⟨KI.nested ok _ _ _ q1 rfl, q2⟩
    · exact ih (fun e he => key e (List.mem_cons_of_mem _ he)) x hx
theorem nd_of (I : Inv X pins σ H s) (n : IsND X.prog X.w H d kvs) : ∃ xs, Ent kvs xs ∧ s.heap.DictOfH (nestedKind X.prog X.w) d xs := by
  obtain ⟨xs, r, o, es, ep, h1, h2, h3, h4, h5⟩ := (show ObjOk X.prog X.w H s.heap d (ndO X.prog X.w d kvs) from n.rd.ok I.hok).1
  exact ⟨xs, r, o, es, ep, h1, h2, h3, h4, ent_is I.hok r n.key, h5⟩
theorem nd_room (hu : A.units + 64 < cLine) : (nestedKind X.prog X.w).room A.in1 := by
  show A.units + 1 + 8 < cLine
  omega
theorem nd_key (I : Inv X pins σ H s) (hk : KI H (.ref b) k) (hd : k.depth ≤ 8) : (nestedKind X.prog X.w).is s.heap k b := ⟨KI.nested I.hok _ _ _ hk rfl, hd⟩
/-- k in d -/
theorem nd_in {Q : Value → Shared → Prop} (hu : A.units + 64 < cLine) (I : Inv X pins σ H s) (n : IsND X.prog X.w H d kvs) (hk : KI H (.ref b) k) (hd : k.depth ≤ 8) (h : ∀ s', Inv X pins σ H s' → Q (.bool (nval kvs k).isSome) s') :
    wpAny (model X.prog X.w) A (compareOp .In (.ref b) (.ref d)) Q E s := by
  obtain ⟨xs, r, dd⟩ := nd_of I n
  refine wpAny_in_heap (nd_room hu) (nd_key I hk hd) n.ns dd ?_
  have q := (r.val k).isSome_eq
  rw [Option.isSome_map] at q
  rw [← q]
  exact h _ (I.tok _)
/-- d.get(k, x) -/
theorem nd_get {z : V} {r : Value} {Q : Value → Shared → Prop} (hu : A.units + 64 < cLine) (I : Inv X pins σ H s) (n : IsND X.prog X.w H d kvs) (hk : KI H (.ref b) k) (hd : k.depth ≤ 8) (rz : RelV z r)
    (h : ∀ u s', Inv X pins σ H s' → RelV ((nval kvs k).getD z) u → Q u s') : wpAny (model X.prog X.w) A (call (.builtin "dict.get") [.ref d, .ref b, r]) Q E s := by
  obtain ⟨xs, rel, dd⟩ := nd_of I n
  refine call_meetsIn PySem.F.slot_dict_get dd.typeIs PySem.F.entry_dict_get (PySem.F.args_dict_get_3 _ _ _) (meetsH_dict_get_default (nestedKind X.prog X.w) d b n.ns r) ⟨nd_room hu, k, xs, nd_key I hk hd, dd, h _ _ (I.tok _) ?_⟩
  exact (rel.val k).getD rz
/-- what stands behind a store -/
theorem nd_stored {h' : Heap} {t' : Nat} {xs : List (NestedKey × Addr × Value)} (I : Inv X pins σ H s) (e : H d = some (ndO X.prog X.w d kvs)) (dd' : h'.DictOfH (nestedKind X.prog X.w) d xs) {kvs' : List NE} (r' : Ent kvs' xs) (hs : Heap.SameBut d s.heap h') :
    Inv X pins σ (upd H d (ndO X.prog X.w d kvs')) { s with heap := h', toks := t' } := by
  obtain ⟨q, es, ep, hq, h2, h3, h4, _, h5⟩ := dd'
  refine d_write I (by rw [e]; exact True.intro) hs ⟨q, hq⟩ ⟨⟨xs, r', q, es, ep, hq, h2, h3, h4, h5⟩, ⟨q, hq⟩, fun h1 h2' p k2 => ?_⟩
  obtain ⟨xs2, r2, o2, es2, ep2, g1, g2⟩ := p
  exact ⟨xs2, r2, o2, es2, ep2, k2 _ g1, g2⟩
/-- d[k] = v -/
theorem nd_set {v : V} {r : Value} {Q : Unit → Shared → Prop} (hu : A.units + 64 < cLine) (I : Inv X pins σ H s) (n : IsND X.prog X.w H d kvs) (e : H d = some (ndO X.prog X.w d kvs)) (hk : KI H (.ref b) k) (hd : k.depth ≤ 8) (rv : RelV v r)
    (h : ∀ s', Inv X pins σ (upd H d (ndO X.prog X.w d (nput kvs k b v))) s' → Q () s') : wpAny (model X.prog X.w) A (setItem (.ref d) (.ref b) r) Q E s := by
  obtain ⟨xs, rel, dd⟩ := nd_of I n
  have hz : xs.length ≤ sizeLine := by rw [← Paired.length rel]; exact n.len
  exact wpAny_setItem_heap (hsz := hz) (nd_room hu) (nd_key I hk hd) dd fun h' dd' hs => h _ (nd_stored I e dd' (rel.put k b rv) hs)
theorem nd_dset {v : V} {r : Value} {Q : Unit → Shared → Prop} (hu : A.units + 64 < cLine) (I : Inv X pins σ H s) (n : IsND X.prog X.w H d kvs) (e : H d = some (ndO X.prog X.w d kvs)) (hk : KI H (.ref b) k) (hd : k.depth ≤ 8) (rv : RelV v r)
    (h : ∀ s', Inv X pins σ (upd H d (ndO X.prog X.w d (nput kvs k b v))) s' → Q () s') : wpAny (model X.prog X.w) A (dictSet d (.ref b) r) Q E s := by
  obtain ⟨xs, rel, dd⟩ := nd_of I n
  have hz : xs.length ≤ sizeLine := by rw [← Paired.length rel]; exact n.len
  exact wpAny_dictSet_heap (hsz := hz) (by show A.units + 8 < cLine; omega) (nd_key I hk hd) dd fun h' dd' hs => h _ (nd_stored I e dd' (rel.put k b rv) hs)
end
/-- the writable dict behind a store -/
theorem IsND.put {P : Program} {w : World} {H : Hp} {d : Addr} {kvs : List NE} {k : NestedKey} {b : Addr} {v : V} (n : IsND P w H d kvs) (e : H d = some (ndO P w d kvs)) (hk : KI H (.ref b) k) (hd : k.depth ≤ 8) (hl : kvs.length < sizeLine) :
    IsND P w (upd H d (ndO P w d (nput kvs k b v))) d (nput kvs k b v) := by
  refine ⟨.inl upd_same, by have := nput_len kvs k b v; omega, n.ns, (n.key.put hk hd).keep fun c xs q => ?_⟩
  rw [upd_ne (ne_of q e fun z => nomatch z)]
  exact q
theorem nd_empty {P : Program} {w : World} {H : Hp} (h : Heap) : ObjOk P w H (h.push { cls := .type "dict", data := .dict #[] }) h.objs.size (ndO P w h.objs.size []) := by
  refine ⟨⟨[], .nil, _, #[], 0, Heap.get?_push_size _ rfl, ⟨rfl, rfl, rfl⟩, rfl, rfl, List.nodup_nil⟩, ⟨_, Heap.get?_push_size _ rfl⟩, fun h1 h2 p k2 => ?_⟩
  obtain ⟨xs2, r2, o2, es2, ep2, g1, g2⟩ := p
  exact ⟨xs2, r2, o2, es2, ep2, k2 _ g1, g2⟩
/-! readings and rules -/
def tNNew (P : Program) (w : World) : TE := fun _ H Q => ∀ p, H p = none → (p == sysModules) = false → Q (.ref p) (upd H p (ndO P w p []))
theorem IsND.new {P : Program} {w : World} {H : Hp} {p : Addr} (h : (p == sysModules) = false) : IsND P w (upd H p (ndO P w p [])) p [] := ⟨.inl upd_same, Nat.zero_le _, h, fun _ he => nomatch he⟩
def rNIn (P : Program) (w : World) : R2 := fun x y H Q => ∃ b d kvs k, x = V.ref b ∧ y = V.ref d ∧ IsND P w H d kvs ∧ KI H (.ref b) k ∧ k.depth ≤ 8 ∧ Q (.bl (nval kvs k).isSome) H
def tNGet (P : Program) (w : World) (td ty tx : TE) : TE := fun σ H Q => td σ H fun x H1 => ∃ d kvs0, x = V.ref d ∧ IsND P w H1 d kvs0 ∧ ty σ H1 fun y H2 => tx σ H2 fun z H3 => ∃ b kvs k, y = V.ref b ∧ IsND P w H3 d kvs ∧ KI H3 (.ref b) k ∧ k.depth ≤ 8 ∧ Q ((nval kvs k).getD z) H3
def sNPut (P : Program) (w : World) (td ty tv : TE) : TS := fun D σ H => tv σ H fun v H1 => td σ H1 fun x H2 => ty σ H2 fun y H3 => ∃ d b kvs k, x = V.ref d ∧ y = V.ref b ∧ IsND P w H3 d kvs ∧ H3 d = some (ndO P w d kvs) ∧ KI H3 (.ref b) k ∧ k.depth ≤ 8 ∧
  D.nx σ (upd H3 d (ndO P w d (nput kvs k b v)))
def rNList (P : Program) (w : World) : List V → Hp → VK → Prop := fun vs H Q => ∃ d kvs, vs = [V.ref d] ∧ IsND P w H d kvs ∧ ∀ p, H p = none → Q (.ref p) (upd H p (.lst (kvs.map fun e => V.ref e.2.1)))
section
variable {X : Cx} {o e f value i : Expr} {td ty tv tx : TE} {pos pos' apos cpos : Pos}
theorem pe_nnew : PE X (.Dict [] [] pos) (tNNew X.prog X.w) := ⟨fun pins s σ H Q I h =>
  wpAny_Dict_empty ⟨.ref s.heap.objs.size, _, I.laid (a := s.heap.objs.size) (o := ndO X.prog X.w s.heap.objs.size []) (t' := s.toks) (fun _ _ q => Heap.get?_push_of_some _ q) (Nat.le_refl _) (nd_empty s.heap), rfl,
    h _ (I.hok.fresh (Nat.le_refl _)) (beq_eq_false_iff_ne.mpr (Ne.symm (Nat.ne_of_lt I.big)))⟩⟩
theorem op_nin (hu : X.A.units + 64 < cLine) : OpR X (compareOp .In) (rNIn X.prog X.w) := by
  intro pins s σ H x y v u Q I rx ry h
  obtain ⟨b, d, kvs, k, rfl, rfl, n, hk, hd, q⟩ := h
  obtain rfl : v = Value.ref b := rx
  obtain rfl : u = Value.ref d := ry
  exact nd_in hu I n hk hd fun s' I' => ⟨.bl _, H, I', rfl, q⟩
theorem pe_nget (hu : X.A.units + 64 < cLine) (ho : PE X o td) (he : PE X e ty) (hf : PE X f tx) (m : M2 X o "get" apos e f cpos) : PE X (.Call (.Attribute o "get" apos) [e, f] [] cpos) (tNGet X.prog X.w td ty tx) := by
  refine ⟨fun pins s σ H Q I h => ?_⟩
  refine wpAny_Call_method m.base m.few m.line PySem.F.plainAttrs_dict PySem.F.slot_dict_get PySem.F.type_dict_get (thn (ho.run pins s σ H _ I h) fun u s1 ⟨x, H1, I1, rx, d, kvs0, ex, n0, q1⟩ => ?_)
  subst ex
  obtain rfl : u = Value.ref d := rx
  obtain ⟨xs, rel, dd⟩ := nd_of I1 n0
  have dd' := dd
  obtain ⟨ob, _, _, h1, h2, _⟩ := dd'
  refine ⟨dd.typeIs, fun c q => by cases q; exact ⟨ob, h1, h2.2.1⟩, ?_⟩
  rw [m.trees]
  refine Calls.callWith_builtin rfl (Calls.evalArgs_plain (Calls.spliced_cons (thn (he.run pins s1 σ H1 _ I1 q1) fun iv s2 ⟨y, H2, I2, ry, q2⟩ =>
    Calls.spliced_cons (thn (hf.run pins s2 σ H2 _ I2 q2) fun fv s3 ⟨z, H3, I3, rz, b, kvs, k, ey, n, hk, hd, q3⟩ => Calls.spliced_nil ?_))))
  subst ey
  obtain rfl : iv = Value.ref b := ry
  exact nd_get hu I3 n hk hd rz fun w' s4 I4 rw' => ⟨_, H3, I4, rw', q3⟩
theorem ps_nput (hu : X.A.units + 64 < cLine) (ho : PE X o td) (hi : PE X i ty) (hv : PE X value tv) (hs : swapsWith value (some (.Subscript o i pos')) pos.line X.env = pure false) :
    PS X (.Assign [.Subscript o i pos'] value pos) (sNPut X.prog X.w td ty tv) := by
  refine ⟨fun pins s σ H D I h => ?_⟩
  refine wpAny_Assign_Subscript (thn (hv.run pins s σ H _ I h) fun r s1 ⟨v, H1, I1, rv, q1⟩ => thn (ho.run pins s1 σ H1 _ I1 q1) fun u s2 ⟨x, H2, I2, rx, q2⟩ => thn (hi.run pins s2 σ H2 _ I2 q2) fun iv s3 ⟨y, H3, I3, ry, d, b, kvs, k, ex, ey, n, e, hk, hd, q3⟩ => ?_) hs
  subst ex ey
  obtain rfl : u = Value.ref d := rx
  obtain rfl : iv = Value.ref b := ry
  exact nd_set hu I3 n e hk hd rv fun s4 I4 => ⟨σ, _, I4, q3⟩
theorem call_nlist (hc : X.calm = true) : CallR X (.type "list") (rNList X.prog X.w) := by
  intro pins s σ H xs us Q I r h
  obtain ⟨d, kvs, rfl, n, q⟩ := h
  obtain ⟨u, rfl, rx⟩ := r.one
  cases rx
  obtain ⟨ks, pr, dd⟩ := nd_of I n
  obtain ⟨ob, es, ep, ho, hx, hdt, he, _, hn⟩ := id dd
  have l1 : es.size = ks.length := size_of_entries he
  have l2 : kvs.length = ks.length := Paired.length pr
  have hz := n.len
  refine PySem.W.kdl_call (kdl_raw n.ns hx hdt) (I.ok.hd hc) ho (by omega) fun h' tk acc' c' kp e it => ?_
  have lacc : acc'.toList.length = kvs.length := by rw [Array.length_toList, it.1]; omega
  refine ⟨.ref s.heap.objs.size, _, I.laid (t' := tk) (o := .lst (kvs.map fun e => V.ref e.2.1)) kp (Nat.le_refl _) ⟨by rw [List.length_map]; exact hz, acc'.toList, c', ?_, by rw [Array.toArray_toList]; exact e⟩, rfl, q _ (I.hok.fresh (Nat.le_refl _))⟩
  refine vals_of_at (by rw [List.length_map, lacc]) fun j x w h1 h2 => ?_
  rw [List.getElem?_map] at h1
  obtain ⟨en, hen, hv⟩ := it.2 j w (by rw [← Array.getElem?_toList]; exact h2)
  cases hj : kvs[j]? with
  | none => rw [hj] at h1; cases h1
  | some p =>
    rw [hj] at h1
    obtain ⟨y, hy, e1, e2, _⟩ := paired_get pr hj
    have qe := entry_at he j
    rw [hen, hy] at qe
    have e3 : en = entryOfKey (nestedKind X.prog X.w) y := Option.some.inj qe
    have e4 : x = V.ref p.2.1 := (Option.some.inj h1).symm
    rw [e4, hv, e3, e2]
    rfl
end
end FD
set_option maxRecDepth 100000
set_option maxHeartbeats 4000000
/-! {key: value for target in things}: the keys nested tuples, no tests. -/
namespace FD
open PySem PySem.Spec PyProof.Rows L2 FS
section
variable {X : Cx}
/-- D: the new dict; Pv: what holds ahead of turn i -/
def tDcN (P : Program) (w : World) (wi : TI) (g : TG) (tk tv : TE) (vs : List Nat) : TE := fun σ H Q => wi σ H fun J H1 => ∀ D, H1 D = none → (D == sysModules) = false →
  ∃ (n : Nat) (G : Hp → Prop) (Y : Nat → Hp → V → Hp → Prop) (Pv : Nat → Hp → Prop), Walk J n G Y ∧ Pv 0 (upd H1 D (ndO P w D [])) ∧ (∀ i H, i ≤ n → Pv i H → G H) ∧ (∀ H, Pv n H → Q (.ref D) H) ∧
    ∀ i x H0 H', i < n → Pv i H0 → Y i H0 x H' → g x (wipe σ vs) H' fun σ2 H2 => wipe σ2 vs = wipe σ vs ∧ tk σ2 H2 fun y H3 => tv σ2 H3 fun z H4 =>
      ∃ b kvs k, y = V.ref b ∧ IsND P w H4 D kvs ∧ H4 D = some (ndO P w D kvs) ∧ KI H4 (.ref b) k ∧ k.depth ≤ 8 ∧ Pv (i + 1) (upd H4 D (ndO P w D (nput kvs k b z)))
theorem pe_dcn {kx vx tg iter : Expr} {scope : Scope} {own : List (Str × Nat)} {pos : Pos} {wi : TI} {g : TG} {tk tv : TE} (hu : X.A.units + 64 < cLine) (hc : X.calm = true) (hN : X.N.Nodup) (hi : PI X tg iter wi) (ok : BlkOk X.N X.env.scope scope own)
    (hg : ∀ (s : Shared) (H : Hp) (C : Addr) (cl : List (Str × Addr)) (fp : List Addr), PG (X.blk s H scope (compEnvC scope cl C X.env) fp) tg g)
    (hk : ∀ (s : Shared) (H : Hp) (C : Addr) (cl : List (Str × Addr)) (fp : List Addr), PE (X.blk s H scope (compEnvC scope cl C X.env) fp) kx tk)
    (hv : ∀ (s : Shared) (H : Hp) (C : Addr) (cl : List (Str × Addr)) (fp : List Addr), PE (X.blk s H scope (compEnvC scope cl C X.env) fp) vx tv) (hf : ∀ x, foldedSetIterable iter X.env x = pure x := by intro _; rfl) :
    PE X (.DictComp kx vx [⟨tg, iter, [], 0⟩] scope pos) (tDcN X.prog X.w wi g tk tv (own.map (·.2))) := by
  constructor
  intro pins s σ H Q I0 want
  rw [arm_eval_DictComp]
  have fr : ∀ y ∈ scope.names, y.2 = .free → ∃ c, X.env.cells.lookup y.1 = some c := fun y hy e => (ok.free y hy e).elim (fun z => I0.ok.has _ (.inl z)) fun z => I0.ok.has _ (.inr z)
  refine wpAny_comprehension_free (use := none) rfl hf (closure_ok fr) ok.kind (fun y hy e => by rw [ok.uniq y hy, e]) (thn (hi.run pins s σ H _ I0 want) fun xv sA hA => thn hA fun itv sB hB => ?_)
  obtain ⟨it, fp, tn, J, HB, rfl, IB, T, tB, fB, want⟩ := hB
  refine wpAny_newObj_type (newEnv_comp ?_)
  -- the new dict, D
  obtain ⟨D, hD⟩ : ∃ D, D = sB.heap.objs.size := ⟨_, rfl⟩
  have hDn : HB D = none := IB.hok.fresh (by rw [hD]; exact Nat.le_refl _)
  have hDs : (D == sysModules) = false := beq_eq_false_iff_ne.mpr (Ne.symm (Nat.ne_of_lt (by rw [hD]; exact IB.big)))
  obtain ⟨n, G, Y, Pv, wk, p0, pG, pQ, step⟩ := want D hDn hDs
  obtain ⟨sC, eC⟩ : ∃ sC : Shared, sC = { sB with heap := sB.heap.push { cls := .type "dict", data := .dict #[] } } := ⟨_, rfl⟩
  have zC : sC.heap.objs.size = sB.heap.objs.size + 1 := by rw [eC]; exact Heap.size_push ..
  have IC : Inv X pins σ (upd HB D (ndO X.prog X.w D [])) sC := by
    have new := nd_empty (P := X.prog) (w := X.w) (H := upd HB D (ndO X.prog X.w D [])) sB.heap
    rw [eC]
    refine IB.laid (t' := sB.toks) (fun b o e => Heap.get?_push_of_some _ e) (by rw [hD]; exact Nat.le_refl _) ?_
    rw [hD] at new ⊢
    exact new
  have low : ∀ b ∈ fp, b < sB.heap.objs.size := fun b hb => let ⟨o, e, _⟩ := T.obj _ _ tB b hb; Heap.lt_size e
  have fC : ∀ b ∈ fp, FpOk X pins (upd HB D (ndO X.prog X.w D [])) b ∧ b < sC.heap.objs.size := fun b hb => by
    refine ⟨⟨?_, (fB b hb).2⟩, by rw [zC]; exact Nat.lt_succ_of_lt (low b hb)⟩
    rw [upd_ne (by rw [hD]; exact Nat.ne_of_lt (low b hb))]
    exact (fB b hb).1
  have tC : tn 0 sC.heap := T.keep _ _ _ tB fun b _ o e => by rw [eC]; exact Heap.get?_push_of_some _ e
  -- the block
  have ID := block_start IC ok hN fC
  have gB := hg sC (upd HB D (ndO X.prog X.w D [])) sC.heap.objs.size (cellsFrom (sC.heap.objs.size + 1) scope.names (cloFrom X.env.cells scope.names [])) fp
  have kB := hk sC (upd HB D (ndO X.prog X.w D [])) sC.heap.objs.size (cellsFrom (sC.heap.objs.size + 1) scope.names (cloFrom X.env.cells scope.names [])) fp
  have vB := hv sC (upd HB D (ndO X.prog X.w D [])) sC.heap.objs.size (cellsFrom (sC.heap.objs.size + 1) scope.names (cloFrom X.env.cells scope.names [])) fp
  have goal : ∀ ce : Env, ce = compEnvC scope (cellsFrom (sC.heap.objs.size + 1) scope.names (cloFrom X.env.cells scope.names [])) sC.heap.objs.size X.env →
      codeAny (model X.prog X.w) X.A (.compStart (.DictComp kx vx [⟨tg, iter, [], 0⟩] scope pos) 0 (.ref it) (.ref D) ce) (compPost (model X.prog X.w) X.A X.xe none (EP X pins σ Q) (.ref D) sC.heap.objs.size) { sC with heap := pushCells (sC.heap.push { cls := .type "dict", data := .dict #[] }) scope.names } := by
    intro ce hce
    rw [← hce] at ID gB kB vB
    have eL : ce.locals = sC.heap.objs.size := by rw [hce]; rfl
    obtain ⟨sD, eD⟩ : ∃ sD : Shared, sD = { sC with heap := pushCells (sC.heap.push { cls := .type "dict", data := .dict #[] }) scope.names } := ⟨_, rfl⟩
    rw [← eD] at ID ⊢
    have tD : tn 0 sD.heap := T.keep _ _ _ tC fun b _ o e => by rw [eD]; exact pushCells_keeps _ _ _ _ (Heap.get?_push_of_some _ e)
    have nfp : ∀ b ∈ fp, (upd HB D (ndO X.prog X.w D [])) b = none := fun b hb => (fC b hb).1.1
    have bok : ∀ {σ' : L2.St} {H' : Hp} {s' : Shared}, Inv (X.blk sC (upd HB D (ndO X.prog X.w D [])) scope ce fp) [] σ' H' s' → (∀ b ∈ fp, H' b = none) → ∀ b ∈ fp, FpOk (X.blk sC (upd HB D (ndO X.prog X.w D [])) scope ce fp) [] H' b := fun {σ' H' s'} Ix hn b hb =>
      ⟨hn b hb, (Ix.ok.exf b hb).1, Ix.ok.exfs b hb, .inl hb, (Ix.ok.exf b hb).2, fun p hp => absurd (show p ∈ ([] : List (Addr × Obj)) ++ [] from hp) (by simp)⟩
    have run : codeAny (model X.prog X.w) X.A (.compLoop (.DictComp kx vx [⟨tg, iter, [], 0⟩] scope pos) 0 (.ref it) (.ref D) ce) (compPost (model X.prog X.w) X.A X.xe none (EP X pins σ Q) (.ref D) sC.heap.objs.size) sD := by
      refine compLoop_anyD (fun m s' => ∃ i H', m + i = n ∧ Inv (X.blk sC (upd HB D (ndO X.prog X.w D [])) scope ce fp) [] (wipe σ (own.map (·.2))) H' s' ∧ tn i s'.heap ∧ (∀ b ∈ fp, H' b = none) ∧ Pv i H') ?_ n ⟨0, _, Nat.add_zero n, ID, tD, nfp, p0⟩
      rintro m sE ⟨i, HE, hmi, IE, tE, nE, pE⟩
      have gE := pG i HE (by omega) pE
      by_cases hin : i < n
      · refine thnF (T.item (X.blk sC (upd HB D (ndO X.prog X.w D [])) scope ce fp) rfl rfl rfl hc i [] sE _ HE (fun _ _ => False) IE (bok IE nE) tE (wk.goes i HE hin gE)) fun r sF hr => ?_
        obtain ⟨u, rfl, hF⟩ := hr
        refine thnF hF fun _ sG ⟨x, HG, IG, rx, yG, tG, nG⟩ => ?_
        have y2 := wk.yields i HE x HG hin gE yG
        have IG' := IG.pinned (bok IG nG) (T.obj _ _ tG)
        refine thnF (gB.run _ sG _ HG x u _ IG' rx (step i x HE HG hin pE y2)) fun _ sH ⟨σH, HH, IH, wH, qH⟩ => ?_
        refine wpAny_pure ?_
        show wpAny _ _ _ _ _ _
        refine thnF (kB.run _ sH σH HH _ IH qH) fun kv sI ⟨yk, HI, II, rk, qI⟩ => ?_
        refine thnF (vB.run _ sI σH HI _ II qI) fun zv sJ ⟨z, HJ, IJ, rz, b, kvs, k, eb, nd, eDj, hkj, hdj, pN⟩ => ?_
        subst eb
        obtain rfl : kv = Value.ref b := rk
        refine nd_dset (X := X.blk sC (upd HB D (ndO X.prog X.w D [])) scope ce fp) hu IJ nd eDj hkj hdj rz fun sK IK => ?_
        have pin' : ∀ c ∈ fp, ∀ o, sG.heap.get? c = some o → sK.heap.get? c = some o ∧ (upd HJ D (ndO X.prog X.w D (nput kvs k b z))) c = none := fun c hc2 o e =>
          let q := IK.pin (c, o) (List.mem_append_right _ (List.mem_append_right _ (mem_pinsAt hc2 e)))
          ⟨q.1, q.2.1⟩
        refine ⟨m - 1, by omega, i + 1, _, by omega, (IK.unpinned (pins := [])).weak (by rw [← wH, wipe_length]) (fun j v e => ?_), T.keep _ _ _ tG fun c hc2 o e => (pin' c hc2 o e).1, fun c hc2 => ?_, pN⟩
        · rw [← wH] at e
          exact (wipe_some e).1
        · obtain ⟨o, e, _⟩ := T.obj _ _ tG c hc2
          exact (pin' c hc2 o e).2
      · obtain rfl : i = n := by omega
        refine thnF (T.done (X.blk sC (upd HB D (ndO X.prog X.w D [])) scope ce fp) rfl rfl rfl hc i [] sE _ HE (fun _ _ => False) IE (bok IE nE) tE (wk.stops HE gE)) fun r sF hr => ?_
        obtain ⟨rfl, IF⟩ := hr
        have IZ : Inv X pins σ HE sF := IC.call' (ch := fp) IF.os IF.base IF.hok IF.bare fun b hb => ⟨(fC b hb).1.2.2.2.1, (fC b hb).1.2.1, (fC b hb).1.2.2.2.2.1, (fC b hb).1.2.2.2.2.2⟩
        obtain ⟨mm, hns, _⟩ := IF.loc
        have hns : sF.heap.Ns ce.locals mm := hns
        have nz : HE ce.locals = none := IF.free
        rw [eL] at hns nz
        refine ⟨mm, hns, fun h3 sb => ?_⟩
        obtain ⟨f0, f1, f2, f3, f4, f5⟩ := IC.fpOk (H' := HE) (b := sC.heap.objs.size) (Nat.le_refl _) nz
        exact ⟨.ref D, HE, IZ.turned (t' := sF.toks) (fun b o hb e => (sb.2 b hb).trans e) f0 f1 f3 f4 f5, rfl, pQ HE pE⟩
    exact codeAny_compStart_dict run (T.self X.A 0 _ _ _ tD run)
  have := goal _ rfl
  rw [hD, eC] at this
  rw [hD] at *
  exact this
end
end FD
set_option maxRecDepth 100000
set_option maxHeartbeats 4000000
/-! for k, v in d.items(), d's keys nested tuples. -/
namespace FD
open PySem PySem.Spec PyProof.Rows L2 FS
/-- the pairs of the locked dict at d, each a new tuple -/
def Itn (P : Program) (w : World) (d : Addr) (o : Obj) (kvs : List NE) : It :=
  ⟨fun i H => H d = some (.frz o (ndO P w d kvs)) ∧ i < kvs.length, fun i H x H' => ∃ T k b v, kvs[i]? = some (k, b, v) ∧ x = V.ref T ∧ H T = none ∧ H' = upd H T (.tup [.ref b, v]),
    fun i H => H d = some (.frz o (ndO P w d kvs)) ∧ kvs.length ≤ i⟩
def YN (kvs : List NE) (i : Nat) (H : Hp) (x : V) (H' : Hp) : Prop := ∃ T k b v, kvs[i]? = some (k, b, v) ∧ x = V.ref T ∧ H T = none ∧ H' = upd H T (.tup [.ref b, v])
theorem walk_itn {P : Program} {w : World} {d : Addr} {o : Obj} {kvs : List NE} : Walk (Itn P w d o kvs) kvs.length (fun H => H d = some (.frz o (ndO P w d kvs))) (YN kvs) :=
  ⟨fun _ _ hi q => ⟨q, hi⟩, fun _ q => ⟨q, Nat.le_refl _⟩, fun _ _ _ _ _ _ y => y⟩
section
variable {X : Cx} {pins : List (Addr × Obj)} {σ : L2.St} {H : Hp} {s : Shared} {d : Addr} {o : Obj} {kvs : List NE}
theorem frzN (I : Inv X pins σ H s) (h : H d = some (.frz o (ndO X.prog X.w d kvs))) : s.heap.get? d = some o ∧ o.ExactDict ∧ ∃ (es : Array DictEntry) (ep : Nat), o.data = .dict es ep ∧ es.size = kvs.length ∧
    ∀ (i : Nat) (k : NestedKey) (b : Addr) (v : V), kvs[i]? = some (k, b, v) → ∃ en : DictEntry, es[i]? = some en ∧ en.key = .ref b ∧ RelV v en.val := by
  obtain ⟨hd, ⟨xs, r, o', es, ep, ho, hx, hdt, he, _⟩, _⟩ := I.hok d _ h
  rw [hd] at ho
  cases ho
  refine ⟨hd, hx, es, ep, hdt, ?_, fun i k b v e => ?_⟩
  · have a1 : es.size = xs.length := size_of_entries he
    have a2 : kvs.length = xs.length := Paired.length r
    omega
  · obtain ⟨q, hq, _, e2, e3⟩ := paired_get r e
    have en := entry_at he i
    rw [hq] at en
    exact ⟨_, en, congrArg Value.ref e2.symm, e3⟩
theorem turn_itn {P : Program} {w : World} {K : PySem.W.Frag} {elts : List Expr} {kk : Nat} {tpos : Pos} {es : Array DictEntry} {ep : Nat} (it : Addr) (hod : o.data = .dict es ep) :
    Turn P w K (.Tuple elts kk tpos) (Itn P w d o kvs) [it] it (fun i h => ∃ ok ov, IsItemIter h it d i kvs.length ep ok ov) where
  mem := List.mem_singleton.mpr rfl
  obj := fun i h st b hb => by
    rw [List.mem_singleton.mp hb]
    obtain ⟨_, _, e⟩ := st
    exact ⟨_, e, fun v z => nomatch z⟩
  keep := fun i h h' st k => let ⟨ok, ov, e⟩ := st; ⟨ok, ov, k it (List.mem_singleton.mpr rfl) _ e⟩
  item := by
    intro Y hP hw hK hc i pn u σ1 H1 E J hf st hg
    subst hP hw hK
    obtain ⟨hd, hi⟩ := hg
    obtain ⟨g1, g2, es', ep', g3, g4, g5⟩ := frzN J hd
    obtain ⟨rfl, rfl⟩ := dict_ep hod g3
    obtain ⟨⟨k, b, v⟩, hk⟩ : ∃ p, kvs[i]? = some p := ⟨kvs[i], List.getElem?_eq_getElem hi⟩
    obtain ⟨en, q1, q2, q3⟩ := g5 i k b v hk
    obtain ⟨ok, ov, st⟩ := st
    rw [← g4] at st
    have hie : i < es'.size := by omega
    have een : es'[i] = en := by rw [Array.getElem?_eq_getElem hie] at q1; exact Option.some.inj q1
    have itl : it < u.heap.objs.size := Heap.lt_size st
    refine DT.nextI (ep := ep') st ⟨o, g1, g2, hod⟩ hie fun h' out hT hz kp => ?_
    refine ⟨_, rfl, wpAny_letOwnedTupleGo_items (s := { u with heap := h' }) out fun h2 st2 sb => ?_⟩
    rw [een] at st2 hT
    have hT2 : h2.get? u.heap.objs.size = some { cls := .type "tuple", data := .seq #[en.key, en.val] } := (sb.2 _ (Nat.ne_of_gt itl)).trans hT
    have rk : RelV (.ref b) en.key := q2
    have new : ObjOk Y.prog Y.w (upd H1 u.heap.objs.size (.tup [.ref b, v])) h2 u.heap.objs.size (.tup [.ref b, v]) :=
      ⟨by show 2 ≤ sizeLine; decide, [en.key, en.val], .cons rk (.cons q3 .nil), ⟨_, hT2, rfl, _, rfl⟩⟩
    have J2 : Inv Y pn σ1 (upd H1 u.heap.objs.size (.tup [.ref b, v])) { u with heap := h2 } :=
      J.turnedNew (t' := u.toks) (ch := [it]) (fun c ob hb e => (sb.2 c (fun z => hb (List.mem_singleton.mpr z))).trans (kp c ob (fun z => hb (List.mem_singleton.mpr z)) e)) hf (Nat.le_refl _) new
    refine ⟨.ref u.heap.objs.size, _, J2, rfl, ⟨_, k, b, v, hk, rfl, J.hok.fresh (Nat.le_refl _), rfl⟩, ⟨_, _, by rw [← g4]; exact st2⟩, fun c hc2 => ?_⟩
    rw [List.mem_singleton.mp hc2, upd_ne (Nat.ne_of_lt itl)]
    exact (hf it (List.mem_singleton.mpr rfl)).1
  done := by
    intro Y hP hw hK hc i pn u σ1 H1 E J hf st hg
    subst hP hw hK
    obtain ⟨hd, hi⟩ := hg
    obtain ⟨g1, g2, es', ep', g3, g4, g5⟩ := frzN J hd
    obtain ⟨rfl, rfl⟩ := dict_ep hod g3
    obtain ⟨f0, f1, f2, f3, f4, f5⟩ := hf it (List.mem_singleton.mpr rfl)
    obtain ⟨ok, ov, st⟩ := st
    rw [← g4] at st
    exact DT.endI (ep := ep') (J.ok.hd hc) st ⟨o, g1, g2, hod⟩ (by omega) fun h' eb => ⟨rfl, J.turned (t' := u.toks) (fun c ob hb e => eb c ob hb e) f0 f1 f3 f4 f5⟩
  self := fun A i u Q E st h => let ⟨_, _, e⟩ := st; PySem.W.kcp_self e h
def iItn (P : Program) (w : World) (td : TE) : TI := fun σ H R => td σ H fun x H1 => ∃ d o kvs, x = V.ref d ∧ H1 d = some (.frz o (ndO P w d kvs)) ∧ (d == sysModules) = false ∧ R (Itn P w d o kvs) H1
theorem pi_itn {e : Expr} {td : TE} {apos cpos : Pos} {elts : List Expr} {kk : Nat} {tpos : Pos} (he : PE X e td) (hbase : attributeBase e "items" X.env (eval e X.env) = eval e X.env := by rfl) (hline : (apos.endLine == cpos.line) = true := by rfl) :
    PI X (.Tuple elts kk tpos) (.Call (.Attribute e "items" apos) [] [] cpos) (iItn X.prog X.w td) := by
  constructor
  intro pins s σ H R I want
  refine wpAny_Call_method (T := "dict") (id := "dict.items") hbase rfl hline F.plainAttrs_dict F.slot_dict_items F.type_dict_items (thn (he.run pins s σ H _ I want) fun u s1 ⟨x, H1, J, rx, d, o, kvs, ex, hd, hs, q⟩ => ?_)
  subst ex
  obtain rfl : u = Value.ref d := rx
  obtain ⟨g1, g2, es, ep, g3, g4, _⟩ := frzN J hd
  have raw : DT.Raw s1.heap d es ep := ⟨o, g1, g2, g3⟩
  refine ⟨raw.typeIs, fun c z => by cases z; exact ⟨o, g1, g2.2.1⟩, ?_⟩
  have J2 : Inv X pins σ H1 { s1 with heap := s1.heap.push { cls := .type "dict_items", data := .fields #[.ref d] } } := J.kept (t' := s1.toks) fun b ob z => Heap.get?_push_of_some _ z
  have fin : wpAny (model X.prog X.w) X.A (pyIter (.ref s1.heap.objs.size)) (PIE X pins σ (.Tuple elts kk tpos) R) X.xe { s1 with heap := s1.heap.push { cls := .type "dict_items", data := .fields #[.ref d] } } := by
    refine DT.iterI (d := d) (es := es) (ep := ep) ⟨_, Heap.get?_push_size _ rfl, rfl, rfl⟩ (raw.push _) (pi_one (tk := s1.toks) J2 _ (turn_itn _ g3) ⟨.none, .none, ?_⟩ q)
    rw [← g4]
    exact Heap.get?_push_size _ rfl
  show wpAny _ _ (callWith cpos (.builtin "dict.items") [.ref d] [] []) _ X.xe s1
  exact method_meetsIn F.slot_dict_items F.entry_dict_items rfl (PySem.evalArgs_none ⟨rfl, raw.typeIs, F.args_dict_items_1 _, _, DT.meetsItems (es := es) (ep := ep) hs, raw, fin⟩)
end
end FD
set_option maxRecDepth 100000
/-! The text by places: the program's and the law's defs. -/
namespace KT
open PySem L2
def top (i : Nat) : Stmt := PySem.Challenge.pw_keptbase_k33_forms_reckoned.main.body.getD i (.Pass ⟨0, 0, 0, 0⟩)
abbrev sRank : Stmt := top 2
abbrev sRanks : Stmt := top 3
abbrev sSignRank : Stmt := top 5
abbrev sAscending : Stmt := top 6
abbrev sTermRank : Stmt := top 7
abbrev sFormInit : Stmt := inClass (top 8) 0
abbrev sFormOf : Stmt := inClass (top 8) 1
abbrev sFormEq : Stmt := inClass (top 8) 3
abbrev sFormBool : Stmt := inClass (top 8) 4
abbrev sFormAdd : Stmt := inClass (top 8) 5
abbrev sFormRadd : Stmt := inClass (top 8) 6
abbrev sFormNeg : Stmt := inClass (top 8) 7
abbrev sFormSub : Stmt := inClass (top 8) 8
abbrev sFormRsub : Stmt := inClass (top 8) 9
abbrev sFormMul : Stmt := inClass (top 8) 10
abbrev sFormRmul : Stmt := inClass (top 8) 11
abbrev sFormCoefficient : Stmt := inClass (top 8) 12
abbrev sFormSignList : Stmt := inClass (top 8) 13
abbrev sFormWhen : Stmt := inClass (top 8) 14
abbrev sFormUnder : Stmt := inClass (top 8) 15
abbrev sAsForm : Stmt := top 9
abbrev sSightInit : Stmt := inClass (top 11) 0
abbrev sSightHolds : Stmt := inClass (top 11) 1
abbrev sSightByDefault : Stmt := inClass (top 11) 5
abbrev sPot : Stmt := top 13
abbrev sDraw : Stmt := top 14
abbrev sNumber : Stmt := top 15
abbrev sLNames : Stmt := top 16
abbrev sLContent : Stmt := top 17
abbrev sLContentRank : Stmt := top 18
abbrev sLSignRank : Stmt := top 19
abbrev sLSigns : Stmt := top 20
abbrev sLTerms : Stmt := top 21
abbrev sLBits : Stmt := top 22
abbrev sLSum : Stmt := top 23
abbrev sLValue : Stmt := top 24
abbrev sLProductRank : Stmt := top 25
abbrev sLNormal : Stmt := top 26
abbrev sLIsInteger : Stmt := top 27
abbrev sLSameTerms : Stmt := top 28
abbrev sLTimes : Stmt := top 29
abbrev sLScaled : Stmt := top 30
abbrev sLFirst : Stmt := top 31
abbrev sLForm : Stmt := top 32
abbrev sLResultsRight : Stmt := top 33
abbrev sLaw : Stmt := top 34
theorem scRank : FnScope ["content"] ["content"] (defScope sRank) := ⟨rfl, rfl, rfl, by decide +kernel, rfl, by decide +kernel, by decide +kernel⟩
theorem scRanks : FnScope ["contents", "content"] ["contents"] (defScope sRanks) := ⟨rfl, rfl, rfl, by decide +kernel, rfl, by decide +kernel, by decide +kernel⟩
theorem scSignRank : FnScope ["sign", "table", "test", "contents"] ["sign"] (defScope sSignRank) := ⟨rfl, rfl, rfl, by decide +kernel, rfl, by decide +kernel, by decide +kernel⟩
theorem scAscending : FnScope ["signs", "sign"] ["signs"] (defScope sAscending) := ⟨rfl, rfl, rfl, by decide +kernel, rfl, by decide +kernel, by decide +kernel⟩
theorem scTermRank : FnScope ["term", "sign"] ["term"] (defScope sTermRank) := ⟨rfl, rfl, rfl, by decide +kernel, rfl, by decide +kernel, by decide +kernel⟩
theorem scFormInit : FnScope ["self", "terms", "sums", "signs", "coefficient", "product", "found", "total"] ["self", "terms"] (defScope sFormInit) := ⟨rfl, rfl, rfl, by decide +kernel, rfl, by decide +kernel, by decide +kernel⟩
theorem scFormOf : FnScope ["cls", "sign"] ["cls", "sign"] (defScope sFormOf) := ⟨rfl, rfl, rfl, by decide +kernel, rfl, by decide +kernel, by decide +kernel⟩
theorem scFormEq : FnScope ["self", "other"] ["self", "other"] (defScope sFormEq) := ⟨rfl, rfl, rfl, by decide +kernel, rfl, by decide +kernel, by decide +kernel⟩
theorem scFormBool : FnScope ["self"] ["self"] (defScope sFormBool) := ⟨rfl, rfl, rfl, by decide +kernel, rfl, by decide +kernel, by decide +kernel⟩
theorem scFormAdd : FnScope ["self", "other"] ["self", "other"] (defScope sFormAdd) := ⟨rfl, rfl, rfl, by decide +kernel, rfl, by decide +kernel, by decide +kernel⟩
theorem scFormRadd : FnScope ["self", "other"] ["self", "other"] (defScope sFormRadd) := ⟨rfl, rfl, rfl, by decide +kernel, rfl, by decide +kernel, by decide +kernel⟩
theorem scFormNeg : FnScope ["self", "product", "coefficient"] ["self"] (defScope sFormNeg) := ⟨rfl, rfl, rfl, by decide +kernel, rfl, by decide +kernel, by decide +kernel⟩
theorem scFormSub : FnScope ["self", "other"] ["self", "other"] (defScope sFormSub) := ⟨rfl, rfl, rfl, by decide +kernel, rfl, by decide +kernel, by decide +kernel⟩
theorem scFormRsub : FnScope ["self", "other"] ["self", "other"] (defScope sFormRsub) := ⟨rfl, rfl, rfl, by decide +kernel, rfl, by decide +kernel, by decide +kernel⟩
theorem scFormMul : FnScope ["self", "other", "terms", "product", "coefficient", "more", "factor"] ["self", "other"] (defScope sFormMul) := ⟨rfl, rfl, rfl, by decide +kernel, rfl, by decide +kernel, by decide +kernel⟩
theorem scFormRmul : FnScope ["self", "other"] ["self", "other"] (defScope sFormRmul) := ⟨rfl, rfl, rfl, by decide +kernel, rfl, by decide +kernel, by decide +kernel⟩
theorem scFormCoefficient : FnScope ["self", "signs", "wanted", "product", "coefficient"] ["self", "signs"] (defScope sFormCoefficient) := ⟨rfl, rfl, rfl, by decide +kernel, rfl, by decide +kernel, by decide +kernel⟩
theorem scFormSignList : FnScope ["self", "found", "product", "_"] ["self"] (defScope sFormSignList) := ⟨rfl, rfl, rfl, by decide +kernel, rfl, by decide +kernel, by decide +kernel⟩
theorem scFormWhen : FnScope ["self", "signs", "true", "sign", "product", "coefficient"] ["self", "signs"] (defScope sFormWhen) := ⟨rfl, rfl, rfl, by decide +kernel, rfl, by decide +kernel, by decide +kernel⟩
theorem scFormUnder : FnScope ["self", "sight", "sign"] ["self", "sight"] (defScope sFormUnder) := ⟨rfl, rfl, rfl, by decide +kernel, rfl, by decide +kernel, by decide +kernel⟩
theorem scAsForm : FnScope ["value"] ["value"] (defScope sAsForm) := ⟨rfl, rfl, rfl, by decide +kernel, rfl, by decide +kernel, by decide +kernel⟩
theorem scSightInit : FnScope ["self", "defaults", "exceptions", "table", "test", "sign"] ["self", "defaults", "exceptions"] (defScope sSightInit) := ⟨rfl, rfl, rfl, by decide +kernel, rfl, by decide +kernel, by decide +kernel⟩
theorem scSightHolds : FnScope ["self", "sign"] ["self", "sign"] (defScope sSightHolds) := ⟨rfl, rfl, rfl, by decide +kernel, rfl, by decide +kernel, by decide +kernel⟩
theorem scSightByDefault : FnScope ["self", "sign"] ["self", "sign"] (defScope sSightByDefault) := ⟨rfl, rfl, rfl, by decide +kernel, rfl, by decide +kernel, by decide +kernel⟩
theorem scPot : FnScope ["_law_script", "_law_k", "_law_number_here"] ["_law_script", "_law_k"] (defScope sPot) := ⟨rfl, rfl, rfl, by decide +kernel, rfl, by decide +kernel, by decide +kernel⟩
theorem scDraw : FnScope ["_law_pot_here", "_law_many", "_law_found"] ["_law_pot_here", "_law_many"] (defScope sDraw) := ⟨rfl, rfl, rfl, by decide +kernel, rfl, by decide +kernel, by decide +kernel⟩
theorem scNumber : FnScope ["_law_pot_here", "_law_kind", "_law_found"] ["_law_pot_here"] (defScope sNumber) := ⟨rfl, rfl, rfl, by decide +kernel, rfl, by decide +kernel, by decide +kernel⟩
theorem scLNames : FnScope ["_law_pot_here", "_law_many", "_law_letters", "_law_signs_here", "_law_step", "_law_start", "_law_k", "_law_stem", "_law_place", "_law_found", "_law_name"] ["_law_pot_here", "_law_many"] (defScope sLNames) := ⟨rfl, rfl, rfl, by decide +kernel, rfl, by decide +kernel, by decide +kernel⟩
theorem scLContent : FnScope ["_law_pot_here"] ["_law_pot_here"] (defScope sLContent) := ⟨rfl, rfl, rfl, by decide +kernel, rfl, by decide +kernel, by decide +kernel⟩
theorem scLContentRank : FnScope ["_law_content_here"] ["_law_content_here"] (defScope sLContentRank) := ⟨rfl, rfl, rfl, by decide +kernel, rfl, by decide +kernel, by decide +kernel⟩
theorem scLSignRank : FnScope ["_law_sign", "_law_content_here"] ["_law_sign"] (defScope sLSignRank) := ⟨rfl, rfl, rfl, by decide +kernel, rfl, by decide +kernel, by decide +kernel⟩
theorem scLSigns : FnScope ["_law_pot_here", "_law_many", "_law_names_here", "_law_found", "_law_k", "_law_contents", "_law_sign", "_law_i"] ["_law_pot_here", "_law_many"] (defScope sLSigns) := ⟨rfl, rfl, rfl, by decide +kernel, rfl, by decide +kernel, by decide +kernel⟩
theorem scLTerms : FnScope ["_law_pot_here", "_law_most", "_law_signs_here", "_law_terms_here", "_law_k", "_law_places", "_law_i"] ["_law_pot_here", "_law_most", "_law_signs_here"] (defScope sLTerms) := ⟨rfl, rfl, rfl, by decide +kernel, rfl, by decide +kernel, by decide +kernel⟩
theorem scLBits : FnScope ["_law_number_here", "_law_bits_here", "_law_k"] ["_law_number_here"] (defScope sLBits) := ⟨rfl, rfl, rfl, by decide +kernel, rfl, by decide +kernel, by decide +kernel⟩
theorem scLSum : FnScope ["_law_terms_here", "_law_form_here", "_law_places", "_law_number_here", "_law_product", "_law_k"] ["_law_terms_here"] (defScope sLSum) := ⟨rfl, rfl, rfl, by decide +kernel, rfl, by decide +kernel, by decide +kernel⟩
theorem scLValue : FnScope ["_law_form_here", "_law_truths", "_law_value_here", "_law_product", "_law_k"] ["_law_form_here", "_law_truths"] (defScope sLValue) := ⟨rfl, rfl, rfl, by decide +kernel, rfl, by decide +kernel, by decide +kernel⟩
theorem scLProductRank : FnScope ["_law_product"] ["_law_product"] (defScope sLProductRank) := ⟨rfl, rfl, rfl, by decide +kernel, rfl, by decide +kernel, by decide +kernel⟩
theorem scLNormal : FnScope ["_law_form_here", "_law_pool", "_law_kept", "_law_product", "_law_k"] ["_law_form_here", "_law_pool"] (defScope sLNormal) := ⟨rfl, rfl, rfl, by decide +kernel, rfl, by decide +kernel, by decide +kernel⟩
theorem scLIsInteger : FnScope ["_law_value_here"] ["_law_value_here"] (defScope sLIsInteger) := ⟨rfl, rfl, rfl, by decide +kernel, rfl, by decide +kernel, by decide +kernel⟩
theorem scLSameTerms : FnScope ["_law_actual", "_law_due", "_law_k"] ["_law_actual", "_law_due"] (defScope sLSameTerms) := ⟨rfl, rfl, rfl, by decide +kernel, rfl, by decide +kernel, by decide +kernel⟩
theorem scLTimes : FnScope ["_law_left", "_law_right", "_law_terms_here", "_law_product", "_law_other"] ["_law_left", "_law_right"] (defScope sLTimes) := ⟨rfl, rfl, rfl, by decide +kernel, rfl, by decide +kernel, by decide +kernel⟩
theorem scLScaled : FnScope ["_law_form_here", "_law_number_here", "_law_product"] ["_law_form_here", "_law_number_here"] (defScope sLScaled) := ⟨rfl, rfl, rfl, by decide +kernel, rfl, by decide +kernel, by decide +kernel⟩
theorem scLFirst : FnScope ["_law_pot_here", "_law_signs_here", "_law_form_here", "_law_k", "_law_place"] ["_law_pot_here", "_law_signs_here"] (defScope sLFirst) := ⟨rfl, rfl, rfl, by decide +kernel, rfl, by decide +kernel, by decide +kernel⟩
theorem scLForm : FnScope ["_law_form_here", "_law_pool", "_law_product", "_law_k"] ["_law_form_here", "_law_pool"] (defScope sLForm) := ⟨rfl, rfl, rfl, by decide +kernel, rfl, by decide +kernel, by decide +kernel⟩
theorem scLResultsRight : FnScope ["_law_results", "_law_pool", "_law_made", "_law_due"] ["_law_results", "_law_pool"] (defScope sLResultsRight) := ⟨rfl, rfl, rfl, by decide +kernel, rfl, by decide +kernel, by decide +kernel⟩
theorem scLaw : FnScope ["_law_script", "_law_pot_here", "_law_pool", "_law_left", "_law_right", "_law_number_here", "_law_f", "_law_g", "_law_whole", "_law_results", "_law_binary", "_law_k", "_law_truths", "_law_value_here", "_law_signs_here", "_law_told", "_law_same", "_law_defaults", "_law_exceptions", "_law_sign", "_law_i"] ["_law_script"] (defScope sLaw) := ⟨rfl, rfl, rfl, by decide +kernel, rfl, by decide +kernel, by decide +kernel⟩
end KT

set_option maxRecDepth 100000
set_option maxHeartbeats 4000000
/-! What stands at an address; data compared; list(range). -/
namespace KP
open PySem PySem.Spec PyProof.Rows L2 KT
/-- the built-in names that no top statement stores -/
structure Blt (mg : Str → Option Value) : Prop where
  isinstance : mg "isinstance" = none
  int : mg "int" = none
  bool : mg "bool" = none
  tuple : mg "tuple" = none
  list : mg "list" = none
  len : mg "len" = none
  sorted : mg "sorted" = none
  abs : mg "abs" = none
  range : mg "range" = none
  enumerate : mg "enumerate" = none
  set : mg "set" = none
  all : mg "all" = none
/-- all but the object at a stays -/
def But (a : Addr) (H H' : Hp) : Prop := ∀ b o, H b = some o → b ≠ a → H' b = some o
theorem But.refl {a : Addr} {H : Hp} : But a H H := fun _ _ e _ => e
theorem But.trans {a : Addr} {H H1 H2 : Hp} (h : But a H H1) (k : But a H1 H2) : But a H H2 := fun b o e n => k b o (h b o e n) n
theorem But.same {a : Addr} {H H1 H2 : Hp} (h : But a H H1) (k : Same H1 H2) : But a H H2 := fun b o e n => k b o (h b o e n)
theorem But.upd {a : Addr} {H : Hp} {o : HO} : But a H (upd H a o) := fun b u e n => by rw [upd_ne n]; exact e
theorem same_upd {a : Addr} {H : Hp} {o : HO} (n : H a = none) : Same H (upd H a o) := fun b u e => by rw [upd_ne (ne_of_none e n)]; exact e
theorem But.new {a : Addr} {H0 H1 H : Hp} {o : HO} (h : But a H1 H) (e : H1 = L2.upd H0 a o) (n : H0 a = none) : Same H0 H := fun b u q => by
  have nb : b ≠ a := ne_of_none q n
  exact h b u (by rw [e, upd_ne nb]; exact q) nb
theorem But.of {a : Addr} {H H' : Hp} (s : Same H H') : But a H H' := fun b o e _ => s b o e
/-- a fresh object changed: what stood before it stays -/
theorem same_but {a : Addr} {H H1 H2 : Hp} (s : Same H H1) (n : H a = none) (b : But a H1 H2) : Same H H2 := fun c o e => b c o (s c o e) (ne_of_none e n)
/-- a tuple of two ints; a list of ints -/
def IsP (H : Hp) (v : V) (a : Int × Int) : Prop := ∃ t, v = .ref t ∧ H t = some (.tup [.int a.1, .int a.2])
def IsI (H : Hp) (v : V) (ns : List Int) : Prop := ∃ t, v = .ref t ∧ H t = some (.lst (ns.map V.int))
def AllP (H : Hp) (L : List (V × (Int × Int))) : Prop := ∀ x ∈ L, IsP H x.1 x.2
def AllI (H : Hp) (L : List (V × List Int)) : Prop := ∀ x ∈ L, IsI H x.1 x.2
theorem IsP.same {H H' : Hp} {v : V} {a : Int × Int} (h : IsP H v a) (s : Same H H') : IsP H' v a := let ⟨t, e, q⟩ := h; ⟨t, e, s _ _ q⟩
theorem IsI.same {H H' : Hp} {v : V} {a : List Int} (h : IsI H v a) (s : Same H H') : IsI H' v a := let ⟨t, e, q⟩ := h; ⟨t, e, s _ _ q⟩
theorem AllP.same {H H' : Hp} {L : List (V × (Int × Int))} (h : AllP H L) (s : Same H H') : AllP H' L := fun x hx => (h x hx).same s
theorem AllI.same {H H' : Hp} {L : List (V × List Int)} (h : AllI H L) (s : Same H H') : AllI H' L := fun x hx => (h x hx).same s
theorem IsP.but {H H' : Hp} {v : V} {a : Int × Int} {d : Addr} {xs : List V} (h : IsP H v a) (b : But d H H') (hd : H d = some (.lst xs)) : IsP H' v a := by
  obtain ⟨t, e, q⟩ := h
  exact ⟨t, e, b _ _ q (by rintro rfl; rw [hd] at q; cases q)⟩
theorem AllP.but {H H' : Hp} {L : List (V × (Int × Int))} {d : Addr} {xs : List V} (h : AllP H L) (b : But d H H') (hd : H d = some (.lst xs)) : AllP H' L := fun x hx => (h x hx).but b hd
/-- arrows in a list or a tuple -/
structure PsL (H : Hp) (p : Addr) (A : List (Int × Int)) (L : List (V × (Int × Int))) : Prop where
  at_ : H p = some (.lst (L.map (·.1)))
  all : AllP H L
  eq : L.map (·.2) = A
structure PsT (H : Hp) (p : Addr) (A : List (Int × Int)) (L : List (V × (Int × Int))) : Prop where
  at_ : H p = some (.tup (L.map (·.1)))
  all : AllP H L
  eq : L.map (·.2) = A
theorem PsL.same {H H' : Hp} {p : Addr} {A L} (h : PsL H p A L) (s : Same H H') : PsL H' p A L := ⟨s _ _ h.at_, h.all.same s, h.eq⟩
theorem PsT.same {H H' : Hp} {p : Addr} {A L} (h : PsT H p A L) (s : Same H H') : PsT H' p A L := ⟨s _ _ h.at_, h.all.same s, h.eq⟩
/-- lists in a list -/
structure IsLs (H : Hp) (p : Addr) (W : List (List Int)) (L : List (V × List Int)) : Prop where
  at_ : H p = some (.lst (L.map (·.1)))
  all : AllI H L
  eq : L.map (·.2) = W
theorem IsLs.same {H H' : Hp} {p : Addr} {W L} (h : IsLs H p W L) (s : Same H H') : IsLs H' p W L := ⟨s _ _ h.at_, h.all.same s, h.eq⟩
theorem at_map {α : Type} {M : List (V × α)} {i : Nat} {v : V} (h : (M.map (·.1))[i]? = some v) : ∃ p, M[i]? = some (v, p) := by
  rw [List.getElem?_map] at h
  cases e : M[i]? with
  | none => rw [e] at h; cases h
  | some x =>
    rw [e] at h
    obtain ⟨v', p⟩ := x
    have : v' = v := Option.some.inj h
    subst this
    exact ⟨p, rfl⟩
theorem take_map {α β : Type} {M : List α} {f : α → β} {i : Nat} {x : α} (h : M[i]? = some x) : ((M.take (i + 1)).map f) = (M.take i).map f ++ [f x] := by
  rw [List.take_add_one, h, List.map_append]
  rfl
theorem int_at {ns : List Int} {i : Nat} {v : V} (h : (ns.map V.int)[i]? = some v) : ∃ n, ns[i]? = some n ∧ v = .int n := by
  rw [List.getElem?_map] at h
  cases e : ns[i]? with
  | none => rw [e] at h; cases h
  | some x => rw [e] at h; exact ⟨x, rfl, (Option.some.inj h).symm⟩
theorem yes_i {σ : L2.St} {H : Hp} {A B : Hp → Prop} (h : A H) : tYes σ H (fun b H3 => if b = true then A H3 else B H3) := by
  show @ite _ (true = true) (instDecidableEqBool true true) (A H) (B H)
  exact (if_pos rfl).mpr h
/-! ### data -/
def EqE {α : Type} (enc : α → PyData) : Prop := ∀ a b : α, PyData.eqv (enc a) (enc b) = true ↔ a = b
def LayE {α : Type} (enc : α → PyData) (k : Nat) : Prop := ∀ a : α, (enc a).canLay0 = true ∧ (enc a).depth ≤ k
theorem eqvAll_map {α : Type} {enc : α → PyData} (h : EqE enc) : ∀ A B : List α, PyData.eqvAll (A.map enc) (B.map enc) = true ↔ A = B
  | [], [] => by simp [PyData.eqvAll]
  | [], b :: B => by simp [PyData.eqvAll]
  | a :: A, [] => by simp [PyData.eqvAll]
  | a :: A, b :: B => by
    simp only [List.map_cons, PyData.eqvAll, Bool.and_eq_true, h a b, eqvAll_map h A B]
    simp
theorem layAll_map {α : Type} {enc : α → PyData} {k : Nat} (h : LayE enc k) : ∀ A : List α, PyData.canLayAll0 (A.map enc) = true ∧ PyData.depthAll (A.map enc) ≤ k
  | [] => by simp [PyData.canLayAll0, PyData.depthAll]
  | a :: A => by
    obtain ⟨h1, h2⟩ := h a
    obtain ⟨h3, h4⟩ := layAll_map h A
    simp only [List.map_cons, PyData.canLayAll0, PyData.depthAll, h1, h3, Bool.and_self, true_and]
    exact Nat.max_le.mpr ⟨h2, h4⟩
theorem eq_list {α : Type} {enc : α → PyData} (h : EqE enc) : EqE fun A : List α => PyData.list (A.map enc) := fun A B => by
  simp only [PyData.eqv]
  exact eqvAll_map h A B
theorem eq_tup {α : Type} {enc : α → PyData} (h : EqE enc) : EqE fun A : List α => PyData.tuple (A.map enc) := fun A B => by
  simp only [PyData.eqv]
  exact eqvAll_map h A B
theorem lay_list {α : Type} {enc : α → PyData} {k : Nat} (h : LayE enc k) : LayE (fun A : List α => PyData.list (A.map enc)) (k + 1) := fun A => by
  obtain ⟨h1, h2⟩ := layAll_map h A
  simp only [PyData.canLay0, PyData.depth]
  exact ⟨h1, by omega⟩
theorem lay_tup {α : Type} {enc : α → PyData} {k : Nat} (h : LayE enc k) : LayE (fun A : List α => PyData.tuple (A.map enc)) (k + 1) := fun A => by
  obtain ⟨h1, h2⟩ := layAll_map h A
  simp only [PyData.canLay0, PyData.depth]
  exact ⟨h1, by omega⟩
theorem LayE.shaped {α : Type} {enc : α → PyData} {k : Nat} (h : LayE enc k) (hk : k ≤ 64) (a : α) : SeqAt.shaped (enc a) = true := by
  obtain ⟨h1, h2⟩ := h a
  unfold SeqAt.shaped
  exact Bool.and_eq_true_iff.mpr ⟨h1, decide_eq_true (by omega)⟩
theorem eq_int : EqE PyData.int := fun a b => by simp [PyData.eqv]
theorem lay_int : LayE PyData.int 0 := fun a => by simp [PyData.canLay0, PyData.depth]
def dP (a : Int × Int) : PyData := .tuple [.int a.1, .int a.2]
theorem eq_dP : EqE dP := fun a b => by
  obtain ⟨x, y⟩ := a
  obtain ⟨z, u⟩ := b
  simp [dP, PyData.eqv, PyData.eqvAll]
theorem lay_dP : LayE dP 1 := fun a => by simp [dP, PyData.canLay0, PyData.canLayAll0, PyData.depth, PyData.depthAll]
abbrev dI : List Int → PyData := fun A => .list (A.map PyData.int)
abbrev dIs : List (List Int) → PyData := fun A => .list (A.map dI)
abbrev dPL : List (Int × Int) → PyData := fun A => .list (A.map dP)
abbrev dPT : List (Int × Int) → PyData := fun A => .tuple (A.map dP)
abbrev dTI : List Int → PyData := fun A => .tuple (A.map PyData.int)
theorem eq_dI : EqE dI := eq_list eq_int
theorem eq_dTI : EqE dTI := eq_tup eq_int
theorem eq_dIs : EqE dIs := eq_list eq_dI
theorem eq_dPL : EqE dPL := eq_list eq_dP
theorem eq_dPT : EqE dPT := eq_tup eq_dP
theorem sh_dP (a) : SeqAt.shaped (dP a) = true := lay_dP.shaped (by decide) a
theorem sh_dI (a) : SeqAt.shaped (dI a) = true := (lay_list lay_int).shaped (by decide) a
theorem sh_dTI (a) : SeqAt.shaped (dTI a) = true := (lay_tup lay_int).shaped (by decide) a
theorem sh_dIs (a) : SeqAt.shaped (dIs a) = true := (lay_list (lay_list lay_int)).shaped (by decide) a
theorem sh_dPL (a) : SeqAt.shaped (dPL a) = true := (lay_list lay_dP).shaped (by decide) a
theorem sh_dPT (a) : SeqAt.shaped (dPT a) = true := (lay_tup lay_dP).shaped (by decide) a
theorem EqE.dec {α : Type} [DecidableEq α] {enc : α → PyData} (h : EqE enc) (a b : α) : PyData.eqv (enc a) (enc b) = decide (a = b) := by
  rw [Bool.eq_iff_iff, h a b, decide_eq_true_iff]
theorem any_eq {α : Type} [DecidableEq α] {enc : α → PyData} (h : EqE enc) (A : List α) (b : α) : ((A.map enc).any fun z => PyData.eqv z (enc b)) = decide (b ∈ A) := by
  rw [Bool.eq_iff_iff, decide_eq_true_iff, List.any_eq_true]
  constructor
  · rintro ⟨z, hz, e⟩
    obtain ⟨a, ha, rfl⟩ := List.mem_map.mp hz
    rw [← (h a b).mp e]
    exact ha
  · exact fun hb => ⟨_, List.mem_map.mpr ⟨b, hb, rfl⟩, (h b b).mpr rfl⟩
section
variable {K : PySem.W.Frag} {H : Hp}
theorem dp_ints : ∀ ns : List Int, DpAll K H (ns.map V.int) (ns.map PyData.int)
  | [] => .nil
  | n :: ns => .cons (.int n) (dp_ints ns)
theorem dp_map {α : Type} {enc : α → PyData} : ∀ {L : List (V × α)}, (∀ x ∈ L, Dp K H x.1 (enc x.2)) → DpAll K H (L.map (·.1)) ((L.map (·.2)).map enc)
  | [], _ => .nil
  | x :: L, h => .cons (h x (by simp)) (dp_map fun y hy => h y (by simp [hy]))
theorem IsI.dp {v : V} {ns : List Int} (h : IsI H v ns) : Dp K H v (dI ns) := by
  obtain ⟨t, rfl, e⟩ := h
  exact .lst (SqL.of e) (dp_ints ns)
theorem IsP.dp {v : V} {a : Int × Int} (h : IsP H v a) : Dp K H v (dP a) := by
  obtain ⟨t, rfl, e⟩ := h
  exact .tup (SqT.of e) (.cons (.int _) (.cons (.int _) .nil))
theorem dp_lst {p : Addr} {ns : List Int} (h : SqL K H p (ns.map V.int)) : Dp K H (.ref p) (dI ns) := .lst h (dp_ints ns)
theorem dp_tup {p : Addr} {ns : List Int} (h : SqT K H p (ns.map V.int)) : Dp K H (.ref p) (dTI ns) := .tup h (dp_ints ns)
theorem IsLs.dp {p : Addr} {W L} (h : IsLs H p W L) : Dp K H (.ref p) (dIs W) := by
  have := dp_map (K := K) (H := H) (enc := dI) (L := L) fun x hx => (h.all x hx).dp
  rw [h.eq] at this
  exact .lst (SqL.of h.at_) this
theorem PsL.dp {p : Addr} {A L} (h : PsL H p A L) : Dp K H (.ref p) (dPL A) := by
  have := dp_map (K := K) (H := H) (enc := dP) (L := L) fun x hx => (h.all x hx).dp
  rw [h.eq] at this
  exact .lst (SqL.of h.at_) this
theorem PsT.dp {p : Addr} {A L} (h : PsT H p A L) : Dp K H (.ref p) (dPT A) := by
  have := dp_map (K := K) (H := H) (enc := dP) (L := L) fun x hx => (h.all x hx).dp
  rw [h.eq] at this
  exact .tup (SqT.of h.at_) this
end
/-! ### list(range(lo, hi)) -/
section
variable {X : Cx}
def rListR : List V → Hp → VK → Prop := fun vs H Q => ∃ (p : Addr) (lo hi : Int), vs = [.ref p] ∧ H p = some (.rng lo hi) ∧ -1000 ≤ lo ∧ lo ≤ 1000 ∧ -1000 ≤ hi ∧ hi ≤ 1000 ∧ ∀ l, H l = none → Q (.ref l) (upd H l (.lst (((List.range (hi - lo).toNat).map fun k => lo + ((k : Nat) : Int)).map V.int)))
theorem items_vals {lo : Int} {acc : Array Value} {n : Nat} (h : ItemsOf (fun i v => ∃ t, v = .int (lo + i * 1) t) acc n) : Vals (((List.range n).map fun k => lo + ((k : Nat) : Int)).map V.int) acc.toList :=
  vals_ints (PySem.W.kll_ints acc.toList lo n (by rw [Array.length_toList]; exact h.1) fun j v hv => h.2 j v (by rw [← Array.getElem?_toList]; exact hv))
theorem cr_listR (hc : X.calm = true) : CallR X (.type "list") rListR := by
  intro pins s σ H vs us Q I r h
  obtain ⟨p, lo, hi, rfl, hp, h1, h2, h3, h4, q⟩ := h
  obtain rfl := Vals.ref1 r
  obtain ⟨t, u, v, hr⟩ := (show ObjOk X.prog X.w H s.heap p (.rng lo hi) from I.hok p _ hp)
  have hn : (hi - lo).toNat ≤ 2000 := by omega
  refine call_list_range (n := (hi - lo).toNat) (I.ok.hd hc) hr (small_one (by omega) (by omega) (by omega) (by omega)) (by rw [rangeSize_one]; split <;> omega) (Nat.le_trans hn (by decide)) fun h' tk acc c hk hD hI => ?_
  · exact ⟨.ref s.heap.objs.size, _, I.laid (t' := tk) hk (Nat.le_refl _) (show ObjOk X.prog X.w _ h' _ (.lst _) from ⟨by rw [List.length_map, List.length_map, List.length_range]; exact Nat.le_trans hn (show 2000 ≤ sizeLine by decide), acc.toList, c, items_vals hI, by simpa using hD⟩), rfl, q _ (I.hok.fresh (Nat.le_refl _))⟩
end
end KP
set_option maxRecDepth 100000
set_option maxHeartbeats 4000000
/-! The law's draws: any number within its bound may come. -/
namespace KP
open PySem PySem.Spec PyProof.Rows L2 KT
/-- a pot of draws -/
def PotAt (H : Hp) (a : Addr) : Prop := ∃ x y : Int, H a = some (.lst [.int x, .int y]) ∧ 0 ≤ x ∧ x < 2147483647 ∧ 0 ≤ y
theorem PotAt.same {a : Addr} {H H' : Hp} (h : PotAt H a) (s : Same H H') : PotAt H' a := let ⟨x, y, e, r⟩ := h; ⟨x, y, s _ _ e, r⟩
theorem menu {ms : List Int} {k : Int} (h0 : 0 ≤ k) (h1 : k < ms.length) : ∃ m, m ∈ ms ∧ atI (ms.map V.int) k = some (.int m) := by
  obtain ⟨j, rfl⟩ : ∃ j : Nat, k = (j : Int) := ⟨k.toNat, by omega⟩
  have hj : j < ms.length := by omega
  exact ⟨ms[j], List.getElem_mem hj, atI_nat (by rw [List.getElem?_map, List.getElem?_eq_getElem hj]; rfl)⟩
section
variable {P : Program} {w : World} {K : PySem.W.Frag} {mg : Str → Option Value} {base : Heap}
/-! _law_pot -/
def spPot (K : PySem.W.Frag) : Sp := fun vs H Q _ => ∃ (a : Addr) (ns : List Int) (k : Nat), vs = [.ref a, .int (k : Int)] ∧ SqL K H a (ns.map V.int) ∧ ∀ p H', Same H H' → H p = none → PotAt H' p → Q (.ref p) H'
theorem ok_pot {f : Addr} {fd : FuncData} (F : Fun K "_law_pot" "_law_pot" sPot f fd) (B : Blt mg) : FnOk P w K mg base CX0 1 f fd ["_law_script", "_law_k"] (spPot K) := by
  refine F.ok scPot (fun vs H Q E h => ?_) (fun cdv A outer s H vs Q E hr h => ?_)
  · obtain ⟨_, _, _, rfl, _⟩ := h
    rfl
  · obtain ⟨a, ns, k, rfl, hS, q⟩ := h
    have tail : ∃ t, PSs (cxOf CX0 P w K mg base ["_law_script", "_law_k", "_law_number_here"] "_law_pot" (defScope sPot) f cdv A outer s H E).nox ((defBody sPot).drop 2) t ∧
        ∀ n : Int, 0 ≤ n → t { nx := fun _ H' => Q .non H', rt := Q } [some (.ref a), some (.int k), some (.int n)] H := by
      refine ⟨_, pss_cons (ps_if (pt_cmpR op_lt (pv 2) (pe_op op_pow pe_int pe_int) (nomark _))
          (pss_one (ps_ret (pe_lst (pa_cons (pe_op op_mod (pe_callTy call_int1 (by rfl) B.int (by decide +kernel) (pa_cons (pv 2) pa_nil)) pe_int) (pa_cons pe_int pa_nil))))) pss_nil)
        (pss_one (ps_ret (pe_lst (pa_cons pe_int (pa_cons (pe_op op_sub (pv 2) (pe_op op_pow pe_int pe_int)) pa_nil))))), ?_⟩
      intro n hn
      refine ⟨_, rfl, _, _, rfl, rfl, ⟨by decide, by decide, by decide⟩, _, _, rfl, rfl, _, rfl, ite2 (fun c => ?_) fun c => ?_⟩
      · refine ⟨_, rfl, .inl ⟨_, rfl, _, _, rfl, rfl, by show (0 : Int) < 2147483647; decide, by show 2 ≤ sizeLine; decide, fun p hp => ?_⟩⟩
        exact q p _ (same_upd hp) hp ⟨_, _, upd_same, Int.emod_nonneg _ (by decide), Int.emod_lt_of_pos _ (by decide), Int.le_refl _⟩
      · have c' : ¬ n < 10 ^ (18 : Int).toNat := fun z => c (decide_eq_true z)
        refine ⟨_, rfl, _, _, rfl, rfl, ⟨by decide, by decide, by decide⟩, _, _, rfl, rfl, by show 2 ≤ sizeLine; decide, fun p hp => ?_⟩
        exact q p _ (same_upd hp) hp ⟨_, _, upd_same, Int.le_refl _, by decide, by omega⟩
    obtain ⟨t, ht, h2⟩ := tail
    refine ⟨_, pss_cons (ps_set (i := 2) scPot.nd rfl (.inl rfl) pe_int)
      (pss_cons (ps_if (pt_cmpR op_lt (pv 1) (pe_callB call_len_seq (by rfl) B.len PySem.boot_len (pa_cons (pv 0) pa_nil)) (nomark _))
          (pss_one (ps_set (i := 2) scPot.nd rfl (.inl rfl) (pe_callB call_abs (by rfl) B.abs (by decide +kernel) (pa_cons (pe_ix ix_list (pv 0) (pv 1) (fun _ _ => rfl)) pa_nil)))) pss_nil) ht), ?_⟩
    refine ⟨_, rfl, _, rfl, a, _, rfl, .inl hS, _, _, rfl, rfl, _, rfl, ite2 (fun c => ?_) fun c => ?_⟩
    · have c' := of_decide_eq_true c
      rw [List.length_map] at c'
      have hk : k < ns.length := by omega
      refine ⟨_, rfl, _, rfl, a, _, _, _, rfl, rfl, hS, atI_nat (j := k) (v := V.int ns[k]) (by rw [List.getElem?_map, List.getElem?_eq_getElem hk]; rfl), _, rfl, ?_⟩
      exact h2 _ (by split <;> omega)
    · exact h2 0 (Int.le_refl _)
/-! _law_draw -/
def spDraw : Sp := fun vs H Q _ => ∃ (a : Addr) (m : Int), vs = [.ref a, .int m] ∧ PotAt H a ∧ 0 < m ∧ ∀ (v : Int) (H' : Hp), 0 ≤ v → v < m → PotAt H' a → But a H H' → Q (.int v) H'
theorem ok_draw {f : Addr} {fd : FuncData} (F : Fun K "_law_draw" "_law_draw" sDraw f fd) (B : Blt mg) : FnOk P w K mg base CX0 1 f fd ["_law_pot_here", "_law_many"] spDraw := by
  refine F.ok scDraw (fun vs H Q E h => ?_) (fun cdv A outer s H vs Q E hr h => ?_)
  · obtain ⟨_, _, rfl, _⟩ := h
    rfl
  · obtain ⟨a, m, rfl, ⟨x, y, hp, x0, x1, y0⟩, hm, q⟩ := h
    refine ⟨_, pss_cons (ps_if (pt_cmpR op_eq (pe_ix ix_list (pv 0) pe_int (fun _ _ => rfl)) pe_int (nomark _))
        (pss_cons (ps_set (i := 2) scDraw.nd rfl (.inl rfl) (pe_op op_mod (pe_op op_mod (pe_callTy call_int1 (by rfl) B.int (by decide +kernel) (pa_cons (pe_ix ix_list (pv 0) pe_int (fun _ _ => rfl)) pa_nil)) pe_int) (pv 1)))
        (pss_cons (ps_asg (pe_op op_fdiv (pe_callTy call_int1 (by rfl) B.int (by decide +kernel) (pa_cons (pe_ix ix_list (pv 0) pe_int (fun _ _ => rfl)) pa_nil)) pe_int) (pg_sub (pv 0) pe_int set_list))
        (pss_one (ps_ret (pv 2))))) pss_nil)
      (pss_cons (ps_asg (pe_op op_mod (pe_callTy call_int1 (by rfl) B.int (by decide +kernel) (pa_cons (pe_op op_mul (pe_ix ix_list (pv 0) pe_int (fun _ _ => rfl)) pe_int) pa_nil)) pe_int) (pg_sub (pv 0) pe_int set_list))
      (pss_one (ps_ret (pe_op op_mod (pe_op op_mod (pe_callTy call_int1 (by rfl) B.int (by decide +kernel) (pa_cons (pe_op op_mul (pe_ix ix_list (pv 0) pe_int (fun _ _ => rfl)) (pe_ix ix_list (pv 0) pe_int (fun _ _ => rfl))) pa_nil)) pe_int) (pv 1))))), ?_⟩
    have a0 : ∀ {u v : Int}, atI [V.int u, V.int v] 0 = some (V.int u) := fun {u v} => atI_nat (j := 0) rfl
    have a1 : ∀ {u v : Int}, atI [V.int u, V.int v] 1 = some (V.int v) := fun {u v} => atI_nat (j := 1) rfl
    refine ⟨_, rfl, a, _, _, _, rfl, rfl, SqL.of hp, a0, rfl, _, rfl, ite2 (fun c => ?_) fun c => ?_⟩
    · refine ⟨_, rfl, a, _, _, _, rfl, rfl, SqL.of hp, a1, .inl ⟨_, rfl, _, _, rfl, rfl, by show (0 : Int) < 1000; decide, _, rfl, _, _, rfl, rfl, hm, ?_⟩⟩
      refine ⟨_, rfl, a, _, _, _, rfl, rfl, SqL.of hp, a1, .inl ⟨_, rfl, _, _, rfl, rfl, ⟨by decide, by decide⟩, _, rfl, a, _, _, 1, rfl, rfl, hp, by show ixN 2 1 = some 1; decide, ?_⟩⟩
      refine ⟨_, rfl, q _ _ (Int.emod_nonneg _ (by omega)) (Int.emod_lt_of_pos _ hm) ⟨x, y / 1000, upd_same, x0, x1, Int.ediv_nonneg y0 (by decide)⟩ But.upd⟩
    · refine ⟨_, rfl, a, _, _, _, rfl, rfl, SqL.of hp, a0, _, _, rfl, rfl, .inl ⟨by omega, by omega⟩, .inl ⟨_, rfl, _, _, rfl, rfl, by show (0 : Int) < 2147483647; decide, _, rfl, a, _, _, 0, rfl, rfl, hp, by show ixN 2 0 = some 0; decide, ?_⟩⟩
      have z0 : 0 ≤ x * 48271 % 2147483647 := Int.emod_nonneg _ (by decide)
      have z1 : x * 48271 % 2147483647 < 2147483647 := Int.emod_lt_of_pos _ (by decide)
      refine ⟨_, rfl, a, _, _, _, rfl, rfl, SqL.of upd_same, atI_nat (j := 0) rfl, _, rfl, a, _, _, _, rfl, rfl, SqL.of upd_same, atI_nat (j := 0) rfl, _, _, rfl, rfl, .inl ⟨by omega, by omega⟩, .inl ⟨_, rfl, _, _, rfl, rfl, by show (0 : Int) < 2147483629; decide, _, rfl, _, _, rfl, rfl, hm, ?_⟩⟩
      exact q _ _ (Int.emod_nonneg _ (by omega)) (Int.emod_lt_of_pos _ hm) ⟨_, y, upd_same, z0, z1, y0⟩ But.upd
/-! _law_number -/
def bdI (n : Int) : Prop := -100000000000 < n ∧ n < 100000000000
def spNumber : Sp := fun vs H Q _ => ∃ a : Addr, vs = [.ref a] ∧ PotAt H a ∧ ∀ (n : Int) (H' : Hp), bdI n → PotAt H' a → But a H H' → Q (.int n) H'
theorem ok_number {f fd' : Addr} {fd fdd : FuncData} (F : Fun K "_law_number" "_law_number" sNumber f fd) (B : Blt mg) (FD : Fun K "_law_draw" "_law_draw" sDraw fd' fdd) (mD : mg "_law_draw" = some (.ref fd')) (bD : Binds K fdd ["_law_pot_here", "_law_many"] []) :
    FnOk P w K mg base CX0 2 f fd ["_law_pot_here"] spNumber := by
  have GD : FnOk P w K mg base CX0 1 fd' fdd ["_law_pot_here", "_law_many"] spDraw := ok_draw FD B
  refine F.ok scNumber (fun vs H Q E h => ?_) (fun cdv A outer s H vs Q E hr h => ?_)
  · obtain ⟨_, rfl, _⟩ := h
    rfl
  · obtain ⟨a, rfl, hp, q⟩ := h
    have tail : ∃ t, PSs (cxOf CX0 P w K mg base ["_law_pot_here", "_law_kind", "_law_found"] "_law_number" (defScope sNumber) f cdv A outer s H E).nox ((defBody sNumber).drop 3) t ∧
        ∀ (v1 : Option V) (n : Int) (H1 : Hp), 0 ≤ n → n < 100000000000 → PotAt H1 a → But a H H1 → t { nx := fun _ H' => Q .non H', rt := Q } [some (.ref a), v1, some (.int n)] H1 := by
      refine ⟨_, pss_cons (ps_if (pt_cmpR op_eq (pe_call GD hr (by rfl) mD FD.kp bD .nil pass0 (pa_cons (pv 0) (pa_cons pe_int pa_nil))) pe_int (nomark _)) (pss_one (ps_ret (pe_un un_neg (pv 2)))) pss_nil)
        (pss_one (ps_ret (pv 2))), ?_⟩
      intro v1 n H1 h0 h1 hp1 hb
      refine ⟨_, rfl, a, 2, rfl, hp1, by decide, fun v H2 _ _ hp2 hb2 => ⟨rfl, _, rfl, ite2 (fun c => ?_) fun c => ?_⟩⟩
      · exact ⟨_, rfl, _, rfl, q _ _ ⟨by omega, by omega⟩ hp2 (hb.trans hb2)⟩
      · exact ⟨_, rfl, q _ _ ⟨by omega, by omega⟩ hp2 (hb.trans hb2)⟩
    obtain ⟨t, ht, h2⟩ := tail
    refine ⟨_, pss_cons (ps_set (i := 1) scNumber.nd rfl (.inl rfl) (pe_call GD hr (by rfl) mD FD.kp bD .nil pass0 (pa_cons (pv 0) (pa_cons pe_int pa_nil))))
      (pss_cons (ps_set (i := 2) scNumber.nd rfl (.inl rfl) (pe_call GD hr (by rfl) mD FD.kp bD .nil pass0 (pa_cons (pv 0) (pa_cons (pe_ix ix_list (pe_lst (pa_cons pe_int (pa_cons pe_int (pa_cons pe_int (pa_cons pe_int (pa_cons pe_int (pa_cons pe_int (pa_cons pe_int (pa_cons pe_int pa_nil))))))))) (pv 1) (fun _ _ => rfl)) pa_nil))))
      (pss_cons (ps_if (pt_cmpR op_eq (pv 1) pe_int (nomark _))
        (pss_one (ps_set (i := 2) scNumber.nd rfl (.inl rfl) (pe_op op_add (pe_op op_add (pe_op op_add (pe_op op_mul (pv 2) (pe_op op_pow pe_int pe_int)) (pe_op op_mul (pe_call GD hr (by rfl) mD FD.kp bD .nil pass0 (pa_cons (pv 0) (pa_cons pe_int pa_nil))) (pe_op op_pow pe_int pe_int)))
          (pe_op op_mul (pe_call GD hr (by rfl) mD FD.kp bD .nil pass0 (pa_cons (pv 0) (pa_cons pe_int pa_nil))) pe_int)) (pe_call GD hr (by rfl) mD FD.kp bD .nil pass0 (pa_cons (pv 0) (pa_cons pe_int pa_nil)))))) pss_nil) ht)), ?_⟩
    refine ⟨_, rfl, a, 8, rfl, hp, by decide, fun k H1 k0 k8 hp1 hb1 => ?_⟩
    refine ⟨_, rfl, by show 8 ≤ sizeLine; decide, fun l hl => ?_⟩
    have s1 : Same H1 (upd H1 l (.lst ([10, 10, 10, 10, 10, 41, 1000, 1000].map V.int))) := same_upd hl
    obtain ⟨m, hm, hat⟩ := menu (ms := [10, 10, 10, 10, 10, 41, 1000, 1000]) k0 k8
    have mm : 0 < m ∧ m ≤ 1000 := by
      simp only [List.mem_cons, List.not_mem_nil, or_false] at hm
      omega
    refine ⟨_, rfl, l, _, _, _, rfl, rfl, SqL.of upd_same, hat, a, m, rfl, hp1.same s1, mm.1, fun n H2 n0 nm hp2 hb2 => ?_⟩
    have hbb : But a H H2 := (hb1.same s1).trans hb2
    refine ⟨_, rfl, rfl, _, rfl, ite2 (fun c => ?_) fun c => ?_⟩
    · refine ⟨_, rfl, _, _, rfl, rfl, ⟨by decide, by decide, by decide⟩, _, _, rfl, rfl, .inl ⟨by omega, by omega⟩, ?_⟩
      refine ⟨_, rfl, a, 1000, rfl, hp2, by decide, fun u H3 u0 u1 hp3 hb3 => ⟨_, _, rfl, rfl, ⟨by decide, by decide, by decide⟩, _, _, rfl, rfl, .inl ⟨by omega, by omega⟩, _, _, rfl, rfl, ?_⟩⟩
      refine ⟨_, rfl, a, 1000, rfl, hp3, by decide, fun u' H4 u0' u1' hp4 hb4 => ⟨_, _, rfl, rfl, .inl ⟨by omega, by omega⟩, _, _, rfl, rfl, ?_⟩⟩
      refine ⟨_, rfl, a, 100, rfl, hp4, by decide, fun u'' H5 u0'' u1'' hp5 hb5 => ⟨_, _, rfl, rfl, ?_⟩⟩
      have e8 : (10 : Int) ^ (8 : Int).toNat = 100000000 := by decide
      have e5 : (10 : Int) ^ (5 : Int).toNat = 100000 := by decide
      refine h2 _ _ _ ?_ ?_ hp5 (((hbb.trans hb3).trans hb4).trans hb5)
      · rw [e8, e5]; omega
      · rw [e8, e5]; omega
    · exact h2 _ _ _ n0 (by omega) hp2 hbb
end
end KP
set_option maxRecDepth 100000
set_option maxHeartbeats 4000000
/-! Signs and their ranks. -/
namespace KP
open PySem PySem.Spec PyProof.Rows L2 KT FS FD
abbrev Sg := Str × Str × List (Option Int)
def eV : Option Int → V
  | none => .non
  | some i => .int i
def rk : Option Int → Int × Int
  | none => (0, 0)
  | some i => (1, i)
/-- a sign -/
def IsSg (H : Hp) (v : V) (g : Sg) : Prop := ∃ a c, v = .ref a ∧ H a = some (.tup [.str g.1, .str g.2.1, .ref c]) ∧ H c = some (.tup (g.2.2.map eV))
theorem IsSg.keep {H H' : Hp} {v : V} {g : Sg} (h : IsSg H v g) (t : ∀ b xs, H b = some (.tup xs) → H' b = some (.tup xs)) : IsSg H' v g := let ⟨a, c, e, h1, h2⟩ := h; ⟨a, c, e, t _ _ h1, t _ _ h2⟩
theorem IsSg.same {H H' : Hp} {v : V} {g : Sg} (h : IsSg H v g) (s : Same H H') : IsSg H' v g := h.keep fun b xs e => s b _ e
theorem IsSg.but {H H' : Hp} {v : V} {g : Sg} {d : Addr} {o : HO} (h : IsSg H v g) (b : But d H H') (hd : H d = some o) (n : ∀ xs, o ≠ .tup xs) : IsSg H' v g := h.keep fun c xs e => b c _ e (by rintro rfl; rw [hd] at e; exact n _ (Option.some.inj e))
/-- what its rank reads as: by the program, by the law -/
def encL (g : Sg) : PyData := .list [.str g.1, .str g.2.1, .list (g.2.2.map fun o => dP (rk o))]
def encT (g : Sg) : PyData := .tuple [.str g.1, .str g.2.1, .tuple (g.2.2.map fun o => dP (rk o))]
/-- its rank in the heap -/
def IsSk (H : Hp) (l p : Addr) (g : Sg) : Prop := ∃ L, H l = some (.lst [.str g.1, .str g.2.1, .ref p]) ∧ PsL H p (g.2.2.map rk) L
theorem IsSk.dp {K : PySem.W.Frag} {H : Hp} {l p : Addr} {g : Sg} (h : IsSk H l p g) : Dp K H (.ref l) (encL g) := by
  obtain ⟨L, h1, h2⟩ := h
  have := h2.dp (K := K)
  unfold dPL at this
  rw [List.map_map] at this
  exact .lst (SqL.of h1) (.cons (.str _) (.cons (.str _) (.cons this .nil)))
theorem IsSk.same {H H' : Hp} {l p : Addr} {g : Sg} (h : IsSk H l p g) (s : Same H H') : IsSk H' l p g := let ⟨L, h1, h2⟩ := h; ⟨L, s _ _ h1, h2.same s⟩
theorem IsSk.but {H H' : Hp} {l p d : Addr} {g : Sg} {xs : List V} (h : IsSk H l p g) (b : But d H H') (hd : H d = some (.lst xs)) (n1 : l ≠ d) (n2 : p ≠ d) : IsSk H' l p g := by
  obtain ⟨L, h1, h2⟩ := h
  exact ⟨L, b _ _ h1 n1, b _ _ h2.at_ n2, h2.all.but b hd, h2.eq⟩
section
variable {P : Program} {w : World} {K : PySem.W.Frag} {mg : Str → Option Value} {base : Heap}
theorem tyInt {H : Hp} (i : Int) : TyX K H (.int i) (.type "int") := .base (by constructor)
/-! rank -/
def spRank : Sp := fun vs H Q _ => ∃ o : Option Int, vs = [eV o] ∧ ∀ p, H p = none → Q (.ref p) (upd H p (.tup [.int (rk o).1, .int (rk o).2]))
theorem ok_rank {f : Addr} {fd : FuncData} (F : Fun K "rank" "rank" sRank f fd) : FnOk P w K mg base CX0 1 f fd ["content"] spRank := by
  refine F.ok scRank (fun vs H Q E h => ?_) (fun cdv A outer s H vs Q E hr h => ?_)
  · obtain ⟨_, rfl, _⟩ := h
    rfl
  · obtain ⟨o, rfl, k⟩ := h
    refine ⟨_, pss_one (ps_ret (pe_ifExp (pt_cmpR op_isN (pv 0) pe_non (nomark _)) (pe_tup (pa_cons pe_int (pa_cons pe_int pa_nil))) (pe_tup (pa_cons pe_int (pa_cons (pv 0) pa_nil))))), ?_⟩
    refine ⟨_, rfl, rfl, _, rfl, ?_⟩
    cases o with
    | none => exact iteT ⟨by show 2 ≤ sizeLine; decide, fun p hp => k p hp⟩
    | some i => exact iteF ⟨_, rfl, by show 2 ≤ sizeLine; decide, fun p hp => k p hp⟩
/-! ranks -/
structure RkD (K : PySem.W.Frag) (mg : Str → Option Value) (P : Program) (w : World) (base : Heap) (f : Addr) (fd : FuncData) : Prop where
  ok : FnOk P w K mg base CX0 1 f fd ["content"] spRank
  m : mg "rank" = some (.ref f)
  k : PySem.W.keepIn K (.ref f) = true
  b : Binds K fd ["content"] []
def spRanks : Sp := fun vs H Q _ => ∃ (c : Addr) (cs : List (Option Int)), vs = [.ref c] ∧ H c = some (.tup (cs.map eV)) ∧ cs.length ≤ 100 ∧ ∀ p L H', Same H H' → H p = none → PsL H' p (cs.map rk) L → Q (.ref p) H'
theorem ok_ranks {f fr : Addr} {fd fdr : FuncData} (F : Fun K "ranks" "ranks" sRanks f fd) (R : RkD K mg P w base fr fdr) : FnOk P w K mg base CX0 2 f fd ["contents"] spRanks := by
  refine F.ok scRanks (fun vs H Q E h => ?_) (fun cdv A outer s H vs Q E hr h => ?_)
  · obtain ⟨_, _, rfl, _⟩ := h
    rfl
  · obtain ⟨c, cs, rfl, hc, hl, q⟩ := h
    refine ⟨_, pss_one (ps_ret (pe_lc (own := [("content", 1)]) (g := gName 1) (tt := tYes) rfl scRanks.nd (pi_tup (pv 0)) (blkOk_by (N := ["contents", "content"]) (sc := defScope sRanks) (by decide +kernel))
      (fun _ _ _ _ _ => pg_name (i := 1) scRanks.nd rfl (.inl rfl)) (fun _ _ _ _ _ => pts_nil) (fun _ _ _ _ _ => pe_call R.ok hr (by rfl) R.m R.k R.b .nil pass0 (pa_cons (pv 1) pa_nil)))), ?_⟩
    refine ⟨_, rfl, c, rfl, ⟨_, SqT.of hc⟩, fun D nD => lc_it (walk_tup (K := K) (a := c) (xs := cs.map eV)) (fun i H2 => ∃ L : List (V × (Int × Int)), But D (upd H D (.lst [])) H2 ∧ H2 D = some (.lst (L.map (·.1))) ∧ AllP H2 L ∧ L.map (·.2) = (cs.take i).map rk)
      ⟨[], But.refl, upd_same, (fun _ h => nomatch h), rfl⟩ (fun i H2 _ ⟨L, hb, _⟩ => SqT.of ((But.new hb rfl nD) _ _ hc)) ?_ ?_⟩
    · rintro i x H2 H3 hi ⟨L, hb, hD, hA, hE⟩ ⟨rfl, hx⟩
      obtain ⟨o, ho, rfl⟩ : ∃ o, cs[i]? = some o ∧ x = eV o := by
        rw [List.getElem?_map] at hx
        cases e : cs[i]? with
        | none => rw [e] at hx; cases hx
        | some o => rw [e] at hx; exact ⟨o, rfl, (Option.some.inj hx).symm⟩
      refine ⟨rfl, yes_i ⟨_, rfl, o, rfl, fun T hT => ?_⟩⟩
      have s3 : Same H3 (upd H3 T (.tup [.int (rk o).1, .int (rk o).2])) := same_upd hT
      have hD3 := s3 _ _ hD
      have hLl : L.length ≤ 100 := by have := congrArg List.length hE; rw [List.length_map, List.length_map, List.length_take] at this; omega
      refine ⟨_, hD3, small1000 (by rw [List.length_map]; omega), L ++ [(.ref T, rk o)], (hb.same s3).trans But.upd, by rw [upd_same, List.map_append]; rfl, ?_, by rw [List.map_append, hE, take_map ho]; rfl⟩
      refine AllP.but (d := D) (xs := L.map (·.1)) (fun z hz => ?_) But.upd hD3
      rcases List.mem_append.mp hz with m | m
      · exact (hA z m).same s3
      · rw [List.mem_singleton.mp m]
        exact ⟨T, rfl, upd_same⟩
    · rintro H2 ⟨L, hb, hD, hA, hE⟩
      rw [List.length_map, List.take_length] at hE
      exact q D L H2 (But.new hb rfl nD) nD ⟨hD, hA, hE⟩
/-! sign_rank -/
structure RksD (K : PySem.W.Frag) (mg : Str → Option Value) (P : Program) (w : World) (base : Heap) (f : Addr) (fd : FuncData) : Prop where
  ok : FnOk P w K mg base CX0 2 f fd ["contents"] spRanks
  m : mg "ranks" = some (.ref f)
  k : PySem.W.keepIn K (.ref f) = true
  b : Binds K fd ["contents"] []
def spSignRank : Sp := fun vs H Q _ => ∃ (v : V) (g : Sg), vs = [v] ∧ IsSg H v g ∧ g.2.2.length ≤ 100 ∧ ∀ l p H', Same H H' → H l = none → H p = none → IsSk H' l p g → Q (.ref l) H'
theorem ok_signRank {f fr : Addr} {fd fdr : FuncData} (F : Fun K "sign_rank" "sign_rank" sSignRank f fd) (R : RksD K mg P w base fr fdr) : FnOk P w K mg base CX0 3 f fd ["sign"] spSignRank := by
  refine F.ok scSignRank (fun vs H Q E h => ?_) (fun cdv A outer s H vs Q E hr h => ?_)
  · obtain ⟨_, _, rfl, _⟩ := h
    rfl
  · obtain ⟨v, g, rfl, ⟨a, c, rfl, ha, hc⟩, hl, q⟩ := h
    refine ⟨_, pss_cons (ps_asg (pv 0) (pg_tup rfl (pgs_cons (pg_name (i := 1) scSignRank.nd rfl (.inl rfl)) (pgs_cons (pg_name (i := 2) scSignRank.nd rfl (.inl rfl)) (pgs_cons (pg_name (i := 3) scSignRank.nd rfl (.inl rfl)) pgs_nil)))))
      (pss_one (ps_ret (pe_lst (pa_cons (pv 1) (pa_cons (pv 2) (pa_cons (pe_call R.ok hr (by rfl) R.m R.k R.b .nil pass0 (pa_cons (pv 3) pa_nil)) pa_nil)))))), ?_⟩
    refine ⟨_, rfl, a, _, rfl, SqT.of ha, rfl, _, _, rfl, _, _, rfl, _, _, rfl, rfl, ?_⟩
    refine ⟨_, rfl, _, rfl, _, rfl, c, g.2.2, rfl, hc, hl, fun p L H1 s1 np hL => ⟨by show 3 ≤ sizeLine; decide, fun l hl1 => ?_⟩⟩
    have s2 : Same H1 (upd H1 l (.lst [.str g.1, .str g.2.1, .ref p])) := same_upd hl1
    have hl0 : H l = none := by
      cases e : H l with
      | none => rfl
      | some o => rw [s1 _ _ e] at hl1; cases hl1
    exact q l p _ (s1.trans s2) hl0 np ⟨L, upd_same, hL.same s2⟩
end
end KP
/-! Products as ascending lists of places, sums of products, their normal form; plain Lean. -/
namespace FM
abbrev Tm := List Nat × Int
theorem uniq {α : Type} {lt : α → α → Prop} (asy : ∀ a b, lt a b → ¬ lt b a) : ∀ (l m : List α), l.Pairwise lt → m.Pairwise lt → (∀ x, x ∈ l ↔ x ∈ m) → l = m
  | [], [], _, _, _ => rfl
  | [], b :: m, _, _, h => by simpa using h b
  | a :: l, [], _, _, h => by simpa using h a
  | a :: l, b :: m, hl, hm, h => by
    obtain ⟨l1, l2⟩ := List.pairwise_cons.mp hl
    obtain ⟨m1, m2⟩ := List.pairwise_cons.mp hm
    have irr : ∀ a, ¬ lt a a := fun a z => asy a a z z
    have e : a = b := by
      have ha := (h a).mp List.mem_cons_self
      have hb := (h b).mpr List.mem_cons_self
      rcases List.mem_cons.mp ha with z | z
      · exact z
      · rcases List.mem_cons.mp hb with y | y
        · exact y.symm
        · exact absurd (m1 a z) (asy _ _ (l1 b y))
    subst e
    congr 1
    refine uniq asy l m l2 m2 fun x => ?_
    constructor
    · intro hx
      rcases List.mem_cons.mp ((h x).mp (List.mem_cons_of_mem _ hx)) with z | z
      · exact absurd (l1 x hx) (by rw [z]; exact irr a)
      · exact z
    · intro hx
      rcases List.mem_cons.mp ((h x).mpr (List.mem_cons_of_mem _ hx)) with z | z
      · exact absurd (m1 x hx) (by rw [z]; exact irr a)
      · exact z
/-- the places of ks below n, ascending -/
def asc (n : Nat) (ks : List Nat) : List Nat := (List.range n).filter fun k => decide (k ∈ ks)
theorem mem_asc {n : Nat} {ks : List Nat} {k : Nat} : k ∈ asc n ks ↔ k < n ∧ k ∈ ks := by simp [asc]
theorem asc_lt (n : Nat) (ks : List Nat) : (asc n ks).Pairwise (· < ·) := (List.pairwise_lt_range).filter _
theorem lt_asy : ∀ a b : Nat, a < b → ¬ b < a := fun a b h => by omega
theorem asc_of {n : Nat} {ks ds : List Nat} (nd : ds.Pairwise (· < ·)) (hm : ∀ x, x ∈ ds ↔ x ∈ ks) (hb : ∀ x ∈ ks, x < n) : ds = asc n ks :=
  uniq lt_asy _ _ nd (asc_lt n ks) fun x => by rw [mem_asc, hm x]; exact ⟨fun h => ⟨hb x h, h⟩, fun h => h.2⟩
theorem sort_asc {n : Nat} {ks ds : List Nat} (nd : ds.Nodup) (hm : ∀ x, x ∈ ds ↔ x ∈ ks) (hb : ∀ x ∈ ks, x < n) : ds.mergeSort (fun i j => decide (i ≤ j)) = asc n ks := by
  have p := List.mergeSort_perm ds fun i j => decide (i ≤ j)
  refine asc_of ?_ (fun x => by rw [p.mem_iff, hm x]) hb
  have o := List.pairwise_mergeSort (le := fun i j => decide (i ≤ j)) (fun a b c => by simp only [decide_eq_true_eq]; omega) (fun a b => by simp only [Bool.or_eq_true, decide_eq_true_eq]; omega) ds
  have nd' := p.nodup_iff.mpr nd
  exact (List.Pairwise.and o nd').imp fun ⟨h1, h2⟩ => by
    have := of_decide_eq_true h1
    omega
theorem asc_asc {n m : Nat} (h : n ≤ m) {ks : List Nat} (hb : ∀ x ∈ ks, x < n) : asc m ks = asc n ks :=
  asc_of (asc_lt m ks) (fun x => by rw [mem_asc]; exact ⟨fun z => z.2, fun z => ⟨Nat.lt_of_lt_of_le (hb x z) h, z⟩⟩) hb
theorem asc_self {n : Nat} {ks : List Nat} (hb : ∀ x ∈ ks, x < n) (hs : ks.Pairwise (· < ·)) : asc n ks = ks := (asc_of hs (fun _ => Iff.rfl) hb).symm
/-- the order of products -/
def plt (p q : List Nat) : Prop := p.length < q.length ∨ (p.length = q.length ∧ p < q)
theorem plt_asy (p q : List Nat) (h : plt p q) : ¬ plt q p := by
  rcases h with h | ⟨h, h2⟩
  · rintro (z | ⟨z, _⟩) <;> omega
  · rintro (z | ⟨_, z⟩)
    · omega
    · exact List.lt_asymm h2 z
theorem plt_irr (p : List Nat) : ¬ plt p p := fun h => plt_asy p p h h
/-- a term put into the sums -/
def addP (S : List Tm) (p : List Nat) (c : Int) : List Tm := if p ∈ S.map (·.1) then S.map (fun t => if t.1 = p then (t.1, t.2 + c) else t) else S ++ [(p, c)]
def accL (T : List Tm) : List Tm := T.foldl (fun S t => addP S t.1 t.2) []
/-- the coefficient of p -/
def coef (T : List Tm) (p : List Nat) : Int := ((T.filter fun t => decide (t.1 = p)).map (·.2)).sum
theorem coef_cons (t : Tm) (T : List Tm) (p : List Nat) : coef (t :: T) p = (if t.1 = p then t.2 else 0) + coef T p := by
  unfold coef
  by_cases h : t.1 = p
  · rw [List.filter_cons_of_pos (by simpa using h), if_pos h]; simp
  · rw [List.filter_cons_of_neg (by simpa using h), if_neg h]; simp
theorem coef_append (A B : List Tm) (p : List Nat) : coef (A ++ B) p = coef A p + coef B p := by
  unfold coef
  rw [List.filter_append, List.map_append, List.sum_append]
theorem coef_no {T : List Tm} {p : List Nat} (h : p ∉ T.map (·.1)) : coef T p = 0 := by
  induction T with
  | nil => rfl
  | cons t T ih =>
    rw [List.map_cons, List.mem_cons, not_or] at h
    rw [coef_cons, if_neg (fun e => h.1 e.symm), ih h.2]; rfl
theorem coef_mem {T : List Tm} (nd : (T.map (·.1)).Nodup) {p : List Nat} {c : Int} (h : (p, c) ∈ T) : coef T p = c := by
  induction T with
  | nil => cases h
  | cons t T ih =>
    rw [List.map_cons, List.nodup_cons] at nd
    rw [coef_cons]
    rcases List.mem_cons.mp h with e | h
    · rw [← e, if_pos rfl, coef_no (by rw [← e] at nd; exact nd.1)]; omega
    · rw [if_neg (fun e => nd.1 (by rw [e]; exact List.mem_map.mpr ⟨_, h, rfl⟩)), ih nd.2 h]; omega
theorem coef_map {T : List Tm} {p : List Nat} {c : Int} (q : List Nat) (nd : (T.map (·.1)).Nodup) (hp : p ∈ T.map (·.1)) :
    coef (T.map fun t => if t.1 = p then (t.1, t.2 + c) else t) q = coef T q + if p = q then c else 0 := by
  induction T with
  | nil => cases hp
  | cons t T ih =>
    rw [List.map_cons, List.nodup_cons] at nd
    rw [List.map_cons, coef_cons, coef_cons]
    by_cases e : t.1 = p
    · have hn : p ∉ T.map (·.1) := by rw [← e]; exact nd.1
      have same : (T.map fun t => if t.1 = p then (t.1, t.2 + c) else t) = T := by
        conv => rhs; rw [← List.map_id T]
        refine List.map_congr_left fun u hu => ?_
        rw [if_neg (fun z => hn (by rw [← z]; exact List.mem_map.mpr ⟨u, hu, rfl⟩))]; rfl
      rw [same, if_pos e]
      subst e
      by_cases z : t.1 = q
      · rw [if_pos z, if_pos z, if_pos z]; omega
      · rw [if_neg z, if_neg z, if_neg z]; omega
    · rw [if_neg e]
      rw [List.map_cons, List.mem_cons] at hp
      rw [ih nd.2 (hp.resolve_left fun z => e z.symm)]; omega
theorem addP_keys {S : List Tm} {p : List Nat} {c : Int} : (addP S p c).map (·.1) = if p ∈ S.map (·.1) then S.map (·.1) else S.map (·.1) ++ [p] := by
  unfold addP
  split
  · rw [List.map_map]
    refine List.map_congr_left fun t _ => ?_
    show (if t.1 = p then (t.1, t.2 + c) else t).1 = t.1
    split <;> rfl
  · rw [List.map_append]; rfl
theorem addP_nd {S : List Tm} {p : List Nat} {c : Int} (nd : (S.map (·.1)).Nodup) : ((addP S p c).map (·.1)).Nodup := by
  rw [addP_keys]
  split
  · exact nd
  · rename_i h
    rw [List.nodup_append]
    refine ⟨nd, by simp, fun a ha b hb => ?_⟩
    rw [List.mem_singleton.mp hb]
    rintro rfl
    exact h ha
theorem addP_coef {S : List Tm} {p : List Nat} {c : Int} (q : List Nat) (nd : (S.map (·.1)).Nodup) : coef (addP S p c) q = coef S q + if p = q then c else 0 := by
  unfold addP
  split
  · rename_i h
    exact coef_map q nd h
  · rw [coef_append, coef_cons]
    show coef S q + ((if p = q then c else 0) + coef [] q) = _
    rw [show coef [] q = 0 from rfl]; omega
theorem addP_len (S : List Tm) (p : List Nat) (c : Int) : (addP S p c).length ≤ S.length + 1 := by
  unfold addP; split
  · rw [List.length_map]; omega
  · rw [List.length_append]; exact Nat.le_refl _
theorem acc_snoc (T : List Tm) (t : Tm) : accL (T ++ [t]) = addP (accL T) t.1 t.2 := by simp [accL, List.foldl_append]
theorem list_snoc {α : Type} {C : List α → Prop} (h0 : C []) (hs : ∀ l a, C l → C (l ++ [a])) (l : List α) : C l := by
  have : ∀ l : List α, C l.reverse := fun l => by
    induction l with
    | nil => exact h0
    | cons a l ih => rw [List.reverse_cons]; exact hs _ _ ih
  rw [← List.reverse_reverse l]; exact this _
theorem acc_nd (T : List Tm) : ((accL T).map (·.1)).Nodup := by
  refine list_snoc (C := fun T => ((accL T).map (·.1)).Nodup) ?_ (fun T t ih => ?_) T
  · exact List.nodup_nil
  · rw [acc_snoc]; exact addP_nd ih
theorem acc_coef (T : List Tm) (p : List Nat) : coef (accL T) p = coef T p := by
  refine list_snoc (C := fun T => coef (accL T) p = coef T p) rfl (fun T t ih => ?_) T
  rw [acc_snoc, addP_coef p (acc_nd T), ih, coef_append, coef_cons, show coef [] p = 0 from rfl]; omega
theorem acc_mem (T : List Tm) {p : List Nat} : p ∈ (accL T).map (·.1) → p ∈ T.map (·.1) := by
  refine list_snoc (C := fun T => p ∈ (accL T).map (·.1) → p ∈ T.map (·.1)) (fun h => h) (fun T t ih h => ?_) T
  rw [acc_snoc, addP_keys] at h
  rw [List.map_append, List.mem_append]
  split at h
  · exact .inl (ih h)
  · rcases List.mem_append.mp h with z | z
    · exact .inl (ih z)
    · exact .inr z
theorem acc_len (T : List Tm) : (accL T).length ≤ T.length := by
  refine list_snoc (C := fun T => (accL T).length ≤ T.length) (Nat.le_refl _) (fun T t ih => ?_) T
  rw [acc_snoc, List.length_append]
  have := addP_len (accL T) t.1 t.2
  show _ ≤ T.length + 1
  omega
/-- the normal form of the sum whose coefficients are f -/
structure IsNorm (f : List Nat → Int) (N : List Tm) : Prop where
  ord : N.Pairwise fun a b => plt a.1 b.1
  mem : ∀ p c, (p, c) ∈ N ↔ c = f p ∧ c ≠ 0
theorem IsNorm.one {f : List Nat → Int} {N M : List Tm} (h : IsNorm f N) (k : IsNorm f M) : N = M :=
  uniq (lt := fun a b : Tm => plt a.1 b.1) (fun a b => plt_asy a.1 b.1) N M h.ord k.ord fun x => by obtain ⟨p, c⟩ := x; rw [h.mem, k.mem]
theorem IsNorm.nd {f : List Nat → Int} {N : List Tm} (h : IsNorm f N) : (N.map (·.1)).Nodup := by
  unfold List.Nodup
  rw [List.pairwise_map]
  exact h.ord.imp fun {a b} (z : plt a.1 b.1) (e : a.1 = b.1) => plt_irr b.1 (by rw [e] at z; exact z)
theorem IsNorm.coef {f : List Nat → Int} {N : List Tm} (h : IsNorm f N) (p : List Nat) : FM.coef N p = f p := by
  by_cases c : f p = 0
  · rw [c]
    refine coef_no fun hm => ?_
    obtain ⟨⟨q, d⟩, hq, e⟩ := List.mem_map.mp hm
    have e : q = p := e
    subst e
    obtain ⟨z1, z2⟩ := (h.mem q d).mp hq
    exact z2 (z1.trans c)
  · exact coef_mem h.nd ((h.mem p (f p)).mpr ⟨rfl, c⟩)
/-- any ordered list of what is not zero in the sums -/
theorem norm_of {T : List Tm} {M : List Tm} (hp : M.Perm ((accL T).filter fun t => decide (t.2 ≠ 0))) (ho : M.Pairwise fun a b => ¬ plt b.1 a.1) (htot : ∀ p q : List Nat, p ≠ q → plt p q ∨ plt q p) : IsNorm (FM.coef T) M := by
  have nd : (M.map (·.1)).Nodup := (hp.map (·.1)).nodup_iff.mpr ((acc_nd T).sublist ((List.filter_sublist).map _))
  refine ⟨?_, fun p c => ?_⟩
  · unfold List.Nodup at nd
    rw [List.pairwise_map] at nd
    exact (List.Pairwise.and ho nd).imp fun ⟨z1, z2⟩ => (htot _ _ z2).resolve_right z1
  · rw [hp.mem_iff, List.mem_filter]
    constructor
    · rintro ⟨h1, h2⟩
      rw [← acc_coef, coef_mem (acc_nd T) h1]
      exact ⟨rfl, of_decide_eq_true h2⟩
    · rintro ⟨h1, h2⟩
      refine ⟨?_, decide_eq_true h2⟩
      have hm : p ∈ (accL T).map (·.1) := Decidable.byContradiction fun z => h2 (by rw [h1, ← acc_coef]; exact coef_no z)
      obtain ⟨⟨q, d⟩, hq, e⟩ := List.mem_map.mp hm
      have e : q = p := e
      subst e
      have := coef_mem (acc_nd T) hq
      rw [acc_coef] at this
      rw [h1, this]; exact hq
/-- the value where the places of b are true -/
def vT (T : List Tm) (b : Nat → Bool) : Int := ((T.filter fun t => t.1.all b).map (·.2)).sum
theorem vT_cons (t : Tm) (T : List Tm) (b : Nat → Bool) : vT (t :: T) b = (if t.1.all b = true then t.2 else 0) + vT T b := by
  unfold vT
  rw [List.filter_cons]
  split
  · simp
  · simp
theorem vT_append (A B : List Tm) (b : Nat → Bool) : vT (A ++ B) b = vT A b + vT B b := by
  unfold vT
  rw [List.filter_append, List.map_append, List.sum_append]
theorem sum_perm {l m : List Int} (h : l.Perm m) : l.sum = m.sum := by
  induction h with
  | nil => rfl
  | cons x _ ih => rw [List.sum_cons, List.sum_cons, ih]
  | swap x y l => rw [List.sum_cons, List.sum_cons, List.sum_cons, List.sum_cons]; omega
  | trans _ _ h1 h2 => exact h1.trans h2
theorem vT_perm {A B : List Tm} (h : A.Perm B) (b : Nat → Bool) : vT A b = vT B b := sum_perm ((h.filter _).map _)
theorem vT_nz (A : List Tm) (b : Nat → Bool) : vT (A.filter fun t => decide (t.2 ≠ 0)) b = vT A b := by
  induction A with
  | nil => rfl
  | cons t A ih =>
    by_cases h : t.2 = 0
    · rw [List.filter_cons_of_neg (by simp [h]), vT_cons, ih, h]; simp
    · rw [List.filter_cons_of_pos (by simp [h]), vT_cons, vT_cons, ih]
theorem vT_addP {S : List Tm} {p : List Nat} {c : Int} (b : Nat → Bool) (nd : (S.map (·.1)).Nodup) : vT (addP S p c) b = vT S b + if p.all b = true then c else 0 := by
  unfold addP
  split
  · rename_i hp
    induction S with
    | nil => cases hp
    | cons t S ih =>
      rw [List.map_cons, List.nodup_cons] at nd
      rw [List.map_cons, vT_cons, vT_cons]
      by_cases e : t.1 = p
      · have hn : p ∉ S.map (·.1) := by rw [← e]; exact nd.1
        have same : (S.map fun t => if t.1 = p then (t.1, t.2 + c) else t) = S := by
          conv => rhs; rw [← List.map_id S]
          refine List.map_congr_left fun u hu => ?_
          rw [if_neg (fun z => hn (by rw [← z]; exact List.mem_map.mpr ⟨u, hu, rfl⟩))]; rfl
        rw [same, if_pos e]
        subst e
        show (if t.1.all b = true then t.2 + c else 0) + _ = _
        split <;> omega
      · rw [if_neg e]
        rw [List.map_cons, List.mem_cons] at hp
        rw [ih nd.2 (hp.resolve_left fun z => e z.symm)]; omega
  · rw [vT_append, vT_cons]
    show vT S b + ((if p.all b = true then c else 0) + 0) = _
    omega
theorem vT_acc (T : List Tm) (b : Nat → Bool) : vT (accL T) b = vT T b := by
  refine list_snoc (C := fun T => vT (accL T) b = vT T b) rfl (fun T t ih => ?_) T
  rw [acc_snoc, vT_addP b (acc_nd T), ih, vT_append, vT_cons]
  show vT T b + _ = vT T b + (_ + 0)
  omega
theorem lt_tri : ∀ p q : List Nat, p ≠ q → p < q ∨ q < p
  | [], [], h => absurd rfl h
  | [], b :: q, _ => .inl (List.nil_lt_cons b q)
  | a :: p, [], _ => .inr (List.nil_lt_cons a p)
  | a :: p, b :: q, h => by
    rcases Nat.lt_trichotomy a b with c | c | c
    · exact .inl (List.cons_lt_cons_iff.mpr (.inl c))
    · subst c
      rcases lt_tri p q (fun e => h (by rw [e])) with z | z
      · exact .inl (List.cons_lt_cons_iff.mpr (.inr ⟨rfl, z⟩))
      · exact .inr (List.cons_lt_cons_iff.mpr (.inr ⟨rfl, z⟩))
    · exact .inr (List.cons_lt_cons_iff.mpr (.inl c))
theorem plt_tri (p q : List Nat) (h : p ≠ q) : plt p q ∨ plt q p := by
  rcases Nat.lt_trichotomy p.length q.length with c | c | c
  · exact .inl (.inl c)
  · rcases lt_tri p q h with z | z
    · exact .inl (.inr ⟨c, z⟩)
    · exact .inr (.inr ⟨c.symm, z⟩)
  · exact .inr (.inl c)
theorem plt_trans {p q r : List Nat} (h : plt p q) (k : plt q r) : plt p r := by
  rcases h with h | ⟨h, h2⟩ <;> rcases k with k | ⟨k, k2⟩
  · exact .inl (by omega)
  · exact .inl (by omega)
  · exact .inl (by omega)
  · exact .inr ⟨by omega, List.lt_trans h2 k2⟩
instance (p q : List Nat) : Decidable (plt p q) := by unfold plt; exact inferInstance
def ple (a b : List Nat) : Bool := !decide (plt b a)
theorem ple_trans (a b c : List Nat) (h : ple a b = true) (k : ple b c = true) : ple a c = true := by
  have h' : ¬ plt b a := by simpa [ple] using h
  have k' : ¬ plt c b := by simpa [ple] using k
  have : ¬ plt c a := fun z => by
    by_cases e : a = b
    · subst e; exact k' z
    · rcases plt_tri a b e with y | y
      · exact k' (plt_trans z y)
      · exact h' y
  simpa [ple] using this
theorem ple_total (a b : List Nat) : (ple a b || ple b a) = true := by
  by_cases h : plt b a
  · have := plt_asy _ _ h
    simp [ple, this]
  · simp [ple, h]
/-- the normal form of a sum -/
def nrm (T : List Tm) : List Tm := ((accL T).filter fun t => decide (t.2 ≠ 0)).mergeSort fun a b => ple a.1 b.1
theorem nrm_is (T : List Tm) : IsNorm (coef T) (nrm T) := by
  refine norm_of (List.mergeSort_perm _ _) ?_ plt_tri
  refine (List.pairwise_mergeSort (le := fun a b : Tm => ple a.1 b.1) (fun a b c => ple_trans a.1 b.1 c.1) (fun a b => ple_total a.1 b.1) _).imp fun h => ?_
  simpa [ple] using h
theorem nrm_v (T : List Tm) (b : Nat → Bool) : vT (nrm T) b = vT T b := by
  unfold nrm
  rw [vT_perm (List.mergeSort_perm _ _), vT_nz, vT_acc]
theorem IsNorm.v {T N : List Tm} (h : IsNorm (FM.coef T) N) (b : Nat → Bool) : vT N b = vT T b := by rw [h.one (nrm_is T), nrm_v]
theorem IsNorm.eq {T N : List Tm} (h : IsNorm (FM.coef T) N) : N = nrm T := h.one (nrm_is T)
def negT (T : List Tm) : List Tm := T.map fun t => (t.1, -t.2)
theorem negT_coef (T : List Tm) (p : List Nat) : coef (negT T) p = -coef T p := by
  induction T with
  | nil => rfl
  | cons t T ih =>
    show coef ((t.1, -t.2) :: negT T) p = _
    rw [coef_cons, coef_cons, ih]
    split <;> omega
theorem negT_v (T : List Tm) (b : Nat → Bool) : vT (negT T) b = -vT T b := by
  induction T with
  | nil => rfl
  | cons t T ih =>
    show vT ((t.1, -t.2) :: negT T) b = _
    rw [vT_cons, vT_cons, ih]
    split <;> omega
/-- same coefficients: one normal form -/
theorem nrm_congr {A B : List Tm} (h : ∀ p, coef A p = coef B p) : nrm A = nrm B := by
  refine IsNorm.one (f := coef B) ?_ (nrm_is B)
  have := nrm_is A
  rwa [show coef A = coef B from funext h] at this
theorem nrm_coef (T : List Tm) (p : List Nat) : coef (nrm T) p = coef T p := (nrm_is T).coef p
/-- every product ascends -/
def AscT (n : Nat) (T : List Tm) : Prop := ∀ t ∈ T, t.1.Pairwise (· < ·) ∧ ∀ k ∈ t.1, k < n
theorem nrm_sub {T : List Tm} {t : Tm} (h : t ∈ nrm T) : t.1 ∈ T.map (·.1) ∧ t.2 ≠ 0 := by
  have h1 := (List.mergeSort_perm _ _).mem_iff.mp h
  rw [List.mem_filter] at h1
  exact ⟨acc_mem T (List.mem_map.mpr ⟨t, h1.1, rfl⟩), of_decide_eq_true h1.2⟩
theorem AscT.nrm {n : Nat} {T : List Tm} (h : AscT n T) : AscT n (nrm T) := fun t ht => by
  obtain ⟨u, hu, e⟩ := List.mem_map.mp (nrm_sub ht).1
  rw [← e]; exact h u hu
theorem AscT.append {n : Nat} {A B : List Tm} (h : AscT n A) (k : AscT n B) : AscT n (A ++ B) := fun t ht => (List.mem_append.mp ht).elim (h t) (k t)
theorem AscT.neg {n : Nat} {A : List Tm} (h : AscT n A) : AscT n (negT A) := fun t ht => by
  obtain ⟨u, hu, e⟩ := List.mem_map.mp ht
  rw [← e]; exact h u hu
theorem sub_filter {p q : List Nat} (hq : q.Pairwise (· < ·)) (hp : p.Pairwise (· < ·)) (h : ∀ x ∈ q, x ∈ p) : q = p.filter fun x => decide (x ∈ q) :=
  uniq lt_asy _ _ hq (hp.filter _) fun x => by
    rw [List.mem_filter, decide_eq_true_iff]
    exact ⟨fun z => ⟨h x z, z⟩, fun z => z.2⟩
theorem sub_len {p q : List Nat} (hq : q.Pairwise (· < ·)) (hp : p.Pairwise (· < ·)) (h : ∀ x ∈ q, x ∈ p) : q.length ≤ p.length := by
  rw [sub_filter hq hp h]; exact List.length_filter_le _ _
theorem sub_eq {p q : List Nat} (hq : q.Pairwise (· < ·)) (hp : p.Pairwise (· < ·)) (h : ∀ x ∈ q, x ∈ p) (l : p.length ≤ q.length) : q = p := by
  have e := sub_filter hq hp h
  have l2 := sub_len hq hp h
  have s : (p.filter fun x => decide (x ∈ q)).Sublist p := List.filter_sublist
  rw [← e] at s
  exact s.eq_of_length (by omega)
/-- the value where just the first product's places are true -/
theorem first_v {n : Nat} {T rest : List Tm} {p : List Nat} {c : Int} (ha : AscT n T) (h : nrm T = (p, c) :: rest) : vT T (fun k => decide (k ∈ p)) = c := by
  have o := (nrm_is T).ord
  have an := ha.nrm
  rw [h] at o an
  rw [← nrm_v, h, vT_cons, if_pos (by simp)]
  have z : vT rest (fun k => decide (k ∈ p)) = 0 := by
    unfold vT
    rw [List.filter_eq_nil_iff.mpr ?_]
    · rfl
    · intro t ht hal
      have hs : ∀ x ∈ t.1, x ∈ p := fun x hx => by
        have := List.all_eq_true.mp hal x hx
        exact of_decide_eq_true this
      obtain ⟨a1, _⟩ := an t (List.mem_cons_of_mem _ ht)
      obtain ⟨a2, _⟩ := an (p, c) List.mem_cons_self
      have l1 : t.1.length ≤ p.length := sub_len a1 a2 hs
      have lt : plt p t.1 := (List.pairwise_cons.mp o).1 t ht
      rcases lt with y | ⟨y, y2⟩
      · omega
      · have := sub_eq a1 a2 hs (by show p.length ≤ t.1.length; omega)
        rw [this] at y2
        exact List.lt_irrefl _ y2
  rw [z]; show c + 0 = c; omega
theorem vT_congr {T : List Tm} {b b' : Nat → Bool} (h : ∀ t ∈ T, ∀ k ∈ t.1, b k = b' k) : vT T b = vT T b' := by
  unfold vT
  congr 2
  refine List.filter_congr fun t ht => ?_
  have : ∀ l : List Nat, (∀ k ∈ l, b k = b' k) → l.all b = l.all b' := fun l hl => by
    induction l with
    | nil => rfl
    | cons a l ih => rw [List.all_cons, List.all_cons, hl a List.mem_cons_self, ih fun k hk => hl k (List.mem_cons_of_mem _ hk)]
  exact this _ (h t ht)
/-- the truths of a number -/
def bt (n : Nat) (k : Nat) : Bool := decide (n / 2 ^ k % 2 = 1)
theorem bt_all (b : Nat → Bool) : ∃ n, n < 32 ∧ ∀ k, k < 5 → bt n k = b k := by
  have key : ∀ b0 b1 b2 b3 b4 : Bool, ∃ n, n < 32 ∧ bt n 0 = b0 ∧ bt n 1 = b1 ∧ bt n 2 = b2 ∧ bt n 3 = b3 ∧ bt n 4 = b4 := by
    intro b0 b1 b2 b3 b4
    refine ⟨b0.toNat + 2 * b1.toNat + 4 * b2.toNat + 8 * b3.toNat + 16 * b4.toNat, ?_⟩
    cases b0 <;> cases b1 <;> cases b2 <;> cases b3 <;> cases b4 <;> decide
  obtain ⟨n, h, h0, h1, h2, h3, h4⟩ := key (b 0) (b 1) (b 2) (b 3) (b 4)
  refine ⟨n, h, fun k hk => ?_⟩
  match k, hk with
  | 0, _ => exact h0
  | 1, _ => exact h1
  | 2, _ => exact h2
  | 3, _ => exact h3
  | 4, _ => exact h4
theorem coef_sub (A B : List Tm) (p : List Nat) : coef (A ++ negT B) p = coef A p - coef B p := by rw [coef_append, negT_coef]; omega
theorem v_sub (A B : List Tm) (b : Nat → Bool) : vT (A ++ negT B) b = vT A b - vT B b := by rw [vT_append, negT_v]; omega
theorem nrm_sub_nil {A B : List Tm} : nrm (A ++ negT B) = [] ↔ nrm A = nrm B := by
  constructor
  · intro h
    refine nrm_congr fun p => ?_
    have := nrm_coef (A ++ negT B) p
    rw [h, coef_sub, show coef [] p = 0 from rfl] at this
    omega
  · intro h
    have z : ∀ p, coef (A ++ negT B) p = coef [] p := fun p => by
      rw [coef_sub, ← nrm_coef A, ← nrm_coef B, h, show coef [] p = 0 from rfl]; omega
    rw [nrm_congr z]
    simp [nrm, accL]
/-- equal under all truths: one normal form -/
theorem equal_iff {A B : List Tm} (ha : AscT 5 A) (hb : AscT 5 B) : (∀ n, n < 32 → vT A (bt n) = vT B (bt n)) ↔ nrm A = nrm B := by
  constructor
  · intro h
    rw [← nrm_sub_nil]
    cases e : nrm (A ++ negT B) with
    | nil => rfl
    | cons t rest =>
      obtain ⟨p, c⟩ := t
      exfalso
      have hab := ha.append hb.neg
      have f := first_v hab e
      obtain ⟨n, hn, hk⟩ := bt_all fun k => decide (k ∈ p)
      have g : vT (A ++ negT B) (bt n) = c := by
        rw [← f]
        exact vT_congr fun t ht k hk2 => hk k ((hab t ht).2 k hk2)
      rw [v_sub, h n hn] at g
      have := (nrm_sub (T := A ++ negT B) (t := (p, c)) (by rw [e]; exact List.mem_cons_self)).2
      exact this (by show c = 0; omega)
  · intro h n _
    rw [← nrm_v A, ← nrm_v B, h]
theorem nrm_neg (X : List Tm) : nrm (negT X) = negT (nrm X) := by
  refine IsNorm.one (nrm_is (negT X)) ⟨?_, fun p c => ?_⟩
  · unfold negT
    rw [List.pairwise_map]
    exact (nrm_is X).ord
  · rw [negT_coef]
    constructor
    · intro h
      obtain ⟨t, ht, e⟩ := List.mem_map.mp h
      obtain ⟨z1, z2⟩ := ((nrm_is X).mem t.1 t.2).mp ht
      have e1 : t.1 = p := congrArg (·.1) e
      have e2 : -t.2 = c := congrArg (·.2) e
      rw [← e1, ← e2, ← z1]
      exact ⟨rfl, by omega⟩
    · rintro ⟨h1, h2⟩
      have m := ((nrm_is X).mem p (-c)).mpr ⟨by omega, by omega⟩
      exact List.mem_map.mpr ⟨(p, -c), m, by simp⟩
theorem sub_flip (A B : List Tm) : nrm (B ++ negT A) = negT (nrm (A ++ negT B)) := by
  rw [← nrm_neg]
  refine nrm_congr fun p => ?_
  rw [coef_sub, negT_coef, coef_sub]
  omega
theorem sub_nrm (A B : List Tm) : nrm (nrm A ++ negT (nrm B)) = nrm (A ++ negT B) := nrm_congr fun p => by rw [coef_sub, coef_sub, nrm_coef, nrm_coef]
end FM
set_option maxRecDepth 100000
set_option maxHeartbeats 4000000
/-! The pool of signs and its order; nested keys of signs, products, terms. -/
namespace KP
open PySem PySem.Spec PyProof.Rows L2 KT FS FD PySem.W
def at' (G : List Sg) (i : Nat) : Sg := G.getD i (⟨#[]⟩, ⟨#[]⟩, [])
/-- the signs of the law, ascending -/
structure Pool (G : List Sg) : Prop where
  pos : 1 ≤ G.length
  len : G.length ≤ 5
  cs : ∀ i, (at' G i).2.2.length ≤ 10
  lt : ∀ i j, i < j → j < G.length → dataLt (encL (at' G i)) (encL (at' G j)) = true
theorem alikeAll_rk : ∀ a b : List (Option Int), alikeAll (a.map fun o => dP (rk o)) (b.map fun o => dP (rk o)) = true
  | [], _ => by simp [alikeAll]
  | _ :: _, [] => by simp [alikeAll]
  | x :: a, y :: b => by
    rw [List.map_cons, List.map_cons, alikeAll, alikeAll_rk a b]
    simp [dP, alike, alikeAll]
theorem alike_encL (g g' : Sg) : alike (encL g) (encL g') = true := by
  simp only [encL, alike, alikeAll, alikeAll_rk, Bool.and_self]
theorem alike_encT (g g' : Sg) : alike (encT g) (encT g') = true := by
  simp only [encT, alike, alikeAll, alikeAll_rk, Bool.and_self]
theorem encTL (g g' : Sg) : dataLt (encT g) (encT g') = dataLt (encL g) (encL g') := by
  unfold encT encL
  rw [dataLt_tuple, dataLt_list]
  simp only [keyToksAll, keyToks]
theorem dle {β : Type} (k : β → PyData) (a b : β) : dataLe false k a b = !dataLt (k b) (k a) := by rw [dataLe_eq]; rfl
theorem lt_irr (d : PyData) : dataLt d d = false := lex_irrefl _
theorem lt_asym {d e : PyData} (h : dataLt d e = true) : dataLt e d = false := by
  cases c : dataLt e d with
  | false => rfl
  | true =>
    have := lex_trans _ _ _ h c
    rw [lex_irrefl] at this
    cases this
theorem eqvAll_rk : ∀ a b : List (Option Int), PyData.eqvAll (a.map fun o => dP (rk o)) (b.map fun o => dP (rk o)) = true → a = b
  | [], [], _ => rfl
  | [], _ :: _, h => by simp [PyData.eqvAll] at h
  | _ :: _, [], h => by simp [PyData.eqvAll] at h
  | x :: a, y :: b, h => by
    rw [List.map_cons, List.map_cons, PyData.eqvAll, Bool.and_eq_true, eq_dP] at h
    obtain ⟨h1, h2⟩ := h
    have : x = y := by cases x <;> cases y <;> simp [rk] at h1 <;> simp [h1]
    rw [this, eqvAll_rk a b h2]
theorem eqv_encL {g g' : Sg} (h : PyData.eqv (encL g) (encL g') = true) : g = g' := by
  obtain ⟨a, b, c⟩ := g
  obtain ⟨a', b', c'⟩ := g'
  simp only [encL, PyData.eqv, PyData.eqvAll, Bool.and_eq_true, Bool.and_true] at h
  obtain ⟨h1, h2, h3⟩ := h
  have e1 : a = a' := by simpa using h1
  have e2 : b = b' := by simpa using h2
  rw [e1, e2, eqvAll_rk c c' h3]
theorem tri_encL {g g' : Sg} (h : g ≠ g') : dataLt (encL g) (encL g') = true ∨ dataLt (encL g') (encL g) = true := by
  cases c1 : dataLt (encL g) (encL g') with
  | true => exact .inl rfl
  | false =>
    cases c2 : dataLt (encL g') (encL g) with
    | true => exact .inr rfl
    | false =>
      exfalso
      have e := lex_total _ _ c1 c2
      cases q : PyData.eqv (encL g) (encL g') with
      | true => exact h (eqv_encL q)
      | false =>
        have z := (toks_eqv _ _ (alike_encL g g')).2 q [] [.inl 0]
        rw [e, lex_pre, lex_irrefl] at z
        exact absurd (show true = false from z) (by decide)
theorem Pool.inj {G : List Sg} (p : Pool G) {i j : Nat} (hi : i < G.length) (hj : j < G.length) (e : at' G i = at' G j) : i = j := by
  rcases Nat.lt_trichotomy i j with c | c | c
  · have := p.lt i j c hj
    rw [e, lt_irr] at this; cases this
  · exact c
  · have := p.lt j i c hi
    rw [e, lt_irr] at this; cases this
theorem Pool.ltI {G : List Sg} (p : Pool G) {i j : Nat} (hi : i < G.length) (hj : j < G.length) : dataLt (encL (at' G i)) (encL (at' G j)) = decide (i < j) := by
  rcases Nat.lt_trichotomy i j with c | c | c
  · rw [p.lt i j c hj, decide_eq_true c]
  · subst c; rw [lt_irr, decide_eq_false (Nat.lt_irrefl _)]
  · rw [lt_asym (p.lt j i c hi), decide_eq_false (by omega)]
theorem Pool.eqv {G : List Sg} (p : Pool G) {i j : Nat} (hi : i < G.length) (hj : j < G.length) : PyData.eqv (encL (at' G i)) (encL (at' G j)) = decide (i = j) := by
  by_cases c : i = j
  · subst c; rw [eqv_refl_alike _ (alike_encL _ _)]; simp
  · rw [decide_eq_false c]
    cases q : PyData.eqv (encL (at' G i)) (encL (at' G j)) with
    | false => rfl
    | true => exact absurd (p.inj hi hj (eqv_encL q)) c
/-- rows of places, by any faithful code of places -/
theorem lex_rows {n : Nat} {e : Nat → PyData} (al : ∀ i j, alike (e i) (e j) = true) (lt : ∀ i j, i < n → j < n → dataLt (e i) (e j) = decide (i < j)) (eq : ∀ i j, i < n → j < n → PyData.eqv (e i) (e j) = decide (i = j)) :
    ∀ p q : List Nat, (∀ k ∈ p, k < n) → (∀ k ∈ q, k < n) → lexLt itemOrd (keyToksAll (p.map e)) (keyToksAll (q.map e)) = decide (p < q)
  | [], [], _, _ => by
    rw [decide_eq_false (List.lt_irrefl _)]; exact lex_irrefl _
  | [], b :: q, _, _ => by
    rw [decide_eq_true (List.nil_lt_cons b q), List.map_cons, List.map_nil, toks_all_cons]
    simp only [keyToksAll]
    rw [lex_diff (by simp)]
    rfl
  | a :: p, [], _, _ => by
    rw [decide_eq_false (List.not_lt_nil _), List.map_cons, List.map_nil, toks_all_cons]
    simp only [keyToksAll]
    rw [lex_diff (by simp)]
    rfl
  | a :: p, b :: q, hp, hq => by
    have ha := hp a List.mem_cons_self
    have hb := hq b List.mem_cons_self
    rw [List.map_cons, List.map_cons]
    by_cases c : a = b
    · subst c
      rw [dataLt_all_yes (al a a) (by rw [eq a a ha ha]; simp), lex_rows al lt eq p q (fun k hk => hp k (List.mem_cons_of_mem _ hk)) fun k hk => hq k (List.mem_cons_of_mem _ hk)]
      exact decide_eq_decide.mpr (by rw [List.cons_lt_cons_iff]; exact ⟨fun z => .inr ⟨rfl, z⟩, fun z => z.elim (fun y => absurd y (Nat.lt_irrefl _)) fun y => y.2⟩)
    · rw [dataLt_all_no (al a b) (by rw [eq a b ha hb]; exact decide_eq_false c), lt a b ha hb]
      exact decide_eq_decide.mpr (by rw [List.cons_lt_cons_iff]; exact ⟨fun z => .inl z, fun z => z.elim id fun y => absurd y.1 c⟩)
/-- a product's rank: by the program, by the law -/
def encP (G : List Sg) (p : List Nat) : PyData := .list [.int p.length, .list (p.map fun k => encL (at' G k))]
def encQ (p : List Nat) : PyData := .tuple [.int p.length, .tuple (p.map fun (k : Nat) => PyData.int k)]
theorem alikeAll_map {e : Nat → PyData} (al : ∀ i j, alike (e i) (e j) = true) : ∀ p q : List Nat, alikeAll (p.map e) (q.map e) = true
  | [], _ => by simp [alikeAll]
  | _ :: _, [] => by simp [alikeAll]
  | a :: p, b :: q => by rw [List.map_cons, List.map_cons, alikeAll, al, alikeAll_map al p q]; rfl
theorem alike_encP (G : List Sg) (p q : List Nat) : alike (encP G p) (encP G q) = true := by
  simp only [encP, alike, alikeAll, alikeAll_map fun i j => alike_encL (at' G i) (at' G j), Bool.and_self]
theorem alike_encQ (p q : List Nat) : alike (encQ p) (encQ q) = true := by
  simp only [encQ, alike, alikeAll, alikeAll_map (e := fun (k : Nat) => PyData.int k) fun i j => by simp [alike], Bool.and_self]
theorem lex_two {a b : Int} {x y : PyData} (h : alike x y = true) (r : Bool) (hr : dataLt x y = r) : lexLt itemOrd (keyToksAll [.int a, x]) (keyToksAll [.int b, y]) = (decide (a < b) || (decide (a = b) && r)) := by
  have al : alike (.int a) (.int b) = true := by simp [alike]
  by_cases c : a = b
  · subst c
    rw [dataLt_all_yes al (by simp [PyData.eqv])]
    cases q : PyData.eqv x y with
    | true =>
      rw [dataLt_all_yes h q, lex_irrefl]
      have : dataLt x y = false := by unfold dataLt; rw [(toks_eqv x y h).1 q, lex_irrefl]
      rw [← hr, this]; simp
    | false => rw [dataLt_all_no h q, hr]; simp
  · rw [dataLt_all_no al (by simp [PyData.eqv, c]), dataLt_int, decide_eq_false c]; simp
theorem ltP {G : List Sg} (P : Pool G) {p q : List Nat} (hp : ∀ k ∈ p, k < G.length) (hq : ∀ k ∈ q, k < G.length) : dataLt (encP G p) (encP G q) = decide (FM.plt p q) := by
  unfold encP
  rw [dataLt_list, lex_two (r := decide (p < q)) (by simp only [alike, alikeAll_map fun i j => alike_encL (at' G i) (at' G j)])]
  · rw [Bool.eq_iff_iff]
    have e1 : ((p.length : Int) < q.length) ↔ p.length < q.length := by omega
    have e2 : ((p.length : Int) = q.length) ↔ p.length = q.length := by omega
    simp only [Bool.or_eq_true, Bool.and_eq_true, decide_eq_true_eq, FM.plt, e1, e2]
    exact decide_eq_true_iff.symm
  · rw [dataLt_list]
    exact lex_rows (n := G.length) (e := fun k => encL (at' G k)) (fun i j => alike_encL _ _) (fun i j => P.ltI) (fun i j => P.eqv) p q hp hq
theorem ltQ {p q : List Nat} : dataLt (encQ p) (encQ q) = decide (FM.plt p q) := by
  unfold encQ
  rw [dataLt_tuple, lex_two (r := decide (p < q)) (by simp only [alike, alikeAll_map (e := fun (k : Nat) => PyData.int k) fun i j => by simp [alike]])]
  · rw [Bool.eq_iff_iff]
    have e1 : ((p.length : Int) < q.length) ↔ p.length < q.length := by omega
    have e2 : ((p.length : Int) = q.length) ↔ p.length = q.length := by omega
    simp only [Bool.or_eq_true, Bool.and_eq_true, decide_eq_true_eq, FM.plt, e1, e2]
    exact decide_eq_true_iff.symm
  · rw [dataLt_tuple]
    obtain ⟨n, hn⟩ : ∃ n, ∀ k ∈ p ++ q, k < n := by
      refine ⟨(p ++ q).foldl max 0 + 1, fun k hk => ?_⟩
      have : ∀ (l : List Nat) (m : Nat), m ≤ l.foldl max m ∧ ∀ k ∈ l, k ≤ l.foldl max m := fun l => by
        induction l with
        | nil => intro m; exact ⟨Nat.le_refl _, fun k hk => nomatch hk⟩
        | cons a l ih =>
          intro m
          obtain ⟨z1, z2⟩ := ih (max m a)
          refine ⟨by show m ≤ l.foldl max (max m a); omega, fun k hk => ?_⟩
          show k ≤ l.foldl max (max m a)
          rcases List.mem_cons.mp hk with y | y
          · omega
          · exact z2 k y
      have := (this _ 0).2 k hk
      omega
    exact lex_rows (n := n) (e := fun (k : Nat) => PyData.int k) (fun i j => by simp [alike]) (fun i j _ _ => by rw [dataLt_int]; exact decide_eq_decide.mpr (by omega)) (fun i j _ _ => by rw [Bool.eq_iff_iff]; simp [PyData.eqv]; omega) p q
      (fun k hk => hn k (List.mem_append_left _ hk)) fun k hk => hn k (List.mem_append_right _ hk)
end KP
set_option maxRecDepth 100000
set_option maxHeartbeats 4000000
/-! Nested keys of signs and products; a walk over a list or a tuple; ascending. -/
namespace KP
open PySem PySem.Spec PyProof.Rows L2 KT FS FD
def cK : Option Int → NestedKey
  | none => .none
  | some i => .num i
def sgK (g : Sg) : NestedKey := .tup [.text g.1, .text g.2.1, .tup (g.2.2.map cK)]
def prK (G : List Sg) (p : List Nat) : NestedKey := .tup (p.map fun k => sgK (at' G k))
def tmK (G : List Sg) (t : FM.Tm) : NestedKey := .tup [prK G t.1, .num t.2]
def tsK (G : List Sg) (N : List FM.Tm) : NestedKey := .tup (N.map (tmK G))
theorem cK_inj : ∀ {a b : Option Int}, cK a = cK b → a = b
  | none, none, _ => rfl
  | none, some _, h => by cases h
  | some _, none, h => by cases h
  | some a, some b, h => by cases h; rfl
theorem map_inj' {α β : Type} {f : α → β} (h : ∀ a b, f a = f b → a = b) : ∀ {A B : List α}, A.map f = B.map f → A = B
  | [], [], _ => rfl
  | [], _ :: _, e => by simp at e
  | _ :: _, [], e => by simp at e
  | a :: A, b :: B, e => by
    rw [List.map_cons, List.map_cons, List.cons.injEq] at e
    rw [h a b e.1, map_inj' h e.2]
theorem sgK_inj {g g' : Sg} (h : sgK g = sgK g') : g = g' := by
  obtain ⟨a, b, c⟩ := g
  obtain ⟨a', b', c'⟩ := g'
  simp only [sgK, NestedKey.tup.injEq, List.cons.injEq, NestedKey.text.injEq, and_true] at h
  obtain ⟨h1, h2, h3⟩ := h
  rw [h1, h2, map_inj' (fun _ _ => cK_inj) h3]
theorem depthAll_le {n : Nat} : ∀ {l : List NestedKey}, (∀ k ∈ l, k.depth ≤ n) → NestedKey.depthAll l ≤ n
  | [], _ => by simp [NestedKey.depthAll]
  | k :: l, h => by
    simp only [NestedKey.depthAll]
    have h1 := h k List.mem_cons_self
    have h2 := depthAll_le fun k hk => h k (List.mem_cons_of_mem _ hk)
    omega
theorem sgK_depth (g : Sg) : (sgK g).depth ≤ 2 := by
  have h : NestedKey.depthAll (g.2.2.map cK) ≤ 0 := depthAll_le fun k hk => by
    obtain ⟨o, _, rfl⟩ := List.mem_map.mp hk
    cases o <;> simp [cK, NestedKey.depth]
  simp only [sgK, NestedKey.depth, NestedKey.depthAll]
  omega
theorem prK_depth (G : List Sg) (p : List Nat) : (prK G p).depth ≤ 3 := by
  have h : NestedKey.depthAll (p.map fun k => sgK (at' G k)) ≤ 2 := depthAll_le fun k hk => by
    obtain ⟨o, _, rfl⟩ := List.mem_map.mp hk
    exact sgK_depth _
  simp only [prK, NestedKey.depth]
  omega
theorem prK_inj {G : List Sg} (P : Pool G) : ∀ {p q : List Nat}, (∀ k ∈ p, k < G.length) → (∀ k ∈ q, k < G.length) → prK G p = prK G q → p = q := by
  intro p q hp hq h
  unfold prK at h
  rw [NestedKey.tup.injEq] at h
  induction p generalizing q with
  | nil => cases q with
    | nil => rfl
    | cons b q => simp at h
  | cons a p ih => cases q with
    | nil => simp at h
    | cons b q =>
      rw [List.map_cons, List.map_cons, List.cons.injEq] at h
      rw [P.inj (hp a List.mem_cons_self) (hq b List.mem_cons_self) (sgK_inj h.1), ih (fun k hk => hp k (List.mem_cons_of_mem _ hk)) (fun k hk => hq k (List.mem_cons_of_mem _ hk)) h.2]
/-! keys and lists -/
section
variable {H : Hp}
theorem kis_map {α : Type} {f : α → NestedKey} : ∀ {L : List (V × α)}, (∀ x ∈ L, KI H x.1 (f x.2)) → KIs H (L.map fun x => x.1) (L.map fun x => f x.2)
  | [], _ => .nil
  | x :: L, h => .cons (h x List.mem_cons_self) (kis_map fun y hy => h y (List.mem_cons_of_mem _ hy))
theorem kis_of {α : Type} {f : α → NestedKey} : ∀ {A : List α} {vs : List V}, KIs H vs (A.map f) → ∃ L : List (V × α), L.map (fun x => x.1) = vs ∧ L.map (fun x => x.2) = A ∧ ∀ x ∈ L, KI H x.1 (f x.2)
  | [], _, h => by cases h; exact ⟨[], rfl, rfl, fun _ h => nomatch h⟩
  | a :: A, _, h => by
    rw [List.map_cons] at h
    cases h with
    | cons h1 h2 =>
      obtain ⟨L, e1, e2, h3⟩ := kis_of h2
      refine ⟨(_, a) :: L, by rw [List.map_cons, e1], by rw [List.map_cons, e2], fun x hx => ?_⟩
      rcases List.mem_cons.mp hx with z | z
      · rw [z]; exact h1
      · exact h3 x z
theorem ki_tup {v : V} {ks : List NestedKey} (h : KI H v (.tup ks)) : ∃ a vs, v = .ref a ∧ H a = some (.tup vs) ∧ KIs H vs ks := by
  cases h with
  | tup h1 h2 => exact ⟨_, _, rfl, h1, h2⟩
theorem kis_cs : ∀ cs : List (Option Int), KIs H (cs.map eV) (cs.map cK)
  | [] => .nil
  | none :: cs => .cons .non (kis_cs cs)
  | some i :: cs => .cons (.int i) (kis_cs cs)
theorem cs_kis : ∀ {cs : List (Option Int)} {vs : List V}, KIs H vs (cs.map cK) → vs = cs.map eV
  | [], _, h => by cases h; rfl
  | none :: cs, _, h => by
    rw [List.map_cons] at h
    cases h with
    | cons h1 h2 => cases h1; rw [cs_kis h2]; rfl
  | some i :: cs, _, h => by
    rw [List.map_cons] at h
    cases h with
    | cons h1 h2 => cases h1; rw [cs_kis h2]; rfl
theorem IsSg.ki {v : V} {g : Sg} (h : IsSg H v g) : KI H v (sgK g) := by
  obtain ⟨a, c, rfl, h1, h2⟩ := h
  exact .tup h1 (.cons (.str _) (.cons (.str _) (.cons (.tup h2 (kis_cs _)) .nil)))
theorem sg_of {v : V} {g : Sg} (h : KI H v (sgK g)) : IsSg H v g := by
  obtain ⟨a, vs, rfl, h1, h2⟩ := ki_tup h
  cases h2 with
  | cons q1 q2 =>
    cases q2 with
    | cons q3 q4 =>
      cases q4 with
      | cons q5 q6 =>
        cases q6
        cases q1
        cases q3
        obtain ⟨c, ws, rfl, h3, h4⟩ := ki_tup q5
        rw [cs_kis h4] at h3
        exact ⟨a, c, rfl, h1, h3⟩
end
/-- signs of the pool, with their places -/
def SgA (G : List Sg) (H : Hp) (L : List (V × Nat)) : Prop := ∀ x ∈ L, IsSg H x.1 (at' G x.2) ∧ x.2 < G.length
theorem SgA.same {G : List Sg} {H H' : Hp} {L : List (V × Nat)} (h : SgA G H L) (s : Same H H') : SgA G H' L := fun x hx => ⟨(h x hx).1.same s, (h x hx).2⟩
theorem SgA.but {G : List Sg} {H H' : Hp} {L : List (V × Nat)} {d : Addr} {o : HO} (h : SgA G H L) (b : But d H H') (hd : H d = some o) (n : ∀ xs, o ≠ .tup xs) : SgA G H' L := fun x hx => ⟨(h x hx).1.but b hd n, (h x hx).2⟩
/-! a list or a tuple -/
def SqA (K : PySem.W.Frag) (H : Hp) (a : Addr) (xs : List V) : Prop := SqL K H a xs ∨ SqT K H a xs
theorem SqA.same {K : PySem.W.Frag} {H H' : Hp} {a : Addr} {xs : List V} (h : SqA K H a xs) (s : Same H H') : SqA K H' a xs := h.elim (fun z => .inl (sqL_same z s)) fun z => .inr (sqT_same z s)
def iSeqA (K : PySem.W.Frag) (tl : TE) : TI := fun σ H R => tl σ H fun v H1 => ∃ a xs, v = V.ref a ∧ SqA K H1 a xs ∧ ∀ J, Walk J xs.length (fun H2 => Same H1 H2) (YAt xs) → R J H1
theorem pi_seqA {X : Cx} {tg l : Expr} {tl : TE} (hl : PE X l tl) : PI X tg l (iSeqA X.K tl) := by
  constructor
  intro pins s σ H R I want
  refine thn (hl.run pins s σ H _ I want) fun u s1 ⟨x, H1, J, rx, a, xs, ex, hq, q⟩ => ?_
  subst ex
  obtain rfl : u = Value.ref a := rx
  rcases hq with h | h
  · obtain ⟨its, rv, pl, hz⟩ := J.list h
    exact wpAny_pyIter_list pl.isList (pi_one (tk := s1.toks) J _ (turn_list a _) ⟨_, Heap.get?_push_size _ rfl, rfl, rfl⟩ (q _ (walk_list.mono (fun H2 s2 => sqL_same h s2) fun _ _ _ _ _ _ y => y)))
  · obtain ⟨its, rv, pl, hz⟩ := J.tuple h
    exact wpAny_pyIter_tuple (show s1.heap.IsTuple a its.toArray from pl) (pi_one (tk := s1.toks) J _ (turn_tuple a _) ⟨_, Heap.get?_push_size _ rfl, rfl, rfl⟩ (q _ (walk_tup.mono (fun H2 s2 => sqT_same h s2) fun _ _ _ _ _ _ y => y)))
/-- tuple(xs) of a list or a tuple -/
theorem cr_tupA {X : Cx} : CallR X (.type "tuple") (fun vs H Q => ∃ a xs, vs = [.ref a] ∧ SqA X.K H a xs ∧ ∀ t H1, Same H H1 → SqT X.K H1 t xs → Q (.ref t) H1) := by
  intro pins s σ H vs us Q I r h
  obtain ⟨a, xs, e, hq, q⟩ := h
  exact call_tuple_of pins s σ H vs us Q I r ⟨a, xs, e, hq.elim (fun h => .inl ⟨h, fun l hl => q l _ (fun b u e => by rw [upd_ne (ne_of_none e hl)]; exact e) (SqT.of upd_same)⟩) fun h => .inr ⟨h, q a H (Same.refl _) h⟩⟩
end KP
set_option maxRecDepth 100000
set_option maxHeartbeats 4000000
/-! ascending. -/
namespace KP
open PySem PySem.Spec PyProof.Rows L2 KT FS FD
open FM (asc)
/-- the dict of signs: their tuples and places -/
def sgE (G : List Sg) (ds : List (Addr × Nat)) : List NE := ds.map fun d => (sgK (at' G d.2), d.1, V.bl true)
structure SgD (G : List Sg) (H : Hp) (ds : List (Addr × Nat)) (ks : List Nat) : Prop where
  sg : ∀ d ∈ ds, IsSg H (.ref d.1) (at' G d.2) ∧ d.2 < G.length
  nd : (ds.map fun d => d.2).Nodup
  mem : ∀ k, k ∈ ds.map (fun d => d.2) ↔ k ∈ ks
theorem SgD.keys {G : List Sg} {H : Hp} {ds : List (Addr × Nat)} {ks : List Nat} (h : SgD G H ds ks) : NKeys H (sgE G ds) := fun e he => by
  obtain ⟨d, hd, rfl⟩ := List.mem_map.mp he
  have := sgK_depth (at' G d.2)
  exact ⟨(h.sg d hd).1.ki, by show (sgK (at' G d.2)).depth ≤ 8; omega⟩
theorem nval_sg {G : List Sg} (P : Pool G) {k : Nat} (hk : k < G.length) : ∀ {ds : List (Addr × Nat)}, (∀ d ∈ ds, d.2 < G.length) → (nval (sgE G ds) (sgK (at' G k))).isSome = decide (k ∈ ds.map fun d => d.2)
  | [], _ => by simp [nval, sgE]
  | d :: ds, h => by
    have ih := nval_sg P hk (ds := ds) fun x hx => h x (List.mem_cons_of_mem _ hx)
    by_cases e : d.2 = k
    · have : decide (sgK (at' G d.2) = sgK (at' G k)) = true := by rw [e]; simp
      simp [nval, sgE, List.find?_cons, this, e]
    · have : decide (sgK (at' G d.2) = sgK (at' G k)) = false := decide_eq_false fun z => e (P.inj (h d List.mem_cons_self) hk (sgK_inj z))
      unfold nval sgE at ih ⊢
      rw [List.map_cons, List.find?_cons, this]
      simp only
      rw [ih]
      exact decide_eq_decide.mpr (by rw [List.map_cons, List.mem_cons]; exact ⟨.inr, fun z => z.resolve_left fun y => e y.symm⟩)
theorem sgE_put {G : List Sg} (P : Pool G) {H : Hp} {ds : List (Addr × Nat)} {ks : List Nat} {k : Nat} {b : Addr} (h : SgD G H ds ks) (hk : k < G.length) (hb : IsSg H (.ref b) (at' G k)) :
    ∃ ds', nput (sgE G ds) (sgK (at' G k)) b (.bl true) = sgE G ds' ∧ SgD G H ds' (ks ++ [k]) ∧ ds'.length ≤ ds.length + 1 := by
  unfold nput
  rw [nval_sg P hk fun d hd => (h.sg d hd).2]
  by_cases c : k ∈ ds.map fun d => d.2
  · refine ⟨ds, ?_, ⟨h.sg, h.nd, fun j => ?_⟩, Nat.le_succ _⟩
    · rw [decide_eq_true c, if_pos rfl]
      unfold sgE
      rw [List.map_map]
      refine List.map_congr_left fun d _ => ?_
      show (if sgK (at' G d.2) = sgK (at' G k) then (sgK (at' G d.2), d.1, V.bl true) else (sgK (at' G d.2), d.1, V.bl true)) = _
      split <;> rfl
    · rw [h.mem j, List.mem_append, List.mem_singleton]
      exact ⟨.inl, fun z => z.elim id fun y => by rw [y]; exact (h.mem k).mp c⟩
  · refine ⟨ds ++ [(b, k)], ?_, ⟨fun d hd => ?_, ?_, fun j => ?_⟩, by rw [List.length_append]; exact Nat.le_refl _⟩
    · rw [decide_eq_false c, if_neg Bool.false_ne_true]
      unfold sgE
      rw [List.map_append]
      rfl
    · rcases List.mem_append.mp hd with z | z
      · exact h.sg d z
      · rw [List.mem_singleton.mp z]; exact ⟨hb, hk⟩
    · rw [List.map_append, List.nodup_append]
      refine ⟨h.nd, by simp, fun a ha x hx => ?_⟩
      rw [List.mem_singleton.mp hx]
      rintro rfl
      exact c ha
    · rw [List.map_append, List.mem_append, List.mem_append, h.mem j]
      simp
theorem SgD.same {G : List Sg} {H H' : Hp} {ds : List (Addr × Nat)} {ks : List Nat} (h : SgD G H ds ks) (s : Same H H') : SgD G H' ds ks := ⟨fun d hd => ⟨(h.sg d hd).1.same s, (h.sg d hd).2⟩, h.nd, h.mem⟩
theorem SgD.but {G : List Sg} {H H' : Hp} {ds : List (Addr × Nat)} {ks : List Nat} {D : Addr} {o : HO} (h : SgD G H ds ks) (b : But D H H') (hd : H D = some o) (n : ∀ xs, o ≠ .tup xs) : SgD G H' ds ks := ⟨fun d hd2 => ⟨(h.sg d hd2).1.but b hd n, (h.sg d hd2).2⟩, h.nd, h.mem⟩
structure SrD (K : PySem.W.Frag) (mg : Str → Option Value) (P : Program) (w : World) (base : Heap) (f : Addr) (fd : FuncData) : Prop where
  ok : FnOk P w K mg base CX0 3 f fd ["sign"] spSignRank
  m : mg "sign_rank" = some (.ref f)
  k : PySem.W.keepIn K (.ref f) = true
  b : Binds K fd ["sign"] []
theorem sort_places {G : List Sg} (P : Pool G) {α : Type} {L : List (α × Nat)} (hb : ∀ x ∈ L, x.2 < G.length) : ((L.mergeSort (PySem.W.dataLe false fun z => encL (at' G z.2))).map fun z => z.2) = (L.map fun z => z.2).mergeSort fun i j => decide (i ≤ j) :=
  PySem.W.sort_maps (fun z : α × Nat => z.2) fun a ha b hb2 => by
    rw [dle, P.ltI (hb b hb2) (hb a ha), Bool.eq_iff_iff]
    simp
def spAsc (K : PySem.W.Frag) (G : List Sg) : Sp := fun vs H Q _ => ∃ (a : Addr) (L : List (V × Nat)), vs = [.ref a] ∧ SqA K H a (L.map fun z => z.1) ∧ SgA G H L ∧ L.length ≤ 900 ∧
  ∀ p M H', Same H H' → H p = none → H' p = some (.lst (M.map fun z => z.1)) → SgA G H' M → M.map (fun z => z.2) = asc G.length (L.map fun z => z.2) → Q (.ref p) H'
section
variable {P : Program} {w : World} {K : PySem.W.Frag} {mg : Str → Option Value} {base : Heap}
theorem ok_asc {G : List Sg} (PG : Pool G) {f fs : Addr} {fd fds : FuncData} (F : Fun K "ascending" "ascending" sAscending f fd) (B : Blt mg) (R : SrD K mg P w base fs fds) : FnOk P w K mg base CX0 6 f fd ["signs"] (spAsc K G) := by
  refine F.ok scAscending (fun vs H Q E h => ?_) (fun cdv A outer s H vs Q E hr h => ?_)
  · obtain ⟨_, _, rfl, _⟩ := h
    rfl
  · obtain ⟨a, L, rfl, hS, hA, hl, q⟩ := h
    refine ⟨_, pss_one (ps_ret (pe_callBK (cr_sortBy (β := Nat) (R := fun H v k => IsSg H v (at' G k) ∧ k < G.length) (enc := fun k => encL (at' G k)) R.ok R.b hr rfl (fun _ _ _ _ s1 z => ⟨z.1.same s1, z.2⟩)
        (fun H1 v k z => ⟨v, at' G k, rfl, z.1, by have := PG.cs k; omega, fun l p H' s1 _ _ y => ⟨s1, y.dp⟩⟩) (fun _ _ => alike_encL _ _) (.inr fun k => ⟨(fun z => by cases z), fun xs z => by cases z⟩) (fun k => by
          have : PyData.depthAll ((at' G k).2.2.map fun o => dP (rk o)) ≤ 1 := by
            have := (layAll_map (enc := fun o : Option Int => dP (rk o)) (k := 1) (fun o => lay_dP (rk o)) (at' G k).2.2).2
            exact this
          simp only [encL, PyData.depth, PyData.depthAll]
          omega))
      (by rfl) B.sorted (by decide +kernel) (pa_cons (pe_callTy (call_nlist rfl) (by rfl) B.list (by decide +kernel) (pa_cons (pe_dcn (own := [("sign", 1)]) (g := gName 1) hr.units rfl scAscending.nd (pi_seqA (pv 0))
          (blkOk_by (N := ["signs", "sign"]) (sc := defScope sAscending) (by decide +kernel)) (fun _ _ _ _ _ => pg_name (i := 1) scAscending.nd rfl (.inl rfl)) (fun _ _ _ _ _ => pv 1) (fun _ _ _ _ _ => pe_bl)) pa_nil)) pa_nil)
      (pk_cons (pe_glob (v := .ref fs) (by rfl) R.m rfl) pk_nil))), ?_⟩
    refine ⟨_, rfl, a, _, rfl, hS, fun J wk D nD sD => ⟨_, _, _, fun i H2 => ∃ ds, But D (upd H D (ndO P w D [])) H2 ∧ H2 D = some (ndO P w D (sgE G ds)) ∧ SgD G H2 ds ((L.take i).map fun z => z.2) ∧ ds.length ≤ i, wk, ?_, ?_, ?_, ?_⟩⟩
    · exact ⟨[], But.refl, upd_same, ⟨fun _ h => (nomatch h), List.nodup_nil, fun k => by simp⟩, Nat.le_refl _⟩
    · exact fun i H2 _ ⟨ds, hb, _⟩ => But.new hb rfl nD
    · rintro H2 ⟨ds, hb, hD, hs, hl2⟩
      have s2 : Same H H2 := But.new hb rfl nD
      rw [List.length_map] at hl2
      rw [List.length_map, List.take_length] at hs
      refine ⟨D, sgE G ds, rfl, ⟨.inl hD, by unfold sgE; rw [List.length_map]; exact Nat.le_trans (show ds.length ≤ 1000 by omega) (by decide), sD, hs.keys⟩, fun p np => ?_⟩
      have s3 : Same H2 (upd H2 p (.lst ((sgE G ds).map fun e => V.ref e.2.1))) := same_upd np
      have eL : ((sgE G ds).map fun e => V.ref e.2.1) = (ds.map fun d => (V.ref d.1, d.2)).map fun z => z.1 := by
        unfold sgE
        rw [List.map_map, List.map_map]
        rfl
      refine ⟨p, ds.map fun d => (V.ref d.1, d.2), rfl, rfl, SqL.of (by rw [upd_same, eL]), fun z hz => ?_, fun p2 H3 np2 s4 h3 => ?_⟩
      · obtain ⟨d, hd, rfl⟩ := List.mem_map.mp hz
        exact ⟨(hs.sg d hd).1.same s3, (hs.sg d hd).2⟩
      · have hall : SgA G H3 (ds.map fun d => (V.ref d.1, d.2)) := fun z hz => by
          obtain ⟨d, hd, rfl⟩ := List.mem_map.mp hz
          exact ⟨((hs.sg d hd).1.same s3).same s4, (hs.sg d hd).2⟩
        have pm := List.mergeSort_perm (ds.map fun d => (V.ref d.1, d.2)) (PySem.W.dataLe false fun z : V × Nat => encL (at' G z.2))
        have n2 : H p2 = none := by
          cases e : H p2 with
          | none => rfl
          | some o => rw [s3 _ _ (s2 _ _ e)] at np2; cases np2
        refine q p2 _ H3 ((s2.trans s3).trans s4) n2 h3 (fun z hz => hall z (pm.mem_iff.mp hz)) ?_
        rw [sort_places PG fun z hz => (hall z hz).2]
        have e5 : ((ds.map fun d => (V.ref d.1, d.2)).map fun z : V × Nat => z.2) = ds.map fun d => d.2 := by rw [List.map_map]; rfl
        rw [e5]
        refine FM.sort_asc hs.nd hs.mem fun k hk => ?_
        obtain ⟨z, hz, rfl⟩ := List.mem_map.mp hk
        exact (hA z hz).2
    · rintro i x H2 H3 hi ⟨ds, hb, hD, hs, hl2⟩ ⟨rfl, hx⟩
      obtain ⟨k, hk⟩ := at_map hx
      have s2 : Same H H3 := But.new hb rfl nD
      obtain ⟨hg, hkb⟩ := hA _ (List.mem_of_getElem? hk)
      obtain ⟨b, c, eb, h1, h2⟩ := hg.same s2
      have eb : x = V.ref b := eb
      subst eb
      have hsg : IsSg H3 (.ref b) (at' G k) := ⟨b, c, rfl, h1, h2⟩
      have hdp := sgK_depth (at' G k)
      refine ⟨rfl, ?_⟩
      refine ⟨_, rfl, b, sgE G ds, sgK (at' G k), rfl, ⟨.inl hD, by unfold sgE; rw [List.length_map]; exact Nat.le_trans (show ds.length ≤ 1000 by rw [List.length_map] at hi; omega) (by decide), sD, hs.keys⟩, hD, hsg.ki, by omega, ?_⟩
      obtain ⟨ds', e1, e2, e3⟩ := sgE_put PG hs hkb hsg
      rw [e1]
      refine ⟨ds', hb.trans But.upd, upd_same, ?_, by omega⟩
      have e6 : ((L.take (i + 1)).map fun z => z.2) = ((L.take i).map fun z => z.2) ++ [k] := take_map hk
      rw [e6]
      exact e2.but But.upd hD fun xs z => by cases z
end
end KP
set_option maxRecDepth 100000
set_option maxHeartbeats 4000000
/-! term_rank. -/
namespace KP
open PySem PySem.Spec PyProof.Rows L2 KT FS FD
/-- ranks of signs in the list at D -/
def SkL (G : List Sg) (H : Hp) (D : Addr) (M : List ((Addr × Addr) × Nat)) : Prop := ∀ x ∈ M, IsSk H x.1.1 x.1.2 (at' G x.2) ∧ x.1.1 ≠ D ∧ x.1.2 ≠ D
theorem SkL.same {G : List Sg} {H H' : Hp} {D : Addr} {M} (h : SkL G H D M) (s : Same H H') : SkL G H' D M := fun x hx => ⟨(h x hx).1.same s, (h x hx).2⟩
theorem SkL.but {G : List Sg} {H H' : Hp} {D : Addr} {M} {xs : List V} (h : SkL G H D M) (b : But D H H') (hd : H D = some (.lst xs)) : SkL G H' D M := fun x hx => ⟨(h x hx).1.but b hd (h x hx).2.1 (h x hx).2.2, (h x hx).2⟩
/-- a product in the heap -/
theorem pr_of {G : List Sg} {H : Hp} {v : V} {p : List Nat} (h : KI H v (prK G p)) : ∃ (a : Addr) (L : List (V × Nat)), v = .ref a ∧ H a = some (.tup (L.map fun z => z.1)) ∧ L.map (fun z => z.2) = p ∧ ∀ z ∈ L, IsSg H z.1 (at' G z.2) := by
  obtain ⟨a, vs, e, h1, h2⟩ := ki_tup h
  obtain ⟨L, e1, e2, h3⟩ := kis_of h2
  rw [← e1] at h1
  exact ⟨a, L, e, h1, e2, fun z hz => sg_of (h3 z hz)⟩
theorem pr_to {G : List Sg} {H : Hp} {a : Addr} {L : List (V × Nat)} (h : H a = some (.tup (L.map fun z : V × Nat => z.1))) (hs : ∀ z ∈ L, IsSg H z.1 (at' G z.2)) : KI H (.ref a) (prK G (L.map fun z => z.2)) := by
  have := kis_map (H := H) (f := fun k => sgK (at' G k)) (L := L) fun x hx => (hs x hx).ki
  unfold prK
  rw [List.map_map]
  exact .tup h this
/-- a term in the heap -/
theorem tm_of {G : List Sg} {H : Hp} {v : V} {t : FM.Tm} (h : KI H v (tmK G t)) : ∃ a b, v = .ref a ∧ H a = some (.tup [.ref b, .int t.2]) ∧ KI H (.ref b) (prK G t.1) := by
  obtain ⟨a, vs, e, h1, h2⟩ := ki_tup h
  cases h2 with
  | cons q1 q2 =>
    cases q2 with
    | cons q3 q4 =>
      cases q4
      cases q3
      obtain ⟨b, L, rfl, _, _, _⟩ := pr_of q1
      exact ⟨a, b, e, h1, q1⟩
theorem tm_to {G : List Sg} {H : Hp} {a b : Addr} {p : List Nat} {c : Int} (h : H a = some (.tup [.ref b, .int c])) (k : KI H (.ref b) (prK G p)) : KI H (.ref a) (tmK G (p, c)) := .tup h (.cons k (.cons (.int c) .nil))
section
variable {P : Program} {w : World} {K : PySem.W.Frag} {mg : Str → Option Value} {base : Heap}
theorem SkL.dp {G : List Sg} {H : Hp} {D : Addr} : ∀ {M : List ((Addr × Addr) × Nat)}, SkL G H D M → DpAll K H (M.map fun x => V.ref x.1.1) ((M.map fun x => x.2).map fun k => encL (at' G k))
  | [], _ => .nil
  | x :: M, h => .cons (h x List.mem_cons_self).1.dp (SkL.dp fun y hy => h y (List.mem_cons_of_mem _ hy))
def spTermRank (K : PySem.W.Frag) (G : List Sg) : Sp := fun vs H Q _ => ∃ (v : V) (t : FM.Tm), vs = [v] ∧ KI H v (tmK G t) ∧ t.1.length ≤ 100 ∧ ∀ x H', Same H H' → Dp K H' x (encP G t.1) → Q x H'
theorem ok_termRank {G : List Sg} (PG : Pool G) {f fs : Addr} {fd fds : FuncData} (F : Fun K "term_rank" "term_rank" sTermRank f fd) (B : Blt mg) (R : SrD K mg P w base fs fds) : FnOk P w K mg base CX0 4 f fd ["term"] (spTermRank K G) := by
  refine F.ok scTermRank (fun vs H Q E h => ?_) (fun cdv A outer s H vs Q E hr h => ?_)
  · obtain ⟨_, _, rfl, _⟩ := h
    rfl
  · obtain ⟨v, t, rfl, hK, hl, q⟩ := h
    obtain ⟨a, b, rfl, ha, hb⟩ := tm_of hK
    obtain ⟨b', L, e, hT, eL, hs⟩ := pr_of hb
    obtain rfl := V.ref.inj e
    have lL : L.length = t.1.length := by rw [← eL, List.length_map]
    refine ⟨_, pss_one (ps_ret (pe_lst (pa_cons (pe_callB call_len_seq (by rfl) B.len PySem.boot_len (pa_cons (pe_ix ix_tup (pv 0) pe_int (fun _ _ => rfl)) pa_nil))
      (pa_cons (pe_lc (own := [("sign", 1)]) (g := gName 1) (tt := tYes) rfl scTermRank.nd (pi_tup (pe_ix ix_tup (pv 0) pe_int (fun _ _ => rfl))) (blkOk_by (N := ["term", "sign"]) (sc := defScope sTermRank) (by decide +kernel))
        (fun _ _ _ _ _ => pg_name (i := 1) scTermRank.nd rfl (.inl rfl)) (fun _ _ _ _ _ => pts_nil) (fun _ _ _ _ _ => pe_call R.ok hr (by rfl) R.m R.k R.b .nil pass0 (pa_cons (pv 1) pa_nil))) pa_nil)))), ?_⟩
    refine ⟨_, rfl, a, _, _, _, rfl, rfl, SqT.of ha, atI_nat (j := 0) rfl, b, _, rfl, .inr (SqT.of hT), ?_⟩
    refine ⟨_, rfl, a, _, _, _, rfl, rfl, SqT.of ha, atI_nat (j := 0) rfl, b, rfl, ⟨_, SqT.of hT⟩, fun D nD => lc_it (walk_tup (K := K) (a := b) (xs := L.map fun z => z.1)) (fun i H2 => ∃ M, But D (upd H D (.lst [])) H2 ∧ H2 D = some (.lst (M.map fun x => V.ref x.1.1)) ∧ SkL G H2 D M ∧ (M.map fun x => x.2) = ((L.take i).map fun z => z.2))
      ⟨[], But.refl, upd_same, (fun _ h => nomatch h), rfl⟩ (fun i H2 _ ⟨M, hb2, _⟩ => SqT.of ((But.new hb2 rfl nD) _ _ hT)) ?_ ?_⟩
    · rintro i x H2 H3 hi ⟨M, hb2, hD, hM, eM⟩ ⟨rfl, hx⟩
      obtain ⟨k, hk⟩ := at_map hx
      have s2 : Same H H3 := But.new hb2 rfl nD
      refine ⟨rfl, yes_i ⟨_, rfl, x, at' G k, rfl, (hs _ (List.mem_of_getElem? hk)).same s2, by have := PG.cs k; omega, fun l p H4 s3 nl np hsk => ?_⟩⟩
      have hD4 := s3 _ _ hD
      have n1 : l ≠ D := fun z => by rw [z, hD] at nl; cases nl
      have n2 : p ≠ D := fun z => by rw [z, hD] at np; cases np
      have lM : M.length ≤ i := by have := congrArg List.length eM; rw [List.length_map, List.length_map, List.length_take] at this; omega
      rw [List.length_map] at hi
      refine ⟨_, hD4, small1000 (by rw [List.length_map]; omega), M ++ [((l, p), k)], (hb2.same s3).trans But.upd, by rw [upd_same, List.map_append]; rfl, ?_, by rw [List.map_append, eM, take_map hk]; rfl⟩
      refine SkL.but (xs := M.map fun x => V.ref x.1.1) (fun z hz => ?_) But.upd hD4
      rcases List.mem_append.mp hz with m | m
      · exact (hM.same s3) z m
      · rw [List.mem_singleton.mp m]; exact ⟨hsk, n1, n2⟩
    · rintro H2 ⟨M, hb2, hD, hM, eM⟩
      have s2 : Same H H2 := But.new hb2 rfl nD
      rw [List.length_map, List.take_length, eL] at eM
      refine ⟨by show 2 ≤ sizeLine; decide, fun l nl => ?_⟩
      have s3 : Same H2 (upd H2 l (.lst [.int ((L.map fun z => z.1).length : Nat), .ref D])) := same_upd nl
      have d := (hM.same s3).dp (K := K)
      rw [eM] at d
      refine q (.ref l) _ (s2.trans s3) ?_
      unfold encP
      rw [← lL, show L.length = (L.map fun z : V × Nat => z.1).length by rw [List.length_map]]
      exact .lst (SqL.of upd_same) (.cons (.int _) (.cons (.lst (SqL.of (s3 _ _ hD)) d) .nil))
end
end KP
set_option maxRecDepth 100000
set_option maxHeartbeats 4000000
/-! The dict of sums: products and their coefficients. -/
namespace KP
open PySem PySem.Spec PyProof.Rows L2 KT FS FD
open FM (asc addP accL coef nrm)
def tmE (G : List Sg) (es : List (Addr × FM.Tm)) : List NE := es.map fun e => (prK G e.2.1, e.1, V.int e.2.2)
structure TmD (G : List Sg) (H : Hp) (es : List (Addr × FM.Tm)) (S : List FM.Tm) : Prop where
  pr : ∀ e ∈ es, KI H (.ref e.1) (prK G e.2.1) ∧ ∀ k ∈ e.2.1, k < G.length
  eq : es.map (fun e => e.2) = S
  nd : (S.map fun t => t.1).Nodup
theorem ki_but {H H' : Hp} {k : NestedKey} {v : V} {d : Addr} {o : HO} (h : KI H v k) (b : But d H H') (hd : H d = some o) (n : ∀ xs, o ≠ .tup xs) : KI H' v k :=
  h.keep (fun c xs e => b c _ e (by rintro rfl; rw [hd] at e; exact n _ (Option.some.inj e))) k v
theorem TmD.same {G : List Sg} {H H' : Hp} {es S} (h : TmD G H es S) (s : Same H H') : TmD G H' es S := ⟨fun e he => ⟨(h.pr e he).1.same s, (h.pr e he).2⟩, h.eq, h.nd⟩
theorem TmD.but {G : List Sg} {H H' : Hp} {es S} {d : Addr} {o : HO} (h : TmD G H es S) (b : But d H H') (hd : H d = some o) (n : ∀ xs, o ≠ .tup xs) : TmD G H' es S := ⟨fun e he => ⟨ki_but (h.pr e he).1 b hd n, (h.pr e he).2⟩, h.eq, h.nd⟩
theorem TmD.keys {G : List Sg} {H : Hp} {es S} (h : TmD G H es S) : NKeys H (tmE G es) := fun e he => by
  obtain ⟨d, hd, rfl⟩ := List.mem_map.mp he
  have := prK_depth G d.2.1
  exact ⟨(h.pr d hd).1, by show (prK G d.2.1).depth ≤ 8; omega⟩
theorem nval_tm {G : List Sg} (P : Pool G) {p : List Nat} (hp : ∀ k ∈ p, k < G.length) : ∀ {es : List (Addr × FM.Tm)}, (∀ e ∈ es, ∀ k ∈ e.2.1, k < G.length) →
    nval (tmE G es) (prK G p) = ((es.map fun e => e.2).find? fun t => decide (t.1 = p)).map fun t => V.int t.2
  | [], _ => rfl
  | e :: es, h => by
    have ih := nval_tm P hp (es := es) fun x hx => h x (List.mem_cons_of_mem _ hx)
    unfold nval tmE at ih ⊢
    rw [List.map_cons, List.find?_cons, List.map_cons, List.find?_cons]
    by_cases c : e.2.1 = p
    · rw [decide_eq_true (show prK G e.2.1 = prK G p by rw [c]), decide_eq_true c]
      rfl
    · rw [decide_eq_false (fun z => c (prK_inj P (h e List.mem_cons_self) hp z)), decide_eq_false c]
      exact ih
theorem find_no {S : List FM.Tm} {p : List Nat} (h : p ∉ S.map fun t => t.1) : (S.find? fun t => decide (t.1 = p)) = none := by
  rw [List.find?_eq_none]
  intro t ht
  simp only [decide_eq_true_eq]
  rintro rfl
  exact h (List.mem_map.mpr ⟨t, ht, rfl⟩)
theorem find_yes {S : List FM.Tm} {p : List Nat} (nd : (S.map fun t => t.1).Nodup) (h : p ∈ S.map fun t => t.1) : ∃ t, (S.find? fun t => decide (t.1 = p)) = some t ∧ t.1 = p ∧ t.2 = coef S p := by
  cases e : S.find? fun t => decide (t.1 = p) with
  | none =>
    obtain ⟨t, ht, rfl⟩ := List.mem_map.mp h
    have := List.find?_eq_none.mp e t ht
    simp at this
  | some t =>
    have h1 : t.1 = p := by have := List.find?_some e; simpa using this
    refine ⟨t, rfl, h1, ?_⟩
    have h2 := List.mem_of_find?_eq_some e
    rw [← h1]
    exact (FM.coef_mem nd (p := t.1) (c := t.2) h2).symm
theorem tm_get {G : List Sg} (P : Pool G) {H : Hp} {es S} {p : List Nat} (h : TmD G H es S) (hp : ∀ k ∈ p, k < G.length) : (nval (tmE G es) (prK G p)).getD (.int 0) = .int (coef S p) := by
  rw [nval_tm P hp fun e he => (h.pr e he).2, h.eq]
  by_cases c : p ∈ S.map fun t => t.1
  · obtain ⟨t, e, _, e2⟩ := find_yes h.nd c
    rw [e, ← e2]; rfl
  · rw [find_no c, FM.coef_no c]; rfl
theorem tm_put {G : List Sg} (P : Pool G) {H : Hp} {es S} {p : List Nat} {b : Addr} {c : Int} (h : TmD G H es S) (hp : ∀ k ∈ p, k < G.length) (hb : KI H (.ref b) (prK G p)) :
    ∃ es', nput (tmE G es) (prK G p) b (.int (coef S p + c)) = tmE G es' ∧ TmD G H es' (addP S p c) := by
  unfold nput
  rw [nval_tm P hp fun e he => (h.pr e he).2, h.eq]
  by_cases m : p ∈ S.map fun t => t.1
  · obtain ⟨t, e, _, _⟩ := find_yes h.nd m
    rw [e]
    refine ⟨es.map fun e => if e.2.1 = p then (e.1, (e.2.1, coef S p + c)) else e, ?_, fun x hx => ?_, ?_, ?_⟩
    · rw [if_pos (by rfl)]
      unfold tmE
      rw [List.map_map, List.map_map]
      refine List.map_congr_left fun x hx => ?_
      show (if prK G x.2.1 = prK G p then (prK G x.2.1, x.1, V.int (coef S p + c)) else (prK G x.2.1, x.1, V.int x.2.2)) = _
      by_cases q : x.2.1 = p
      · show _ = ((fun e : Addr × FM.Tm => (prK G e.2.1, e.1, V.int e.2.2)) (if x.2.1 = p then _ else _))
        rw [if_pos (by rw [q]), if_pos q]
      · show _ = ((fun e : Addr × FM.Tm => (prK G e.2.1, e.1, V.int e.2.2)) (if x.2.1 = p then _ else _))
        rw [if_neg (fun z => q (prK_inj P (h.pr x hx).2 hp z)), if_neg q]
    · obtain ⟨y, hy, rfl⟩ := List.mem_map.mp hx
      by_cases q : y.2.1 = p
      · rw [if_pos q]; exact h.pr y hy
      · rw [if_neg q]; exact h.pr y hy
    · unfold addP
      rw [if_pos m, ← h.eq, List.map_map, List.map_map]
      refine List.map_congr_left fun x hx => ?_
      show (if x.2.1 = p then (x.1, (x.2.1, coef (es.map fun e => e.2) p + c)) else x).2 = (if x.2.1 = p then (x.2.1, x.2.2 + c) else x.2)
      by_cases q : x.2.1 = p
      · rw [if_pos q, if_pos q]
        have hx2 : (p, x.2.2) ∈ es.map fun e => e.2 := List.mem_map.mpr ⟨x, hx, by rw [← q]⟩
        have nd := h.nd
        rw [← h.eq] at nd
        rw [FM.coef_mem nd hx2]
      · rw [if_neg q, if_neg q]
    · exact FM.addP_nd h.nd
  · rw [find_no m]
    refine ⟨es ++ [(b, (p, c))], ?_, fun x hx => ?_, ?_, FM.addP_nd h.nd⟩
    · rw [if_neg (by intro z; cases z), FM.coef_no m, show (0 : Int) + c = c by omega]
      unfold tmE
      rw [List.map_append]
      rfl
    · rcases List.mem_append.mp hx with z | z
      · exact h.pr x z
      · rw [List.mem_singleton.mp z]; exact ⟨hb, hp⟩
    · unfold addP
      rw [if_neg m, List.map_append, h.eq]
      rfl
/-- the terms that a form is made of -/
def IsTi (K : PySem.W.Frag) (G : List Sg) (H : Hp) (v : V) (t : FM.Tm) : Prop := ∃ (b s : Addr) (M : List (V × Nat)), v = .ref b ∧ H b = some (.tup [.ref s, .int t.2]) ∧ SqA K H s (M.map fun z => z.1) ∧ SgA G H M ∧ M.map (fun z => z.2) = t.1 ∧ M.length ≤ 900
theorem IsTi.same {K : PySem.W.Frag} {G : List Sg} {H H' : Hp} {v : V} {t : FM.Tm} (h : IsTi K G H v t) (s : Same H H') : IsTi K G H' v t := by
  obtain ⟨b, c, M, e, h1, h2, h3, h4, h5⟩ := h
  exact ⟨b, c, M, e, s _ _ h1, h2.same s, h3.same s, h4, h5⟩
end KP
set_option maxRecDepth 100000
set_option maxHeartbeats 4000000
/-! Nested tuples compared; bool of a tuple; own operators. -/
namespace FD
open PySem PySem.Spec PyProof.Rows L2 FS
open PySem.SeqAt (EqAt RcAt RcNeAt)
section
variable {X : Cx}
theorem ki_tupN {H : Hp} {v : V} {ks : List NestedKey} (h : KI H v (.tup ks)) : ∃ a vs, v = .ref a ∧ H a = some (.tup vs) ∧ KIs H vs ks := by
  cases h with
  | tup h1 h2 => exact ⟨_, _, rfl, h1, h2⟩
/-- what two nested tuples give, item by item -/
theorem rows_at {P : Program} {w : World} {A : Around} {s : Shared} {H : Hp} (ok : HOk P w H s.heap) (hu : A.units + 64 < cLine) {ks ls : List NestedKey} {vs us : List V} {is js : List Value} (h1 : KIs H vs ks) (h2 : KIs H us ls) (r1 : Vals vs is) (r2 : Vals us js) (d : NestedKey.depthAll ks ≤ 9) :
    (∀ j (q1 : j < is.toArray.size) (q2 : j < js.toArray.size), EqAt A.in1 s is.toArray[j] js.toArray[j] (keyEqAt ks ls j)) ∧ ((List.range (min is.toArray.size js.toArray.size)).all (keyEqAt ks ls) && is.toArray.size == js.toArray.size) = NestedKey.beqAll ks ls := by
  have a1 := KIs.nested ok _ _ _ h1 r1
  have a2 := KIs.nested ok _ _ _ h2 r2
  have n1 : is.length = ks.length := NestedAll.length _ _ a1
  have n2 : js.length = ls.length := NestedAll.length _ _ a2
  refine ⟨fun j q1 q2 => ?_, ?_⟩
  · have := eqAt_keys ks ls A.in1 s is js a1 a2 (by show A.units + 1 + _ < _; omega) j (by simpa using q1) (by simpa using q2)
    simpa using this
  · rw [← beqAll_eq]
    simp only [List.size_toArray, n1, n2]
theorem beqAll_dec (ks ls : List NestedKey) : NestedKey.beqAll ks ls = decide (ks = ls) := by
  have := NestedKey.decide_eq (.tup ks) (.tup ls)
  rw [show NestedKey.beqAll ks ls = NestedKey.beq (.tup ks) (.tup ls) from rfl, ← this]
  exact decide_eq_decide.mpr (by rw [NestedKey.tup.injEq])
def rEqK : R2 := fun x y H Q => ∃ ks ls, KI H x (.tup ks) ∧ KI H y (.tup ls) ∧ NestedKey.depthAll ks ≤ 9 ∧ Q (.bl (decide (ks = ls))) H
def rNeK : R2 := fun x y H Q => ∃ ks ls, KI H x (.tup ks) ∧ KI H y (.tup ls) ∧ NestedKey.depthAll ks ≤ 9 ∧ Q (.bl (!decide (ks = ls))) H
theorem op_eqK (hu : X.A.units + 64 < cLine) : OpR X (compareOp .Eq) rEqK := by
  intro pins s σ H x y v u Q I rx ry h
  obtain ⟨ks, ls, h1, h2, d, q⟩ := h
  obtain ⟨a, vs, rfl, e1, k1⟩ := ki_tupN h1
  obtain ⟨b, us, rfl, e2, k2⟩ := ki_tupN h2
  obtain rfl : v = Value.ref a := rx
  obtain rfl : u = Value.ref b := ry
  obtain ⟨is, r1, t1, _⟩ := I.tuple (SqT.of e1)
  obtain ⟨js, r2, t2, _⟩ := I.tuple (SqT.of e2)
  obtain ⟨z1, z2⟩ := rows_at I.hok hu k1 k2 r1 r2 d
  have k := RcAt.tuples (A := X.A) (s := s) t1 t2 (by omega) z1
  rw [z2, beqAll_dec] at k
  exact k X.prog X.w X.xe (EP X pins σ Q) ⟨.bl _, H, I, rfl, q⟩
theorem op_neK (hu : X.A.units + 64 < cLine) : OpR X (compareOp .NotEq) rNeK := by
  intro pins s σ H x y v u Q I rx ry h
  obtain ⟨ks, ls, h1, h2, d, q⟩ := h
  obtain ⟨a, vs, rfl, e1, k1⟩ := ki_tupN h1
  obtain ⟨b, us, rfl, e2, k2⟩ := ki_tupN h2
  obtain rfl : v = Value.ref a := rx
  obtain rfl : u = Value.ref b := ry
  obtain ⟨is, r1, t1, _⟩ := I.tuple (SqT.of e1)
  obtain ⟨js, r2, t2, _⟩ := I.tuple (SqT.of e2)
  obtain ⟨z1, z2⟩ := rows_at I.hok hu k1 k2 r1 r2 d
  have k := RcNeAt.tuples (A := X.A) (s := s) t1 t2 (by omega) z1
  rw [z2, beqAll_dec] at k
  exact k X.prog X.w X.xe (EP X pins σ Q) ⟨.bl _, H, I, rfl, q⟩
/-- x not in a list of nested tuples -/
def rNotInK (K : PySem.W.Frag) : R2 := fun x y H Q => ∃ k ks a vs, y = V.ref a ∧ SqL K H a vs ∧ KI H x k ∧ KIs H vs ks ∧ k.depth ≤ 9 ∧ Q (.bl (!decide (k ∈ ks))) H
theorem any_key {h : Heap} (k : NestedKey) : ∀ {ks : List NestedKey} {is : List Value}, NestedAll h ks is → (is.any fun y => @decide (NestedIs h k y) (Classical.propDecidable _)) = decide (k ∈ ks)
  | [], _, r => by cases r; rfl
  | l :: ks, _, r => by
    cases r with
    | cons r1 r2 =>
      rw [List.any_cons, any_key k r2]
      by_cases e : k = l
      · subst e
        rw [@decide_eq_true _ (Classical.propDecidable _) r1, Bool.true_or]
        exact (decide_eq_true List.mem_cons_self).symm
      · rw [@decide_eq_false _ (Classical.propDecidable _) (fun z => e (NestedIs.inj _ _ _ z r1)), Bool.false_or]
        exact decide_eq_decide.mpr (by rw [List.mem_cons]; exact ⟨.inr, fun z => z.resolve_left e⟩)
theorem nested_mem {h : Heap} : ∀ {ks : List NestedKey} {is : List Value}, NestedAll h ks is → ∀ y ∈ is, ∃ l ∈ ks, NestedIs h l y
  | [], _, r, y, hy => by cases r; cases hy
  | l :: ks, _, r, y, hy => by
    cases r with
    | cons r1 r2 =>
      rcases List.mem_cons.mp hy with e | hy
      · rw [e]; exact ⟨l, List.mem_cons_self, r1⟩
      · obtain ⟨m, hm, z⟩ := nested_mem r2 y hy
        exact ⟨m, List.mem_cons_of_mem _ hm, z⟩
theorem op_notInK (hu : X.A.units + 64 < cLine) : OpR X (compareOp .NotIn) (rNotInK X.K) := by
  intro pins s σ H x y v u Q I rx ry h
  obtain ⟨k, ks, a, vs, rfl, hs, hk, hks, d, q⟩ := h
  obtain rfl : u = Value.ref a := ry
  obtain ⟨its, rv, pl, hz⟩ := I.list hs
  have n1 := KI.nested I.hok _ _ _ hk rx
  have n2 := KIs.nested I.hok _ _ _ hks rv
  refine SeqAt.notIn_listAt (fun y => @decide (NestedIs s.heap k y) (Classical.propDecidable _)) pl.isList (fun y hy => ?_) ?_
  · obtain ⟨l, hl, hy2⟩ := nested_mem n2 y (by simpa using hy)
    have e := eqAt_key l k X.A.in1 s y v hy2 n1 (by show X.A.units + 1 + _ < _; omega)
    refine e.cast ?_
    rw [← NestedKey.decide_eq]
    by_cases c : l = k
    · subst c
      rw [decide_eq_true rfl, @decide_eq_true _ (Classical.propDecidable _) hy2]
    · rw [decide_eq_false c, @decide_eq_false _ (Classical.propDecidable _) fun z => c (NestedIs.inj _ _ _ hy2 z)]
  · have e : (its.toArray.any fun y => @decide (NestedIs s.heap k y) (Classical.propDecidable _)) = decide (k ∈ ks) := by
      rw [List.any_toArray]
      exact any_key k n2
    rw [e]
    exact ⟨.bl _, H, I, rfl, q⟩
open PySem.Sem (wp)
theorem meets_bool_tup (l : Addr) (items : Array Value) (hfit : (items.size : Int) < 2 ^ 63) :
    Meets (Builtin.«bool.__new__» ⟨[.type "bool", .ref l], []⟩) (fun _ R s => IsTup s.heap l items ∧ R (.ok (.ret (.bool (!items.isEmpty)))) { s with toks := s.toks + 1 + 1 }) :=
  Meets.of_wp fun prog w A R s hs => by
    obtain ⟨hl, hs⟩ := hs
    obtain ⟨hp, g, d, tk, os⟩ := s
    have f1 := F.conv_sub_bool
    repeat (any_goals (first | assumption | (with_reducible refine truthy_tuple hl hfit ?_) | wp_step))
    all_goals first | exact ⟨_, rfl, hs⟩ | exact hs | skip
/-- bool(a tuple) -/
theorem call_boolT : CallR X (.type "bool") (fun xs H Q => ∃ (a : Addr) (zs : List V), xs = [.ref a] ∧ SqT X.K H a zs ∧ Q (.bl (!zs.isEmpty)) H) := by
  intro pins s σ H xs us Q I r h
  obtain ⟨a, zs, rfl, hq, q⟩ := h
  obtain rfl := Vals.ref1 r
  obtain ⟨its, rv, pl, hz⟩ := I.tuple hq
  have hl := line63
  have hlen := rv.length
  refine call_bool_1 (meets_bool_tup a its.toArray (by simp only [List.size_toArray]; omega)) ⟨pl, rfl, ?_⟩
  exact ⟨.bl (!zs.isEmpty), H, I.tok _, by rw [isEmpty_of rv]; rfl, q⟩
end
/-! own operators -/
section
variable {Y : Cx} {CX : CXT} {j : Nat} {g C : Addr} {gd : FuncData} {prm : List Str} {pm : Sp} {En : XK}
/-- x op y, both of the class C -/
def rOwn (C : Addr) (pm : Sp) (En : XK) : R2 := fun x y H Q => ∃ a b dx dy fs gs, x = .ref a ∧ y = .ref b ∧ H a = some (.ins C dx fs) ∧ H b = some (.ins C dy gs) ∧ pm [.ref a, .ref b] H (fun v H' => (∃ c, v = .ref c) ∧ Q v H') En
theorem op_own {op : Operator} (first : PySem.W.selfFirst Y.K C = true) (at_ : PySem.W.findIn Y.K (.ref C) (PySem.dunder op.info.2) = some (some (.ref g))) (fn : PySem.W.isFn Y.K (.ref g) = true)
    (G : FnOk Y.prog Y.w Y.K Y.mg Y.base CX j g gd prm pm) (room : Room j Y.A) (bind : Binds Y.K gd prm []) (pass : Passes CX Y En) : OpR Y (binaryOp op) (rOwn C pm En) := by
  intro pins s σ H x y u v Q J rx ry hyp
  obtain ⟨a, b, dx, dy, fs, gs, rfl, rfl, ha, hb, hs⟩ := hyp
  obtain rfl : u = Value.ref a := rx
  obtain rfl : v = Value.ref b := ry
  obtain ⟨m1, J1, _⟩ := ins_get J.hok ha
  obtain ⟨m2, J2, _⟩ := ins_get J.hok hb
  obtain ⟨o1, J1, _⟩ := J1.look
  obtain ⟨o2, J2, _⟩ := J2.look
  obtain ⟨m, fr⟩ := J.fr
  refine PySem.W.binop_K fr J.ok.mod.kin J1 J2.type first at_ fn (wpAny_mono (run_fn (ds := []) (dvs := []) G room bind .nil pass J (us := [.ref a, .ref b]) (vs := [.ref a, .ref b]) (.cons rfl (.cons rfl .nil)) hs) (fun r s' got => ?_) fun _ _ z => z)
  obtain ⟨v', H', J', rv, ⟨c, rfl⟩, q⟩ := got
  obtain rfl : r = Value.ref c := rv
  exact ⟨.ref c, H', J', rfl, q⟩
/-- -x by the class's own def -/
def rOwn1 (C : Addr) (pm : Sp) (En : XK) : V → Hp → VK → Prop := fun x H Q => ∃ a dx fs, x = .ref a ∧ H a = some (.ins C dx fs) ∧ pm [.ref a] H Q En
theorem un_negO (at_ : PySem.W.findIn Y.K (.ref C) "__neg__" = some (some (.ref g))) (fn : PySem.W.isFn Y.K (.ref g) = true)
    (G : FnOk Y.prog Y.w Y.K Y.mg Y.base CX j g gd prm pm) (room : Room j Y.A) (bind : Binds Y.K gd prm []) (pass : Passes CX Y En) : UnR Y (unaryOp .USub) (rOwn1 C pm En) := by
  intro pins s σ H x u Q J rx hyp
  obtain ⟨a, dx, fs, rfl, ha, hs⟩ := hyp
  obtain rfl : u = Value.ref a := rx
  obtain ⟨m1, J1, _⟩ := ins_get J.hok ha
  obtain ⟨o1, J1, _⟩ := J1.look
  obtain ⟨m, fr⟩ := J.fr
  exact PySem.W.ksp_neg fr J.ok.mod.kin J1 at_ fn (run_fn (ds := []) (dvs := []) G room bind .nil pass J (us := [.ref a]) (vs := [.ref a]) (.cons rfl .nil) hs)
/-- x == y, x of the class C, y of any type that is told, by C's __eq__, which gives a bool -/
def rEqOwn (K : PySem.W.Frag) (C : Addr) (pm : Sp) (En : XK) : R2 := fun x y H Q => ∃ a dx fs t, x = .ref a ∧ H a = some (.ins C dx fs) ∧ TyX K H y t ∧ PySem.W.notFirst K C t = true ∧ pm [.ref a, y] H (fun r H' => ∃ b, r = .bl b ∧ Q (.bl b) H') En
theorem op_eqOwn (units : Y.A.units < cLine) (at_ : PySem.W.findIn Y.K (.ref C) "__eq__" = some (some (.ref g))) (fn : PySem.W.isFn Y.K (.ref g) = true)
    (G : FnOk Y.prog Y.w Y.K Y.mg Y.base CX j g gd prm pm) (room : Room j Y.A) (bind : Binds Y.K gd prm []) (pass : Passes CX Y En) : OpR Y (compareOp .Eq) (rEqOwn Y.K C pm En) := by
  intro pins s σ H x y u z Q J rx ry hyp
  obtain ⟨a, dx, fs, t, rfl, ha, ty, nf, hs⟩ := hyp
  obtain rfl : u = Value.ref a := rx
  obtain ⟨Ph, kx, hp, _⟩ := kit_of J ry ty
  obtain ⟨m1, J1, _⟩ := ins_get J.hok ha
  obtain ⟨o1, J1, _⟩ := J1.look
  obtain ⟨m, fr⟩ := J.fr
  show wpAny (model Y.prog Y.w) Y.A (richCompare .Eq (.ref a) z) (EP Y pins σ Q) Y.xe s
  refine PySem.W.cmp_K (op := .Eq) (tb := t) units fr J.ok.mod.kin J1 (kx.ty _ _ J.kIn hp) nf at_ fn (wpAny_mono (run_fn (ds := []) (dvs := []) G room bind .nil pass J (us := [.ref a, z]) (vs := [.ref a, y]) (.cons rfl (.cons ry .nil)) hs) (fun r s' got => ?_) fun _ _ z => z)
  obtain ⟨v', H', J', rr, b, rfl, q⟩ := got
  obtain rfl : r = Value.bool b := rr
  exact ⟨.bl b, H', J', rfl, q⟩
end
end FD
set_option maxRecDepth 100000
set_option maxHeartbeats 4000000
/-! Form.__init__. -/
namespace KP
open PySem PySem.Spec PyProof.Rows L2 KT FS FD
open FM (asc addP accL coef nrm)
/-- a walk over a list or a tuple that an earlier heap holds -/
def iSeqC (K : PySem.W.Frag) (tl : TE) : TI := fun σ H R => tl σ H fun v H1 => ∃ a xs H0, v = V.ref a ∧ SqA K H0 a xs ∧ Same H0 H1 ∧ ∀ J, Walk J xs.length (fun H2 => Same H0 H2) (YAt xs) → R J H1
theorem pi_seqC {X : Cx} {tg l : Expr} {tl : TE} (hl : PE X l tl) : PI X tg l (iSeqC X.K tl) := by
  constructor
  intro pins s σ H R I want
  refine thn (hl.run pins s σ H _ I want) fun u s1 ⟨x, H1, J, rx, a, xs, H0, ex, hq, s0, q⟩ => ?_
  subst ex
  obtain rfl : u = Value.ref a := rx
  rcases hq with h | h
  · obtain ⟨its, rv, pl, hz⟩ := J.list (sqL_same h s0)
    exact wpAny_pyIter_list pl.isList (pi_one (tk := s1.toks) J _ (turn_list a _) ⟨_, Heap.get?_push_size _ rfl, rfl, rfl⟩ (q _ (walk_list.mono (fun H2 s2 => sqL_same h s2) fun _ _ _ _ _ _ y => y)))
  · obtain ⟨its, rv, pl, hz⟩ := J.tuple (sqT_same h s0)
    exact wpAny_pyIter_tuple (show s1.heap.IsTuple a its.toArray from pl) (pi_one (tk := s1.toks) J _ (turn_tuple a _) ⟨_, Heap.get?_push_size _ rfl, rfl, rfl⟩ (q _ (walk_tup.mono (fun H2 s2 => sqT_same h s2) fun _ _ _ _ _ _ y => y)))
theorem filt_take {α : Type} {A : List α} {f : α → Bool} {i : Nat} {a : α} (h : A[i]? = some a) : (A.take (i + 1)).filter f = (A.take i).filter f ++ (if f a = true then [a] else []) := by
  rw [List.take_add_one, h, List.filter_append]
  congr 1
  by_cases c : f a = true
  · simp [c]
  · simp [c]
/-- a form -/
def FmAt (G : List Sg) (C : Addr) (H : Hp) (x : Addr) (N : List FM.Tm) : Prop := ∃ dx t, H x = some (.ins C dx [("terms", .ref t)]) ∧ KI H (.ref t) (tsK G N) ∧ FM.AscT G.length N
theorem FmAt.same {G : List Sg} {C : Addr} {H H' : Hp} {x : Addr} {N} (h : FmAt G C H x N) (s : Same H H') : FmAt G C H' x N := let ⟨dx, t, h1, h2, h3⟩ := h; ⟨dx, t, s _ _ h1, h2.same s, h3⟩
theorem fmf_1 (t : Addr) : ([("terms", V.ref t)] : List (Str × V)).lookup ("terms" : Str) = some (.ref t) := by simp [List.lookup]
theorem fput (t : Addr) : putF "terms" (.ref t) [] = ([("terms", .ref t)] : List (Str × V)) := rfl
structure FmC (K : PySem.W.Frag) (mg : Str → Option Value) (C : Addr) : Prop where
  cl : Cls K C
  n1 : NoAttr K C "terms"
  mgC : mg "Form" = some (.ref C)
/-- the terms with products ascending -/
def nT (G : List Sg) (L : List (V × FM.Tm)) : List FM.Tm := L.map fun y => (asc G.length y.2.1, y.2.2)
theorem sort_terms {G : List Sg} (P : Pool G) {M : List (V × FM.Tm)} (hb : ∀ x ∈ M, ∀ k ∈ x.2.1, k < G.length) : ((M.mergeSort (PySem.W.dataLe false fun z => encP G z.2.1)).map fun z => z.2) = (M.map fun z => z.2).mergeSort fun a b => FM.ple a.1 b.1 :=
  PySem.W.sort_maps (fun z : V × FM.Tm => z.2) fun a ha b hb2 => by
    rw [dle, ltP P (hb b hb2) (hb a ha)]
    rfl
theorem asc_bd {n : Nat} {ks : List Nat} : ∀ k ∈ asc n ks, k < n := fun k hk => (FM.mem_asc.mp hk).1
theorem asc_len {n : Nat} {ks : List Nat} : (asc n ks).length ≤ n := by
  unfold asc
  exact Nat.le_trans (List.length_filter_le _ _) (by rw [List.length_range]; exact Nat.le_refl _)
theorem nT_bd {G : List Sg} {L : List (V × FM.Tm)} {t : FM.Tm} (h : t ∈ accL (nT G L)) : (∀ k ∈ t.1, k < G.length) ∧ t.1.length ≤ G.length := by
  have := FM.acc_mem (nT G L) (List.mem_map.mpr ⟨t, h, rfl⟩)
  obtain ⟨u, hu, e⟩ := List.mem_map.mp this
  obtain ⟨y, _, rfl⟩ := List.mem_map.mp hu
  rw [← e]
  exact ⟨asc_bd, asc_len⟩
theorem nT_asc {G : List Sg} (L : List (V × FM.Tm)) : FM.AscT G.length (nT G L) := fun t ht => by
  obtain ⟨y, _, rfl⟩ := List.mem_map.mp ht
  exact ⟨FM.asc_lt _ _, asc_bd⟩
structure AscD (K : PySem.W.Frag) (mg : Str → Option Value) (P : Program) (w : World) (base : Heap) (G : List Sg) (f : Addr) (fd : FuncData) : Prop where
  ok : FnOk P w K mg base CX0 6 f fd ["signs"] (spAsc K G)
  m : mg "ascending" = some (.ref f)
  k : PySem.W.keepIn K (.ref f) = true
  b : Binds K fd ["signs"] []
structure TrD (K : PySem.W.Frag) (mg : Str → Option Value) (P : Program) (w : World) (base : Heap) (G : List Sg) (f : Addr) (fd : FuncData) : Prop where
  ok : FnOk P w K mg base CX0 4 f fd ["term"] (spTermRank K G)
  m : mg "term_rank" = some (.ref f)
  k : PySem.W.keepIn K (.ref f) = true
  b : Binds K fd ["term"] []
theorem encP_depth (G : List Sg) (p : List Nat) : (encP G p).depth ≤ 60 := by
  have h1 : ∀ g : Sg, (encL g).depth ≤ 4 := fun g => by
    have : PyData.depthAll (g.2.2.map fun o => dP (rk o)) ≤ 1 := (layAll_map (enc := fun o : Option Int => dP (rk o)) (k := 1) (fun o => lay_dP (rk o)) g.2.2).2
    simp only [encL, PyData.depth, PyData.depthAll]
    omega
  have h2 : ∀ q : List Nat, PyData.depthAll (q.map fun k => encL (at' G k)) ≤ 4 := fun q => by
    induction q with
    | nil => simp [PyData.depthAll]
    | cons a q ih =>
      rw [List.map_cons]
      simp only [PyData.depthAll]
      exact Nat.max_le.mpr ⟨h1 _, ih⟩
  have := h2 p
  simp only [encP, PyData.depth, PyData.depthAll]
  omega
abbrev nFI : List Str := ["self", "terms", "sums", "signs", "coefficient", "product", "found", "total"]
def spFInit (K : PySem.W.Frag) (G : List Sg) (C : Addr) : Sp := fun vs H Q _ => ∃ (x dx a : Addr) (L : List (V × FM.Tm)), vs = [.ref x, .ref a] ∧ H x = some (.ins C dx []) ∧ SqA K H a (L.map fun z => z.1) ∧ (∀ y ∈ L, IsTi K G H y.1 y.2) ∧ L.length ≤ 100 ∧
  ∀ H', FmAt G C H' x (nrm (nT G L)) → But x H H' → Q .non H'
section
variable {P : Program} {w : World} {K : PySem.W.Frag} {mg : Str → Option Value} {base : Heap}
theorem fnX_ok0 {x qual : Str} {params : Arguments} {body : List Stmt} {scope : Scope} {dvs : List V} {kws : List (Str × V)} {f : Addr} {fd : FuncData} {N ps : List Str} {k : Nat} {sp : Sp} (F : FunD K x qual params body scope dvs kws f fd) (S : FnScope N ps scope) (len : ∀ vs H Q E, sp vs H Q E → vs.length = ps.length)
    (hb : ∀ (cdv : Value) (A : Around) (outer : List Env) (s : Shared) (H : Hp) (vs : List V) (Q : VK) (E : XK), Room k (A.deeper (envOfC qual scope s.heap.objs.size f cdv)) → sp vs H Q E →
      ∃ t, PSs (cxOf CX0 P w K mg base N qual scope f cdv A outer s H E).nox body t ∧ t { nx := fun _ H' => Q .non H', rt := Q } (start N vs) H) : FnOk P w K mg base CX0 (k + 1) f fd ps sp :=
  F.ok S len fun cdv A outer s H vs Q E hr h => let ⟨t, p, q⟩ := hb cdv A outer s H vs Q E hr h; ⟨t, p.nox, q⟩
theorem ok_finit {G : List Sg} (PG : Pool G) {f C fa ft q0 : Addr} {fd da dt : FuncData} (F : FunD K "__init__" "Form.__init__" (defArgs sFormInit) (defBody sFormInit) (defScope sFormInit) [.ref q0] [] f fd) (B : Blt mg) (FC : FmC K mg C) (A : AscD K mg P w base G fa da) (T : TrD K mg P w base G ft dt) :
    FnOk P w K mg base CX0 7 f fd ["self", "terms"] (spFInit K G C) := by
  refine fnX_ok0 F scFormInit (fun vs H Q E h => ?_) (fun cdv Ar outer s H vs Q E hr h => ?_)
  · obtain ⟨_, _, _, _, rfl, _⟩ := h
    rfl
  · obtain ⟨x, dx, a, L, rfl, hx, hS, hL, len, q⟩ := h
    refine ⟨_, pss_cons (ps_set (i := 2) scFormInit.nd rfl (.inl rfl) pe_nnew)
      (pss_cons (ps_for PassesOwn.never rfl (pi_seqC (pv 1)) (pg_tup rfl (pgs_cons (pg_name (i := 3) scFormInit.nd rfl (.inl rfl)) (pgs_cons (pg_name (i := 4) scFormInit.nd rfl (.inl rfl)) pgs_nil)))
        (pss_cons (ps_set (i := 5) scFormInit.nd rfl (.inl rfl) (pe_callTy call_tuple_of (by rfl) B.tuple (by decide +kernel) (pa_cons (pe_call A.ok hr (by rfl) A.m A.k A.b .nil pass0 (pa_cons (pv 3) pa_nil)) pa_nil)))
        (pss_one (ps_nput hr.units (pv 2) (pv 5) (pe_op op_add (pe_nget hr.units (pv 2) (pv 5) pe_int ⟨rfl, rfl, rfl, rfl⟩) (pv 4)) rfl))))
      (pss_cons (ps_lock (ps_setLc (i := 6) (own := [("product", 5), ("total", 7)]) (g := gTup K 2 (gCons (gName 5) (gCons (gName 7) gNil))) rfl scFormInit.nd rfl rfl (sw_true rfl rfl rfl (by decide +kernel)) (pi_itn (pv 2))
          (blkOk_by (N := nFI) (sc := defScope sFormInit) (by decide +kernel))
          (fun _ _ _ _ _ => pg_tup rfl (pgs_cons (pg_name (i := 5) scFormInit.nd rfl (.inl rfl)) (pgs_cons (pg_name (i := 7) scFormInit.nd rfl (.inl rfl)) pgs_nil)))
          (fun _ _ _ _ _ => pts_one (pt_cmpR op_ne (pv 7) pe_int (nomark _))) (fun _ _ _ _ _ => pe_tup (pa_cons (pv 5) (pa_cons (pv 7) pa_nil)))))
      (pss_one (ps_fld (pv 0) (pe_callTy call_tuple_of (by rfl) B.tuple (by decide +kernel) (pa_cons (pe_callBK (cr_sortBy (β := FM.Tm) (R := fun H v t => KI H v (tmK G t) ∧ t.1.length ≤ 100 ∧ ∀ k ∈ t.1, k < G.length) (enc := fun t => encP G t.1) T.ok T.b hr rfl
          (fun _ _ _ _ s1 z => ⟨z.1.same s1, z.2⟩) (fun H1 v t z => ⟨v, t, rfl, z.1, z.2.1, fun x H' s1 y => ⟨s1, y⟩⟩) (fun _ _ => alike_encP G _ _) (.inr fun t => ⟨(fun z => by cases z), fun xs z => by cases z⟩) (fun t => encP_depth G t.1))
        (by rfl) B.sorted (by decide +kernel) (pa_cons (pv 6) pa_nil) (pk_cons (pe_glob (v := .ref ft) (by rfl) T.m rfl) pk_nil)) pa_nil)) rfl)))), ?_⟩
    intro d nd sd
    have s1 : Same H (upd H d (ndO P w d [])) := same_upd nd
    have bigG := PG.len
    refine ⟨_, rfl, a, _, H, rfl, hS, s1, fun J wk => for_it wk (fun i σ H2 => ∃ es v3 v4 v5, σ = [some (.ref x), some (.ref a), some (.ref d), v3, v4, v5, none, none] ∧ But d (upd H d (ndO P w d [])) H2 ∧ H2 d = some (ndO P w d (tmE G es)) ∧ TmD G H2 es (accL (nT G (L.take i))))
      ⟨[], none, none, none, rfl, But.refl, upd_same, ⟨fun _ h => (nomatch h), rfl, List.nodup_nil⟩⟩ (fun i σ H2 _ ⟨es, _, _, _, _, hb, _⟩ => But.new hb rfl nd) ?_ ?_⟩
    · rintro i v σ H2 H3 hi ⟨es, v3, v4, v5, rfl, hb, hD, hT⟩ ⟨rfl, hv⟩
      obtain ⟨t, ht⟩ := at_map hv
      have s2 : Same H H3 := But.new hb rfl nd
      obtain ⟨b, c, M, rfl, h1, h2, h3, h4, h5⟩ := (hL _ (List.mem_of_getElem? ht)).same s2
      refine ⟨b, _, rfl, SqT.of h1, rfl, _, _, rfl, _, _, rfl, rfl, ?_⟩
      refine ⟨_, rfl, c, M, rfl, h2, h3, h5, fun p M' H4 s4 np hp hA eM => ⟨p, _, rfl, .inl ⟨SqL.of hp, fun z nz => ?_⟩⟩⟩
      have s5 : Same H4 (upd H4 z (.tup (M'.map fun z => z.1))) := same_upd nz
      have s35 : Same H3 (upd H4 z (.tup (M'.map fun z => z.1))) := s4.trans s5
      have hz : upd H4 z (.tup (M'.map fun z => z.1)) z = some (.tup (M'.map fun z => z.1)) := upd_same
      generalize upd H4 z (.tup (M'.map fun z => z.1)) = H5 at s5 s35 hz
      have hD5 := s35 _ _ hD
      have T5 := hT.same s35
      have hk : KI H5 (.ref z) (prK G (asc G.length t.1)) := by
        have := pr_to hz fun y hy => (hA.same s5 y hy).1
        rw [eM, h4] at this
        exact this
      have dk : (prK G (asc G.length t.1)).depth ≤ 8 := by have := prK_depth G (asc G.length t.1); omega
      rw [List.length_map] at hi
      have le : es.length ≤ i := by
        have z1 := congrArg List.length hT.eq
        have z2 := FM.acc_len (nT G (L.take i))
        have z3 : (nT G (L.take i)).length ≤ i := by unfold nT; rw [List.length_map, List.length_take]; omega
        rw [List.length_map] at z1
        omega
      have isd : IsND P w H5 d (tmE G es) := ⟨.inl hD5, by unfold tmE; rw [List.length_map]; exact Nat.le_of_lt (small1000 (by omega)), sd, T5.keys⟩
      refine ⟨_, rfl, d, _, rfl, isd, _, rfl, z, _, _, rfl, isd, hk, dk, ?_⟩
      rw [tm_get PG T5 asc_bd]
      refine ⟨_, rfl, _, _, rfl, rfl, _, rfl, _, rfl, d, z, _, _, rfl, rfl, isd, hD5, hk, dk, ?_⟩
      obtain ⟨es', e1, e2⟩ := tm_put (c := t.2) PG T5 asc_bd hk
      rw [e1]
      refine ⟨es', _, _, _, rfl, (hb.same s35).trans But.upd, upd_same, ?_⟩
      have e6 : nT G (L.take (i + 1)) = nT G (L.take i) ++ [(asc G.length t.1, t.2)] := take_map ht
      rw [e6, FM.acc_snoc]
      exact e2.but But.upd hD5 fun xs z => by cases z
    · rintro σ H2 ⟨es, v3, v4, v5, rfl, hb, hD, hT⟩
      rw [List.length_map, List.take_length] at hT
      have s2 : Same H H2 := But.new hb rfl nd
      refine ⟨d, _, hD, trivial, fun od => ?_⟩
      refine ⟨_, rfl, d, od, tmE G es, rfl, upd_same, sd, fun D nD => ?_⟩
      have ndD : D ≠ d := fun z => by rw [z, upd_same] at nD; cases nD
      have nD2 : H2 D = none := by rw [upd_ne ndD] at nD; exact nD
      have le : es.length ≤ 100 := by
        have z1 := congrArg List.length hT.eq
        have z2 := FM.acc_len (nT G L)
        have z3 : (nT G L).length = L.length := by unfold nT; rw [List.length_map]
        rw [List.length_map] at z1
        omega
      have lt : (tmE G es).length = es.length := by unfold tmE; rw [List.length_map]
      refine lc_it (walk_itn) (fun i H3 => ∃ M : List (V × FM.Tm), But D (upd (upd H2 d (.frz od (ndO P w d (tmE G es)))) D (.lst [])) H3 ∧ H3 D = some (.lst (M.map fun z => z.1)) ∧ (∀ y ∈ M, KI H3 y.1 (tmK G y.2)) ∧ M.map (fun z => z.2) = ((accL (nT G L)).take i).filter fun t => decide (t.2 ≠ 0))
        ⟨[], But.refl, upd_same, (fun _ h => nomatch h), by simp⟩ (fun i H3 _ ⟨M, hb3, _⟩ => hb3 d _ (by rw [upd_ne (Ne.symm ndD), upd_same]; rfl) (Ne.symm ndD)) ?_ ?_
      · rintro i v H3 H4 hi ⟨M, hb3, hD3, hM, eM⟩ ⟨Tt, k, b, c, hk, rfl, nT', rfl⟩
        rw [lt] at hi
        obtain ⟨⟨b', t⟩, ht⟩ : ∃ p, es[i]? = some p := ⟨es[i], List.getElem?_eq_getElem hi⟩
        have hk' : (tmE G es)[i]? = some (prK G t.1, b', V.int t.2) := by unfold tmE; rw [List.getElem?_map, ht]; rfl
        rw [hk] at hk'
        obtain ⟨rfl, rfl, rfl⟩ : k = prK G t.1 ∧ b = b' ∧ c = V.int t.2 := by
          have := Option.some.inj hk'
          exact ⟨congrArg (·.1) this, congrArg (·.2.1) this, congrArg (·.2.2) this⟩
        have at_ : (accL (nT G L))[i]? = some t := by rw [← hT.eq, List.getElem?_map, ht]; rfl
        have s4 : Same H3 (upd H3 Tt (.tup [.ref b, .int t.2])) := same_upd nT'
        have hTt : upd H3 Tt (.tup [.ref b, .int t.2]) Tt = some (.tup [.ref b, .int t.2]) := upd_same
        generalize upd H3 Tt (.tup [.ref b, .int t.2]) = H4 at s4 hTt
        have hD4 := s4 _ _ hD3
        have lM : M.length ≤ 100 := by
          have z1 := congrArg List.length eM
          have z2 : (((accL (nT G L)).take i).filter fun t => decide (t.2 ≠ 0)).length ≤ i := Nat.le_trans (List.length_filter_le _ _) (by rw [List.length_take]; omega)
          rw [List.length_map] at z1
          omega
        have st := filt_take (f := fun t : FM.Tm => decide (t.2 ≠ 0)) at_
        have hkb : KI H4 (.ref b) (prK G t.1) := by
          have z := (hT.pr _ (List.mem_of_getElem? ht)).1
          have z1 : KI (upd H2 d (.frz od (ndO P w d (tmE G es)))) (.ref b) (prK G t.1) := ki_but z But.upd hD fun xs y => by cases y
          have z2 : KI H3 (.ref b) (prK G t.1) := z1.keep (fun c xs e => hb3 c _ (by rw [upd_ne (ne_of_none e nD)]; exact e) (ne_of_none e nD)) _ _
          exact z2.same s4
        refine ⟨Tt, _, rfl, SqT.of hTt, rfl, _, _, rfl, _, _, rfl, rfl, ?_⟩
        refine ⟨rfl, _, rfl, rfl, _, rfl, ?_⟩
        have ed : (!decide (V.int t.2 = V.int 0)) = decide (t.2 ≠ 0) := by
          by_cases z : t.2 = 0 <;> simp [z]
        rw [ed]
        by_cases z : t.2 = 0
        · rw [decide_eq_false (not_not_intro z)]
          rw [if_neg (by simp [z]), List.append_nil] at st
          refine iteF ⟨M, hb3.same s4, hD4, fun y hy => (hM y hy).same s4, by rw [eM, st]⟩
        · rw [decide_eq_true (show t.2 ≠ 0 from z)]
          rw [if_pos (by simp [z])] at st
          refine iteT ⟨_, rfl, _, rfl, by show 2 ≤ sizeLine; decide, fun T2 n2 => ?_⟩
          have s5 : Same H4 (upd H4 T2 (.tup [.ref b, .int t.2])) := same_upd n2
          have hT2 : upd H4 T2 (.tup [.ref b, .int t.2]) T2 = some (.tup [.ref b, .int t.2]) := upd_same
          generalize upd H4 T2 (.tup [.ref b, .int t.2]) = H5 at s5 hT2
          have hD5 := s5 _ _ hD4
          refine ⟨_, hD5, small1000 (by rw [List.length_map]; omega), M ++ [(.ref T2, t)], ((hb3.same s4).same s5).trans But.upd, by rw [upd_same, List.map_append]; rfl, fun y hy => ?_, by rw [List.map_append, eM, st]; rfl⟩
          refine ki_but ?_ But.upd hD5 fun xs z => by cases z
          rcases List.mem_append.mp hy with m | m
          · exact ((hM y m).same s4).same s5
          · rw [List.mem_singleton.mp m]; exact tm_to hT2 (hkb.same s5)
      · rintro H3 ⟨M, hb3, hD3, hM, eM⟩
        rw [lt] at eM
        have tk : (accL (nT G L)).take es.length = accL (nT G L) := List.take_of_length_le (by rw [← hT.eq, List.length_map]; exact Nat.le_refl _)
        rw [tk] at eM
        have fz : H3 d = some (.frz od (ndO P w d (tmE G es))) := hb3 d _ (by rw [upd_ne (Ne.symm ndD), upd_same]) (Ne.symm ndD)
        refine ⟨fz, ?_⟩
        have b4 : But d H2 (upd H3 d (ndO P w d (tmE G es))) := fun c o e nc => by
          rw [upd_ne nc]
          exact hb3 c o (by rw [upd_ne (ne_of_none e nD2), upd_ne nc]; exact e) (ne_of_none e nD2)
        have s4 : Same H (upd H3 d (ndO P w d (tmE G es))) := fun c o e => b4 c o (s2 c o e) (ne_of_none e nd)
        have hD4 : upd H3 d (ndO P w d (tmE G es)) D = some (.lst (M.map fun z => z.1)) := by rw [upd_ne ndD]; exact hD3
        have hM4 : ∀ y ∈ M, KI (upd H3 d (ndO P w d (tmE G es))) y.1 (tmK G y.2) := fun y hy => ki_but (hM y hy) But.upd fz fun xs z => by cases z
        generalize upd H3 d (ndO P w d (tmE G es)) = H4 at b4 s4 hD4 hM4
        have bdM : ∀ y ∈ M, y.2.1.length ≤ 100 ∧ ∀ k ∈ y.2.1, k < G.length := fun y hy => by
          have m1 : y.2 ∈ M.map fun z => z.2 := List.mem_map.mpr ⟨y, hy, rfl⟩
          rw [eM] at m1
          have := nT_bd (List.mem_filter.mp m1).1
          exact ⟨by omega, this.1⟩
        refine ⟨_, rfl, D, M, rfl, rfl, SqL.of hD4, fun y hy => ⟨hM4 y hy, bdM y hy⟩, fun p H5 np s5 hp => ?_⟩
        have pm := List.mergeSort_perm M (PySem.W.dataLe false fun z : V × FM.Tm => encP G z.2.1)
        have eS := sort_terms PG (M := M) fun y hy => (bdM y hy).2
        generalize (M.mergeSort (PySem.W.dataLe false fun z : V × FM.Tm => encP G z.2.1)) = MS at pm eS hp
        refine ⟨p, _, rfl, .inl ⟨SqL.of hp, fun t nt => ?_⟩⟩
        have s6 : Same H5 (upd H5 t (.tup (MS.map fun z => z.1))) := same_upd nt
        have ht : upd H5 t (.tup (MS.map fun z => z.1)) t = some (.tup (MS.map fun z => z.1)) := upd_same
        generalize upd H5 t (.tup (MS.map fun z => z.1)) = H6 at s6 ht
        have s46 : Same H4 H6 := s5.trans s6
        have s06 : Same H H6 := s4.trans s46
        have hx6 := s06 _ _ hx
        refine ⟨_, rfl, x, C, dx, _, rfl, hx6, FC.cl, FC.n1, (by show 0 < 1000; decide), ?_⟩
        rw [fput]
        have kt : KI H6 (.ref t) (tsK G (nrm (nT G L))) := by
          have := kis_map (H := H6) (f := fun u => tmK G u) (L := MS) fun y hy => (hM4 y (pm.mem_iff.mp hy)).same s46
          have e9 : (MS.map fun z => tmK G z.2) = (nrm (nT G L)).map (tmK G) := by
            rw [show (MS.map fun z => tmK G z.2) = (MS.map fun z => z.2).map (tmK G) by rw [List.map_map]; rfl, eS, eM]
            rfl
          rw [e9] at this
          exact .tup ht this
        exact q _ ⟨dx, t, upd_same, ki_but kt But.upd hx6 (fun xs z => by cases z), (nT_asc L).nrm⟩ fun c o e nc => by rw [upd_ne nc]; exact s06 c o e
end
end KP
set_option maxRecDepth 100000
set_option maxHeartbeats 4000000
/-! bool of an instance whose class has a __bool__, as a rule. -/
namespace FD
open PySem PySem.Spec PyProof.Rows L2 FS
theorem meets_boolI {P : Program} {w : World} (x : Addr) : MeetsIn P w (Builtin.«bool.__new__» ⟨[.type "bool", .ref x], []⟩)
    (fun A R s => wpAny (model P w) A.in1 (truthy (.ref x)) (fun b s' => R (.ok (.ret (.bool b))) s') (fun e s' => R (.error e) s') s) :=
  MeetsIn.of_wp fun A R s tru => by
    have sub := F.conv_sub_bool
    obtain ⟨h0, g0, d0, t0, o0⟩ := s
    repeat (any_goals (first | assumption | (with_reducible refine wpAny_mono tru (fun b s' hb => ?_) (fun e s' he => he)) | wp_step))
    all_goals first | exact ⟨_, rfl, by assumption⟩ | assumption | skip
section
variable {Y : Cx} {CX : CXT} {j : Nat} {g C : Addr} {gd : FuncData} {prm : List Str} {pm : Sp} {En : XK}
theorem call_boolI (at_ : PySem.W.findIn Y.K (.ref C) "__bool__" = some (some (.ref g))) (fn : PySem.W.isFn Y.K (.ref g) = true)
    (G : FnOk Y.prog Y.w Y.K Y.mg Y.base CX j g gd prm pm) (room : Room (j + 2) Y.A) (bind : Binds Y.K gd prm []) (pass : Passes CX Y En) :
    CallR Y (.type "bool") (fun xs H Q => ∃ a dx fs, xs = [.ref a] ∧ H a = some (.ins C dx fs) ∧ pm [.ref a] H (fun r H' => ∃ b, r = .bl b ∧ Q (.bl b) H') En) := by
  intro pins s σ H xs us Q J r hyp
  obtain ⟨a, dx, fs, rfl, ha, hs⟩ := hyp
  obtain rfl := Vals.ref1 r
  obtain ⟨m1, J1, _⟩ := ins_get J.hok ha
  obtain ⟨o1, J1, _⟩ := J1.look
  obtain ⟨m, fr⟩ := J.fr
  refine callType_newIn F.called_bool F.newNe_bool (F.typeCall_bool_1 _) (F.newCall_bool_1 _) (fun obj => F.args_object_init_2 obj _) F.entry_bool_new (meets_boolI a) ?_
  show wpAny (model Y.prog Y.w) Y.A.in1.in1 (truthy (.ref a)) _ _ s
  refine PySem.W.truthy_K fr J.ok.mod.kin J1 at_ fn ?_
  have e0 := J.env0
  have e1 : Env0 Y.prog Y.w Y.K Y.mg Y.base Y.A.in1.in1 Y.stack s H := ⟨e0.frames, e0.mod, e0.bs, e0.bsz, e0.funs, e0.frf, e0.hok, e0.bare⟩
  have hl := G.len _ _ _ _ hs
  have rm : Room j Y.A.in1.in1 := (show Room (j + 1) Y.A.in1 from Room.in1 room).in1
  refine wpAny_call (codeAny_mono (G.run _ Y.stack s H ⟨[.ref a], []⟩ [.ref a] [.ref a] _ En rm e1 (by
    have := bind s [.ref a] J.kIn (by simpa using hl)
    simpa using this) (.cons rfl .nil) hs) fun r s' hq => ?_)
  cases r with
  | error e => exact pass pins σ H s e s' J hq
  | ok fl =>
    cases fl with
    | ret v =>
      obtain ⟨z, H', J', rz, b, rfl, q⟩ := J.after hq
      obtain rfl : v = Value.bool b := rz
      refine ⟨?_, .bl b, H', J', rfl, q⟩
      first
        | exact typeIs_bool _ _
        | exact typeIs_bool _ _ _
        | rfl
    | next => exact False.elim hq
    | brk => exact False.elim hq
    | cont => exact False.elim hq
end
end FD
set_option maxRecDepth 100000
set_option maxHeartbeats 4000000
/-! Forms made, compared, added. -/
namespace KP
open PySem PySem.Spec PyProof.Rows L2 KT FS FD
open FM (asc addP accL coef nrm)
theorem tmK_depth (G : List Sg) (t : FM.Tm) : (tmK G t).depth ≤ 4 := by
  have := prK_depth G t.1
  simp only [tmK, NestedKey.depth, NestedKey.depthAll]
  omega
theorem tms_depth (G : List Sg) (N : List FM.Tm) : NestedKey.depthAll (N.map (tmK G)) ≤ 9 := depthAll_le fun k hk => by
  obtain ⟨t, _, rfl⟩ := List.mem_map.mp hk
  have := tmK_depth G t
  omega
theorem tmK_inj {G : List Sg} (P : Pool G) {t u : FM.Tm} (ht : ∀ k ∈ t.1, k < G.length) (hu : ∀ k ∈ u.1, k < G.length) (h : tmK G t = tmK G u) : t = u := by
  obtain ⟨p, c⟩ := t
  obtain ⟨q, d⟩ := u
  simp only [tmK, NestedKey.tup.injEq, List.cons.injEq, NestedKey.num.injEq, and_true] at h
  obtain ⟨h1, h2⟩ := h
  have h1 : p = q := prK_inj P ht hu h1
  rw [h1, h2]
theorem tms_inj {G : List Sg} (P : Pool G) : ∀ {A B : List FM.Tm}, (∀ t ∈ A, ∀ k ∈ t.1, k < G.length) → (∀ t ∈ B, ∀ k ∈ t.1, k < G.length) → A.map (tmK G) = B.map (tmK G) → A = B
  | [], [], _, _, _ => rfl
  | [], _ :: _, _, _, e => by simp at e
  | _ :: _, [], _, _, e => by simp at e
  | a :: A, b :: B, hA, hB, e => by
    rw [List.map_cons, List.map_cons, List.cons.injEq] at e
    rw [tmK_inj P (hA a List.mem_cons_self) (hB b List.mem_cons_self) e.1, tms_inj P (fun t ht => hA t (List.mem_cons_of_mem _ ht)) (fun t ht => hB t (List.mem_cons_of_mem _ ht)) e.2]
theorem asc_lt' {n : Nat} {A : List FM.Tm} (h : FM.AscT n A) : ∀ t ∈ A, ∀ k ∈ t.1, k < n := fun t ht => (h t ht).2
theorem nrm_len (T : List FM.Tm) : (nrm T).length ≤ T.length := by
  unfold nrm
  rw [List.length_mergeSort]
  exact Nat.le_trans (List.length_filter_le _ _) (FM.acc_len T)
/-- a product is a fine list of signs -/
theorem ti_of {K : PySem.W.Frag} {G : List Sg} {H : Hp} {v : V} {t : FM.Tm} (PG : Pool G) (h : KI H v (tmK G t)) (hb : t.1.Pairwise (· < ·) ∧ ∀ k ∈ t.1, k < G.length) : IsTi K G H v t := by
  obtain ⟨a, b, rfl, h1, h2⟩ := tm_of h
  obtain ⟨b', L, e, hT, eL, hs⟩ := pr_of h2
  obtain rfl := V.ref.inj e
  have hl : t.1.length ≤ G.length := by
    have := FM.asc_self hb.2 hb.1
    rw [← this]; exact asc_len
  refine ⟨a, b, L, rfl, h1, .inr (SqT.of hT), fun z hz => ⟨hs z hz, hb.2 _ (by rw [← eL]; exact List.mem_map.mpr ⟨z, hz, rfl⟩)⟩, eL, ?_⟩
  have := congrArg List.length eL
  rw [List.length_map] at this
  have := PG.len
  omega
/-- the terms of a form, one by one -/
theorem FmAt.terms {G : List Sg} {C : Addr} {H : Hp} {x : Addr} {N} (h : FmAt G C H x N) : ∃ (dx t : Addr) (L : List (V × FM.Tm)), H x = some (.ins C dx [("terms", .ref t)]) ∧ H t = some (.tup (L.map fun z : V × FM.Tm => z.1)) ∧ L.map (fun z => z.2) = N ∧ (∀ y ∈ L, KI H y.1 (tmK G y.2)) ∧ FM.AscT G.length N := by
  obtain ⟨dx, t, h1, h2, h3⟩ := h
  obtain ⟨a, vs, e, hT, hk⟩ := ki_tup h2
  obtain rfl := V.ref.inj e
  obtain ⟨L, e1, e2, hL⟩ := kis_of hk
  rw [← e1] at hT
  exact ⟨dx, t, L, h1, hT, e2, hL, h3⟩
theorem nT_id {G : List Sg} {L : List (V × FM.Tm)} (h : FM.AscT G.length (L.map fun z => z.2)) : nT G L = L.map fun z => z.2 := by
  unfold nT
  refine List.map_congr_left fun y hy => ?_
  obtain ⟨h1, h2⟩ := h y.2 (List.mem_map.mpr ⟨y, hy, rfl⟩)
  rw [FM.asc_self h2 h1]
structure FmkD (K : PySem.W.Frag) (mg : Str → Option Value) (P : Program) (w : World) (base : Heap) (G : List Sg) (C fi : Addr) (di : FuncData) : Prop where
  mkC : Mk K C fi
  ok : FnOk P w K mg base CX0 7 fi di ["self", "terms"] (spFInit K G C)
  b : Binds K di ["self", "terms"] []
structure FmI (K : PySem.W.Frag) (C : Addr) : Prop where
  ha : PySem.W.findIn K (.ref C) "__class__" = some (some (.builtin "object.__class__"))
  hn : PySem.W.specialIn K (.builtin "object.__class__") "__get__" = some (some (.builtin "getset_descriptor.__get__"))
  htk : PySem.W.takesIn K (.builtin "object.__class__") = some true
  hm : PySem.W.mroIn K C (.type "object") = some true
  me : PySem.W.kitOne K (.ref C) (.ref C) = some true
  tu : PySem.W.kitOne K (.type "tuple") (.ref C) = some false
theorem made {C x dx : Addr} {H : Hp} (nx : H x = none) (nd : H dx = none) : Same H (upd (upd H dx (.own x)) x (.ins C dx [])) ∧ upd (upd H dx (.own x)) x (.ins C dx []) x = some (.ins C dx []) :=
  ⟨fun c o e => by rw [upd_ne (ne_of_none e nx), upd_ne (ne_of_none e nd)]; exact e, upd_same⟩
theorem fm_made {K : PySem.W.Frag} {G : List Sg} {C : Addr} {H1 : Hp} {a : Addr} {L : List (V × FM.Tm)} {Q : VK} {E : XK} (hS : SqA K H1 a (L.map fun z => z.1)) (hL : ∀ y ∈ L, IsTi K G H1 y.1 y.2) (len : L.length ≤ 100)
    (k : ∀ x H', Same H1 H' → H1 x = none → FmAt G C H' x (nrm (nT G L)) → Q (.ref x) H') : ∀ x dx, H1 x = none → H1 dx = none → dx ≠ x → spFInit K G C (.ref x :: ([.ref a] ++ [])) (upd (upd H1 dx (.own x)) x (.ins C dx [])) (fun r H' => r = .non ∧ Q (.ref x) H') E := by
  intro x dx nx nd ne
  obtain ⟨s1, h1⟩ := made (C := C) nx nd
  exact ⟨x, dx, a, L, rfl, h1, hS.same s1, fun y hy => (hL y hy).same s1, len, fun H' hF hb => ⟨rfl, k x H' (fun c o e => hb c o (s1 c o e) (ne_of_none e nx)) nx hF⟩⟩
section
variable {P : Program} {w : World} {K : PySem.W.Frag} {mg : Str → Option Value} {base : Heap}
/-! as_form -/
/-- a form, or an int for one -/
def OtF (G : List Sg) (C : Addr) (H : Hp) (y : V) (M : List FM.Tm) : Prop := (∃ z, y = .ref z ∧ FmAt G C H z M) ∨ (∃ n, y = .int n ∧ M = nrm [([], n)])
theorem OtF.same {G C} {H H' : Hp} {y M} (h : OtF G C H y M) (s : Same H H') : OtF G C H' y M := h.elim (fun ⟨z, e, k⟩ => .inl ⟨z, e, k.same s⟩) .inr
def spAsForm (G : List Sg) (C : Addr) : Sp := fun vs H Q _ => ∃ y N, vs = [y] ∧ OtF G C H y N ∧ ∀ x H', Same H H' → FmAt G C H' x N → Q (.ref x) H'
theorem ok_asForm {G : List Sg} {C f fi : Addr} {fd di : FuncData} (F : Fun K "as_form" "as_form" sAsForm f fd) (B : Blt mg) (FC : FmC K mg C) (I : FmI K C) (ti : PySem.W.kitOne K (.type "int") (.ref C) = some false) (M : FmkD K mg P w base G C fi di) : FnOk P w K mg base CX0 9 f fd ["value"] (spAsForm G C) := by
  refine F.ok scAsForm (fun vs H Q E h => ?_) (fun cdv A outer s H vs Q E hr h => ?_)
  · obtain ⟨_, _, rfl, _⟩ := h
    rfl
  · obtain ⟨y, N, rfl, hF, q⟩ := h
    refine ⟨_, pss_one (ps_ret (pe_ifExp (pt_val (pe_callB call_isi (by rfl) B.isinstance (by decide +kernel) (pa_cons (pv 0) (pa_cons (pe_glob (v := .ref C) (by rfl) FC.mgC rfl) pa_nil)))) (pv 0)
      (pe_make M.mkC M.ok hr (by rfl) FC.mgC M.b .nil pass0 (pa_cons (pe_lst (pa_cons (pe_tup (pa_cons (pe_tup pa_nil) (pa_cons (pv 0) pa_nil))) pa_nil)) pa_nil)))), ?_⟩
    rcases hF with ⟨x, rfl, hF⟩ | ⟨n, rfl, rfl⟩
    · obtain ⟨dx, t, hx, _⟩ := id hF
      exact ⟨_, rfl, _, _, _, _, _, rfl, .own _, .base (.ins hx FC.cl I.ha I.hn I.htk I.hm), I.me, _, rfl, iteT ⟨_, rfl, q x H (Same.refl _) hF⟩⟩
    · refine ⟨_, rfl, _, _, _, _, _, rfl, .own _, .base (by constructor), ti, _, rfl, iteF ?_⟩
      refine ⟨by show 0 ≤ sizeLine; decide, fun t1 n1 => ?_⟩
      have s1 : Same H (upd H t1 (.tup [])) := same_upd n1
      have h1 : upd H t1 (.tup []) t1 = some (.tup []) := upd_same
      generalize upd H t1 (.tup []) = H1 at s1 h1
      refine ⟨_, rfl, by show 2 ≤ sizeLine; decide, fun t2 n2 => ?_⟩
      have s2 : Same H1 (upd H1 t2 (.tup [.ref t1, .int n])) := same_upd n2
      have h2 : upd H1 t2 (.tup [.ref t1, .int n]) t2 = some (.tup [.ref t1, .int n]) := upd_same
      generalize upd H1 t2 (.tup [.ref t1, .int n]) = H2 at s2 h2
      refine ⟨by show 1 ≤ sizeLine; decide, fun l nl => ?_⟩
      have s3 : Same H2 (upd H2 l (.lst [.ref t2])) := same_upd nl
      have h3 : upd H2 l (.lst [.ref t2]) l = some (.lst ([((V.ref t2), (([], n) : FM.Tm))].map fun z => z.1)) := upd_same
      generalize upd H2 l (.lst [.ref t2]) = H3 at s3 h3
      refine fm_made (L := [(.ref t2, ([], n))]) (.inl (SqL.of h3)) (fun z hz => ?_) (by show 1 ≤ 100; decide) fun z H' s4 nz hF => ?_
      · rw [List.mem_singleton.mp hz]
        exact ⟨t2, t1, [], rfl, s3 _ _ h2, .inr (SqT.of (s3 _ _ (s2 _ _ h1))), (fun _ h => nomatch h), rfl, by show 0 ≤ 900; decide⟩
      · have e : nT G [((V.ref t2), (([], n) : FM.Tm))] = [([], n)] := by
          show [(asc G.length [], n)] = _
          have : asc G.length [] = [] := by simp [asc]
          rw [this]
        rw [e] at hF
        exact q z H' (((s1.trans s2).trans s3).trans s4) hF
/-! __eq__ -/
def spFEq (G : List Sg) (C : Addr) : Sp := fun vs H Q _ => ∃ x N y, vs = [.ref x, y] ∧ FmAt G C H x N ∧ ((∃ z M, y = .ref z ∧ FmAt G C H z M ∧ Q (.bl (decide (N = M))) H) ∨ ∃ t xs, y = .ref t ∧ H t = some (.tup xs) ∧ Q (.bl false) H)
theorem ok_feq {G : List Sg} (PG : Pool G) {C f : Addr} {fd : FuncData} (F : Fun K "__eq__" "Form.__eq__" sFormEq f fd) (B : Blt mg) (FC : FmC K mg C) (I : FmI K C) : FnOk P w K mg base CX0 1 f fd ["self", "other"] (spFEq G C) := by
  refine F.ok scFormEq (fun vs H Q E h => ?_) (fun cdv A outer s H vs Q E hr h => ?_)
  · obtain ⟨_, _, _, rfl, _⟩ := h
    rfl
  · obtain ⟨x, N, y, rfl, ⟨dx, t, hx, hk, hN⟩, h2⟩ := h
    refine ⟨_, pss_one (ps_ret (pe_and (pe_callB call_isi (by rfl) B.isinstance (by decide +kernel) (pa_cons (pv 1) (pa_cons (pe_glob (v := .ref C) (by rfl) FC.mgC rfl) pa_nil)))
      (pe_one (pe_cmpR (op_eqK hr.units) (pe_fld (pv 0) rfl) (pe_fld (pv 1) rfl) (nomark _))))), ?_⟩
    rcases h2 with ⟨z, M, rfl, ⟨dz, u, hz, hk2, hM⟩, q⟩ | ⟨u, xs, rfl, hu, q⟩
    · refine ⟨_, rfl, _, _, _, _, _, rfl, .own _, .base (.ins hz FC.cl I.ha I.hn I.htk I.hm), I.me, _, rfl, iteT ?_⟩
      refine ⟨_, rfl, x, C, dx, _, _, rfl, hx, FC.cl, FC.n1, fmf_1 _, _, rfl, z, C, dz, _, _, rfl, hz, FC.cl, FC.n1, fmf_1 _, _, _, hk, hk2, tms_depth G N, ?_⟩
      have e : decide (N.map (tmK G) = M.map (tmK G)) = decide (N = M) := decide_eq_decide.mpr ⟨tms_inj PG (asc_lt' hN) (asc_lt' hM), fun z => by rw [z]⟩
      rw [e]
      exact q
    · exact ⟨_, rfl, _, _, _, _, _, rfl, .own _, .base (.tup hu), I.tu, _, rfl, iteF q⟩
/-! __bool__ -/
def spFBool (G : List Sg) (C : Addr) : Sp := fun vs H Q _ => ∃ x N, vs = [.ref x] ∧ FmAt G C H x N ∧ Q (.bl (!N.isEmpty)) H
theorem empty_map {α β : Type} {f : α → β} {l : List α} : (l.map f).isEmpty = l.isEmpty := by cases l <;> rfl
theorem ok_fbool {G : List Sg} {C f : Addr} {fd : FuncData} (F : Fun K "__bool__" "Form.__bool__" sFormBool f fd) (B : Blt mg) (FC : FmC K mg C) : FnOk P w K mg base CX0 1 f fd ["self"] (spFBool G C) := by
  refine F.ok scFormBool (fun vs H Q E h => ?_) (fun cdv A outer s H vs Q E hr h => ?_)
  · obtain ⟨_, _, rfl, _⟩ := h
    rfl
  · obtain ⟨x, N, rfl, hF, q⟩ := h
    obtain ⟨dx, t, L, hx, hT, eN, _⟩ := hF.terms
    refine ⟨_, pss_one (ps_ret (pe_callTy call_boolT (by rfl) B.bool (by decide +kernel) (pa_cons (pe_fld (pv 0) rfl) pa_nil))), ?_⟩
    refine ⟨_, rfl, x, C, dx, _, _, rfl, hx, FC.cl, FC.n1, fmf_1 _, t, _, rfl, SqT.of hT, ?_⟩
    rw [empty_map, ← empty_map (f := fun z : V × FM.Tm => z.2), eN]
    exact q
/-! __add__ -/
structure AfD (K : PySem.W.Frag) (mg : Str → Option Value) (P : Program) (w : World) (base : Heap) (G : List Sg) (C f : Addr) (fd : FuncData) : Prop where
  ok : FnOk P w K mg base CX0 9 f fd ["value"] (spAsForm G C)
  m : mg "as_form" = some (.ref f)
  k : PySem.W.keepIn K (.ref f) = true
  b : Binds K fd ["value"] []
def spFAdd (G : List Sg) (C : Addr) : Sp := fun vs H Q _ => ∃ x y N M, vs = [.ref x, y] ∧ FmAt G C H x N ∧ OtF G C H y M ∧ N.length ≤ 45 ∧ M.length ≤ 45 ∧ ∀ z H', Same H H' → H z = none → FmAt G C H' z (nrm (N ++ M)) → Q (.ref z) H'
theorem ok_fadd {G : List Sg} (PG : Pool G) {C f fi fa : Addr} {fd di da : FuncData} (F : Fun K "__add__" "Form.__add__" sFormAdd f fd) (FC : FmC K mg C) (M : FmkD K mg P w base G C fi di) (A : AfD K mg P w base G C fa da) : FnOk P w K mg base CX0 10 f fd ["self", "other"] (spFAdd G C) := by
  refine F.ok scFormAdd (fun vs H Q E h => ?_) (fun cdv Ar outer s H vs Q E hr h => ?_)
  · obtain ⟨_, _, _, _, rfl, _⟩ := h
    rfl
  · obtain ⟨x, y, N, N2, rfl, hx, hy, l1, l2, q⟩ := h
    obtain ⟨dx, t, L, ex, hT, eN, hL, aN⟩ := hx.terms
    refine ⟨_, pss_one (ps_ret (pe_make M.mkC M.ok (hr.mono (by decide)) (by rfl) FC.mgC M.b .nil pass0 (pa_cons (pe_lst (StX.pa_star (pe_fld (pv 0) rfl) (StX.pa_star (pe_fld (pe_call A.ok hr (by rfl) A.m A.k A.b .nil pass0 (pa_cons (pv 1) pa_nil)) rfl) pa_nil))) pa_nil))), ?_⟩
    refine ⟨_, rfl, x, C, dx, _, _, rfl, ex, FC.cl, FC.n1, fmf_1 _, t, _, rfl, .inl (SqT.of hT), ?_⟩
    refine ⟨_, rfl, y, N2, rfl, hy, fun y' H0' s0 hy' => ?_⟩
    obtain ⟨dy, u, L2, ey, hU, eM, hL2, aM⟩ := hy'.terms
    have hL := fun z hz => (hL z hz).same s0
    refine ⟨y', C, dy, _, _, rfl, ey, FC.cl, FC.n1, fmf_1 _, u, _, rfl, .inl (SqT.of hU), ?_⟩
    have eL : (L.map (fun z : V × FM.Tm => z.1)) ++ ((L2.map (fun z : V × FM.Tm => z.1)) ++ []) = (L ++ L2).map fun z => z.1 := by rw [List.append_nil, List.map_append]
    have e2 : (L ++ L2).map (fun z => z.2) = N ++ N2 := by rw [List.map_append, eN, eM]
    have ll : L.length + L2.length ≤ 90 := by
      have := congrArg List.length eN
      have := congrArg List.length eM
      simp only [List.length_map] at *
      omega
    refine ⟨by rw [eL, List.length_map, List.length_append]; exact Nat.le_of_lt (small1000 (by omega)), fun l nl => ?_⟩
    have s1 : Same H0' (upd H0' l (.lst ((L.map (fun z : V × FM.Tm => z.1)) ++ ((L2.map (fun z : V × FM.Tm => z.1)) ++ [])))) := same_upd nl
    have hl : upd H0' l (.lst ((L.map (fun z : V × FM.Tm => z.1)) ++ ((L2.map (fun z : V × FM.Tm => z.1)) ++ []))) l = some (.lst ((L ++ L2).map fun z => z.1)) := by rw [upd_same, eL]
    generalize upd H0' l (.lst ((L.map (fun z : V × FM.Tm => z.1)) ++ ((L2.map (fun z : V × FM.Tm => z.1)) ++ []))) = H1 at s1 hl
    have aT : FM.AscT G.length ((L ++ L2).map fun z => z.2) := by rw [e2]; exact aN.append aM
    refine fm_made (L := L ++ L2) (.inl (SqL.of hl)) (fun z hz => ?_) (by rw [List.length_append]; omega) fun z H' s2 nz hF => ?_
    · have hk : KI H0' z.1 (tmK G z.2) := by
        rcases List.mem_append.mp hz with m | m
        · exact hL z m
        · exact hL2 z m
      exact ti_of PG (hk.same s1) (aT z.2 (List.mem_map.mpr ⟨z, hz, rfl⟩))
    · rw [nT_id aT, e2] at hF
      exact q z H' ((s0.trans s1).trans s2) (s0.free (s1.free nz)) hF
/-! __neg__ -/
def spFNeg (G : List Sg) (C : Addr) : Sp := fun vs H Q _ => ∃ x N, vs = [.ref x] ∧ FmAt G C H x N ∧ N.length ≤ 45 ∧ ∀ z H', Same H H' → H z = none → FmAt G C H' z (nrm (FM.negT N)) → Q (.ref z) H'
theorem ok_fneg {G : List Sg} (PG : Pool G) {C f fi : Addr} {fd di : FuncData} (F : Fun K "__neg__" "Form.__neg__" sFormNeg f fd) (FC : FmC K mg C) (M : FmkD K mg P w base G C fi di) : FnOk P w K mg base CX0 9 f fd ["self"] (spFNeg G C) := by
  refine F.ok scFormNeg (fun vs H Q E h => ?_) (fun cdv Ar outer s H vs Q E hr h => ?_)
  · obtain ⟨_, _, rfl, _⟩ := h
    rfl
  · obtain ⟨x, N, rfl, hx, l1, q⟩ := h
    obtain ⟨dx, t, L, ex, hT, eN, hL, aN⟩ := hx.terms
    have lL : L.length ≤ 45 := by have := congrArg List.length eN; rw [List.length_map] at this; omega
    refine ⟨_, pss_one (ps_ret (pe_make M.mkC M.ok hr (by rfl) FC.mgC M.b .nil pass0 (pa_cons (pe_lc (own := [("product", 1), ("coefficient", 2)]) (g := gTup K 2 (gCons (gName 1) (gCons (gName 2) gNil))) (tt := tYes) rfl scFormNeg.nd (pi_tup (pe_fld (pv 0) rfl))
        (blkOk_by (N := ["self", "product", "coefficient"]) (sc := defScope sFormNeg) (by decide +kernel))
        (fun _ _ _ _ _ => pg_tup rfl (pgs_cons (pg_name (i := 1) scFormNeg.nd rfl (.inl rfl)) (pgs_cons (pg_name (i := 2) scFormNeg.nd rfl (.inl rfl)) pgs_nil)))
        (fun _ _ _ _ _ => pts_nil) (fun _ _ _ _ _ => pe_tup (pa_cons (pv 1) (pa_cons (pe_un un_neg (pv 2)) pa_nil)))) pa_nil))), ?_⟩
    refine ⟨_, rfl, x, C, dx, _, _, rfl, ex, FC.cl, FC.n1, fmf_1 _, t, rfl, ⟨_, SqT.of hT⟩, fun D nD => lc_it (walk_tup (K := K) (a := t) (xs := L.map fun z => z.1)) (fun i H2 => ∃ W : List (V × FM.Tm), But D (upd H D (.lst [])) H2 ∧ H2 D = some (.lst (W.map fun z => z.1)) ∧ (∀ y ∈ W, KI H2 y.1 (tmK G y.2)) ∧ W.map (fun z => z.2) = FM.negT (N.take i))
      ⟨[], But.refl, upd_same, (fun _ h => nomatch h), rfl⟩ (fun i H2 _ ⟨W, hb, _⟩ => SqT.of ((But.new hb rfl nD) _ _ hT)) ?_ ?_⟩
    · rintro i v H2 H3 hi ⟨W, hb, hD, hW, eW⟩ ⟨rfl, hv⟩
      obtain ⟨c, hc⟩ := at_map hv
      have s2 : Same H H3 := But.new hb rfl nD
      obtain ⟨a, b, rfl, h1, h2⟩ := tm_of ((hL _ (List.mem_of_getElem? hc)).same s2)
      rw [List.length_map] at hi
      have lW : W.length ≤ 45 := by
        have := congrArg List.length eW
        unfold FM.negT at this
        rw [List.length_map, List.length_map, List.length_take] at this
        omega
      have nN : N[i]? = some c := by rw [← eN, List.getElem?_map, hc]; rfl
      refine ⟨a, _, rfl, SqT.of h1, rfl, _, _, rfl, _, _, rfl, rfl, ?_⟩
      refine ⟨rfl, yes_i ⟨_, rfl, _, rfl, _, rfl, by show 2 ≤ sizeLine; decide, fun T nT => ?_⟩⟩
      have s3 : Same H3 (upd H3 T (.tup [.ref b, .int (-c.2)])) := same_upd nT
      have hTt : upd H3 T (.tup [.ref b, .int (-c.2)]) T = some (.tup [.ref b, .int (-c.2)]) := upd_same
      generalize upd H3 T (.tup [.ref b, .int (-c.2)]) = H4 at s3 hTt
      have hD4 := s3 _ _ hD
      refine ⟨_, hD4, small1000 (by rw [List.length_map]; omega), W ++ [(.ref T, (c.1, -c.2))], (hb.same s3).trans But.upd, by rw [upd_same, List.map_append]; rfl, fun y hy => ?_, ?_⟩
      · refine ki_but ?_ But.upd hD4 fun xs z => by cases z
        rcases List.mem_append.mp hy with m | m
        · exact (hW y m).same s3
        · rw [List.mem_singleton.mp m]; exact tm_to hTt (h2.same s3)
      · rw [List.map_append, eW]
        unfold FM.negT
        exact (take_map (f := fun t : FM.Tm => (t.1, -t.2)) nN).symm
    · rintro H2 ⟨W, hb, hD, hW, eW⟩
      have s2 : Same H H2 := But.new hb rfl nD
      have lt : (L.map fun z : V × FM.Tm => z.1).length = N.length := by rw [← eN, List.length_map, List.length_map]
      rw [lt, List.take_length] at eW
      have aW : FM.AscT G.length (W.map fun z => z.2) := by rw [eW]; exact aN.neg
      have lW : W.length ≤ 45 := by
        have := congrArg List.length eW
        unfold FM.negT at this
        rw [List.length_map, List.length_map] at this
        omega
      refine fm_made (L := W) (.inl (SqL.of hD)) (fun z hz => ti_of PG (hW z hz) (aW z.2 (List.mem_map.mpr ⟨z, hz, rfl⟩))) (by omega) fun z H' s3 nz hF => ?_
      rw [nT_id aW, eW] at hF
      exact q z H' (s2.trans s3) (s2.free nz) hF
/-! __sub__ -/
structure OpD (K : PySem.W.Frag) (mg : Str → Option Value) (P : Program) (w : World) (base : Heap) (C : Addr) (n : Str) (j : Nat) (f : Addr) (fd : FuncData) (ps : List Str) (sp : Sp) : Prop where
  ok : FnOk P w K mg base CX0 j f fd ps sp
  at_ : PySem.W.findIn K (.ref C) n = some (some (.ref f))
  fn : PySem.W.isFn K (.ref f) = true
  b : Binds K fd ps []
def spFSub (G : List Sg) (C : Addr) : Sp := fun vs H Q _ => ∃ x y N M, vs = [.ref x, y] ∧ FmAt G C H x N ∧ OtF G C H y M ∧ N.length ≤ 45 ∧ M.length ≤ 45 ∧ ∀ z H', Same H H' → H z = none → FmAt G C H' z (nrm (N ++ FM.negT M)) → Q (.ref z) H'
theorem ok_fsub {G : List Sg} {C f fa fn f2 : Addr} {fd da dn d2 : FuncData} (F : Fun K "__sub__" "Form.__sub__" sFormSub f fd) (sf : PySem.W.selfFirst K C = true) (A : AfD K mg P w base G C fa da) (N : OpD K mg P w base C "__neg__" 9 fn dn ["self"] (spFNeg G C)) (D : OpD K mg P w base C (PySem.dunder Operator.Add.info.2) 10 f2 d2 ["self", "other"] (spFAdd G C)) :
    FnOk P w K mg base CX0 11 f fd ["self", "other"] (spFSub G C) := by
  refine F.ok scFormSub (fun vs H Q E h => ?_) (fun cdv Ar outer s H vs Q E hr h => ?_)
  · obtain ⟨_, _, _, _, rfl, _⟩ := h
    rfl
  · obtain ⟨x, y, N1, N2, rfl, hx, hy, l1, l2, q⟩ := h
    refine ⟨_, pss_one (ps_ret (pe_op (op_own sf D.at_ D.fn D.ok hr D.b pass0) (pv 0) (pe_un (un_negO N.at_ N.fn N.ok (hr.mono (by decide)) N.b pass0) (pe_call A.ok (hr.mono (by decide)) (by rfl) A.m A.k A.b .nil pass0 (pa_cons (pv 1) pa_nil))))), ?_⟩
    obtain ⟨dx, _, ex, _⟩ := id hx
    refine ⟨_, rfl, _, rfl, y, N2, rfl, hy, fun y' H0' s0 hy' => ?_⟩
    obtain ⟨dy, _, ey, _⟩ := id hy'
    refine ⟨y', dy, _, rfl, ey, y', N2, rfl, hy', l2, fun z H1 s1 nz hz => ?_⟩
    obtain ⟨dz, _, ez, _⟩ := id hz
    have ln : (nrm (FM.negT N2)).length ≤ 45 := Nat.le_trans (nrm_len _) (by unfold FM.negT; rw [List.length_map]; exact l2)
    refine ⟨x, z, _, _, _, _, rfl, rfl, s1 _ _ (s0 _ _ ex), ez, x, .ref z, N1, _, rfl, hx.same (s0.trans s1), .inl ⟨z, rfl, hz⟩, l1, ln, fun u H2 s2 nu hu => ⟨⟨u, rfl⟩, ?_⟩⟩
    have e : nrm (N1 ++ nrm (FM.negT N2)) = nrm (N1 ++ FM.negT N2) := FM.nrm_congr fun p => by rw [FM.coef_append, FM.coef_append, FM.nrm_coef]
    rw [e] at hu
    exact q u H2 ((s0.trans s1).trans s2) (s0.free (s1.free nu)) hu
end
end KP
set_option maxRecDepth 100000
set_option maxHeartbeats 4000000
/-! when. -/
namespace KP
open PySem PySem.Spec PyProof.Rows L2 KT FS FD
open FM (asc addP accL coef nrm vT)
abbrev nWh : List Str := ["self", "signs", "true", "sign", "product", "coefficient"]
theorem lookup_re {env : Env} {x : Str} : ∀ {names : List (Str × NameKind)}, (names.lookup x = some .cell ∨ names.lookup x = some .free) →
    (names.map fun (n, k) => if (k == NameKind.free && env.scope.kind == .function && env.kindOf n == some .cell) then (n, NameKind.cell) else (n, k)).lookup x = some .cell ∨
    (names.map fun (n, k) => if (k == NameKind.free && env.scope.kind == .function && env.kindOf n == some .cell) then (n, NameKind.cell) else (n, k)).lookup x = some .free
  | [], h => by simp at h
  | (n, k) :: r, h => by
    have ih := @lookup_re env x r
    by_cases c : (k == NameKind.free && env.scope.kind == .function && env.kindOf n == some .cell) = true
    · show List.lookup x ((if (k == NameKind.free && env.scope.kind == .function && env.kindOf n == some .cell) = true then (n, NameKind.cell) else (n, k)) :: _) = _ ∨ List.lookup x ((if (k == NameKind.free && env.scope.kind == .function && env.kindOf n == some .cell) = true then (n, NameKind.cell) else (n, k)) :: _) = _
      rw [if_pos c]
      cases hx : x == n with
      | true => simp only [List.lookup_cons, hx]; exact .inl trivial
      | false =>
        simp only [List.lookup_cons, hx] at h ⊢
        exact ih h
    · show List.lookup x ((if (k == NameKind.free && env.scope.kind == .function && env.kindOf n == some .cell) = true then (n, NameKind.cell) else (n, k)) :: _) = _ ∨ List.lookup x ((if (k == NameKind.free && env.scope.kind == .function && env.kindOf n == some .cell) = true then (n, NameKind.cell) else (n, k)) :: _) = _
      rw [if_neg c]
      cases hx : x == n with
      | true => simp only [List.lookup_cons, hx] at h ⊢; exact h
      | false =>
        simp only [List.lookup_cons, hx] at h ⊢
        exact ih h
/-- a comprehension within another -/
theorem blkOk_re {N : List Str} {sc scope : Scope} {own : List (Str × Nat)} {env : Env} (h : blkC N sc scope own = true) : BlkOk N (relabel sc env) scope own := by
  obtain ⟨h1, h2, h3, h4, h5⟩ := blkOk_by h
  exact ⟨h1, h2, h3, fun y hy e => lookup_re (h4 y hy e), h5⟩
/-- the scope of the outer comprehension -/
def scWh : Scope := { kind := ScopeKind.function, names := [(".0", .local), ("product", .local), ("coefficient", .local), ("all", .globalImplicit), ("true", .free)], isGenerator := false, isCoroutine := false }
def spWhen (K : PySem.W.Frag) (G : List Sg) (C : Addr) : Sp := fun vs H Q _ => ∃ (x a : Addr) (N : List FM.Tm) (L : List (V × Nat)), vs = [.ref x, .ref a] ∧ FmAt G C H x N ∧ SqA K H a (L.map fun z => z.1) ∧ SgA G H L ∧ L.length ≤ 900 ∧ N.length ≤ 45 ∧
  ∀ H', Same H H' → Q (.int (vT N fun k => decide (k ∈ L.map fun z => z.2))) H'
theorem vT_take {N : List FM.Tm} {b : Nat → Bool} {i : Nat} {t : FM.Tm} (h : N[i]? = some t) : ((N.take (i + 1)).filter fun t => t.1.all b).map (fun t => t.2) = ((N.take i).filter fun t => t.1.all b).map (fun t => t.2) ++ (if t.1.all b = true then [t.2] else []) := by
  rw [filt_take h, List.map_append]
  congr 1
  split <;> rfl
section
variable {P : Program} {w : World} {K : PySem.W.Frag} {mg : Str → Option Value} {base : Heap}
theorem ok_when {G : List Sg} (PG : Pool G) {C f : Addr} {fd : FuncData} (F : Fun K "when" "Form.when" sFormWhen f fd) (B : Blt mg) (hsum : mg "sum" = none) (FC : FmC K mg C) : FnOk P w K mg base CX0 1 f fd ["self", "signs"] (spWhen K G C) := by
  refine F.ok scFormWhen (fun vs H Q E h => ?_) (fun cdv A outer s H vs Q E hr h => ?_)
  · obtain ⟨_, _, _, _, rfl, _⟩ := h
    rfl
  · obtain ⟨x, a, N, L, rfl, hx, hS, hA, hl, ln, q⟩ := h
    obtain ⟨dx, t, M, ex, hT, eN, hM, aN⟩ := hx.terms
    have hu := hr.units
    refine ⟨_, pss_cons (ps_set (i := 2) scFormWhen.nd rfl (.inr rfl) (pe_dcn (own := [("sign", 3)]) (g := gName 3) hu rfl scFormWhen.nd (pi_seqA (pv 1))
          (blkOk_by (N := nWh) (sc := defScope sFormWhen) (by decide +kernel)) (fun _ _ _ _ _ => pg_name (i := 3) scFormWhen.nd rfl (.inl rfl)) (fun _ _ _ _ _ => pv 3) (fun _ _ _ _ _ => pe_bl)))
      (pss_one (ps_ret (pe_callB (cr_sum rfl) (by rfl) hsum (by decide +kernel) (pa_cons (pe_lc (own := [("product", 4), ("coefficient", 5)]) (g := gTup K 2 (gCons (gName 4) (gCons (gName 5) gNil))) rfl scFormWhen.nd (pi_tup (pe_fld (pv 0) rfl))
          (blkOk_by (N := nWh) (sc := defScope sFormWhen) (by decide +kernel))
          (fun _ _ _ _ _ => pg_tup rfl (pgs_cons (pg_name (i := 4) scFormWhen.nd rfl (.inl rfl)) (pgs_cons (pg_name (i := 5) scFormWhen.nd rfl (.inl rfl)) pgs_nil)))
          (fun _ _ _ _ _ => pts_one (pt_val (pe_callB (show CallR _ (.builtin "all") (rAll K) from cr_all rfl) (by rfl) B.all (by decide +kernel) (pa_cons (pe_lc (own := [("sign", 3)]) (g := gName 3) (tt := tYes) rfl scFormWhen.nd (show PI _ _ _ (iTup K (tVar 4)) from pi_tup (pv 4))
            (blkOk_re (N := nWh) (sc := scWh) (by decide +kernel)) (fun _ _ _ _ _ => pg_name (i := 3) scFormWhen.nd rfl (.inl rfl)) (fun _ _ _ _ _ => pts_nil) (fun _ _ _ _ _ => pe_cmpR (show OpR _ _ (rNIn P w) from op_nin hu) (pv 3) (pv 2) rfl)) pa_nil))))
          (fun _ _ _ _ _ => pv 5)) pa_nil)))), ?_⟩
    refine ⟨_, rfl, a, _, rfl, hS, fun J wk D nD sD => ⟨_, _, _, fun i H2 => ∃ ds, But D (upd H D (ndO P w D [])) H2 ∧ H2 D = some (ndO P w D (sgE G ds)) ∧ SgD G H2 ds ((L.take i).map fun z => z.2) ∧ ds.length ≤ i, wk, ?_, ?_, ?_, ?_⟩⟩
    · exact ⟨[], But.refl, upd_same, ⟨fun _ h => (nomatch h), List.nodup_nil, fun k => by simp⟩, Nat.le_refl _⟩
    · exact fun i H2 _ ⟨ds, hb, _⟩ => But.new hb rfl nD
    · rintro H2 ⟨ds, hb, hD, hs, hl2⟩
      have s2 : Same H H2 := But.new hb rfl nD
      rw [List.length_map] at hl2
      rw [List.length_map, List.take_length] at hs
      have isd : ∀ {H3}, Same H2 H3 → IsND P w H3 D (sgE G ds) := fun s => ⟨.inl (s _ _ hD), by unfold sgE; rw [List.length_map]; exact Nat.le_trans (show ds.length ≤ 1000 by omega) (by decide), sD, (hs.same s).keys⟩
      have hT2 := s2 _ _ hT
      refine ⟨_, rfl, x, C, dx, _, _, rfl, s2 _ _ ex, FC.cl, FC.n1, fmf_1 _, t, rfl, ⟨_, SqT.of hT2⟩, fun D2 n2 => lc_it (walk_tup (K := K) (a := t) (xs := M.map fun z => z.1)) (fun i H3 => But D2 (upd H2 D2 (.lst [])) H3 ∧
          H3 D2 = some (.lst ((((N.take i).filter fun t => t.1.all fun k => decide (k ∈ L.map fun z => z.2)).map fun t => t.2).map V.int)))
        ⟨But.refl, by rw [upd_same]; simp⟩ (fun i H3 _ hb3 => SqT.of ((But.new hb3.1 rfl n2) _ _ hT2)) ?_ ?_⟩
      · rintro i v H3 H4 hi ⟨hb3, hD3⟩ ⟨rfl, hv⟩
        obtain ⟨c, hc⟩ := at_map hv
        have s3 : Same H2 H4 := But.new hb3 rfl n2
        obtain ⟨e, b, rfl, h1, h2⟩ := tm_of ((hM _ (List.mem_of_getElem? hc)).same (s2.trans s3))
        obtain ⟨b', Lp, eb, hTp, eL, hsg⟩ := pr_of h2
        obtain rfl := V.ref.inj eb
        have nN : N[i]? = some c := by rw [← eN, List.getElem?_map, hc]; rfl
        have bdc : ∀ k ∈ c.1, k < G.length := (aN c (List.mem_of_getElem? nN)).2
        have lc : c.1.length ≤ 5 := by
          have z := FM.asc_self bdc (aN c (List.mem_of_getElem? nN)).1
          have z2 := asc_len (n := G.length) (ks := c.1)
          have := PG.len
          rw [z] at z2
          omega
        have lLp : Lp.length = c.1.length := by rw [← eL, List.length_map]
        refine ⟨e, _, rfl, SqT.of h1, rfl, _, _, rfl, _, _, rfl, rfl, ?_⟩
        refine ⟨rfl, _, rfl, b, rfl, ⟨_, SqT.of hTp⟩, fun D3 n3 => lc_it (walk_tup (K := K) (a := b) (xs := Lp.map fun z => z.1)) (fun j H5 => But D3 (upd H4 D3 (.lst [])) H5 ∧ H5 D3 = some (.lst (((c.1.take j).map fun k => decide (k ∈ L.map fun z => z.2)).map V.bl)))
          ⟨But.refl, upd_same⟩ (fun j H5 _ hb5 => SqT.of ((But.new hb5.1 rfl n3) _ _ hTp)) ?_ ?_⟩
        · rintro j u H5 H6 hj ⟨hb5, hD5⟩ ⟨rfl, hv5⟩
          obtain ⟨k, hk⟩ := at_map hv5
          have s5 : Same H4 H6 := But.new hb5 rfl n3
          have ck : c.1[j]? = some k := by rw [← eL, List.getElem?_map, hk]; rfl
          have kb := bdc k (List.mem_of_getElem? ck)
          have sg := (hsg _ (List.mem_of_getElem? hk)).same s5
          obtain ⟨g, cs, eg, _, _⟩ := id sg
          have eg : u = V.ref g := eg
          subst eg
          have dk : (sgK (at' G k)).depth ≤ 8 := by have := sgK_depth (at' G k); omega
          refine ⟨rfl, yes_i ⟨_, rfl, _, rfl, g, D, sgE G ds, sgK (at' G k), rfl, rfl, isd (s3.trans s5), sg.ki, dk, _, hD5, small1000 (by rw [List.length_map, List.length_map, List.length_take]; omega), hb5.trans But.upd, ?_⟩⟩
          rw [upd_same, nval_sg PG kb fun d hd => (hs.sg d hd).2, take_map ck, List.map_append]
          rw [show decide (k ∈ ds.map fun d => d.2) = decide (k ∈ L.map fun z => z.2) from decide_eq_decide.mpr (hs.mem k)]
          rfl
        · rintro H5 ⟨hb5, hD5⟩
          have s5 : Same H4 H5 := But.new hb5 rfl n3
          have el : (Lp.map fun z : V × Nat => z.1).length = c.1.length := by rw [List.length_map, lLp]
          rw [el, List.take_length] at hD5
          refine ⟨D3, _, rfl, SqL.of hD5, _, rfl, ?_⟩
          have ea : ((c.1.map fun k => decide (k ∈ L.map fun z => z.2)).all id) = c.1.all fun k => decide (k ∈ L.map fun z => z.2) := by
            rw [List.all_map]; rfl
          rw [ea]
          have st := vT_take (b := fun k => decide (k ∈ L.map fun z => z.2)) nN
          have ll : ((((N.take i).filter fun t => t.1.all fun k => decide (k ∈ L.map fun z => z.2)).map fun t => t.2).map V.int).length ≤ 1000 := by
            rw [List.length_map, List.length_map]
            exact Nat.le_trans (List.length_filter_le _ _) (by rw [List.length_take]; omega)
          have hD6 := s5 _ _ hD3
          cases cc : c.1.all fun k => decide (k ∈ L.map fun z => z.2) with
          | false =>
            rw [cc, if_neg Bool.false_ne_true, List.append_nil] at st
            refine iteF ⟨hb3.same s5, ?_⟩
            rw [st]
            exact hD6
          | true =>
            rw [cc, if_pos rfl] at st
            refine iteT ⟨_, rfl, _, hD6, Nat.lt_of_le_of_lt ll (by decide), (hb3.same s5).trans But.upd, ?_⟩
            rw [upd_same, st, List.map_append]
            rfl
      · rintro H3 ⟨hb3, hD3⟩
        have el : (M.map fun z : V × FM.Tm => z.1).length = N.length := by rw [← eN, List.length_map, List.length_map]
        rw [el, List.take_length] at hD3
        exact ⟨D2, _, rfl, SqL.of hD3, q H3 (s2.trans (But.new hb3 rfl n2))⟩
    · rintro i v H2 H3 hi ⟨ds, hb, hD, hs, hl2⟩ ⟨rfl, hx⟩
      obtain ⟨k, hk⟩ := at_map hx
      have s2 : Same H H3 := But.new hb rfl nD
      obtain ⟨hg, hkb⟩ := hA _ (List.mem_of_getElem? hk)
      obtain ⟨b, c, eb, h1, h2⟩ := hg.same s2
      have eb : v = V.ref b := eb
      subst eb
      have hsg : IsSg H3 (.ref b) (at' G k) := ⟨b, c, rfl, h1, h2⟩
      have hdp := sgK_depth (at' G k)
      refine ⟨rfl, ?_⟩
      refine ⟨_, rfl, b, sgE G ds, sgK (at' G k), rfl, ⟨.inl hD, by unfold sgE; rw [List.length_map]; exact Nat.le_trans (show ds.length ≤ 1000 by rw [List.length_map] at hi; omega) (by decide), sD, hs.keys⟩, hD, hsg.ki, by omega, ?_⟩
      obtain ⟨ds', e1, e2, e3⟩ := sgE_put PG hs hkb hsg
      rw [e1]
      refine ⟨ds', hb.trans But.upd, upd_same, ?_, by omega⟩
      have e6 : ((L.take (i + 1)).map fun z => z.2) = ((L.take i).map fun z => z.2) ++ [k] := take_map hk
      rw [e6]
      exact e2.but But.upd hD fun xs z => by cases z
end
end KP
set_option maxRecDepth 100000
set_option maxHeartbeats 4000000
/-! The law's names. -/
namespace KP
open PySem PySem.Spec PyProof.Rows L2 KT FS FD
theorem but_new {a D : Addr} {H H1 : Hp} {o : HO} (b : But a H H1) (n : H D = none) : But a H (upd H1 D o) := fun c u e nc => by rw [upd_ne (ne_of_none e n)]; exact b c u e nc
theorem PotAt.upd {a D : Addr} {H : Hp} {o : HO} (p : PotAt H a) (n : a ≠ D) : PotAt (L2.upd H D o) a := let ⟨x, y, e, r⟩ := p; ⟨x, y, by rw [upd_ne n]; exact e, r⟩
theorem PotAt.ne {a D : Addr} {H : Hp} (p : PotAt H a) (n : H D = none) : a ≠ D := let ⟨_, _, e, _⟩ := p; ne_of_none e n
/-- what the law's names are drawn from -/
structure DrwD (K : PySem.W.Frag) (mg : Str → Option Value) (P : Program) (w : World) (base : Heap) (fr : Addr) (dr : FuncData) : Prop where
  ok : FnOk P w K mg base CX0 1 fr dr ["_law_pot_here", "_law_many"] spDraw
  m : mg "_law_draw" = some (.ref fr)
  k : PySem.W.keepIn K (.ref fr) = true
  b : Binds K dr ["_law_pot_here", "_law_many"] []
def lts : Str := "abcdefghijklmnopqrstuvwxyz"
def sgs : Str := lts ++ "0123456789"
theorem lts_len : lts.cps.size = 26 := by decide +kernel
theorem sgs_len : sgs.cps.size = 36 := by decide +kernel
theorem one_sign {z : Str} {n : Int} (h0 : 0 ≤ n) (h1 : n < z.length) : ∃ c, z.cps[n.toNat]? = some c := ⟨z.cps[n.toNat]'(by have h1 : n < ((z.cps.size : Nat) : Int) := h1; omega), Array.getElem?_eq_getElem _⟩
def spNames : Sp := fun vs H Q _ => ∃ (a : Addr) (k : Nat), vs = [.ref a, .int (k : Int)] ∧ PotAt H a ∧ k ≤ 4 ∧ ∀ (ns : List Str) l H', ns.length = k → ns.Nodup → H l = none → PotAt H' a → But a H H' → H' l = some (.lst (ns.map V.str)) → Q (.ref l) H'
/-- the names, one by one -/
def nmC (s m : Int) (i : Nat) : Nat := lts.cps.getD ((s + (i : Int) * m) % 26).toNat 0
def nmB (z : Str) (p s m : Int) (i : Nat) : Str := (cutS z none (some p) ++ (⟨#[nmC s m i]⟩ : Str)) ++ cutS z (some p) none
def nmS (z : Str) (p s m : Int) (i : Nat) : Str := if inV (.str (nmB z p s m i)) [.str "key", .str "there"] = true then nmB z p s m i ++ "x" else nmB z p s m i
theorem lts_inj : ∀ i, i < 26 → ∀ j, j < 26 → lts.cps.getD i 0 = lts.cps.getD j 0 → i = j := by decide +kernel
theorem str_cps {a b : Str} (h : a = b) : a.cps.toList = b.cps.toList := by rw [h]
theorem cps_app (a b : Str) : (a ++ b).cps.toList = a.cps.toList ++ b.cps.toList := Array.toList_append
theorem nmB_inj {z : Str} {p s m : Int} {i j : Nat} (hm : m = 1 ∨ m = 25 ∨ m = 7) (hi : i < 4) (hj : j < 4) (h : nmB z p s m i = nmB z p s m j) : i = j := by
  have h := str_cps h
  unfold nmB at h
  rw [cps_app, cps_app, cps_app, cps_app, List.append_cancel_right_eq, List.append_cancel_left_eq] at h
  have h : nmC s m i = nmC s m j := by simpa using h
  unfold nmC at h
  have r0 : 0 ≤ (s + (i : Int) * m) % 26 := Int.emod_nonneg _ (by decide)
  have r1 : (s + (i : Int) * m) % 26 < 26 := Int.emod_lt_of_pos _ (by decide)
  have q0 : 0 ≤ (s + (j : Int) * m) % 26 := Int.emod_nonneg _ (by decide)
  have q1 : (s + (j : Int) * m) % 26 < 26 := Int.emod_lt_of_pos _ (by decide)
  have e := lts_inj _ (by omega) _ (by omega) h
  rcases hm with rfl | rfl | rfl <;> omega
theorem nmB_len (z : Str) (p s m : Int) (i j : Nat) : (nmB z p s m i).length = (nmB z p s m j).length := by
  unfold nmB
  rw [PySem.Str.length_append, PySem.Str.length_append, PySem.Str.length_append, PySem.Str.length_append]
  rfl
theorem nmS_inj {z : Str} {p s m : Int} {i j : Nat} (hm : m = 1 ∨ m = 25 ∨ m = 7) (hi : i < 4) (hj : j < 4) (h : nmS z p s m i = nmS z p s m j) : i = j := by
  have lx : ("x" : Str).length = 1 := by decide +kernel
  have ll := nmB_len z p s m i j
  refine nmB_inj (z := z) (p := p) (s := s) hm hi hj ?_
  unfold nmS at h
  split at h <;> split at h
  · have h := str_cps h
    rw [cps_app, cps_app, List.append_cancel_right_eq] at h
    generalize nmB z p s m i = a at h
    generalize nmB z p s m j = b at h
    obtain ⟨⟨a⟩⟩ := a
    obtain ⟨⟨b⟩⟩ := b
    have h : a = b := h
    rw [h]
  · have := congrArg PySem.Str.length h
    rw [PySem.Str.length_append] at this
    omega
  · have := congrArg PySem.Str.length h
    rw [PySem.Str.length_append] at this
    omega
  · exact h
theorem nms_nd {z : Str} {p s m : Int} {k : Nat} (hm : m = 1 ∨ m = 25 ∨ m = 7) (hk : k ≤ 4) : ((List.range k).map (nmS z p s m)).Nodup := by
  unfold List.Nodup
  rw [List.pairwise_map]
  refine (List.pairwise_lt_range (n := k)).imp_of_mem fun {a b} ha hb h e => ?_
  have ha := List.mem_range.mp ha
  have hb := List.mem_range.mp hb
  have := nmS_inj hm (by omega) (by omega) e
  omega
abbrev nNm : List Str := ["_law_pot_here", "_law_many", "_law_letters", "_law_signs_here", "_law_step", "_law_start", "_law_k", "_law_stem", "_law_place", "_law_found", "_law_name"]
section
variable {P : Program} {w : World} {K : PySem.W.Frag} {mg : Str → Option Value} {base : Heap} {f : Addr} {cdv : Value} {A : Around} {outer : List Env} {st : Shared} {H0 : Hp} {E : XK}
theorem nm7 (B : Blt mg) : ∃ u, PSs (cxOf CX0 P w K mg base nNm "_law_names" (defScope sLNames) f cdv A outer st H0 E).nox ((defBody sLNames).drop 7) u ∧
    ∀ (Q : VK) (a : Addr) (k : Nat) (m s p : Int) (z : Str) (v6 : Option V) (H : Hp), k ≤ 4 → (m = 1 ∨ m = 25 ∨ m = 7) → 0 ≤ s → s < 26 → z.length ≤ 11 →
      (∀ (ns : List Str) l H', ns.length = k → ns.Nodup → H l = none → Same H H' → H' l = some (.lst (ns.map V.str)) → Q (.ref l) H') →
      u { nx := fun _ H' => Q .non H', rt := Q } [some (.ref a), some (.int (k : Int)), some (.str lts), some (.str sgs), some (.int m), some (.int s), v6, some (.str z), some (.int p), none, none] H := by
  refine ⟨_, pss_cons (ps_set (i := 9) scLNames.nd rfl (.inl rfl) (pe_lst pa_nil))
    (pss_cons (ps_for PassesOwn.never rfl (pi_range1 (by rfl) B.range (pa_cons (pv 1) pa_nil)) (pg_name (i := 6) scLNames.nd rfl (.inl rfl))
      (pss_cons (ps_set (i := 10) scLNames.nd rfl (.inl rfl) (pe_op op_add_str (pe_op op_add_str (pe_slice sl_str (pv 7) po_none (po_some (pv 8)))
          (pe_item_str (pv 2) (pe_op op_mod (pe_callTy call_int1 (by rfl) B.int (by decide +kernel) (pa_cons (pe_op op_add (pv 5) (pe_op op_mul (pv 6) (pv 4))) pa_nil)) pe_int) (fun _ _ => rfl))) (pe_slice sl_str (pv 7) (po_some (pv 8)) po_none)))
      (pss_cons (ps_if (pt_cmpR op_in_seq (pv 10) (pe_tup (pa_cons pe_str (pa_cons pe_str pa_nil))) rfl) (pss_one (ps_set (i := 10) scLNames.nd rfl (.inl rfl) (pe_op op_add_str (pv 10) pe_str))) pss_nil)
      (pss_one (ps_expr (pe_bm PySem.F.plainAttrs_list PySem.F.slot_list_append PySem.F.type_list_append mt_append (pv 9) (pa_cons (pv 10) pa_nil)))))))
    (pss_one (ps_ret (pv 9)))), ?_⟩
  intro Q a k m s p z v6 H hk hm3 s0 s1 hz q
  refine ⟨by show 0 ≤ sizeLine; decide, fun l nl => ?_⟩
  have sm : Same H (upd H l (.lst [])) := same_upd nl
  refine ⟨_, rfl, _, rfl, by omega, by omega, ?_⟩
  rw [show ((k : Int)).toNat = k by omega]
  refine for_range (lo := 0) (n := k) (fun i σ H2 => ∃ (ns : List Str) (v6 v10 : Option V), σ = [some (.ref a), some (.int (k : Int)), some (.str lts), some (.str sgs), some (.int m), some (.int s), v6, some (.str z), some (.int p), some (.ref l), v10] ∧ ns = (List.range i).map (nmS z p s m) ∧ Same H H2 ∧ H2 l = some (.lst (ns.map V.str)))
    ⟨[], v6, none, rfl, rfl, sm, upd_same⟩ ?_ ?_
  · rintro i σ H2 hi ⟨ns, v6, v10, rfl, en, s2, h2⟩
    have hn : ns.length = i := by rw [en, List.length_map, List.length_range]
    have c1 := cutS_length z none (some p)
    have c2 := cutS_length z (some p) none
    have r0 : 0 ≤ (s + (0 + (i : Int)) * m) % 26 := Int.emod_nonneg _ (by decide)
    have r1 : (s + (0 + (i : Int)) * m) % 26 < 26 := Int.emod_lt_of_pos _ (by decide)
    obtain ⟨c, hc⟩ := one_sign (z := lts) r0 (by show _ < ((lts.cps.size : Nat) : Int); rw [lts_len]; exact r1)
    have fin : ∀ (y : Str) (H3 : Hp), y = nmS z p s m i → Same H2 H3 → (∃ (p_1 : Addr) (xs : List V) (v : V), V.ref l = V.ref p_1 ∧ [V.str y] = [v] ∧ H3 p_1 = some (.lst xs) ∧ xs.length < sizeLine ∧ (∃ (ns : List Str) (v6 v10' : Option V), [some (V.ref a), some (.int (k : Int)), some (.str lts), some (.str sgs), some (.int m), some (.int s), some (.int (0 + (i : Int))), some (.str z), some (.int p), some (.ref l), some (.str y)] = [some (.ref a), some (.int (k : Int)), some (.str lts), some (.str sgs), some (.int m), some (.int s), v6, some (.str z), some (.int p), some (.ref l), v10'] ∧ ns = (List.range (i + 1)).map (nmS z p s m) ∧ Same H (upd H3 p_1 (.lst (xs ++ [v]))) ∧ upd H3 p_1 (.lst (xs ++ [v])) l = some (.lst (ns.map V.str)))) := fun y H3 ey s3 =>
      ⟨l, _, _, rfl, rfl, s3 _ _ h2, small1000 (by rw [List.length_map]; omega), ns ++ [y], _, _, rfl, by rw [en, ey, List.range_succ, List.map_append]; rfl, fun c o e => by rw [upd_ne (ne_of_none e nl)]; exact s3 _ _ (s2 _ _ e), by rw [upd_same, List.map_append]; rfl⟩
    refine ⟨_, rfl, _, rfl, _, rfl, _, rfl, Nat.le_trans hz (by decide), ?_⟩
    refine ⟨_, rfl, _, rfl, _, rfl, _, rfl, _, _, rfl, rfl, .inl ⟨by omega, by omega⟩, _, _, rfl, rfl, .inl ⟨_, rfl, _, _, rfl, rfl, by show (0 : Int) < 26; decide, ?_⟩⟩
    refine ⟨lts, _, c, rfl, rfl, r0, by omega, by show _ < ((lts.cps.size : Nat) : Int); rw [lts_len]; exact r1, hc, ?_⟩
    have l1 : (⟨#[c]⟩ : Str).length = 1 := rfl
    refine ⟨_, _, rfl, rfl, Nat.le_trans (show (cutS z none (some p)).length + (⟨#[c]⟩ : Str).length ≤ 100 by rw [l1]; omega) (by decide), ?_⟩
    refine ⟨_, rfl, _, rfl, _, rfl, _, rfl, Nat.le_trans hz (by decide), ?_⟩
    refine ⟨_, _, rfl, rfl, Nat.le_trans (show (cutS z none (some p) ++ (⟨#[c]⟩ : Str)).length + (cutS z (some p) none).length ≤ 100 by rw [PySem.Str.length_append, l1]; omega) (by decide), ?_⟩
    have ecm : nmC s m i = c := by
      unfold nmC
      rw [show (0 + (i : Int)) = (i : Int) by omega] at hc
      rw [Array.getD_eq_getD_getElem?, hc]
      rfl
    have eB : ((cutS z none (some p) ++ (⟨#[c]⟩ : Str)) ++ cutS z (some p) none) = nmB z p s m i := by unfold nmB; rw [ecm]
    have hy : ((cutS z none (some p) ++ (⟨#[c]⟩ : Str)) ++ cutS z (some p) none).length ≤ 100 := by rw [PySem.Str.length_append, PySem.Str.length_append, l1]; omega
    rw [eB] at hy ⊢
    generalize ey : nmB z p s m i = y at hy
    refine ⟨_, rfl, by show 2 ≤ sizeLine; decide, fun T nT => ?_⟩
    have s3 : Same H2 (upd H2 T (.tup [.str "key", .str "there"])) := same_upd nT
    have hT : upd H2 T (.tup [.str "key", .str "there"]) T = some (.tup [.str "key", .str "there"]) := upd_same
    refine ⟨T, _, rfl, .inr (SqT.of hT), rfl, rfl, ?_⟩
    generalize upd H2 T (.tup [.str "key", .str "there"]) = H3 at s3 hT
    rw [if_neg Bool.false_ne_true]
    refine ⟨_, rfl, ite2 (fun ci => ?_) fun ci => ?_⟩
    · refine ⟨_, rfl, _, _, rfl, rfl, Nat.le_trans (show y.length + ("x" : Str).length ≤ 200 by have : ("x" : Str).length = 1 := (by decide +kernel); omega) (by decide), ?_⟩
      exact ⟨_, rfl, .inl ⟨rfl, _, SqL.of (s3 _ _ h2)⟩, _, rfl, fin _ H3 (by unfold nmS; rw [ey, if_pos ci]) s3⟩
    · exact ⟨_, rfl, .inl ⟨rfl, _, SqL.of (s3 _ _ h2)⟩, _, rfl, fin _ H3 (by unfold nmS; rw [ey, if_neg ci]) s3⟩
  · rintro σ H2 ⟨ns, v6, v10, rfl, en, s2, h2⟩
    exact ⟨_, rfl, q ns l H2 (by rw [en, List.length_map, List.length_range]) (by rw [en]; exact nms_nd hm3 hk) nl s2 h2⟩
end
end KP
set_option maxRecDepth 100000
set_option maxHeartbeats 4000000
/-! The law's names, from the start. -/
namespace KP
open PySem PySem.Spec PyProof.Rows L2 KT FS FD
section
variable {P : Program} {w : World} {K : PySem.W.Frag} {mg : Str → Option Value} {base : Heap}
theorem ok_names {f fr : Addr} {fd dr : FuncData} (F : Fun K "_law_names" "_law_names" sLNames f fd) (B : Blt mg) (D : DrwD K mg P w base fr dr) : FnOk P w K mg base CX0 2 f fd ["_law_pot_here", "_law_many"] spNames := by
  refine F.ok scLNames (fun vs H Q E h => ?_) (fun cdv A outer s H vs Q E hr h => ?_)
  · obtain ⟨_, _, rfl, _⟩ := h
    rfl
  · obtain ⟨a, k, rfl, hp, hk, q⟩ := h
    obtain ⟨u, pu, hu⟩ := nm7 (P := P) (w := w) (K := K) (base := base) (f := f) (cdv := cdv) (A := A) (outer := outer) (st := s) (H0 := H) (E := E) B
    refine ⟨_, pss_cons (ps_set (i := 2) scLNames.nd rfl (.inl rfl) pe_str)
      (pss_cons (ps_set (i := 3) scLNames.nd rfl (.inr rfl) (pe_op op_add_str (pv 2) pe_str))
      (pss_cons (ps_set (i := 4) scLNames.nd rfl (.inl rfl) (pe_ix ix_list (pe_lst (pa_cons pe_int (pa_cons pe_int (pa_cons pe_int pa_nil)))) (pe_call D.ok hr (by rfl) D.m D.k D.b .nil pass0 (pa_cons (pv 0) (pa_cons pe_int pa_nil))) (fun _ _ => rfl)))
      (pss_cons (ps_set (i := 5) scLNames.nd rfl (.inl rfl) (pe_call D.ok hr (by rfl) D.m D.k D.b .nil pass0 (pa_cons (pv 0) (pa_cons pe_int pa_nil))))
      (pss_cons (ps_set (i := 7) scLNames.nd rfl (.inl rfl) (pe_join pe_str (pe_lc (own := [("_law_k", 6)]) (g := gName 6) (tt := tYes) rfl scLNames.nd (pi_range1 (by rfl) B.range (pa_cons (pe_ix ix_list (pe_lst (pa_cons pe_int (pa_cons pe_int (pa_cons pe_int (pa_cons pe_int (pa_cons pe_int (pa_cons pe_int pa_nil))))))) (pe_call D.ok hr (by rfl) D.m D.k D.b .nil pass0 (pa_cons (pv 0) (pa_cons pe_int pa_nil))) (fun _ _ => rfl)) pa_nil))
          (blkOk_by (N := nNm) (sc := defScope sLNames) (by decide +kernel)) (fun _ _ _ _ _ => pg_name (i := 6) scLNames.nd rfl (.inl rfl)) (fun _ _ _ _ _ => pts_nil)
          (fun _ _ _ _ _ => pe_item_str (pv 3) (pe_call D.ok hr (by rfl) D.m D.k D.b .nil pass0 (pa_cons (pv 0) (pa_cons pe_int pa_nil))) (fun _ _ => rfl)))))
      (pss_cons (ps_set (i := 8) scLNames.nd rfl (.inl rfl) (pe_call D.ok hr (by rfl) D.m D.k D.b .nil pass0 (pa_cons (pv 0) (pa_cons (pe_op op_add (pe_callB call_len_str (by rfl) B.len PySem.boot_len (pa_cons (pv 7) pa_nil)) pe_int) pa_nil))))
      (pss_cons (ps_if (PW.pt (pw_and (pt_cmpR op_gt (pv 8) pe_int (nomark _)) (pw_and1 (pt_cmpR op_notIn_sign (pe_item_str (pv 7) pe_int (fun _ _ => rfl)) (pv 2) rfl)))) (pss_one (ps_set (i := 7) scLNames.nd rfl (.inl rfl) (pe_op op_add_str pe_str (pv 7)))) pss_nil) pu)))))), ?_⟩
    refine ⟨_, rfl, _, _, rfl, rfl, by show lts.length + ("0123456789" : Str).length ≤ sizeLine; exact Nat.le_trans (show _ ≤ 36 by decide +kernel) (by decide), ?_⟩
    refine ⟨by show 3 ≤ sizeLine; decide, fun l1 n1 => ?_⟩
    have hp1 := hp.upd (D := l1) (o := .lst ([1, 25, 7].map V.int)) (hp.ne n1)
    have s1 : Same H (upd H l1 (.lst ([1, 25, 7].map V.int))) := same_upd n1
    have h1 : upd H l1 (.lst ([1, 25, 7].map V.int)) l1 = some (.lst ([1, 25, 7].map V.int)) := upd_same
    refine ⟨_, rfl, a, 3, rfl, hp1, by decide, fun i H1 i0 i3 hp2 hb2 => ?_⟩
    have h1' := hb2 _ _ h1 (Ne.symm (hp.ne n1))
    have b1 : But a H H1 := (But.of s1).trans hb2
    obtain ⟨m, hm, hat⟩ := menu (ms := [1, 25, 7]) i0 (by simpa using i3)
    have mm : m = 1 ∨ m = 25 ∨ m = 7 := by simpa using hm
    refine ⟨l1, _, _, _, rfl, rfl, SqL.of h1', hat, ?_⟩
    refine ⟨_, rfl, a, 26, rfl, hp2, by decide, fun st H2 st0 st1 hp3 hb3 => ?_⟩
    have b2 := b1.trans hb3
    refine ⟨⟨_, rfl⟩, by show 6 ≤ sizeLine; decide, fun l2 n2 => ?_⟩
    have hp4 := hp3.upd (D := l2) (o := .lst ([0, 0, 1, 2, 4, 10].map V.int)) (hp3.ne n2)
    have s4 : Same H2 (upd H2 l2 (.lst ([0, 0, 1, 2, 4, 10].map V.int))) := same_upd n2
    have h4 : upd H2 l2 (.lst ([0, 0, 1, 2, 4, 10].map V.int)) l2 = some (.lst ([0, 0, 1, 2, 4, 10].map V.int)) := upd_same
    refine ⟨_, rfl, a, 6, rfl, hp4, by decide, fun j H4 j0 j6 hp5 hb5 => ?_⟩
    have h4' := hb5 _ _ h4 (Ne.symm (hp3.ne n2))
    have b4 : But a H H4 := (b2.trans (But.of s4)).trans hb5
    obtain ⟨n, hn, hnt⟩ := menu (ms := [0, 0, 1, 2, 4, 10]) j0 (by simpa using j6)
    have nn : 0 ≤ n ∧ n ≤ 10 := by
      simp only [List.mem_cons, List.not_mem_nil, or_false] at hn
      omega
    refine ⟨l2, _, _, _, rfl, rfl, SqL.of h4', hnt, n, rfl, by omega, by omega, fun D1 nD => ?_⟩
    refine lc_range (lo := 0) (n := n.toNat) (fun i H5 => ∃ ys : List Str, But a H H5 ∧ PotAt H5 a ∧ H5 D1 = some (.lst (ys.map V.str)) ∧ ys.length = i ∧ ∀ y ∈ ys, y.length = 1)
      ⟨[], b4.trans (But.of (same_upd nD)), hp5.upd (hp5.ne nD), upd_same, rfl, fun _ h => nomatch h⟩ ?_ ?_
    · rintro i H5 hi ⟨ys, hb5, hp6, hD, hy, h1s⟩
      have naD : a ≠ D1 := hp5.ne nD
      refine ⟨rfl, yes_i ⟨_, rfl, _, rfl, a, 36, rfl, hp6, by decide, fun v H6 v0 v1 hp7 hb7 => ?_⟩⟩
      obtain ⟨c, hc⟩ := one_sign (z := sgs) v0 (by show _ < ((sgs.cps.size : Nat) : Int); rw [sgs_len]; exact v1)
      refine ⟨sgs, v, c, rfl, rfl, v0, by omega, by show _ < ((sgs.cps.size : Nat) : Int); rw [sgs_len]; exact v1, hc, ?_⟩
      have hD6 := hb7 _ _ hD (Ne.symm naD)
      have b6 := hb5.trans hb7
      refine ⟨_, hD6, small1000 (by rw [List.length_map]; omega), ys ++ [⟨#[c]⟩], fun c o e nc => ?_, hp7.upd naD, by rw [upd_same, List.map_append]; rfl, by rw [List.length_append, hy]; rfl, fun y my => ?_⟩
      · by_cases z : c = D1
        · subst z
          have e4 := b4 c o e nc
          rw [nD] at e4; cases e4
        · rw [upd_ne z]; exact b6 c o e nc
      · rcases List.mem_append.mp my with z | z
        · exact h1s y z
        · rw [List.mem_singleton.mp z]; rfl
    · rintro H5 ⟨ys, hb5, hp6, hD, hy, h1s⟩
      have ly : ys.length ≤ 10 := by omega
      have sum1 : (ys.map (·.length)).sum = ys.length := by
        clear hy hD ly
        induction ys with
        | nil => rfl
        | cons y ys ih =>
          rw [List.map_cons, List.sum_cons, ih fun z hz => h1s z (List.mem_cons_of_mem _ hz), h1s y List.mem_cons_self, List.length_cons]
          omega
      have z0 : ("" : Str).length = 0 := by decide +kernel
      refine ⟨_, D1, ys, rfl, rfl, .inl (SqL.of hD), by rw [sum1, z0]; omega, ?_⟩
      have lj : (Txt.join "" ys).length ≤ 10 := by rw [PySem.W.KT.join_ones ys h1s]; exact ly
      generalize Txt.join "" ys = z at lj
      refine ⟨_, rfl, _, rfl, _, rfl, Nat.le_trans lj (by decide), _, _, rfl, rfl, a, _, rfl, hp6, by omega, fun pl H7 p0 p1 hp8 hb8 => ?_⟩
      have b7 := hb5.trans hb8
      have fin : ∀ z : Str, z.length ≤ 11 → u { nx := fun _ H' => Q .non H', rt := Q } [some (.ref a), some (.int (k : Int)), some (.str lts), some (.str sgs), some (.int m), some (.int st), none, some (.str z), some (.int pl), none, none] H7 := fun z hz =>
        hu Q a k m st pl z none H7 hk mm st0 st1 hz fun ns l H' hn nn' nl s8 hl => q ns l H' hn nn' (by
          cases e : H l with
          | none => rfl
          | some o =>
            by_cases c : l = a
            · rw [c] at nl; exact absurd nl (by obtain ⟨_, _, e, _⟩ := hp8; rw [e]; exact fun z => nomatch z)
            · rw [b7 _ _ e c] at nl; cases nl) (hp8.same s8) (b7.same s8) hl
      refine ⟨_, rfl, _, _, rfl, rfl, _, rfl, ?_⟩
      refine ite2 (fun c => ?_) fun c => ?_
      · have c := of_decide_eq_true c
        have lz : 0 < z.length := by omega
        obtain ⟨d, hd⟩ := one_sign (z := z) (n := 0) (by omega) (by omega)
        refine ⟨_, rfl, z, 0, d, rfl, rfl, by omega, by omega, by omega, hd, _, rfl, d, lts, rfl, rfl, _, rfl, ite2 (fun _ => ?_) fun _ => ?_⟩
        · exact ⟨_, rfl, _, _, rfl, rfl, Nat.le_trans (show ("q" : Str).length + z.length ≤ 20 by have : ("q" : Str).length = 1 := (by decide +kernel); omega) (by decide), fin _ (by rw [PySem.Str.length_append]; have : ("q" : Str).length = 1 := (by decide +kernel); omega)⟩
        · exact fin z (by omega)
      · exact fin z (by omega)
end
end KP
set_option maxRecDepth 100000
set_option maxHeartbeats 4000000
/-! The law's contents and ranks. -/
namespace KP
open PySem PySem.Spec PyProof.Rows L2 KT FS FD
section
variable {P : Program} {w : World} {K : PySem.W.Frag} {mg : Str → Option Value} {base : Heap}
structure NumD (K : PySem.W.Frag) (mg : Str → Option Value) (P : Program) (w : World) (base : Heap) (f : Addr) (fd : FuncData) : Prop where
  ok : FnOk P w K mg base CX0 2 f fd ["_law_pot_here"] spNumber
  m : mg "_law_number" = some (.ref f)
  k : PySem.W.keepIn K (.ref f) = true
  b : Binds K fd ["_law_pot_here"] []
def spContent : Sp := fun vs H Q _ => ∃ a : Addr, vs = [.ref a] ∧ PotAt H a ∧ ∀ (o : Option Int) H', PotAt H' a → But a H H' → Q (eV o) H'
theorem ok_content {f fn fr : Addr} {fd dn dr : FuncData} (F : Fun K "_law_content" "_law_content" sLContent f fd) (D : DrwD K mg P w base fr dr) (N : NumD K mg P w base fn dn) : FnOk P w K mg base CX0 3 f fd ["_law_pot_here"] spContent := by
  refine F.ok scLContent (fun vs H Q E h => ?_) (fun cdv A outer s H vs Q E hr h => ?_)
  · obtain ⟨_, rfl, _⟩ := h
    rfl
  · obtain ⟨a, rfl, hp, q⟩ := h
    refine ⟨_, pss_cons (ps_if (pt_cmpR op_eq (pe_call D.ok (hr.mono (by decide)) (by rfl) D.m D.k D.b .nil pass0 (pa_cons (pv 0) (pa_cons pe_int pa_nil))) pe_int (nomark _)) (pss_one (ps_ret pe_non)) pss_nil)
      (pss_one (ps_ret (pe_call N.ok hr (by rfl) N.m N.k N.b .nil pass0 (pa_cons (pv 0) pa_nil)))), ?_⟩
    refine ⟨_, rfl, a, 5, rfl, hp, by decide, fun v H1 _ _ hp1 hb1 => ⟨rfl, _, rfl, ite2 (fun _ => ?_) fun _ => ?_⟩⟩
    · exact q none H1 hp1 hb1
    · exact ⟨_, rfl, a, rfl, hp1, fun n H2 _ hp2 hb2 => q (some n) H2 hp2 (hb1.trans hb2)⟩
theorem ok_lcr {f : Addr} {fd : FuncData} (F : Fun K "_law_content_rank" "_law_content_rank" sLContentRank f fd) : FnOk P w K mg base CX0 1 f fd ["_law_content_here"] spRank := by
  refine F.ok scLContentRank (fun vs H Q E h => ?_) (fun cdv A outer s H vs Q E hr h => ?_)
  · obtain ⟨_, rfl, _⟩ := h
    rfl
  · obtain ⟨o, rfl, k⟩ := h
    refine ⟨_, pss_cons (ps_if (pt_cmpR op_isN (pv 0) pe_non (nomark _)) (pss_one (ps_ret (pe_tup (pa_cons pe_int (pa_cons pe_int pa_nil))))) pss_nil) (pss_one (ps_ret (pe_tup (pa_cons pe_int (pa_cons (pv 0) pa_nil))))), ?_⟩
    refine ⟨_, rfl, rfl, _, rfl, ?_⟩
    cases o with
    | none => exact iteT ⟨by show 2 ≤ sizeLine; decide, fun p hp => k p hp⟩
    | some i => exact iteF ⟨_, rfl, by show 2 ≤ sizeLine; decide, fun p hp => k p hp⟩
structure LcrD (K : PySem.W.Frag) (mg : Str → Option Value) (P : Program) (w : World) (base : Heap) (f : Addr) (fd : FuncData) : Prop where
  ok : FnOk P w K mg base CX0 1 f fd ["_law_content_here"] spRank
  m : mg "_law_content_rank" = some (.ref f)
  k : PySem.W.keepIn K (.ref f) = true
  b : Binds K fd ["_law_content_here"] []
def spLSR (K : PySem.W.Frag) : Sp := fun vs H Q _ => ∃ (v : V) (g : Sg), vs = [v] ∧ IsSg H v g ∧ g.2.2.length ≤ 100 ∧ ∀ x H', Same H H' → Dp K H' x (encT g) → Q x H'
theorem ok_lsr {f fr : Addr} {fd dr : FuncData} (F : Fun K "_law_sign_rank" "_law_sign_rank" sLSignRank f fd) (B : Blt mg) (R : LcrD K mg P w base fr dr) : FnOk P w K mg base CX0 2 f fd ["_law_sign"] (spLSR K) := by
  refine F.ok scLSignRank (fun vs H Q E h => ?_) (fun cdv A outer s H vs Q E hr h => ?_)
  · obtain ⟨_, _, rfl, _⟩ := h
    rfl
  · obtain ⟨v, ⟨tb, ts, cs⟩, rfl, ⟨a, c, rfl, ha, hc⟩, hl, q⟩ := h
    have hl : cs.length ≤ 100 := hl
    have hc : H c = some (.tup (cs.map eV)) := hc
    refine ⟨_, pss_one (ps_ret (pe_tup (pa_cons (pe_ix ix_tup (pv 0) pe_int (fun _ _ => rfl)) (pa_cons (pe_ix ix_tup (pv 0) pe_int (fun _ _ => rfl)) (pa_cons (pe_callTy call_tuple_of (by rfl) B.tuple (by decide +kernel)
      (pa_cons (pe_lc (own := [("_law_content_here", 1)]) (g := gName 1) (tt := tYes) rfl scLSignRank.nd (pi_tup (pe_ix ix_tup (pv 0) pe_int (fun _ _ => rfl))) (blkOk_by (N := ["_law_sign", "_law_content_here"]) (sc := defScope sLSignRank) (by decide +kernel))
      (fun _ _ _ _ _ => pg_name (i := 1) scLSignRank.nd rfl (.inl rfl)) (fun _ _ _ _ _ => pts_nil) (fun _ _ _ _ _ => pe_call R.ok hr (by rfl) R.m R.k R.b .nil pass0 (pa_cons (pv 1) pa_nil))) pa_nil)) pa_nil))))), ?_⟩
    refine ⟨_, rfl, a, _, _, _, rfl, rfl, SqT.of ha, atI_nat (j := 0) rfl, _, rfl, a, _, _, _, rfl, rfl, SqT.of ha, atI_nat (j := 1) rfl, ?_⟩
    refine ⟨_, rfl, a, _, _, _, rfl, rfl, SqT.of ha, atI_nat (j := 2) rfl, c, rfl, ⟨_, SqT.of hc⟩, fun D nD => lc_it (walk_tup (K := K) (a := c) (xs := cs.map eV)) (fun i H2 => ∃ L : List (V × (Int × Int)), But D (upd H D (.lst [])) H2 ∧ H2 D = some (.lst (L.map (·.1))) ∧ AllP H2 L ∧ L.map (·.2) = (cs.take i).map rk)
      ⟨[], But.refl, upd_same, (fun _ h => nomatch h), rfl⟩ (fun i H2 _ ⟨L, hb, _⟩ => SqT.of ((But.new hb rfl nD) _ _ hc)) ?_ ?_⟩
    · rintro i x H2 H3 hi ⟨L, hb, hD, hA, hE⟩ ⟨rfl, hx⟩
      obtain ⟨o, ho, rfl⟩ : ∃ o, cs[i]? = some o ∧ x = eV o := by
        rw [List.getElem?_map] at hx
        cases e : cs[i]? with
        | none => rw [e] at hx; cases hx
        | some o => rw [e] at hx; exact ⟨o, rfl, (Option.some.inj hx).symm⟩
      refine ⟨rfl, yes_i ⟨_, rfl, o, rfl, fun T hT => ?_⟩⟩
      have s3 : Same H3 (upd H3 T (.tup [.int (rk o).1, .int (rk o).2])) := same_upd hT
      have hD3 := s3 _ _ hD
      have hLl : L.length ≤ 100 := by have := congrArg List.length hE; rw [List.length_map, List.length_map, List.length_take] at this; omega
      refine ⟨_, hD3, small1000 (by rw [List.length_map]; omega), L ++ [(.ref T, rk o)], (hb.same s3).trans But.upd, by rw [upd_same, List.map_append]; rfl, ?_, by rw [List.map_append, hE, take_map ho]; rfl⟩
      refine AllP.but (d := D) (xs := L.map (·.1)) (fun z hz => ?_) But.upd hD3
      rcases List.mem_append.mp hz with m | m
      · exact (hA z m).same s3
      · rw [List.mem_singleton.mp m]
        exact ⟨T, rfl, upd_same⟩
    · rintro H2 ⟨L, hb, hD, hA, hE⟩
      rw [List.length_map, List.take_length] at hE
      have s2 : Same H H2 := But.new hb rfl nD
      refine ⟨D, _, rfl, .inl ⟨SqL.of hD, fun T nT => ?_⟩⟩
      have s3 : Same H2 (upd H2 T (.tup (L.map (·.1)))) := same_upd nT
      have hT : upd H2 T (.tup (L.map (·.1))) T = some (.tup (L.map (·.1))) := upd_same
      generalize upd H2 T (.tup (L.map (·.1))) = H3 at s3 hT
      refine ⟨by show 3 ≤ sizeLine; decide, fun l nl => ?_⟩
      have s4 : Same H3 (upd H3 l (.tup [.str tb, .str ts, .ref T])) := same_upd nl
      have hl4 : upd H3 l (.tup [.str tb, .str ts, .ref T]) l = some (.tup [.str tb, .str ts, .ref T]) := upd_same
      generalize upd H3 l (.tup [.str tb, .str ts, .ref T]) = H4 at s4 hl4
      have pt : PsT H4 T (cs.map rk) L := ⟨s4 _ _ hT, (hA.same s3).same s4, hE⟩
      have := pt.dp (K := K)
      unfold dPT at this
      rw [List.map_map] at this
      exact q _ _ ((s2.trans s3).trans s4) (.tup (SqT.of hl4) (.cons (.str _) (.cons (.str _) (.cons this .nil))))
end
end KP
set_option maxRecDepth 100000
set_option maxHeartbeats 4000000
/-! The law's signs. -/
namespace KP
open PySem PySem.Spec PyProof.Rows L2 KT FS FD
open PySem.W (dataLt)
/-- signs with what they are -/
def SgL (H : Hp) (L : List (V × Sg)) : Prop := ∀ x ∈ L, IsSg H x.1 x.2 ∧ x.2.2.2.length ≤ 3 ∧ x.2.1 ≠ x.2.2.1
theorem SgL.same {H H' : Hp} {L : List (V × Sg)} (h : SgL H L) (s : Same H H') : SgL H' L := fun x hx => ⟨(h x hx).1.same s, (h x hx).2⟩
theorem SgL.but {H H' : Hp} {L : List (V × Sg)} {d : Addr} {o : HO} (h : SgL H L) (b : But d H H') (hd : H d = some o) (n : ∀ xs, o ≠ .tup xs) : SgL H' L := fun x hx => ⟨(h x hx).1.but b hd n, (h x hx).2⟩
theorem PotAt.at {a : Addr} {H : Hp} (p : PotAt H a) : ∃ xs, H a = some (.lst xs) := let ⟨_, _, e, _⟩ := p; ⟨_, e⟩
theorem SgL.pot {a : Addr} {H H' : Hp} {L} (h : SgL H L) (p : PotAt H a) (b : But a H H') : SgL H' L := let ⟨_, e⟩ := p.at; h.but b e fun xs z => by cases z
theorem le_tr (a b c : Sg) (h : (!dataLt (encL b) (encL a)) = true) (k : (!dataLt (encL c) (encL b)) = true) : (!dataLt (encL c) (encL a)) = true := by
  have h' : dataLt (encL b) (encL a) = false := by simpa using h
  have k' : dataLt (encL c) (encL b) = false := by simpa using k
  cases z : dataLt (encL c) (encL a) with
  | false => rfl
  | true =>
    exfalso
    by_cases e : a = b
    · subst e; rw [z] at k'; cases k'
    · rcases tri_encL e with y | y
      · have := lex_trans _ _ _ z y
        have t : dataLt (encL c) (encL b) = true := this
        rw [t] at k'; cases k'
      · rw [y] at h'; cases h'
theorem le_to (a b : Sg) : ((!dataLt (encL b) (encL a)) || (!dataLt (encL a) (encL b))) = true := by
  cases z : dataLt (encL b) (encL a) with
  | false => rfl
  | true => rw [lt_asym z]; rfl
theorem at_get {G : List Sg} {i : Nat} {g : Sg} (h : G[i]? = some g) : at' G i = g := by unfold at'; rw [List.getD_eq_getElem?_getD, h]; rfl
/-- sorted and different: a pool -/
theorem pool_of {L : List (V × Sg)} (nd : (L.map fun z => z.2).Nodup) (pos : L ≠ []) (len : L.length ≤ 5) (cs : ∀ x ∈ L, x.2.2.2.length ≤ 3) : Pool ((L.mergeSort (PySem.W.dataLe false fun z => encT z.2)).map fun z => z.2) := by
  have pm := List.mergeSort_perm L (PySem.W.dataLe false fun z : V × Sg => encT z.2)
  have ee : ∀ a b : V × Sg, PySem.W.dataLe false (fun z : V × Sg => encT z.2) a b = !dataLt (encL b.2) (encL a.2) := fun a b => by rw [dle, encTL]
  have pw := List.pairwise_mergeSort (le := PySem.W.dataLe false fun z : V × Sg => encT z.2) (fun a b c => by rw [ee, ee, ee]; exact le_tr a.2 b.2 c.2) (fun a b => by rw [ee, ee]; exact le_to a.2 b.2) L
  generalize L.mergeSort (PySem.W.dataLe false fun z : V × Sg => encT z.2) = S at pm pw
  have ndS : (S.map fun z => z.2).Nodup := (pm.map _).nodup_iff.mpr nd
  have lS : S.length = L.length := pm.length_eq
  have pwS : (S.map fun z => z.2).Pairwise fun a b => dataLt (encL a) (encL b) = true := by
    unfold List.Nodup at ndS
    rw [List.pairwise_map] at ndS ⊢
    refine (List.Pairwise.and pw ndS).imp fun {a b} ⟨h1, h2⟩ => ?_
    rw [ee] at h1
    have h1 : dataLt (encL b.2) (encL a.2) = false := by simpa using h1
    rcases tri_encL h2 with z | z
    · exact z
    · rw [z] at h1; cases h1
  refine ⟨?_, by rw [List.length_map, lS]; exact len, fun i => ?_, fun i j hij hj => ?_⟩
  · rw [List.length_map, lS]
    cases L with
    | nil => exact absurd rfl pos
    | cons a r => simp
  · cases e : (S.map fun z => z.2)[i]? with
    | none =>
      have : at' (S.map fun z => z.2) i = (⟨#[]⟩, ⟨#[]⟩, []) := by unfold at'; rw [List.getD_eq_getElem?_getD, e]; rfl
      rw [this]; exact Nat.zero_le _
    | some g =>
      rw [at_get e]
      rw [List.getElem?_map] at e
      cases e2 : S[i]? with
      | none => rw [e2] at e; cases e
      | some z =>
        rw [e2] at e
        have := cs z (pm.mem_iff.mp (List.mem_of_getElem? e2))
        rw [← Option.some.inj e]
        show z.2.2.2.length ≤ 10
        omega
  · have hi : i < (S.map fun z => z.2).length := by omega
    have := List.pairwise_iff_getElem.mp pwS i j hi hj hij
    rw [at_get (List.getElem?_eq_getElem hi), at_get (List.getElem?_eq_getElem hj)]
    exact this
/-- values with their places -/
def plc (S : List (V × Sg)) : List (V × Nat) := (List.range S.length).map fun i => ((S.getD i (.non, (⟨#[]⟩, ⟨#[]⟩, []))).1, i)
theorem plc_snd (S : List (V × Sg)) : (plc S).map (fun z => z.2) = List.range S.length := by
  unfold plc
  rw [List.map_map]
  conv => rhs; rw [← List.map_id (List.range S.length)]
  exact List.map_congr_left fun i _ => rfl
theorem plc_fst (S : List (V × Sg)) : (plc S).map (fun z => z.1) = S.map fun z => z.1 := by
  unfold plc
  rw [List.map_map]
  refine List.ext_getElem (by simp) fun i h1 h2 => ?_
  simp only [List.length_map, List.length_range] at h1
  simp [List.getD_eq_getElem?_getD, h1]
theorem plc_sg {H : Hp} {S : List (V × Sg)} (h : ∀ x ∈ S, IsSg H x.1 x.2) : SgA (S.map fun z => z.2) H (plc S) := fun x hx => by
  unfold plc at hx
  obtain ⟨i, hi, rfl⟩ := List.mem_map.mp hx
  have hi := List.mem_range.mp hi
  have e : S.getD i (.non, (⟨#[]⟩, ⟨#[]⟩, [])) = S[i] := by rw [List.getD_eq_getElem?_getD, List.getElem?_eq_getElem hi]; rfl
  refine ⟨?_, by rw [List.length_map]; exact hi⟩
  show IsSg H (S.getD i _).1 (at' (S.map fun z => z.2) i)
  rw [e, at_get (i := i) (g := S[i].2) (by rw [List.getElem?_map, List.getElem?_eq_getElem hi]; rfl)]
  exact h _ (List.getElem_mem hi)
theorem cut_cs (cs : List (Option Int)) (n : Nat) : ∃ ds : List (Option Int), cutV (cs.map eV) none (some (n : Int)) = ds.map eV ∧ ds.length ≤ n := by
  unfold cutV
  rw [HT.sIx_none, HT.sIx_nat, Nat.sub_zero, List.drop_zero, ← List.map_take]
  exact ⟨_, rfl, by rw [List.length_take]; omega⟩
theorem encT_depth (g : Sg) : (encT g).depth ≤ 60 := by
  have : PyData.depthAll (g.2.2.map fun o => dP (rk o)) ≤ 1 := (layAll_map (enc := fun o : Option Int => dP (rk o)) (k := 1) (fun o => lay_dP (rk o)) g.2.2).2
  simp only [encT, PyData.depth, PyData.depthAll]
  omega
structure NmsD (K : PySem.W.Frag) (mg : Str → Option Value) (P : Program) (w : World) (base : Heap) (f : Addr) (fd : FuncData) : Prop where
  ok : FnOk P w K mg base CX0 2 f fd ["_law_pot_here", "_law_many"] spNames
  m : mg "_law_names" = some (.ref f)
  k : PySem.W.keepIn K (.ref f) = true
  b : Binds K fd ["_law_pot_here", "_law_many"] []
structure CntD (K : PySem.W.Frag) (mg : Str → Option Value) (P : Program) (w : World) (base : Heap) (f : Addr) (fd : FuncData) : Prop where
  ok : FnOk P w K mg base CX0 3 f fd ["_law_pot_here"] spContent
  m : mg "_law_content" = some (.ref f)
  k : PySem.W.keepIn K (.ref f) = true
  b : Binds K fd ["_law_pot_here"] []
structure LsrD (K : PySem.W.Frag) (mg : Str → Option Value) (P : Program) (w : World) (base : Heap) (f : Addr) (fd : FuncData) : Prop where
  ok : FnOk P w K mg base CX0 2 f fd ["_law_sign"] (spLSR K)
  m : mg "_law_sign_rank" = some (.ref f)
  k : PySem.W.keepIn K (.ref f) = true
  b : Binds K fd ["_law_sign"] []
abbrev nSg : List Str := ["_law_pot_here", "_law_many", "_law_names_here", "_law_found", "_law_k", "_law_contents", "_law_sign", "_law_i"]
def spSigns : Sp := fun vs H Q _ => ∃ (a : Addr) (k : Nat), vs = [.ref a, .int (k : Int)] ∧ PotAt H a ∧ 1 ≤ k ∧ k ≤ 5 ∧ ∀ (G : List Sg) (M : List (V × Nat)) p H', Pool G → G.length ≤ k → (∀ g ∈ G, g.1 ≠ g.2.1) → H p = none → PotAt H' a → But a H H' → H' p = some (.lst (M.map fun z => z.1)) → M.map (fun z => z.2) = List.range G.length → SgA G H' M → Q (.ref p) H'
section
variable {P : Program} {w : World} {K : PySem.W.Frag} {mg : Str → Option Value} {base : Heap} {f : Addr} {cdv : Value} {A : Around} {outer : List Env} {st : Shared} {H0 : Hp} {E : XK}
/-- a turn of the loop, from the place where the contents stand -/
theorem sg_turn {fr fn fc : Addr} {dr dn dc : FuncData} (B : Blt mg) (D : DrwD K mg P w base fr dr) {k : Nat} (hr : Room k (A.deeper (envOfC "_law_signs" (defScope sLSigns) st.heap.objs.size f cdv))) (hk : 4 ≤ k) (stm : Stmt) (hs : ((defBody sLSigns)[2]?) = some stm) :
    ∃ u, PSs (cxOf CX0 P w K mg base nSg "_law_signs" (defScope sLSigns) f cdv A outer st H0 E).nox ((fun s => match s with | .For _ _ b _ _ => b.drop 2 | _ => []) stm) u ∧
    ∀ (D' : Ends) (H : Hp) (a nl fl c : Addr) (kk : Int) (v4 v6 v7 : Option V) (ns : List Str) (L : List (V × Sg)) (cs : List (Option Int)), PotAt H a → H nl = some (.lst (ns.map V.str)) → ns.length = 4 → ns.Nodup → H fl = some (.lst (L.map fun z => z.1)) → SgL H L → L.length ≤ 100 → H c = some (.lst (cs.map eV)) → cs.length ≤ 3 → a ≠ nl → a ≠ fl → a ≠ c →
      (∀ (H' : Hp) (v : V) (L' : List (V × Sg)), PotAt H' a → (∀ b o, H b = some o → b ≠ a → b ≠ fl → H' b = some o) → H' fl = some (.lst (L'.map fun z => z.1)) → SgL H' L' → (∃ g, L' = L ++ [g] ∧ g.2 ∉ L.map (fun z => z.2) ∨ L' = L ∧ g.2 ∈ L.map (fun z => z.2)) →
        D'.nx [some (.ref a), some (.int kk), some (.ref nl), some (.ref fl), v4, some (.ref c), some v, v7] H') → u D' [some (.ref a), some (.int kk), some (.ref nl), some (.ref fl), v4, some (.ref c), v6, v7] H := by
  cases hs
  refine ⟨_, pss_cons (ps_set (i := 6) scLSigns.nd rfl (.inl rfl) (pe_tup (pa_cons (pe_ix ix_list (pv 2) (pe_call D.ok (hr.mono (by omega)) (by rfl) D.m D.k D.b .nil pass0 (pa_cons (pv 0) (pa_cons pe_int pa_nil))) (fun _ _ => rfl))
      (pa_cons (pe_ix ix_list (pv 2) (pe_op op_add pe_int (pe_call D.ok (hr.mono (by omega)) (by rfl) D.m D.k D.b .nil pass0 (pa_cons (pv 0) (pa_cons pe_int pa_nil)))) (fun _ _ => rfl))
      (pa_cons (pe_callTy call_tuple_of (by rfl) B.tuple (by decide +kernel) (pa_cons (pv 5) pa_nil)) pa_nil)))))
    (pss_one (ps_if (pt_cmpR (op_notInK hr.units) (pv 6) (pv 3) rfl) (pss_one (ps_expr (pe_bm PySem.F.plainAttrs_list PySem.F.slot_list_append PySem.F.type_list_append mt_append (pv 3) (pa_cons (pv 6) pa_nil)))) pss_nil)), ?_⟩
  intro D' H a nl fl c kk v4 v6 v7 ns L cs hp hnl hns hnd hfl hL lL hc lc n1 n2 n3 q
  refine ⟨_, rfl, _, rfl, a, 2, rfl, hp, by decide, fun i H1 i0 i2 hp1 hb1 => ?_⟩
  have nat : ∀ {j : Int}, 0 ≤ j → j < 4 → ∃ z, atI (ns.map V.str) j = some (.str z) ∧ ns[j.toNat]? = some z := fun {j} j0 j4 => by
    obtain ⟨m, rfl⟩ : ∃ m : Nat, j = (m : Int) := ⟨j.toNat, by omega⟩
    have hm : m < ns.length := by omega
    exact ⟨ns[m], atI_nat (by rw [List.getElem?_map, List.getElem?_eq_getElem hm]; rfl), List.getElem?_eq_getElem hm⟩
  obtain ⟨z1, hz1, gz1⟩ := nat i0 (by omega)
  refine ⟨nl, _, _, _, rfl, rfl, SqL.of (hb1 _ _ hnl (Ne.symm n1)), hz1, ?_⟩
  refine ⟨_, rfl, _, rfl, a, 2, rfl, hp1, by decide, fun j H2 j0 j2 hp2 hb2 => ⟨_, _, rfl, rfl, ?_⟩⟩
  obtain ⟨z2, hz2, gz2⟩ := nat (j := 2 + j) (by omega) (by omega)
  have z12 : z1 ≠ z2 := fun e => by
    rw [← e] at gz2
    obtain ⟨h1, e1⟩ := List.getElem?_eq_some_iff.mp gz1
    obtain ⟨h2, e2⟩ := List.getElem?_eq_some_iff.mp gz2
    exact (List.pairwise_iff_getElem.mp hnd) i.toNat (2 + j).toNat h1 h2 (by omega) (e1.trans e2.symm)
  have hb := hb1.trans hb2
  refine ⟨nl, _, _, _, rfl, rfl, SqL.of (hb _ _ hnl (Ne.symm n1)), hz2, ?_⟩
  refine ⟨_, rfl, c, _, rfl, .inl ⟨SqL.of (hb _ _ hc (Ne.symm n3)), fun t nt => ?_⟩⟩
  have s3 : Same H2 (upd H2 t (.tup (cs.map eV))) := same_upd nt
  have ht : upd H2 t (.tup (cs.map eV)) t = some (.tup (cs.map eV)) := upd_same
  have hp3 := hp2.upd (D := t) (o := .tup (cs.map eV)) (hp2.ne nt)
  generalize upd H2 t (.tup (cs.map eV)) = H3 at s3 ht hp3
  refine ⟨by show 3 ≤ sizeLine; decide, fun y ny => ?_⟩
  have s4 : Same H3 (upd H3 y (.tup [.str z1, .str z2, .ref t])) := same_upd ny
  have hy : upd H3 y (.tup [.str z1, .str z2, .ref t]) y = some (.tup [.str z1, .str z2, .ref t]) := upd_same
  have hp4 := hp3.upd (D := y) (o := .tup [.str z1, .str z2, .ref t]) (hp3.ne ny)
  generalize upd H3 y (.tup [.str z1, .str z2, .ref t]) = H4 at s4 hy hp4
  have sg : IsSg H4 (.ref y) (z1, z2, cs) := ⟨y, t, rfl, hy, s4 _ _ ht⟩
  have s24 := s3.trans s4
  have hL4 : SgL H4 L := ((hL.pot hp hb).same s24)
  have hfl4 := s24 _ _ (hb _ _ hfl (Ne.symm n2))
  have kis := kis_map (H := H4) (f := sgK) (L := L) fun x hx => (hL4 x hx).1.ki
  refine ⟨_, rfl, _, rfl, sgK (z1, z2, cs), _, fl, _, rfl, SqL.of hfl4, sg.ki, kis, by have := sgK_depth (z1, z2, cs); omega, ?_⟩
  have em : decide (sgK (z1, z2, cs) ∈ L.map fun x => sgK x.2) = decide ((z1, z2, cs) ∈ L.map fun x => x.2) := decide_eq_decide.mpr ⟨fun h => by
    obtain ⟨x, hx, e⟩ := List.mem_map.mp h
    exact List.mem_map.mpr ⟨x, hx, sgK_inj e⟩, fun h => by
    obtain ⟨x, hx, e⟩ := List.mem_map.mp h
    exact List.mem_map.mpr ⟨x, hx, by rw [e]⟩⟩
  rw [em]
  refine ⟨_, rfl, ?_⟩
  have kp : ∀ b o, H b = some o → b ≠ a → H4 b = some o := fun b o e nb => s24 _ _ (hb b o e nb)
  by_cases cm : (z1, z2, cs) ∈ L.map fun x => x.2
  · rw [decide_eq_true cm]
    exact iteF (q H4 (.ref y) L hp4 (fun b o e nb _ => kp b o e nb) hfl4 hL4 ⟨(.ref y, (z1, z2, cs)), .inr ⟨rfl, cm⟩⟩)
  · rw [decide_eq_false cm]
    refine iteT ⟨_, rfl, .inl ⟨rfl, _, SqL.of hfl4⟩, _, rfl, fl, _, _, rfl, rfl, hfl4, small1000 (by rw [List.length_map]; omega), ?_⟩
    refine q _ (.ref y) (L ++ [(.ref y, (z1, z2, cs))]) (hp4.upd n2) (fun b o e nb nf => by rw [upd_ne nf]; exact kp b o e nb) (by rw [upd_same, List.map_append]; rfl) (fun x hx => ?_) ⟨(.ref y, (z1, z2, cs)), .inl ⟨rfl, cm⟩⟩
    have : IsSg H4 x.1 x.2 ∧ x.2.2.2.length ≤ 3 ∧ x.2.1 ≠ x.2.2.1 := by
      rcases List.mem_append.mp hx with m | m
      · exact hL4 x m
      · rw [List.mem_singleton.mp m]; exact ⟨sg, lc, z12⟩
    exact ⟨this.1.but But.upd hfl4 (fun xs z => by cases z), this.2⟩
end
end KP
set_option maxRecDepth 100000
set_option maxHeartbeats 4000000
/-! The law's signs, the whole. -/
namespace KP
open PySem PySem.Spec PyProof.Rows L2 KT FS FD
section
variable {P : Program} {w : World} {K : PySem.W.Frag} {mg : Str → Option Value} {base : Heap}
theorem ok_signs {f fr fn fc fs : Addr} {fd dr dn dc ds : FuncData} (F : Fun K "_law_signs" "_law_signs" sLSigns f fd) (B : Blt mg) (D : DrwD K mg P w base fr dr) (N : NmsD K mg P w base fn dn) (C : CntD K mg P w base fc dc) (S : LsrD K mg P w base fs ds) :
    FnOk P w K mg base CX0 5 f fd ["_law_pot_here", "_law_many"] spSigns := by
  refine F.ok scLSigns (fun vs H Q E h => ?_) (fun cdv A outer s H vs Q E hr h => ?_)
  · obtain ⟨_, _, rfl, _⟩ := h
    rfl
  · obtain ⟨a, k, rfl, hp, k1, k5, q⟩ := h
    obtain ⟨u, pu, hu⟩ := sg_turn (P := P) (w := w) (K := K) (base := base) (f := f) (cdv := cdv) (A := A) (outer := outer) (st := s) (H0 := H) (E := E) (fn := fn) (fc := fc) (dn := dn) (dc := dc) B D hr (by decide) _ rfl
    refine ⟨_, pss_cons (ps_set (i := 2) scLSigns.nd rfl (.inl rfl) (pe_call N.ok (hr.mono (by decide)) (by rfl) N.m N.k N.b .nil pass0 (pa_cons (pv 0) (pa_cons pe_int pa_nil))))
      (pss_cons (ps_set (i := 3) scLSigns.nd rfl (.inl rfl) (pe_lst pa_nil))
      (pss_cons (ps_for PassesOwn.never rfl (pi_range1 (by rfl) B.range (pa_cons (pv 1) pa_nil)) (pg_name (i := 4) scLSigns.nd rfl (.inl rfl))
        (pss_cons (ps_setLc (i := 5) (own := [("_law_i", 7)]) (g := gName 7) (tt := tYes) rfl scLSigns.nd rfl rfl (sw_true rfl rfl rfl (by decide +kernel)) (pi_range1 (by rfl) B.range (pa_cons (pe_call D.ok (hr.mono (by decide)) (by rfl) D.m D.k D.b .nil pass0 (pa_cons (pv 0) (pa_cons pe_int pa_nil))) pa_nil))
            (blkOk_by (N := nSg) (sc := defScope sLSigns) (by decide +kernel)) (fun _ _ _ _ _ => pg_name (i := 7) scLSigns.nd rfl (.inl rfl)) (fun _ _ _ _ _ => pts_nil)
            (fun _ _ _ _ _ => pe_call C.ok (hr.mono (by decide)) (by rfl) C.m C.k C.b .nil pass0 (pa_cons (pv 0) pa_nil)))
        (pss_cons (ps_if (PW.pt (pw_and (pt_truth (pv 3) (by intro _; rfl)) (pw_and1 (pt_cmpR op_eq (pe_call D.ok (hr.mono (by decide)) (by rfl) D.m D.k D.b .nil pass0 (pa_cons (pv 0) (pa_cons pe_int pa_nil))) pe_int (nomark _)))))
            (pss_one (ps_set (i := 5) scLSigns.nd rfl (.inl rfl) (pe_op op_cat (pe_slice sl_list (pe_callTy call_list_of (by rfl) B.list (by decide +kernel) (pa_cons (pe_ix ix_tup (pe_ix ix_list (pv 3) (pe_op op_sub (pe_callB call_len_seq (by rfl) B.len PySem.boot_len (pa_cons (pv 3) pa_nil)) pe_int) (fun _ _ => rfl)) pe_int (fun _ _ => rfl)) pa_nil)) po_none (po_some pe_int))
              (pe_slice sl_list (pv 5) po_none (po_some pe_int))))) pss_nil) pu)))
      (pss_one (ps_ret (pe_callBK (cr_sortBy (β := Sg) (R := fun H v g => IsSg H v g ∧ g.2.2.length ≤ 100) (enc := encT) S.ok S.b hr rfl (fun _ _ _ _ s1 z => ⟨z.1.same s1, z.2⟩) (fun H1 v g z => ⟨v, g, rfl, z.1, z.2, fun x H' s1 y => ⟨s1, y⟩⟩) alike_encT (.inl fun g => ⟨_, _, rfl⟩) encT_depth)
        (by rfl) B.sorted (by decide +kernel) (pa_cons (pv 3) pa_nil) (pk_cons (pe_glob (v := .ref fs) (by rfl) S.m rfl) pk_nil)))))), ?_⟩
    refine ⟨_, rfl, a, 4, rfl, hp, by decide, fun ns nl H1 hns hnd nn hp1 hb1 hnl => ?_⟩
    have n1 : a ≠ nl := hp.ne nn
    refine ⟨by show 0 ≤ sizeLine; decide, fun fl nf => ?_⟩
    have n2 : a ≠ fl := hp1.ne nf
    have n3 : nl ≠ fl := ne_of_none hnl nf
    have nf0 : H fl = none := by
      cases e : H fl with
      | none => rfl
      | some o => rw [hb1 _ _ e (Ne.symm n2)] at nf; cases nf
    have s2 : Same H1 (upd H1 fl (.lst [])) := same_upd nf
    have hf2 : upd H1 fl (.lst []) fl = some (.lst []) := upd_same
    have hp2 := hp1.upd (D := fl) (o := .lst []) n2
    generalize upd H1 fl (.lst []) = H2 at s2 hf2 hp2
    refine ⟨_, rfl, _, rfl, by omega, by omega, ?_⟩
    rw [show ((k : Int)).toNat = k by omega]
    refine for_range (lo := 0) (n := k) (fun i σ H3 => ∃ (L : List (V × Sg)) (v4 v5 v6 v7 : Option V), σ = [some (.ref a), some (.int (k : Int)), some (.ref nl), some (.ref fl), v4, v5, v6, v7] ∧ PotAt H3 a ∧ But a H H3 ∧ H3 nl = some (.lst (ns.map V.str)) ∧ H3 fl = some (.lst (L.map fun z => z.1)) ∧ SgL H3 L ∧ (L.map fun z => z.2).Nodup ∧ L.length ≤ i ∧ (0 < i → L ≠ []))
      ⟨[], none, none, none, none, rfl, hp2, hb1.same s2, s2 _ _ hnl, hf2, (fun _ h => nomatch h), List.nodup_nil, Nat.le_refl _, fun h => absurd h (by omega)⟩ ?_ ?_
    · rintro i σ H3 hi ⟨L, v4, v5, v6, v7, rfl, hp3, hb3, hnl3, hfl3, hL3, nd, lL, ps⟩
      refine ⟨_, rfl, a, 4, rfl, hp3, by decide, fun v H4 v0 v4' hp4 hb4 => ⟨v, rfl, by omega, by omega, fun D1 nD => ?_⟩⟩
      have b4 : But a H3 H4 := hb4
      have naD : a ≠ D1 := hp4.ne nD
      refine lc_range (lo := 0) (n := v.toNat) (fun j H5 => ∃ cs : List (Option Int), cs.length = j ∧ PotAt H5 a ∧ But a H4 H5 ∧ H5 D1 = some (.lst (cs.map eV)))
        ⟨[], rfl, hp4.upd naD, But.of (same_upd nD), upd_same⟩ ?_ ?_
      · rintro j H5 hj ⟨cs, lc, hp5, hb5, hD⟩
        refine ⟨rfl, yes_i ⟨_, rfl, a, rfl, hp5, fun o H6 hp6 hb6 => ?_⟩⟩
        have hD6 := hb6 _ _ hD (Ne.symm naD)
        exact ⟨_, hD6, small1000 (by rw [List.length_map]; omega), cs ++ [o], by rw [List.length_append, lc]; rfl, hp6.upd naD, but_new (hb5.trans hb6) nD, by rw [upd_same, List.map_append]; rfl⟩
      · rintro H5 ⟨cs, lc, hp5, hb5, hD⟩
        have b5 : But a H3 H5 := b4.trans hb5
        have hfl5 := b5 _ _ hfl3 (Ne.symm n2)
        have hnl5 := b5 _ _ hnl3 (Ne.symm n1)
        have hL5 : SgL H5 L := hL3.pot hp3 b5
        have fin : ∀ (D' : Ends), (∀ σ H3, (∃ (L : List (V × Sg)) (v4 v5 v6 v7 : Option V), σ = [some (.ref a), some (.int (k : Int)), some (.ref nl), some (.ref fl), v4, v5, v6, v7] ∧ PotAt H3 a ∧ But a H H3 ∧ H3 nl = some (.lst (ns.map V.str)) ∧ H3 fl = some (.lst (L.map fun z => z.1)) ∧ SgL H3 L ∧ (L.map fun z => z.2).Nodup ∧ L.length ≤ i + 1 ∧ (0 < i + 1 → L ≠ [])) → D'.nx σ H3) →
            ∀ (c : Addr) (cs : List (Option Int)) (H6 : Hp) (v4 v6 v7 : Option V), But a H5 H6 → PotAt H6 a → H6 c = some (.lst (cs.map eV)) → cs.length ≤ 3 → a ≠ c → u D' [some (.ref a), some (.int (k : Int)), some (.ref nl), some (.ref fl), v4, some (.ref c), v6, v7] H6 := by
          intro D' nx c cs H6 v4 v6 v7 b6 hp6 hc lc nac
          refine hu D' H6 a nl fl c (k : Int) v4 v6 v7 ns L cs hp6 (b6 _ _ hnl5 (Ne.symm n1)) hns hnd (b6 _ _ hfl5 (Ne.symm n2)) (hL5.pot hp5 b6) (by omega) hc lc n1 n2 nac fun H7 v L' hp7 kp hf7 hL7 ⟨g, hg⟩ => nx _ _ ⟨L', _, _, _, _, rfl, hp7, fun b o e nb => ?_, ?_, hf7, hL7, ?_, ?_, fun _ => ?_⟩
          · exact kp b o (b6 _ _ (b5 _ _ (hb3 _ _ e nb) nb) nb) nb (ne_of_none e nf0)
          · exact kp nl _ (b6 _ _ hnl5 (Ne.symm n1)) (Ne.symm n1) n3
          · rcases hg with ⟨rfl, ng⟩ | ⟨rfl, _⟩
            · rw [List.map_append, List.nodup_append]
              refine ⟨nd, by simp, fun x hx y hy => ?_⟩
              rw [List.map_cons, List.map_nil, List.mem_singleton] at hy
              rintro rfl
              rw [hy] at hx
              exact ng hx
            · exact nd
          · rcases hg with ⟨rfl, _⟩ | ⟨rfl, _⟩
            · rw [List.length_append]; show L.length + 1 ≤ _; omega
            · omega
          · rcases hg with ⟨rfl, _⟩ | ⟨rfl, m⟩
            · simp
            · intro z; rw [z] at m; cases m
        refine ⟨_, rfl, _, .inl ⟨_, SqL.of hfl5, rfl⟩, ?_⟩
        cases eL : L with
        | nil => exact iteF (fin _ (fun _ _ h => h) D1 cs H5 _ _ _ But.refl hp5 hD (by omega) naD)
        | cons z0 L0 =>
          refine iteT ⟨_, rfl, a, 3, rfl, hp5, by decide, fun r H6 _ _ hp6 hb6 => ⟨rfl, _, rfl, ite2 (fun _ => ?_) fun _ => ?_⟩⟩
          · have hz : z0 ∈ L := by rw [eL]; exact List.mem_cons_self
            obtain ⟨zl, hzl⟩ : ∃ zl, L[L.length - 1]? = some zl := ⟨_, List.getElem?_eq_getElem (by rw [eL, List.length_cons]; omega)⟩
            have hfl6 := hb6 _ _ hfl5 (Ne.symm n2)
            obtain ⟨⟨y, t, ey, hy, ht⟩, hcs, _⟩ := (hL5.pot hp5 hb6) zl (List.mem_of_getElem? hzl)
            have lpos : 0 < L.length := by rw [eL, List.length_cons]; omega
            have hat : atI (L.map fun z => z.1) (((L.map fun z : V × Sg => z.1).length : Int) - 1) = some zl.1 := by
              rw [List.length_map, show ((L.length : Nat) : Int) - 1 = ((L.length - 1 : Nat) : Int) by omega]
              exact atI_nat (by rw [List.getElem?_map, hzl]; rfl)
            refine ⟨_, rfl, _, rfl, fl, _, rfl, .inl (SqL.of hfl6), _, _, rfl, rfl, fl, _, _, _, rfl, rfl, SqL.of hfl6, hat, ?_⟩
            refine ⟨y, _, _, _, ey, rfl, SqT.of hy, atI_nat (j := 2) rfl, t, _, rfl, .inr (SqT.of ht), fun l1 m1 => ?_⟩
            have s7 : Same H6 (upd H6 l1 (.lst (zl.2.2.2.map eV))) := same_upd m1
            have h7 : upd H6 l1 (.lst (zl.2.2.2.map eV)) l1 = some (.lst (zl.2.2.2.map eV)) := upd_same
            have hp7 := hp6.upd (D := l1) (o := .lst (zl.2.2.2.map eV)) (hp6.ne m1)
            generalize upd H6 l1 (.lst (zl.2.2.2.map eV)) = H7 at s7 h7 hp7
            obtain ⟨d1, e1, q1⟩ := cut_cs zl.2.2.2 2
            obtain ⟨d2, e2, q2⟩ := cut_cs cs 1
            refine ⟨_, rfl, l1, _, rfl, SqL.of h7, fun l2 m2 => ?_⟩
            rw [show cutV (zl.2.2.2.map eV) none (some 2) = d1.map eV from e1]
            have s8 : Same H7 (upd H7 l2 (.lst (d1.map eV))) := same_upd m2
            have h8 : upd H7 l2 (.lst (d1.map eV)) l2 = some (.lst (d1.map eV)) := upd_same
            have hp8 := hp7.upd (D := l2) (o := .lst (d1.map eV)) (hp7.ne m2)
            generalize upd H7 l2 (.lst (d1.map eV)) = H8 at s8 h8 hp8
            have hD8 := s8 _ _ (s7 _ _ (hb6 _ _ hD (Ne.symm naD)))
            refine ⟨_, rfl, _, rfl, D1, _, rfl, SqL.of hD8, fun l3 m3 => ?_⟩
            rw [show cutV (cs.map eV) none (some 1) = d2.map eV from e2]
            have s9 : Same H8 (upd H8 l3 (.lst (d2.map eV))) := same_upd m3
            have h9 : upd H8 l3 (.lst (d2.map eV)) l3 = some (.lst (d2.map eV)) := upd_same
            have hp9 := hp8.upd (D := l3) (o := .lst (d2.map eV)) (hp8.ne m3)
            generalize upd H8 l3 (.lst (d2.map eV)) = H9 at s9 h9 hp9
            refine ⟨l2, l3, _, _, rfl, rfl, s9 _ _ h8, h9, Nat.le_of_lt (small1000 (by rw [List.length_map, List.length_map]; omega)), fun l4 m4 => ?_⟩
            have b9 : But a H5 (upd H9 l4 (.lst (d1.map eV ++ d2.map eV))) := (((hb6.same s7).same s8).same s9).same (same_upd m4)
            exact fin _ (fun _ _ h => h) l4 (d1 ++ d2) _ _ _ _ b9 (hp9.upd (hp9.ne m4)) (by rw [upd_same, List.map_append]) (by rw [List.length_append]; omega) (hp9.ne m4)
          · exact fin _ (fun _ _ h => h) D1 cs H6 _ _ _ hb6 hp6 (hb6 _ _ hD (Ne.symm naD)) (by omega) naD
    · rintro σ H3 ⟨L, v4, v5, v6, v7, rfl, hp3, hb3, hnl3, hfl3, hL3, nd, lL, ps⟩
      refine ⟨_, rfl, fl, L, rfl, rfl, SqL.of hfl3, fun z hz => ⟨(hL3 z hz).1, by have := (hL3 z hz).2.1; omega⟩, fun p H' np s4 hq => ?_⟩
      have pm := List.mergeSort_perm L (PySem.W.dataLe false fun z : V × Sg => encT z.2)
      have pool := pool_of nd (ps (by omega)) (by omega) fun x hx => (hL3 x hx).2.1
      generalize L.mergeSort (PySem.W.dataLe false fun z : V × Sg => encT z.2) = S at pm pool hq
      refine q (S.map fun z => z.2) (plc S) p H' pool (by rw [List.length_map, pm.length_eq]; omega) (fun g hg => by
        obtain ⟨x, hx, rfl⟩ := List.mem_map.mp hg
        exact (hL3 x (pm.mem_iff.mp hx)).2.2) ?_ (hp3.same s4) (hb3.same s4) (by rw [plc_fst]; exact hq) (by rw [plc_snd, List.length_map]) (plc_sg fun x hx => ((hL3 x (pm.mem_iff.mp hx)).1).same s4)
      cases e : H p with
      | none => rfl
      | some o =>
        by_cases c : p = a
        · obtain ⟨xs, e2⟩ := hp3.at
          rw [c, e2] at np; cases np
        · rw [hb3 _ _ e c] at np; cases np
end
end KP
set_option maxRecDepth 100000
set_option maxHeartbeats 4000000
/-! The law's terms. -/
namespace KP
open PySem PySem.Spec PyProof.Rows L2 KT FS FD
def iN (k : Nat) : V := .int (k : Int)
/-- a pair of a list of places and an integer; its list is none of av -/
def IsLt (av : List Addr) (H : Hp) (v : V) (t : FM.Tm) : Prop := ∃ b s, v = .ref b ∧ H b = some (.tup [.ref s, .int t.2]) ∧ H s = some (.lst (t.1.map iN)) ∧ s ∉ av
theorem IsLt.same {av : List Addr} {H H' : Hp} {v : V} {t : FM.Tm} (h : IsLt av H v t) (s : Same H H') : IsLt av H' v t := let ⟨b, c, e, h1, h2, h3⟩ := h; ⟨b, c, e, s _ _ h1, s _ _ h2, h3⟩
theorem IsLt.but {av : List Addr} {H H' : Hp} {v : V} {t : FM.Tm} {d : Addr} {o : HO} (h : IsLt av H v t) (b : But d H H') (m : d ∈ av) (hd : H d = some o) (n : ∀ xs, o ≠ .tup xs) : IsLt av H' v t := by
  obtain ⟨b1, c, e, h1, h2, h3⟩ := h
  exact ⟨b1, c, e, b _ _ h1 (by rintro rfl; rw [hd] at h1; exact n _ (Option.some.inj h1)), b _ _ h2 (by rintro rfl; exact h3 m), h3⟩
theorem IsLt.pot {av : List Addr} {H H' : Hp} {v : V} {t : FM.Tm} {d : Addr} (h : IsLt av H v t) (p : PotAt H d) (b : But d H H') (m : d ∈ av) : IsLt av H' v t := let ⟨_, e⟩ := p.at; h.but b m e fun xs z => by cases z
theorem IsLt.weak {av bv : List Addr} {H : Hp} {v : V} {t : FM.Tm} (h : IsLt av H v t) (s : ∀ x ∈ bv, x ∈ av) : IsLt bv H v t := let ⟨b, c, e, h1, h2, h3⟩ := h; ⟨b, c, e, h1, h2, fun m => h3 (s _ m)⟩
theorem IsLt.more {av : List Addr} {H : Hp} {v : V} {t : FM.Tm} {d : Addr} (h : IsLt av H v t) (n : H d = none) : IsLt (d :: av) H v t := by
  obtain ⟨b, c, e, h1, h2, h3⟩ := h
  refine ⟨b, c, e, h1, h2, fun m => ?_⟩
  rcases List.mem_cons.mp m with z | z
  · rw [z, n] at h2; cases h2
  · exact h3 z
def LtL (av : List Addr) (n : Nat) (H : Hp) (L : List (V × FM.Tm)) : Prop := ∀ x ∈ L, IsLt av H x.1 x.2 ∧ (∀ k ∈ x.2.1, k < n) ∧ x.2.1.length ≤ 9
theorem LtL.same {av n} {H H' : Hp} {L} (h : LtL av n H L) (s : Same H H') : LtL av n H' L := fun x hx => ⟨(h x hx).1.same s, (h x hx).2⟩
theorem LtL.but {av n} {H H' : Hp} {L} {d : Addr} {o : HO} (h : LtL av n H L) (b : But d H H') (m : d ∈ av) (hd : H d = some o) (q : ∀ xs, o ≠ .tup xs) : LtL av n H' L := fun x hx => ⟨(h x hx).1.but b m hd q, (h x hx).2⟩
theorem LtL.pot {av n} {H H' : Hp} {L} {d : Addr} (h : LtL av n H L) (p : PotAt H d) (b : But d H H') (m : d ∈ av) : LtL av n H' L := fun x hx => ⟨(h x hx).1.pot p b m, (h x hx).2⟩
theorem LtL.weak {av bv n} {H : Hp} {L} (h : LtL av n H L) (s : ∀ x ∈ bv, x ∈ av) : LtL bv n H L := fun x hx => ⟨(h x hx).1.weak s, (h x hx).2⟩
theorem LtL.more {av n} {H : Hp} {L} {d : Addr} (h : LtL av n H L) (q : H d = none) : LtL (d :: av) n H L := fun x hx => ⟨(h x hx).1.more q, (h x hx).2⟩
theorem LtL.snoc {av n} {H : Hp} {L : List (V × FM.Tm)} {v : V} {t : FM.Tm} (h : LtL av n H L) (k : IsLt av H v t) (b : ∀ k ∈ t.1, k < n) (l : t.1.length ≤ 9) : LtL av n H (L ++ [(v, t)]) := fun x hx => by
  rcases List.mem_append.mp hx with m | m
  · exact h x m
  · rw [List.mem_singleton.mp m]; exact ⟨k, b, l⟩
abbrev nTm : List Str := ["_law_pot_here", "_law_most", "_law_signs_here", "_law_terms_here", "_law_k", "_law_places", "_law_i"]
def spTerms : Sp := fun vs H Q _ => ∃ (a : Addr) (n mo : Nat), vs = [.ref a, .int (mo : Int), .int (n : Int)] ∧ mo ≤ 6 ∧ PotAt H a ∧ 1 ≤ n ∧ n ≤ 5 ∧ ∀ (L : List (V × FM.Tm)) p H', H p = none → PotAt H' a → But a H H' → H' p = some (.lst (L.map fun z => z.1)) → LtL [p, a] n H' L → L.length ≤ mo → (∀ x ∈ L, x.2.1.length ≤ 5 ∧ bdI x.2.2) → Q (.ref p) H'
section
variable {P : Program} {w : World} {K : PySem.W.Frag} {mg : Str → Option Value} {base : Heap}
theorem ok_terms {f fr fn : Addr} {fd dr dn : FuncData} (F : Fun K "_law_terms" "_law_terms" sLTerms f fd) (B : Blt mg) (D : DrwD K mg P w base fr dr) (N : NumD K mg P w base fn dn) : FnOk P w K mg base CX0 3 f fd ["_law_pot_here", "_law_most", "_law_signs_here"] spTerms := by
  refine F.ok scLTerms (fun vs H Q E h => ?_) (fun cdv A outer s H vs Q E hr h => ?_)
  · obtain ⟨_, _, _, rfl, _⟩ := h
    rfl
  · obtain ⟨a, n, mo, rfl, hmo, hp, k1, k5, q⟩ := h
    refine ⟨_, pss_cons (ps_set (i := 3) scLTerms.nd rfl (.inl rfl) (pe_lst pa_nil))
      (pss_cons (ps_for PassesOwn.never rfl (pi_range1 (by rfl) B.range (pa_cons (pe_call D.ok (hr.mono (by decide)) (by rfl) D.m D.k D.b .nil pass0 (pa_cons (pv 0) (pa_cons (pe_op op_add (pv 1) pe_int) pa_nil))) pa_nil)) (pg_name (i := 4) scLTerms.nd rfl (.inl rfl))
        (pss_cons (ps_setLc (i := 5) (own := [("_law_i", 6)]) (g := gName 6) (tt := tYes) rfl scLTerms.nd rfl rfl (sw_true rfl rfl rfl (by decide +kernel)) (pi_range1 (by rfl) B.range (pa_cons (pe_call D.ok (hr.mono (by decide)) (by rfl) D.m D.k D.b .nil pass0 (pa_cons (pv 0) (pa_cons pe_int pa_nil))) pa_nil))
            (blkOk_by (N := nTm) (sc := defScope sLTerms) (by decide +kernel)) (fun _ _ _ _ _ => pg_name (i := 6) scLTerms.nd rfl (.inl rfl)) (fun _ _ _ _ _ => pts_nil)
            (fun _ _ _ _ _ => pe_call D.ok (hr.mono (by decide)) (by rfl) D.m D.k D.b .nil pass0 (pa_cons (pv 0) (pa_cons (pv 2) pa_nil))))
        (pss_one (ps_expr (pe_bm PySem.F.plainAttrs_list PySem.F.slot_list_append PySem.F.type_list_append mt_append (pv 3) (pa_cons (pe_tup (pa_cons (pv 5) (pa_cons (pe_call N.ok hr (by rfl) N.m N.k N.b .nil pass0 (pa_cons (pv 0) pa_nil)) pa_nil))) pa_nil))))))
      (pss_one (ps_ret (pv 3)))), ?_⟩
    refine ⟨by show 0 ≤ sizeLine; decide, fun fl nf => ?_⟩
    have naf : a ≠ fl := hp.ne nf
    have s1 : Same H (upd H fl (.lst [])) := same_upd nf
    have hf1 : upd H fl (.lst []) fl = some (.lst []) := upd_same
    have hp1 := hp.upd (D := fl) (o := .lst []) naf
    generalize upd H fl (.lst []) = H1 at s1 hf1 hp1
    refine ⟨_, rfl, _, rfl, _, _, rfl, rfl, a, (mo : Int) + 1, rfl, hp1, by omega, fun m H2 m0 m7 hp2 hb2 => ⟨m, rfl, by omega, by omega, ?_⟩⟩
    have b2 : But a H H2 := (But.of s1).trans hb2
    refine for_range (lo := 0) (n := m.toNat) (fun i σ H3 => ∃ (L : List (V × FM.Tm)) (v4 v5 v6 : Option V), σ = [some (.ref a), some (.int (mo : Int)), some (.int (n : Int)), some (.ref fl), v4, v5, v6] ∧ PotAt H3 a ∧ But a H H3 ∧ H3 fl = some (.lst (L.map fun z => z.1)) ∧ LtL [fl, a] n H3 L ∧ L.length ≤ i ∧ ∀ x ∈ L, x.2.1.length ≤ 5 ∧ bdI x.2.2)
      ⟨[], none, none, none, rfl, hp2, b2, hb2 _ _ hf1 (Ne.symm naf), (fun _ h => nomatch h), Nat.le_refl _, fun _ h => nomatch h⟩ ?_ ?_
    · rintro i σ H3 hi ⟨L, v4, v5, v6, rfl, hp3, hb3, hfl3, hL3, lL, l5⟩
      refine ⟨_, rfl, a, 5, rfl, hp3, by decide, fun v H4 v0 v5' hp4 hb4 => ⟨v, rfl, by omega, by omega, fun D1 nD => ?_⟩⟩
      have naD : a ≠ D1 := hp4.ne nD
      have nfD : fl ≠ D1 := ne_of_none (hb4 _ _ hfl3 (Ne.symm naf)) nD
      refine lc_range (lo := 0) (n := v.toNat) (fun j H5 => ∃ ks : List Nat, ks.length = j ∧ PotAt H5 a ∧ But a H4 H5 ∧ H5 D1 = some (.lst (ks.map iN)) ∧ ∀ k ∈ ks, k < n)
        ⟨[], rfl, hp4.upd naD, But.of (same_upd nD), upd_same, fun _ h => nomatch h⟩ ?_ ?_
      · rintro j H5 hj ⟨ks, lk, hp5, hb5, hD, hk⟩
        refine ⟨rfl, yes_i ⟨_, rfl, _, rfl, a, (n : Int), rfl, hp5, by omega, fun o H6 o0 on hp6 hb6 => ?_⟩⟩
        have hD6 := hb6 _ _ hD (Ne.symm naD)
        obtain ⟨o', rfl⟩ : ∃ o' : Nat, o = (o' : Int) := ⟨o.toNat, by omega⟩
        refine ⟨_, hD6, small1000 (by rw [List.length_map]; omega), ks ++ [o'], by rw [List.length_append, lk]; rfl, hp6.upd naD, but_new (hb5.trans hb6) nD, by rw [upd_same, List.map_append]; rfl, fun k hkk => ?_⟩
        rcases List.mem_append.mp hkk with z | z
        · exact hk k z
        · rw [List.mem_singleton.mp z]; omega
      · rintro H5 ⟨ks, lk, hp5, hb5, hD, hk⟩
        have b5 : But a H3 H5 := hb4.trans hb5
        have hL5 := hL3.pot hp3 b5 (by simp)
        have hfl5 := b5 _ _ hfl3 (Ne.symm naf)
        refine ⟨_, rfl, .inl ⟨rfl, _, SqL.of hfl5⟩, _, rfl, _, rfl, a, rfl, hp5, fun c H6 hcb hp6 hb6 => ⟨by show 2 ≤ sizeLine; decide, fun T nT => ?_⟩⟩
        have hL6 := hL5.pot hp5 hb6 (by simp)
        have hfl6 := hb6 _ _ hfl5 (Ne.symm naf)
        have hD6 := hb6 _ _ hD (Ne.symm naD)
        have s7 : Same H6 (upd H6 T (.tup [.ref D1, .int c])) := same_upd nT
        have hT : upd H6 T (.tup [.ref D1, .int c]) T = some (.tup [.ref D1, .int c]) := upd_same
        have hp7 := hp6.upd (D := T) (o := .tup [.ref D1, .int c]) (hp6.ne nT)
        generalize upd H6 T (.tup [.ref D1, .int c]) = H7 at s7 hT hp7
        have hfl7 := s7 _ _ hfl6
        have it : IsLt [fl, a] H7 (.ref T) (ks, c) := ⟨T, D1, rfl, hT, s7 _ _ hD6, by simp [Ne.symm nfD, Ne.symm naD]⟩
        refine ⟨fl, _, _, rfl, rfl, hfl7, small1000 (by rw [List.length_map]; omega), L ++ [(.ref T, (ks, c))], _, _, _, rfl, hp7.upd naf, but_new (((hb3.trans b5).trans hb6).same s7) nf, by rw [upd_same, List.map_append]; rfl, ?_, by rw [List.length_append]; show L.length + 1 ≤ _; omega, fun x hx => ?_⟩
        · exact ((hL6.same s7).snoc it hk (by show ks.length ≤ 9; omega)).but But.upd (by simp) hfl7 fun xs z => by cases z
        · rcases List.mem_append.mp hx with m | m
          · exact l5 x m
          · rw [List.mem_singleton.mp m]; exact ⟨show ks.length ≤ 5 by omega, hcb⟩
    · rintro σ H3 ⟨L, v4, v5, v6, rfl, hp3, hb3, hfl3, hL3, lL, l5⟩
      exact ⟨_, rfl, q L fl H3 nf hp3 hb3 hfl3 hL3 (by omega) l5⟩
end
end KP
set_option maxRecDepth 100000
set_option maxHeartbeats 4000000
/-! The law's bits and sums. -/
namespace KP
open PySem PySem.Spec PyProof.Rows L2 KT FS FD
open FM (asc addP accL coef nrm bt)
theorem u1 {A : Around} (h : A.units + 64 < cLine) : A.units + 1 < cLine := Nat.lt_of_le_of_lt (Nat.add_le_add_left (by decide : 1 ≤ 64) _) h
/-- a product as a key -/
def kp (p : List Nat) : List Key := p.map fun k : Nat => (.inl (k : Int) : Key)
theorem kp_V (p : List Nat) : (kp p).map kV = p.map iN := by unfold kp; rw [List.map_map]; rfl
theorem kp_inj {p q : List Nat} (h : kp p = kp q) : p = q := map_inj' (f := fun k : Nat => (.inl (k : Int) : Key)) (fun a b e => by have := Sum.inl.inj e; omega) h
def dkv (S : List FM.Tm) : List (List Key × V) := S.map fun t => (kp t.1, V.int t.2)
theorem valV_dkv (p : List Nat) : ∀ S : List FM.Tm, valV (dkv S) (kp p) = (S.find? fun t => decide (t.1 = p)).map fun t => V.int t.2
  | [] => rfl
  | t :: S => by
    have ih := valV_dkv p S
    unfold valV dkv at ih ⊢
    rw [List.map_cons, List.find?_cons, List.find?_cons]
    by_cases c : t.1 = p
    · rw [decide_eq_true (show kp t.1 = kp p by rw [c]), decide_eq_true c]; rfl
    · rw [decide_eq_false (fun z => c (kp_inj z)), decide_eq_false c]; exact ih
theorem dkv_get {S : List FM.Tm} (nd : (S.map fun t => t.1).Nodup) (p : List Nat) : (valV (dkv S) (kp p)).getD (.int 0) = .int (coef S p) := by
  rw [valV_dkv]
  by_cases c : p ∈ S.map fun t => t.1
  · obtain ⟨t, e, _, e2⟩ := find_yes nd c
    rw [e, ← e2]; rfl
  · rw [find_no c, FM.coef_no c]; rfl
theorem dkv_any (p : List Nat) : ∀ S : List FM.Tm, ((dkv S).any fun kv => decide (kv.1 = kp p)) = decide (p ∈ S.map fun t => t.1)
  | [] => rfl
  | t :: S => by
    have ih := dkv_any p S
    unfold dkv at ih ⊢
    rw [List.map_cons, List.any_cons, ih]
    by_cases c : t.1 = p
    · rw [decide_eq_true (show kp t.1 = kp p by rw [c]), Bool.true_or]
      exact (decide_eq_true (by rw [List.map_cons, c]; exact List.mem_cons_self)).symm
    · rw [decide_eq_false (fun z => c (kp_inj z)), Bool.false_or]
      exact decide_eq_decide.mpr (by rw [List.map_cons, List.mem_cons]; exact ⟨.inr, fun z => z.resolve_left fun y => c y.symm⟩)
theorem dkv_put {S : List FM.Tm} (nd : (S.map fun t => t.1).Nodup) (p : List Nat) (c : Int) : putK (dkv S) (kp p) (.int (coef S p + c)) = dkv (addP S p c) := by
  unfold putK addP
  rw [dkv_any]
  by_cases m : p ∈ S.map fun t => t.1
  · rw [if_pos (decide_eq_true m), if_pos m]
    unfold dkv
    rw [List.map_map, List.map_map]
    refine List.map_congr_left fun t ht => ?_
    show (if kp t.1 = kp p then (kp t.1, V.int (coef S p + c)) else (kp t.1, V.int t.2)) = (fun t : FM.Tm => (kp t.1, V.int t.2)) (if t.1 = p then (t.1, t.2 + c) else t)
    by_cases e : t.1 = p
    · rw [if_pos (by rw [e]), if_pos e]
      have : (p, t.2) ∈ S := by rw [← e]; exact ht
      rw [FM.coef_mem nd this]
    · rw [if_neg (fun z => e (kp_inj z)), if_neg e]
  · rw [if_neg (by simpa using m), if_neg m, FM.coef_no m, show (0 : Int) + c = c by omega]
    unfold dkv
    rw [List.map_append]
    rfl
theorem in_nats (k : Nat) : ∀ ks : List Nat, inV (.int (k : Int)) (ks.map iN) = decide (k ∈ ks)
  | [] => by simp [inV]
  | n :: ks => by
    have ih := in_nats k ks
    unfold inV at ih ⊢
    rw [List.map_cons, List.any_cons, ih]
    by_cases c : n = k
    · subst c
      have e : eqV (iN n) (.int (n : Int)) = true := by simp [eqV, iN]
      rw [e, Bool.true_or]
      exact (decide_eq_true List.mem_cons_self).symm
    · have e : eqV (iN n) (.int (k : Int)) = false := by simp only [eqV, iN, beq_eq_false_iff_ne]; omega
      rw [e, Bool.false_or]
      exact decide_eq_decide.mpr (by rw [List.mem_cons]; exact ⟨.inr, fun h => h.resolve_left fun z => c z.symm⟩)
theorem flat_nats : ∀ ks : List Nat, (ks.map iN).all flatV = true
  | [] => rfl
  | _ :: ks => by rw [List.map_cons, List.all_cons, flat_nats ks]; rfl
section
variable {P : Program} {w : World} {K : PySem.W.Frag} {mg : Str → Option Value} {base : Heap}
def spBits : Sp := fun vs H Q _ => ∃ n : Nat, vs = [.int (n : Int)] ∧ ∀ l H', Same H H' → H l = none → H' l = some (.lst ((List.range 5).map fun k => .bl (bt n k))) → Q (.ref l) H'
theorem ok_bits {f : Addr} {fd : FuncData} (F : Fun K "_law_bits" "_law_bits" sLBits f fd) (B : Blt mg) : FnOk P w K mg base CX0 1 f fd ["_law_number_here"] spBits := by
  refine F.ok scLBits (fun vs H Q E h => ?_) (fun cdv A outer s H vs Q E hr h => ?_)
  · obtain ⟨_, rfl, _⟩ := h
    rfl
  · obtain ⟨n, rfl, q⟩ := h
    refine ⟨_, pss_cons (ps_set (i := 1) scLBits.nd rfl (.inl rfl) (pe_lst pa_nil))
      (pss_cons (ps_for PassesOwn.never rfl (pi_range1 (by rfl) B.range (pa_cons pe_int pa_nil)) (pg_name (i := 2) scLBits.nd rfl (.inl rfl))
        (pss_cons (ps_expr (pe_bm PySem.F.plainAttrs_list PySem.F.slot_list_append PySem.F.type_list_append mt_append (pv 1) (pa_cons (pe_cmpR op_eq (pe_op op_mod (pe_callTy call_int1 (by rfl) B.int (by decide +kernel) (pa_cons (pv 0) pa_nil)) pe_int) pe_int (nomark _)) pa_nil)))
        (pss_one (ps_set (i := 0) scLBits.nd rfl (.inl rfl) (pe_op op_fdiv (pv 0) pe_int)))))
      (pss_one (ps_ret (pv 1)))), ?_⟩
    refine ⟨by show 0 ≤ sizeLine; decide, fun l nl => ⟨5, rfl, by omega, by omega, ?_⟩⟩
    refine for_range (lo := 0) (n := 5) (fun i σ H2 => ∃ v2 : Option V, σ = [some (.int ((n / 2 ^ i : Nat) : Int)), some (.ref l), v2] ∧ Same H H2 ∧ H2 l = some (.lst ((List.range i).map fun k => .bl (bt n k))))
      ⟨none, by simp; rfl, same_upd nl, upd_same⟩ ?_ ?_
    · rintro i σ H2 hi ⟨v2, rfl, s2, h2⟩
      refine ⟨_, rfl, .inl ⟨rfl, _, SqL.of h2⟩, _, rfl, .inl ⟨_, rfl, _, _, rfl, rfl, by show (0 : Int) < 2; decide, rfl, l, _, _, rfl, rfl, h2, small1000 (by rw [List.length_map, List.length_range]; omega), ?_⟩⟩
      refine ⟨_, rfl, _, _, rfl, rfl, ⟨by decide, by decide⟩, some (.int (0 + (i : Int))), ?_, fun c o e => by rw [upd_ne (ne_of_none e nl)]; exact s2 _ _ e, ?_⟩
      · show [some (V.int (((n / 2 ^ i : Nat) : Int) / 2)), some (V.ref l), some (V.int (0 + (i : Int)))] = _
        have e : ((n / 2 ^ i : Nat) : Int) / 2 = ((n / 2 ^ (i + 1) : Nat) : Int) := by
          rw [Nat.pow_succ, ← Nat.div_div_eq_div_mul]; omega
        rw [e]
      · rw [upd_same, List.range_succ, List.map_append]
        have e : decide (V.int (((n / 2 ^ i : Nat) : Int) % 2) = V.int 1) = bt n i := by
          unfold bt
          exact decide_eq_decide.mpr (by rw [V.int.injEq]; omega)
        rw [e]
        rfl
    · rintro σ H2 ⟨v2, rfl, s2, h2⟩
      exact ⟨_, rfl, q l H2 s2 nl h2⟩
abbrev nSm : List Str := ["_law_terms_here", "_law_form_here", "_law_places", "_law_number_here", "_law_product", "_law_k"]
/-- the terms of the law's sums -/
def lT (L : List (V × FM.Tm)) : List FM.Tm := L.map fun y => (asc 5 y.2.1, y.2.2)
def spSum : Sp := fun vs H Q _ => ∃ (a : Addr) (L : List (V × FM.Tm)) (n : Nat), vs = [.ref a] ∧ H a = some (.lst (L.map fun z => z.1)) ∧ LtL [] n H L ∧ L.length ≤ 100 ∧ ∀ d H', Same H H' → H d = none → H' d = some (.dT (dkv (accL (lT L)))) → Q (.ref d) H'
theorem ok_lsum {f : Addr} {fd : FuncData} (F : Fun K "_law_sum" "_law_sum" sLSum f fd) (B : Blt mg) : FnOk P w K mg base CX0 1 f fd ["_law_terms_here"] spSum := by
  refine F.ok scLSum (fun vs H Q E h => ?_) (fun cdv A outer s H vs Q E hr h => ?_)
  · obtain ⟨_, _, _, rfl, _⟩ := h
    rfl
  · obtain ⟨a, L, n, rfl, ha, hL, len, q⟩ := h
    have hu := u1 hr.units
    refine ⟨_, pss_cons (ps_set (i := 1) scLSum.nd rfl (.inl rfl) pe_dnewT)
      (pss_cons (ps_for PassesOwn.never rfl (pi_list (pv 0)) (pg_tup rfl (pgs_cons (pg_name (i := 2) scLSum.nd rfl (.inr rfl)) (pgs_cons (pg_name (i := 3) scLSum.nd rfl (.inl rfl)) pgs_nil)))
        (pss_cons (ps_set (i := 4) scLSum.nd rfl (.inl rfl) (pe_callTy call_tuple_of (by rfl) B.tuple (by decide +kernel) (pa_cons (pe_lc (own := [("_law_k", 5)]) (g := gName 5) rfl scLSum.nd (pi_range1 (by rfl) B.range (pa_cons pe_int pa_nil))
            (blkOk_by (N := nSm) (sc := defScope sLSum) (by decide +kernel)) (fun _ _ _ _ _ => pg_name (i := 5) scLSum.nd rfl (.inl rfl))
            (fun _ _ _ _ _ => pts_one (pt_cmpR (show OpR _ _ (rIn K false) from op_in_seq) (pv 5) (pv 2) rfl)) (fun _ _ _ _ _ => pv 5)) pa_nil)))
        (pss_one (ps_dput hu (pv 1) (pv 4) (pe_op op_add (pe_dget2 hu (pv 1) (pv 4) pe_int ⟨rfl, rfl, rfl, rfl⟩) (pv 3)) rfl))))
      (pss_one (ps_ret (pv 1)))), ?_⟩
    intro d nd
    have s1 : Same H (upd H d (.dT [])) := same_upd nd
    refine ⟨_, rfl, a, rfl, ⟨_, SqL.of (s1 _ _ ha)⟩, for_list (K := K) (a := a) (xs := L.map fun z => z.1) (fun i σ H2 => ∃ v2 v3 v4 : Option V, σ = [some (.ref a), some (.ref d), v2, v3, v4, none] ∧ Same H H2 ∧ H2 d = some (.dT (dkv (accL (lT (L.take i))))))
      ⟨none, none, none, rfl, s1, upd_same⟩ (fun i σ H2 _ ⟨_, _, _, _, s2, _⟩ => SqL.of (s2 _ _ ha)) ?_ ?_⟩
    · rintro i v σ H2 hv ⟨v2, v3, v4, rfl, s2, hD⟩
      obtain ⟨t, ht⟩ := at_map hv
      have hil : i < L.length := (List.getElem?_eq_some_iff.mp ht).1
      obtain ⟨⟨b, c, e, h1, h2, _⟩, bd, lt⟩ := (hL.same s2) _ (List.mem_of_getElem? ht)
      have e : v = .ref b := e
      subst e
      have h1 : H2 b = some (.tup [.ref c, .int t.2]) := h1
      have h2 : H2 c = some (.lst (t.1.map iN)) := h2
      refine ⟨b, _, rfl, SqT.of h1, rfl, _, _, rfl, _, _, rfl, rfl, ?_⟩
      refine ⟨5, rfl, by omega, by omega, fun D1 nD => ?_⟩
      refine lc_range (lo := 0) (n := 5) (fun j H3 => Same H2 H3 ∧ H3 D1 = some (.lst (((List.range j).filter fun k => decide (k ∈ t.1)).map iN)))
        ⟨same_upd nD, upd_same⟩ ?_ ?_
      · rintro j H3 hj ⟨s3, hD3⟩
        have ej : (0 : Int) + (j : Int) = ((j : Nat) : Int) := by omega
        refine ⟨rfl, _, rfl, _, rfl, c, _, rfl, .inl (SqL.of (s3 _ _ h2)), rfl, flat_nats _, ?_⟩
        rw [if_neg Bool.false_ne_true, ej, in_nats]
        have st : ((List.range (j + 1)).filter fun k => decide (k ∈ t.1)) = ((List.range j).filter fun k => decide (k ∈ t.1)) ++ if decide (j ∈ t.1) = true then [j] else [] := by
          rw [List.range_succ, List.filter_append]
          congr 1
          by_cases z : j ∈ t.1 <;> simp [z]
        refine ⟨_, rfl, ?_⟩
        cases z : decide (j ∈ t.1) with
        | false =>
          rw [z, if_neg Bool.false_ne_true, List.append_nil] at st
          exact iteF ⟨s3, by rw [st]; exact hD3⟩
        | true =>
          rw [z, if_pos rfl] at st
          refine iteT ⟨_, rfl, _, hD3, small1000 (by rw [List.length_map]; exact Nat.le_trans (List.length_filter_le _ _) (by rw [List.length_range]; omega)), fun c o e => by rw [upd_ne (ne_of_none e nD)]; exact s3 _ _ e, ?_⟩
          rw [upd_same, st, List.map_append]
          rfl
      · rintro H3 ⟨s3, hD3⟩
        refine ⟨D1, _, rfl, .inl ⟨SqL.of hD3, fun T nT => ?_⟩⟩
        have s4 : Same H3 (upd H3 T (.tup (((List.range 5).filter fun k => decide (k ∈ t.1)).map iN))) := same_upd nT
        have hT : upd H3 T (.tup (((List.range 5).filter fun k => decide (k ∈ t.1)).map iN)) T = some (.tup ((kp (asc 5 t.1)).map kV)) := by rw [upd_same, kp_V]; rfl
        generalize upd H3 T (.tup (((List.range 5).filter fun k => decide (k ∈ t.1)).map iN)) = H4 at s4 hT
        have hD4 := s4 _ _ (s3 _ _ hD)
        have ns := FM.acc_nd (lT (L.take i))
        refine ⟨_, rfl, d, rfl, .inr ⟨_, .inl hD4⟩, _, rfl, _, DGet.t hD4 hT, ?_⟩
        rw [dkv_get ns]
        have len' : (dkv (accL (lT (L.take i)))).length < sizeLine := by
          refine small1000 ?_
          have z := FM.acc_len (lT (L.take i))
          unfold lT at z
          rw [List.length_map, List.length_take] at z
          unfold dkv lT
          rw [List.length_map]
          omega
        refine ⟨_, rfl, _, _, rfl, rfl, _, rfl, _, rfl, d, _, rfl, DPut.t hD4 hT len', ?_⟩
        rw [dkv_put ns]
        have e6 : lT (L.take (i + 1)) = lT (L.take i) ++ [(asc 5 t.1, t.2)] := take_map ht
        refine ⟨_, _, _, rfl, fun c o e => ?_, ?_⟩
        · rw [upd_ne (ne_of_none e nd)]
          exact s4 _ _ (s3 _ _ (s2 _ _ e))
        · rw [upd_same, e6, FM.acc_snoc]
    · rintro σ H2 ⟨v2, v3, v4, rfl, s2, hD⟩
      rw [List.length_map, List.take_length] at hD
      exact ⟨_, rfl, q d H2 s2 nd hD⟩
end
end KP
set_option maxRecDepth 100000
set_option maxHeartbeats 4000000
/-! The law's values; ranks of products. -/
namespace KP
open PySem PySem.Spec PyProof.Rows L2 KT FS FD
open FM (asc addP accL coef nrm bt vT)
theorem vT_step {S : List FM.Tm} {b : Nat → Bool} {i : Nat} {t : FM.Tm} (h : S[i]? = some t) : vT (S.take (i + 1)) b = vT (S.take i) b + if t.1.all b = true then t.2 else 0 := by
  rw [List.take_add_one, h, FM.vT_append]
  show _ + vT [t] b = _
  rw [FM.vT_cons, show vT [] b = 0 from rfl, Int.add_zero]
theorem dkv_at {S : List FM.Tm} {i : Nat} {t : FM.Tm} (h : S[i]? = some t) : (dkv S)[i]? = some (kp t.1, V.int t.2) := by unfold dkv; rw [List.getElem?_map, h]; rfl
theorem dkv_of {S : List FM.Tm} {i : Nat} {k : List Key} {v : V} (h : (dkv S)[i]? = some (k, v)) : ∃ t, S[i]? = some t ∧ k = kp t.1 ∧ v = V.int t.2 := by
  unfold dkv at h
  rw [List.getElem?_map] at h
  cases e : S[i]? with
  | none => rw [e] at h; cases h
  | some t => rw [e] at h; cases h; exact ⟨t, rfl, rfl, rfl⟩
theorem dkv_val {S : List FM.Tm} (nd : (S.map fun t => t.1).Nodup) {t : FM.Tm} (h : t ∈ S) : valV (dkv S) (kp t.1) = some (.int t.2) := by
  obtain ⟨u, e, _, e2⟩ := find_yes nd (List.mem_map.mpr ⟨t, h, rfl⟩)
  rw [valV_dkv, e, Option.map_some, e2, FM.coef_mem nd (p := t.1) (c := t.2) h]
section
variable {P : Program} {w : World} {K : PySem.W.Frag} {mg : Str → Option Value} {base : Heap}
def spValue : Sp := fun vs H Q _ => ∃ (d l : Addr) (S : List FM.Tm) (b : Nat → Bool) (m : Nat), vs = [.ref d, .ref l] ∧ H d = some (.dT (dkv S)) ∧ (S.map fun t => t.1).Nodup ∧ (∀ t ∈ S, t.1.length ≤ 100 ∧ ∀ k ∈ t.1, k < m) ∧ H l = some (.lst ((List.range m).map fun k => .bl (b k))) ∧
  ∀ H', Same H H' → Q (.int (vT S b)) H'
theorem ok_value {f : Addr} {fd : FuncData} (F : Fun K "_law_value" "_law_value" sLValue f fd) (B : Blt mg) : FnOk P w K mg base CX0 1 f fd ["_law_form_here", "_law_truths"] spValue := by
  refine F.ok scLValue (fun vs H Q E h => ?_) (fun cdv A outer s H vs Q E hr h => ?_)
  · obtain ⟨_, _, _, _, _, rfl, _⟩ := h
    rfl
  · obtain ⟨d, l, S, b, mm, rfl, hd, nd, bd, hl, q⟩ := h
    have hu := u1 hr.units
    refine ⟨_, pss_cons (ps_set (i := 2) scLValue.nd rfl (.inl rfl) pe_int)
      (pss_cons (ps_lock (ps_for PassesOwn.never rfl (pi_keys (pv 0)) (pg_name (i := 3) scLValue.nd rfl (.inl rfl))
        (pss_one (ps_if (pt_val (pe_callB (cr_all rfl) (by rfl) B.all (by decide +kernel) (pa_cons (pe_lc (own := [("_law_k", 4)]) (g := gName 4) (tt := tYes) rfl scLValue.nd (pi_tup (pv 3))
            (blkOk_by (N := ["_law_form_here", "_law_truths", "_law_value_here", "_law_product", "_law_k"]) (sc := defScope sLValue) (by decide +kernel)) (fun _ _ _ _ _ => pg_name (i := 4) scLValue.nd rfl (.inl rfl)) (fun _ _ _ _ _ => pts_nil)
            (fun _ _ _ _ _ => pe_ix (show IxR _ (rIxL K) from ix_list) (pv 1) (pv 4) (fun _ _ => rfl))) pa_nil)))
          (pss_one (ps_set (i := 2) scLValue.nd rfl (.inl rfl) (pe_op op_add (pv 2) (pe_dget hu (pv 0) (pv 3) (fun _ _ => rfl))))) pss_nil))))
      (pss_one (ps_ret (pv 2)))), ?_⟩
    refine ⟨d, _, hd, trivial, fun od => ?_⟩
    have ndl : l ≠ d := fun z => by rw [z, hd] at hl; cases hl
    have kf : ∀ c o, H c = some o → c ≠ d → upd H d (.frz od (.dT (dkv S))) c = some o := fun c o e n => by rw [upd_ne n]; exact e
    have hf : upd H d (.frz od (.dT (dkv S))) d = some (.frz od (.dT (dkv S))) := upd_same
    have hfn : ∀ c, upd H d (.frz od (.dT (dkv S))) c = none → H c = none := fun c e => by
      by_cases z : c = d
      · rw [z, hf] at e; cases e
      · rwa [upd_ne z] at e
    generalize upd H d (.frz od (.dT (dkv S))) = H1 at kf hf hfn
    have hl1 := kf _ _ hl ndl
    refine ⟨_, rfl, d, od, rfl, .inr ⟨dkv S, hf, ?_⟩⟩
    have ls : (dkv S).length = S.length := by unfold dkv; rw [List.length_map]
    refine for_it walk_keysT (fun i σ H2 => ∃ v3 : Option V, σ = [some (.ref d), some (.ref l), some (.int (vT (S.take i) b)), v3, none] ∧ Same H1 H2) ⟨none, rfl, Same.refl _⟩ (fun i σ H2 _ ⟨_, _, s2⟩ => s2 _ _ hf) ?_ ?_
    · rintro i x σ H2 H3 hi ⟨v3, rfl, s2⟩ ⟨rfl, k, v, qa, hk, rfl, hq⟩
      obtain ⟨t, ht, rfl, rfl⟩ := dkv_of hk
      have hm := List.mem_of_getElem? ht
      rw [kp_V] at hq
      have hl3 := s2 _ _ hl1
      have hd3 := s2 _ _ hf
      refine ⟨_, rfl, qa, rfl, ⟨_, SqT.of hq⟩, fun D nD => lc_it (walk_tup (K := K) (a := qa) (xs := t.1.map iN)) (fun j H4 => Same H3 H4 ∧ H4 D = some (.lst (((t.1.take j).map b).map V.bl)))
        ⟨same_upd nD, upd_same⟩ (fun j H4 _ h4 => SqT.of (h4.1 _ _ hq)) ?_ ?_⟩
      · rintro j y H4 H5 hj ⟨s4, hD⟩ ⟨rfl, hy⟩
        obtain ⟨n, hn, rfl⟩ : ∃ n, t.1[j]? = some n ∧ y = iN n := by
          rw [List.getElem?_map] at hy
          cases e : t.1[j]? with
          | none => rw [e] at hy; cases hy
          | some n => rw [e] at hy; exact ⟨n, rfl, (Option.some.inj hy).symm⟩
        have n5 := (bd t hm).2 n (List.mem_of_getElem? hn)
        have at5 : atI ((List.range mm).map fun k => V.bl (b k)) (n : Int) = some (.bl (b n)) := atI_nat (by rw [List.getElem?_map, List.getElem?_range n5]; rfl)
        refine ⟨rfl, yes_i ⟨_, rfl, _, rfl, l, _, _, _, rfl, rfl, SqL.of (s4 _ _ hl3), at5, _, hD, small1000 (by rw [List.length_map, List.length_map, List.length_take]; have := (bd t hm).1; omega), fun c o e => by rw [upd_ne (ne_of_none e nD)]; exact s4 _ _ e, ?_⟩⟩
        rw [upd_same, take_map hn, List.map_append]
        rfl
      · rintro H4 ⟨s4, hD⟩
        rw [List.length_map, List.take_length] at hD
        refine ⟨D, _, rfl, SqL.of hD, _, rfl, ?_⟩
        have ea : ((t.1.map b).all id) = t.1.all b := by rw [List.all_map]; rfl
        rw [ea]
        have st := vT_step (b := b) ht
        cases c : t.1.all b with
        | false =>
          rw [c, if_neg Bool.false_ne_true, Int.add_zero] at st
          exact iteF ⟨_, by rw [st]; rfl, s2.trans s4⟩
        | true =>
          rw [c, if_pos rfl] at st
          have hg : DGet H4 d (.ref qa) (valV (dkv S) (kp t.1)) := .inr ⟨_, _, qa, .inr ⟨od, s4 _ _ hd3⟩, rfl, by rw [kp_V]; exact s4 _ _ hq, rfl⟩
          rw [dkv_val nd hm] at hg
          exact iteT ⟨_, rfl, _, rfl, _, rfl, d, _, rfl, hg, _, _, rfl, rfl, _, by rw [st]; rfl, s2.trans s4⟩
    · rintro σ H2 ⟨v3, rfl, s2⟩
      rw [ls, List.take_length]
      refine ⟨s2 _ _ hf, _, rfl, q _ fun c o e => ?_⟩
      by_cases z : c = d
      · subst z
        rw [upd_same, ← e, hd]
      · rw [upd_ne z]
        exact s2 _ _ (kf _ _ e z)
/-! _law_product_rank -/
def spPR (K : PySem.W.Frag) : Sp := fun vs H Q _ => ∃ (q : Addr) (p : List Nat), vs = [.ref q] ∧ H q = some (.tup (p.map iN)) ∧ p.length ≤ 100 ∧ ∀ x H', Same H H' → Dp K H' x (encQ p) → Q x H'
theorem dp_nats {H : Hp} : ∀ p : List Nat, DpAll K H (p.map iN) (p.map fun (k : Nat) => PyData.int k)
  | [] => .nil
  | _ :: p => .cons (.int _) (dp_nats p)
theorem ok_prank {f : Addr} {fd : FuncData} (F : Fun K "_law_product_rank" "_law_product_rank" sLProductRank f fd) (B : Blt mg) : FnOk P w K mg base CX0 1 f fd ["_law_product"] (spPR K) := by
  refine F.ok scLProductRank (fun vs H Q E h => ?_) (fun cdv A outer s H vs Q E hr h => ?_)
  · obtain ⟨_, _, rfl, _⟩ := h
    rfl
  · obtain ⟨qa, p, rfl, hq, lp, q⟩ := h
    refine ⟨_, pss_one (ps_ret (pe_tup (pa_cons (pe_callB call_len_seq (by rfl) B.len PySem.boot_len (pa_cons (pv 0) pa_nil)) (pa_cons (pv 0) pa_nil)))), ?_⟩
    refine ⟨_, rfl, qa, _, rfl, .inr (SqT.of hq), _, rfl, by show 2 ≤ sizeLine; decide, fun T nT => ?_⟩
    have s1 : Same H (upd H T (.tup [.int ((p.map iN).length : Nat), .ref qa])) := same_upd nT
    refine q _ _ s1 ?_
    unfold encQ
    rw [show (p.length : Int) = ((p.map iN).length : Nat) by rw [List.length_map]]
    exact .tup (SqT.of upd_same) (.cons (.int _) (.cons (.tup (SqT.of (s1 _ _ hq)) (dp_nats p)) .nil))
end
end KP
set_option maxRecDepth 100000
set_option maxHeartbeats 4000000
/-! The law's normal form; pairs of signs and integers. -/
namespace KP
open PySem PySem.Spec PyProof.Rows L2 KT FS FD
open FM (asc addP accL coef nrm bt vT)
/-- the pool, a list of its signs -/
structure PoolAt (G : List Sg) (H : Hp) (pl : Addr) (M : List (V × Nat)) : Prop where
  at_ : H pl = some (.lst (M.map fun z => z.1))
  sn : M.map (fun z => z.2) = List.range G.length
  sg : SgA G H M
theorem PoolAt.same {G : List Sg} {H H' : Hp} {pl : Addr} {M} (h : PoolAt G H pl M) (s : Same H H') : PoolAt G H' pl M := ⟨s _ _ h.at_, h.sn, h.sg.same s⟩
theorem PoolAt.get {G : List Sg} {H : Hp} {pl : Addr} {M} (h : PoolAt G H pl M) {k : Nat} (hk : k < G.length) : ∃ v, atI (M.map fun z => z.1) (k : Int) = some v ∧ IsSg H v (at' G k) := by
  have e : (M.map fun z => z.2)[k]? = some k := by rw [h.sn, List.getElem?_range hk]
  rw [List.getElem?_map] at e
  cases q : M[k]? with
  | none => rw [q] at e; cases e
  | some z =>
    rw [q] at e
    have e : z.2 = k := Option.some.inj e
    refine ⟨z.1, atI_nat (by rw [List.getElem?_map, q]; rfl), ?_⟩
    rw [← e]
    exact (h.sg z (List.mem_of_getElem? q)).1
theorem PoolAt.len {G : List Sg} {H : Hp} {pl : Addr} {M} (h : PoolAt G H pl M) : M.length = G.length := by
  have := congrArg List.length h.sn
  rwa [List.length_map, List.length_range] at this
def rTupOf (K : PySem.W.Frag) : List V → Hp → VK → Prop := fun xs H Q => ∃ p ys, xs = [.ref p] ∧ ((SqL K H p ys ∧ ∀ l, H l = none → Q (.ref l) (upd H l (.tup ys))) ∨ (SqT K H p ys ∧ Q (.ref p) H))
theorem cr_tupOf {X : Cx} : CallR X (.type "tuple") (rTupOf X.K) := call_tuple_of
/-- the scopes of the outer comprehensions -/
def scNo : Scope := { kind := ScopeKind.function, names := [(".0", .local), ("_law_product", .local), ("tuple", .globalImplicit), ("_law_form_here", .free), ("_law_pool", .free)], isGenerator := false, isCoroutine := false }
abbrev nNo : List Str := ["_law_form_here", "_law_pool", "_law_kept", "_law_product", "_law_k"]
structure PrkD (K : PySem.W.Frag) (mg : Str → Option Value) (P : Program) (w : World) (base : Heap) (f : Addr) (fd : FuncData) : Prop where
  ok : FnOk P w K mg base CX0 1 f fd ["_law_product"] (spPR K)
  m : mg "_law_product_rank" = some (.ref f)
  k : PySem.W.keepIn K (.ref f) = true
  b : Binds K fd ["_law_product"] []
theorem encQ_depth (p : List Nat) : (encQ p).depth ≤ 60 := by
  have h2 : ∀ q : List Nat, PyData.depthAll (q.map fun (k : Nat) => PyData.int k) ≤ 0 := fun q => by
    induction q with
    | nil => simp [PyData.depthAll]
    | cons a q ih =>
      rw [List.map_cons]
      simp only [PyData.depthAll, PyData.depth]
      exact Nat.max_le.mpr ⟨Nat.le_refl _, ih⟩
  have := h2 p
  simp only [encQ, PyData.depth, PyData.depthAll]
  omega
theorem sort_prods (S : List (V × FM.Tm)) : ((S.mergeSort (PySem.W.dataLe false fun z => encQ z.2.1)).map fun z => z.2) = (S.map fun z => z.2).mergeSort fun a b => FM.ple a.1 b.1 :=
  PySem.W.sort_maps (fun z : V × FM.Tm => z.2) fun a ha b hb2 => by
    rw [dle, ltQ]
    rfl
section
variable {P : Program} {w : World} {K : PySem.W.Frag} {mg : Str → Option Value} {base : Heap}
def spNormal (G : List Sg) : Sp := fun vs H Q _ => ∃ (d pl : Addr) (M : List (V × Nat)) (T : List FM.Tm), vs = [.ref d, .ref pl] ∧ H d = some (.dT (dkv (accL T))) ∧ PoolAt G H pl M ∧ (∀ t ∈ T, t.1.length ≤ 100 ∧ ∀ k ∈ t.1, k < G.length) ∧ T.length ≤ 100 ∧
  ∀ x H', Same H H' → KI H' (.ref x) (tsK G (nrm T)) → Q (.ref x) H'
theorem ok_normal {G : List Sg} (PG : Pool G) {f fp : Addr} {fd dp : FuncData} (F : Fun K "_law_normal" "_law_normal" sLNormal f fd) (B : Blt mg) (R : PrkD K mg P w base fp dp) : FnOk P w K mg base CX0 4 f fd ["_law_form_here", "_law_pool"] (spNormal G) := by
  refine F.ok scLNormal (fun vs H Q E h => ?_) (fun cdv A outer s H vs Q E hr h => ?_)
  · obtain ⟨_, _, _, _, rfl, _⟩ := h
    rfl
  · obtain ⟨d, pl, M, T, rfl, hd, hP, bd, len, q⟩ := h
    have hu := u1 hr.units
    refine ⟨_, pss_cons (ps_set (i := 2) scLNormal.nd rfl (.inl rfl) (pe_callBK (cr_sortBy (β := FM.Tm) (R := fun H v t => ∃ qa, v = .ref qa ∧ H qa = some (.tup (t.1.map iN)) ∧ t.1.length ≤ 100) (enc := fun t => encQ t.1) R.ok R.b hr rfl
          (fun _ _ _ _ s1 ⟨qa, e, z, l⟩ => ⟨qa, e, s1 _ _ z, l⟩) (fun H1 v t ⟨qa, e, z, l⟩ => ⟨qa, t.1, by rw [e], z, l, fun x H' s1 y => ⟨s1, y⟩⟩) (fun _ _ => alike_encQ _ _) (.inl fun t => ⟨_, _, rfl⟩) (fun t => encQ_depth t.1))
        (by rfl) B.sorted (by decide +kernel) (pa_cons (pe_lock (pe_lc (own := [("_law_product", 3)]) (g := gName 3) rfl scLNormal.nd (pi_keys (pv 0)) (blkOk_by (N := nNo) (sc := defScope sLNormal) (by decide +kernel)) (fun _ _ _ _ _ => pg_name (i := 3) scLNormal.nd rfl (.inl rfl))
          (fun _ _ _ _ _ => pts_one (pt_cmpR op_ne (pe_dget hu (pv 0) (pv 3) (fun _ _ => rfl)) pe_int (nomark _))) (fun _ _ _ _ _ => pv 3))) pa_nil) (pk_cons (pe_glob (v := .ref fp) (by rfl) R.m rfl) pk_nil)))
      (pss_one (ps_ret (pe_callTy call_tuple_of (by rfl) B.tuple (by decide +kernel) (pa_cons (pe_lc (own := [("_law_product", 3)]) (g := gName 3) (tt := tYes) rfl scLNormal.nd (pi_list (pv 2)) (blkOk_by (N := nNo) (sc := defScope sLNormal) (by decide +kernel)) (fun _ _ _ _ _ => pg_name (i := 3) scLNormal.nd rfl (.inl rfl)) (fun _ _ _ _ _ => pts_nil)
          (fun _ _ _ _ _ => pe_tup (pa_cons (pe_callTy (show CallR _ (.type "tuple") (rTupOf K) from cr_tupOf) (by rfl) B.tuple (by decide +kernel) (pa_cons (pe_lc (own := [("_law_k", 4)]) (g := gName 4) (tt := tYes) rfl scLNormal.nd (show PI _ _ _ (iTup K (tVar 3)) from pi_tup (pv 3))
            (blkOk_re (N := nNo) (sc := scNo) (by decide +kernel)) (fun _ _ _ _ _ => pg_name (i := 4) scLNormal.nd rfl (.inl rfl)) (fun _ _ _ _ _ => pts_nil) (fun _ _ _ _ _ => pe_ix (show IxR _ (rIxL K) from ix_list) (pv 1) (pv 4) (fun _ _ => rfl))) pa_nil))
            (pa_cons (pe_dget hu (pv 0) (pv 3) (fun _ _ => rfl)) pa_nil)))) pa_nil)))), ?_⟩
    refine ⟨d, _, hd, trivial, fun od => ?_⟩
    have nd := FM.acc_nd T
    have bS : ∀ t ∈ accL T, t.1.length ≤ 100 ∧ ∀ k ∈ t.1, k < G.length := fun t ht => by
      obtain ⟨u, hu, e⟩ := List.mem_map.mp (FM.acc_mem T (List.mem_map.mpr ⟨t, ht, rfl⟩))
      rw [← e]; exact bd u hu
    have lS : (accL T).length ≤ 100 := Nat.le_trans (FM.acc_len T) len
    have eN : nrm T = ((accL T).filter fun t => decide (t.2 ≠ 0)).mergeSort fun a b => FM.ple a.1 b.1 := rfl
    rw [eN] at q
    generalize accL T = S at hd nd bS lS q
    have kf : ∀ c o, H c = some o → c ≠ d → upd H d (.frz od (.dT (dkv S))) c = some o := fun c o e n => by rw [upd_ne n]; exact e
    have hf : upd H d (.frz od (.dT (dkv S))) d = some (.frz od (.dT (dkv S))) := upd_same
    generalize upd H d (.frz od (.dT (dkv S))) = H1 at kf hf
    have ls : (dkv S).length = S.length := by unfold dkv; rw [List.length_map]
    refine ⟨_, rfl, d, od, rfl, .inr ⟨dkv S, hf, fun D nD => ?_⟩⟩
    have ndD : d ≠ D := ne_of_none hf nD
    refine lc_it walk_keysT (fun i H2 => ∃ W : List (V × FM.Tm), Same H1 H2 ∧ H2 D = some (.lst (W.map fun z => z.1)) ∧ (∀ y ∈ W, ∃ qa, y.1 = .ref qa ∧ H2 qa = some (.tup (y.2.1.map iN))) ∧ W.map (fun z => z.2) = (S.take i).filter fun t => decide (t.2 ≠ 0))
      ⟨[], same_upd nD, upd_same, (fun _ h => nomatch h), by simp⟩ (fun i H2 _ ⟨_, s2, _⟩ => s2 _ _ hf) ?_ ?_
    · rintro i x H2 H3 hi ⟨W, s2, hD, hW, eW⟩ ⟨rfl, k, v, qa, hk, rfl, hq⟩
      obtain ⟨t, ht, rfl, rfl⟩ := dkv_of hk
      have hm := List.mem_of_getElem? ht
      rw [ls] at hi
      rw [kp_V] at hq
      have hg : DGet H3 d (.ref qa) (valV (dkv S) (kp t.1)) := .inr ⟨_, _, qa, .inr ⟨od, s2 _ _ hf⟩, rfl, by rw [kp_V]; exact hq, rfl⟩
      rw [dkv_val nd hm] at hg
      have st := filt_take (f := fun t : FM.Tm => decide (t.2 ≠ 0)) ht
      have lW : W.length ≤ 100 := by
        have z1 := congrArg List.length eW
        have z2 : ((S.take i).filter fun t => decide (t.2 ≠ 0)).length ≤ i := Nat.le_trans (List.length_filter_le _ _) (by rw [List.length_take]; omega)
        rw [List.length_map] at z1
        omega
      refine ⟨rfl, _, rfl, _, rfl, d, _, rfl, hg, rfl, _, rfl, ?_⟩
      have ed : (!decide (V.int t.2 = V.int 0)) = decide (t.2 ≠ 0) := by
        by_cases z : t.2 = 0 <;> simp [z]
      rw [ed]
      by_cases z : t.2 = 0
      · rw [decide_eq_false (not_not_intro z)]
        rw [if_neg (by simp [z]), List.append_nil] at st
        exact iteF ⟨W, s2, hD, hW, by rw [eW, st]⟩
      · rw [decide_eq_true (show t.2 ≠ 0 from z)]
        rw [if_pos (by simp [z])] at st
        refine iteT ⟨_, rfl, _, hD, small1000 (by rw [List.length_map]; omega), W ++ [(.ref qa, t)], fun c o e => by rw [upd_ne (ne_of_none e nD)]; exact s2 _ _ e, by rw [upd_same, List.map_append]; rfl, fun y hy => ?_, by rw [List.map_append, eW, st]; rfl⟩
        have kt : ∀ c xs, H3 c = some (.tup xs) → upd H3 D (.lst (W.map (fun z => z.1) ++ [V.ref qa])) c = some (.tup xs) := fun c xs e => by rw [upd_ne (by rintro rfl; rw [hD] at e; cases e)]; exact e
        rcases List.mem_append.mp hy with m | m
        · obtain ⟨qb, e, h⟩ := hW y m
          exact ⟨qb, e, kt _ _ h⟩
        · rw [List.mem_singleton.mp m]
          exact ⟨qa, rfl, kt _ _ hq⟩
    · rintro H2 ⟨W, s2, hD, hW, eW⟩
      rw [ls, List.take_length] at eW
      refine ⟨s2 _ _ hf, ?_⟩
      have s3 : Same H (upd H2 d (.dT (dkv S))) := fun c o e => by
        by_cases z : c = d
        · subst z
          rw [upd_same, ← e, hd]
        · rw [upd_ne z]
          exact s2 _ _ (kf _ _ e z)
      have hd3 : upd H2 d (.dT (dkv S)) d = some (.dT (dkv S)) := upd_same
      have hD3 : upd H2 d (.dT (dkv S)) D = some (.lst (W.map fun z => z.1)) := by rw [upd_ne (Ne.symm ndD)]; exact hD
      have hW3 : ∀ y ∈ W, ∃ qa, y.1 = .ref qa ∧ upd H2 d (.dT (dkv S)) qa = some (.tup (y.2.1.map iN)) := fun y hy => by
        obtain ⟨qa, e, h⟩ := hW y hy
        exact ⟨qa, e, by rw [upd_ne (by rintro rfl; rw [s2 _ _ hf] at h; cases h)]; exact h⟩
      generalize upd H2 d (.dT (dkv S)) = H3 at s3 hd3 hD3 hW3
      have memW : ∀ y ∈ W, y.2 ∈ S := fun y hy => by
        have : y.2 ∈ W.map fun z => z.2 := List.mem_map.mpr ⟨y, hy, rfl⟩
        rw [eW] at this
        exact (List.mem_filter.mp this).1
      refine ⟨D, W, rfl, rfl, SqL.of hD3, fun y hy => ?_, fun p H4 np s4 hp => ?_⟩
      · obtain ⟨qa, e, h⟩ := hW3 y hy
        exact ⟨qa, e, h, (bS _ (memW y hy)).1⟩
      · have pm := List.mergeSort_perm W (PySem.W.dataLe false fun z : V × FM.Tm => encQ z.2.1)
        have eS := sort_prods W
        generalize (W.mergeSort (PySem.W.dataLe false fun z : V × FM.Tm => encQ z.2.1)) = Z at pm eS hp
        rw [eW] at eS
        have lZ : Z.length ≤ 100 := by
          have z1 := congrArg List.length eS
          rw [List.length_map, List.length_mergeSort] at z1
          have := List.length_filter_le (fun t : FM.Tm => decide (t.2 ≠ 0)) S
          omega
        have s04 := s3.trans s4
        have hd4 := s4 _ _ hd3
        have hP4 := hP.same s04
        refine ⟨_, rfl, p, rfl, ⟨_, SqL.of hp⟩, fun D2 n2 => lc_it (walk_list (K := K) (a := p) (xs := Z.map fun z => z.1)) (fun i H5 => ∃ Y : List (V × FM.Tm), Same H4 H5 ∧ H5 D2 = some (.lst (Y.map fun z => z.1)) ∧ (∀ y ∈ Y, KI H5 y.1 (tmK G y.2)) ∧ Y.map (fun z => z.2) = (Z.take i).map fun z => z.2)
          ⟨[], same_upd n2, upd_same, (fun _ h => nomatch h), rfl⟩ (fun i H5 _ ⟨_, s5, _⟩ => SqL.of (s5 _ _ hp)) ?_ ?_⟩
        · rintro i x H5 H6 hi ⟨Y, s5, hD5, hY, eY⟩ ⟨rfl, hx⟩
          obtain ⟨t, ht⟩ := at_map hx
          rw [List.length_map] at hi
          have hmZ := List.mem_of_getElem? ht
          have hmW := pm.mem_iff.mp hmZ
          have hmS := memW _ hmW
          obtain ⟨qa, e, hq⟩ := hW3 _ hmW
          have e : x = .ref qa := e
          subst e
          have hq : H3 qa = some (.tup (t.1.map iN)) := hq
          have hq6 := s5 _ _ (s4 _ _ hq)
          have hP6 := hP4.same s5
          have bt' : t.1.length ≤ 100 ∧ ∀ k ∈ t.1, k < G.length := bS _ hmS
          refine ⟨rfl, yes_i ⟨_, rfl, qa, rfl, ⟨_, SqT.of hq6⟩, fun D3 n3 => lc_it (walk_tup (K := K) (a := qa) (xs := t.1.map iN)) (fun j H7 => ∃ U : List (V × Nat), Same H6 H7 ∧ H7 D3 = some (.lst (U.map fun z => z.1)) ∧ (∀ z ∈ U, IsSg H7 z.1 (at' G z.2)) ∧ U.map (fun z => z.2) = t.1.take j)
            ⟨[], same_upd n3, upd_same, (fun _ h => nomatch h), rfl⟩ (fun j H7 _ ⟨_, s7, _⟩ => SqT.of (s7 _ _ hq6)) ?_ ?_⟩⟩
          · rintro j y H7 H8 hj ⟨U, s7, hD7, hU, eU⟩ ⟨rfl, hy⟩
            obtain ⟨k, hk, rfl⟩ : ∃ k, t.1[j]? = some k ∧ y = iN k := by
              rw [List.getElem?_map] at hy
              cases e : t.1[j]? with
              | none => rw [e] at hy; cases hy
              | some k => rw [e] at hy; exact ⟨k, rfl, (Option.some.inj hy).symm⟩
            obtain ⟨v, hv, hg⟩ := (hP6.same s7).get (bt'.2 k (List.mem_of_getElem? hk))
            rw [List.length_map] at hj
            have lU : U.length ≤ 100 := by
              have z1 := congrArg List.length eU
              rw [List.length_map, List.length_take] at z1
              have := bt'.1
              omega
            refine ⟨rfl, yes_i ⟨_, rfl, _, rfl, pl, _, _, _, rfl, rfl, SqL.of (hP6.same s7).at_, hv, _, hD7, small1000 (by rw [List.length_map]; omega), U ++ [(v, k)], fun c o e => by rw [upd_ne (ne_of_none e n3)]; exact s7 _ _ e, by rw [upd_same, List.map_append]; rfl, fun z hz => ?_, ?_⟩⟩
            · refine IsSg.but (d := D3) ?_ But.upd hD7 fun xs z => by cases z
              rcases List.mem_append.mp hz with m | m
              · exact hU z m
              · rw [List.mem_singleton.mp m]; exact hg
            · rw [List.map_append, eU, List.take_add_one, hk]; rfl
          · rintro H7 ⟨U, s7, hD7, hU, eU⟩
            rw [List.length_map, List.take_length] at eU
            refine ⟨D3, _, rfl, .inl ⟨SqL.of hD7, fun Tt nT => ?_⟩⟩
            have s8 : Same H7 (upd H7 Tt (.tup (U.map fun z => z.1))) := same_upd nT
            have hT : upd H7 Tt (.tup (U.map fun z => z.1)) Tt = some (.tup (U.map fun z => z.1)) := upd_same
            generalize upd H7 Tt (.tup (U.map fun z => z.1)) = H8 at s8 hT
            have kT : KI H8 (.ref Tt) (prK G t.1) := by
              have := pr_to hT fun z hz => (hU z hz).same s8
              rw [eU] at this
              exact this
            have s68 := s7.trans s8
            have hg : DGet H8 d (.ref qa) (valV (dkv S) (kp t.1)) := .inr ⟨_, _, qa, .inl (s68 _ _ (s5 _ _ hd4)), rfl, by rw [kp_V]; exact s68 _ _ hq6, rfl⟩
            rw [dkv_val nd hmS] at hg
            refine ⟨_, rfl, _, rfl, d, _, rfl, hg, by show 2 ≤ sizeLine; decide, fun R2 nR => ?_⟩
            have s9 : Same H8 (upd H8 R2 (.tup [.ref Tt, .int t.2])) := same_upd nR
            have hR : upd H8 R2 (.tup [.ref Tt, .int t.2]) R2 = some (.tup [.ref Tt, .int t.2]) := upd_same
            generalize upd H8 R2 (.tup [.ref Tt, .int t.2]) = H9 at s9 hR
            have s69 := s68.trans s9
            have hD9 := s69 _ _ hD5
            have lY : Y.length ≤ 100 := by
              have z1 := congrArg List.length eY
              rw [List.length_map, List.length_map, List.length_take] at z1
              omega
            refine ⟨_, hD9, small1000 (by rw [List.length_map]; omega), Y ++ [(.ref R2, t)], fun c o e => by rw [upd_ne (ne_of_none e n2)]; exact s69 _ _ (s5 _ _ e), by rw [upd_same, List.map_append]; rfl, fun y hy => ?_, by rw [List.map_append, eY, take_map ht]; rfl⟩
            refine ki_but ?_ But.upd hD9 fun xs z => by cases z
            rcases List.mem_append.mp hy with m | m
            · exact (hY y m).same s69
            · rw [List.mem_singleton.mp m]; exact tm_to hR (kT.same s9)
        · rintro H5 ⟨Y, s5, hD5, hY, eY⟩
          rw [List.length_map, List.take_length, eS] at eY
          refine ⟨D2, _, rfl, .inl ⟨SqL.of hD5, fun x nx => ?_⟩⟩
          have s6 : Same H5 (upd H5 x (.tup (Y.map fun z => z.1))) := same_upd nx
          have hx : upd H5 x (.tup (Y.map fun z => z.1)) x = some (.tup (Y.map fun z => z.1)) := upd_same
          generalize upd H5 x (.tup (Y.map fun z => z.1)) = H6 at s6 hx
          refine q x H6 ((s04.trans s5).trans s6) ?_
          have := kis_map (H := H6) (f := fun u => tmK G u) (L := Y) fun y hy => (hY y hy).same s6
          rw [show (Y.map fun z => tmK G z.2) = (Y.map fun z => z.2).map (tmK G) by rw [List.map_map]; rfl, eY] at this
          exact .tup hx this
end
end KP
set_option maxRecDepth 100000
set_option maxHeartbeats 4000000
/-! Pairs of signs and integers; integers; equal under all. -/
namespace KP
open PySem PySem.Spec PyProof.Rows L2 KT FS FD
open FM (asc addP accL coef nrm bt vT)
/-- a pair of a new list of signs and an integer -/
def IsTp (G : List Sg) (H0 : Hp) (av : List Addr) (H : Hp) (v : V) (t : FM.Tm) : Prop := ∃ (b s : Addr) (M : List (V × Nat)), v = .ref b ∧ H b = some (.tup [.ref s, .int t.2]) ∧ H s = some (.lst (M.map fun z => z.1)) ∧ SgA G H M ∧ M.map (fun z => z.2) = t.1 ∧ M.length ≤ 100 ∧ H0 s = none ∧ s ∉ av
theorem IsTp.same {G H0 av} {H H' : Hp} {v t} (h : IsTp G H0 av H v t) (s : Same H H') : IsTp G H0 av H' v t := let ⟨b, c, M, e, h1, h2, h3, r⟩ := h; ⟨b, c, M, e, s _ _ h1, s _ _ h2, h3.same s, r⟩
theorem IsTp.but {G H0 av} {H H' : Hp} {v t} {d : Addr} {o : HO} (h : IsTp G H0 av H v t) (b : But d H H') (m : d ∈ av) (hd : H d = some o) (n : ∀ xs, o ≠ .tup xs) : IsTp G H0 av H' v t := by
  obtain ⟨b1, c, M, e, h1, h2, h3, h4, h5, h6, h7⟩ := h
  exact ⟨b1, c, M, e, b _ _ h1 (by rintro rfl; rw [hd] at h1; exact n _ (Option.some.inj h1)), b _ _ h2 (by rintro rfl; exact h7 m), h3.but b hd n, h4, h5, h6, h7⟩
theorem IsTp.ti {K : PySem.W.Frag} {G H0 av} {H : Hp} {v t} (h : IsTp G H0 av H v t) : IsTi K G H v t := let ⟨b, s, M, e, h1, h2, h3, h4, h5, _⟩ := h; ⟨b, s, M, e, h1, .inl (SqL.of h2), h3, h4, by omega⟩
section
variable {P : Program} {w : World} {K : PySem.W.Frag} {mg : Str → Option Value} {base : Heap}
/-! _law_is_integer -/
def spIsInt : Sp := fun vs H Q _ => ∃ i : Int, vs = [.int i] ∧ Q (.bl true) H
theorem ok_isInt {f : Addr} {fd : FuncData} (F : Fun K "_law_is_integer" "_law_is_integer" sLIsInteger f fd) (B : Blt mg) : FnOk P w K mg base CX0 1 f fd ["_law_value_here"] spIsInt := by
  refine F.ok scLIsInteger (fun vs H Q E h => ?_) (fun cdv A outer s H vs Q E hr h => ?_)
  · obtain ⟨_, rfl, _⟩ := h
    rfl
  · obtain ⟨i, rfl, q⟩ := h
    refine ⟨_, pss_one (ps_ret (pe_and (pe_callB call_isi (by rfl) B.isinstance (by decide +kernel) (pa_cons (pv 0) (pa_cons (pe_bltn (v := .ty "int") (by rfl) B.int (by decide +kernel) rfl) pa_nil)))
      (pe_one (pe_not (pe_callB call_isi (by rfl) B.isinstance (by decide +kernel) (pa_cons (pv 0) (pa_cons (pe_bltn (v := .ty "bool") (by rfl) B.bool (by decide +kernel) rfl) pa_nil))))))), ?_⟩
    exact ⟨_, rfl, _, _, _, _, _, rfl, .ty _, tyInt i, kit_ty (r := true) (by decide +kernel), _, rfl, iteT ⟨_, rfl, _, _, _, _, _, rfl, .ty _, tyInt i, kit_ty (r := false) (by decide +kernel), _, rfl, q⟩⟩
end
end KP
set_option maxRecDepth 100000
set_option maxHeartbeats 4000000
/-! The same terms; second terms; equal under all truths. -/
namespace KP
open PySem PySem.Spec PyProof.Rows L2 KT FS FD
open FM (asc addP accL coef nrm bt vT)
structure IsiD (K : PySem.W.Frag) (mg : Str → Option Value) (P : Program) (w : World) (base : Heap) (f : Addr) (fd : FuncData) : Prop where
  ok : FnOk P w K mg base CX0 1 f fd ["_law_value_here"] spIsInt
  m : mg "_law_is_integer" = some (.ref f)
  k : PySem.W.keepIn K (.ref f) = true
  b : Binds K fd ["_law_value_here"] []
structure TrmD (K : PySem.W.Frag) (mg : Str → Option Value) (P : Program) (w : World) (base : Heap) (f : Addr) (fd : FuncData) : Prop where
  ok : FnOk P w K mg base CX0 3 f fd ["_law_pot_here", "_law_most", "_law_signs_here"] spTerms
  m : mg "_law_terms" = some (.ref f)
  k : PySem.W.keepIn K (.ref f) = true
  b : Binds K fd ["_law_pot_here", "_law_most", "_law_signs_here"] []
structure BitD (K : PySem.W.Frag) (mg : Str → Option Value) (P : Program) (w : World) (base : Heap) (f : Addr) (fd : FuncData) : Prop where
  ok : FnOk P w K mg base CX0 1 f fd ["_law_number_here"] spBits
  m : mg "_law_bits" = some (.ref f)
  k : PySem.W.keepIn K (.ref f) = true
  b : Binds K fd ["_law_number_here"] []
structure ValD (K : PySem.W.Frag) (mg : Str → Option Value) (P : Program) (w : World) (base : Heap) (f : Addr) (fd : FuncData) : Prop where
  ok : FnOk P w K mg base CX0 1 f fd ["_law_form", "_law_truths"] spValue
  m : mg "_law_value" = some (.ref f)
  k : PySem.W.keepIn K (.ref f) = true
  b : Binds K fd ["_law_form", "_law_truths"] []
section
variable {P : Program} {w : World} {K : PySem.W.Frag} {mg : Str → Option Value} {base : Heap}
def spSame (G : List Sg) : Sp := fun vs H Q _ => ∃ (x y : Addr) (N : List FM.Tm), vs = [.ref x, .ref y] ∧ KI H (.ref x) (tsK G N) ∧ KI H (.ref y) (tsK G N) ∧ N.length ≤ 100 ∧ ∀ H', Same H H' → Q (.bl true) H'
theorem ok_same {G : List Sg} {f fi : Addr} {fd di : FuncData} (F : Fun K "_law_same_terms" "_law_same_terms" sLSameTerms f fd) (B : Blt mg) (I : IsiD K mg P w base fi di) : FnOk P w K mg base CX0 2 f fd ["_law_actual", "_law_due"] (spSame G) := by
  refine F.ok scLSameTerms (fun vs H Q E h => ?_) (fun cdv A outer s H vs Q E hr h => ?_)
  · obtain ⟨_, _, _, rfl, _⟩ := h
    rfl
  · obtain ⟨x, y, N, rfl, hx, hy, len, q⟩ := h
    have hu := hr.units
    refine ⟨_, pss_cons (ps_if (PW.pt (pw_or (pt_not (pt_val (pe_callB call_isi (by rfl) B.isinstance (by decide +kernel) (pa_cons (pv 0) (pa_cons (pe_bltn (v := .ty "tuple") (by rfl) B.tuple (by decide +kernel) rfl) pa_nil)))))
        (pw_or1 (pt_cmpR op_ne (pe_callB call_len_seq (by rfl) B.len PySem.boot_len (pa_cons (pv 0) pa_nil)) (pe_callB call_len_seq (by rfl) B.len PySem.boot_len (pa_cons (pv 1) pa_nil)) (nomark _))))) (pss_one (ps_ret pe_bl)) pss_nil)
      (pss_cons (ps_for PassesOwn.never rfl (pi_range1 (by rfl) B.range (pa_cons (pe_callB call_len_seq (by rfl) B.len PySem.boot_len (pa_cons (pv 1) pa_nil)) pa_nil)) (pg_name (i := 2) scLSameTerms.nd rfl (.inl rfl))
        (pss_cons (ps_if (PW.pt (pw_or (pt_not (pt_val (pe_callB call_isi (by rfl) B.isinstance (by decide +kernel) (pa_cons (pe_ix ix_tup (pv 0) (pv 2) (fun _ _ => rfl)) (pa_cons (pe_bltn (v := .ty "tuple") (by rfl) B.tuple (by decide +kernel) rfl) pa_nil)))))
          (pw_or1 (pt_cmpR op_ne (pe_callB call_len_seq (by rfl) B.len PySem.boot_len (pa_cons (pe_ix ix_tup (pv 0) (pv 2) (fun _ _ => rfl)) pa_nil)) pe_int (nomark _))))) (pss_one (ps_ret pe_bl)) pss_nil)
        (pss_one (ps_if (PW.pt (pw_or (pt_not (pt_val (pe_call I.ok hr (by rfl) I.m I.k I.b .nil pass0 (pa_cons (pe_ix ix_tup (pe_ix ix_tup (pv 0) (pv 2) (fun _ _ => rfl)) pe_int (fun _ _ => rfl)) pa_nil))))
          (pw_or1 (pt_cmpR (op_neK hu) (pe_ix ix_tup (pv 0) (pv 2) (fun _ _ => rfl)) (pe_ix ix_tup (pv 1) (pv 2) (fun _ _ => rfl)) (nomark _))))) (pss_one (ps_ret pe_bl)) pss_nil))))
      (pss_one (ps_ret pe_bl))), ?_⟩
    obtain ⟨x', vx, ex, hTx, kx⟩ := ki_tup hx
    obtain rfl := V.ref.inj ex
    obtain ⟨Lx, e1, e2, hLx⟩ := kis_of kx
    obtain ⟨y', vy, ey, hTy, ky⟩ := ki_tup hy
    obtain rfl := V.ref.inj ey
    obtain ⟨Ly, e3, e4, hLy⟩ := kis_of ky
    rw [← e1] at hTx
    rw [← e3] at hTy
    have lx : Lx.length = N.length := by rw [← e2, List.length_map]
    have ly : Ly.length = N.length := by rw [← e4, List.length_map]
    have l1 : ((Lx.map fun z : V × FM.Tm => z.1).length : Int) = N.length := by rw [List.length_map, lx]
    have l2 : ((Ly.map fun z : V × FM.Tm => z.1).length : Int) = N.length := by rw [List.length_map, ly]
    refine ⟨_, rfl, _, _, _, _, _, rfl, .ty _, .base (TyOf.tup hTx), kit_ty (r := true) (by decide +kernel), _, rfl, iteF ?_⟩
    refine ⟨_, rfl, x, _, rfl, .inr (SqT.of hTx), _, rfl, y, _, rfl, .inr (SqT.of hTy), rfl, _, rfl, ?_⟩
    rw [l1, l2]
    have z0 : (!decide (V.int (N.length : Int) = V.int (N.length : Int))) = false := by simp
    rw [z0]
    refine iteF ?_
    refine ⟨_, rfl, y, _, rfl, .inr (SqT.of hTy), _, rfl, ?_⟩
    rw [l2]
    refine ⟨by omega, by omega, ?_⟩
    rw [show ((N.length : Int)).toNat = N.length by omega]
    refine for_range (lo := 0) (n := N.length) (fun i σ H2 => ∃ v2 : Option V, σ = [some (.ref x), some (.ref y), v2] ∧ Same H H2) ⟨none, rfl, Same.refl _⟩ ?_ ?_
    · rintro i σ H2 hi ⟨v2, rfl, s2⟩
      have ei : (0 : Int) + (i : Int) = ((i : Nat) : Int) := by omega
      obtain ⟨zx, hzx⟩ : ∃ z, Lx[i]? = some z := ⟨_, List.getElem?_eq_getElem (by omega)⟩
      obtain ⟨zy, hzy⟩ : ∃ z, Ly[i]? = some z := ⟨_, List.getElem?_eq_getElem (by omega)⟩
      have t1 : N[i]? = some zx.2 := by rw [← e2, List.getElem?_map, hzx]; rfl
      have t2 : N[i]? = some zy.2 := by rw [← e4, List.getElem?_map, hzy]; rfl
      have te : zx.2 = zy.2 := by rw [t1] at t2; exact Option.some.inj t2
      have kX := (hLx zx (List.mem_of_getElem? hzx)).same s2
      have kY := (hLy zy (List.mem_of_getElem? hzy)).same s2
      obtain ⟨a, b, ea, ha, hb⟩ := tm_of kX
      have hX2 := s2 _ _ hTx
      have hY2 := s2 _ _ hTy
      have ax : atI (Lx.map fun z => z.1) (0 + (i : Int)) = some zx.1 := by rw [ei]; exact atI_nat (by rw [List.getElem?_map, hzx]; rfl)
      have ay : atI (Ly.map fun z => z.1) (0 + (i : Int)) = some zy.1 := by rw [ei]; exact atI_nat (by rw [List.getElem?_map, hzy]; rfl)
      rw [ea] at ax
      refine ⟨_, rfl, _, rfl, x, _, _, _, rfl, rfl, SqT.of hX2, ax, _, _, _, _, _, rfl, .ty _, .base (TyOf.tup ha), kit_ty (r := true) (by decide +kernel), _, rfl, iteF ?_⟩
      refine ⟨_, rfl, _, rfl, x, _, _, _, rfl, rfl, SqT.of hX2, ax, a, _, rfl, .inr (SqT.of ha), rfl, _, rfl, iteF ?_⟩
      refine ⟨_, rfl, _, rfl, x, _, _, _, rfl, rfl, SqT.of hX2, ax, a, _, _, _, rfl, rfl, SqT.of ha, atI_nat (j := 1) rfl, _, rfl, _, rfl, iteF ?_⟩
      rw [ea, te] at kX
      refine ⟨_, rfl, _, rfl, x, _, _, _, rfl, rfl, SqT.of hX2, ax, _, rfl, _, rfl, y, _, _, _, rfl, rfl, SqT.of hY2, ay, _, _, kX, kY, ?_, _, rfl, ?_⟩
      · have := tmK_depth G zy.2
        simp only [tmK, NestedKey.depth] at this
        omega
      · rw [decide_eq_true rfl]
        exact iteF ⟨_, rfl, s2⟩
    · rintro σ H2 ⟨v2, rfl, s2⟩
      exact q H2 s2
end
end KP
set_option maxRecDepth 100000
set_option maxHeartbeats 4000000
/-! Calls of a class by a name of the def; list.extend of a tuple; displays of dicts with tuple keys; own !=. -/
namespace FD
open PySem PySem.Spec PyProof.Rows L2 FS
section
variable {X : Cx} {CX : CXT} {k : Nat} {f C : Addr} {fd : FuncData} {ps : List Str} {sp : Sp} {ds : List Value} {dvs : List V} {E : XK} {x : Str} {i : Nat} {e : Expr} {es : List Expr} {t : TA} {p pos : Pos}
def tMakeV (i : Nat) (C : Addr) (sp : Sp) (dvs : List V) (E : XK) (t : TA) : TE := fun σ H Q => σ[i]? = some (some (.ref C)) ∧ tMake C sp dvs E t σ H Q
theorem pe_makeV (M : Mk X.K C f) (F : FnOk X.prog X.w X.K X.mg X.base CX k f fd ps sp) (hr : Room (k + 1) X.A) (hb : Binds X.K fd ps ds) (hd : Vals dvs ds) (hx : Passes CX X E) (hN : X.N[i]? = some x) (hv : Vis X.env.scope x)
    (ha : PA X (e :: es) t) (hdb : (x == ("__debug__" : Str)) = false := by decide) (hcd : (x == ("__classdict__" : Str)) = false := by decide) (he : starEach (e :: es) X.env = (false, eval e X.env) :: starEach es X.env := by rfl) (hpl : (backTo pos (starEach es X.env)).any (·.1) = false := by rfl) :
    PE X (.Call (.Name x p) (e :: es) [] pos) (tMakeV i C sp dvs E t) := by
  refine ⟨fun pins s σ H Q I h => ?_⟩
  obtain ⟨hs, h⟩ := h
  refine wpAny_Call_Name_kw (thn ((pe_var (pos := p) (i := i) hN hv hdb hcd).run pins s σ H (fun v H1 => v = .ref C ∧ H1 = H) I ⟨.ref C, hs, rfl, rfl⟩) fun u s1 ⟨v, H1, I1, r1, ev, eH⟩ => ?_)
  subst ev
  rw [eH] at I1
  cases r1
  refine PySem.W.callWith_K (h₀ := X.base) I.ok.mod.kin M.kp (thn (ha.run pos pins s1 σ H _ I1 h) fun us s2 ⟨vs, H2, I2, r, q⟩ => ⟨I2.kIn, ?_⟩) he hpl
  exact run_make M F hr hb hd hx I2 r q
end
open PySem.Sem (wp)
open PySem.AutoSeq1
theorem ext_tup (l : Addr) (items : Array Value) (n : Nat) (b : Addr) (items2 : Array Value) (n2 : Nat) (dd : Option Addr) (sl : Array (Option Value)) (hs0 : ¬(!items.isEmpty && Builtin.List.listTooLong (items.size + items2.size)) = true) (hs1 : items.size ≤ sizeLine) (hs2 : items.size + items2.size ≤ sizeLine + 1) :
    Meets (Builtin.«list.extend» ⟨[.ref l, .ref b], []⟩) (fun _ R s => s.heap.get? l = some { cls := .type "list", dict := none, data := .seq items n, slots := #[] } ∧ s.heap.get? b = some { cls := .type "tuple", dict := dd, data := .seq items2 n2, slots := sl } ∧ R (.ok (.ret Value.none)) { s with heap := s.heap.update l (Obj.mapSeq fun x => x ++ items2), toks := s.toks }) :=
  .of_wp fun prog w A R s h => by
    obtain ⟨hp, g, d, tk, os⟩ := s; obtain ⟨hl, hb, h⟩ := h; have f1 := idx_int; have f2 := AutoSeq1.sub_tuple_tuple; have f3 := AutoSeq1.sub_list_list; have f4 := AutoSeq1.sub_tuple_list; have f5 := AutoSeq1.sub_list_tuple
    have hz' : (items ++ items2).size ≤ sizeLine + 1 := by rw [Array.size_append]; exact hs2
    wp_walk using (wpAny_updateSeq hl rfl (hz := hs1) (_hz' := hz')), wpAny_loadPart' hl, wpAny_loadPart' hb
    exact ⟨_, rfl, h⟩
def rExtT (K : PySem.W.Frag) : V → List V → Hp → VK → Prop := fun x vs H Q => ∃ l b xs zs, x = .ref l ∧ vs = [.ref b] ∧ H l = some (.lst xs) ∧ SqT K H b zs ∧ xs.length + zs.length ≤ sizeLine ∧ Q .non (upd H l (.lst (xs ++ zs)))
theorem mt_extT {X : Cx} : MtM X "list.extend" (rExtT X.K) := by
  intro pins s σ H x vs v us Q I rx rv h
  obtain ⟨l, b, xs, zs, rfl, rfl, hH, hB, hz, q⟩ := h
  cases rx
  obtain ⟨u, rfl, ru⟩ := rv.one
  cases ru
  obtain ⟨z, its, n, r, hl, e⟩ := I.lstM hH
  obtain ⟨its2, r2, ⟨o2, e2, c2, n2, d2⟩, hz2⟩ := I.tuple hB
  obtain ⟨cls, dd, data, sl⟩ := o2
  simp only at c2 d2
  subst c2 d2
  have l1 := r.length
  have l2 := r2.length
  have hsz : its.toArray.size + its2.toArray.size ≤ sizeLine := by rw [List.size_toArray, List.size_toArray]; omega
  have hlong : ¬ (!its.toArray.isEmpty && Builtin.List.listTooLong (its.toArray.size + its2.toArray.size)) = true := by
    rw [notLongL hsz, Bool.and_false]
    exact Bool.false_ne_true
  refine call_meets F.slot_list_extend ⟨_, e, rfl⟩ F.entry_list_extend (F.args_list_extend_2 _ _)
    (ext_tup l its.toArray n b its2.toArray n2 dd sl hlong (by rw [List.size_toArray]; omega) (by omega)) ⟨e, e2, ?_⟩
  refine ⟨.non, _, I.lset (its' := its ++ its2) hH e (by simp) (r.append r2) ?_, rfl, q⟩
  rw [List.length_append]
  omega
/-! int == an own instance -/
section
variable {Y : Cx} {CX : CXT} {j : Nat} {g C : Addr} {gd : FuncData} {prm : List Str} {pm : Sp} {En : XK}
theorem eq_int_ref (n : Int) (t : Tok) (a : Addr) (o : Obj) (hd : o.data = .plain) : Meets (Builtin.«int.__eq__» ⟨[.int n t, .ref a], []⟩) (fun _ R s => s.heap.get? a = some o ∧ R (.ok (.ret .notImplemented)) s) := by
  obtain ⟨c, dd, data, sl⟩ := o
  simp only at hd
  subst hd
  exact .of_wp fun prog w A R s h => by
    obtain ⟨hp, g, d, tk, os⟩ := s; obtain ⟨hl, h⟩ := h
    wp_walk using wpAny_loadPart' hl, wpAny_load hl
    exact ⟨_, rfl, h⟩
def rEqIntO (C : Addr) (pm : Sp) (En : XK) : R2 := fun x y H Q => ∃ (n : Int) (a dx : Addr) (fs : List (Str × V)), x = .int n ∧ y = .ref a ∧ H a = some (.ins C dx fs) ∧ pm [.ref a, .int n] H (fun r H' => ∃ b, r = .bl b ∧ Q (.bl b) H') En
theorem op_eqIntO (units : Y.A.units < cLine) (sb : PySem.W.subIn Y.K (.ref C) (.type "int") = some false) (at_ : PySem.W.findIn Y.K (.ref C) "__eq__" = some (some (.ref g))) (fn : PySem.W.isFn Y.K (.ref g) = true)
    (G : FnOk Y.prog Y.w Y.K Y.mg Y.base CX j g gd prm pm) (room : Room j Y.A) (bind : Binds Y.K gd prm []) (pass : Passes CX Y En) : OpR Y (compareOp .Eq) (rEqIntO C pm En) := by
  intro pins s σ H x y u z Q J rx ry hyp
  obtain ⟨n, a, dx, fs, rfl, rfl, ha, hs⟩ := hyp
  obtain ⟨t, rfl⟩ := (show ∃ t, u = Value.int n t from rx)
  obtain rfl : z = Value.ref a := ry
  obtain ⟨m1, J1, _⟩ := ins_get J.hok ha
  obtain ⟨o1, J1, _⟩ := J1.look
  obtain ⟨m, fr⟩ := J.fr
  have X := J.kIn
  show wpAny (model Y.prog Y.w) Y.A (richCompare .Eq (.int n t) (.ref a)) (EP Y pins σ Q) Y.xe s
  unfold richCompare
  refine wpAny_holding (wpAny_bind (wpAny_cRoomFor units ?_))
  have e1 : oneThing? .Eq (Value.int n t) (Value.ref a) = none := rfl
  rw [e1]
  rw [cmpInfo_Eq]
  dsimp only
  refine wpAny_bind (wpAny_typeOf (typeIs_int s n t) (wpAny_bind (J1.type.here ?_)))
  rw [show ((Value.type "int") != Value.ref C) = true from rfl]
  simp only [if_true]
  refine wpAny_bind ((PySem.W.looks_subIn X sb).here ?_)
  simp only [Bool.false_eq_true, if_false]
  refine wpAny_bind (wpAny_tryCompare_declines (typeIs_int s n t) F.slot_int_eq (call_meets F.slot_int_eq (typeIs_int s n t) F.entry_int_eq (F.args_int_eq_2 _ _) (eq_int_ref n t a (PySem.W.instObj C dx) rfl) ⟨J1.at_, rfl, ?_⟩))
  simp only [Bool.not_false, if_true]
  have one : wpAny (model Y.prog Y.w) Y.A (tryCompare (.ref a) "__eq__" (.int n t)) (fun r s' => ∃ v, r = some v ∧ EP Y pins σ Q v s') Y.xe s := by
    unfold tryCompare
    refine wpAny_bind (PySem.W.ifBound_K X J1 at_ fn (wpAny_mono (run_fn (ds := []) (dvs := []) G room bind .nil pass J (us := [.ref a, .int n t]) (vs := [.ref a, .int n]) (.cons rfl (.cons rx .nil)) hs) (fun r s' got => ?_) fun _ _ e => e))
    obtain ⟨v', H', J', rr, c, rfl, q⟩ := got
    obtain rfl : r = Value.bool c := rr
    exact wpAny_pure ⟨_, rfl, .bl c, H', J', rfl, q⟩
  refine wpAny_bind (wpAny_mono one (fun r s' z => ?_) fun _ _ e => e)
  obtain ⟨v, rfl, hq⟩ := z
  exact wpAny_pure hq
end
/-! {k: v}, k a tuple -/
section
variable {X : Cx}
def tDict1 (tk tv : TE) : TE := fun σ H Q => ∀ p, H p = none → tk σ (upd H p (.dT [])) fun x H1 => tv σ H1 fun y H2 => ∃ (k : List Key) (b : Addr), x = .ref b ∧ H2 p = some (.dT []) ∧ H2 b = some (.tup (k.map kV)) ∧ Q (.ref p) (upd H2 p (.dT [(k, y)]))
theorem pe_dict1 {kx vx : Expr} {tk tv : TE} {pos : Pos} (hu : X.A.units + 64 < cLine) (hk : PE X kx tk) (hv : PE X vx tv) : PE X (.Dict [some kx] [vx] pos) (tDict1 tk tv) := by
  refine ⟨fun pins s σ H Q I q => ?_⟩
  have hn := I.hok.fresh (Nat.le_refl s.heap.objs.size)
  have I1 := I.laid (a := s.heap.objs.size) (o := .dT []) (h' := s.heap.push { cls := .type "dict", data := .dict #[] }) (t' := s.toks) (fun _ _ q => Heap.get?_push_of_some _ q) (Nat.le_refl _) (dt_empty s.heap I.big)
  have hp : PPs X pos [some kx] [vx] [(tk, tv)] := pps_cons hk hv pps_nil
  have q1 : tPairs [(tk, tv)] σ (upd H s.heap.objs.size (.dT [])) (fun ps H2 => match ps with
    | [(x, y)] => ∃ (k : List Key) (b : Addr), x = .ref b ∧ H2 s.heap.objs.size = some (.dT []) ∧ H2 b = some (.tup (k.map kV)) ∧ Q (.ref s.heap.objs.size) (upd H2 s.heap.objs.size (.dT [(k, y)]))
    | _ => False) := q _ hn
  refine wpAny_Dict_any rfl rfl (by simp) (by show 1 ≤ 15; decide) (thn (hp.run pins _ σ _ _ I1 q1) fun ws s2 ⟨ps, H2, I2, rel, q2⟩ => ?_)
  cases rel with
  | nil => exact q2.elim
  | @cons p0 w ps0 qs0 r1 r2 =>
    cases r2 with
    | cons _ _ => exact q2.elim
    | nil =>
    obtain ⟨x, y⟩ := p0
    obtain ⟨k, b, ex, e, eb, q2⟩ := q2
    subst ex
    obtain ⟨u, r⟩ := w
    obtain ⟨ru, rv⟩ := r1
    obtain rfl : u = Value.ref b := ru
    have rv : L2.RelV y r := rv
    obtain ⟨z, hd, xs, rel, dd⟩ := dt_of I2.hok e
    have hx : xs.length ≤ sizeLine := by rw [← Paired.length rel]; exact z
    unfold storeAll
    simp only [List.forIn_cons, List.forIn_nil]
    refine wpAny_bind (wpAny_bind (wpAny_dictSet_heap (hsz := hx) (show (tupleKind (mixKind X.prog X.w)).room X.A from (by show X.A.units < cLine; omega)) (key_of I2.hok eb) dd fun h' dd' hs => wpAny_pure (wpAny_pure ?_)))
    obtain ⟨q, es, ep, hq, h2, h3, h4, _, h5⟩ := dd'
    have new : ObjOk X.prog X.w (upd H2 s.heap.objs.size (.dT [(k, y)])) h' s.heap.objs.size (.dT [(k, y)]) := by
      refine ⟨by show 1 ≤ sizeLine; decide, hd, _, (rel.put k eb rv).keeps fun c ys ec => ?_, q, es, ep, hq, h2, h3, h4, h5⟩
      rw [upd_ne (ne_of ec e (fun z => nomatch z))]
      exact ec
    exact ⟨.ref s.heap.objs.size, _, d_write I2 (by rw [e]; exact True.intro) hs ⟨q, hq⟩ new, rfl, q2⟩
end
end FD
set_option maxRecDepth 100000
set_option maxHeartbeats 4000000
/-! x != y of an own class that has == alone; != of lists of the same objects. -/
namespace PySem.W
open PySem PySem.Calls PyProof.Rows
section
variable {prog : Program} {w : World} {A : Around} {E : Value → Shared → Prop} {s : Shared} {K : Frag} {x y C L f : Addr} {h₀ : Heap} {m : Str → Option Value} {ox oy : Obj} {od od' : Obj}
theorem neBody_K (hu : A.units < cLine) (F : Fr h₀ L s.heap m) (X₀ : K.In h₀) (I : InstAt s.heap x ox C (some od))
    (hs : findIn K (.ref C) "__eq__" = some (some (.ref f))) (hf : isFn K (.ref f) = true) {Q : Fin → Shared → Prop}
    (h : wpAny (model prog w) A (call (.ref f) [.ref x, .ref y]) (fun v s' => ∃ b, v = .bool b ∧ Q (.done (.ret (.bool (!b)))) s') E s) :
    wpAny (model prog w) A (Builtin.«object.__ne__» ⟨[.ref x, .ref y], []⟩) Q E s := by
  have X := X₀.keeps F.keep
  unfold Builtin.«object.__ne__»
  repeat (first
    | with_reducible refine wpAny_cRoomFor hu ?_
    | (refine wpAny_bind (m := callSpecialIfBound? (.ref x) (Str.ofString "__eq__") [.ref y])
        (ifBound_K X I hs hf (wpAny_mono h (fun r s' hr => by
          obtain ⟨b, rfl, hq⟩ := hr
          repeat (first | exact hq | exact wpAny_pure hq | exact wpAny_truthy_bool hq | (refine wpAny_bind (m := truthy (.bool _)) (wpAny_truthy_bool ?_)) | wp_step)) fun _ _ e => e)))
    | wp_step)
theorem neTry_K (hu : A.units + 1 < cLine) (F : Fr h₀ L s.heap m) (X₀ : K.In h₀) (I : InstAt s.heap x ox C (some od)) (hn : findIn K (.ref C) "__ne__" = some (some (.builtin "object.__ne__")))
    (hs : findIn K (.ref C) "__eq__" = some (some (.ref f))) (hf : isFn K (.ref f) = true) (hm : subIn K (.ref C) (.type "object") = some true) {Q : Option Value → Shared → Prop}
    (h : wpAny (model prog w) A.in1 (call (.ref f) [.ref x, .ref y]) (fun v s' => ∃ b, v = .bool b ∧ Q (some (.bool (!b))) s') E s) :
    wpAny (model prog w) A (tryCompare (.ref x) "__ne__" (.ref y)) Q E s := by
  have X := X₀.keeps F.keep
  have SB := PySem.F.cmp_object.ne
  simp only [tryCompare, callSpecialIfBound?, bindSpecialIfBound?]
  refine wpAny_bind (wpAny_holding (wpAny_bind (wpAny_bind (wpAny_bind (I.type.here ((looks_findIn X hn).here ?_))))))
  simp only [SB.bind]
  refine wpAny_bind (wpAny_askSetting (wpAny_ite ?_))
  have inst : Looks (model prog w) s.heap (isInstance (.ref x) (.type "object")) true := I.type.andThen (looks_subIn X hm)
  have fin : wpAny (model prog w) A (call (.builtin "object.__ne__") ([.ref x] ++ [.ref y]) >>= fun v => pure (some v)) (fun r s' => wpAny (model prog w) A (match r with
      | some .notImplemented => pure none
      | none => pure none
      | some v => pure (some v)) Q E s') E s := by
    refine wpAny_bind (wpAny_call (codeAny_call_builtin SB.plain PySem.F.cmpEntry_ne (check_slot PySem.F.cmpKind_ne PySem.F.cmpSplit_ne inst (PySem.F.cmpArgs_ne _ _) (neBody_K (A := A.in1) hu F X₀ I hs hf (wpAny_mono h (fun v s' hv => ?_) fun _ _ e => e)))))
    obtain ⟨b, rfl, hq⟩ := hv
    exact ⟨b, rfl, wpAny_pure (wpAny_pure hq)⟩
  split
  · exact wpAny_bind (wpAny_pure (wpAny_pure fin))
  · exact wpAny_tryCatch (wpAny_bind (wpAny_pure (wpAny_pure fin)))
theorem ne_K (hu : A.units + 1 < cLine) (F : Fr h₀ L s.heap m) (X₀ : K.In h₀) (I : InstAt s.heap x ox C (some od)) (J : Looks (model prog w) s.heap (typeOf (.ref y)) (.ref C)) (hn : findIn K (.ref C) "__ne__" = some (some (.builtin "object.__ne__")))
    (hs : findIn K (.ref C) "__eq__" = some (some (.ref f))) (hf : isFn K (.ref f) = true) (hm : subIn K (.ref C) (.type "object") = some true) {Q : Value → Shared → Prop}
    (h : wpAny (model prog w) A.in1 (call (.ref f) [.ref x, .ref y]) (fun v s' => ∃ b, v = .bool b ∧ Q (.bool (!b)) s') E s) :
    wpAny (model prog w) A (richCompare .NotEq (.ref x) (.ref y)) Q E s := by
  unfold richCompare
  simp only [oneThing_ref]
  refine wpAny_holding (wpAny_bind (wpAny_cRoomFor (Nat.lt_of_succ_lt hu) ?_))
  rw [cmpInfo_NotEq]
  dsimp only
  refine wpAny_bind (I.type.here (wpAny_bind (J.here ?_)))
  rw [show (Value.ref C != Value.ref C) = false from by simp]
  simp only [Bool.false_eq_true, if_false]
  refine wpAny_bind (wpAny_pure ?_)
  simp only [Bool.false_eq_true, if_false]
  refine wpAny_bind (neTry_K hu F X₀ I hn hs hf hm (wpAny_mono h (fun v s' hv => ?_) fun _ _ e => e))
  obtain ⟨b, rfl, hq⟩ := hv
  exact ⟨b, rfl, wpAny_pure hq⟩
end
end PySem.W
namespace FD
open PySem PySem.Spec PyProof.Rows L2 FS
section
variable {Y : Cx} {CX : CXT} {j : Nat} {g C : Addr} {gd : FuncData} {prm : List Str} {pm : Sp} {En : XK}
/-- a class with an own == and no own != -/
structure NeC (K : PySem.W.Frag) (C g : Addr) : Prop where
  ne : PySem.W.findIn K (.ref C) "__ne__" = some (some (.builtin "object.__ne__"))
  eq : PySem.W.findIn K (.ref C) "__eq__" = some (some (.ref g))
  fn : PySem.W.isFn K (.ref g) = true
  ob : PySem.W.mroIn K C (.type "object") = some true
/-- x != y, both of the class C, by C's __eq__, which gives a bool -/
def rNeOwn (C : Addr) (pm : Sp) (En : XK) : R2 := fun x y H Q => ∃ a b dx dy fs gs, x = .ref a ∧ y = .ref b ∧ H a = some (.ins C dx fs) ∧ H b = some (.ins C dy gs) ∧ pm [.ref a, .ref b] H (fun r H' => ∃ c, r = .bl c ∧ Q (.bl (!c)) H') En
theorem op_neOwn (N : NeC Y.K C g) (G : FnOk Y.prog Y.w Y.K Y.mg Y.base CX j g gd prm pm) (room : Room (j + 1) Y.A) (bind : Binds Y.K gd prm []) (pass : Passes CX Y En) : OpR Y (compareOp .NotEq) (rNeOwn C pm En) := by
  intro pins s σ H x y u z Q J rx ry hyp
  obtain ⟨a, b, dx, dy, fs, gs, rfl, rfl, ha, hb, hs⟩ := hyp
  obtain rfl : u = Value.ref a := rx
  obtain rfl : z = Value.ref b := ry
  obtain ⟨m1, J1, _⟩ := ins_get J.hok ha
  obtain ⟨m2, J2, _⟩ := ins_get J.hok hb
  obtain ⟨o1, J1, _⟩ := J1.look
  obtain ⟨o2, J2, _⟩ := J2.look
  obtain ⟨m, fr⟩ := J.fr
  have sb : Sub Y (j + 1) Y.A := ⟨room, rfl⟩
  have sb1 := sb.in1
  show wpAny (model Y.prog Y.w) Y.A (richCompare .NotEq (.ref a) (.ref b)) (EP Y pins σ Q) Y.xe s
  refine PySem.W.ne_K (by have := room.un; have := room.units; omega) fr J.ok.mod.kin J1 J2.type N.ne N.eq N.fn N.ob ?_
  have e0 : Env0 Y.prog Y.w Y.K Y.mg Y.base Y.A.in1 Y.stack s H := by
    have e := J.env0
    exact ⟨by rw [sb1.fr]; exact e.frames, e.mod, e.bs, e.bsz, e.funs, e.frf, e.hok, e.bare⟩
  have hl := G.len _ _ _ _ hs
  have r2 : Vals [V.ref a, V.ref b] [Value.ref a, Value.ref b] := .cons rfl (.cons rfl .nil)
  refine wpAny_call (codeAny_mono (G.run Y.A.in1 Y.stack s H ⟨[.ref a, .ref b], []⟩ [.ref a, .ref b] [.ref a, .ref b] _ En sb1.room e0 (by
    have := bind s [.ref a, .ref b] J.kIn (by simpa using hl)
    simpa using this) r2 hs) fun r s' hq => ?_)
  cases r with
  | error e => exact pass pins σ H s e s' J hq
  | ok fl =>
    cases fl with
    | ret v =>
      obtain ⟨z, H', J', rz, c, ez, q⟩ := J.after hq
      subst ez
      obtain rfl : v = Value.bool c := rz
      exact ⟨c, rfl, .bl (!c), H', J', rfl, q⟩
    | next => exact False.elim hq
    | brk => exact False.elim hq
    | cont => exact False.elim hq
end
end FD
/-! Forms told in part, products of forms; plain Lean. -/
namespace FM
def updB (b : Nat → Bool) (k : Nat) (tr : Bool) : Nat → Bool := fun j => if j = k then tr else b j
def toldT (N : List Tm) (k : Nat) (tr : Bool) : List Tm := (N.filter fun t => tr || decide (k ∉ t.1)).map fun t => (t.1.filter fun j => decide (j ≠ k), t.2)
theorem all_true (b : Nat → Bool) (k : Nat) : ∀ p : List Nat, (p.filter fun j => decide (j ≠ k)).all b = p.all (updB b k true)
  | [] => rfl
  | j :: p => by
    have ih := all_true b k p
    by_cases e : j = k
    · rw [List.filter_cons_of_neg (by simp [e]), ih, List.all_cons]
      have : updB b k true j = true := by simp [updB, e]
      rw [this, Bool.true_and]
    · rw [List.filter_cons_of_pos (by simp [e]), List.all_cons, List.all_cons, ih]
      have : updB b k true j = b j := by simp [updB, e]
      rw [this]
theorem all_off (b : Nat → Bool) (k : Nat) (tr : Bool) : ∀ p : List Nat, k ∉ p → p.all (updB b k tr) = p.all b
  | [], _ => rfl
  | j :: p, h => by
    rw [List.mem_cons, not_or] at h
    rw [List.all_cons, List.all_cons, all_off b k tr p h.2]
    have : updB b k tr j = b j := by simp [updB, show ¬ j = k from fun e => h.1 e.symm]
    rw [this]
theorem filt_off (k : Nat) (p : List Nat) (h : k ∉ p) : (p.filter fun j => decide (j ≠ k)) = p := by
  rw [List.filter_eq_self]
  intro j hj
  simp only [decide_eq_true_eq]
  rintro rfl
  exact h hj
theorem all_false (b : Nat → Bool) (k : Nat) (p : List Nat) (h : k ∈ p) : p.all (updB b k false) = false := by
  rw [List.all_eq_false]
  exact ⟨k, h, by simp [updB]⟩
theorem vT_told (b : Nat → Bool) (k : Nat) (tr : Bool) : ∀ N : List Tm, vT (toldT N k tr) b = vT N (updB b k tr)
  | [] => rfl
  | t :: N => by
    have ih := vT_told b k tr N
    rw [vT_cons]
    cases tr with
    | true =>
      have e : toldT (t :: N) k true = (t.1.filter (fun j => decide (j ≠ k)), t.2) :: toldT N k true := by
        unfold toldT; rw [List.filter_cons_of_pos (by simp)]; rfl
      rw [e, vT_cons, ih, all_true]
    | false =>
      by_cases h : k ∈ t.1
      · have e : toldT (t :: N) k false = toldT N k false := by
          unfold toldT; rw [List.filter_cons_of_neg (by simp [h])]
        rw [e, ih, all_false b k t.1 h]
        simp
      · have e : toldT (t :: N) k false = (t.1.filter (fun j => decide (j ≠ k)), t.2) :: toldT N k false := by
          unfold toldT; rw [List.filter_cons_of_pos (by simp [h])]; rfl
        rw [e, vT_cons, ih, filt_off k t.1 h, all_off b k false t.1 h]
theorem AscT.told {n : Nat} {N : List Tm} (h : AscT n N) (k : Nat) (tr : Bool) : AscT n (toldT N k tr) := fun t ht => by
  obtain ⟨u, hu, rfl⟩ := List.mem_map.mp ht
  obtain ⟨h1, h2⟩ := h u (List.mem_filter.mp hu).1
  exact ⟨h1.filter _, fun j hj => h2 j (List.mem_filter.mp hj).1⟩
theorem told_len (N : List Tm) (k : Nat) (tr : Bool) : (toldT N k tr).length ≤ N.length := by
  unfold toldT
  rw [List.length_map]
  exact List.length_filter_le _ _
def mulT (A B : List Tm) : List Tm := A.flatMap fun t => B.map fun u => (t.1 ++ u.1, t.2 * u.2)
theorem vT_times (b : Nat → Bool) (t : Tm) : ∀ B : List Tm, vT (B.map fun u => (t.1 ++ u.1, t.2 * u.2)) b = (if t.1.all b = true then t.2 else 0) * vT B b
  | [] => by simp [vT]
  | u :: B => by
    have ih := vT_times b t B
    rw [List.map_cons, vT_cons, ih, vT_cons, List.all_append]
    cases t.1.all b <;> cases u.1.all b <;> simp [Int.mul_add]
theorem vT_mul (b : Nat → Bool) (B : List Tm) : ∀ A : List Tm, vT (mulT A B) b = vT A b * vT B b
  | [] => by simp [mulT, vT]
  | t :: A => by
    have e : mulT (t :: A) B = (B.map fun u => (t.1 ++ u.1, t.2 * u.2)) ++ mulT A B := by unfold mulT; rw [List.flatMap_cons]
    rw [e, vT_append, vT_times, vT_mul b B A, vT_cons, Int.add_mul]
def ascL (n : Nat) (T : List Tm) : List Tm := T.map fun t => (asc n t.1, t.2)
theorem all_asc {n : Nat} {ks : List Nat} (b : Nat → Bool) (h : ∀ k ∈ ks, k < n) : (asc n ks).all b = ks.all b := by
  rw [Bool.eq_iff_iff, List.all_eq_true, List.all_eq_true]
  constructor
  · exact fun z k hk => z k (mem_asc.mpr ⟨h k hk, hk⟩)
  · exact fun z k hk => z k (mem_asc.mp hk).2
theorem vT_ascL {n : Nat} (b : Nat → Bool) : ∀ {T : List Tm}, (∀ t ∈ T, ∀ k ∈ t.1, k < n) → vT (ascL n T) b = vT T b
  | [], _ => rfl
  | t :: T, h => by
    have ih := vT_ascL b (T := T) fun u hu => h u (List.mem_cons_of_mem _ hu)
    show vT ((asc n t.1, t.2) :: ascL n T) b = _
    rw [vT_cons, vT_cons, ih, all_asc b (h t List.mem_cons_self)]
theorem ascL_asc (n : Nat) (T : List Tm) : AscT n (ascL n T) := fun t ht => by
  obtain ⟨u, _, rfl⟩ := List.mem_map.mp ht
  exact ⟨asc_lt _ _, fun k hk => (mem_asc.mp hk).1⟩
/-- the same values: one normal form -/
theorem nrm_of {A B : List Tm} {n : Nat} (hn : n ≤ 5) (ha : AscT n A) (hb : AscT n B) (h : ∀ b, vT A b = vT B b) : nrm A = nrm B := by
  have up : ∀ {C : List Tm}, AscT n C → AscT 5 C := fun z t ht => ⟨(z t ht).1, fun k hk => Nat.lt_of_lt_of_le ((z t ht).2 k hk) hn⟩
  exact (equal_iff (up ha) (up hb)).mp fun m _ => h _
/-- the places that a sum speaks of -/
def plcs (N : List Tm) : List Nat := N.flatMap fun t => t.1
theorem mem_plcs {N : List Tm} {k : Nat} : k ∈ plcs N ↔ ∃ t ∈ N, k ∈ t.1 := List.mem_flatMap
theorem mem_nrm {T : List Tm} {t : Tm} : t ∈ nrm T ↔ t ∈ accL T ∧ t.2 ≠ 0 := by
  unfold nrm
  rw [(List.mergeSort_perm _ _).mem_iff, List.mem_filter, decide_eq_true_iff]
end FM
set_option maxRecDepth 100000
set_option maxHeartbeats 4000000
/-! Forms: ==, *, coefficient, sign_list. -/
namespace KP
open PySem PySem.Spec PyProof.Rows L2 KT FS FD
open FM (asc addP accL coef nrm toldT mulT ascL plcs)
section
variable {P : Program} {w : World} {K : PySem.W.Frag} {mg : Str → Option Value} {base : Heap}
/-- == with a form, a tuple, an int -/
def spFEqI (G : List Sg) (C : Addr) : Sp := fun vs H Q _ => ∃ x N y, vs = [.ref x, y] ∧ FmAt G C H x N ∧ ((∃ z M, y = .ref z ∧ FmAt G C H z M ∧ Q (.bl (decide (N = M))) H) ∨ ∃ i : Int, y = .int i ∧ Q (.bl false) H)
theorem ok_feqI {G : List Sg} (PG : Pool G) {C f : Addr} {fd : FuncData} (F : Fun K "__eq__" "Form.__eq__" sFormEq f fd) (B : Blt mg) (FC : FmC K mg C) (I : FmI K C) (ti : PySem.W.kitOne K (.type "int") (.ref C) = some false) : FnOk P w K mg base CX0 1 f fd ["self", "other"] (spFEqI G C) := by
  refine F.ok scFormEq (fun vs H Q E h => ?_) (fun cdv A outer s H vs Q E hr h => ?_)
  · obtain ⟨_, _, _, rfl, _⟩ := h
    rfl
  · obtain ⟨x, N, y, rfl, ⟨dx, t, hx, hk, hN⟩, h2⟩ := h
    refine ⟨_, pss_one (ps_ret (pe_and (pe_callB call_isi (by rfl) B.isinstance (by decide +kernel) (pa_cons (pv 1) (pa_cons (pe_glob (v := .ref C) (by rfl) FC.mgC rfl) pa_nil)))
      (pe_one (pe_cmpR (op_eqK hr.units) (pe_fld (pv 0) rfl) (pe_fld (pv 1) rfl) (nomark _))))), ?_⟩
    rcases h2 with ⟨z, M, rfl, ⟨dz, u, hz, hk2, hM⟩, q⟩ | ⟨i, rfl, q⟩
    · refine ⟨_, rfl, _, _, _, _, _, rfl, .own _, .base (.ins hz FC.cl I.ha I.hn I.htk I.hm), I.me, _, rfl, iteT ?_⟩
      refine ⟨_, rfl, x, C, dx, _, _, rfl, hx, FC.cl, FC.n1, fmf_1 _, _, rfl, z, C, dz, _, _, rfl, hz, FC.cl, FC.n1, fmf_1 _, _, _, hk, hk2, tms_depth G N, ?_⟩
      have e : decide (N.map (tmK G) = M.map (tmK G)) = decide (N = M) := decide_eq_decide.mpr ⟨tms_inj PG (asc_lt' hN) (asc_lt' hM), fun z => by rw [z]⟩
      rw [e]
      exact q
    · exact ⟨_, rfl, _, _, _, _, _, rfl, .own _, tyInt i, ti, _, rfl, iteF q⟩
/-- a term whose product is a tuple -/
def IsTt (G : List Sg) (H : Hp) (v : V) (t : FM.Tm) : Prop := ∃ (b s : Addr) (M : List (V × Nat)), v = .ref b ∧ H b = some (.tup [.ref s, .int t.2]) ∧ H s = some (.tup (M.map fun z => z.1)) ∧ SgA G H M ∧ M.map (fun z => z.2) = t.1 ∧ M.length ≤ 900
theorem IsTt.same {G} {H H' : Hp} {v t} (h : IsTt G H v t) (s : Same H H') : IsTt G H' v t := let ⟨b, c, M, e, h1, h2, h3, r⟩ := h; ⟨b, c, M, e, s _ _ h1, s _ _ h2, h3.same s, r⟩
theorem IsTt.but {G} {H H' : Hp} {v t} {d : Addr} {xs : List V} (h : IsTt G H v t) (b : But d H H') (hd : H d = some (.lst xs)) : IsTt G H' v t := by
  obtain ⟨b1, c, M, e, h1, h2, h3, r⟩ := h
  exact ⟨b1, c, M, e, b _ _ h1 (by rintro rfl; rw [hd] at h1; cases h1), b _ _ h2 (by rintro rfl; rw [hd] at h2; cases h2), h3.but b hd (fun xs z => by cases z), r⟩
theorem IsTt.ti {K : PySem.W.Frag} {G} {H : Hp} {v t} (h : IsTt G H v t) : IsTi K G H v t := let ⟨b, s, M, e, h1, h2, h3, h4, h5⟩ := h; ⟨b, s, M, e, h1, .inr (SqT.of h2), h3, h4, h5⟩
/-- the signs of a product in the heap -/
theorem pr_sg {G : List Sg} {H : Hp} {b : Addr} {p : List Nat} (h : KI H (.ref b) (prK G p)) (bd : ∀ k ∈ p, k < G.length) : ∃ L : List (V × Nat), H b = some (.tup (L.map fun z => z.1)) ∧ L.map (fun z => z.2) = p ∧ SgA G H L := by
  obtain ⟨b', L, e, hT, eL, hs⟩ := pr_of h
  obtain rfl := V.ref.inj e
  exact ⟨L, hT, eL, fun z hz => ⟨hs z hz, bd _ (by rw [← eL]; exact List.mem_map.mpr ⟨z, hz, rfl⟩)⟩⟩
theorem asc_few {G : List Sg} (PG : Pool G) {N : List FM.Tm} (h : FM.AscT G.length N) {t : FM.Tm} (m : t ∈ N) : t.1.length ≤ 5 := by
  have z := FM.asc_self (h t m).2 (h t m).1
  have z2 := asc_len (n := G.length) (ks := t.1)
  have := PG.len
  rw [z] at z2
  omega
abbrev nMu : List Str := ["self", "other", "terms", "product", "coefficient", "more", "factor"]
def spFMul (G : List Sg) (C : Addr) : Sp := fun vs H Q _ => ∃ x y N M, vs = [.ref x, y] ∧ FmAt G C H x N ∧ OtF G C H y M ∧ N.length * M.length ≤ 100 ∧ (∀ t ∈ N, -(2 ^ 64) < t.2 ∧ t.2 < 2 ^ 64) ∧ ∀ z H', Same H H' → H z = none → FmAt G C H' z (nrm (ascL G.length (mulT N M))) → Q (.ref z) H'
theorem mul_take {N M : List FM.Tm} {i : Nat} {t : FM.Tm} (h : N[i]? = some t) : mulT (N.take (i + 1)) M = mulT (N.take i) M ++ M.map fun u => (t.1 ++ u.1, t.2 * u.2) := by
  unfold mulT
  rw [List.take_add_one, h, List.flatMap_append]
  simp
theorem mul_len (N M : List FM.Tm) : (mulT N M).length = N.length * M.length := by
  induction N with
  | nil => simp [mulT]
  | cons t N ih =>
    have e : mulT (t :: N) M = (M.map fun u => (t.1 ++ u.1, t.2 * u.2)) ++ mulT N M := by unfold mulT; rw [List.flatMap_cons]
    rw [e, List.length_append, List.length_map, ih, List.length_cons, Nat.succ_mul]
    omega
theorem ok_fmul {G : List Sg} (PG : Pool G) {C f fi fa : Addr} {fd di da : FuncData} (F : Fun K "__mul__" "Form.__mul__" sFormMul f fd) (FC : FmC K mg C) (M : FmkD K mg P w base G C fi di) (A : AfD K mg P w base G C fa da) : FnOk P w K mg base CX0 10 f fd ["self", "other"] (spFMul G C) := by
  refine F.ok scFormMul (fun vs H Q E h => ?_) (fun cdv Ar outer s H vs Q E hr h => ?_)
  · obtain ⟨_, _, _, _, rfl, _⟩ := h
    rfl
  · obtain ⟨x, y, N, N2, rfl, hx, hy, lnm, cb, q⟩ := h
    obtain ⟨dx, t, L, ex, hT, eN, hL, aN⟩ := hx.terms
    refine ⟨_, pss_cons (ps_set (i := 2) scFormMul.nd rfl (.inl rfl) (pe_lst pa_nil))
      (pss_cons (ps_for PassesOwn.never rfl (pi_tup (pe_fld (pv 0) rfl)) (pg_tup rfl (pgs_cons (pg_name (i := 3) scFormMul.nd rfl (.inl rfl)) (pgs_cons (pg_name (i := 4) scFormMul.nd rfl (.inl rfl)) pgs_nil)))
        (pss_one (ps_for PassesOwn.never rfl (pi_tup (pe_fld (pe_call A.ok hr (by rfl) A.m A.k A.b .nil pass0 (pa_cons (pv 1) pa_nil)) rfl)) (pg_tup rfl (pgs_cons (pg_name (i := 5) scFormMul.nd rfl (.inl rfl)) (pgs_cons (pg_name (i := 6) scFormMul.nd rfl (.inl rfl)) pgs_nil)))
          (pss_one (ps_expr (pe_bm PySem.F.plainAttrs_list PySem.F.slot_list_append PySem.F.type_list_append mt_append (pv 2) (pa_cons (pe_tup (pa_cons (pe_tup (StX.pa_star (pv 3) (StX.pa_star (pv 5) pa_nil))) (pa_cons (pe_op op_mul (pv 4) (pv 6)) pa_nil))) pa_nil)))))))
      (pss_one (ps_ret (pe_make M.mkC M.ok (hr.mono (by decide)) (by rfl) FC.mgC M.b .nil pass0 (pa_cons (pv 2) pa_nil))))), ?_⟩
    have lL : L.length = N.length := by rw [← eN, List.length_map]
    refine ⟨by show 0 ≤ sizeLine; decide, fun l nl => ?_⟩
    have s1 : Same H (upd H l (.lst [])) := same_upd nl
    refine ⟨_, rfl, x, C, dx, _, _, rfl, s1 _ _ ex, FC.cl, FC.n1, fmf_1 _, t, rfl, ⟨_, SqT.of (s1 _ _ hT)⟩, for_tup (K := K) (a := t) (xs := L.map fun z => z.1) (fun i σ H2 => ∃ (v3 v4 v5 v6 : Option V) (W : List (V × FM.Tm)), σ = [some (.ref x), some y, some (.ref l), v3, v4, v5, v6] ∧ Same H H2 ∧ H2 l = some (.lst (W.map fun z => z.1)) ∧ (∀ z ∈ W, IsTt G H2 z.1 z.2) ∧ W.map (fun z => z.2) = mulT (N.take i) N2)
      ⟨none, none, none, none, [], rfl, s1, upd_same, (fun _ h => nomatch h), rfl⟩ (fun i σ H2 _ ⟨_, _, _, _, _, _, s2, _⟩ => SqT.of (s2 _ _ hT)) ?_ ?_⟩
    · rintro i v σ H2 hv ⟨v3, v4, v5, v6, W, rfl, s2, hl, hW, eW⟩
      obtain ⟨c, hc⟩ := at_map hv
      have nN : N[i]? = some c := by rw [← eN, List.getElem?_map, hc]; rfl
      have mc := List.mem_of_getElem? nN
      obtain ⟨a, b, rfl, g1, g2⟩ := tm_of ((hL _ (List.mem_of_getElem? hc)).same s2)
      obtain ⟨Lp, hLp, eLp, sLp⟩ := pr_sg g2 (aN c mc).2
      have fw := asc_few PG aN mc
      refine ⟨a, _, rfl, SqT.of g1, rfl, _, _, rfl, _, _, rfl, rfl, ?_⟩
      refine ⟨_, rfl, y, N2, rfl, hy.same s2, fun y' H2' s2' hy' => ?_⟩
      obtain ⟨dy, u, L2, ey, hU, eM, hL2, aM⟩ := hy'.terms
      have lL2 : L2.length = N2.length := by rw [← eM, List.length_map]
      have hl2 := s2' _ _ hl
      have s02 := s2.trans s2'
      have nul : u ≠ l := fun z => by rw [z, hl2] at hU; cases hU
      refine ⟨y', C, dy, _, _, rfl, ey, FC.cl, FC.n1, fmf_1 _, u, rfl, ⟨_, SqT.of hU⟩, for_tup (K := K) (a := u) (xs := L2.map fun z => z.1) (fun j σ H3 => ∃ (v5 v6 : Option V) (W : List (V × FM.Tm)), σ = [some (.ref x), some y, some (.ref l), some (.ref b), some (.int c.2), v5, v6] ∧ But l H2' H3 ∧ H3 l = some (.lst (W.map fun z => z.1)) ∧ (∀ z ∈ W, IsTt G H3 z.1 z.2) ∧ W.map (fun z => z.2) = mulT (N.take i) N2 ++ (N2.take j).map fun u => (c.1 ++ u.1, c.2 * u.2))
        ⟨v5, v6, W, rfl, But.refl, hl2, fun z hz => (hW z hz).same s2', by rw [eW]; simp⟩ (fun j σ H3 _ ⟨_, _, _, _, b3, _⟩ => SqT.of (b3 _ _ hU nul)) ?_ ?_⟩
      · rintro j v' σ H3 hv' ⟨v5, v6, W, rfl, b3, hl3, hW3, eW3⟩
        have s3 : Same H H3 := fun c o e => b3 c o (s02 c o e) (ne_of_none e nl)
        obtain ⟨d, hd⟩ := at_map hv'
        have nM : N2[j]? = some d := by rw [← eM, List.getElem?_map, hd]; rfl
        have md := List.mem_of_getElem? nM
        obtain ⟨a', b', rfl, g1', g2'⟩ := tm_of (ki_but (hL2 _ (List.mem_of_getElem? hd)) b3 hl2 fun xs z => by cases z)
        obtain ⟨Lq, hLq, eLq, sLq⟩ := pr_sg g2' (aM d md).2
        have eLq : Lq.map (fun z => z.2) = d.1 := eLq
        have fw' := asc_few PG aM md
        obtain ⟨_, b0, e0, _, g0⟩ := tm_of ((hL _ (List.mem_of_getElem? hc)).same s3)
        have hb3 : KI H3 (.ref b) (prK G c.1) := by
          obtain ⟨a1, b1, e1, k1, k2⟩ := tm_of ((hL _ (List.mem_of_getElem? hc)).same s2)
          have z1 : V.ref a = V.ref a1 := e1
          obtain rfl := V.ref.inj z1
          rw [g1] at k1
          obtain ⟨a2, b2, e2, j1, j2⟩ := tm_of ((hL _ (List.mem_of_getElem? hc)))
          have z2 : V.ref a = V.ref a2 := e2
          obtain rfl := V.ref.inj z2
          have w1 := s2 _ _ j1
          rw [g1] at w1
          cases w1
          exact j2.same s3
        obtain ⟨Lp3, hLp3, eLp3, sLp3⟩ := pr_sg hb3 (aN c mc).2
        refine ⟨a', _, rfl, SqT.of g1', rfl, _, _, rfl, _, _, rfl, rfl, ?_⟩
        have l5 : Lp3.length ≤ 5 := by have := congrArg List.length eLp3; rw [List.length_map] at this; omega
        have l6 : Lq.length ≤ 5 := by have := congrArg List.length eLq; rw [List.length_map] at this; omega
        have eL : (Lp3.map (fun z : V × Nat => z.1)) ++ ((Lq.map (fun z : V × Nat => z.1)) ++ []) = (Lp3 ++ Lq).map fun z => z.1 := by rw [List.append_nil, List.map_append]
        refine ⟨_, rfl, .inl ⟨rfl, _, SqL.of hl3⟩, _, rfl, b, _, rfl, .inl (SqT.of hLp3), _, rfl, b', _, rfl, .inl (SqT.of hLq), by rw [eL, List.length_map, List.length_append]; exact Nat.le_of_lt (small1000 (by omega)), fun T nT => ?_⟩
        have s4 : Same H3 (upd H3 T (.tup ((Lp3.map (fun z : V × Nat => z.1)) ++ ((Lq.map (fun z : V × Nat => z.1)) ++ [])))) := same_upd nT
        have hTt : upd H3 T (.tup ((Lp3.map (fun z : V × Nat => z.1)) ++ ((Lq.map (fun z : V × Nat => z.1)) ++ []))) T = some (.tup ((Lp3 ++ Lq).map fun z => z.1)) := by rw [upd_same, eL]
        generalize upd H3 T (.tup ((Lp3.map (fun z : V × Nat => z.1)) ++ ((Lq.map (fun z : V × Nat => z.1)) ++ []))) = H4 at s4 hTt
        refine ⟨_, rfl, _, rfl, _, _, rfl, rfl, .inl (cb c mc), by show 2 ≤ sizeLine; decide, fun T2 n2 => ?_⟩
        have s5 : Same H4 (upd H4 T2 (.tup [.ref T, .int (c.2 * d.2)])) := same_upd n2
        have hT2 : upd H4 T2 (.tup [.ref T, .int (c.2 * d.2)]) T2 = some (.tup [.ref T, .int (c.2 * d.2)]) := upd_same
        generalize upd H4 T2 (.tup [.ref T, .int (c.2 * d.2)]) = H5 at s5 hT2
        have s35 := s4.trans s5
        have hl5 := s35 _ _ hl3
        have lW : W.length < 100 := by
          have z1 := congrArg List.length eW3
          rw [List.length_map, List.length_append, mul_len, List.length_map, List.length_take, List.length_take] at z1
          have hi : i < N.length := (List.getElem?_eq_some_iff.mp nN).1
          have hj : j < N2.length := (List.getElem?_eq_some_iff.mp nM).1
          rw [Nat.min_eq_left (by omega), Nat.min_eq_left (by omega)] at z1
          have z2 : (i + 1) * N2.length ≤ N.length * N2.length := Nat.mul_le_mul_right _ hi
          rw [Nat.succ_mul] at z2
          omega
        have tt : IsTt G H5 (.ref T2) (c.1 ++ d.1, c.2 * d.2) := by
          refine ⟨T2, T, Lp3 ++ Lq, rfl, hT2, s5 _ _ hTt, fun z hz => ?_, by rw [List.map_append, eLp3, eLq], by rw [List.length_append]; omega⟩
          rcases List.mem_append.mp hz with m | m
          · exact (sLp3.same s35) z m
          · exact (sLq.same s35) z m
        refine ⟨l, _, _, rfl, rfl, hl5, small1000 (by rw [List.length_map]; omega), _, _, W ++ [(.ref T2, (c.1 ++ d.1, c.2 * d.2))], rfl, (b3.same s35).trans But.upd, by rw [upd_same, List.map_append]; rfl, fun z hz => ?_, ?_⟩
        · refine IsTt.but (d := l) ?_ But.upd hl5
          rcases List.mem_append.mp hz with m | m
          · exact (hW3 z m).same s35
          · rw [List.mem_singleton.mp m]; exact tt
        · rw [List.map_append, eW3, List.append_assoc, take_map nM]; rfl
      · rintro σ H3 ⟨v5, v6, W, rfl, b3, hl3, hW3, eW3⟩
        have s3 : Same H H3 := fun c o e => b3 c o (s02 c o e) (ne_of_none e nl)
        rw [show (L2.map fun z : V × FM.Tm => z.1).length = N2.length by rw [List.length_map, lL2], List.take_length] at eW3
        exact ⟨_, _, _, _, W, rfl, s3, hl3, hW3, by rw [eW3, mul_take nN]⟩
    · rintro σ H2 ⟨v3, v4, v5, v6, W, rfl, s2, hl, hW, eW⟩
      rw [show (L.map fun z : V × FM.Tm => z.1).length = N.length by rw [List.length_map, lL], List.take_length] at eW
      have lW : W.length ≤ 100 := by
        have z1 := congrArg List.length eW
        rw [List.length_map, mul_len] at z1
        omega
      refine ⟨_, rfl, ?_⟩
      refine fm_made (L := W) (.inl (SqL.of hl)) (fun z hz => (hW z hz).ti) lW fun z H' s3 nz hF => ?_
      have e : nT G W = ascL G.length (mulT N N2) := by
        rw [← eW]
        unfold nT ascL
        rw [List.map_map]
        rfl
      rw [e] at hF
      exact q z H' (s2.trans s3) (s2.free nz) hF
end
end KP
set_option maxRecDepth 100000
set_option maxHeartbeats 4000000
/-! coefficient, sign_list, told, of, whole. -/
namespace KP
open PySem PySem.Spec PyProof.Rows L2 KT FS FD
open FM (asc addP accL coef nrm toldT mulT ascL plcs)
theorem sign_eq {G : List Sg} (PG : Pool G) {j k : Nat} (hj : j < G.length) (hk : k < G.length) : decide (sgK (at' G j) = sgK (at' G k)) = decide (j = k) := decide_eq_decide.mpr ⟨fun z => PG.inj hj hk (sgK_inj z), fun z => by rw [z]⟩
section
variable {P : Program} {w : World} {K : PySem.W.Frag} {mg : Str → Option Value} {base : Heap}
/-! coefficient -/
def spSList (G : List Sg) (C : Addr) : Sp := fun vs H Q _ => ∃ (x : Addr) (N : List FM.Tm), vs = [.ref x] ∧ FmAt G C H x N ∧ N.length ≤ 100 ∧ ∀ p (M : List (V × Nat)) H', Same H H' → H p = none → H' p = some (.lst (M.map fun z => z.1)) → SgA G H' M → M.map (fun z => z.2) = asc G.length (plcs N) → Q (.ref p) H'
theorem ok_slist {G : List Sg} (PG : Pool G) {C f fa : Addr} {fd da : FuncData} (F : Fun K "sign_list" "Form.sign_list" sFormSignList f fd) (FC : FmC K mg C) (A : AscD K mg P w base G fa da) : FnOk P w K mg base CX0 7 f fd ["self"] (spSList G C) := by
  refine F.ok scFormSignList (fun vs H Q E h => ?_) (fun cdv Ar outer s H vs Q E hr h => ?_)
  · obtain ⟨_, _, rfl, _⟩ := h
    rfl
  · obtain ⟨x, N, rfl, hx, ln, q⟩ := h
    obtain ⟨dx, t, Lt, ex, hT, eN, hL, aN⟩ := hx.terms
    refine ⟨_, pss_cons (ps_set (i := 1) scFormSignList.nd rfl (.inl rfl) (pe_lst pa_nil))
      (pss_cons (ps_for PassesOwn.never rfl (pi_tup (pe_fld (pv 0) rfl)) (pg_tup rfl (pgs_cons (pg_name (i := 2) scFormSignList.nd rfl (.inl rfl)) (pgs_cons (pg_name (i := 3) scFormSignList.nd rfl (.inl rfl)) pgs_nil)))
        (pss_one (ps_expr (pe_bm PySem.F.plainAttrs_list PySem.F.slot_list_extend PySem.F.type_list_extend mt_extT (pv 1) (pa_cons (pv 2) pa_nil)))))
      (pss_one (ps_ret (pe_call A.ok hr (by rfl) A.m A.k A.b .nil pass0 (pa_cons (pv 1) pa_nil))))), ?_⟩
    refine ⟨by show 0 ≤ sizeLine; decide, fun l nl => ?_⟩
    have s1 : Same H (upd H l (.lst [])) := same_upd nl
    refine ⟨_, rfl, x, C, dx, _, _, rfl, s1 _ _ ex, FC.cl, FC.n1, fmf_1 _, t, rfl, ⟨_, SqT.of (s1 _ _ hT)⟩, for_tup (K := K) (a := t) (xs := Lt.map fun z => z.1) (fun i σ H2 => ∃ (v2 v3 : Option V) (W : List (V × Nat)), σ = [some (.ref x), some (.ref l), v2, v3] ∧ Same H H2 ∧ H2 l = some (.lst (W.map fun z => z.1)) ∧ SgA G H2 W ∧ W.map (fun z => z.2) = plcs (N.take i) ∧ W.length ≤ 5 * i)
      ⟨none, none, [], rfl, s1, upd_same, (fun _ h => nomatch h), rfl, Nat.le_refl _⟩ (fun i σ H2 _ ⟨_, _, _, _, s2, _⟩ => SqT.of (s2 _ _ hT)) ?_ ?_⟩
    · rintro i v σ H2 hv ⟨v2, v3, W, rfl, s2, hl, hW, eW, lW⟩
      obtain ⟨c, hc⟩ := at_map hv
      have nN : N[i]? = some c := by rw [← eN, List.getElem?_map, hc]; rfl
      have hi : i < N.length := (List.getElem?_eq_some_iff.mp nN).1
      have mc := List.mem_of_getElem? nN
      obtain ⟨e, b, rfl, g1, g2⟩ := tm_of ((hL _ (List.mem_of_getElem? hc)).same s2)
      obtain ⟨Lp, hLp, eLp, sLp⟩ := pr_sg g2 (aN c mc).2
      have eLp : Lp.map (fun z => z.2) = c.1 := eLp
      have fw := asc_few PG aN mc
      have lp : Lp.length ≤ 5 := by have := congrArg List.length eLp; rw [List.length_map] at this; omega
      refine ⟨e, _, rfl, SqT.of g1, rfl, _, _, rfl, _, _, rfl, rfl, ?_⟩
      refine ⟨_, rfl, .inl ⟨rfl, _, SqL.of hl⟩, _, rfl, l, b, _, _, rfl, rfl, hl, SqT.of hLp, Nat.le_of_lt (small1000 (by rw [List.length_map, List.length_map]; omega)), ?_⟩
      refine ⟨_, _, W ++ Lp, rfl, fun c o e => by rw [upd_ne (ne_of_none e nl)]; exact s2 _ _ e, by rw [upd_same, List.map_append], ?_, ?_, by rw [List.length_append]; omega⟩
      · refine SgA.but (d := l) (fun z hz => ?_) But.upd hl fun xs z => by cases z
        rcases List.mem_append.mp hz with m | m
        · exact hW z m
        · exact sLp z m
      · rw [List.map_append, eW, eLp]
        unfold plcs
        rw [List.take_add_one, nN, List.flatMap_append]
        simp
    · rintro σ H2 ⟨v2, v3, W, rfl, s2, hl, hW, eW, lW⟩
      have lt : (Lt.map fun z : V × FM.Tm => z.1).length = N.length := by rw [← eN, List.length_map, List.length_map]
      rw [lt, List.take_length] at eW
      rw [lt] at lW
      refine ⟨_, rfl, l, W, rfl, .inl (SqL.of hl), hW, by omega, fun p M' H3 s3 np hp hA3 eM => ?_⟩
      rw [eW] at eM
      exact q p M' H3 (s2.trans s3) (s2.free np) hp hA3 eM
/-! told -/
end
end KP
set_option maxRecDepth 100000
set_option maxHeartbeats 4000000
/-! An own class's operators with an int, on either side. -/
namespace FD
open PySem PySem.Spec PyProof.Rows L2 FS
open PySem.Sem (wp)
open PySem.AutoSeq1
theorem add_int_ref (n : Int) (t : Tok) (a : Addr) (o : Obj) (hd : o.data = .plain) : Meets (Builtin.«int.__add__» ⟨[.int n t, .ref a], []⟩) (fun _ R s => s.heap.get? a = some o ∧ R (.ok (.ret .notImplemented)) s) := by
  obtain ⟨c, dd, data, sl⟩ := o
  simp only at hd
  subst hd
  exact .of_wp fun prog w A R s h => by
    obtain ⟨hp, g, d, tk, os⟩ := s; obtain ⟨hl, h⟩ := h
    wp_walk using wpAny_loadPart' hl, wpAny_load hl
    exact ⟨_, rfl, h⟩
theorem sub_int_ref (n : Int) (t : Tok) (a : Addr) (o : Obj) (hd : o.data = .plain) : Meets (Builtin.«int.__sub__» ⟨[.int n t, .ref a], []⟩) (fun _ R s => s.heap.get? a = some o ∧ R (.ok (.ret .notImplemented)) s) := by
  obtain ⟨c, dd, data, sl⟩ := o
  simp only at hd
  subst hd
  exact .of_wp fun prog w A R s h => by
    obtain ⟨hp, g, d, tk, os⟩ := s; obtain ⟨hl, h⟩ := h
    wp_walk using wpAny_loadPart' hl, wpAny_load hl
    exact ⟨_, rfl, h⟩
theorem mul_int_ref (n : Int) (t : Tok) (a : Addr) (o : Obj) (hd : o.data = .plain) : Meets (Builtin.«int.__mul__» ⟨[.int n t, .ref a], []⟩) (fun _ R s => s.heap.get? a = some o ∧ R (.ok (.ret .notImplemented)) s) := by
  obtain ⟨c, dd, data, sl⟩ := o
  simp only at hd
  subst hd
  exact .of_wp fun prog w A R s h => by
    obtain ⟨hp, g, d, tk, os⟩ := s; obtain ⟨hl, h⟩ := h
    wp_walk using wpAny_loadPart' hl, wpAny_load hl
    exact ⟨_, rfl, h⟩
end FD
namespace PySem.W
open PySem PySem.Calls PyProof.Rows
section
variable {prog : Program} {w : World} {A : Around} {E : Value → Shared → Prop} {s : Shared} {K : Frag} {x C L f f' : Addr} {h₀ : Heap} {m : Str → Option Value} {ox : Obj} {od : Option Obj}
theorem refl_K {op : Operator} {id : String} {B : Builtin} {n : Int} {t : Tok} {Q : Value → Shared → Prop} (F : Fr h₀ L s.heap m) (X₀ : K.In h₀) (I : InstAt s.heap x ox C od) (hc : selfFirst K C = true)
    (hd : findIn K (.ref C) (PySem.dunder op.info.2) = some (some (.ref f'))) (hs : findIn K (.ref C) (dunderR op.info.2) = some (some (.ref f))) (hf : isFn K (.ref f) = true) (sub : subIn K (.ref C) (.type "int") = some false)
    (fills : fillsNumberSlot (.type "int") op.info.2 = pure true) (slot : Slot "int" (PySem.dunder op.info.2) id) (entry : entryFor table id = some B) (args : argsOk id ⟨[.int n t, .ref x], []⟩)
    (g : Meets (B ⟨[.int n t, .ref x], []⟩) (fun _ R s => s.heap.get? x = some ox ∧ R (.ok (.ret .notImplemented)) s))
    (h : wpAny (model prog w) A (call (.ref f) [.ref x, .int n t]) (CmpBack Q) E s) : wpAny (model prog w) A (binaryOp op (.int n t) (.ref x)) Q E s := by
  have X := X₀.keeps F.keep
  obtain ⟨cd, rest, hcd, hm⟩ := ksp_first hc
  rcases hi : op.info with ⟨sym, nm⟩
  rw [hi] at hd hs fills slot
  dsimp only at hd hs fills slot
  simp only [binaryOp, hi]
  refine wpAny_holding (wpAny_bind ?_)
  simp only [binaryOp1]
  refine wpAny_bind (wpAny_typeOf (typeIs_int s n t) (wpAny_bind (I.type.here (wpAny_bind (wpAny_of_eq fills ?_)))))
  have hne : (Value.type "int" == Value.ref C) = false := Bool.eq_false_iff.mpr fun q => by cases beq_iff_eq.mp q
  simp only [hne, Bool.false_eq_true, if_false]
  refine wpAny_bind ((fills_K X hcd hm hd).here ?_)
  simp only [Bool.and_self, if_true]
  refine wpAny_bind ((looks_subIn X sub).here ?_)
  have hpy : numberSlotInPython (.type "int") nm = pure false := rfl
  simp only [Bool.false_eq_true, if_false, pure_bind, Bool.not_false, Bool.and_self, if_true, hpy]
  simp only [tryMethod]
  refine wpAny_bind (wpAny_bind (wpAny_callSpecial?_slot (typeIs_int s n t) slot (call_meets slot (typeIs_int s n t) entry args g ⟨I.at_, ?_⟩)))
  refine wpAny_pure (wpAny_bind (wpAny_bind (special_fn X I hs (beq_iff_eq.mp hf) (wpAny_mono h (fun v s' hv => ?_) fun _ _ e => e))))
  cases v <;> first | exact hv.elim | exact wpAny_pure (wpAny_bind (wpAny_rule (wpAny_pure (wpAny_pure hv))))
end
end PySem.W
namespace FD
open PySem PySem.Spec PyProof.Rows L2 FS
section
variable {Y : Cx} {CX : CXT} {j : Nat} {g C : Addr} {gd : FuncData} {prm : List Str} {pm : Sp} {En : XK}
/-- own op int -/
def rOwnI (C : Addr) (pm : Sp) (En : XK) : R2 := fun x y H Q => ∃ a dx fs n, x = .ref a ∧ y = .int n ∧ H a = some (.ins C dx fs) ∧ pm [.ref a, .int n] H (fun v H' => (∃ c, v = .ref c) ∧ Q v H') En
structure OwnI (K : PySem.W.Frag) (C g : Addr) (op : Operator) : Prop where
  first : PySem.W.selfFirst K C = true
  at_ : PySem.W.findIn K (.ref C) (PySem.dunder op.info.2) = some (some (.ref g))
  fn : PySem.W.isFn K (.ref g) = true
  re : ∃ r, PySem.W.findIn K (.ref C) (PySem.dunderR op.info.2) = some (some (.ref r))
  i1 : ∃ fo, PySem.W.findIn K (.type "int") (PySem.dunder op.info.2) = some fo
  i2 : ∃ ro, PySem.W.findIn K (.type "int") (PySem.dunderR op.info.2) = some ro
  sb : PySem.W.subIn K (.type "int") (.ref C) = some false
theorem op_ownI {op : Operator} (O : OwnI Y.K C g op) (G : FnOk Y.prog Y.w Y.K Y.mg Y.base CX j g gd prm pm) (room : Room j Y.A) (bind : Binds Y.K gd prm []) (pass : Passes CX Y En) : OpR Y (binaryOp op) (rOwnI C pm En) := by
  intro pins s σ H x y u v Q J rx ry hyp
  obtain ⟨a, dx, fs, n, rfl, rfl, ha, hs⟩ := hyp
  obtain rfl : u = Value.ref a := rx
  obtain ⟨t, rfl⟩ := (show ∃ t, v = Value.int n t from ry)
  obtain ⟨m1, J1, _⟩ := ins_get J.hok ha
  obtain ⟨o1, J1, _⟩ := J1.look
  obtain ⟨m, fr⟩ := J.fr
  obtain ⟨r, hr⟩ := O.re
  obtain ⟨fo, h1⟩ := O.i1
  obtain ⟨ro, h2⟩ := O.i2
  refine PySem.W.ksp_binT (T := "int") fr J.ok.mod.kin J1 rfl O.first O.at_ O.fn hr (.inr ⟨r, rfl⟩) h1 h2 O.sb (wpAny_mono (run_fn (ds := []) (dvs := []) G room bind .nil pass J (us := [.ref a, .int n t]) (vs := [.ref a, .int n]) (.cons rfl (.cons ⟨t, rfl⟩ .nil)) hs) (fun r s' got => ?_) fun _ _ z => z)
  obtain ⟨v', H', J', rv, ⟨c, rfl⟩, q⟩ := got
  obtain rfl : r = Value.ref c := rv
  exact ⟨.ref c, H', J', rfl, q⟩
/-- int op own -/
def rIOwn (C : Addr) (pm : Sp) (En : XK) : R2 := fun x y H Q => ∃ a dx fs n, x = .int n ∧ y = .ref a ∧ H a = some (.ins C dx fs) ∧ pm [.ref a, .int n] H (fun v H' => (∃ c, v = .ref c) ∧ Q v H') En
structure IOwn (K : PySem.W.Frag) (C g : Addr) (op : Operator) : Prop where
  first : PySem.W.selfFirst K C = true
  le : ∃ l, PySem.W.findIn K (.ref C) (PySem.dunder op.info.2) = some (some (.ref l))
  at_ : PySem.W.findIn K (.ref C) (PySem.dunderR op.info.2) = some (some (.ref g))
  fn : PySem.W.isFn K (.ref g) = true
  sb : PySem.W.subIn K (.ref C) (.type "int") = some false
theorem op_iOwn {op : Operator} {id : String} {B : Builtin} (O : IOwn Y.K C g op) (fills : fillsNumberSlot (.type "int") op.info.2 = pure true) (slot : Slot "int" (PySem.dunder op.info.2) id) (entry : entryFor table id = some B) (args : ∀ n t x, argsOk id ⟨[.int n t, .ref x], []⟩)
    (gv : ∀ n t a o, o.data = .plain → Meets (B ⟨[.int n t, .ref a], []⟩) (fun _ R s => s.heap.get? a = some o ∧ R (.ok (.ret .notImplemented)) s))
    (G : FnOk Y.prog Y.w Y.K Y.mg Y.base CX j g gd prm pm) (room : Room j Y.A) (bind : Binds Y.K gd prm []) (pass : Passes CX Y En) : OpR Y (binaryOp op) (rIOwn C pm En) := by
  intro pins s σ H x y u v Q J rx ry hyp
  obtain ⟨a, dx, fs, n, rfl, rfl, ha, hs⟩ := hyp
  obtain rfl : v = Value.ref a := ry
  obtain ⟨t, rfl⟩ := (show ∃ t, u = Value.int n t from rx)
  obtain ⟨m1, J1, _⟩ := ins_get J.hok ha
  obtain ⟨o1, J1, _⟩ := J1.look
  obtain ⟨m, fr⟩ := J.fr
  obtain ⟨l, hl⟩ := O.le
  refine PySem.W.refl_K fr J.ok.mod.kin J1 O.first hl O.at_ O.fn O.sb fills slot entry (args n t a) (gv n t a _ rfl) (wpAny_mono (run_fn (ds := []) (dvs := []) G room bind .nil pass J (us := [.ref a, .int n t]) (vs := [.ref a, .int n]) (.cons rfl (.cons ⟨t, rfl⟩ .nil)) hs) (fun r s' got => ?_) fun _ _ z => z)
  obtain ⟨v', H', J', rv, ⟨c, rfl⟩, q⟩ := got
  obtain rfl : r = Value.ref c := rv
  exact ⟨.ref c, H', J', rfl, q⟩
end
section
variable {Y : Cx} {CX : CXT} {j : Nat} {g C : Addr} {gd : FuncData} {prm : List Str} {pm : Sp} {En : XK}
theorem op_iAdd (O : IOwn Y.K C g .Add) (G : FnOk Y.prog Y.w Y.K Y.mg Y.base CX j g gd prm pm) (room : Room j Y.A) (bind : Binds Y.K gd prm []) (pass : Passes CX Y En) : OpR Y (binaryOp .Add) (rIOwn C pm En) :=
  op_iOwn O F.fills_int_add F.slot_int_add F.entry_int_add (fun _ _ _ => F.args_int_add_2 _ _) add_int_ref G room bind pass
theorem op_iSub (O : IOwn Y.K C g .Sub) (G : FnOk Y.prog Y.w Y.K Y.mg Y.base CX j g gd prm pm) (room : Room j Y.A) (bind : Binds Y.K gd prm []) (pass : Passes CX Y En) : OpR Y (binaryOp .Sub) (rIOwn C pm En) :=
  op_iOwn O F.fills_int_sub F.slot_int_sub F.entry_int_sub (fun _ _ _ => F.args_int_sub_2 _ _) sub_int_ref G room bind pass
theorem op_iMul (O : IOwn Y.K C g .Mult) (G : FnOk Y.prog Y.w Y.K Y.mg Y.base CX j g gd prm pm) (room : Room j Y.A) (bind : Binds Y.K gd prm []) (pass : Passes CX Y En) : OpR Y (binaryOp .Mult) (rIOwn C pm En) :=
  op_iOwn O F.fills_int_mul F.slot_int_mul F.entry_int_mul (fun _ _ _ => F.args_int_mul_2 _ _) mul_int_ref G room bind pass
end
end FD
set_option maxRecDepth 100000
set_option maxHeartbeats 4000000
/-! A form's operators, the int first. -/
namespace KP
open PySem PySem.Spec PyProof.Rows L2 KT FS FD
open FM (asc addP accL coef nrm mulT ascL vT negT)
def wT (n : Int) : List FM.Tm := nrm [([], n)]
theorem wT_len (n : Int) : (wT n).length ≤ 1 := nrm_len _
section
variable {P : Program} {w : World} {K : PySem.W.Frag} {mg : Str → Option Value} {base : Heap}
def spFRadd (G : List Sg) (C : Addr) : Sp := fun vs H Q _ => ∃ x n N, vs = [.ref x, .int n] ∧ FmAt G C H x N ∧ N.length ≤ 45 ∧ ∀ z H', Same H H' → H z = none → FmAt G C H' z (nrm (N ++ wT n)) → Q (.ref z) H'
theorem ok_fradd {G : List Sg} {C f f2 : Addr} {fd d2 : FuncData} (F : Fun K "__radd__" "Form.__radd__" sFormRadd f fd) (O : OwnI K C f2 .Add) (ok : FnOk P w K mg base CX0 10 f2 d2 ["self", "other"] (spFAdd G C)) (b : Binds K d2 ["self", "other"] []) :
    FnOk P w K mg base CX0 11 f fd ["self", "other"] (spFRadd G C) := by
  refine F.ok scFormRadd (fun vs H Q E h => ?_) (fun cdv Ar outer s H vs Q E hr h => ?_)
  · obtain ⟨_, _, _, rfl, _⟩ := h
    rfl
  · obtain ⟨x, n, N, rfl, hx, l1, q⟩ := h
    refine ⟨_, pss_one (ps_ret (pe_op (op_ownI O ok hr b pass0) (pv 0) (pv 1))), ?_⟩
    obtain ⟨dx, _, ex, _⟩ := id hx
    exact ⟨_, rfl, _, rfl, x, dx, _, n, rfl, rfl, ex, x, .int n, N, wT n, rfl, hx, .inr ⟨n, rfl, rfl⟩, l1, by have := wT_len n; omega, fun z H' s1 nz hz => ⟨⟨_, rfl⟩, q z H' s1 nz hz⟩⟩
def spFRsub (G : List Sg) (C : Addr) : Sp := fun vs H Q _ => ∃ x n N, vs = [.ref x, .int n] ∧ FmAt G C H x N ∧ N.length ≤ 45 ∧ ∀ z H', Same H H' → H z = none → FmAt G C H' z (nrm (nrm (negT N) ++ wT n)) → Q (.ref z) H'
theorem ok_frsub {G : List Sg} {C f f2 fn : Addr} {fd d2 dn : FuncData} (F : Fun K "__rsub__" "Form.__rsub__" sFormRsub f fd) (Ng : OpD K mg P w base C "__neg__" 9 fn dn ["self"] (spFNeg G C)) (O : OwnI K C f2 .Add) (ok : FnOk P w K mg base CX0 10 f2 d2 ["self", "other"] (spFAdd G C)) (b : Binds K d2 ["self", "other"] []) :
    FnOk P w K mg base CX0 11 f fd ["self", "other"] (spFRsub G C) := by
  refine F.ok scFormRsub (fun vs H Q E h => ?_) (fun cdv Ar outer s H vs Q E hr h => ?_)
  · obtain ⟨_, _, _, rfl, _⟩ := h
    rfl
  · obtain ⟨x, n, N, rfl, hx, l1, q⟩ := h
    refine ⟨_, pss_one (ps_ret (pe_op (op_ownI O ok hr b pass0) (pe_un (un_negO Ng.at_ Ng.fn Ng.ok (hr.mono (by decide)) Ng.b pass0) (pv 0)) (pv 1))), ?_⟩
    obtain ⟨dx, _, ex, _⟩ := id hx
    refine ⟨_, rfl, x, dx, _, rfl, ex, x, N, rfl, hx, l1, fun y H1 s1 ny hy => ?_⟩
    obtain ⟨dy, _, ey, _⟩ := id hy
    have ln : (nrm (negT N)).length ≤ 45 := Nat.le_trans (nrm_len _) (by unfold FM.negT; rw [List.length_map]; exact l1)
    exact ⟨_, rfl, y, dy, _, n, rfl, rfl, ey, y, .int n, _, wT n, rfl, hy, .inr ⟨n, rfl, rfl⟩, ln, by have := wT_len n; omega, fun z H' s2 nz hz => ⟨⟨_, rfl⟩, q z H' (s1.trans s2) (s1.free nz) hz⟩⟩
def spFRmul (G : List Sg) (C : Addr) : Sp := fun vs H Q _ => ∃ x n N, vs = [.ref x, .int n] ∧ FmAt G C H x N ∧ N.length ≤ 45 ∧ (∀ t ∈ N, -(2 ^ 64) < t.2 ∧ t.2 < 2 ^ 64) ∧ ∀ z H', Same H H' → H z = none → FmAt G C H' z (nrm (ascL G.length (mulT N (wT n)))) → Q (.ref z) H'
theorem ok_frmul {G : List Sg} {C f f2 : Addr} {fd d2 : FuncData} (F : Fun K "__rmul__" "Form.__rmul__" sFormRmul f fd) (O : OwnI K C f2 .Mult) (ok : FnOk P w K mg base CX0 10 f2 d2 ["self", "other"] (spFMul G C)) (b : Binds K d2 ["self", "other"] []) :
    FnOk P w K mg base CX0 11 f fd ["self", "other"] (spFRmul G C) := by
  refine F.ok scFormRmul (fun vs H Q E h => ?_) (fun cdv Ar outer s H vs Q E hr h => ?_)
  · obtain ⟨_, _, _, rfl, _⟩ := h
    rfl
  · obtain ⟨x, n, N, rfl, hx, l1, cb, q⟩ := h
    refine ⟨_, pss_one (ps_ret (pe_op (op_ownI O ok hr b pass0) (pv 0) (pv 1))), ?_⟩
    obtain ⟨dx, _, ex, _⟩ := id hx
    have := wT_len n
    refine ⟨_, rfl, _, rfl, x, dx, _, n, rfl, rfl, ex, x, .int n, N, wT n, rfl, hx, .inr ⟨n, rfl, rfl⟩, ?_, cb, fun z H' s1 nz hz => ⟨⟨_, rfl⟩, q z H' s1 nz hz⟩⟩
    have : N.length * (wT n).length ≤ 45 * 1 := Nat.mul_le_mul l1 this
    omega
end
end KP
set_option maxRecDepth 100000
set_option maxHeartbeats 4000000
/-! The law's products of sums. -/
namespace KP
open PySem PySem.Spec PyProof.Rows L2 KT FS FD
open FM (asc addP accL coef nrm mulT ascL vT negT)
structure SuD (K : PySem.W.Frag) (mg : Str → Option Value) (P : Program) (w : World) (base : Heap) (f : Addr) (fd : FuncData) : Prop where
  ok : FnOk P w K mg base CX0 1 f fd ["_law_terms_here"] spSum
  m : mg "_law_sum" = some (.ref f)
  k : PySem.W.keepIn K (.ref f) = true
  b : Binds K fd ["_law_terms_here"] []
theorem lT_ascL (L : List (V × FM.Tm)) : lT L = ascL 5 (L.map fun z => z.2) := by unfold lT ascL; rw [List.map_map]; rfl
theorem LtL.nd {av n} {H H' : Hp} {W : List (V × FM.Tm)} {d : Addr} {o : HO} (h : LtL av n H W) (b : But d H H') (hd : H d = some o) (n1 : ∀ xs, o ≠ .tup xs) (n2 : ∀ xs, o ≠ .lst xs) : LtL av n H' W := fun z hz => by
  obtain ⟨⟨a, s, e, g1, g2, g3⟩, q⟩ := h z hz
  exact ⟨⟨a, s, e, b _ _ g1 (by rintro rfl; rw [hd] at g1; exact n1 _ (Option.some.inj g1)), b _ _ g2 (by rintro rfl; rw [hd] at g2; exact n2 _ (Option.some.inj g2)), g3⟩, q⟩
abbrev nTi : List Str := ["_law_left", "_law_right", "_law_terms_here", "_law_product", "_law_other"]
section
variable {P : Program} {w : World} {K : PySem.W.Frag} {mg : Str → Option Value} {base : Heap}
def spTimes : Sp := fun vs H Q _ => ∃ (d1 d2 : Addr) (n : Nat) (S1 S2 : List FM.Tm), vs = [.ref d1, .ref d2] ∧ d1 ≠ d2 ∧ H d1 = some (.dT (dkv S1)) ∧ H d2 = some (.dT (dkv S2)) ∧ (S1.map fun t => t.1).Nodup ∧ (S2.map fun t => t.1).Nodup ∧ (∀ t ∈ S1, t.1.length ≤ 4 ∧ ∀ k ∈ t.1, k < n) ∧ (∀ t ∈ S2, t.1.length ≤ 4 ∧ ∀ k ∈ t.1, k < n) ∧
  ((∀ t ∈ S1, -(2 ^ 64) < t.2 ∧ t.2 < 2 ^ 64) ∨ (∀ t ∈ S2, -(2 ^ 64) < t.2 ∧ t.2 < 2 ^ 64)) ∧ S1.length * S2.length ≤ 100 ∧ S1.length ≤ 100 ∧ S2.length ≤ 100 ∧ ∀ d' H', Same H H' → H d' = none → H' d' = some (.dT (dkv (accL (ascL 5 (mulT S1 S2))))) → Q (.ref d') H'
theorem ok_times {f fs : Addr} {fd ds : FuncData} (F : Fun K "_law_times" "_law_times" sLTimes f fd) (B : Blt mg) (S' : SuD K mg P w base fs ds) : FnOk P w K mg base CX0 2 f fd ["_law_left", "_law_right"] spTimes := by
  refine F.ok scLTimes (fun vs H Q E h => ?_) (fun cdv A outer s H vs Q E hr h => ?_)
  · obtain ⟨_, _, _, _, _, rfl, _⟩ := h
    rfl
  · obtain ⟨d1, d2, n, S1, S2, rfl, n12, hd1, hd2, nd1, nd2, bd1, bd2, cb, ln, l1, l2, q⟩ := h
    have hu := u1 hr.units
    refine ⟨_, pss_cons (ps_set (i := 2) scLTimes.nd rfl (.inl rfl) (pe_lst pa_nil))
      (pss_cons (ps_lock (ps_for PassesOwn.never rfl (pi_keys (pv 0)) (pg_name (i := 3) scLTimes.nd rfl (.inl rfl))
        (pss_one (ps_lock (ps_for PassesOwn.never rfl (pi_keys (pv 1)) (pg_name (i := 4) scLTimes.nd rfl (.inl rfl))
          (pss_one (ps_expr (pe_bm PySem.F.plainAttrs_list PySem.F.slot_list_append PySem.F.type_list_append mt_append (pv 2) (pa_cons (pe_tup (pa_cons (pe_op op_cat (pe_callTy call_list_of (by rfl) B.list (by decide +kernel) (pa_cons (pv 3) pa_nil)) (pe_callTy call_list_of (by rfl) B.list (by decide +kernel) (pa_cons (pv 4) pa_nil))) (pa_cons (pe_op op_mul (pe_dget hu (pv 0) (pv 3) (fun _ _ => rfl)) (pe_dget hu (pv 1) (pv 4) (fun _ _ => rfl))) pa_nil))) pa_nil)))))))))
      (pss_one (ps_ret (pe_call S'.ok hr (by rfl) S'.m S'.k S'.b .nil pass0 (pa_cons (pv 2) pa_nil))))), ?_⟩
    refine ⟨by show 0 ≤ sizeLine; decide, fun l nl => ?_⟩
    have ndl : l ≠ d1 := fun z => by rw [z, hd1] at nl; cases nl
    have ndl2 : l ≠ d2 := fun z => by rw [z, hd2] at nl; cases nl
    have s1 : Same H (upd H l (.lst [])) := same_upd nl
    have hl1 : upd H l (.lst []) l = some (.lst []) := upd_same
    generalize upd H l (.lst []) = H1 at s1 hl1
    have hd11 := s1 _ _ hd1
    refine ⟨d1, _, hd11, trivial, fun od => ?_⟩
    have kf : But d1 H1 (upd H1 d1 (.frz od (.dT (dkv S1)))) := But.upd
    have hf : upd H1 d1 (.frz od (.dT (dkv S1))) d1 = some (.frz od (.dT (dkv S1))) := upd_same
    generalize upd H1 d1 (.frz od (.dT (dkv S1))) = H2 at kf hf
    have hl2 := kf _ _ hl1 ndl
    have hd22 := kf _ _ (s1 _ _ hd2) (Ne.symm n12)
    have e1 : (dkv S1).length = S1.length := by unfold dkv; rw [List.length_map]
    have e2 : (dkv S2).length = S2.length := by unfold dkv; rw [List.length_map]
    refine ⟨_, rfl, d1, od, rfl, .inr ⟨dkv S1, hf, ?_⟩⟩
    refine for_it walk_keysT (fun i σ H3 => ∃ (v3 v4 : Option V) (W : List (V × FM.Tm)), σ = [some (.ref d1), some (.ref d2), some (.ref l), v3, v4] ∧ But l H2 H3 ∧ H3 l = some (.lst (W.map fun z => z.1)) ∧ LtL [l] n H3 W ∧ W.map (fun z => z.2) = mulT (S1.take i) S2)
      ⟨none, none, [], rfl, But.refl, hl2, (fun _ h => nomatch h), rfl⟩ (fun i σ H3 _ ⟨_, _, _, _, b3, _⟩ => b3 _ _ hf (Ne.symm ndl)) ?_ ?_
    · rintro i x σ H3 H4 hi ⟨v3, v4, W, rfl, b3, hl3, hW, eW⟩ ⟨rfl, kk, v, qa, hk, rfl, hq⟩
      obtain ⟨t, ht, rfl, rfl⟩ := dkv_of hk
      have hm := List.mem_of_getElem? ht
      rw [e1] at hi
      rw [kp_V] at hq
      obtain ⟨t4, tb⟩ := bd1 t hm
      have hd23 := b3 _ _ hd22 (Ne.symm ndl2)
      have hf3 := b3 _ _ hf (Ne.symm ndl)
      refine ⟨d2, _, hd23, trivial, fun od2 => ?_⟩
      have kf2 : But d2 H4 (upd H4 d2 (.frz od2 (.dT (dkv S2)))) := But.upd
      have hf2 : upd H4 d2 (.frz od2 (.dT (dkv S2))) d2 = some (.frz od2 (.dT (dkv S2))) := upd_same
      generalize upd H4 d2 (.frz od2 (.dT (dkv S2))) = H5 at kf2 hf2
      have hW5 : LtL [l] n H5 W := hW.nd kf2 hd23 (fun xs z => by cases z) fun xs z => by cases z
      have hl5 := kf2 _ _ hl3 ndl2
      have hq5 := kf2 _ _ hq (fun z => by rw [z, hd23] at hq; cases hq)
      have hf5 := kf2 _ _ hf3 n12
      have nql : qa ≠ l := fun z => by rw [z, hl5] at hq5; cases hq5
      refine ⟨_, rfl, d2, od2, rfl, .inr ⟨dkv S2, hf2, ?_⟩⟩
      refine for_it walk_keysT (fun j σ H6 => ∃ (v4 : Option V) (W : List (V × FM.Tm)), σ = [some (.ref d1), some (.ref d2), some (.ref l), some (.ref qa), v4] ∧ But l H5 H6 ∧ H6 l = some (.lst (W.map fun z => z.1)) ∧ LtL [l] n H6 W ∧ W.map (fun z => z.2) = mulT (S1.take i) S2 ++ (S2.take j).map fun u => (t.1 ++ u.1, t.2 * u.2))
        ⟨v4, W, rfl, But.refl, hl5, hW5, by rw [eW]; simp⟩ (fun j σ H6 _ ⟨_, _, _, b6, _⟩ => b6 _ _ hf2 (Ne.symm ndl2)) ?_ ?_
      · rintro j y σ H6 H7 hj ⟨v4, W, rfl, b6, hl6, hW6, eW6⟩ ⟨rfl, kk, v, qb, hk2, rfl, hqb⟩
        obtain ⟨u, hu2, rfl, rfl⟩ := dkv_of hk2
        have hm2 := List.mem_of_getElem? hu2
        rw [e2] at hj
        rw [kp_V] at hqb
        obtain ⟨u4, ub⟩ := bd2 u hm2
        have hq6 := b6 _ _ hq5 nql
        refine ⟨_, rfl, .inl ⟨rfl, _, SqL.of hl6⟩, _, rfl, qa, _, rfl, .inr (SqT.of hq6), fun a1 m1 => ?_⟩
        have s8 : Same H7 (upd H7 a1 (.lst (t.1.map iN))) := same_upd m1
        have h8 : upd H7 a1 (.lst (t.1.map iN)) a1 = some (.lst (t.1.map iN)) := upd_same
        generalize upd H7 a1 (.lst (t.1.map iN)) = H8 at s8 h8
        refine ⟨_, rfl, qb, _, rfl, .inr (SqT.of (s8 _ _ hqb)), fun a2 m2 => ?_⟩
        have s9 : Same H8 (upd H8 a2 (.lst (u.1.map iN))) := same_upd m2
        have h9 : upd H8 a2 (.lst (u.1.map iN)) a2 = some (.lst (u.1.map iN)) := upd_same
        generalize upd H8 a2 (.lst (u.1.map iN)) = H9 at s9 h9
        refine ⟨a1, a2, _, _, rfl, rfl, s9 _ _ h8, h9, Nat.le_of_lt (small1000 (by rw [List.length_map, List.length_map]; omega)), fun a3 m3 => ?_⟩
        have s10 : Same H9 (upd H9 a3 (.lst (t.1.map iN ++ u.1.map iN))) := same_upd m3
        have h10 : upd H9 a3 (.lst (t.1.map iN ++ u.1.map iN)) a3 = some (.lst ((t.1 ++ u.1).map iN)) := by rw [upd_same, List.map_append]
        generalize upd H9 a3 (.lst (t.1.map iN ++ u.1.map iN)) = H10 at s10 h10
        have s710 := (s8.trans s9).trans s10
        have g1 : DGet H10 d1 (.ref qa) (valV (dkv S1) (kp t.1)) := .inr ⟨_, _, qa, .inr ⟨od, s710 _ _ (b6 _ _ hf5 (Ne.symm ndl))⟩, rfl, by rw [kp_V]; exact s710 _ _ hq6, rfl⟩
        rw [dkv_val nd1 hm] at g1
        have g2 : DGet H10 d2 (.ref qb) (valV (dkv S2) (kp u.1)) := .inr ⟨_, _, qb, .inr ⟨od2, s710 _ _ (b6 _ _ hf2 (Ne.symm ndl2))⟩, rfl, by rw [kp_V]; exact s710 _ _ hqb, rfl⟩
        rw [dkv_val nd2 hm2] at g2
        refine ⟨_, rfl, _, rfl, d1, _, rfl, g1, ?_⟩
        refine ⟨_, rfl, _, rfl, d2, _, rfl, g2, ?_⟩
        have cb' : (-(2 ^ 64) < t.2 ∧ t.2 < 2 ^ 64) ∨ (-(2 ^ 64) < u.2 ∧ u.2 < 2 ^ 64) := cb.elim (fun h => .inl (h t hm)) fun h => .inr (h u hm2)
        refine ⟨_, _, rfl, rfl, cb', by show 2 ≤ sizeLine; decide, fun T nTt => ?_⟩
        have s11 : Same H10 (upd H10 T (.tup [.ref a3, .int (t.2 * u.2)])) := same_upd nTt
        have hTt : upd H10 T (.tup [.ref a3, .int (t.2 * u.2)]) T = some (.tup [.ref a3, .int (t.2 * u.2)]) := upd_same
        generalize upd H10 T (.tup [.ref a3, .int (t.2 * u.2)]) = H11 at s11 hTt
        have s711 := s710.trans s11
        have hl11 := s711 _ _ hl6
        have n3l : a3 ≠ l := fun z => by rw [z, s9 _ _ (s8 _ _ hl6)] at m3; cases m3
        have lW : W.length < 1000 := by
          have z1 := congrArg List.length eW6
          rw [List.length_map, List.length_append, mul_len, List.length_map, List.length_take, List.length_take] at z1
          have z2 : min i S1.length * S2.length ≤ S1.length * S2.length := Nat.mul_le_mul_right _ (Nat.min_le_right _ _)
          omega
        refine ⟨l, _, _, rfl, rfl, hl11, Nat.lt_of_lt_of_le (by rw [List.length_map]; exact lW) (by decide), _, W ++ [(.ref T, (t.1 ++ u.1, t.2 * u.2))], rfl, (b6.same s711).trans But.upd, by rw [upd_same, List.map_append]; rfl, ?_, ?_⟩
        · refine LtL.but (d := l) ?_ But.upd (by simp) hl11 fun xs z => by cases z
          refine (hW6.same s711).snoc (show IsLt [l] H11 (.ref T) (t.1 ++ u.1, t.2 * u.2) from ⟨T, a3, rfl, hTt, s11 _ _ h10, by simpa using n3l⟩) (fun k hk => ?_) (by show (t.1 ++ u.1).length ≤ 9; rw [List.length_append]; omega)
          rcases List.mem_append.mp hk with z | z
          · exact tb k z
          · exact ub k z
        · rw [List.map_append, eW6, List.append_assoc, take_map hu2]; rfl
      · rintro σ H6 ⟨v4, W, rfl, b6, hl6, hW6, eW6⟩
        rw [e2, List.take_length] at eW6
        have hf6 := b6 _ _ hf2 (Ne.symm ndl2)
        refine ⟨hf6, ?_⟩
        refine ⟨_, _, W, rfl, fun c o e nc => ?_, by rw [upd_ne ndl2]; exact hl6, hW6.nd But.upd hf6 (fun xs z => by cases z) (fun xs z => by cases z), by rw [eW6, mul_take ht]⟩
        by_cases z : c = d2
        · subst z
          rw [upd_same, ← e, hd22]
        · rw [upd_ne z]
          exact b6 _ _ (kf2 _ _ (b3 c o e nc) z) nc
    · rintro σ H3 ⟨v3, v4, W, rfl, b3, hl3, hW, eW⟩
      rw [e1, List.take_length] at eW
      have hf3 := b3 _ _ hf (Ne.symm ndl)
      refine ⟨hf3, ?_⟩
      have s4 : Same H (upd H3 d1 (.dT (dkv S1))) := fun c o e => by
        by_cases z : c = d1
        · subst z
          rw [upd_same, ← e, hd1]
        · rw [upd_ne z]
          exact b3 _ _ (kf _ _ (s1 _ _ e) z) (ne_of_none e nl)
      have hl4 : upd H3 d1 (.dT (dkv S1)) l = some (.lst (W.map fun z => z.1)) := by rw [upd_ne ndl]; exact hl3
      have hW4 : LtL [l] n (upd H3 d1 (.dT (dkv S1))) W := hW.nd But.upd hf3 (fun xs z => by cases z) fun xs z => by cases z
      have lW : W.length ≤ 100 := by
        have z1 := congrArg List.length eW
        rw [List.length_map, mul_len] at z1
        omega
      refine ⟨_, rfl, l, W, n, rfl, hl4, hW4.weak (by simp), lW, fun d' H5 s5 nd' hd' => ?_⟩
      rw [lT_ascL, eW] at hd'
      exact q d' H5 (s4.trans s5) (s4.free nd') hd'
end
end KP
set_option maxRecDepth 100000
set_option maxHeartbeats 4000000
/-! The law's scaled terms. -/
namespace KP
open PySem PySem.Spec PyProof.Rows L2 KT FS FD
open FM (asc addP accL coef nrm mulT ascL vT negT)
def scT (S : List FM.Tm) (c : Int) : List FM.Tm := S.map fun t => (t.1, t.2 * c)
def rListOf (K : PySem.W.Frag) : List V → Hp → VK → Prop := fun xs H Q => ∃ p ys, xs = [V.ref p] ∧ (SqL K H p ys ∨ SqT K H p ys) ∧ ∀ l, H l = none → Q (.ref l) (upd H l (.lst ys))
theorem cr_listOf {X : Cx} : CallR X (.type "list") (rListOf X.K) := call_list_of
abbrev nSc : List Str := ["_law_form_here", "_law_number_here", "_law_product"]
section
variable {P : Program} {w : World} {K : PySem.W.Frag} {mg : Str → Option Value} {base : Heap}
def spScaled : Sp := fun vs H Q _ => ∃ (d : Addr) (c : Int) (n : Nat) (S : List FM.Tm), vs = [.ref d, .int c] ∧ H d = some (.dT (dkv S)) ∧ (S.map fun t => t.1).Nodup ∧ (∀ t ∈ S, t.1.length ≤ 9 ∧ ∀ k ∈ t.1, k < n) ∧ ((∀ t ∈ S, -(2 ^ 64) < t.2 ∧ t.2 < 2 ^ 64) ∨ (-(2 ^ 64) < c ∧ c < 2 ^ 64)) ∧ S.length ≤ 100 ∧
  ∀ p (L : List (V × FM.Tm)) H', Same H H' → H p = none → H' p = some (.lst (L.map fun z => z.1)) → LtL [p] n H' L → L.map (fun z => z.2) = scT S c → Q (.ref p) H'
theorem ok_scaled {f : Addr} {fd : FuncData} (F : Fun K "_law_scaled" "_law_scaled" sLScaled f fd) (B : Blt mg) : FnOk P w K mg base CX0 1 f fd ["_law_form_here", "_law_number_here"] spScaled := by
  refine F.ok scLScaled (fun vs H Q E h => ?_) (fun cdv A outer s H vs Q E hr h => ?_)
  · obtain ⟨_, _, _, _, rfl, _⟩ := h
    rfl
  · obtain ⟨d, c, n, S, rfl, hd, nd, bd, cb, ln, q⟩ := h
    have hu := u1 hr.units
    refine ⟨_, pss_one (ps_ret (pe_lock (pe_lc (own := [("_law_product", 2)]) (g := gName 2) (tt := tYes) rfl scLScaled.nd (pi_keys (pv 0)) (blkOk_by (N := nSc) (sc := defScope sLScaled) (by decide +kernel)) (fun _ _ _ _ _ => pg_name (i := 2) scLScaled.nd rfl (.inl rfl)) (fun _ _ _ _ _ => pts_nil)
      (fun _ _ _ _ _ => pe_tup (pa_cons (pe_callTy (show CallR _ (.type "list") (rListOf K) from cr_listOf) (by rfl) B.list (by decide +kernel) (pa_cons (pv 2) pa_nil)) (pa_cons (pe_op op_mul (pe_dget hu (pv 0) (pv 2) (fun _ _ => rfl)) (pv 1)) pa_nil)))))), ?_⟩
    refine ⟨d, _, hd, trivial, fun od => ?_⟩
    have kf : But d H (upd H d (.frz od (.dT (dkv S)))) := But.upd
    have hf : upd H d (.frz od (.dT (dkv S))) d = some (.frz od (.dT (dkv S))) := upd_same
    generalize upd H d (.frz od (.dT (dkv S))) = H1 at kf hf
    have ls : (dkv S).length = S.length := by unfold dkv; rw [List.length_map]
    refine ⟨_, rfl, d, od, rfl, .inr ⟨dkv S, hf, fun D nD => ?_⟩⟩
    have ndD : d ≠ D := ne_of_none hf nD
    refine lc_it walk_keysT (fun i H2 => ∃ W : List (V × FM.Tm), Same H1 H2 ∧ H2 D = some (.lst (W.map fun z => z.1)) ∧ LtL [D] n H2 W ∧ W.map (fun z => z.2) = scT (S.take i) c)
      ⟨[], same_upd nD, upd_same, (fun _ h => nomatch h), rfl⟩ (fun i H2 _ ⟨_, s2, _⟩ => s2 _ _ hf) ?_ ?_
    · rintro i x H2 H3 hi ⟨W, s2, hD, hW, eW⟩ ⟨rfl, kk, v, qa, hk, rfl, hq⟩
      obtain ⟨t, ht, rfl, rfl⟩ := dkv_of hk
      have hm := List.mem_of_getElem? ht
      rw [ls] at hi
      rw [kp_V] at hq
      obtain ⟨t9, tb⟩ := bd t hm
      refine ⟨rfl, yes_i ⟨_, rfl, qa, _, rfl, .inr (SqT.of hq), fun a1 m1 => ?_⟩⟩
      have s4 : Same H3 (upd H3 a1 (.lst (t.1.map iN))) := same_upd m1
      have h4 : upd H3 a1 (.lst (t.1.map iN)) a1 = some (.lst (t.1.map iN)) := upd_same
      generalize upd H3 a1 (.lst (t.1.map iN)) = H4 at s4 h4
      have hg : DGet H4 d (.ref qa) (valV (dkv S) (kp t.1)) := .inr ⟨_, _, qa, .inr ⟨od, s4 _ _ (s2 _ _ hf)⟩, rfl, by rw [kp_V]; exact s4 _ _ hq, rfl⟩
      rw [dkv_val nd hm] at hg
      have cb' : (-(2 ^ 64) < t.2 ∧ t.2 < 2 ^ 64) ∨ (-(2 ^ 64) < c ∧ c < 2 ^ 64) := cb.elim (fun h => .inl (h t hm)) .inr
      refine ⟨_, rfl, _, rfl, d, _, rfl, hg, _, rfl, _, _, rfl, rfl, cb', by show 2 ≤ sizeLine; decide, fun T nTt => ?_⟩
      have s5 : Same H4 (upd H4 T (.tup [.ref a1, .int (t.2 * c)])) := same_upd nTt
      have hTt : upd H4 T (.tup [.ref a1, .int (t.2 * c)]) T = some (.tup [.ref a1, .int (t.2 * c)]) := upd_same
      generalize upd H4 T (.tup [.ref a1, .int (t.2 * c)]) = H5 at s5 hTt
      have s35 := s4.trans s5
      have hD5 := s35 _ _ hD
      have naD : a1 ≠ D := fun z => by rw [z, hD] at m1; cases m1
      have lW : W.length ≤ 100 := by
        have z1 := congrArg List.length eW
        unfold scT at z1
        rw [List.length_map, List.length_map, List.length_take] at z1
        omega
      refine ⟨_, hD5, small1000 (by rw [List.length_map]; omega), W ++ [(.ref T, (t.1, t.2 * c))], fun c o e => by rw [upd_ne (ne_of_none e nD)]; exact s35 _ _ (s2 _ _ e), by rw [upd_same, List.map_append]; rfl, ?_, ?_⟩
      · refine LtL.but (d := D) ?_ But.upd (by simp) hD5 fun xs z => by cases z
        exact (hW.same s35).snoc (show IsLt [D] H5 (.ref T) (t.1, t.2 * c) from ⟨T, a1, rfl, hTt, s5 _ _ h4, by simpa using naD⟩) tb t9
      · rw [List.map_append, eW]
        unfold scT
        exact (take_map (f := fun t : FM.Tm => (t.1, t.2 * c)) ht).symm
    · rintro H2 ⟨W, s2, hD, hW, eW⟩
      rw [ls, List.take_length] at eW
      have hf2 := s2 _ _ hf
      refine ⟨hf2, ?_⟩
      have s3 : Same H (upd H2 d (.dT (dkv S))) := fun c o e => by
        by_cases z : c = d
        · subst z
          rw [upd_same, ← e, hd]
        · rw [upd_ne z]
          exact s2 _ _ (kf _ _ e z)
      have nH : H D = none := by
        cases e : H D with
        | none => rfl
        | some o => rw [kf _ _ e (Ne.symm ndD)] at nD; cases nD
      exact q D W _ s3 nH (by rw [upd_ne (Ne.symm ndD)]; exact hD) (hW.nd But.upd hf2 (fun xs z => by cases z) fun xs z => by cases z) eW
end
end KP
set_option maxRecDepth 100000
set_option maxHeartbeats 4000000
/-! The law's forms. -/
namespace KP
open PySem PySem.Spec PyProof.Rows L2 KT FS FD
open FM (asc addP accL coef nrm mulT ascL vT negT)
theorem PoolAt.nd {G : List Sg} {H H' : Hp} {pl d : Addr} {o : HO} {M} (h : PoolAt G H pl M) (b : But d H H') (hd : H d = some o) (n : ∀ xs, o ≠ .tup xs) (n2 : ∀ xs, o ≠ .lst xs) : PoolAt G H' pl M :=
  ⟨b _ _ h.at_ (by have := h.at_; rintro rfl; rw [hd] at this; exact n2 _ (Option.some.inj this)), h.sn, h.sg.but b hd n⟩
theorem IsTp.nd {G H0 av} {H H' : Hp} {v t} {d : Addr} {o : HO} (h : IsTp G H0 av H v t) (b : But d H H') (hd : H d = some o) (n : ∀ xs, o ≠ .tup xs) (n2 : ∀ xs, o ≠ .lst xs) : IsTp G H0 av H' v t := by
  obtain ⟨b1, c, M, e, h1, h2, h3, r⟩ := h
  exact ⟨b1, c, M, e, b _ _ h1 (by rintro rfl; rw [hd] at h1; exact n _ (Option.some.inj h1)), b _ _ h2 (by rintro rfl; rw [hd] at h2; exact n2 _ (Option.some.inj h2)), h3.but b hd n, r⟩
theorem nT_acc {G : List Sg} {A : List FM.Tm} {Y : List (V × FM.Tm)} (h : FM.AscT G.length A) (e : Y.map (fun z => z.2) = accL A) : nrm (nT G Y) = nrm A := by
  have e2 : nT G Y = accL A := by
    rw [← e]
    refine List.map_congr_left fun y hy => ?_
    obtain ⟨u, hu, eu⟩ := List.mem_map.mp (FM.acc_mem A (List.mem_map.mpr ⟨y.2, by rw [← e]; exact List.mem_map.mpr ⟨y, hy, rfl⟩, rfl⟩))
    show (asc G.length y.2.1, y.2.2) = y.2
    rw [FM.asc_self (by rw [← eu]; exact (h u hu).2) (by rw [← eu]; exact (h u hu).1)]
  rw [e2]
  exact FM.nrm_congr fun p => FM.acc_coef A p
abbrev nLf : List Str := ["_law_form_here", "_law_pool", "_law_product", "_law_k"]
def scLf0 : Scope := { kind := ScopeKind.function, names := [(".0", .local), ("_law_product", .local), ("_law_form_here", .free), ("_law_pool", .free)], isGenerator := false, isCoroutine := false }
section
variable {P : Program} {w : World} {K : PySem.W.Frag} {mg : Str → Option Value} {base : Heap}
def spLForm (G : List Sg) (C : Addr) : Sp := fun vs H Q _ => ∃ (d pl : Addr) (M : List (V × Nat)) (A : List FM.Tm), vs = [.ref d, .ref pl] ∧ H d = some (.dT (dkv (accL A))) ∧ PoolAt G H pl M ∧ FM.AscT G.length A ∧ (accL A).length ≤ 90 ∧ ∀ x H', Same H H' → H x = none → FmAt G C H' x (nrm A) → Q (.ref x) H'
theorem ok_lform {G : List Sg} (PG : Pool G) {C f fi : Addr} {fd di : FuncData} (F : Fun K "_law_form" "_law_form" sLForm f fd) (FC : FmC K mg C) (Mk' : FmkD K mg P w base G C fi di) : FnOk P w K mg base CX0 9 f fd ["_law_form_here", "_law_pool"] (spLForm G C) := by
  refine F.ok scLForm (fun vs H Q E h => ?_) (fun cdv A' outer st H vs Q E hr h => ?_)
  · obtain ⟨_, _, _, _, rfl, _⟩ := h
    rfl
  · obtain ⟨d, pl, M, A, rfl, hd, hP, aA, lS, q⟩ := h
    have hu := u1 hr.units
    have bS : ∀ t ∈ accL A, t.1.length ≤ 5 ∧ ∀ k ∈ t.1, k < G.length := fun t ht => by
      obtain ⟨v, hv, e⟩ := List.mem_map.mp (FM.acc_mem A (List.mem_map.mpr ⟨t, ht, rfl⟩))
      rw [← e]; exact ⟨asc_few PG aA hv, (aA v hv).2⟩
    refine ⟨_, pss_one (ps_ret (pe_make Mk'.mkC Mk'.ok hr (by rfl) FC.mgC Mk'.b .nil pass0 (pa_cons (pe_lock (pe_lc (own := [("_law_product", 2)]) (g := gName 2) (tt := tYes) rfl scLForm.nd (pi_keys (pv 0)) (blkOk_by (N := nLf) (sc := defScope sLForm) (by decide +kernel)) (fun _ _ _ _ _ => pg_name (i := 2) scLForm.nd rfl (.inl rfl)) (fun _ _ _ _ _ => pts_nil)
        (fun _ _ _ _ _ => pe_tup (pa_cons (pe_lc (own := [("_law_k", 3)]) (g := gName 3) (tt := tYes) rfl scLForm.nd (show PI _ _ _ (iTup K (tVar 2)) from pi_tup (pv 2)) (blkOk_re (N := nLf) (sc := scLf0) (by decide +kernel)) (fun _ _ _ _ _ => pg_name (i := 3) scLForm.nd rfl (.inl rfl)) (fun _ _ _ _ _ => pts_nil) (fun _ _ _ _ _ => pe_ix (show IxR _ (rIxL K) from ix_list) (pv 1) (pv 3) (fun _ _ => rfl)))
          (pa_cons (pe_dget hu (pv 0) (pv 2) (fun _ _ => rfl)) pa_nil))))) pa_nil))), ?_⟩
    refine ⟨d, _, hd, trivial, fun od => ?_⟩
    have kf : ∀ c o, H c = some o → c ≠ d → upd H d (.frz od (.dT (dkv (accL A)))) c = some o := fun c o e n => by rw [upd_ne n]; exact e
    have hf : upd H d (.frz od (.dT (dkv (accL A)))) d = some (.frz od (.dT (dkv (accL A)))) := upd_same
    have hPf : PoolAt G (upd H d (.frz od (.dT (dkv (accL A))))) pl M := hP.nd kf hd (fun xs z => by cases z) fun xs z => by cases z
    generalize upd H d (.frz od (.dT (dkv (accL A)))) = H1 at kf hf hPf
    have ls : (dkv (accL A)).length = (accL A).length := by unfold dkv; rw [List.length_map]
    refine ⟨_, rfl, d, od, rfl, .inr ⟨dkv (accL A), hf, fun D nD => ?_⟩⟩
    have ndD : d ≠ D := ne_of_none hf nD
    refine lc_it walk_keysT (fun i H2 => ∃ Y : List (V × FM.Tm), Same H1 H2 ∧ H2 D = some (.lst (Y.map fun z => z.1)) ∧ (∀ y ∈ Y, IsTp G H1 [D] H2 y.1 y.2) ∧ Y.map (fun z => z.2) = (accL A).take i)
      ⟨[], same_upd nD, upd_same, (fun _ h => nomatch h), rfl⟩ (fun i H2 _ ⟨_, s2, _⟩ => s2 _ _ hf) ?_ ?_
    · rintro i x H2 H6 hi ⟨Y, s2, hD5, hY, eY⟩ ⟨rfl, kk, v, qa, hk, rfl, hq6⟩
      obtain ⟨t, ht, rfl, rfl⟩ := dkv_of hk
      have hm := List.mem_of_getElem? ht
      rw [ls] at hi
      rw [kp_V] at hq6
      have hP6 := hPf.same s2
      have bt' := bS _ hm
      refine ⟨rfl, yes_i ⟨_, rfl, qa, rfl, ⟨_, SqT.of hq6⟩, fun D3 n3 => lc_it (walk_tup (K := K) (a := qa) (xs := t.1.map iN)) (fun j H7 => ∃ U : List (V × Nat), Same H6 H7 ∧ H7 D3 = some (.lst (U.map fun z => z.1)) ∧ SgA G H7 U ∧ U.map (fun z => z.2) = t.1.take j)
            ⟨[], same_upd n3, upd_same, (fun _ h => nomatch h), rfl⟩ (fun j H7 _ ⟨_, s7, _⟩ => SqT.of (s7 _ _ hq6)) ?_ ?_⟩⟩
      · rintro j y H7 H8 hj ⟨U, s7, hD7, hU, eU⟩ ⟨rfl, hy⟩
        obtain ⟨k, hk, rfl⟩ : ∃ k, t.1[j]? = some k ∧ y = iN k := by
          rw [List.getElem?_map] at hy
          cases e : t.1[j]? with
          | none => rw [e] at hy; cases hy
          | some k => rw [e] at hy; exact ⟨k, rfl, (Option.some.inj hy).symm⟩
        have kb := bt'.2 k (List.mem_of_getElem? hk)
        obtain ⟨v, hv, hg⟩ := (hP6.same s7).get kb
        rw [List.length_map] at hj
        have lU : U.length ≤ 100 := by
          have z1 := congrArg List.length eU
          rw [List.length_map, List.length_take] at z1
          have := bt'.1
          omega
        refine ⟨rfl, yes_i ⟨_, rfl, _, rfl, pl, _, _, _, rfl, rfl, SqL.of (hP6.same s7).at_, hv, _, hD7, small1000 (by rw [List.length_map]; omega), U ++ [(v, k)], fun c o e => by rw [upd_ne (ne_of_none e n3)]; exact s7 _ _ e, by rw [upd_same, List.map_append]; rfl, ?_, ?_⟩⟩
        · refine SgA.but (d := D3) (fun z hz => ?_) But.upd hD7 fun xs z => by cases z
          rcases List.mem_append.mp hz with m | m
          · exact hU z m
          · rw [List.mem_singleton.mp m]; exact ⟨hg, kb⟩
        · rw [List.map_append, eU, List.take_add_one, hk]; rfl
      · rintro H7 ⟨U, s7, hD7, hU, eU⟩
        rw [List.length_map, List.take_length] at eU
        have nD3 : D3 ≠ D := fun z => by rw [z, hD5] at n3; cases n3
        have s8 : Same H7 H7 := Same.refl _
        have hT := hD7
        have s68 := s7.trans s8
        have hg : DGet H7 d (.ref qa) (valV (dkv (accL A)) (kp t.1)) := .inr ⟨_, _, qa, .inr ⟨od, s68 _ _ (s2 _ _ hf)⟩, rfl, by rw [kp_V]; exact s68 _ _ hq6, rfl⟩
        rw [dkv_val (FM.acc_nd A) hm] at hg
        refine ⟨_, rfl, _, rfl, d, _, rfl, hg, by show 2 ≤ sizeLine; decide, fun R2 nR => ?_⟩
        have s9 : Same H7 (upd H7 R2 (.tup [.ref D3, .int t.2])) := same_upd nR
        have hR : upd H7 R2 (.tup [.ref D3, .int t.2]) R2 = some (.tup [.ref D3, .int t.2]) := upd_same
        generalize upd H7 R2 (.tup [.ref D3, .int t.2]) = H9 at s9 hR
        have s69 := s68.trans s9
        have hD9 := s69 _ _ hD5
        have lY : Y.length ≤ 100 := by
          have z1 := congrArg List.length eY
          rw [List.length_map, List.length_take] at z1
          omega
        have lU : U.length ≤ 100 := by
          have z1 := congrArg List.length eU
          rw [List.length_map] at z1
          have := bt'.1
          omega
        refine ⟨_, hD9, small1000 (by rw [List.length_map]; omega), Y ++ [(.ref R2, t)], fun c o e => by rw [upd_ne (ne_of_none e nD)]; exact s69 _ _ (s2 _ _ e), by rw [upd_same, List.map_append]; rfl, fun y hy => ?_, by rw [List.map_append, eY, List.take_add_one, ht]; rfl⟩
        have all : IsTp G H1 [D] H9 y.1 y.2 := by
          rcases List.mem_append.mp hy with m | m
          · exact (hY y m).same s69
          · rw [List.mem_singleton.mp m]
            exact ⟨R2, D3, U, rfl, hR, s9 _ _ hT, (hU.same s8).same s9, eU, by omega, s2.free n3, by simpa using nD3⟩
        exact all.but But.upd (by simp) hD9 fun xs z => by cases z
    · rintro H2 ⟨Y, s2, hD2, hY, eY⟩
      rw [ls, List.take_length] at eY
      refine ⟨s2 _ _ hf, ?_⟩
      have s3 : Same H (upd H2 d (.dT (dkv (accL A)))) := fun c o e => by
        by_cases z : c = d
        · subst z
          rw [upd_same, ← e, hd]
        · rw [upd_ne z]
          exact s2 _ _ (kf _ _ e z)
      have hD3 : upd H2 d (.dT (dkv (accL A))) D = some (.lst (Y.map fun z => z.1)) := by rw [upd_ne (Ne.symm ndD)]; exact hD2
      have hY3 : ∀ y ∈ Y, IsTp G H1 [D] (upd H2 d (.dT (dkv (accL A)))) y.1 y.2 := fun y hy => (hY y hy).nd But.upd (s2 _ _ hf) (fun xs z => by cases z) fun xs z => by cases z
      generalize upd H2 d (.dT (dkv (accL A))) = H3 at s3 hD3 hY3
      have lY : Y.length ≤ 100 := by
        have z1 := congrArg List.length eY
        rw [List.length_map] at z1
        omega
      refine fm_made (L := Y) (.inl (SqL.of hD3)) (fun z hz => (hY3 z hz).ti) lY fun y H5 s5 ny hy => ?_
      rw [nT_acc aA eY] at hy
      exact q y H5 (s3.trans s5) (s3.free ny) hy
end
end KP
set_option maxRecDepth 100000
set_option maxHeartbeats 4000000
/-! {k: v, l: w}, k and l tuples. -/
namespace FD
open PySem PySem.Spec PyProof.Rows L2 FS
section
variable {X : Cx}
def tDict2 (tk tv tl tw : TE) : TE := fun σ H Q => ∀ p, H p = none → tk σ (upd H p (.dT [])) fun x H1 => tv σ H1 fun y H2 => tl σ H2 fun x' H3 => tw σ H3 fun y' H4 => ∃ (k l : List Key) (b c : Addr), x = .ref b ∧ x' = .ref c ∧ H4 p = some (.dT []) ∧ H4 b = some (.tup (k.map kV)) ∧ H4 c = some (.tup (l.map kV)) ∧ Q (.ref p) (upd H4 p (.dT (putK [(k, y)] l y')))
theorem pe_dict2 {kx vx lx wx : Expr} {tk tv tl tw : TE} {pos : Pos} (hu : X.A.units + 64 < cLine) (hk : PE X kx tk) (hv : PE X vx tv) (hl : PE X lx tl) (hw : PE X wx tw) : PE X (.Dict [some kx, some lx] [vx, wx] pos) (tDict2 tk tv tl tw) := by
  refine ⟨fun pins s σ H Q I q => ?_⟩
  have hn := I.hok.fresh (Nat.le_refl s.heap.objs.size)
  have I1 := I.laid (a := s.heap.objs.size) (o := .dT []) (h' := s.heap.push { cls := .type "dict", data := .dict #[] }) (t' := s.toks) (fun _ _ q => Heap.get?_push_of_some _ q) (Nat.le_refl _) (dt_empty s.heap I.big)
  have hp : PPs X pos [some kx, some lx] [vx, wx] [(tk, tv), (tl, tw)] := pps_cons hk hv (pps_cons hl hw pps_nil)
  have q1 : tPairs [(tk, tv), (tl, tw)] σ (upd H s.heap.objs.size (.dT [])) (fun ps H2 => match ps with
    | [(x, y), (x', y')] => ∃ (k l : List Key) (b c : Addr), x = .ref b ∧ x' = .ref c ∧ H2 s.heap.objs.size = some (.dT []) ∧ H2 b = some (.tup (k.map kV)) ∧ H2 c = some (.tup (l.map kV)) ∧ Q (.ref s.heap.objs.size) (upd H2 s.heap.objs.size (.dT (putK [(k, y)] l y')))
    | _ => False) := q _ hn
  refine wpAny_Dict_any rfl rfl (by simp) (by show 2 ≤ 15; decide) (thn (hp.run pins _ σ _ _ I1 q1) fun ws s2 ⟨ps, H2, I2, rel, q2⟩ => ?_)
  cases rel with
  | nil => exact q2.elim
  | @cons p0 w ps0 qs0 r1 r2 =>
    cases r2 with
    | nil => exact q2.elim
    | @cons p1 w1 ps1 qs1 r3 r4 =>
    cases r4 with
    | cons _ _ => exact q2.elim
    | nil =>
    obtain ⟨x, y⟩ := p0
    obtain ⟨x', y'⟩ := p1
    obtain ⟨k, l, b, c, ex, ex', e, eb, ec, q2⟩ := q2
    subst ex
    subst ex'
    obtain ⟨u, r⟩ := w
    obtain ⟨u', r'⟩ := w1
    obtain ⟨ru, rv⟩ := r1
    obtain ⟨ru', rv'⟩ := r3
    obtain rfl : u = Value.ref b := ru
    obtain rfl : u' = Value.ref c := ru'
    have rv : L2.RelV y r := rv
    have rv' : L2.RelV y' r' := rv'
    obtain ⟨z, hd, xs, rel, dd⟩ := dt_of I2.hok e
    have hx : xs.length ≤ sizeLine := by rw [← Paired.length rel]; exact z
    unfold storeAll
    simp only [List.forIn_cons, List.forIn_nil]
    refine wpAny_bind (wpAny_bind (wpAny_dictSet_heap (hsz := hx) (show (tupleKind (mixKind X.prog X.w)).room X.A from (by show X.A.units < cLine; omega)) (key_of I2.hok eb) dd fun h' dd' hs => wpAny_pure ?_))
    obtain ⟨q, es, ep, hq, h2, h3, h4, h4', h5⟩ := id dd'
    have new : ObjOk X.prog X.w (upd H2 s.heap.objs.size (.dT [(k, y)])) h' s.heap.objs.size (.dT [(k, y)]) := by
      refine ⟨by show 1 ≤ sizeLine; decide, hd, _, (rel.put k eb rv).keeps fun c ys ec => ?_, q, es, ep, hq, h2, h3, h4, h5⟩
      rw [upd_ne (ne_of ec e (fun z => nomatch z))]
      exact ec
    have I3 := d_write (t' := s2.toks + (tupleKind (mixKind X.prog X.w)).draws k) I2 (by rw [e]; exact True.intro) hs ⟨q, hq⟩ new
    have e3 : upd H2 s.heap.objs.size (.dT [(k, y)]) s.heap.objs.size = some (.dT [(k, y)]) := upd_same
    have ec3 : upd H2 s.heap.objs.size (.dT [(k, y)]) c = some (.tup (l.map kV)) := by rw [upd_ne (ne_of ec e (fun z => nomatch z))]; exact ec
    obtain ⟨z3, hd3, xs3, rel3, dd3⟩ := dt_of I3.hok e3
    have hx3 : xs3.length ≤ sizeLine := by rw [← Paired.length rel3]; exact z3
    have up : ∀ {o1 o2 : HO}, upd (upd H2 s.heap.objs.size o1) s.heap.objs.size o2 = upd H2 s.heap.objs.size o2 := fun {o1 o2} => by
      funext a
      by_cases h : a = s.heap.objs.size
      · subst h; rw [upd_same, upd_same]
      · rw [upd_ne h, upd_ne h, upd_ne h]
    refine wpAny_bind (wpAny_bind (wpAny_dictSet_heap (hsz := hx3) (show (tupleKind (mixKind X.prog X.w)).room X.A from (by show X.A.units < cLine; omega)) (key_of I3.hok ec3) dd3 fun h'' dd'' hs' => wpAny_pure (wpAny_pure ?_)))
    obtain ⟨q', es', ep', hq', g2, g3, g4, g4', g5⟩ := dd''
    have new' : ObjOk X.prog X.w (upd (upd H2 s.heap.objs.size (.dT [(k, y)])) s.heap.objs.size (.dT (putK [(k, y)] l y'))) h'' s.heap.objs.size (.dT (putK [(k, y)] l y')) := by
      refine ⟨by unfold putK; split <;> (show _ ≤ sizeLine; exact Nat.le_trans (show _ ≤ 2 by simp) (by decide)), hd3, _, (rel3.put l ec3 rv').keeps fun c ys ec => ?_, q', es', ep', hq', g2, g3, g4, g5⟩
      rw [upd_ne (ne_of ec e3 (fun z => nomatch z))]
      exact ec
    have I4 := d_write (t' := s2.toks + (tupleKind (mixKind X.prog X.w)).draws k + (tupleKind (mixKind X.prog X.w)).draws l) I3 (by rw [e3]; exact True.intro) hs' ⟨q', hq'⟩ new'
    rw [up] at I4
    exact ⟨.ref s.heap.objs.size, _, I4, rfl, q2⟩
end
end FD
set_option maxRecDepth 100000
set_option maxHeartbeats 4000000
/-! The law's first sums. -/
namespace FM
def CbL (B : Int) (T : List Tm) : Prop := ∀ t ∈ T, -B ≤ t.2 ∧ t.2 ≤ B
theorem coef_bd {B : Int} (hB : 0 ≤ B) (p : List Nat) : ∀ {T : List Tm}, CbL B T → -((T.length : Int) * B) ≤ coef T p ∧ coef T p ≤ (T.length : Int) * B
  | [], _ => by simp [coef]
  | t :: T, h => by
    have ih := coef_bd hB p (T := T) fun u hu => h u (List.mem_cons_of_mem _ hu)
    have h0 := h t List.mem_cons_self
    have e : (((t :: T).length : Nat) : Int) * B = (T.length : Int) * B + B := by rw [List.length_cons, Int.natCast_add, Int.add_mul]; simp
    rw [coef_cons, e]
    split <;> omega
theorem acc_bd {B : Int} (hB : 0 ≤ B) {T : List Tm} (h : CbL B T) : CbL ((T.length : Int) * B) (accL T) := fun t ht => by
  have e : coef (accL T) t.1 = t.2 := coef_mem (acc_nd T) ht
  rw [← e, acc_coef]
  exact coef_bd hB t.1 h
theorem CbL.le {B D : Int} {T : List Tm} (h : CbL B T) (k : B ≤ D) : CbL D T := fun t ht => by have := h t ht; omega
theorem mul_bd {B : Int} (hB : 0 ≤ B) {S U : List Tm} (h : CbL B S) (k : CbL 1 U) : CbL B (ascL 5 (mulT S U)) := fun t ht => by
  obtain ⟨v, hv, rfl⟩ := List.mem_map.mp ht
  obtain ⟨a, ha, h2⟩ := List.mem_flatMap.mp hv
  obtain ⟨b, hb, rfl⟩ := List.mem_map.mp h2
  have h1 := h a ha
  have h3 := k b hb
  show -B ≤ a.2 * b.2 ∧ a.2 * b.2 ≤ B
  have hc : b.2 = -1 ∨ b.2 = 0 ∨ b.2 = 1 := by omega
  rcases hc with e | e | e <;> rw [e] <;> omega
theorem mul_asc {n : Nat} {S U : List Tm} (h : ∀ t ∈ S, ∀ k ∈ t.1, k < n) (k : ∀ t ∈ U, ∀ k ∈ t.1, k < n) : AscT n (ascL 5 (mulT S U)) := fun t ht => by
  refine ⟨(ascL_asc 5 _ t ht).1, fun j hj => ?_⟩
  obtain ⟨v, hv, rfl⟩ := List.mem_map.mp ht
  obtain ⟨a, ha, h2⟩ := List.mem_flatMap.mp hv
  obtain ⟨b, hb, rfl⟩ := List.mem_map.mp h2
  rcases List.mem_append.mp (mem_asc.mp hj).2 with z | z
  · exact h a ha j z
  · exact k b hb j z
theorem asc_le {n : Nat} {A : List Tm} (h : AscT n A) : ∀ t ∈ A, t.1.length ≤ n := fun t ht => by
  have z := asc_self (h t ht).2 (h t ht).1
  have z2 : (asc n t.1).length ≤ n := Nat.le_trans (List.length_filter_le _ _) (by rw [List.length_range]; exact Nat.le_refl _)
  rwa [z] at z2
end FM
namespace KP
open PySem PySem.Spec PyProof.Rows L2 KT FS FD
open FM (asc addP accL coef nrm mulT ascL vT negT CbL)
structure TmsD (K : PySem.W.Frag) (mg : Str → Option Value) (P : Program) (w : World) (base : Heap) (f : Addr) (fd : FuncData) : Prop where
  ok : FnOk P w K mg base CX0 2 f fd ["_law_left", "_law_right"] spTimes
  m : mg "_law_times" = some (.ref f)
  k : PySem.W.keepIn K (.ref f) = true
  b : Binds K fd ["_law_left", "_law_right"] []
structure ScdD (K : PySem.W.Frag) (mg : Str → Option Value) (P : Program) (w : World) (base : Heap) (f : Addr) (fd : FuncData) : Prop where
  ok : FnOk P w K mg base CX0 1 f fd ["_law_form_here", "_law_number_here"] spScaled
  m : mg "_law_scaled" = some (.ref f)
  k : PySem.W.keepIn K (.ref f) = true
  b : Binds K fd ["_law_form_here", "_law_number_here"] []
theorem lT_bd {L : List (V × FM.Tm)} (h : ∀ x ∈ L, x.2.1.length ≤ 5 ∧ bdI x.2.2) : CbL 100000000000 (lT L) := fun t ht => by
  obtain ⟨y, hy, rfl⟩ := List.mem_map.mp ht
  have := (h y hy).2
  unfold bdI at this
  show -100000000000 ≤ y.2.2 ∧ y.2.2 ≤ 100000000000
  omega
theorem lT_asc {av : List Addr} {n m : Nat} {H : Hp} {L : List (V × FM.Tm)} (h : LtL av n H L) (hn : n ≤ m) : FM.AscT m (lT L) := fun t ht => by
  obtain ⟨y, hy, rfl⟩ := List.mem_map.mp ht
  exact ⟨FM.asc_lt _ _, fun k hk => Nat.lt_of_lt_of_le ((h y hy).2.1 k (FM.mem_asc.mp hk).2) hn⟩
theorem lT_len (L : List (V × FM.Tm)) : (lT L).length = L.length := by unfold lT; rw [List.length_map]
/-- a pot made after H, changed since -/
theorem since {a : Addr} {H H1 H2 : Hp} (s : Same H H1) (n : H a = none) (b : But a H1 H2) : Same H H2 := fun c o e => b c o (s c o e) (ne_of_none e n)
/-- a sum of the law's -/
structure SumAt (n : Nat) (H : Hp) (d : Addr) (A : List FM.Tm) (m : Nat) (B : Int) : Prop where
  at_ : H d = some (.dT (dkv (accL A)))
  aA : FM.AscT n A
  ln : (accL A).length ≤ m
  bd : CbL B (accL A)
theorem SumAt.same {n} {H H' : Hp} {d A m B} (h : SumAt n H d A m B) (s : Same H H') : SumAt n H' d A m B := ⟨s _ _ h.at_, h.aA, h.ln, h.bd⟩
theorem SumAt.pot {n} {H H' : Hp} {d A m B} {a : Addr} (h : SumAt n H d A m B) (p : PotAt H a) (b : But a H H') : SumAt n H' d A m B := ⟨b _ _ h.at_ (by obtain ⟨_, e⟩ := p.at; rintro rfl; rw [h.at_] at e; cases e), h.aA, h.ln, h.bd⟩
theorem SumAt.bl {n} {H : Hp} {d A m B} (h : SumAt n H d A m B) (hn : n ≤ 4) : ∀ t ∈ accL A, t.1.length ≤ 4 ∧ ∀ k ∈ t.1, k < n := fun t ht => by
  obtain ⟨v, hv, e⟩ := List.mem_map.mp (FM.acc_mem A (List.mem_map.mpr ⟨t, ht, rfl⟩))
  rw [← e]; exact ⟨Nat.le_trans (FM.asc_le h.aA v hv) hn, (h.aA v hv).2⟩
theorem t_nil {σ : L2.St} {H : Hp} {Q : List V → Hp → Prop} (h : Q [] H) : tNil σ H Q := h
theorem but_none {a d : Addr} {H H2 : Hp} (b : But a H H2) (p : PotAt H2 a) (n : H2 d = none) : H d = none := by
  cases e : H d with
  | none => rfl
  | some o =>
    by_cases c : d = a
    · obtain ⟨xs, e2⟩ := p.at
      rw [c, e2] at n; cases n
    · rw [b _ _ e c] at n; cases n
theorem times_of {n : Nat} {A S2 : List FM.Tm} {d d2 : Addr} {H : Hp} {i : Nat} {Qv : VK} {E : XK} (hi : i < 3) (hn : n ≤ 4) (S : SumAt n H d A (2 ^ i) (8 ^ i)) (h2 : H d2 = some (.dT (dkv S2))) (ne : d ≠ d2) (nd : (S2.map fun t => t.1).Nodup) (bd : ∀ t ∈ S2, t.1.length ≤ 4 ∧ ∀ k ∈ t.1, k < n) (cb : CbL 1 S2) (l2 : S2.length ≤ 2)
    (q : ∀ d' H', Same H H' → H d' = none → SumAt n H' d' (ascL 5 (mulT (accL A) S2)) (2 ^ (i + 1)) (8 ^ (i + 1)) → Qv (.ref d') H') : spTimes [.ref d, .ref d2] H Qv E := by
  have p1 : 2 ^ i ≤ 2 ^ 2 := Nat.pow_le_pow_right (by decide) (by omega)
  have ln := S.ln
  have lm : (mulT (accL A) S2).length ≤ 2 ^ i * 2 := by rw [mul_len]; exact Nat.mul_le_mul ln l2
  have la : (ascL 5 (mulT (accL A) S2)).length = (mulT (accL A) S2).length := List.length_map _
  refine ⟨d, d2, n, accL A, S2, rfl, ne, S.at_, h2, FM.acc_nd A, nd, S.bl hn, bd, .inr fun t ht => ?_, by rw [← mul_len]; omega, by omega, by omega, fun d' H' s nd' hd' => q d' H' s nd' ⟨hd', FM.mul_asc (fun t ht => (S.bl hn t ht).2) fun t ht => (bd t ht).2, ?_, ?_⟩⟩
  · have := cb t ht
    exact ⟨by omega, by omega⟩
  · refine Nat.le_trans (FM.acc_len _) ?_
    rw [la, Nat.pow_succ]
    exact lm
  · have h8 : (0 : Int) ≤ 8 ^ i := Int.pow_nonneg (by decide)
    refine (FM.acc_bd h8 (FM.mul_bd h8 S.bd cb)).le ?_
    rw [la, Int.pow_succ, Int.mul_comm (8 ^ i) 8]
    exact Int.mul_le_mul_of_nonneg_right (by omega) h8
abbrev nFi : List Str := ["_law_pot_here", "_law_signs_here", "_law_form_here", "_law_k", "_law_place"]
section
variable {P : Program} {w : World} {K : PySem.W.Frag} {mg : Str → Option Value} {base : Heap}
def spFirst : Sp := fun vs H Q _ => ∃ (a : Addr) (n : Nat), vs = [.ref a, .int (n : Int)] ∧ PotAt H a ∧ 1 ≤ n ∧ n ≤ 4 ∧ ∀ (A : List FM.Tm) d H', SumAt n H' d A 9 1000000000000 → H d = none → PotAt H' a → But a H H' → Q (.ref d) H'
theorem ok_first {f fr fT fs ft fc : Addr} {fd dr dT ds dt dc : FuncData} (F : Fun K "_law_first" "_law_first" sLFirst f fd) (B : Blt mg) (D : DrwD K mg P w base fr dr) (Tr : TrmD K mg P w base fT dT) (Su : SuD K mg P w base fs ds) (Ti : TmsD K mg P w base ft dt) (Sc : ScdD K mg P w base fc dc) :
    FnOk P w K mg base CX0 4 f fd ["_law_pot_here", "_law_signs_here"] spFirst := by
  refine F.ok scLFirst (fun vs H Q E h => ?_) (fun cdv A' outer st H vs Q E hr h => ?_)
  · obtain ⟨_, _, rfl, _⟩ := h
    rfl
  · obtain ⟨a, n, rfl, hp, n1, n4, q⟩ := h
    have hr1 := hr.mono (show 1 ≤ 3 by decide)
    have hr2 := hr.mono (show 2 ≤ 3 by decide)
    refine ⟨_, pss_cons (ps_if (pt_cmpR op_ne (pe_call D.ok hr1 (by rfl) D.m D.k D.b .nil pass0 (pa_cons (pv 0) (pa_cons pe_int pa_nil))) pe_int (nomark _))
        (pss_one (ps_ret (pe_call Su.ok hr1 (by rfl) Su.m Su.k Su.b .nil pass0 (pa_cons (pe_call Tr.ok hr (by rfl) Tr.m Tr.k Tr.b .nil pass0 (pa_cons (pv 0) (pa_cons pe_int (pa_cons (pv 1) pa_nil)))) pa_nil)))) pss_nil)
      (pss_cons (ps_set (i := 2) scLFirst.nd rfl (.inl rfl) (pe_dict1 hr.units (pe_tup pa_nil) pe_int))
      (pss_cons (ps_for PassesOwn.never rfl (pi_range1 (by rfl) B.range (pa_cons (pe_call D.ok hr1 (by rfl) D.m D.k D.b .nil pass0 (pa_cons (pv 0) (pa_cons pe_int pa_nil))) pa_nil)) (pg_name (i := 3) scLFirst.nd rfl (.inl rfl))
        (pss_cons (ps_set (i := 4) scLFirst.nd rfl (.inl rfl) (pe_call D.ok hr1 (by rfl) D.m D.k D.b .nil pass0 (pa_cons (pv 0) (pa_cons (pv 1) pa_nil))))
        (pss_one (ps_if (pt_cmpR op_eq (pe_call D.ok hr1 (by rfl) D.m D.k D.b .nil pass0 (pa_cons (pv 0) (pa_cons pe_int pa_nil))) pe_int (nomark _))
          (pss_one (ps_set (i := 2) scLFirst.nd rfl (.inl rfl) (pe_call Ti.ok hr2 (by rfl) Ti.m Ti.k Ti.b .nil pass0 (pa_cons (pv 2) (pa_cons (pe_dict2 hr.units (pe_tup pa_nil) pe_int (pe_tup (pa_cons (pv 4) pa_nil)) (pe_un un_neg pe_int)) pa_nil)))))
          (pss_one (ps_set (i := 2) scLFirst.nd rfl (.inl rfl) (pe_call Ti.ok hr2 (by rfl) Ti.m Ti.k Ti.b .nil pass0 (pa_cons (pv 2) (pa_cons (pe_dict1 hr.units (pe_tup (pa_cons (pv 4) pa_nil)) pe_int) pa_nil)))))))))
      (pss_cons (ps_if (pt_cmpR op_eq (pe_call D.ok hr1 (by rfl) D.m D.k D.b .nil pass0 (pa_cons (pv 0) (pa_cons pe_int pa_nil))) pe_int (nomark _))
        (pss_one (ps_set (i := 2) scLFirst.nd rfl (.inl rfl) (pe_call Su.ok hr1 (by rfl) Su.m Su.k Su.b .nil pass0 (pa_cons (pe_op op_cat (pe_lst (pa_cons (pe_tup (pa_cons (pe_lst pa_nil) (pa_cons pe_int pa_nil))) pa_nil)) (pe_call Sc.ok hr1 (by rfl) Sc.m Sc.k Sc.b .nil pass0 (pa_cons (pv 2) (pa_cons (pe_un un_neg pe_int) pa_nil)))) pa_nil)))) pss_nil)
      (pss_one (ps_ret (pv 2)))))), ?_⟩
    refine ⟨_, rfl, a, 3, rfl, hp, by decide, fun v H1 _ _ hp1 b1 => ⟨rfl, _, rfl, ite2 (fun _ => ?_) fun _ => ?_⟩⟩
    · refine ⟨_, rfl, _, rfl, a, n, 5, rfl, by decide, hp1, n1, by omega, fun L p H2 np hp2 b2 hL2 hLt lL cL => ?_⟩
      refine ⟨p, L, n, rfl, hL2, hLt.weak (by simp), by omega, fun d H3 s3 nd hd => ?_⟩
      have b02 := b1.trans b2
      refine q (lT L) d H3 ⟨hd, lT_asc hLt (Nat.le_refl _), ?_, ?_⟩ (but_none b02 hp2 nd) (hp2.same s3) (b02.same s3)
      · have := FM.acc_len (lT L)
        rw [lT_len] at this
        omega
      · refine (FM.acc_bd (by decide) (lT_bd cL)).le ?_
        rw [lT_len]
        omega
    · intro d nd
      refine ⟨by show 0 ≤ sizeLine; decide, fun t5 n5 => ?_⟩
      have s7 : Same H1 (upd H1 d (.dT [])) := same_upd nd
      have hd7 : upd H1 d (.dT []) d = some (.dT []) := upd_same
      generalize upd H1 d (.dT []) = H7 at s7 hd7 n5
      have s8 : Same H7 (upd H7 t5 (.tup [])) := same_upd n5
      have h8 : upd H7 t5 (.tup []) t5 = some (.tup []) := upd_same
      generalize upd H7 t5 (.tup []) = H8 at s8 h8
      refine ⟨[], t5, rfl, s8 _ _ hd7, h8, ?_⟩
      have s2 : Same H1 (upd H8 d (.dT [([], .int 1)])) := fun c o e => by rw [upd_ne (ne_of_none e nd)]; exact s8 _ _ (s7 _ _ e)
      have hd2 : upd H8 d (.dT [([], .int 1)]) d = some (.dT (dkv (accL [([], 1)]))) := upd_same
      generalize upd H8 d (.dT [([], .int 1)]) = H2 at s2 hd2
      have S0 : SumAt n H2 d [([], 1)] (2 ^ 0) (8 ^ 0) := ⟨hd2, fun t ht => by rw [List.mem_singleton.mp ht]; exact ⟨.nil, fun _ h => nomatch h⟩, by show 1 ≤ 1; decide, fun t ht => by
        have : t ∈ [(([] : List Nat), (1 : Int))] := ht
        rw [List.mem_singleton.mp this]; exact ⟨by decide, by decide⟩⟩
      have hp2 := hp1.same s2
      have b2 := b1.same s2
      have nd0 := but_none b1 hp1 nd
      refine ⟨_, rfl, a, 4, rfl, hp2, by decide, fun v H3 v0 v4 hp3 b3 => ⟨v, rfl, by omega, by omega, ?_⟩⟩
      refine for_range (lo := 0) (n := v.toNat) (fun i σ H4 => ∃ (A : List FM.Tm) (d : Addr) (v3 v4 : Option V), σ = [some (.ref a), some (.int (n : Int)), some (.ref d), v3, v4] ∧ PotAt H4 a ∧ But a H H4 ∧ H d = none ∧ SumAt n H4 d A (2 ^ i) (8 ^ i))
        ⟨_, d, none, none, rfl, hp3, b2.trans b3, nd0, S0.pot hp2 b3⟩ ?_ ?_
      · rintro i σ H4 hi ⟨A, d, v3, v4, rfl, hp4, b4, nd4, S4⟩
        refine ⟨_, rfl, _, rfl, a, (n : Int), rfl, hp4, by omega, fun pl H5 p0 p1 hp5 b5 => ?_⟩
        obtain ⟨p, rfl⟩ : ∃ p : Nat, pl = (p : Int) := ⟨pl.toNat, by omega⟩
        refine ⟨_, rfl, a, 2, rfl, hp5, by decide, fun _ H6 _ _ hp6 b6 => ⟨rfl, _, rfl, ite2 (fun _ => ?_) fun _ => ?_⟩⟩
        · have S6 := (S4.pot hp4 b5).pot hp5 b6
          have b46 := (b4.trans b5).trans b6
          refine ⟨_, rfl, fun d2 nd2 => ?_⟩
          have ndd : d ≠ d2 := fun z => by rw [← z, S6.at_] at nd2; cases nd2
          have s7 : Same H6 (upd H6 d2 (.dT [])) := same_upd nd2
          have hd7 : upd H6 d2 (.dT []) d2 = some (.dT []) := upd_same
          refine ⟨by show 0 ≤ sizeLine; decide, fun t1 m1 => ?_⟩
          generalize upd H6 d2 (.dT []) = H7 at s7 hd7 m1
          have s8 : Same H7 (upd H7 t1 (.tup [])) := same_upd m1
          have h8 : upd H7 t1 (.tup []) t1 = some (.tup []) := upd_same
          generalize upd H7 t1 (.tup []) = H8 at s8 h8
          refine ⟨_, rfl, by show 1 ≤ sizeLine; decide, fun t2 m2 => ?_⟩
          have s9 : Same H8 (upd H8 t2 (.tup [.int (p : Int)])) := same_upd m2
          have h9 : upd H8 t2 (.tup [.int (p : Int)]) t2 = some (.tup ((kp [p]).map kV)) := by rw [upd_same, kp_V]; rfl
          generalize upd H8 t2 (.tup [.int (p : Int)]) = H9 at s9 h9
          refine ⟨1, rfl, [], kp [p], t1, t2, rfl, rfl, s9 _ _ (s8 _ _ hd7), s9 _ _ h8, h9, ?_⟩
          have e2 : putK [(([] : List Key), V.int 1)] (kp [p]) (V.int (-1)) = dkv [([], 1), ([p], -1)] := by
            simp [putK, dkv, kp]
          rw [e2]
          have s10 : Same H6 (upd H9 d2 (.dT (dkv [([], 1), ([p], -1)]))) := fun c o e => by rw [upd_ne (ne_of_none e nd2)]; exact s9 _ _ (s8 _ _ (s7 _ _ e))
          have hd10 : upd H9 d2 (.dT (dkv [([], 1), ([p], -1)])) d2 = some (.dT (dkv [([], 1), ([p], -1)])) := upd_same
          generalize upd H9 d2 (.dT (dkv [([], 1), ([p], -1)])) = H10 at s10 hd10
          refine t_nil ?_
          refine times_of (S2 := [([], 1), ([p], -1)]) (show i < 3 by omega) n4 (S6.same s10) hd10 ndd (by simp) (fun t ht => ?_) (fun t ht => ?_) (by show 2 ≤ 2; decide) fun d' H' s' nd' S' => ?_
          · simp only [List.mem_cons, List.not_mem_nil, or_false] at ht
            rcases ht with rfl | rfl
            · exact ⟨by show 0 ≤ 4; decide, fun _ h => nomatch h⟩
            · exact ⟨by show 1 ≤ 4; decide, fun k hk => by rw [List.mem_singleton.mp hk]; omega⟩
          · simp only [List.mem_cons, List.not_mem_nil, or_false] at ht
            rcases ht with rfl | rfl
            · exact ⟨by show (-1 : Int) ≤ 1; decide, by show (1 : Int) ≤ 1; decide⟩
            · exact ⟨by show (-1 : Int) ≤ -1; decide, by show (-1 : Int) ≤ 1; decide⟩
          · have s11 := s10.trans s'
            exact ⟨_, d', _, _, rfl, hp6.same s11, b46.same s11, but_none b46 hp6 (s10.free nd'), S'⟩
        · have S6 := (S4.pot hp4 b5).pot hp5 b6
          have b46 := (b4.trans b5).trans b6
          refine ⟨_, rfl, fun d2 nd2 => ?_⟩
          have ndd : d ≠ d2 := fun z => by rw [← z, S6.at_] at nd2; cases nd2
          have s7 : Same H6 (upd H6 d2 (.dT [])) := same_upd nd2
          have hd7 : upd H6 d2 (.dT []) d2 = some (.dT []) := upd_same
          generalize upd H6 d2 (.dT []) = H7 at s7 hd7
          refine ⟨_, rfl, by show 1 ≤ sizeLine; decide, fun t2 m2 => ?_⟩
          have s9 : Same H7 (upd H7 t2 (.tup [.int (p : Int)])) := same_upd m2
          have h9 : upd H7 t2 (.tup [.int (p : Int)]) t2 = some (.tup ((kp [p]).map kV)) := by rw [upd_same, kp_V]; rfl
          generalize upd H7 t2 (.tup [.int (p : Int)]) = H9 at s9 h9
          refine ⟨kp [p], t2, rfl, s9 _ _ hd7, h9, ?_⟩
          have s10 : Same H6 (upd H9 d2 (.dT [(kp [p], .int 1)])) := fun c o e => by rw [upd_ne (ne_of_none e nd2)]; exact s9 _ _ (s7 _ _ e)
          have hd10 : upd H9 d2 (.dT [(kp [p], .int 1)]) d2 = some (.dT (dkv [([p], 1)])) := upd_same
          generalize upd H9 d2 (.dT [(kp [p], .int 1)]) = H10 at s10 hd10
          refine t_nil ?_
          refine times_of (S2 := [([p], 1)]) (show i < 3 by omega) n4 (S6.same s10) hd10 ndd (by simp) (fun t ht => ?_) (fun t ht => ?_) (by show 1 ≤ 2; decide) fun d' H' s' nd' S' => ?_
          · rw [List.mem_singleton.mp ht]
            exact ⟨by show 1 ≤ 4; decide, fun k hk => by rw [List.mem_singleton.mp hk]; omega⟩
          · rw [List.mem_singleton.mp ht]; exact ⟨by show (-1 : Int) ≤ 1; decide, by show (1 : Int) ≤ 1; decide⟩
          · have s11 := s10.trans s'
            exact ⟨_, d', _, _, rfl, hp6.same s11, b46.same s11, but_none b46 hp6 (s10.free nd'), S'⟩
      · rintro σ H4 ⟨A, d, v3, v4, rfl, hp4, b4, nd4, S4⟩
        have p2 : 2 ^ v.toNat ≤ 2 ^ 3 := Nat.pow_le_pow_right (by decide) (by omega)
        have p8 : ((8 : Nat) ^ v.toNat) ≤ 8 ^ 3 := Nat.pow_le_pow_right (by decide) (by omega)
        have p8' : ((8 : Int) ^ v.toNat) ≤ 512 := by exact_mod_cast p8
        have ln4 := S4.ln
        have bd4 := S4.bd.le p8'
        refine ⟨_, rfl, a, 2, rfl, hp4, by decide, fun _ H5 _ _ hp5 b5 => ⟨rfl, _, rfl, ite2 (fun _ => ?_) fun _ => ?_⟩⟩
        · have S5 := S4.pot hp4 b5
          have b05 := b4.trans b5
          refine ⟨by show 0 ≤ sizeLine; decide, fun a1 m1 => ?_⟩
          have s1 : Same H5 (upd H5 a1 (.lst [])) := same_upd m1
          have h1 : upd H5 a1 (.lst []) a1 = some (.lst []) := upd_same
          generalize upd H5 a1 (.lst []) = H6 at s1 h1
          refine ⟨by show 2 ≤ sizeLine; decide, fun a2 m2 => ?_⟩
          have s2 : Same H6 (upd H6 a2 (.tup [.ref a1, .int 1])) := same_upd m2
          have h2 : upd H6 a2 (.tup [.ref a1, .int 1]) a2 = some (.tup [.ref a1, .int 1]) := upd_same
          generalize upd H6 a2 (.tup [.ref a1, .int 1]) = H7 at s2 h2
          refine ⟨by show 1 ≤ sizeLine; decide, fun a3 m3 => ?_⟩
          have s3 : Same H7 (upd H7 a3 (.lst [.ref a2])) := same_upd m3
          have h3 : upd H7 a3 (.lst [.ref a2]) a3 = some (.lst [.ref a2]) := upd_same
          generalize upd H7 a3 (.lst [.ref a2]) = H8 at s3 h3
          have s58 := (s1.trans s2).trans s3
          have S8 := S5.same s58
          refine ⟨_, rfl, 1, rfl, d, -1, n, accL A, rfl, S8.at_, FM.acc_nd A, fun t ht => ⟨Nat.le_trans (S8.bl n4 t ht).1 (by decide), (S8.bl n4 t ht).2⟩, .inr ⟨by decide, by decide⟩, by omega, fun p L H9 s9 np hp9 hL eL => ?_⟩
          have lL : L.length ≤ 8 := by
            have z := congrArg List.length eL
            unfold scT at z
            rw [List.length_map, List.length_map] at z
            omega
          refine ⟨a3, p, _, _, rfl, rfl, s9 _ _ h3, hp9, Nat.le_of_lt (small1000 (by rw [List.length_map]; show 1 + L.length ≤ 1000; omega)), fun a4 m4 => ?_⟩
          have s10 : Same H9 (upd H9 a4 (.lst ([V.ref a2] ++ L.map fun z => z.1))) := same_upd m4
          have h10 : upd H9 a4 (.lst ([V.ref a2] ++ L.map fun z => z.1)) a4 = some (.lst ((((V.ref a2, (([] : List Nat), (1 : Int))) :: L) : List (V × FM.Tm)).map fun z => z.1)) := upd_same
          generalize upd H9 a4 (.lst ([V.ref a2] ++ L.map fun z => z.1)) = H10 at s10 h10
          have s810 := s9.trans s10
          have hL10 : LtL [] n H10 ((V.ref a2, (([] : List Nat), (1 : Int))) :: L) := fun z hz => by
            rcases List.mem_cons.mp hz with e | m
            · rw [e]
              exact ⟨⟨a2, a1, rfl, s810 _ _ (s3 _ _ h2), s810 _ _ (s3 _ _ (s2 _ _ h1)), by simp⟩, (fun _ h => nomatch h), by show 0 ≤ 9; decide⟩
            · exact ((hL.weak (by simp)).same s10) z m
          refine ⟨a4, _, n, rfl, h10, hL10, by show L.length + 1 ≤ 100; omega, fun d' H11 s11 nd' hd' => ?_⟩
          have s511 := (s58.trans s810).trans s11
          have lT1 : (lT ((V.ref a2, (([] : List Nat), (1 : Int))) :: L)).length ≤ 9 := by rw [lT_len, List.length_cons]; omega
          refine ⟨_, rfl, q (lT ((V.ref a2, (([] : List Nat), (1 : Int))) :: L)) d' H11 ⟨hd', lT_asc hL10 (Nat.le_refl _), Nat.le_trans (FM.acc_len _) lT1, ?_⟩ (but_none b05 hp5 (s58.free (s810.free nd'))) (hp5.same s511) (b05.same s511)⟩
          have cb : CbL 512 (lT ((V.ref a2, (([] : List Nat), (1 : Int))) :: L)) := fun t ht => by
            obtain ⟨y, hy, rfl⟩ := List.mem_map.mp ht
            show -512 ≤ y.2.2 ∧ y.2.2 ≤ 512
            rcases List.mem_cons.mp hy with e | m
            · rw [e]; exact ⟨show (-512 : Int) ≤ 1 by decide, show (1 : Int) ≤ 512 by decide⟩
            · have : y.2 ∈ scT (accL A) (-1) := by rw [← eL]; exact List.mem_map.mpr ⟨y, m, rfl⟩
              obtain ⟨u, hu, e⟩ := List.mem_map.mp this
              have := bd4 u hu
              rw [← e]
              show -512 ≤ u.2 * -1 ∧ u.2 * -1 ≤ 512
              omega
          refine (FM.acc_bd (by decide) cb).le ?_
          omega
        · have S5 := S4.pot hp4 b5
          exact ⟨_, rfl, q A d H5 ⟨S5.at_, S5.aA, by omega, bd4.le (by decide)⟩ nd4 hp5 (b4.trans b5)⟩
end
end KP
set_option maxRecDepth 100000
set_option maxHeartbeats 4000000
/-! The law's results. -/
namespace KP
open PySem PySem.Spec PyProof.Rows L2 KT FS FD
open FM (asc addP accL coef nrm mulT ascL vT negT CbL)
structure NoD (K : PySem.W.Frag) (mg : Str → Option Value) (P : Program) (w : World) (base : Heap) (G : List Sg) (f : Addr) (fd : FuncData) : Prop where
  ok : FnOk P w K mg base CX0 4 f fd ["_law_form_here", "_law_pool"] (spNormal G)
  m : mg "_law_normal" = some (.ref f)
  k : PySem.W.keepIn K (.ref f) = true
  b : Binds K fd ["_law_form_here", "_law_pool"] []
structure SmD (K : PySem.W.Frag) (mg : Str → Option Value) (P : Program) (w : World) (base : Heap) (G : List Sg) (f : Addr) (fd : FuncData) : Prop where
  ok : FnOk P w K mg base CX0 2 f fd ["_law_actual", "_law_due"] (spSame G)
  m : mg "_law_same_terms" = some (.ref f)
  k : PySem.W.keepIn K (.ref f) = true
  b : Binds K fd ["_law_actual", "_law_due"] []
/-- a pair of a form made and of its sum -/
def IsRs (G : List Sg) (C : Addr) (H : Hp) (v : V) (A : List FM.Tm) : Prop := ∃ t x d, v = .ref t ∧ H t = some (.tup [.ref x, .ref d]) ∧ FmAt G C H x (nrm A) ∧ H d = some (.dT (dkv (accL A))) ∧ FM.AscT G.length A ∧ A.length ≤ 100
theorem IsRs.same {G C} {H H' : Hp} {v A} (h : IsRs G C H v A) (s : Same H H') : IsRs G C H' v A := let ⟨t, x, d, e, h1, h2, h3, r⟩ := h; ⟨t, x, d, e, s _ _ h1, h2.same s, s _ _ h3, r⟩
abbrev nRr : List Str := ["_law_results", "_law_pool", "_law_made", "_law_due"]
section
variable {P : Program} {w : World} {K : PySem.W.Frag} {mg : Str → Option Value} {base : Heap}
def spRR (G : List Sg) (C : Addr) : Sp := fun vs H Q _ => ∃ (rl pl : Addr) (M : List (V × Nat)) (L : List (V × List FM.Tm)), vs = [.ref rl, .ref pl] ∧ H rl = some (.lst (L.map fun z => z.1)) ∧ PoolAt G H pl M ∧ (∀ y ∈ L, IsRs G C H y.1 y.2) ∧ ∀ H', Same H H' → Q (.bl true) H'
theorem ok_rr {G : List Sg} (PG : Pool G) {C f fn fs : Addr} {fd dn ds : FuncData} (F : Fun K "_law_results_right" "_law_results_right" sLResultsRight f fd) (B : Blt mg) (FC : FmC K mg C) (I : FmI K C) (N : NoD K mg P w base G fn dn) (S : SmD K mg P w base G fs ds) : FnOk P w K mg base CX0 5 f fd ["_law_results", "_law_pool"] (spRR G C) := by
  refine F.ok scLResultsRight (fun vs H Q E h => ?_) (fun cdv A' outer st H vs Q E hr h => ?_)
  · obtain ⟨_, _, _, _, rfl, _⟩ := h
    rfl
  · obtain ⟨rl, pl, M, L, rfl, hl, hP, hL, q⟩ := h
    refine ⟨_, pss_cons (ps_for PassesOwn.never rfl (pi_list (pv 0)) (pg_tup rfl (pgs_cons (pg_name (i := 2) scLResultsRight.nd rfl (.inl rfl)) (pgs_cons (pg_name (i := 3) scLResultsRight.nd rfl (.inl rfl)) pgs_nil)))
        (pss_one (ps_if (PW.pt (pw_or (pt_not (pt_val (pe_callB call_isi (by rfl) B.isinstance (by decide +kernel) (pa_cons (pv 2) (pa_cons (pe_glob (v := .ref C) (by rfl) FC.mgC rfl) pa_nil)))))
          (pw_or1 (pt_not (pt_val (pe_call S.ok (hr.mono (by decide)) (by rfl) S.m S.k S.b .nil pass0 (pa_cons (pe_fld (pv 2) rfl) (pa_cons (pe_call N.ok hr (by rfl) N.m N.k N.b .nil pass0 (pa_cons (pv 3) (pa_cons (pv 1) pa_nil))) pa_nil)))))))) (pss_one (ps_ret pe_bl)) pss_nil)))
      (pss_one (ps_ret pe_bl)), ?_⟩
    refine ⟨_, rfl, rl, rfl, ⟨_, SqL.of hl⟩, for_list (K := K) (a := rl) (xs := L.map fun z => z.1) (fun i σ H2 => ∃ v2 v3 : Option V, σ = [some (.ref rl), some (.ref pl), v2, v3] ∧ Same H H2)
      ⟨none, none, rfl, Same.refl _⟩ (fun i σ H2 _ ⟨_, _, _, s2⟩ => SqL.of (s2 _ _ hl)) ?_ ?_⟩
    · rintro i v σ H2 hv ⟨v2, v3, rfl, s2⟩
      obtain ⟨A, hA⟩ := at_map hv
      obtain ⟨t, x, d, e, h1, h2, h3, aA, lA⟩ := (hL _ (List.mem_of_getElem? hA)).same s2
      have e : v = .ref t := e
      subst e
      have h2 : FmAt G C H2 x (nrm A) := h2
      have h3 : H2 d = some (.dT (dkv (accL A))) := h3
      obtain ⟨dx, tx, ex, kx, _⟩ := id h2
      refine ⟨t, _, rfl, SqT.of h1, rfl, _, _, rfl, _, _, rfl, rfl, ?_⟩
      refine ⟨_, rfl, _, _, _, _, _, rfl, .own _, .base (.ins ex FC.cl I.ha I.hn I.htk I.hm), I.me, _, rfl, iteF ?_⟩
      refine ⟨_, rfl, x, C, dx, _, _, rfl, ex, FC.cl, FC.n1, fmf_1 _, ?_⟩
      refine ⟨_, rfl, _, rfl, d, pl, M, A, rfl, h3, hP.same s2, fun t ht => ⟨Nat.le_trans (asc_few PG aA ht) (by decide), (aA t ht).2⟩, lA, fun w1 H3 s3 hw => ?_⟩
      have ln : (nrm A).length ≤ 100 := Nat.le_trans (nrm_len A) lA
      refine ⟨tx, w1, nrm A, rfl, kx.same s3, hw, ln, fun H4 s4 => ⟨_, rfl, iteF ?_⟩⟩
      exact ⟨_, _, rfl, (s2.trans s3).trans s4⟩
    · rintro σ H2 ⟨v2, v3, rfl, s2⟩
      exact q H2 s2
end
end KP
set_option maxRecDepth 100000
set_option maxHeartbeats 4000000
/-! Sights. -/
namespace KP
open PySem PySem.Spec PyProof.Rows L2 KT FS FD
open FM (asc addP accL coef nrm vT)
/-! a dict of keys, all True -/
section
variable {α : Type} [DecidableEq α] {key : α → NestedKey}
def kdE (key : α → NestedKey) (ds : List (Addr × α)) : List NE := ds.map fun d => (key d.2, d.1, V.bl true)
structure KD (key : α → NestedKey) (H : Hp) (ds : List (Addr × α)) (gs : List α) : Prop where
  ki : ∀ d ∈ ds, KI H (.ref d.1) (key d.2) ∧ (key d.2).depth ≤ 8
  mem : ∀ g, g ∈ ds.map (fun d => d.2) ↔ g ∈ gs
theorem KD.keys {H : Hp} {ds : List (Addr × α)} {gs : List α} (h : KD key H ds gs) : NKeys H (kdE key ds) := fun e he => by
  obtain ⟨d, hd, rfl⟩ := List.mem_map.mp he
  exact h.ki d hd
theorem KD.same {H H' : Hp} {ds : List (Addr × α)} {gs : List α} (h : KD key H ds gs) (s : Same H H') : KD key H' ds gs := ⟨fun d hd => ⟨(h.ki d hd).1.same s, (h.ki d hd).2⟩, h.mem⟩
theorem KD.but {H H' : Hp} {ds : List (Addr × α)} {gs : List α} {D : Addr} {o : HO} (h : KD key H ds gs) (b : But D H H') (hd : H D = some o) (n : ∀ xs, o ≠ .tup xs) : KD key H' ds gs := ⟨fun d hd2 => ⟨ki_but (h.ki d hd2).1 b hd n, (h.ki d hd2).2⟩, h.mem⟩
theorem nval_kd (inj : ∀ a b, key a = key b → a = b) {g : α} : ∀ {ds : List (Addr × α)}, (nval (kdE key ds) (key g)).isSome = decide (g ∈ ds.map fun d => d.2)
  | [] => by simp [nval, kdE]
  | d :: ds => by
    have ih := nval_kd inj (g := g) (ds := ds)
    by_cases e : d.2 = g
    · have : decide (key d.2 = key g) = true := by rw [e]; simp
      simp [nval, kdE, List.find?_cons, this, e]
    · have : decide (key d.2 = key g) = false := decide_eq_false fun z => e (inj _ _ z)
      unfold nval kdE at ih ⊢
      rw [List.map_cons, List.find?_cons, this]
      simp only
      rw [ih]
      exact decide_eq_decide.mpr (by rw [List.map_cons, List.mem_cons]; exact ⟨.inr, fun z => z.resolve_left fun y => e y.symm⟩)
theorem nval_kdm (inj : ∀ a b, key a = key b → a = b) {g : α} {H : Hp} {ds : List (Addr × α)} {gs : List α} (h : KD key H ds gs) {b : Bool} (hb : b = true ↔ g ∈ gs) : (nval (kdE key ds) (key g)).isSome = b := by
  rw [nval_kd inj, Bool.eq_iff_iff, decide_eq_true_iff, hb]
  exact h.mem g
theorem kdE_put (inj : ∀ a b, key a = key b → a = b) {H : Hp} {ds : List (Addr × α)} {gs : List α} {g : α} {b : Addr} (h : KD key H ds gs) (hb : KI H (.ref b) (key g)) (hd : (key g).depth ≤ 8) :
    ∃ ds', nput (kdE key ds) (key g) b (.bl true) = kdE key ds' ∧ KD key H ds' (gs ++ [g]) ∧ ds'.length ≤ ds.length + 1 := by
  unfold nput
  rw [nval_kd inj]
  by_cases c : g ∈ ds.map fun d => d.2
  · refine ⟨ds, ?_, ⟨h.ki, fun j => ?_⟩, Nat.le_succ _⟩
    · rw [decide_eq_true c, if_pos rfl]
      unfold kdE
      rw [List.map_map]
      refine List.map_congr_left fun d _ => ?_
      show (if key d.2 = key g then (key d.2, d.1, V.bl true) else (key d.2, d.1, V.bl true)) = _
      split <;> rfl
    · rw [h.mem j, List.mem_append, List.mem_singleton]
      exact ⟨.inl, fun z => z.elim id fun y => by rw [y]; exact (h.mem g).mp c⟩
  · refine ⟨ds ++ [(b, g)], ?_, ⟨fun d hd' => ?_, fun j => ?_⟩, by rw [List.length_append]; exact Nat.le_refl _⟩
    · rw [decide_eq_false c, if_neg Bool.false_ne_true]
      unfold kdE
      rw [List.map_append]
      rfl
    · rcases List.mem_append.mp hd' with z | z
      · exact h.ki d z
      · rw [List.mem_singleton.mp z]; exact ⟨hb, hd⟩
    · rw [List.map_append, List.mem_append, List.mem_append, h.mem j]
      simp
end
abbrev Pt := Str × Str
def ptK (p : Pt) : NestedKey := .tup [.text p.1, .text p.2]
theorem ptK_inj (a b : Pt) (h : ptK a = ptK b) : a = b := by
  obtain ⟨a1, a2⟩ := a
  obtain ⟨b1, b2⟩ := b
  simp only [ptK, NestedKey.tup.injEq, List.cons.injEq, NestedKey.text.injEq, and_true] at h
  rw [h.1, h.2]
theorem ptK_depth (p : Pt) : (ptK p).depth ≤ 8 := by
  have : (ptK p).depth = (ptK ("", "")).depth := by simp [ptK, NestedKey.depth, NestedKey.depthAll]
  rw [this]; decide +kernel
theorem sgK_d8 (g : Sg) : (sgK g).depth ≤ 8 := by have := sgK_depth g; omega
def IsPt (H : Hp) (v : V) (p : Pt) : Prop := ∃ t, v = .ref t ∧ H t = some (.tup [.str p.1, .str p.2])
theorem IsPt.same {H H' : Hp} {v p} (h : IsPt H v p) (s : Same H H') : IsPt H' v p := let ⟨t, e, h⟩ := h; ⟨t, e, s _ _ h⟩
theorem IsPt.ki {H : Hp} {v p} (h : IsPt H v p) : KI H v (ptK p) := by
  obtain ⟨t, rfl, h⟩ := h
  exact .tup h (.cons (.str _) (.cons (.str _) .nil))
structure SiC (K : PySem.W.Frag) (mg : Str → Option Value) (C : Addr) : Prop where
  cl : Cls K C
  n1 : NoAttr K C "_defaults"
  n2 : NoAttr K C "_exceptions"
  mgC : mg "Sight" = some (.ref C)
/-- a sight -/
def SiAt (P : Program) (w : World) (C : Addr) (H : Hp) (x : Addr) (ps : List Pt) (gs : List Sg) : Prop := ∃ (dx D1 D2 : Addr) (ds : List (Addr × Pt)) (es : List (Addr × Sg)), H x = some (.ins C dx [("_defaults", .ref D1), ("_exceptions", .ref D2)]) ∧
  H D1 = some (ndO P w D1 (kdE ptK ds)) ∧ KD ptK H ds ps ∧ ds.length ≤ 1000 ∧ (D1 == sysModules) = false ∧ H D2 = some (ndO P w D2 (kdE sgK es)) ∧ KD sgK H es gs ∧ es.length ≤ 1000 ∧ (D2 == sysModules) = false
theorem SiAt.same {P w C} {H H' : Hp} {x ps gs} (h : SiAt P w C H x ps gs) (s : Same H H') : SiAt P w C H' x ps gs :=
  let ⟨dx, D1, D2, ds, es, h1, h2, h3, h4, h5, h6, h7, h8, h9⟩ := h
  ⟨dx, D1, D2, ds, es, s _ _ h1, s _ _ h2, h3.same s, h4, h5, s _ _ h6, h7.same s, h8, h9⟩
theorem kd_isnd {α : Type} [DecidableEq α] {key : α → NestedKey} {P : Program} {w : World} {H : Hp} {D : Addr} {ds : List (Addr × α)} {gs : List α} (h : H D = some (ndO P w D (kdE key ds))) (k : KD key H ds gs) (l : ds.length ≤ 1000) (sD : (D == sysModules) = false) : IsND P w H D (kdE key ds) :=
  ⟨.inl h, by unfold kdE; rw [List.length_map]; exact Nat.le_trans l (by decide), sD, k.keys⟩
section
variable {P : Program} {w : World} {K : PySem.W.Frag} {mg : Str → Option Value} {base : Heap}
/-! _by_default, holds -/
def spByD (P : Program) (w : World) (C : Addr) : Sp := fun vs H Q _ => ∃ x v ps gs g, vs = [.ref x, v] ∧ SiAt P w C H x ps gs ∧ IsSg H v g ∧ ∀ H', Same H H' → Q (.bl (decide ((g.1, g.2.1) ∈ ps))) H'
theorem ok_byD {C f : Addr} {fd : FuncData} (F : Fun K "_by_default" "Sight._by_default" sSightByDefault f fd) (S : SiC K mg C) : FnOk P w K mg base CX0 1 f fd ["self", "sign"] (spByD P w C) := by
  refine F.ok scSightByDefault (fun vs H Q E h => ?_) (fun cdv A outer s H vs Q E hr h => ?_)
  · obtain ⟨_, _, _, _, _, rfl, _⟩ := h
    rfl
  · obtain ⟨x, v, ps, gs, g, rfl, hx, hg, q⟩ := h
    refine ⟨_, pss_one (ps_ret (pe_cmpR (op_nin hr.units) (pe_tup (pa_cons (pe_ix ix_tup (pv 1) pe_int (fun _ _ => rfl)) (pa_cons (pe_ix ix_tup (pv 1) pe_int (fun _ _ => rfl)) pa_nil))) (pe_fld (pv 0) rfl) rfl)), ?_⟩
    obtain ⟨b, c, rfl, h1, h2⟩ := hg
    refine ⟨_, rfl, b, _, _, _, rfl, rfl, SqT.of h1, atI_nat (j := 0) rfl, ?_⟩
    refine ⟨_, rfl, b, _, _, _, rfl, rfl, SqT.of h1, atI_nat (j := 1) rfl, ?_⟩
    refine ⟨by show 2 ≤ sizeLine; decide, fun t nt => ?_⟩
    have s1 : Same H (upd H t (.tup [.str g.1, .str g.2.1])) := same_upd nt
    have ht : upd H t (.tup [.str g.1, .str g.2.1]) t = some (.tup [.str g.1, .str g.2.1]) := upd_same
    generalize upd H t (.tup [.str g.1, .str g.2.1]) = H1 at s1 ht
    have kt : KI H1 (.ref t) (ptK (g.1, g.2.1)) := IsPt.ki ⟨t, rfl, ht⟩
    obtain ⟨dx, D1, D2, ds, es, e1, e2, k2, l2, m2, e3, k3, l3, m3⟩ := hx.same s1
    refine ⟨_, rfl, x, C, dx, _, _, rfl, e1, S.cl, S.n1, rfl, ?_⟩
    refine ⟨t, D1, _, _, rfl, rfl, kd_isnd e2 k2 l2 m2, kt, ptK_depth _, ?_⟩
    rw [nval_kdm ptK_inj k2 (b := decide ((g.1, g.2.1) ∈ ps)) decide_eq_true_iff]
    exact q H1 s1
structure ByD (K : PySem.W.Frag) (mg : Str → Option Value) (P : Program) (w : World) (base : Heap) (C f : Addr) (fd : FuncData) : Prop where
  ok : FnOk P w K mg base CX0 1 f fd ["self", "sign"] (spByD P w C)
  m : Meth K C "_by_default" f
  b : Binds K fd ["self", "sign"] []
def spHolds (P : Program) (w : World) (C : Addr) : Sp := fun vs H Q _ => ∃ x v ps gs g, vs = [.ref x, v] ∧ SiAt P w C H x ps gs ∧ IsSg H v g ∧ ∀ H', Same H H' → Q (.bl (decide ((g.1, g.2.1) ∈ ps) != decide (g ∈ gs))) H'
theorem ok_holds {C f fb : Addr} {fd db : FuncData} (F : Fun K "holds" "Sight.holds" sSightHolds f fd) (S : SiC K mg C) (B : ByD K mg P w base C fb db) : FnOk P w K mg base CX0 2 f fd ["self", "sign"] (spHolds P w C) := by
  refine F.ok scSightHolds (fun vs H Q E h => ?_) (fun cdv A outer s H vs Q E hr h => ?_)
  · obtain ⟨_, _, _, _, _, rfl, _⟩ := h
    rfl
  · obtain ⟨x, v, ps, gs, g, rfl, hx, hg, q⟩ := h
    refine ⟨_, pss_one (ps_ret (pe_cmpR op_ne (pe_meth (pv 0) S.cl B.m B.ok hr B.b .nil pass0 (pa_cons (pv 1) pa_nil)) (pe_cmpR (op_nin hr.units) (pv 1) (pe_fld (pv 0) rfl) rfl) (nomark _))), ?_⟩
    obtain ⟨dx, D1, D2, ds, es, e1, _⟩ := id hx
    refine ⟨_, rfl, x, dx, _, rfl, e1, rfl, _, rfl, x, v, ps, gs, g, rfl, hx, hg, fun H1 s1 => ?_⟩
    obtain ⟨dx, D1, D2, ds, es, e1, e2, k2, l2, m2, e3, k3, l3, m3⟩ := hx.same s1
    have hg1 := hg.same s1
    obtain ⟨b, c, rfl, _, _⟩ := id hg1
    refine ⟨_, rfl, _, rfl, x, C, dx, _, _, rfl, e1, S.cl, S.n2, rfl, ?_⟩
    refine ⟨b, D2, _, _, rfl, rfl, kd_isnd e3 k3 l3 m3, hg1.ki, sgK_d8 _, ?_⟩
    rw [nval_kdm (fun _ _ => sgK_inj) k3 (b := decide (g ∈ gs)) decide_eq_true_iff]
    refine ⟨rfl, ?_⟩
    have e : (!decide (V.bl (decide ((g.1, g.2.1) ∈ ps)) = V.bl (decide (g ∈ gs)))) = (decide ((g.1, g.2.1) ∈ ps) != decide (g ∈ gs)) := by
      cases decide ((g.1, g.2.1) ∈ ps) <;> cases decide (g ∈ gs) <;> rfl
    rw [e]
    exact q H1 s1
end
end KP
set_option maxRecDepth 100000
set_option maxHeartbeats 4000000
/-! A sight made; a form under a sight. -/
namespace KP
open PySem PySem.Spec PyProof.Rows L2 KT FS FD
open FM (asc addP accL coef nrm vT plcs)
abbrev nSi : List Str := ["self", "defaults", "exceptions", "table", "test", "sign"]
theorem fput2 (a b : Addr) : putF "_exceptions" (.ref b) [("_defaults", .ref a)] = ([("_defaults", .ref a), ("_exceptions", .ref b)] : List (Str × V)) := by rfl
theorem fput1 (a : Addr) : putF "_defaults" (.ref a) [] = ([("_defaults", .ref a)] : List (Str × V)) := rfl
theorem rd_but {H H' : Hp} {x b C dx : Addr} {fs : List (Str × V)} {o : HO} (h : Rd H b o) (k : But x H H') (hx : H x = some (.ins C dx fs)) (n : ∀ C dx fs, o ≠ .ins C dx fs) : Rd H' b o := by
  rcases h with h | ⟨od, h⟩
  · exact .inl (k _ _ h (by rintro rfl; rw [hx] at h; exact n _ _ _ (Option.some.inj h).symm))
  · exact .inr ⟨od, k _ _ h (by rintro rfl; rw [hx] at h; cases h)⟩
section
variable {P : Program} {w : World} {K : PySem.W.Frag} {mg : Str → Option Value} {base : Heap}
def spSInit (P : Program) (w : World) (K : PySem.W.Frag) (C : Addr) : Sp := fun vs H Q _ => ∃ (x dx a b : Addr) (L : List (V × Pt)) (U : List (V × Sg)), vs = [.ref x, .ref a, .ref b] ∧ H x = some (.ins C dx []) ∧ SqA K H a (L.map fun z => z.1) ∧ (∀ y ∈ L, IsPt H y.1 y.2) ∧ SqA K H b (U.map fun z => z.1) ∧ (∀ y ∈ U, IsSg H y.1 y.2) ∧ L.length ≤ 100 ∧ U.length ≤ 100 ∧
  ∀ H', SiAt P w C H' x (L.map fun z => z.2) (U.map fun z => z.2) → But x H H' → Q .non H'
theorem ok_sinit {f C : Addr} {fd : FuncData} {dvs : List V} (F : FunD K "__init__" "Sight.__init__" (defArgs sSightInit) (defBody sSightInit) (defScope sSightInit) dvs [] f fd) (S : SiC K mg C) : FnOk P w K mg base CX0 1 f fd ["self", "defaults", "exceptions"] (spSInit P w K C) := by
  refine fnX_ok0 F scSightInit (fun vs H Q E h => ?_) (fun cdv Ar outer s H vs Q E hr h => ?_)
  · obtain ⟨_, _, _, _, _, _, rfl, _⟩ := h
    rfl
  · obtain ⟨x, dx, a, b, L, U, rfl, hx, hS, hL, hT, hU, l1, l2, q⟩ := h
    have hu := hr.units
    refine ⟨_, pss_cons (ps_fld (pv 0) (pe_dcn (own := [("table", 3), ("test", 4)]) (g := gTup K 2 (gCons (gName 3) (gCons (gName 4) gNil))) hu rfl scSightInit.nd (pi_seqA (pv 1))
          (blkOk_by (N := nSi) (sc := defScope sSightInit) (by decide +kernel)) (fun _ _ _ _ _ => pg_tup rfl (pgs_cons (pg_name (i := 3) scSightInit.nd rfl (.inl rfl)) (pgs_cons (pg_name (i := 4) scSightInit.nd rfl (.inl rfl)) pgs_nil))) (fun _ _ _ _ _ => pe_tup (pa_cons (pv 3) (pa_cons (pv 4) pa_nil))) (fun _ _ _ _ _ => pe_bl)) rfl)
      (pss_one (ps_fld (pv 0) (pe_dcn (own := [("sign", 5)]) (g := gName 5) hu rfl scSightInit.nd (pi_seqA (pv 2))
          (blkOk_by (N := nSi) (sc := defScope sSightInit) (by decide +kernel)) (fun _ _ _ _ _ => pg_name (i := 5) scSightInit.nd rfl (.inl rfl)) (fun _ _ _ _ _ => pv 5) (fun _ _ _ _ _ => pe_bl)) rfl)), ?_⟩
    refine ⟨_, rfl, a, _, rfl, hS, fun J wk D nD sD => ⟨_, _, _, fun i H2 => ∃ ds, But D (upd H D (ndO P w D [])) H2 ∧ H2 D = some (ndO P w D (kdE ptK ds)) ∧ KD ptK H2 ds ((L.take i).map fun z => z.2) ∧ ds.length ≤ i, wk, ?_, ?_, ?_, ?_⟩⟩
    · exact ⟨[], But.refl, upd_same, ⟨fun _ h => (nomatch h), fun k => by simp⟩, Nat.le_refl _⟩
    · exact fun i H2 _ ⟨ds, hb, _⟩ => But.new hb rfl nD
    · rintro H2 ⟨ds, hb, hD, hs, hl2⟩
      have s2 : Same H H2 := But.new hb rfl nD
      rw [List.length_map] at hl2
      rw [List.length_map, List.take_length] at hs
      have hx2 := s2 _ _ hx
      refine ⟨_, rfl, x, C, dx, _, rfl, hx2, S.cl, S.n1, (by show 0 < 1000; decide), ?_⟩
      rw [fput1]
      have b3 : But x H2 (upd H2 x (.ins C dx [("_defaults", .ref D)])) := But.upd
      have h3 : upd H2 x (.ins C dx [("_defaults", .ref D)]) x = some (.ins C dx [("_defaults", .ref D)]) := upd_same
      have nDx : D ≠ x := fun z => by rw [z, hx] at nD; cases nD
      generalize upd H2 x (.ins C dx [("_defaults", .ref D)]) = H3 at b3 h3
      have hD3 := b3 _ _ hD nDx
      have hs3 : KD ptK H3 ds (L.map fun z => z.2) := hs.but b3 hx2 fun xs z => by cases z
      have hT3 : SqA K H3 b (U.map fun z => z.1) := by
        have hT2 := hT.same s2
        rcases hT2 with h | h
        · exact .inl (h.elim (fun z => .inl (rd_but z b3 hx2 fun _ _ _ z => by cases z)) .inr)
        · exact .inr (h.elim (fun z => .inl (rd_but z b3 hx2 fun _ _ _ z => by cases z)) .inr)
      have hU3 : ∀ y ∈ U, IsSg H3 y.1 y.2 := fun y hy => ((hU y hy).same s2).but b3 hx2 fun xs z => by cases z
      refine ⟨_, rfl, b, _, rfl, hT3, fun J wk D2 nD2 sD2 => ⟨_, _, _, fun i H4 => ∃ es, But D2 (upd H3 D2 (ndO P w D2 [])) H4 ∧ H4 D2 = some (ndO P w D2 (kdE sgK es)) ∧ KD sgK H4 es ((U.take i).map fun z => z.2) ∧ es.length ≤ i, wk, ?_, ?_, ?_, ?_⟩⟩
      · exact ⟨[], But.refl, upd_same, ⟨fun _ h => (nomatch h), fun k => by simp⟩, Nat.le_refl _⟩
      · exact fun i H2 _ ⟨ds, hb, _⟩ => But.new hb rfl nD2
      · rintro H4 ⟨es, hb4, hD4, hs4, hl4⟩
        have s4 : Same H3 H4 := But.new hb4 rfl nD2
        rw [List.length_map] at hl4
        rw [List.length_map, List.take_length] at hs4
        have hx4 := s4 _ _ h3
        refine ⟨_, rfl, x, C, dx, _, rfl, hx4, S.cl, S.n2, (by show 1 < 1000; decide), ?_⟩
        rw [fput2]
        have n2x : D2 ≠ x := fun z => by rw [z, h3] at nD2; cases nD2
        refine q _ ⟨dx, D, D2, ds, es, upd_same, by rw [upd_ne nDx]; exact s4 _ _ hD3, (hs3.same s4).but But.upd hx4 (fun xs z => by cases z), by omega, sD, by rw [upd_ne n2x]; exact hD4, hs4.but But.upd hx4 (fun xs z => by cases z), by omega, sD2⟩ fun c o e nc => ?_
        rw [upd_ne nc]
        exact s4 _ _ (b3 _ _ (s2 _ _ e) nc)
      · rintro i v H4 H5 hi ⟨es, hb4, hD4, hs4, hl4⟩ ⟨rfl, hy⟩
        obtain ⟨g, hg⟩ := at_map hy
        have s4 : Same H3 H5 := But.new hb4 rfl nD2
        have sg := (hU3 _ (List.mem_of_getElem? hg)).same s4
        obtain ⟨t, c, et, h1, h2⟩ := id sg
        have et : v = V.ref t := et
        subst et
        have sg : IsSg H5 (.ref t) g := sg
        rw [List.length_map] at hi
        refine ⟨rfl, ?_⟩
        refine ⟨_, rfl, t, kdE sgK es, sgK g, rfl, kd_isnd hD4 hs4 (by omega) sD2, hD4, sg.ki, sgK_d8 _, ?_⟩
        obtain ⟨es', e1, e2, e3⟩ := kdE_put (fun _ _ => sgK_inj) hs4 sg.ki (sgK_d8 g)
        rw [e1]
        refine ⟨es', hb4.trans But.upd, upd_same, ?_, by omega⟩
        have e6 : ((U.take (i + 1)).map fun z => z.2) = ((U.take i).map fun z => z.2) ++ [g] := take_map hg
        rw [e6]
        exact e2.but But.upd hD4 fun xs z => by cases z
    · rintro i v H2 H3 hi ⟨ds, hb, hD, hs, hl2⟩ ⟨rfl, hy⟩
      obtain ⟨p, hp⟩ := at_map hy
      have s2 : Same H H3 := But.new hb rfl nD
      obtain ⟨t, et, h1⟩ := (hL _ (List.mem_of_getElem? hp)).same s2
      have et : v = V.ref t := et
      subst et
      have h1 : H3 t = some (.tup [.str p.1, .str p.2]) := h1
      rw [List.length_map] at hi
      refine ⟨t, _, rfl, SqT.of h1, rfl, _, _, rfl, _, _, rfl, rfl, ?_⟩
      refine ⟨rfl, _, rfl, _, rfl, by show 2 ≤ sizeLine; decide, fun T nT => ?_⟩
      have s4 : Same H3 (upd H3 T (.tup [.str p.1, .str p.2])) := same_upd nT
      have hTt : upd H3 T (.tup [.str p.1, .str p.2]) T = some (.tup [.str p.1, .str p.2]) := upd_same
      generalize upd H3 T (.tup [.str p.1, .str p.2]) = H4 at s4 hTt
      have kt : KI H4 (.ref T) (ptK p) := IsPt.ki ⟨T, rfl, hTt⟩
      have hD4 := s4 _ _ hD
      refine ⟨T, kdE ptK ds, ptK p, rfl, kd_isnd hD4 (hs.same s4) (by omega) sD, hD4, kt, ptK_depth _, ?_⟩
      obtain ⟨ds', e1, e2, e3⟩ := kdE_put ptK_inj (hs.same s4) kt (ptK_depth p)
      rw [e1]
      refine ⟨ds', (hb.same s4).trans But.upd, upd_same, ?_, by omega⟩
      have e6 : ((L.take (i + 1)).map fun z => z.2) = ((L.take i).map fun z => z.2) ++ [p] := take_map hp
      rw [e6]
      exact e2.but But.upd hD4 fun xs z => by cases z
end
end KP
set_option maxRecDepth 100000
set_option maxHeartbeats 4000000
/-! when, with signs of no pool. -/
namespace KP
open PySem PySem.Spec PyProof.Rows L2 KT FS FD
open FM (asc addP accL coef nrm vT)
def sgF (ds : List (Addr × Sg)) : List NE := ds.map fun d => (sgK (d.2), d.1, V.bl true)
structure SgF (H : Hp) (ds : List (Addr × Sg)) (ks : List Sg) : Prop where
  sg : ∀ d ∈ ds, IsSg H (.ref d.1) (d.2)
  nd : (ds.map fun d => d.2).Nodup
  mem : ∀ k, k ∈ ds.map (fun d => d.2) ↔ k ∈ ks
theorem SgF.keys {H : Hp} {ds : List (Addr × Sg)} {ks : List Sg} (h : SgF H ds ks) : NKeys H (sgF ds) := fun e he => by
  obtain ⟨d, hd, rfl⟩ := List.mem_map.mp he
  have := sgK_depth (d.2)
  exact ⟨(h.sg d hd).ki, by show (sgK (d.2)).depth ≤ 8; omega⟩
theorem nval_sgF {k : Sg} : ∀ {ds : List (Addr × Sg)}, (nval (sgF ds) (sgK (k))).isSome = decide (k ∈ ds.map fun d => d.2)
  | [] => by simp [nval, sgF]
  | d :: ds => by
    have ih := nval_sgF (k := k) (ds := ds)
    by_cases e : d.2 = k
    · have : decide (sgK (d.2) = sgK (k)) = true := by rw [e]; simp
      simp [nval, sgF, List.find?_cons, this, e]
    · have : decide (sgK (d.2) = sgK (k)) = false := decide_eq_false fun z => e (sgK_inj z)
      unfold nval sgF at ih ⊢
      rw [List.map_cons, List.find?_cons, this]
      simp only
      rw [ih]
      exact decide_eq_decide.mpr (by rw [List.map_cons, List.mem_cons]; exact ⟨.inr, fun z => z.resolve_left fun y => e y.symm⟩)
theorem sgF_put {H : Hp} {ds : List (Addr × Sg)} {ks : List Sg} {k : Sg} {b : Addr} (h : SgF H ds ks) (hb : IsSg H (.ref b) (k)) :
    ∃ ds', nput (sgF ds) (sgK (k)) b (.bl true) = sgF ds' ∧ SgF H ds' (ks ++ [k]) ∧ ds'.length ≤ ds.length + 1 := by
  unfold nput
  rw [nval_sgF]
  by_cases c : k ∈ ds.map fun d => d.2
  · refine ⟨ds, ?_, ⟨h.sg, h.nd, fun j => ?_⟩, Nat.le_succ _⟩
    · rw [decide_eq_true c, if_pos rfl]
      unfold sgF
      rw [List.map_map]
      refine List.map_congr_left fun d _ => ?_
      show (if sgK (d.2) = sgK (k) then (sgK (d.2), d.1, V.bl true) else (sgK (d.2), d.1, V.bl true)) = _
      split <;> rfl
    · rw [h.mem j, List.mem_append, List.mem_singleton]
      exact ⟨.inl, fun z => z.elim id fun y => by rw [y]; exact (h.mem k).mp c⟩
  · refine ⟨ds ++ [(b, k)], ?_, ⟨fun d hd => ?_, ?_, fun j => ?_⟩, by rw [List.length_append]; exact Nat.le_refl _⟩
    · rw [decide_eq_false c, if_neg Bool.false_ne_true]
      unfold sgF
      rw [List.map_append]
      rfl
    · rcases List.mem_append.mp hd with z | z
      · exact h.sg d z
      · rw [List.mem_singleton.mp z]; exact hb
    · rw [List.map_append, List.nodup_append]
      refine ⟨h.nd, by simp, fun a ha x hx => ?_⟩
      rw [List.mem_singleton.mp hx]
      rintro rfl
      exact c ha
    · rw [List.map_append, List.mem_append, List.mem_append, h.mem j]
      simp
theorem SgF.same {H H' : Hp} {ds : List (Addr × Sg)} {ks : List Sg} (h : SgF H ds ks) (s : Same H H') : SgF H' ds ks := ⟨fun d hd => (h.sg d hd).same s, h.nd, h.mem⟩
theorem SgF.but {H H' : Hp} {ds : List (Addr × Sg)} {ks : List Sg} {D : Addr} {o : HO} (h : SgF H ds ks) (b : But D H H') (hd : H D = some o) (n : ∀ xs, o ≠ .tup xs) : SgF H' ds ks := ⟨fun d hd2 => (h.sg d hd2).but b hd n, h.nd, h.mem⟩
/-- when, with any signs -/
def spWhenF (K : PySem.W.Frag) (G : List Sg) (C : Addr) : Sp := fun vs H Q _ => ∃ (x a : Addr) (N : List FM.Tm) (L : List (V × Sg)), vs = [.ref x, .ref a] ∧ FmAt G C H x N ∧ SqA K H a (L.map fun z => z.1) ∧ (∀ y ∈ L, IsSg H y.1 y.2) ∧ L.length ≤ 900 ∧ N.length ≤ 45 ∧
  ∀ H', Same H H' → Q (.int (vT N fun k => decide (at' G k ∈ L.map fun z => z.2))) H'
section
variable {P : Program} {w : World} {K : PySem.W.Frag} {mg : Str → Option Value} {base : Heap}
theorem ok_whenF {G : List Sg} (PG : Pool G) {C f : Addr} {fd : FuncData} (F : Fun K "when" "Form.when" sFormWhen f fd) (B : Blt mg) (hsum : mg "sum" = none) (FC : FmC K mg C) : FnOk P w K mg base CX0 1 f fd ["self", "signs"] (spWhenF K G C) := by
  refine F.ok scFormWhen (fun vs H Q E h => ?_) (fun cdv A outer s H vs Q E hr h => ?_)
  · obtain ⟨_, _, _, _, rfl, _⟩ := h
    rfl
  · obtain ⟨x, a, N, L, rfl, hx, hS, hA, hl, ln, q⟩ := h
    obtain ⟨dx, t, M, ex, hT, eN, hM, aN⟩ := hx.terms
    have hu := hr.units
    refine ⟨_, pss_cons (ps_set (i := 2) scFormWhen.nd rfl (.inr rfl) (pe_dcn (own := [("sign", 3)]) (g := gName 3) hu rfl scFormWhen.nd (pi_seqA (pv 1))
          (blkOk_by (N := nWh) (sc := defScope sFormWhen) (by decide +kernel)) (fun _ _ _ _ _ => pg_name (i := 3) scFormWhen.nd rfl (.inl rfl)) (fun _ _ _ _ _ => pv 3) (fun _ _ _ _ _ => pe_bl)))
      (pss_one (ps_ret (pe_callB (cr_sum rfl) (by rfl) hsum (by decide +kernel) (pa_cons (pe_lc (own := [("product", 4), ("coefficient", 5)]) (g := gTup K 2 (gCons (gName 4) (gCons (gName 5) gNil))) rfl scFormWhen.nd (pi_tup (pe_fld (pv 0) rfl))
          (blkOk_by (N := nWh) (sc := defScope sFormWhen) (by decide +kernel))
          (fun _ _ _ _ _ => pg_tup rfl (pgs_cons (pg_name (i := 4) scFormWhen.nd rfl (.inl rfl)) (pgs_cons (pg_name (i := 5) scFormWhen.nd rfl (.inl rfl)) pgs_nil)))
          (fun _ _ _ _ _ => pts_one (pt_val (pe_callB (show CallR _ (.builtin "all") (rAll K) from cr_all rfl) (by rfl) B.all (by decide +kernel) (pa_cons (pe_lc (own := [("sign", 3)]) (g := gName 3) (tt := tYes) rfl scFormWhen.nd (show PI _ _ _ (iTup K (tVar 4)) from pi_tup (pv 4))
            (blkOk_re (N := nWh) (sc := scWh) (by decide +kernel)) (fun _ _ _ _ _ => pg_name (i := 3) scFormWhen.nd rfl (.inl rfl)) (fun _ _ _ _ _ => pts_nil) (fun _ _ _ _ _ => pe_cmpR (show OpR _ _ (rNIn P w) from op_nin hu) (pv 3) (pv 2) rfl)) pa_nil))))
          (fun _ _ _ _ _ => pv 5)) pa_nil)))), ?_⟩
    refine ⟨_, rfl, a, _, rfl, hS, fun J wk D nD sD => ⟨_, _, _, fun i H2 => ∃ ds, But D (upd H D (ndO P w D [])) H2 ∧ H2 D = some (ndO P w D (sgF ds)) ∧ SgF H2 ds ((L.take i).map fun z => z.2) ∧ ds.length ≤ i, wk, ?_, ?_, ?_, ?_⟩⟩
    · exact ⟨[], But.refl, upd_same, ⟨fun _ h => (nomatch h), List.nodup_nil, fun k => by simp⟩, Nat.le_refl _⟩
    · exact fun i H2 _ ⟨ds, hb, _⟩ => But.new hb rfl nD
    · rintro H2 ⟨ds, hb, hD, hs, hl2⟩
      have s2 : Same H H2 := But.new hb rfl nD
      rw [List.length_map] at hl2
      rw [List.length_map, List.take_length] at hs
      have isd : ∀ {H3}, Same H2 H3 → IsND P w H3 D (sgF ds) := fun s => ⟨.inl (s _ _ hD), by unfold sgF; rw [List.length_map]; exact Nat.le_trans (show ds.length ≤ 1000 by omega) (by decide), sD, (hs.same s).keys⟩
      have hT2 := s2 _ _ hT
      refine ⟨_, rfl, x, C, dx, _, _, rfl, s2 _ _ ex, FC.cl, FC.n1, fmf_1 _, t, rfl, ⟨_, SqT.of hT2⟩, fun D2 n2 => lc_it (walk_tup (K := K) (a := t) (xs := M.map fun z => z.1)) (fun i H3 => But D2 (upd H2 D2 (.lst [])) H3 ∧
          H3 D2 = some (.lst ((((N.take i).filter fun t => t.1.all fun k => decide (at' G k ∈ L.map fun z => z.2)).map fun t => t.2).map V.int)))
        ⟨But.refl, by rw [upd_same]; simp⟩ (fun i H3 _ hb3 => SqT.of ((But.new hb3.1 rfl n2) _ _ hT2)) ?_ ?_⟩
      · rintro i v H3 H4 hi ⟨hb3, hD3⟩ ⟨rfl, hv⟩
        obtain ⟨c, hc⟩ := at_map hv
        have s3 : Same H2 H4 := But.new hb3 rfl n2
        obtain ⟨e, b, rfl, h1, h2⟩ := tm_of ((hM _ (List.mem_of_getElem? hc)).same (s2.trans s3))
        obtain ⟨b', Lp, eb, hTp, eL, hsg⟩ := pr_of h2
        obtain rfl := V.ref.inj eb
        have nN : N[i]? = some c := by rw [← eN, List.getElem?_map, hc]; rfl
        have bdc : ∀ k ∈ c.1, k < G.length := (aN c (List.mem_of_getElem? nN)).2
        have lc : c.1.length ≤ 5 := by
          have z := FM.asc_self bdc (aN c (List.mem_of_getElem? nN)).1
          have z2 := asc_len (n := G.length) (ks := c.1)
          have := PG.len
          rw [z] at z2
          omega
        have lLp : Lp.length = c.1.length := by rw [← eL, List.length_map]
        refine ⟨e, _, rfl, SqT.of h1, rfl, _, _, rfl, _, _, rfl, rfl, ?_⟩
        refine ⟨rfl, _, rfl, b, rfl, ⟨_, SqT.of hTp⟩, fun D3 n3 => lc_it (walk_tup (K := K) (a := b) (xs := Lp.map fun z => z.1)) (fun j H5 => But D3 (upd H4 D3 (.lst [])) H5 ∧ H5 D3 = some (.lst (((c.1.take j).map fun k => decide (at' G k ∈ L.map fun z => z.2)).map V.bl)))
          ⟨But.refl, upd_same⟩ (fun j H5 _ hb5 => SqT.of ((But.new hb5.1 rfl n3) _ _ hTp)) ?_ ?_⟩
        · rintro j u H5 H6 hj ⟨hb5, hD5⟩ ⟨rfl, hv5⟩
          obtain ⟨k, hk⟩ := at_map hv5
          have s5 : Same H4 H6 := But.new hb5 rfl n3
          have ck : c.1[j]? = some k := by rw [← eL, List.getElem?_map, hk]; rfl
          have kb := bdc k (List.mem_of_getElem? ck)
          have sg := (hsg _ (List.mem_of_getElem? hk)).same s5
          obtain ⟨g, cs, eg, _, _⟩ := id sg
          have eg : u = V.ref g := eg
          subst eg
          have dk : (sgK (at' G k)).depth ≤ 8 := by have := sgK_depth (at' G k); omega
          refine ⟨rfl, yes_i ⟨_, rfl, _, rfl, g, D, sgF ds, sgK (at' G k), rfl, rfl, isd (s3.trans s5), sg.ki, dk, _, hD5, small1000 (by rw [List.length_map, List.length_map, List.length_take]; omega), hb5.trans But.upd, ?_⟩⟩
          rw [upd_same, nval_sgF, take_map ck, List.map_append]
          rw [show decide (at' G k ∈ ds.map fun d => d.2) = decide (at' G k ∈ L.map fun z => z.2) from decide_eq_decide.mpr (hs.mem (at' G k))]
          rfl
        · rintro H5 ⟨hb5, hD5⟩
          have s5 : Same H4 H5 := But.new hb5 rfl n3
          have el : (Lp.map fun z : V × Nat => z.1).length = c.1.length := by rw [List.length_map, lLp]
          rw [el, List.take_length] at hD5
          refine ⟨D3, _, rfl, SqL.of hD5, _, rfl, ?_⟩
          have ea : ((c.1.map fun k => decide (at' G k ∈ L.map fun z => z.2)).all id) = c.1.all fun k => decide (at' G k ∈ L.map fun z => z.2) := by
            rw [List.all_map]; rfl
          rw [ea]
          have st := vT_take (b := fun k => decide (at' G k ∈ L.map fun z => z.2)) nN
          have ll : ((((N.take i).filter fun t => t.1.all fun k => decide (at' G k ∈ L.map fun z => z.2)).map fun t => t.2).map V.int).length ≤ 1000 := by
            rw [List.length_map, List.length_map]
            exact Nat.le_trans (List.length_filter_le _ _) (by rw [List.length_take]; omega)
          have hD6 := s5 _ _ hD3
          cases cc : c.1.all fun k => decide (at' G k ∈ L.map fun z => z.2) with
          | false =>
            rw [cc, if_neg Bool.false_ne_true, List.append_nil] at st
            refine iteF ⟨hb3.same s5, ?_⟩
            rw [st]
            exact hD6
          | true =>
            rw [cc, if_pos rfl] at st
            refine iteT ⟨_, rfl, _, hD6, Nat.lt_of_le_of_lt ll (by decide), (hb3.same s5).trans But.upd, ?_⟩
            rw [upd_same, st, List.map_append]
            rfl
      · rintro H3 ⟨hb3, hD3⟩
        have el : (M.map fun z : V × FM.Tm => z.1).length = N.length := by rw [← eN, List.length_map, List.length_map]
        rw [el, List.take_length] at hD3
        exact ⟨D2, _, rfl, SqL.of hD3, q H3 (s2.trans (But.new hb3 rfl n2))⟩
    · rintro i v H2 H3 hi ⟨ds, hb, hD, hs, hl2⟩ ⟨rfl, hx⟩
      obtain ⟨k, hk⟩ := at_map hx
      have s2 : Same H H3 := But.new hb rfl nD
      have hg := hA _ (List.mem_of_getElem? hk)
      obtain ⟨b, c, eb, h1, h2⟩ := hg.same s2
      have eb : v = V.ref b := eb
      subst eb
      have hsg : IsSg H3 (.ref b) k := ⟨b, c, rfl, h1, h2⟩
      have hdp := sgK_depth k
      refine ⟨rfl, ?_⟩
      refine ⟨_, rfl, b, sgF ds, sgK k, rfl, ⟨.inl hD, by unfold sgF; rw [List.length_map]; exact Nat.le_trans (show ds.length ≤ 1000 by rw [List.length_map] at hi; omega) (by decide), sD, hs.keys⟩, hD, hsg.ki, by omega, ?_⟩
      obtain ⟨ds', e1, e2, e3⟩ := sgF_put hs hsg
      rw [e1]
      refine ⟨ds', hb.trans But.upd, upd_same, ?_, by omega⟩
      have e6 : ((L.take (i + 1)).map fun z => z.2) = ((L.take i).map fun z => z.2) ++ [k] := take_map hk
      rw [e6]
      exact e2.but But.upd hD fun xs z => by cases z
end
end KP
set_option maxRecDepth 100000
set_option maxHeartbeats 4000000
/-! A form under a sight. -/
namespace KP
open PySem PySem.Spec PyProof.Rows L2 KT FS FD
open FM (asc addP accL coef nrm vT plcs)
/-- what a sight says of the k-th sign -/
def siB (G : List Sg) (ps : List Pt) (gs : List Sg) (k : Nat) : Bool := decide (((at' G k).1, (at' G k).2.1) ∈ ps) != decide (at' G k ∈ gs)
theorem no_attr {t : Addr} {m : Str} (h : (m == ("terms" : Str)) = false) : ([("terms", V.ref t)] : List (Str × V)).lookup m = none := by simp [List.lookup, h]
theorem idx_mem {G : List Sg} (PG : Pool G) {W : List (V × Nat)} (hW : ∀ z ∈ W, z.2 < G.length) {k : Nat} (hk : k < G.length) : at' G k ∈ (W.map fun z => (z.1, at' G z.2)).map (fun z => z.2) ↔ k ∈ W.map fun z => z.2 := by
  constructor
  · intro h
    obtain ⟨y, hy, e⟩ := List.mem_map.mp h
    obtain ⟨z, hz, rfl⟩ := List.mem_map.mp hy
    exact List.mem_map.mpr ⟨z, hz, PG.inj (hW z hz) hk e⟩
  · intro h
    obtain ⟨z, hz, rfl⟩ := List.mem_map.mp h
    exact List.mem_map.mpr ⟨_, List.mem_map.mpr ⟨z, hz, rfl⟩, rfl⟩
structure WhF (K : PySem.W.Frag) (mg : Str → Option Value) (P : Program) (w : World) (base : Heap) (G : List Sg) (C f : Addr) (fd : FuncData) : Prop where
  ok : FnOk P w K mg base CX0 1 f fd ["self", "signs"] (spWhenF K G C)
  m : Meth K C "when" f
  b : Binds K fd ["self", "signs"] []
structure SlD (K : PySem.W.Frag) (mg : Str → Option Value) (P : Program) (w : World) (base : Heap) (G : List Sg) (C f : Addr) (fd : FuncData) : Prop where
  ok : FnOk P w K mg base CX0 7 f fd ["self"] (spSList G C)
  m : Meth K C "sign_list" f
  b : Binds K fd ["self"] []
structure HoD (K : PySem.W.Frag) (mg : Str → Option Value) (P : Program) (w : World) (base : Heap) (C f : Addr) (fd : FuncData) : Prop where
  ok : FnOk P w K mg base CX0 2 f fd ["self", "sign"] (spHolds P w C)
  m : Meth K C "holds" f
  b : Binds K fd ["self", "sign"] []
section
variable {P : Program} {w : World} {K : PySem.W.Frag} {mg : Str → Option Value} {base : Heap}
def spUnder (P : Program) (w : World) (G : List Sg) (C CS : Addr) : Sp := fun vs H Q _ => ∃ x y N ps gs, vs = [.ref x, .ref y] ∧ FmAt G C H x N ∧ N.length ≤ 45 ∧ SiAt P w CS H y ps gs ∧ ∀ H', Same H H' → Q (.int (vT N (siB G ps gs))) H'
theorem ok_under {G : List Sg} (PG : Pool G) {C CS f fw fs fh : Addr} {fd dw ds dh : FuncData} (F : Fun K "under" "Form.under" sFormUnder f fd) (FC : FmC K mg C) (S : SiC K mg CS) (Wh : WhF K mg P w base G C fw dw) (Sl : SlD K mg P w base G C fs ds) (Ho : HoD K mg P w base CS fh dh) :
    FnOk P w K mg base CX0 8 f fd ["self", "sight"] (spUnder P w G C CS) := by
  refine F.ok scFormUnder (fun vs H Q E h => ?_) (fun cdv Ar outer s H vs Q E hr h => ?_)
  · obtain ⟨_, _, _, _, _, rfl, _⟩ := h
    rfl
  · obtain ⟨x, y, N, ps, gs, rfl, hx, ln, hy, q⟩ := h
    refine ⟨_, pss_one (ps_ret (pe_meth (pv 0) FC.cl Wh.m Wh.ok (hr.mono (by decide)) Wh.b .nil pass0 (pa_cons (pe_lc (own := [("sign", 2)]) (g := gName 2) rfl scFormUnder.nd (pi_list (pe_meth0 (pv 0) FC.cl Sl.m Sl.ok hr Sl.b .nil pass0)) (blkOk_by (N := ["self", "sight", "sign"]) (sc := defScope sFormUnder) (by decide +kernel)) (fun _ _ _ _ _ => pg_name (i := 2) scFormUnder.nd rfl (.inl rfl))
        (fun _ _ _ _ _ => pts_one (pt_val (pe_meth (pv 1) S.cl Ho.m Ho.ok (hr.mono (by decide)) Ho.b .nil pass0 (pa_cons (pv 2) pa_nil)))) (fun _ _ _ _ _ => pv 2)) pa_nil))), ?_⟩
    obtain ⟨dx, tx, Lx, ex, _, eN, _, aN⟩ := hx.terms
    have m1 : ([("terms", V.ref tx)] : List (Str × V)).lookup ("when" : Str) = none := no_attr (by decide +kernel)
    have m2 : ([("terms", V.ref tx)] : List (Str × V)).lookup ("sign_list" : Str) = none := no_attr (by decide +kernel)
    refine ⟨_, rfl, x, dx, _, rfl, ex, m1, ?_⟩
    refine ⟨_, rfl, x, dx, _, rfl, ex, m2, x, N, rfl, hx, by omega, fun p M H1 s1 np hp hM eM => ?_⟩
    have lM : M.length ≤ 5 := by
      have z1 := congrArg List.length eM
      rw [List.length_map] at z1
      have := asc_len (n := G.length) (ks := plcs N)
      have := PG.len
      omega
    refine ⟨p, rfl, ⟨_, SqL.of hp⟩, fun D nD => lc_it (walk_list (K := K) (a := p) (xs := M.map fun z => z.1)) (fun i H2 => ∃ W : List (V × Nat), Same H1 H2 ∧ H2 D = some (.lst (W.map fun z => z.1)) ∧ SgA G H2 W ∧ W.map (fun z => z.2) = ((M.take i).map fun z => z.2).filter (siB G ps gs))
      ⟨[], same_upd nD, upd_same, (fun _ h => nomatch h), by simp⟩ (fun i H2 _ ⟨_, s2, _⟩ => SqL.of (s2 _ _ hp)) ?_ ?_⟩
    · rintro i v H2 H3 hi ⟨W, s2, hD, hW, eW⟩ ⟨rfl, hv⟩
      obtain ⟨k, hk⟩ := at_map hv
      have s02 := s1.trans s2
      obtain ⟨hg, kb⟩ := (hM.same s2) _ (List.mem_of_getElem? hk)
      have hg : IsSg H3 v (at' G k) := hg
      have hy2 := hy.same s02
      obtain ⟨dy, D1, D2, _, _, ey, _⟩ := id hy2
      rw [List.length_map] at hi
      have st : ((M.take (i + 1)).map fun z => z.2).filter (siB G ps gs) = ((M.take i).map fun z => z.2).filter (siB G ps gs) ++ if siB G ps gs k = true then [k] else [] := by
        rw [take_map (f := fun z : V × Nat => z.2) hk, List.filter_append]
        congr 1
        show List.filter (siB G ps gs) [k] = _
        rw [List.filter_cons]
        split <;> rfl
      have lW : W.length ≤ 5 := by
        have z1 := congrArg List.length eW
        have z2 := List.length_filter_le (siB G ps gs) ((M.take i).map fun z => z.2)
        rw [List.length_map] at z1
        rw [List.length_map, List.length_take] at z2
        omega
      refine ⟨rfl, _, rfl, y, dy, _, rfl, ey, rfl, _, rfl, y, v, ps, gs, at' G k, rfl, hy2, hg, fun H4 s4 => ⟨_, rfl, ?_⟩⟩
      rw [show (decide (((at' G k).1, (at' G k).2.1) ∈ ps) != decide (at' G k ∈ gs)) = siB G ps gs k from rfl]
      have hD4 := s4 _ _ hD
      cases cc : siB G ps gs k with
      | false =>
        rw [cc, if_neg Bool.false_ne_true, List.append_nil] at st
        exact iteF ⟨W, s2.trans s4, hD4, hW.same s4, by rw [eW, st]⟩
      | true =>
        rw [cc, if_pos rfl] at st
        refine iteT ⟨_, rfl, _, hD4, small1000 (by rw [List.length_map]; omega), W ++ [(v, k)], fun c o e => by rw [upd_ne (ne_of_none e nD)]; exact s4 _ _ (s2 _ _ e), by rw [upd_same, List.map_append]; rfl, ?_, by rw [List.map_append, eW, st]; rfl⟩
        refine SgA.but (d := D) (fun z hz => ?_) But.upd hD4 fun xs z => by cases z
        rcases List.mem_append.mp hz with m | m
        · exact (hW.same s4) z m
        · rw [List.mem_singleton.mp m]; exact ⟨hg.same s4, kb⟩
    · rintro H2 ⟨W, s2, hD, hW, eW⟩
      rw [List.length_map, List.take_length, eM] at eW
      have lW : W.length ≤ 5 := by
        have z1 := congrArg List.length eW
        have z2 := List.length_filter_le (siB G ps gs) (asc G.length (plcs N))
        have z3 := asc_len (n := G.length) (ks := plcs N)
        have := PG.len
        rw [List.length_map] at z1
        omega
      have s02 := s1.trans s2
      refine ⟨x, D, N, W.map fun z => (z.1, at' G z.2), rfl, hx.same s02, .inl (SqL.of (by rw [hD, List.map_map]; rfl)), fun y hy' => ?_, by rw [List.length_map]; omega, ln, fun H3 s3 => ?_⟩
      · obtain ⟨z, hz, rfl⟩ := List.mem_map.mp hy'
        exact (hW z hz).1
      · have e : vT N (fun k => decide (at' G k ∈ (W.map fun z => (z.1, at' G z.2)).map fun z => z.2)) = vT N (siB G ps gs) := FM.vT_congr fun t ht k hk => by
          have kb := (aN t ht).2 k hk
          rw [Bool.eq_iff_iff, decide_eq_true_iff, idx_mem PG (fun z hz => (hW z hz).2) kb, eW, List.mem_filter, FM.mem_asc]
          exact ⟨fun h => h.2, fun h => ⟨⟨kb, FM.mem_plcs.mpr ⟨t, ht, hk⟩⟩, h⟩⟩
        rw [e]
        exact q H3 (s02.trans s3)
end
end KP
set_option maxRecDepth 100000
set_option maxHeartbeats 4000000
/-! x in a list of nested tuples. -/
namespace FD
open PySem PySem.Spec PyProof.Rows L2 FS
open PySem.SeqAt (EqAt RcAt RcNeAt)
section
variable {X : Cx}
def rInK (K : PySem.W.Frag) : R2 := fun x y H Q => ∃ k ks a vs, y = V.ref a ∧ SqL K H a vs ∧ KI H x k ∧ KIs H vs ks ∧ k.depth ≤ 9 ∧ Q (.bl (decide (k ∈ ks))) H
theorem op_inK (hu : X.A.units + 64 < cLine) : OpR X (compareOp .In) (rInK X.K) := by
  intro pins s σ H x y v u Q I rx ry h
  obtain ⟨k, ks, a, vs, rfl, hs, hk, hks, d, q⟩ := h
  obtain rfl : u = Value.ref a := ry
  obtain ⟨its, rv, pl, hz⟩ := I.list hs
  have n1 := KI.nested I.hok _ _ _ hk rx
  have n2 := KIs.nested I.hok _ _ _ hks rv
  refine SeqAt.in_listAt (fun y => @decide (NestedIs s.heap k y) (Classical.propDecidable _)) pl.isList (fun y hy => ?_) ?_
  · obtain ⟨l, hl, hy2⟩ := nested_mem n2 y (by simpa using hy)
    have e := eqAt_key l k X.A.in1 s y v hy2 n1 (by show X.A.units + 1 + _ < _; omega)
    refine e.cast ?_
    rw [← NestedKey.decide_eq]
    by_cases c : l = k
    · subst c
      rw [decide_eq_true rfl, @decide_eq_true _ (Classical.propDecidable _) hy2]
    · rw [decide_eq_false c, @decide_eq_false _ (Classical.propDecidable _) fun z => c (NestedIs.inj _ _ _ hy2 z)]
  · have e : (its.toArray.any fun y => @decide (NestedIs s.heap k y) (Classical.propDecidable _)) = decide (k ∈ ks) := by
      rw [List.any_toArray]
      exact any_key k n2
    rw [e]
    exact ⟨.bl _, H, I, rfl, q⟩
end
end FD
/-! Forms whose values are 0 and 1; sums and products by values. -/
namespace FM
theorem bt_all4 (b : Nat → Bool) : ∃ n, n < 16 ∧ ∀ k, k < 4 → bt n k = b k := by
  obtain ⟨m, h1, h2⟩ := bt_all fun k => decide (k < 4) && b k
  have h4 := h2 4 (by decide)
  have : bt m 4 = false := by rw [h4]; rfl
  unfold bt at this
  have : ¬ m / 2 ^ 4 % 2 = 1 := of_decide_eq_false this
  refine ⟨m, by omega, fun k hk => ?_⟩
  rw [h2 k (by omega), decide_eq_true hk, Bool.true_and]
theorem v_row {A : List Tm} {n : Nat} (hn : n ≤ 4) (a : AscT n A) (b : Nat → Bool) : ∃ m, m < 16 ∧ vT A b = vT A (bt m) := by
  obtain ⟨m, h1, h2⟩ := bt_all4 b
  exact ⟨m, h1, vT_congr fun t ht k hk => (h2 k (Nat.lt_of_lt_of_le ((a t ht).2 k hk) hn)).symm⟩
theorem mul_lt {n : Nat} {A B : List Tm} (a : AscT n A) (b : AscT n B) : ∀ t ∈ mulT A B, ∀ k ∈ t.1, k < n := fun t ht k hk => by
  obtain ⟨t1, h1, h2⟩ := List.mem_flatMap.mp ht
  obtain ⟨t2, h3, rfl⟩ := List.mem_map.mp h2
  rcases List.mem_append.mp hk with z | z
  · exact (a t1 h1).2 k z
  · exact (b t2 h3).2 k z
theorem vT_prod {n : Nat} {A B : List Tm} (a : AscT n A) (b : AscT n B) (f : Nat → Bool) : vT (nrm (ascL n (mulT A B))) f = vT A f * vT B f := by
  rw [nrm_v, vT_ascL f (mul_lt a b), vT_mul]
theorem sq_self {x : Int} (h : x * x = x) : x = 0 ∨ x = 1 := by
  have h2 : x * (x - 1) = 0 := by rw [Int.mul_sub, h, Int.mul_one, Int.sub_self]
  rcases Int.mul_eq_zero.mp h2 with e | e
  · exact .inl e
  · exact .inr (by omega)
/-- a form is its own square exactly when its values are 0 and 1 -/
theorem binary_iff {A : List Tm} {n : Nat} (hn : n ≤ 4) (a : AscT n A) : nrm (ascL n (mulT (nrm A) (nrm A))) = nrm A ↔ ∀ m, m < 16 → vT A (bt m) = 0 ∨ vT A (bt m) = 1 := by
  constructor
  · intro h m _
    have e := congrArg (fun N => vT N (bt m)) h
    simp only [vT_prod a.nrm a.nrm, nrm_v] at e
    exact sq_self e
  · intro h
    refine nrm_of (n := n) (by omega) (ascL_asc n _) a fun b => ?_
    rw [vT_ascL b (mul_lt a.nrm a.nrm), vT_mul, nrm_v]
    obtain ⟨m, h1, h2⟩ := v_row hn a b
    rw [h2]
    rcases h m h1 with e | e <;> rw [e] <;> rfl
/-- sums -/
theorem vT_scT (A : List Tm) (c : Int) (b : Nat → Bool) : vT (A.map fun t => (t.1, t.2 * c)) b = vT A b * c := by
  induction A with
  | nil => simp [vT]
  | cons t A ih =>
    rw [List.map_cons, vT_cons, vT_cons, ih, Int.add_mul]
    split <;> simp
theorem vT_one (n : Int) (b : Nat → Bool) : vT [([], n)] b = n := by
  rw [vT_cons]
  simp [vT]
theorem nrm_add {A B : List Tm} : nrm (nrm A ++ nrm B) = nrm (A ++ B) := nrm_congr fun p => by rw [coef_append, coef_append, nrm_coef, nrm_coef]
end FM
/-! The law's ten results, by values. -/
namespace KP
open FM (asc addP accL coef nrm mulT ascL vT negT AscT Tm)
variable {n : Nat} {l r : List Tm} {c : Int}
theorem asc_le5 {N : List Tm} (a : AscT n N) (hn : n ≤ 5) : AscT 5 N := fun t ht => ⟨(a t ht).1, fun k hk => Nat.lt_of_lt_of_le ((a t ht).2 k hk) hn⟩
theorem asc_acc {A : List Tm} (h : AscT n A) : AscT n (accL A) := fun t ht => by
  obtain ⟨v, hv, e⟩ := List.mem_map.mp (FM.acc_mem A (List.mem_map.mpr ⟨t, ht, rfl⟩))
  rw [← e]; exact h v hv
theorem asc_w (c : Int) : AscT n (wT c) := AscT.nrm fun t ht => by rw [List.mem_singleton.mp ht]; exact ⟨.nil, fun _ h => nomatch h⟩
theorem res_of (hn : n ≤ 5) {N S : List Tm} (hN : AscT n N) (hS : ∀ t ∈ S, ∀ k ∈ t.1, k < n) (h : ∀ b, vT N b = vT S b) : nrm N = nrm (ascL 5 S) :=
  FM.nrm_of (n := 5) (Nat.le_refl _) (asc_le5 hN hn) (FM.ascL_asc 5 _) fun b => by rw [h, FM.vT_ascL b fun t ht k hk => Nat.lt_of_lt_of_le (hS t ht k hk) hn]
theorem sc_v (A : List Tm) (c : Int) (b : Nat → Bool) : vT (scT (accL A) c) b = vT A b * c := by
  unfold scT
  rw [FM.vT_scT, FM.vT_acc]
theorem w_v (c : Int) (b : Nat → Bool) : vT (wT c) b = c := by
  unfold wT
  rw [FM.nrm_v, FM.vT_one]
theorem sc_lt (a : AscT n l) (c : Int) : ∀ t ∈ scT (accL l) c, ∀ k ∈ t.1, k < n := fun t ht => by
  obtain ⟨v, hv, rfl⟩ := List.mem_map.mp ht
  exact (asc_acc a v hv).2
theorem app_lt {S T : List Tm} (h : ∀ t ∈ S, ∀ k ∈ t.1, k < n) (k : ∀ t ∈ T, ∀ k ∈ t.1, k < n) : ∀ t ∈ S ++ T, ∀ k ∈ t.1, k < n := fun t ht => (List.mem_append.mp ht).elim (h t) (k t)
theorem one_lt (c : Int) : ∀ t ∈ [(([] : List Nat), c)], ∀ k ∈ t.1, k < n := fun t ht => by rw [List.mem_singleton.mp ht]; exact fun _ h => nomatch h
theorem res_add (hn : n ≤ 5) (a : AscT n l) (b : AscT n r) : nrm (nrm l ++ nrm r) = nrm (ascL 5 (scT (accL l) 1 ++ scT (accL r) 1)) :=
  res_of hn (a.nrm.append b.nrm) (app_lt (sc_lt a 1) (sc_lt b 1)) fun f => by rw [FM.vT_append, FM.vT_append, FM.nrm_v, FM.nrm_v, sc_v, sc_v]; omega
theorem res_sub (hn : n ≤ 5) (a : AscT n l) (b : AscT n r) : nrm (nrm l ++ negT (nrm r)) = nrm (ascL 5 (scT (accL l) 1 ++ scT (accL r) (-1))) :=
  res_of hn (a.nrm.append b.nrm.neg) (app_lt (sc_lt a 1) (sc_lt b (-1))) fun f => by rw [FM.vT_append, FM.vT_append, FM.negT_v, FM.nrm_v, FM.nrm_v, sc_v, sc_v]; omega
theorem res_mul (hn : n ≤ 5) (a : AscT n l) (b : AscT n r) : nrm (ascL n (mulT (nrm l) (nrm r))) = nrm (ascL 5 (mulT (accL l) (accL r))) :=
  res_of hn (FM.ascL_asc n _) (FM.mul_lt (asc_acc a) (asc_acc b)) fun f => by rw [FM.vT_ascL f (FM.mul_lt a.nrm b.nrm), FM.vT_mul, FM.vT_mul, FM.nrm_v, FM.nrm_v, FM.vT_acc, FM.vT_acc]
theorem res_neg (hn : n ≤ 5) (a : AscT n l) : nrm (negT (nrm l)) = nrm (ascL 5 (scT (accL l) (-1))) :=
  res_of hn a.nrm.neg (sc_lt a (-1)) fun f => by rw [FM.negT_v, FM.nrm_v, sc_v]; omega
theorem res_addI (hn : n ≤ 5) (a : AscT n l) : nrm (nrm l ++ wT c) = nrm (ascL 5 (scT (accL l) 1 ++ [([], c)])) :=
  res_of hn (a.nrm.append (asc_w c)) (app_lt (sc_lt a 1) (one_lt c)) fun f => by rw [FM.vT_append, FM.vT_append, FM.nrm_v, w_v, sc_v, FM.vT_one]; omega
theorem res_radd (hn : n ≤ 5) (a : AscT n l) : nrm (nrm l ++ wT c) = nrm (ascL 5 ([([], c)] ++ scT (accL l) 1)) :=
  res_of hn (a.nrm.append (asc_w c)) (app_lt (one_lt c) (sc_lt a 1)) fun f => by rw [FM.vT_append, FM.vT_append, FM.nrm_v, w_v, sc_v, FM.vT_one]; omega
theorem res_subI (hn : n ≤ 5) (a : AscT n l) : nrm (nrm l ++ negT (wT c)) = nrm (ascL 5 (scT (accL l) 1 ++ [([], -c)])) :=
  res_of hn (a.nrm.append (asc_w c).neg) (app_lt (sc_lt a 1) (one_lt (-c))) fun f => by rw [FM.vT_append, FM.vT_append, FM.negT_v, FM.nrm_v, w_v, sc_v, FM.vT_one]; omega
theorem res_rsub (hn : n ≤ 5) (a : AscT n l) : nrm (nrm (negT (nrm l)) ++ wT c) = nrm (ascL 5 ([([], c)] ++ scT (accL l) (-1))) :=
  res_of hn (a.nrm.neg.nrm.append (asc_w c)) (app_lt (one_lt c) (sc_lt a (-1))) fun f => by rw [FM.vT_append, FM.vT_append, FM.nrm_v, FM.negT_v, FM.nrm_v, w_v, sc_v, FM.vT_one]; omega
theorem res_mulI (hn : n ≤ 5) (a : AscT n l) : nrm (ascL n (mulT (nrm l) (wT c))) = nrm (ascL 5 (scT (accL l) c)) :=
  res_of hn (FM.ascL_asc n _) (sc_lt a c) fun f => by rw [FM.vT_ascL f (FM.mul_lt a.nrm (asc_w c)), FM.vT_mul, FM.nrm_v, w_v, sc_v]
end KP
set_option maxRecDepth 100000
set_option maxHeartbeats 4000000
/-! What the law calls; its end. -/
namespace KP
open PySem PySem.Spec PyProof.Rows L2 KT FS FD
open FM (asc addP accL coef nrm mulT ascL vT negT CbL bt)
/-- for any pool -/
def exP (s : List Sg → Sp) : Sp := fun vs H Q E => ∃ G, Pool G ∧ s G vs H Q E
theorem fn_ex {P : Program} {w : World} {K : PySem.W.Frag} {mg : Str → Option Value} {base : Heap} {CX : CXT} {k : Nat} {f : Addr} {fd : FuncData} {ps : List Str} {s : List Sg → Sp} (h : ∀ G, Pool G → FnOk P w K mg base CX k f fd ps (s G)) : FnOk P w K mg base CX k f fd ps (exP s) :=
  ⟨fun vs H Q E ⟨G, p, z⟩ => (h G p).len vs H Q E z, fun A outer st H args us vs Q E hr e0 hb r ⟨G, p, z⟩ => (h G p).run A outer st H args us vs Q E hr e0 hb r z⟩
/-- a def of the top; a method -/
def GlD (K : PySem.W.Frag) (mg : Str → Option Value) (P : Program) (w : World) (base : Heap) (n : Str) (j : Nat) (ps : List Str) (sp : Sp) : Prop := ∃ f fd, FnOk P w K mg base CX0 j f fd ps sp ∧ mg n = some (.ref f) ∧ PySem.W.keepIn K (.ref f) = true ∧ Binds K fd ps []
def MtD (K : PySem.W.Frag) (mg : Str → Option Value) (P : Program) (w : World) (base : Heap) (C : Addr) (n : Str) (j : Nat) (ps : List Str) (sp : Sp) : Prop := ∃ f fd, FnOk P w K mg base CX0 j f fd ps sp ∧ Meth K C n f ∧ Binds K fd ps []
structure LX (K : PySem.W.Frag) (mg : Str → Option Value) (P : Program) (w : World) (base : Heap) (C CS : Addr) : Prop where
  B : Blt mg
  FC : FmC K mg C
  FI : FmI K C
  SI : SiC K mg CS
  n1 : PySem.W.notFirst K C (.ref C) = true
  sf : PySem.W.selfFirst K C = true
  addI : ∃ f fd, FnOk P w K mg base CX0 10 f fd ["self", "other"] (exP fun G => spFAdd G C) ∧ Binds K fd ["self", "other"] [] ∧ Meth K C "__add__" f ∧ OwnI K C f .Add
  subI : ∃ f fd, FnOk P w K mg base CX0 11 f fd ["self", "other"] (exP fun G => spFSub G C) ∧ Binds K fd ["self", "other"] [] ∧ Meth K C "__sub__" f ∧ OwnI K C f .Sub
  mulI : ∃ f fd, FnOk P w K mg base CX0 10 f fd ["self", "other"] (exP fun G => spFMul G C) ∧ Binds K fd ["self", "other"] [] ∧ Meth K C "__mul__" f ∧ OwnI K C f .Mult
  radd : ∃ f fd, FnOk P w K mg base CX0 11 f fd ["self", "other"] (exP fun G => spFRadd G C) ∧ Binds K fd ["self", "other"] [] ∧ IOwn K C f .Add
  rsub : ∃ f fd, FnOk P w K mg base CX0 11 f fd ["self", "other"] (exP fun G => spFRsub G C) ∧ Binds K fd ["self", "other"] [] ∧ IOwn K C f .Sub
  rmul : ∃ f fd, FnOk P w K mg base CX0 11 f fd ["self", "other"] (exP fun G => spFRmul G C) ∧ Binds K fd ["self", "other"] [] ∧ IOwn K C f .Mult
  neg : MtD K mg P w base C "__neg__" 9 ["self"] (exP fun G => spFNeg G C)
  eq : MtD K mg P w base C "__eq__" 1 ["self", "other"] (exP fun G => spFEqI G C)
  when : MtD K mg P w base C "when" 1 ["self", "signs"] (exP fun G => spWhenF K G C)
  under : MtD K mg P w base C "under" 8 ["self", "sight"] (exP fun G => spUnder P w G C CS)
  ini : ∃ fi di, Mk K CS fi ∧ FnOk P w K mg base CX0 1 fi di ["self", "defaults", "exceptions"] (spSInit P w K CS) ∧ Binds K di ["self", "defaults", "exceptions"] []
  isi : GlD K mg P w base "_law_is_integer" 1 ["_law_value_here"] spIsInt
  bits : GlD K mg P w base "_law_bits" 1 ["_law_number_here"] spBits
  value : GlD K mg P w base "_law_value" 1 ["_law_form_here", "_law_truths"] spValue
  pot : GlD K mg P w base "_law_pot" 1 ["_law_script", "_law_k"] (spPot K)
  draw : GlD K mg P w base "_law_draw" 1 ["_law_pot_here", "_law_many"] spDraw
  num : GlD K mg P w base "_law_number" 2 ["_law_pot_here"] spNumber
  signs : GlD K mg P w base "_law_signs" 5 ["_law_pot_here", "_law_many"] spSigns
  terms : GlD K mg P w base "_law_terms" 3 ["_law_pot_here", "_law_most", "_law_signs_here"] spTerms
  sum : GlD K mg P w base "_law_sum" 1 ["_law_terms_here"] spSum
  times : GlD K mg P w base "_law_times" 2 ["_law_left", "_law_right"] spTimes
  scaled : GlD K mg P w base "_law_scaled" 1 ["_law_form_here", "_law_number_here"] spScaled
  first : GlD K mg P w base "_law_first" 4 ["_law_pot_here", "_law_signs_here"] spFirst
  form : GlD K mg P w base "_law_form" 9 ["_law_form_here", "_law_pool"] (exP fun G => spLForm G C)
  rr : GlD K mg P w base "_law_results_right" 5 ["_law_results", "_law_pool"] (exP fun G => spRR G C)
/-- what the law has made: the pool, the two sums and their forms -/
structure Sx (G : List Sg) (C : Addr) (H : Hp) (pl : Addr) (M : List (V × Nat)) (dl dr : Addr) (A B : List FM.Tm) (x y : Addr) : Prop where
  P : Pool G
  l4 : G.length ≤ 4
  ne : ∀ g ∈ G, g.1 ≠ g.2.1
  hP : PoolAt G H pl M
  nd : dl ≠ dr
  hA : SumAt G.length H dl A 9 1000000000000
  hB : SumAt G.length H dr B 5 1000000000000
  lA : A.length ≤ 100
  lB : B.length ≤ 100
  hx : FmAt G C H x (nrm A)
  hy : FmAt G C H y (nrm B)
theorem Sx.same {G C} {H H' : Hp} {pl M dl dr A B x y} (h : Sx G C H pl M dl dr A B x y) (s : Same H H') : Sx G C H' pl M dl dr A B x y := ⟨h.P, h.l4, h.ne, h.hP.same s, h.nd, h.hA.same s, h.hB.same s, h.lA, h.lB, h.hx.same s, h.hy.same s⟩
abbrev nLw : List Str := ["_law_script", "_law_pot_here", "_law_pool", "_law_left", "_law_right", "_law_number_here", "_law_f", "_law_g", "_law_whole", "_law_results", "_law_binary", "_law_k", "_law_truths", "_law_value_here", "_law_signs_here", "_law_told", "_law_same", "_law_defaults", "_law_exceptions", "_law_sign", "_law_i"]
section
variable {P : Program} {w : World} {K : PySem.W.Frag} {mg : Str → Option Value} {base : Heap} {C CS f : Addr} {cdv : Value} {A' : Around} {outer : List Env} {st : Shared} {H0 : Hp} {E : XK}
theorem lw29 (W : LX K mg P w base C CS) (hr : Room 12 (A'.deeper (envOfC "law" (defScope sLaw) st.heap.objs.size f cdv))) :
    ∃ u, PSs (cxOf CX0 P w K mg base nLw "law" (defScope sLaw) f cdv A' outer st H0 E).nox ((defBody sLaw).drop 29) u ∧ ∀ (G : List Sg) (Q : VK), (∀ H', Q (.bl true) H') → ∀ (v0 v1 v5 v8 v9 v10 v11 v12 v13 v14 v15 v16 v17 v18 v19 v20 : Option V) (pl dl dr x y : Addr) (M : List (V × Nat)) (A B : List FM.Tm) (H : Hp),
      Sx G C H pl M dl dr A B x y →
      u { nx := fun _ H' => Q .non H', rt := Q } [v0, v1, some (.ref pl), some (.ref dl), some (.ref dr), v5, some (.ref x), some (.ref y), v8, v9, v10, v11, v12, v13, v14, v15, v16, v17, v18, v19, v20] H := by
  obtain ⟨f1, d1, ok1, m1, k1, b1⟩ := W.rr
  refine ⟨_, pss_one (ps_ret (pe_call ok1 (hr.mono (by decide)) (by rfl) m1 k1 b1 .nil pass0 (pa_cons (pe_lst (pa_cons (pe_tup (pa_cons (pv 6) (pa_cons (pv 3) pa_nil))) (pa_cons (pe_tup (pa_cons (pv 7) (pa_cons (pv 4) pa_nil))) pa_nil))) (pa_cons (pv 2) pa_nil)))), ?_⟩
  intro G Q hQ v0 v1 v5 v8 v9 v10 v11 v12 v13 v14 v15 v16 v17 v18 v19 v20 pl dl dr x y M A B H S
  refine ⟨_, rfl, _, rfl, by show 2 ≤ sizeLine; decide, fun t1 n1 => ?_⟩
  have s1 : Same H (upd H t1 (.tup [.ref x, .ref dl])) := same_upd n1
  have h1 : upd H t1 (.tup [.ref x, .ref dl]) t1 = some (.tup [.ref x, .ref dl]) := upd_same
  generalize upd H t1 (.tup [.ref x, .ref dl]) = H1 at s1 h1
  refine ⟨_, rfl, _, rfl, by show 2 ≤ sizeLine; decide, fun t2 n2 => ?_⟩
  have s2 : Same H1 (upd H1 t2 (.tup [.ref y, .ref dr])) := same_upd n2
  have h2 : upd H1 t2 (.tup [.ref y, .ref dr]) t2 = some (.tup [.ref y, .ref dr]) := upd_same
  generalize upd H1 t2 (.tup [.ref y, .ref dr]) = H2 at s2 h2
  refine ⟨by show 2 ≤ sizeLine; decide, fun l nl => ?_⟩
  have s3 : Same H2 (upd H2 l (.lst [.ref t1, .ref t2])) := same_upd nl
  have h3 : upd H2 l (.lst [.ref t1, .ref t2]) l = some (.lst (([(.ref t1, A), (.ref t2, B)] : List (V × List FM.Tm)).map fun z => z.1)) := upd_same
  generalize upd H2 l (.lst [.ref t1, .ref t2]) = H3 at s3 h3
  have S3 := S.same ((s1.trans s2).trans s3)
  refine ⟨_, rfl, G, S.P, l, pl, M, [(.ref t1, A), (.ref t2, B)], rfl, h3, S3.hP, fun z hz => ?_, fun H4 _ => hQ H4⟩
  rcases List.mem_cons.mp hz with e | m
  · rw [e]
    exact ⟨t1, x, dl, rfl, s3 _ _ (s2 _ _ h1), S3.hx, S3.hA.at_, S3.hA.aA, S3.lA⟩
  · rw [List.mem_singleton.mp m]
    exact ⟨t2, y, dr, rfl, s3 _ _ h2, S3.hy, S3.hB.at_, S3.hB.aA, S3.lB⟩
end
end KP
set_option maxRecDepth 100000
set_option maxHeartbeats 4000000
/-! The law, under its sight. -/
namespace KP
open PySem PySem.Spec PyProof.Rows L2 KT FS FD
open FM (asc addP accL coef nrm mulT ascL vT negT CbL bt)
/-- what the law has drawn of defaults and exceptions -/
structure Dx (G : List Sg) (H : Hp) (tr dd ee : Addr) (L : List (V × Pt)) (U : List (V × Sg)) : Prop where
  hd : H dd = some (.lst (L.map fun z => z.1))
  hL : ∀ y ∈ L, IsPt H y.1 y.2
  he : H ee = some (.lst (U.map fun z => z.1))
  hU : ∀ y ∈ U, IsSg H y.1 y.2
  l1 : L.length ≤ 5
  l2 : U.length ≤ 5
  ht : H tr = some (.lst ((List.range G.length).map fun k => .bl (siB G (L.map fun z => z.2) (U.map fun z => z.2) k)))
theorem Sx.ln {G C} {H : Hp} {pl M dl dr A B x y} (S : Sx G C H pl M dl dr A B x y) : (nrm A).length ≤ 9 := by
  have h := S.hA.ln
  refine Nat.le_trans ?_ h
  unfold nrm
  rw [List.length_mergeSort]
  exact List.length_filter_le _ _
section
variable {P : Program} {w : World} {K : PySem.W.Frag} {mg : Str → Option Value} {base : Heap} {C CS f : Addr} {cdv : Value} {A' : Around} {outer : List Env} {st : Shared} {H0 : Hp} {E : XK}
theorem lw27 (W : LX K mg P w base C CS) (hr : Room 12 (A'.deeper (envOfC "law" (defScope sLaw) st.heap.objs.size f cdv))) :
    ∃ u, PSs (cxOf CX0 P w K mg base nLw "law" (defScope sLaw) f cdv A' outer st H0 E).nox ((defBody sLaw).drop 27) u ∧ ∀ (G : List Sg) (Q : VK), (∀ H', Q (.bl true) H') → ∀ (v0 v1 v5 v8 v9 v10 v11 v13 v14 v15 v16 v19 v20 : Option V) (pl dl dr x y tr dd ee : Addr) (M : List (V × Nat)) (A B : List FM.Tm) (L : List (V × Pt)) (U : List (V × Sg)) (H : Hp),
      Sx G C H pl M dl dr A B x y → Dx G H tr dd ee L U →
      u { nx := fun _ H' => Q .non H', rt := Q } [v0, v1, some (.ref pl), some (.ref dl), some (.ref dr), v5, some (.ref x), some (.ref y), v8, v9, v10, v11, some (.ref tr), v13, v14, v15, v16, some (.ref dd), some (.ref ee), v19, v20] H := by
  obtain ⟨u, pu, hq⟩ := lw29 (P := P) (w := w) (K := K) (base := base) (f := f) (cdv := cdv) (A' := A') (outer := outer) (st := st) (H0 := H0) (E := E) W hr
  obtain ⟨f1, d1, ok1, m1, b1⟩ := W.under
  obtain ⟨fi, di, mk, ok2, b2⟩ := W.ini
  obtain ⟨f3, d3, ok3, m3, k3, b3⟩ := W.isi
  obtain ⟨f4, d4, ok4, m4, k4, b4⟩ := W.value
  have hr1 := hr.mono (show 1 ≤ 12 by decide)
  refine ⟨_, pss_cons (ps_set (i := 15) scLaw.nd rfl (.inl rfl) (pe_meth (pv 6) W.FC.cl m1 ok1 (hr.mono (by decide)) b1 .nil pass0 (pa_cons (pe_make mk ok2 (hr.mono (by decide)) (by rfl) W.SI.mgC b2 .nil pass0 (pa_cons (pv 17) (pa_cons (pv 18) pa_nil))) pa_nil)))
    (pss_cons (ps_if (PW.pt (pw_or (pt_not (pt_val (pe_call ok3 hr1 (by rfl) m3 k3 b3 .nil pass0 (pa_cons (pv 15) pa_nil)))) (pw_or1 (pt_cmpR op_ne (pv 15) (pe_call ok4 hr1 (by rfl) m4 k4 b4 .nil pass0 (pa_cons (pv 3) (pa_cons (pv 12) pa_nil))) (nomark _))))) (pss_one (ps_ret pe_bl)) pss_nil) pu), ?_⟩
  intro G Q hQ v0 v1 v5 v8 v9 v10 v11 v13 v14 v15 v16 v19 v20 pl dl dr x y tr dd ee M A B L U H S D
  obtain ⟨dx, tx, ex, _⟩ := id S.hx
  refine ⟨_, rfl, x, dx, _, rfl, ex, no_attr (by decide +kernel), ?_⟩
  refine ⟨_, rfl, _, rfl, fun z dz nz nd ne => ?_⟩
  obtain ⟨s1, h1⟩ := made (C := CS) nz nd
  have hl1 := D.l1
  have hl2 := D.l2
  refine ⟨z, dz, dd, ee, L, U, rfl, h1, (SqA.same (.inl (SqL.of D.hd)) s1), fun y hy => (D.hL y hy).same s1, (SqA.same (.inl (SqL.of D.he)) s1), fun y hy => (D.hU y hy).same s1, by omega, by omega, fun H1 hS hb => ⟨rfl, ?_⟩⟩
  have s01 : Same H H1 := fun c o e => hb c o (s1 c o e) (ne_of_none e nz)
  have ln := S.ln
  refine ⟨G, S.P, x, z, nrm A, _, _, rfl, S.hx.same s01, by omega, hS, fun H2 s2 => ?_⟩
  have s02 := s01.trans s2
  have S2 := S.same s02
  refine ⟨_, rfl, _, rfl, _, rfl, iteF ?_⟩
  refine ⟨_, rfl, _, rfl, _, rfl, dl, tr, accL A, _, G.length, rfl, S2.hA.at_, FM.acc_nd A, fun t ht => ⟨Nat.le_trans (S2.hA.bl S.l4 t ht).1 (by decide), (S2.hA.bl S.l4 t ht).2⟩, s02 _ _ D.ht, fun H3 s3 => ⟨rfl, _, rfl, ?_⟩⟩
  rw [FM.nrm_v, FM.vT_acc]
  rw [show ∀ z : V, (!decide (z = z)) = false from fun z => by simp]
  exact iteF (hq G Q hQ v0 v1 v5 v8 v9 v10 v11 _ v13 v14 _ v16 _ _ v19 v20 pl dl dr x y M A B H3 (S2.same s3))
end
end KP
set_option maxRecDepth 100000
set_option maxHeartbeats 4000000
/-! The law's draws for its sight. -/
namespace KP
open PySem PySem.Spec PyProof.Rows L2 KT FS FD
open FM (asc addP accL coef nrm mulT ascL vT negT CbL bt)
theorem PoolAt.row {G : List Sg} {H : Hp} {pl : Addr} {M : List (V × Nat)} (h : PoolAt G H pl M) {i : Nat} {v : V} (hv : (M.map fun z => z.1)[i]? = some v) : i < G.length ∧ IsSg H v (at' G i) := by
  obtain ⟨k, hk⟩ := at_map hv
  have e : (M.map fun z => z.2)[i]? = some k := by rw [List.getElem?_map, hk]; rfl
  rw [h.sn] at e
  obtain ⟨h1, h2⟩ := List.getElem?_eq_some_iff.mp e
  rw [List.length_range] at h1
  rw [List.getElem_range] at h2
  subst h2
  exact ⟨h1, (h.sg _ (List.mem_of_getElem? hk)).1⟩
section
variable {P : Program} {w : World} {K : PySem.W.Frag} {mg : Str → Option Value} {base : Heap} {C CS f : Addr} {cdv : Value} {A' : Around} {outer : List Env} {st : Shared} {H0 : Hp} {E : XK}
theorem lw26 (W : LX K mg P w base C CS) (hr : Room 12 (A'.deeper (envOfC "law" (defScope sLaw) st.heap.objs.size f cdv))) :
    ∃ u, PSs (cxOf CX0 P w K mg base nLw "law" (defScope sLaw) f cdv A' outer st H0 E).nox ((defBody sLaw).drop 26) u ∧ ∀ (G : List Sg) (Q : VK), (∀ H', Q (.bl true) H') → ∀ (v0 v1 v5 v8 v9 v10 v11 v12 v13 v14 v15 v16 v19 v20 : Option V) (pl dl dr x y dd ee : Addr) (M : List (V × Nat)) (A B : List FM.Tm) (L : List (V × Pt)) (U : List (V × Sg)) (H : Hp),
      Sx G C H pl M dl dr A B x y → H dd = some (.lst (L.map fun z => z.1)) → (∀ y ∈ L, IsPt H y.1 y.2) → H ee = some (.lst (U.map fun z => z.1)) → (∀ y ∈ U, IsSg H y.1 y.2) → L.length ≤ 5 → U.length ≤ 5 →
      u { nx := fun _ H' => Q .non H', rt := Q } [v0, v1, some (.ref pl), some (.ref dl), some (.ref dr), v5, some (.ref x), some (.ref y), v8, v9, v10, v11, v12, v13, v14, v15, v16, some (.ref dd), some (.ref ee), v19, v20] H := by
  have hu := hr.units
  obtain ⟨u, pu, hq⟩ := lw27 (P := P) (w := w) (K := K) (base := base) (f := f) (cdv := cdv) (A' := A') (outer := outer) (st := st) (H0 := H0) (E := E) W hr
  refine ⟨_, pss_cons (ps_set (i := 12) scLaw.nd rfl (.inr rfl) (pe_lc (own := [("_law_sign", 19)]) (g := gName 19) (tt := tYes) rfl scLaw.nd (pi_list (pv 2)) (blkOk_by (N := nLw) (sc := defScope sLaw) (by decide +kernel)) (fun _ _ _ _ _ => pg_name (i := 19) scLaw.nd rfl (.inl rfl)) (fun _ _ _ _ _ => pts_nil)
    (fun _ _ _ _ _ => pe_cmpR op_ne (pe_cmpR (show OpR _ _ (rInK K) from op_inK hu) (pe_tup (pa_cons (pe_ix (show IxR _ (rIxT K) from ix_tup) (pv 19) pe_int (fun _ _ => rfl)) (pa_cons (pe_ix (show IxR _ (rIxT K) from ix_tup) (pv 19) pe_int (fun _ _ => rfl)) pa_nil))) (pv 17) rfl) (pe_cmpR (show OpR _ _ (rInK K) from op_inK hu) (pv 19) (pv 18) rfl) (nomark _)))) pu, ?_⟩
  intro G Q hQ v0 v1 v5 v8 v9 v10 v11 v12 v13 v14 v15 v16 v19 v20 pl dl dr x y dd ee M A B L U H S hd hL he hU l1 l2
  have hP := S.hP
  have g4 := S.l4
  have lM : (M.map fun z : V × Nat => z.1).length = G.length := by rw [List.length_map, hP.len]
  refine ⟨_, rfl, pl, rfl, ⟨_, SqL.of hP.at_⟩, fun D nD => lc_it (walk_list (K := K) (a := pl) (xs := M.map fun z => z.1)) (fun i H2 => Same H H2 ∧ H2 D = some (.lst ((List.range i).map fun k => .bl (siB G (L.map fun z => z.2) (U.map fun z => z.2) k))))
    ⟨same_upd nD, upd_same⟩ (fun i H2 _ h2 => SqL.of (h2.1 _ _ hP.at_)) ?_ ?_⟩
  · rintro i v H2 H3 hi ⟨s2, hD⟩ ⟨rfl, hv⟩
    obtain ⟨ib, hg⟩ := (hP.same s2).row hv
    rw [lM] at hi
    obtain ⟨b, c, rfl, h1, h2⟩ := id hg
    refine ⟨rfl, yes_i ⟨_, rfl, b, _, _, _, rfl, rfl, SqT.of h1, atI_nat (j := 0) rfl, _, rfl, b, _, _, _, rfl, rfl, SqT.of h1, atI_nat (j := 1) rfl, by show 2 ≤ sizeLine; decide, fun T nT => ?_⟩⟩
    have s4 : Same H3 (upd H3 T (.tup [.str (at' G i).1, .str (at' G i).2.1])) := same_upd nT
    have hTt : upd H3 T (.tup [.str (at' G i).1, .str (at' G i).2.1]) T = some (.tup [.str (at' G i).1, .str (at' G i).2.1]) := upd_same
    generalize upd H3 T (.tup [.str (at' G i).1, .str (at' G i).2.1]) = H4 at s4 hTt
    have kt : KI H4 (.ref T) (ptK ((at' G i).1, (at' G i).2.1)) := IsPt.ki ⟨T, rfl, hTt⟩
    have s04 := s2.trans s4
    have k1 : KIs H4 (L.map fun z => z.1) (L.map fun z => ptK z.2) := kis_map fun z hz => ((hL z hz).same s04).ki
    have k2 : KIs H4 (U.map fun z => z.1) (U.map fun z => sgK z.2) := kis_map fun z hz => ((hU z hz).same s04).ki
    refine ⟨_, rfl, ptK ((at' G i).1, (at' G i).2.1), _, dd, _, rfl, SqL.of (s04 _ _ hd), kt, k1, Nat.le_trans (ptK_depth _) (by decide), ?_⟩
    refine ⟨_, rfl, _, rfl, sgK (at' G i), _, ee, _, rfl, SqL.of (s04 _ _ he), (hg.same s4).ki, k2, Nat.le_trans (sgK_d8 _) (by decide), rfl, ?_⟩
    have e1 : decide (ptK ((at' G i).1, (at' G i).2.1) ∈ L.map fun z => ptK z.2) = decide (((at' G i).1, (at' G i).2.1) ∈ L.map fun z => z.2) := decide_eq_decide.mpr ⟨fun h => by
      obtain ⟨z, hz, e⟩ := List.mem_map.mp h
      exact List.mem_map.mpr ⟨z, hz, ptK_inj _ _ e⟩, fun h => by
      obtain ⟨z, hz, e⟩ := List.mem_map.mp h
      exact List.mem_map.mpr ⟨z, hz, by rw [e]⟩⟩
    have e2 : decide (sgK (at' G i) ∈ U.map fun z => sgK z.2) = decide (at' G i ∈ U.map fun z => z.2) := decide_eq_decide.mpr ⟨fun h => by
      obtain ⟨z, hz, e⟩ := List.mem_map.mp h
      exact List.mem_map.mpr ⟨z, hz, sgK_inj e⟩, fun h => by
      obtain ⟨z, hz, e⟩ := List.mem_map.mp h
      exact List.mem_map.mpr ⟨z, hz, by rw [e]⟩⟩
    rw [e1, e2]
    have e3 : (!decide (V.bl (decide (((at' G i).1, (at' G i).2.1) ∈ L.map fun z => z.2)) = V.bl (decide (at' G i ∈ U.map fun z => z.2)))) = siB G (L.map fun z => z.2) (U.map fun z => z.2) i := by
      unfold siB
      cases decide (((at' G i).1, (at' G i).2.1) ∈ L.map fun z => z.2) <;> cases decide (at' G i ∈ U.map fun z => z.2) <;> rfl
    rw [e3]
    refine ⟨_, s4 _ _ hD, small1000 (by rw [List.length_map, List.length_range]; omega), fun c o e => by rw [upd_ne (ne_of_none e nD)]; exact s04 _ _ e, ?_⟩
    rw [upd_same, List.range_succ, List.map_append]
    rfl
  · rintro H2 ⟨s2, hD⟩
    rw [lM] at hD
    exact hq G Q hQ v0 v1 v5 v8 v9 v10 v11 v13 v14 v15 v16 v19 v20 pl dl dr x y D dd ee M A B L U H2 (S.same s2) ⟨s2 _ _ hd, fun y hy => (hL y hy).same s2, s2 _ _ he, fun y hy => (hU y hy).same s2, l1, l2, hD⟩
end
end KP
set_option maxRecDepth 100000
set_option maxHeartbeats 4000000
/-! The law's draws of defaults and exceptions. -/
namespace KP
open PySem PySem.Spec PyProof.Rows L2 KT FS FD
open FM (asc addP accL coef nrm mulT ascL vT negT CbL bt)
theorem IsPt.but {H H' : Hp} {v p} {d : Addr} {o : HO} (h : IsPt H v p) (b : But d H H') (hd : H d = some o) (n : ∀ xs, o ≠ .tup xs) : IsPt H' v p := by
  obtain ⟨t, e, h⟩ := h
  exact ⟨t, e, b _ _ h (by rintro rfl; rw [hd] at h; exact n _ (Option.some.inj h))⟩
section
variable {P : Program} {w : World} {K : PySem.W.Frag} {mg : Str → Option Value} {base : Heap} {C CS f : Addr} {cdv : Value} {A' : Around} {outer : List Env} {st : Shared} {H0 : Hp} {E : XK}
theorem lw23 (W : LX K mg P w base C CS) (hr : Room 12 (A'.deeper (envOfC "law" (defScope sLaw) st.heap.objs.size f cdv))) :
    ∃ u, PSs (cxOf CX0 P w K mg base nLw "law" (defScope sLaw) f cdv A' outer st H0 E).nox ((defBody sLaw).drop 23) u ∧ ∀ (G : List Sg) (Q : VK), (∀ H', Q (.bl true) H') → ∀ (v1 v5 v8 v9 v10 v11 v12 v13 v14 v15 v16 v17 v18 v19 v20 : Option V) (sc pl dl dr x y : Addr) (ss : List Int) (M : List (V × Nat)) (A B : List FM.Tm) (H : Hp),
      Sx G C H pl M dl dr A B x y → SqL K H sc (ss.map V.int) →
      u { nx := fun _ H' => Q .non H', rt := Q } [some (.ref sc), v1, some (.ref pl), some (.ref dl), some (.ref dr), v5, some (.ref x), some (.ref y), v8, v9, v10, v11, v12, v13, v14, v15, v16, v17, v18, v19, v20] H := by
  obtain ⟨u, pu, hq⟩ := lw26 (P := P) (w := w) (K := K) (base := base) (f := f) (cdv := cdv) (A' := A') (outer := outer) (st := st) (H0 := H0) (E := E) W hr
  obtain ⟨f1, d1, ok1, m1, k1, b1⟩ := W.pot
  obtain ⟨f2, d2, ok2, m2, k2, b2⟩ := W.draw
  have hr1 := hr.mono (show 1 ≤ 12 by decide)
  refine ⟨_, pss_cons (ps_set (i := 1) scLaw.nd rfl (.inr rfl) (pe_call ok1 hr1 (by rfl) m1 k1 b1 .nil pass0 (pa_cons (pv 0) (pa_cons pe_int pa_nil))))
    (pss_cons (ps_set (i := 17) scLaw.nd rfl (.inr rfl) (pe_lc (own := [("_law_sign", 19)]) (g := gName 19) rfl scLaw.nd (pi_list (pv 2)) (blkOk_by (N := nLw) (sc := defScope sLaw) (by decide +kernel)) (fun _ _ _ _ _ => pg_name (i := 19) scLaw.nd rfl (.inl rfl))
      (fun _ _ _ _ _ => pts_one (pt_cmpR op_eq (pe_call ok2 hr1 (by rfl) m2 k2 b2 .nil pass0 (pa_cons (pv 1) (pa_cons pe_int pa_nil))) pe_int (nomark _)))
      (fun _ _ _ _ _ => pe_tup (pa_cons (pe_ix (show IxR _ (rIxT K) from ix_tup) (pv 19) pe_int (fun _ _ => rfl)) (pa_cons (pe_ix (show IxR _ (rIxT K) from ix_tup) (pv 19) pe_int (fun _ _ => rfl)) pa_nil)))))
    (pss_cons (ps_set (i := 18) scLaw.nd rfl (.inr rfl) (pe_lc (own := [("_law_sign", 19)]) (g := gName 19) rfl scLaw.nd (pi_list (pv 2)) (blkOk_by (N := nLw) (sc := defScope sLaw) (by decide +kernel)) (fun _ _ _ _ _ => pg_name (i := 19) scLaw.nd rfl (.inl rfl))
      (fun _ _ _ _ _ => pts_one (pt_cmpR op_eq (pe_call ok2 hr1 (by rfl) m2 k2 b2 .nil pass0 (pa_cons (pv 1) (pa_cons pe_int pa_nil))) pe_int (nomark _)))
      (fun _ _ _ _ _ => pv 19))) pu)), ?_⟩
  intro G Q hQ v1 v5 v8 v9 v10 v11 v12 v13 v14 v15 v16 v17 v18 v19 v20 sc pl dl dr x y ss M A B H S hsc
  have g4 := S.l4
  have lM : (M.map fun z : V × Nat => z.1).length = G.length := by rw [List.length_map, S.hP.len]
  refine ⟨_, rfl, sc, ss, 4, rfl, hsc, fun p0 H1 s1 n0 hp1 => ?_⟩
  have S1 := S.same s1
  refine ⟨_, rfl, pl, rfl, ⟨_, SqL.of S1.hP.at_⟩, fun D nD => ?_⟩
  have npD : p0 ≠ D := hp1.ne nD
  refine lc_it (walk_list (K := K) (a := pl) (xs := M.map fun z => z.1)) (fun i H2 => ∃ L : List (V × Pt), PotAt H2 p0 ∧ But p0 H1 H2 ∧ H2 D = some (.lst (L.map fun z => z.1)) ∧ (∀ y ∈ L, IsPt H2 y.1 y.2) ∧ L.length ≤ i)
    ⟨[], hp1.upd npD, But.of (same_upd nD), upd_same, (fun _ h => nomatch h), Nat.le_refl _⟩ (fun i H2 _ ⟨_, _, b2, _⟩ => SqL.of ((S.same (since s1 n0 b2)).hP.at_)) ?_ ?_
  · rintro i v H2 H3 hi ⟨L, hp2, b2, hD, hL, lL⟩ ⟨rfl, hv⟩
    have s3 := since s1 n0 b2
    obtain ⟨ib, hg⟩ := (S.same s3).hP.row hv
    rw [lM] at hi
    refine ⟨rfl, _, rfl, p0, 2, rfl, hp2, by decide, fun _ H4 _ _ hp4 b4 => ⟨rfl, _, rfl, ?_⟩⟩
    have hD4 := b4 _ _ hD (Ne.symm npD)
    obtain ⟨px, pe⟩ := hp2.at
    have hL4 : ∀ y ∈ L, IsPt H4 y.1 y.2 := fun y hy => (hL y hy).but b4 pe fun xs z => by cases z
    have hg4 : IsSg H4 v (at' G i) := hg.but b4 pe fun xs z => by cases z
    refine ite2 (fun _ => ?_) fun _ => ⟨L, hp4, b2.trans b4, hD4, hL4, by omega⟩
    obtain ⟨b, c, rfl, h1, h2⟩ := id hg4
    refine ⟨_, rfl, b, _, _, _, rfl, rfl, SqT.of h1, atI_nat (j := 0) rfl, _, rfl, b, _, _, _, rfl, rfl, SqT.of h1, atI_nat (j := 1) rfl, by show 2 ≤ sizeLine; decide, fun T nT => ?_⟩
    have s5 : Same H4 (upd H4 T (.tup [.str (at' G i).1, .str (at' G i).2.1])) := same_upd nT
    have hTt : upd H4 T (.tup [.str (at' G i).1, .str (at' G i).2.1]) T = some (.tup [.str (at' G i).1, .str (at' G i).2.1]) := upd_same
    have hp5 := hp4.upd (D := T) (o := .tup [.str (at' G i).1, .str (at' G i).2.1]) (hp4.ne nT)
    generalize upd H4 T (.tup [.str (at' G i).1, .str (at' G i).2.1]) = H5 at s5 hTt hp5
    have hD5 := s5 _ _ hD4
    refine ⟨_, hD5, small1000 (by rw [List.length_map]; omega), L ++ [(.ref T, ((at' G i).1, (at' G i).2.1))], hp5.upd npD, but_new ((b2.trans b4).same s5) nD, by rw [upd_same, List.map_append]; rfl, fun y hy => ?_, by rw [List.length_append]; show L.length + 1 ≤ _; omega⟩
    refine IsPt.but (d := D) ?_ But.upd hD5 fun xs z => by cases z
    rcases List.mem_append.mp hy with m | m
    · exact (hL4 y m).same s5
    · rw [List.mem_singleton.mp m]; exact ⟨T, rfl, hTt⟩
  · rintro H2 ⟨L, hp2, b2, hD, hL, lL⟩
    rw [lM] at lL
    have s2 := since s1 n0 b2
    have S2 := S.same s2
    refine ⟨_, rfl, pl, rfl, ⟨_, SqL.of S2.hP.at_⟩, fun D2 n2 => ?_⟩
    have np2 : p0 ≠ D2 := hp2.ne n2
    refine lc_it (walk_list (K := K) (a := pl) (xs := M.map fun z => z.1)) (fun i H3 => ∃ U : List (V × Sg), PotAt H3 p0 ∧ But p0 H2 H3 ∧ H3 D2 = some (.lst (U.map fun z => z.1)) ∧ (∀ y ∈ U, IsSg H3 y.1 y.2) ∧ U.length ≤ i)
      ⟨[], hp2.upd np2, But.of (same_upd n2), upd_same, (fun _ h => nomatch h), Nat.le_refl _⟩ (fun i H3 _ ⟨_, _, b3, _⟩ => SqL.of ((S.same (since s1 n0 (b2.trans b3))).hP.at_)) ?_ ?_
    · rintro i v H3 H4 hi ⟨U, hp3, b3, hD2, hU, lU⟩ ⟨rfl, hv⟩
      obtain ⟨ib, hg⟩ := (S.same (since s1 n0 (b2.trans b3))).hP.row hv
      rw [lM] at hi
      refine ⟨rfl, _, rfl, p0, 2, rfl, hp3, by decide, fun _ H5 _ _ hp5 b5 => ⟨rfl, _, rfl, ?_⟩⟩
      have hD5 := b5 _ _ hD2 (Ne.symm np2)
      obtain ⟨px, pe⟩ := hp3.at
      have hU5 : ∀ y ∈ U, IsSg H5 y.1 y.2 := fun y hy => (hU y hy).but b5 pe fun xs z => by cases z
      have hg5 : IsSg H5 v (at' G i) := hg.but b5 pe fun xs z => by cases z
      refine ite2 (fun _ => ?_) fun _ => ⟨U, hp5, b3.trans b5, hD5, hU5, by omega⟩
      refine ⟨_, rfl, _, hD5, small1000 (by rw [List.length_map]; omega), U ++ [(v, at' G i)], hp5.upd np2, but_new (b3.trans b5) n2, by rw [upd_same, List.map_append]; rfl, fun y hy => ?_, by rw [List.length_append]; show U.length + 1 ≤ _; omega⟩
      refine IsSg.but (d := D2) ?_ But.upd hD5 fun xs z => by cases z
      rcases List.mem_append.mp hy with m | m
      · exact hU5 y m
      · rw [List.mem_singleton.mp m]; exact hg5
    · rintro H3 ⟨U, hp3, b3, hD2, hU, lU⟩
      rw [lM] at lU
      obtain ⟨px, pe⟩ := hp2.at
      have S3 := S.same (since s1 n0 (b2.trans b3))
      exact hq G Q hQ _ _ v5 v8 v9 v10 v11 v12 v13 v14 v15 v16 v19 v20 pl dl dr x y D D2 M A B L U H3 S3 (b3 _ _ hD (Ne.symm npD)) (fun y hy => (hL y hy).but b3 pe fun xs z => by cases z) hD2 hU (by omega) (by omega)
end
end KP
set_option maxRecDepth 100000
set_option maxHeartbeats 4000000
/-! The law, a form and its square. -/
namespace KP
open PySem PySem.Spec PyProof.Rows L2 KT FS FD
open FM (asc addP accL coef nrm mulT ascL vT negT CbL bt)
theorem Sx.cb {G C} {H : Hp} {pl M dl dr A B x y} (S : Sx G C H pl M dl dr A B x y) : ∀ t ∈ nrm A, -(2 ^ 64) < t.2 ∧ t.2 < 2 ^ 64 := fun t ht => by
  have := S.hA.bd t (FM.mem_nrm.mp ht).1
  omega
theorem u0' {A : Around} (h : A.units + 64 < cLine) : A.units < cLine := Nat.lt_of_le_of_lt (Nat.le_add_right _ 64) h
section
variable {P : Program} {w : World} {K : PySem.W.Frag} {mg : Str → Option Value} {base : Heap} {C CS f : Addr} {cdv : Value} {A' : Around} {outer : List Env} {st : Shared} {H0 : Hp} {E : XK}
theorem lw21 (W : LX K mg P w base C CS) (hr : Room 12 (A'.deeper (envOfC "law" (defScope sLaw) st.heap.objs.size f cdv))) :
    ∃ u, PSs (cxOf CX0 P w K mg base nLw "law" (defScope sLaw) f cdv A' outer st H0 E).nox ((defBody sLaw).drop 21) u ∧ ∀ (G : List Sg) (Q : VK), (∀ H', Q (.bl true) H') → ∀ (v1 v5 v8 v9 v11 v12 v13 v14 v15 v16 v17 v18 v19 v20 : Option V) (sc pl dl dr x y : Addr) (ss : List Int) (M : List (V × Nat)) (A B : List FM.Tm) (bin : Bool) (H : Hp),
      Sx G C H pl M dl dr A B x y → SqL K H sc (ss.map V.int) → (bin = true ↔ ∀ m, m < 16 → vT A (bt m) = 0 ∨ vT A (bt m) = 1) →
      u { nx := fun _ H' => Q .non H', rt := Q } [some (.ref sc), v1, some (.ref pl), some (.ref dl), some (.ref dr), v5, some (.ref x), some (.ref y), v8, v9, some (.bl bin), v11, v12, v13, v14, v15, v16, v17, v18, v19, v20] H := by
  obtain ⟨u, pu, hq⟩ := lw23 (P := P) (w := w) (K := K) (base := base) (f := f) (cdv := cdv) (A' := A') (outer := outer) (st := st) (H0 := H0) (E := E) W hr
  obtain ⟨f1, d1, ok1, m1, b1⟩ := W.eq
  obtain ⟨f2, d2, ok2, b2, m2, _⟩ := W.mulI
  refine ⟨_, pss_cons (ps_set (i := 16) scLaw.nd rfl (.inl rfl) (pe_cmpR (op_eqOwn (u0' hr.units) m1.at_ m1.fn ok1 (hr.mono (by decide)) b1 pass0) (pe_op (op_own (op := .Mult) W.sf m2.at_ m2.fn ok2 (hr.mono (by decide)) b2 pass0) (pv 6) (pv 6)) (pv 6) (nomark _)))
    (pss_cons (ps_if (PW.pt (pw_or (pt_not (pt_val (pe_callB call_isi (by rfl) W.B.isinstance (by decide +kernel) (pa_cons (pv 16) (pa_cons (pe_bltn (v := .ty "bool") (by rfl) W.B.bool (by decide +kernel) rfl) pa_nil)))))
        (pw_or1 (pt_cmpR op_ne (pv 16) (pv 10) (nomark _))))) (pss_one (ps_ret pe_bl)) pss_nil) pu), ?_⟩
  intro G Q hQ v1 v5 v8 v9 v11 v12 v13 v14 v15 v16 v17 v18 v19 v20 sc pl dl dr x y ss M A B bin H S hsc ebin
  have g4 := S.l4
  have ln := S.ln
  obtain ⟨dx, tx, ex, _⟩ := id S.hx
  have lnn : (nrm A).length * (nrm A).length ≤ 9 * 9 := Nat.mul_le_mul ln ln
  refine ⟨_, rfl, _, rfl, x, x, dx, dx, _, _, rfl, rfl, ex, ex, G, S.P, x, .ref x, _, _, rfl, S.hx, .inl ⟨x, rfl, S.hx⟩, by omega, S.cb, fun z H1 s1 nz hz => ⟨⟨_, rfl⟩, ?_⟩⟩
  have S1 := S.same s1
  obtain ⟨dz, tz, ez, _⟩ := id hz
  obtain ⟨dx1, tx1, ex1, _⟩ := id S1.hx
  have ty : TyX K H1 (.ref x) (.ref C) := .base (.ins ex1 W.FC.cl W.FI.ha W.FI.hn W.FI.htk W.FI.hm)
  refine ⟨_, rfl, z, dz, _, _, rfl, ez, ty, W.n1, G, S.P, z, _, _, rfl, hz, .inl ⟨x, _, rfl, S1.hx, _, rfl, ?_⟩⟩
  have e : decide (nrm (ascL G.length (mulT (nrm A) (nrm A))) = nrm A) = bin := by
    rw [Bool.eq_iff_iff, decide_eq_true_iff, ebin]
    exact FM.binary_iff g4 S.hA.aA
  rw [e]
  refine ⟨_, rfl, _, _, _, _, _, rfl, .ty _, .base (.bl _), kit_ty (r := true) (by decide +kernel), _, rfl, iteF ?_⟩
  refine ⟨_, rfl, _, rfl, rfl, _, rfl, ?_⟩
  rw [show ∀ z : V, (!decide (z = z)) = false from fun z => by simp]
  exact iteF (hq G Q hQ v1 v5 v8 v9 _ v11 v12 v13 v14 v15 _ v17 v18 v19 v20 sc pl dl dr x y ss M A B H1 S1 (s1.seq hsc))
end
end KP
set_option maxRecDepth 100000
set_option maxHeartbeats 4000000
/-! The law's values: a turn from its signs on. -/
namespace FM
theorem vT_bd {B : Int} (hB : 0 ≤ B) (b : Nat → Bool) : ∀ {T : List Tm}, CbL B T → -((T.length : Int) * B) ≤ vT T b ∧ vT T b ≤ (T.length : Int) * B
  | [], _ => by simp [vT]
  | t :: T, h => by
    have ih := vT_bd hB b (T := T) fun u hu => h u (List.mem_cons_of_mem _ hu)
    have h0 := h t List.mem_cons_self
    have e : (((t :: T).length : Nat) : Int) * B = (T.length : Int) * B + B := by rw [List.length_cons, Int.natCast_add, Int.add_mul]; simp
    rw [vT_cons, e]
    split <;> omega
end FM
namespace KP
open PySem PySem.Spec PyProof.Rows L2 KT FS FD
open FM (asc addP accL coef nrm mulT ascL vT negT CbL bt)
theorem PoolAt.nth {G : List Sg} {H : Hp} {pl : Addr} {M} (h : PoolAt G H pl M) {k : Nat} (hk : k < G.length) {i : Int} (e : i = (k : Int)) : ∃ v, atI (M.map fun z => z.1) i = some v ∧ IsSg H v (at' G k) := by subst e; exact h.get hk
theorem at_mem {G : List Sg} {k : Nat} (hk : k < G.length) : at' G k ∈ G := by
  unfold at'
  rw [List.getD_eq_getElem?_getD, List.getElem?_eq_getElem hk]
  exact List.getElem_mem hk
theorem SumAt.vb {n} {H : Hp} {d A} (h : SumAt n H d A 9 1000000000000) (b : Nat → Bool) : -(2 ^ 64) < vT A b ∧ vT A b < 2 ^ 64 := by
  have z := FM.vT_bd (by decide) b h.bd
  rw [FM.vT_acc] at z
  have := h.ln
  omega
/-- the product among the results -/
structure Mx (G : List Sg) (C : Addr) (H : Hp) (A B : List FM.Tm) (rl : Addr) (xs : List V) (t z dz : Addr) (N : List FM.Tm) : Prop where
  hr : H rl = some (.lst xs)
  h2 : xs[2]? = some (.ref t)
  ht : H t = some (.tup [.ref z, .ref dz])
  hz : FmAt G C H z N
  ln : N.length ≤ 45
  hv : ∀ f, vT N f = vT A f * vT B f
theorem Mx.same {G C} {H H' : Hp} {A B rl xs t z dz N} (h : Mx G C H A B rl xs t z dz N) (s : Same H H') : Mx G C H' A B rl xs t z dz N := ⟨s _ _ h.hr, h.h2, s _ _ h.ht, h.hz.same s, h.ln, h.hv⟩
def noneS : Sg := ("none", "none", [some 0])
theorem when_of {G : List Sg} (PG : Pool G) {C} {H : Hp} {x : Addr} {N : List FM.Tm} (h : FmAt G C H x N) {U : List (V × Nat)} (hU : ∀ z ∈ U, z.2 < G.length) {b : Nat → Bool} (eU : U.map (fun z => z.2) = (List.range G.length).filter b) {L : List (V × Sg)}
    (e : ∀ k, k < G.length → (at' G k ∈ L.map (fun z => z.2) ↔ at' G k ∈ (U.map fun z => (z.1, at' G z.2)).map fun z => z.2)) : vT N (fun k => decide (at' G k ∈ L.map fun z => z.2)) = vT N b := by
  obtain ⟨_, _, _, _, aN⟩ := h
  refine FM.vT_congr fun t ht k hk => ?_
  have kb := (aN t ht).2 k hk
  rw [Bool.eq_iff_iff, decide_eq_true_iff, e k kb, idx_mem PG hU kb, eU, List.mem_filter, List.mem_range]
  exact ⟨fun h => h.2, fun h => ⟨kb, h⟩⟩
section
variable {P : Program} {w : World} {K : PySem.W.Frag} {mg : Str → Option Value} {base : Heap} {C CS f : Addr} {cdv : Value} {A' : Around} {outer : List Env} {st : Shared} {H0 : Hp} {E : XK}
theorem lt3 (W : LX K mg P w base C CS) (hr : Room 12 (A'.deeper (envOfC "law" (defScope sLaw) st.heap.objs.size f cdv))) (stm : Stmt) (hs : ((defBody sLaw)[20]?) = some stm) :
    ∃ u, PSs (cxOf CX0 P w K mg base nLw "law" (defScope sLaw) f cdv A' outer st H0 E).nox ((fun s => match s with | .For _ _ b _ _ => b.drop 3 | _ => []) stm) u ∧
    ∀ (D' : Ends) (H : Hp) (G : List Sg) (v0 v1 v5 v8 v10 v11 v14 v15 v16 v17 v18 v19 v20 : Option V) (pl dl dr x y rl t z dz tr : Addr) (xs : List V) (M : List (V × Nat)) (A B N : List FM.Tm) (n : Nat),
      Sx G C H pl M dl dr A B x y → Mx G C H A B rl xs t z dz N → H tr = some (.lst ((List.range 5).map fun k => .bl (bt n k))) →
      (∀ (H' : Hp) (v14 v15 : Option V), Same H H' → D'.nx [v0, v1, some (.ref pl), some (.ref dl), some (.ref dr), v5, some (.ref x), some (.ref y), v8, some (.ref rl), v10, v11, some (.ref tr), some (.int (vT A (bt n))), v14, v15, v16, v17, v18, v19, v20] H') →
      u D' [v0, v1, some (.ref pl), some (.ref dl), some (.ref dr), v5, some (.ref x), some (.ref y), v8, some (.ref rl), v10, v11, some (.ref tr), some (.int (vT A (bt n))), v14, v15, v16, v17, v18, v19, v20] H := by
  cases hs
  obtain ⟨f1, d1, ok1, m1, b1⟩ := W.when
  obtain ⟨f3, d3, ok3, m3, k3, b3⟩ := W.isi
  obtain ⟨f4, d4, ok4, m4, k4, b4⟩ := W.value
  have hr1 := hr.mono (show 1 ≤ 12 by decide)
  refine ⟨_, pss_cons (ps_setLc (i := 14) (own := [("_law_i", 20)]) (g := gName 20) rfl scLaw.nd rfl rfl (sw_true rfl rfl rfl (by decide +kernel)) (pi_range1 (by rfl) W.B.range (pa_cons (pe_callB call_len_seq (by rfl) W.B.len PySem.boot_len (pa_cons (pv 2) pa_nil)) pa_nil)) (blkOk_by (N := nLw) (sc := defScope sLaw) (by decide +kernel)) (fun _ _ _ _ _ => pg_name (i := 20) scLaw.nd rfl (.inl rfl))
        (fun _ _ _ _ _ => pts_one (pt_val (pe_ix (show IxR _ (rIxL K) from ix_list) (pv 12) (pv 20) (fun _ _ => rfl))))
        (fun _ _ _ _ _ => pe_ix (show IxR _ (rIxL K) from ix_list) (pv 2) (pv 20) (fun _ _ => rfl)))
    (pss_cons (ps_set (i := 15) scLaw.nd rfl (.inl rfl) (pe_meth (pe_ix ix_tup (pe_ix ix_list (pv 9) pe_int (fun _ _ => rfl)) pe_int (fun _ _ => rfl)) W.FC.cl m1 ok1 hr1 b1 .nil pass0 (pa_cons (pe_callTy call_list_of (by rfl) W.B.list (by decide +kernel) (pa_cons (pv 14) pa_nil)) pa_nil)))
    (pss_cons (ps_if (PW.pt (pw_or (pt_not (pt_val (pe_call ok3 hr1 (by rfl) m3 k3 b3 .nil pass0 (pa_cons (pv 15) pa_nil)))) (pw_or1 (pt_cmpR op_ne (pv 15) (pe_op op_mul (pv 13) (pe_call ok4 hr1 (by rfl) m4 k4 b4 .nil pass0 (pa_cons (pv 4) (pa_cons (pv 12) pa_nil)))) (nomark _))))) (pss_one (ps_ret pe_bl)) pss_nil)
    (pss_one (ps_if (pt_cmpR op_ne (pe_meth (pe_ix ix_tup (pe_ix ix_list (pv 9) pe_int (fun _ _ => rfl)) pe_int (fun _ _ => rfl)) W.FC.cl m1 ok1 hr1 b1 .nil pass0 (pa_cons (pe_op op_cat (pe_op op_cat (pe_revL (pv 14)) (pe_lst (pa_cons (pe_tup (pa_cons pe_str (pa_cons pe_str (pa_cons (pe_tup (pa_cons pe_int pa_nil)) pa_nil)))) pa_nil))) (pv 14)) pa_nil)) (pv 15) (nomark _)) (pss_one (ps_ret pe_bl)) pss_nil)))), ?_⟩
  intro D' H G v0 v1 v5 v8 v10 v11 v14 v15 v16 v17 v18 v19 v20 pl dl dr x y rl t z dz tr xs M A B N n S X htr q
  have PG := S.P
  have g4 := S.l4
  have lM : ((M.map fun z : V × Nat => z.1).length : Int) = (G.length : Int) := by rw [List.length_map, S.hP.len]
  have bat : ∀ {j : Nat}, j < 5 → ∀ {i : Int}, i = (j : Int) → atI ((List.range 5).map fun k => V.bl (bt n k)) i = some (.bl (bt n j)) := fun {j} hj {i} e => by subst e; exact atI_nat (by rw [List.getElem?_map, List.getElem?_range hj]; rfl)
  refine ⟨_, rfl, pl, _, rfl, .inl (SqL.of S.hP.at_), ?_⟩
  rw [lM]
  refine ⟨(G.length : Int), rfl, by omega, by omega, fun D1 nD => ?_⟩
  rw [show ((G.length : Int)).toNat = G.length by omega]
  refine lc_range (lo := 0) (n := G.length) (fun i H4 => ∃ U : List (V × Nat), Same H H4 ∧ H4 D1 = some (.lst (U.map fun z => z.1)) ∧ SgA G H4 U ∧ U.map (fun z => z.2) = (List.range i).filter (bt n))
    ⟨[], same_upd nD, upd_same, (fun _ h => nomatch h), by simp⟩ ?_ ?_
  · rintro i H4 hi ⟨U, s4, hD, hU, eU⟩
    have ei : (0 : Int) + (i : Int) = ((i : Nat) : Int) := by omega
    have st : ((List.range (i + 1)).filter (bt n)) = ((List.range i).filter (bt n)) ++ if bt n i = true then [i] else [] := by
      rw [List.range_succ, List.filter_append]
      congr 1
      rw [List.filter_cons]
      split <;> rfl
    have lU : U.length ≤ i := by
      have z1 := congrArg List.length eU
      have z2 := List.length_filter_le (bt n) (List.range i)
      rw [List.length_map] at z1
      rw [List.length_range] at z2
      omega
    refine ⟨rfl, _, rfl, _, rfl, tr, _, _, _, rfl, rfl, SqL.of (s4 _ _ htr), bat (j := i) (by omega) ei, _, rfl, ?_⟩
    cases c1 : bt n i with
    | false =>
      rw [c1, if_neg Bool.false_ne_true, List.append_nil] at st
      exact iteF ⟨U, s4, hD, hU, by rw [eU, st]⟩
    | true =>
      rw [c1, if_pos rfl] at st
      have hP4 := S.hP.same s4
      obtain ⟨v, hv', hg⟩ := hP4.nth hi ei
      refine iteT ⟨_, rfl, _, rfl, pl, _, _, _, rfl, rfl, SqL.of hP4.at_, hv', _, hD, small1000 (by rw [List.length_map]; omega), U ++ [(v, i)], fun c o e => by rw [upd_ne (ne_of_none e nD)]; exact s4 _ _ e, by rw [upd_same, List.map_append]; rfl, ?_, by rw [List.map_append, eU, st]; rfl⟩
      refine SgA.but (d := D1) (fun z hz => ?_) But.upd hD fun xs z => by cases z
      rcases List.mem_append.mp hz with m | m
      · exact hU z m
      · rw [List.mem_singleton.mp m]; exact ⟨hg, hi⟩
  · rintro H4 ⟨U, s4, hD, hU, eU⟩
    have lU : U.length ≤ 4 := by
      have z1 := congrArg List.length eU
      have z2 := List.length_filter_le (bt n) (List.range G.length)
      rw [List.length_map] at z1
      rw [List.length_range] at z2
      omega
    have ub : ∀ z ∈ U, z.2 < G.length := fun z hz => (hU z hz).2
    have X4 := X.same s4
    obtain ⟨dx, tx, ez, _⟩ := id X4.hz
    refine ⟨_, rfl, rl, _, _, _, rfl, rfl, SqL.of X4.hr, atI_nat (j := 2) X4.h2, t, _, _, _, rfl, rfl, SqT.of X4.ht, atI_nat (j := 0) rfl, z, dx, _, rfl, ez, no_attr (by decide +kernel), ?_⟩
    refine ⟨_, rfl, D1, _, rfl, .inl (SqL.of hD), fun D2 n2 => ?_⟩
    have s5 : Same H4 (upd H4 D2 (.lst (U.map fun z => z.1))) := same_upd n2
    have h5 : upd H4 D2 (.lst (U.map fun z => z.1)) D2 = some (.lst (U.map fun z => z.1)) := upd_same
    generalize upd H4 D2 (.lst (U.map fun z => z.1)) = H5 at s5 h5
    have em : ((U.map fun z : V × Nat => (z.1, at' G z.2)).map fun z => z.1) = U.map fun z => z.1 := by rw [List.map_map]; rfl
    refine ⟨G, PG, z, D2, N, U.map fun z => (z.1, at' G z.2), rfl, X4.hz.same s5, .inl (SqL.of (by rw [h5, em])), fun y hy => ?_, by rw [List.length_map]; omega, X.ln, fun H6 s6 => ?_⟩
    · obtain ⟨u, hu, rfl⟩ := List.mem_map.mp hy
      exact (hU.same s5 u hu).1
    rw [when_of PG X4.hz ub eU fun k kb => Iff.rfl]
    have s46 := s5.trans s6
    have s06 := s4.trans s46
    have S6 := S.same s06
    have X6 := X.same s06
    refine ⟨_, rfl, _, rfl, _, rfl, iteF ?_⟩
    refine ⟨_, rfl, _, rfl, _, rfl, _, rfl, dr, tr, accL B, bt n, 5, rfl, S6.hB.at_, FM.acc_nd B, fun t ht => ?_, s06 _ _ htr, fun H7 s7 => ?_⟩
    · have h := S6.hB.bl g4 t ht
      exact ⟨by omega, fun k hk => by have := h.2 k hk; omega⟩
    refine ⟨_, _, rfl, rfl, .inl (S.hA.vb (bt n)), rfl, _, rfl, ?_⟩
    rw [FM.vT_acc, X.hv, show (!decide (V.int (vT A (bt n) * vT B (bt n)) = V.int (vT A (bt n) * vT B (bt n)))) = false by simp]
    refine iteF ?_
    have s07 := s06.trans s7
    have X7 := X.same s07
    have hD7 : H7 D1 = some (.lst (U.map fun z => z.1)) := (s46.trans s7) _ _ hD
    have hU7 := hU.same (s46.trans s7)
    obtain ⟨dx7, tx7, ez7, _⟩ := id X7.hz
    refine ⟨_, rfl, rl, _, _, _, rfl, rfl, SqL.of X7.hr, atI_nat (j := 2) X7.h2, t, _, _, _, rfl, rfl, SqT.of X7.ht, atI_nat (j := 0) rfl, z, dx7, _, rfl, ez7, no_attr (by decide +kernel), ?_⟩
    refine ⟨_, rfl, D1, _, rfl, SqL.of hD7, fun q1 m1 => ?_⟩
    have s8 : Same H7 (upd H7 q1 (.lst (U.map fun z => z.1).reverse)) := same_upd m1
    have h8 : upd H7 q1 (.lst (U.map fun z => z.1).reverse) q1 = some (.lst (U.map fun z => z.1).reverse) := upd_same
    generalize upd H7 q1 (.lst (U.map fun z => z.1).reverse) = H8 at s8 h8
    refine ⟨by show 1 ≤ sizeLine; decide, fun t1 m2 => ?_⟩
    have s9 : Same H8 (upd H8 t1 (.tup [.int 0])) := same_upd m2
    have h9 : upd H8 t1 (.tup [.int 0]) t1 = some (.tup [.int 0]) := upd_same
    generalize upd H8 t1 (.tup [.int 0]) = H9 at s9 h9
    refine ⟨by show 3 ≤ sizeLine; decide, fun t2 m3 => ?_⟩
    have s10 : Same H9 (upd H9 t2 (.tup [.str "none", .str "none", .ref t1])) := same_upd m3
    have h10 : upd H9 t2 (.tup [.str "none", .str "none", .ref t1]) t2 = some (.tup [.str "none", .str "none", .ref t1]) := upd_same
    generalize upd H9 t2 (.tup [.str "none", .str "none", .ref t1]) = H10 at s10 h10
    refine ⟨by show 1 ≤ sizeLine; decide, fun q2 m4 => ?_⟩
    have s11 : Same H10 (upd H10 q2 (.lst [.ref t2])) := same_upd m4
    have h11 : upd H10 q2 (.lst [.ref t2]) q2 = some (.lst [.ref t2]) := upd_same
    generalize upd H10 q2 (.lst [.ref t2]) = H11 at s11 h11
    have s811 := (s9.trans s10).trans s11
    refine ⟨q1, q2, _, _, rfl, rfl, s811 _ _ h8, h11, Nat.le_of_lt (small1000 (by rw [List.length_reverse, List.length_map]; show U.length + 1 ≤ _; omega)), fun q3 m5 => ?_⟩
    have s12 : Same H11 (upd H11 q3 (.lst ((U.map fun z => z.1).reverse ++ [.ref t2]))) := same_upd m5
    have h12 : upd H11 q3 (.lst ((U.map fun z => z.1).reverse ++ [.ref t2])) q3 = some (.lst ((U.map fun z => z.1).reverse ++ [.ref t2])) := upd_same
    generalize upd H11 q3 (.lst ((U.map fun z => z.1).reverse ++ [.ref t2])) = H12 at s12 h12
    have s712 := (s8.trans s811).trans s12
    refine ⟨_, rfl, q3, D1, _, _, rfl, rfl, h12, s712 _ _ hD7, Nat.le_of_lt (small1000 (by rw [List.length_append, List.length_reverse, List.length_map]; show U.length + 1 + U.length ≤ _; omega)), fun q4 m6 => ?_⟩
    have s13 : Same H12 (upd H12 q4 (.lst (((U.map fun z => z.1).reverse ++ [.ref t2]) ++ U.map fun z => z.1))) := same_upd m6
    have h13 : upd H12 q4 (.lst (((U.map fun z => z.1).reverse ++ [.ref t2]) ++ U.map fun z => z.1)) q4 = some (.lst ((((U.map fun z : V × Nat => (z.1, at' G z.2)).reverse ++ [(V.ref t2, noneS)]) ++ U.map fun z => (z.1, at' G z.2)).map fun z => z.1)) := by
      rw [upd_same, List.map_append, List.map_append, em, List.map_reverse, em]
      rfl
    generalize upd H12 q4 (.lst (((U.map fun z => z.1).reverse ++ [.ref t2]) ++ U.map fun z => z.1)) = H13 at s13 h13
    have s713 := s712.trans s13
    have s10' := (s11.trans s12).trans s13
    have sgU : ∀ y ∈ U.map fun z : V × Nat => (z.1, at' G z.2), IsSg H13 y.1 y.2 := fun y hy => by
      obtain ⟨u, hu, rfl⟩ := List.mem_map.mp hy
      exact (hU7.same s713 u hu).1
    refine ⟨G, PG, z, q4, N, _, rfl, X7.hz.same s713, .inl (SqL.of h13), fun y hy => ?_, by rw [List.length_append, List.length_append, List.length_reverse, List.length_map]; show U.length + 1 + U.length ≤ _; omega, X.ln, fun H14 s14 => ?_⟩
    · rcases List.mem_append.mp hy with m | m
      · rcases List.mem_append.mp m with m | m
        · exact sgU y (List.mem_reverse.mp m)
        · rw [List.mem_singleton.mp m]
          exact ⟨t2, t1, rfl, s10' _ _ h10, s10' _ _ (s10 _ _ h9)⟩
      · exact sgU y m
    rw [when_of PG X4.hz ub eU fun k kb => ?_]
    · refine ⟨_, rfl, rfl, _, rfl, ?_⟩
      rw [X.hv, show (!decide (V.int (vT A (bt n) * vT B (bt n)) = V.int (vT A (bt n) * vT B (bt n)))) = false by simp]
      exact iteF (q H14 _ _ ((s07.trans s713).trans s14))
    · have nn : at' G k ≠ noneS := fun e => S.ne _ (at_mem kb) (by rw [e]; rfl)
      rw [List.map_append, List.map_append, List.map_reverse, List.mem_append, List.mem_append, List.mem_reverse]
      constructor
      · rintro ((h | h) | h)
        · exact h
        · exact absurd (List.mem_singleton.mp h) nn
        · exact h
      · exact .inr
end
end KP
set_option maxRecDepth 100000
set_option maxHeartbeats 4000000
/-! The law, its sixteen sights; the results. -/
namespace KP
open PySem PySem.Spec PyProof.Rows L2 KT FS FD
open FM (asc addP accL coef nrm mulT ascL vT negT CbL bt)
section
variable {P : Program} {w : World} {K : PySem.W.Frag} {mg : Str → Option Value} {base : Heap} {C CS f : Addr} {cdv : Value} {A' : Around} {outer : List Env} {st : Shared} {H0 : Hp} {E : XK}
theorem lw19 (W : LX K mg P w base C CS) (hr : Room 12 (A'.deeper (envOfC "law" (defScope sLaw) st.heap.objs.size f cdv))) :
    ∃ u, PSs (cxOf CX0 P w K mg base nLw "law" (defScope sLaw) f cdv A' outer st H0 E).nox ((defBody sLaw).drop 19) u ∧ ∀ (G : List Sg) (Q : VK), (∀ H', Q (.bl true) H') → ∀ (v1 v5 v8 v10 v11 v12 v13 v14 v15 v16 v17 v18 v19 v20 : Option V) (sc pl dl dr x y rl t z dz : Addr) (ss : List Int) (xs : List V) (M : List (V × Nat)) (A B N : List FM.Tm) (H : Hp),
      Sx G C H pl M dl dr A B x y → Mx G C H A B rl xs t z dz N → SqL K H sc (ss.map V.int) →
      u { nx := fun _ H' => Q .non H', rt := Q } [some (.ref sc), v1, some (.ref pl), some (.ref dl), some (.ref dr), v5, some (.ref x), some (.ref y), v8, some (.ref rl), v10, v11, v12, v13, v14, v15, v16, v17, v18, v19, v20] H := by
  obtain ⟨u, pu, hq⟩ := lw21 (P := P) (w := w) (K := K) (base := base) (f := f) (cdv := cdv) (A' := A') (outer := outer) (st := st) (H0 := H0) (E := E) W hr
  obtain ⟨u3, pu3, hq3⟩ := lt3 (P := P) (w := w) (K := K) (base := base) (f := f) (cdv := cdv) (A' := A') (outer := outer) (st := st) (H0 := H0) (E := E) W hr _ rfl
  obtain ⟨f1, d1, ok1, m1, k1, b1⟩ := W.bits
  obtain ⟨f4, d4, ok4, m4, k4, b4⟩ := W.value
  have hr1 := hr.mono (show 1 ≤ 12 by decide)
  refine ⟨_, pss_cons (ps_set (i := 10) scLaw.nd rfl (.inl rfl) pe_bl)
    (pss_cons (ps_for PassesOwn.never rfl (pi_range1 (by rfl) W.B.range (pa_cons pe_int pa_nil)) (pg_name (i := 11) scLaw.nd rfl (.inl rfl))
      (pss_cons (ps_set (i := 12) scLaw.nd rfl (.inr rfl) (pe_call ok1 hr1 (by rfl) m1 k1 b1 .nil pass0 (pa_cons (pv 11) pa_nil)))
      (pss_cons (ps_set (i := 13) scLaw.nd rfl (.inl rfl) (pe_call ok4 hr1 (by rfl) m4 k4 b4 .nil pass0 (pa_cons (pv 3) (pa_cons (pv 12) pa_nil))))
      (pss_cons (ps_if (PW.pt (pw_and (pt_cmpR op_ne (pv 13) pe_int (nomark _)) (pw_and1 (pt_cmpR op_ne (pv 13) pe_int (nomark _))))) (pss_one (ps_set (i := 10) scLaw.nd rfl (.inl rfl) pe_bl)) pss_nil) pu3)))) pu), ?_⟩
  intro G Q hQ v1 v5 v8 v10 v11 v12 v13 v14 v15 v16 v17 v18 v19 v20 sc pl dl dr x y rl t z dz ss xs M A B N H S X hsc
  have g4 := S.l4
  refine ⟨16, rfl, by omega, by omega, ?_⟩
  refine for_range (lo := 0) (n := 16) (fun i σ H2 => ∃ (bin : Bool) (v11 v12 v13 v14 v15 : Option V), σ = [some (.ref sc), v1, some (.ref pl), some (.ref dl), some (.ref dr), v5, some (.ref x), some (.ref y), v8, some (.ref rl), some (.bl bin), v11, v12, v13, v14, v15, v16, v17, v18, v19, v20] ∧ Same H H2 ∧ (bin = true ↔ ∀ m, m < i → vT A (bt m) = 0 ∨ vT A (bt m) = 1))
    ⟨true, v11, v12, v13, v14, v15, rfl, Same.refl _, ⟨fun _ m h => absurd h (by omega), fun _ => rfl⟩⟩ ?_ ?_
  · rintro n σ H2 hn ⟨bin, v11, v12, v13, v14, v15, rfl, s2, eb⟩
    have en : (0 : Int) + (n : Int) = ((n : Nat) : Int) := by omega
    refine ⟨_, rfl, n, by rw [en]; rfl, fun tr H3 s3 nl hl => ?_⟩
    have s03 := s2.trans s3
    have S3 := S.same s03
    refine ⟨_, rfl, _, rfl, dl, tr, accL A, bt n, 5, rfl, S3.hA.at_, FM.acc_nd A, fun t ht => ?_, hl, fun H4 s4 => ?_⟩
    · have h := S3.hA.bl g4 t ht
      exact ⟨by omega, fun k hk => by have := h.2 k hk; omega⟩
    have s04 := s03.trans s4
    have S4 := S.same s04
    have X4 := X.same s04
    have hl4 := s4 _ _ hl
    rw [FM.vT_acc]
    have go : ∀ bin' : Bool, (bin' = true ↔ ∀ m, m < n + 1 → vT A (bt m) = 0 ∨ vT A (bt m) = 1) → ∀ (H5 : Hp) (v14 v15 : Option V), Same H4 H5 → ∃ (bin : Bool) (w11 w12 w13 w14 w15 : Option V), [some (.ref sc), v1, some (.ref pl), some (.ref dl), some (.ref dr), v5, some (.ref x), some (.ref y), v8, some (.ref rl), some (V.bl bin'), some (.int (0 + (n : Int))), some (.ref tr), some (.int (vT A (bt n))), v14, v15, v16, v17, v18, v19, v20] = [some (.ref sc), v1, some (.ref pl), some (.ref dl), some (.ref dr), v5, some (.ref x), some (.ref y), v8, some (.ref rl), some (V.bl bin), w11, w12, w13, w14, w15, v16, v17, v18, v19, v20] ∧ Same H H5 ∧ (bin = true ↔ ∀ m, m < n + 1 → vT A (bt m) = 0 ∨ vT A (bt m) = 1) :=
      fun bin' e H5 v14 v15 s5 => ⟨bin', _, _, _, _, _, rfl, s04.trans s5, e⟩
    have nx : ∀ a b : Prop, (∀ m, m < n + 1 → vT A (bt m) = 0 ∨ vT A (bt m) = 1) ↔ (∀ m, m < n → vT A (bt m) = 0 ∨ vT A (bt m) = 1) ∧ (vT A (bt n) = 0 ∨ vT A (bt n) = 1) := fun _ _ => ⟨fun h => ⟨fun m hm => h m (by omega), h n (by omega)⟩, fun h m hm => by
      by_cases c : m = n
      · rw [c]; exact h.2
      · exact h.1 m (by omega)⟩
    have nx := nx True True
    refine ⟨_, rfl, rfl, _, rfl, ?_⟩
    by_cases c0 : vT A (bt n) = 0
    · rw [show (!decide (V.int (vT A (bt n)) = V.int 0)) = false by rw [c0]; simp]
      refine iteF (hq3 _ H4 G _ _ _ _ _ _ _ _ _ _ _ _ _ pl dl dr x y rl t z dz tr xs M A B N n S4 X4 hl4 (go bin (by rw [nx, eb]; exact ⟨fun h => ⟨h, .inl c0⟩, fun h => h.1⟩)))
    · rw [show (!decide (V.int (vT A (bt n)) = V.int 0)) = true by rw [decide_eq_false (by rw [V.int.injEq]; exact c0)]; rfl]
      refine iteT ⟨_, rfl, rfl, _, rfl, ?_⟩
      by_cases c1 : vT A (bt n) = 1
      · rw [show (!decide (V.int (vT A (bt n)) = V.int 1)) = false by rw [c1]; simp]
        refine iteF (hq3 _ H4 G _ _ _ _ _ _ _ _ _ _ _ _ _ pl dl dr x y rl t z dz tr xs M A B N n S4 X4 hl4 (go bin (by rw [nx, eb]; exact ⟨fun h => ⟨h, .inr c1⟩, fun h => h.1⟩)))
      · rw [show (!decide (V.int (vT A (bt n)) = V.int 1)) = true by rw [decide_eq_false (by rw [V.int.injEq]; exact c1)]; rfl]
        refine iteT (hq3 _ H4 G _ _ _ _ _ _ _ _ _ _ _ _ _ pl dl dr x y rl t z dz tr xs M A B N n S4 X4 hl4 (go false (by rw [nx]; exact ⟨(fun h => nomatch h), (fun h => absurd h.2 (by omega))⟩)))
  · rintro σ H2 ⟨bin, v11, v12, v13, v14, v15, rfl, s2, eb⟩
    exact hq G Q hQ v1 v5 v8 (some (.ref rl)) v11 v12 v13 v14 v15 v16 v17 v18 v19 v20 sc pl dl dr x y ss M A B bin H2 (S.same s2) (s2.seq hsc) eb
/-- the ten results, checked -/
theorem lw18 (W : LX K mg P w base C CS) (hr : Room 12 (A'.deeper (envOfC "law" (defScope sLaw) st.heap.objs.size f cdv))) :
    ∃ u, PSs (cxOf CX0 P w K mg base nLw "law" (defScope sLaw) f cdv A' outer st H0 E).nox ((defBody sLaw).drop 18) u ∧ ∀ (G : List Sg) (Q : VK), (∀ H', Q (.bl true) H') → ∀ (v1 v5 v8 v10 v11 v12 v13 v14 v15 v16 v17 v18 v19 v20 : Option V) (sc pl dl dr x y rl : Addr) (ss : List Int) (M : List (V × Nat)) (A B : List FM.Tm) (L : List (V × List FM.Tm)) (v : V) (H : Hp),
      Sx G C H pl M dl dr A B x y → H rl = some (.lst (L.map fun z => z.1)) → (∀ y ∈ L, IsRs G C H y.1 y.2) → L[2]? = some (v, ascL 5 (mulT (accL A) (accL B))) → SqL K H sc (ss.map V.int) →
      u { nx := fun _ H' => Q .non H', rt := Q } [some (.ref sc), v1, some (.ref pl), some (.ref dl), some (.ref dr), v5, some (.ref x), some (.ref y), v8, some (.ref rl), v10, v11, v12, v13, v14, v15, v16, v17, v18, v19, v20] H := by
  obtain ⟨u, pu, hq⟩ := lw19 (P := P) (w := w) (K := K) (base := base) (f := f) (cdv := cdv) (A' := A') (outer := outer) (st := st) (H0 := H0) (E := E) W hr
  obtain ⟨f1, d1, ok1, m1, k1, b1⟩ := W.rr
  refine ⟨_, pss_cons (ps_if (pt_not (pt_val (pe_call ok1 (hr.mono (by decide)) (by rfl) m1 k1 b1 .nil pass0 (pa_cons (pv 9) (pa_cons (pv 2) pa_nil))))) (pss_one (ps_ret pe_bl)) pss_nil) pu, ?_⟩
  intro G Q hQ v1 v5 v8 v10 v11 v12 v13 v14 v15 v16 v17 v18 v19 v20 sc pl dl dr x y rl ss M A B L v H S hl hL h2 hsc
  have g4 := S.l4
  refine ⟨_, rfl, _, rfl, G, S.P, rl, pl, M, L, rfl, hl, S.hP, hL, fun H1 s1 => ⟨_, rfl, iteF ?_⟩⟩
  obtain ⟨t, z, dz, e, ht, hz, _⟩ := (hL _ (List.mem_of_getElem? h2)).same s1
  have e : v = .ref t := e
  subst e
  have lA := S.hA.ln
  have lB := S.hB.ln
  have asA : FM.AscT 5 (accL A) := fun t ht => ⟨(asc_acc S.hA.aA t ht).1, fun k hk => by have := (asc_acc S.hA.aA t ht).2 k hk; omega⟩
  have asB : FM.AscT 5 (accL B) := fun t ht => ⟨(asc_acc S.hB.aA t ht).1, fun k hk => by have := (asc_acc S.hB.aA t ht).2 k hk; omega⟩
  have X : Mx G C H1 A B rl (L.map fun z => z.1) t z dz (nrm (ascL 5 (mulT (accL A) (accL B)))) := by
    refine ⟨s1 _ _ hl, by rw [List.getElem?_map, h2]; rfl, ht, hz, ?_, fun f => ?_⟩
    · refine Nat.le_trans (nrm_len _) ?_
      rw [show (ascL 5 (mulT (accL A) (accL B))).length = (mulT (accL A) (accL B)).length from List.length_map _, mul_len]
      exact Nat.mul_le_mul lA lB
    · rw [FM.nrm_v, FM.vT_ascL f (FM.mul_lt asA asB), FM.vT_mul, FM.vT_acc, FM.vT_acc]
  exact hq G Q hQ v1 v5 v8 v10 v11 v12 v13 v14 v15 v16 v17 v18 v19 v20 sc pl dl dr x y rl t z dz ss _ M A B _ H1 (S.same s1) X (s1.seq hsc)
end
end KP
set_option maxRecDepth 100000
set_option maxHeartbeats 4000000
/-! What the law's expressions give. -/
namespace KP
open PySem PySem.Spec PyProof.Rows L2 KT FS FD
open FM (asc addP accL coef nrm mulT ascL vT negT CbL bt)
/-- a list of the law's terms -/
def Gv (t : TE) (σ : L2.St) (H : Hp) (n : Nat) (T : List FM.Tm) : Prop := ∀ H1, Same H H1 → ∀ Q : VK, (∀ p (L : List (V × FM.Tm)) H2, Same H1 H2 → H2 p = some (.lst (L.map fun z => z.1)) → LtL [] n H2 L → L.map (fun z => z.2) = T → Q (.ref p) H2) → t σ H1 Q
theorem LtL.app {av n} {H : Hp} {L M : List (V × FM.Tm)} (h : LtL av n H L) (k : LtL av n H M) : LtL av n H (L ++ M) := fun z hz => (List.mem_append.mp hz).elim (h z) (k z)
theorem gv_cat {t1 t2 : TE} {σ : L2.St} {H : Hp} {n : Nat} {T1 T2 : List FM.Tm} (h1 : Gv t1 σ H n T1) (h2 : Gv t2 σ H n T2) (l : T1.length + T2.length ≤ 100) : Gv (tOp rCat t1 t2) σ H n (T1 ++ T2) := fun H1 s1 Q q => by
  refine h1 H1 s1 _ fun p L H2 s2 hp hL eL => h2 H2 (s1.trans s2) _ fun p' L' H3 s3 hp' hL' eL' => ?_
  have e1 := congrArg List.length eL
  have e2 := congrArg List.length eL'
  rw [List.length_map] at e1 e2
  refine ⟨p, p', _, _, rfl, rfl, s3 _ _ hp, hp', Nat.le_of_lt (small1000 (by rw [List.length_map, List.length_map]; omega)), fun r nr => ?_⟩
  have s4 : Same H3 (upd H3 r (.lst ((L.map fun z => z.1) ++ L'.map fun z => z.1))) := same_upd nr
  exact q r (L ++ L') _ ((s2.trans s3).trans s4) (by rw [upd_same, List.map_append]) (((hL.same s3).app hL').same s4) (by rw [List.map_append, eL, eL'])
theorem gv_sc {td tc : TE} {σ : L2.St} {H : Hp} {n : Nat} {d : Addr} {A : List FM.Tm} {m : Nat} {E : XK} {c : Int} (S : SumAt n H d A m 1000000000000) (hm : m ≤ 9) (hn : n ≤ 4) (hd : ∀ H1 Q, Q (V.ref d) H1 → td σ H1 Q) (hc : ∀ H1 Q, Q (V.int c) H1 → tc σ H1 Q) :
    Gv (tCall spScaled [] E (tCons td (tCons tc tNil))) σ H n (scT (accL A) c) := fun H1 s1 Q q => by
  refine hd _ _ (hc _ _ ?_)
  have S1 := S.same s1
  have ln := S1.ln
  exact ⟨d, c, n, accL A, rfl, S1.at_, FM.acc_nd A, fun t ht => ⟨by have := (S1.bl hn t ht).1; omega, (S1.bl hn t ht).2⟩, .inl fun t ht => by have := S1.bd t ht; omega, by omega, fun p L H2 s2 np hp hL eL => q p L H2 s2 hp (hL.weak (by simp)) eL⟩
theorem gv_var {t : TE} {σ : L2.St} {H : Hp} {n : Nat} {p : Addr} {L : List (V × FM.Tm)} (h : ∀ H1 Q, Q (V.ref p) H1 → t σ H1 Q) (hp : H p = some (.lst (L.map fun z => z.1))) (hL : LtL [] n H L) : Gv t σ H n (L.map fun z => z.2) :=
  fun H1 s1 Q q => h _ _ (q p L H1 (Same.refl _) (s1 _ _ hp) (hL.same s1) rfl)
theorem gv_one {tc : TE} {σ : L2.St} {H : Hp} {n : Nat} {c : Int} (hc : ∀ H1 Q, Q (V.int c) H1 → tc σ H1 Q) : Gv (tLst (tCons (tTup (tCons (tLst tNil) (tCons tc tNil))) tNil)) σ H n [([], c)] := fun H1 s1 Q q => by
  refine ⟨by show 0 ≤ sizeLine; decide, fun a1 n1 => hc _ _ ?_⟩
  have s2 : Same H1 (upd H1 a1 (.lst [])) := same_upd n1
  have h2 : upd H1 a1 (.lst []) a1 = some (.lst []) := upd_same
  generalize upd H1 a1 (.lst []) = H2 at s2 h2
  refine ⟨by show 2 ≤ sizeLine; decide, fun a2 n2 => ?_⟩
  have s3 : Same H2 (upd H2 a2 (.tup [.ref a1, .int c])) := same_upd n2
  have h3 : upd H2 a2 (.tup [.ref a1, .int c]) a2 = some (.tup [.ref a1, .int c]) := upd_same
  generalize upd H2 a2 (.tup [.ref a1, .int c]) = H3 at s3 h3
  refine ⟨by show 1 ≤ sizeLine; decide, fun a3 n3 => ?_⟩
  have s4 : Same H3 (upd H3 a3 (.lst [.ref a2])) := same_upd n3
  refine q a3 [(.ref a2, ([], c))] _ ((s2.trans s3).trans s4) (by rw [upd_same]; rfl) (fun z hz => ?_) rfl
  rw [List.mem_singleton.mp hz]
  exact ⟨⟨a2, a1, rfl, s4 _ _ h3, s4 _ _ (s3 _ _ h2), by simp⟩, (fun _ h => nomatch h), by show 0 ≤ 9; decide⟩
/-- a sum of the law's -/
def Du (t : TE) (σ : L2.St) (H : Hp) (A : List FM.Tm) : Prop := ∀ H1, Same H H1 → ∀ Q : VK, (∀ d H2, Same H1 H2 → H2 d = some (.dT (dkv (accL A))) → Q (.ref d) H2) → t σ H1 Q
theorem du_sum {t : TE} {σ : L2.St} {H : Hp} {n : Nat} {T : List FM.Tm} {E : XK} (h : Gv t σ H n T) (l : T.length ≤ 100) : Du (tCall spSum [] E (tCons t tNil)) σ H (ascL 5 T) := fun H1 s1 Q q => by
  refine h H1 s1 _ fun p L H2 s2 hp hL eL => ?_
  have e1 := congrArg List.length eL
  rw [List.length_map] at e1
  refine ⟨p, L, n, rfl, hp, hL, by omega, fun d H3 s3 nd hd => q d H3 (s2.trans s3) ?_⟩
  rw [hd, lT_ascL, eL]
theorem du_times {td te : TE} {σ : L2.St} {H : Hp} {n : Nat} {d e : Addr} {A B : List FM.Tm} {E : XK} (S : SumAt n H d A 9 1000000000000) (R : SumAt n H e B 5 1000000000000) (ne : d ≠ e) (hn : n ≤ 4) (hd : ∀ H1 Q, Q (V.ref d) H1 → td σ H1 Q) (he : ∀ H1 Q, Q (V.ref e) H1 → te σ H1 Q) :
    Du (tCall spTimes [] E (tCons td (tCons te tNil))) σ H (ascL 5 (mulT (accL A) (accL B))) := fun H1 s1 Q q => by
  refine hd _ _ (he _ _ ?_)
  have S1 := S.same s1
  have R1 := R.same s1
  have l1 := S1.ln
  have l2 := R1.ln
  have lm : (accL A).length * (accL B).length ≤ 9 * 5 := Nat.mul_le_mul l1 l2
  exact ⟨d, e, n, accL A, accL B, rfl, ne, S1.at_, R1.at_, FM.acc_nd A, FM.acc_nd B, S1.bl hn, R1.bl hn, .inl fun t ht => by have := S1.bd t ht; omega, by omega, by omega, by omega, fun d' H2 s2 nd hd' => q d' H2 s2 hd'⟩
/-- a form -/
def Fo (t : TE) (σ : L2.St) (H : Hp) (G : List Sg) (C : Addr) (N : List FM.Tm) : Prop := ∀ H1, Same H H1 → ∀ Q : VK, (∀ z H2, Same H1 H2 → FmAt G C H2 z N → Q (.ref z) H2) → t σ H1 Q
/-- a promise that gives a form -/
def Pr (pm : Sp) (E : XK) (vs : List V) (H : Hp) (G : List Sg) (C : Addr) (N : List FM.Tm) : Prop := ∀ H1, Same H H1 → ∀ Q : VK, (∀ z H2, Same H1 H2 → FmAt G C H2 z N → Q (.ref z) H2) → pm vs H1 Q E
section
variable {pm : Sp} {E : XK} {σ : L2.St} {H : Hp} {G : List Sg} {C x y : Addr} {N M R : List FM.Tm} {n : Int} {tx ty : TE}
theorem fo_own (hx : ∀ H1 Q, Q (V.ref x) H1 → tx σ H1 Q) (hy : ∀ H1 Q, Q (V.ref y) H1 → ty σ H1 Q) (fx : FmAt G C H x N) (fy : FmAt G C H y M) (p : Pr pm E [.ref x, .ref y] H G C R) : Fo (tOp (rOwn C pm E) tx ty) σ H G C R := fun H1 s1 Q q => by
  obtain ⟨dx, _, ex, _⟩ := fx.same s1
  obtain ⟨dy, _, ey, _⟩ := fy.same s1
  exact hx _ _ (hy _ _ ⟨x, y, dx, dy, _, _, rfl, rfl, ex, ey, p H1 s1 _ fun z H2 s2 hz => ⟨⟨_, rfl⟩, q z H2 s2 hz⟩⟩)
theorem fo_ownI (hx : ∀ H1 Q, Q (V.ref x) H1 → tx σ H1 Q) (hy : ∀ H1 Q, Q (V.int n) H1 → ty σ H1 Q) (fx : FmAt G C H x N) (p : Pr pm E [.ref x, .int n] H G C R) : Fo (tOp (rOwnI C pm E) tx ty) σ H G C R := fun H1 s1 Q q => by
  obtain ⟨dx, _, ex, _⟩ := fx.same s1
  exact hx _ _ (hy _ _ ⟨x, dx, _, n, rfl, rfl, ex, p H1 s1 _ fun z H2 s2 hz => ⟨⟨_, rfl⟩, q z H2 s2 hz⟩⟩)
theorem fo_iOwn (hy : ∀ H1 Q, Q (V.int n) H1 → ty σ H1 Q) (hx : ∀ H1 Q, Q (V.ref x) H1 → tx σ H1 Q) (fx : FmAt G C H x N) (p : Pr pm E [.ref x, .int n] H G C R) : Fo (tOp (rIOwn C pm E) ty tx) σ H G C R := fun H1 s1 Q q => by
  obtain ⟨dx, _, ex, _⟩ := fx.same s1
  exact hy _ _ (hx _ _ ⟨x, dx, _, n, rfl, rfl, ex, p H1 s1 _ fun z H2 s2 hz => ⟨⟨_, rfl⟩, q z H2 s2 hz⟩⟩)
theorem fo_neg (hx : ∀ H1 Q, Q (V.ref x) H1 → tx σ H1 Q) (fx : FmAt G C H x N) (p : Pr pm E [.ref x] H G C R) : Fo (tUn (rOwn1 C pm E) tx) σ H G C R := fun H1 s1 Q q => by
  obtain ⟨dx, _, ex, _⟩ := fx.same s1
  exact hx _ _ ⟨x, dx, _, rfl, ex, p H1 s1 _ q⟩
theorem pr_add (PG : Pool G) (fx : FmAt G C H x N) (fy : FmAt G C H y M) (lN : N.length ≤ 9) (lM : M.length ≤ 5) : Pr (exP fun G => spFAdd G C) E [.ref x, .ref y] H G C (nrm (N ++ M)) := fun H1 s1 Q q => ⟨G, PG, x, .ref y, N, M, rfl, fx.same s1, .inl ⟨y, rfl, fy.same s1⟩, by omega, by omega, fun z H2 s2 nz hz => q z H2 s2 hz⟩
theorem pr_sub (PG : Pool G) (fx : FmAt G C H x N) (fy : FmAt G C H y M) (lN : N.length ≤ 9) (lM : M.length ≤ 5) : Pr (exP fun G => spFSub G C) E [.ref x, .ref y] H G C (nrm (N ++ negT M)) := fun H1 s1 Q q => ⟨G, PG, x, .ref y, N, M, rfl, fx.same s1, .inl ⟨y, rfl, fy.same s1⟩, by omega, by omega, fun z H2 s2 nz hz => q z H2 s2 hz⟩
theorem pr_mul (PG : Pool G) (fx : FmAt G C H x N) (fy : FmAt G C H y M) (lN : N.length ≤ 9) (lM : M.length ≤ 5) (cb : ∀ t ∈ N, -(2 ^ 64) < t.2 ∧ t.2 < 2 ^ 64) : Pr (exP fun G => spFMul G C) E [.ref x, .ref y] H G C (nrm (ascL G.length (mulT N M))) := fun H1 s1 Q q => ⟨G, PG, x, .ref y, N, M, rfl, fx.same s1, .inl ⟨y, rfl, fy.same s1⟩, Nat.le_trans (Nat.mul_le_mul lN lM) (by decide), cb, fun z H2 s2 nz hz => q z H2 s2 hz⟩
theorem pr_neg (PG : Pool G) (fx : FmAt G C H x N) (lN : N.length ≤ 9) : Pr (exP fun G => spFNeg G C) E [.ref x] H G C (nrm (negT N)) := fun H1 s1 Q q => ⟨G, PG, x, N, rfl, fx.same s1, by omega, fun z H2 s2 nz hz => q z H2 s2 hz⟩
theorem pr_addI (PG : Pool G) (fx : FmAt G C H x N) (lN : N.length ≤ 9) : Pr (exP fun G => spFAdd G C) E [.ref x, .int n] H G C (nrm (N ++ wT n)) := fun H1 s1 Q q => ⟨G, PG, x, .int n, N, wT n, rfl, fx.same s1, .inr ⟨n, rfl, rfl⟩, by omega, by have := wT_len n; omega, fun z H2 s2 nz hz => q z H2 s2 hz⟩
theorem pr_subI (PG : Pool G) (fx : FmAt G C H x N) (lN : N.length ≤ 9) : Pr (exP fun G => spFSub G C) E [.ref x, .int n] H G C (nrm (N ++ negT (wT n))) := fun H1 s1 Q q => ⟨G, PG, x, .int n, N, wT n, rfl, fx.same s1, .inr ⟨n, rfl, rfl⟩, by omega, by have := wT_len n; omega, fun z H2 s2 nz hz => q z H2 s2 hz⟩
theorem pr_mulI (PG : Pool G) (fx : FmAt G C H x N) (lN : N.length ≤ 9) (cb : ∀ t ∈ N, -(2 ^ 64) < t.2 ∧ t.2 < 2 ^ 64) : Pr (exP fun G => spFMul G C) E [.ref x, .int n] H G C (nrm (ascL G.length (mulT N (wT n)))) := fun H1 s1 Q q => ⟨G, PG, x, .int n, N, wT n, rfl, fx.same s1, .inr ⟨n, rfl, rfl⟩, Nat.le_trans (Nat.mul_le_mul lN (wT_len n)) (by decide), cb, fun z H2 s2 nz hz => q z H2 s2 hz⟩
theorem pr_radd (PG : Pool G) (fx : FmAt G C H x N) (lN : N.length ≤ 9) : Pr (exP fun G => spFRadd G C) E [.ref x, .int n] H G C (nrm (N ++ wT n)) := fun H1 s1 Q q => ⟨G, PG, x, n, N, rfl, fx.same s1, by omega, fun z H2 s2 nz hz => q z H2 s2 hz⟩
theorem pr_rsub (PG : Pool G) (fx : FmAt G C H x N) (lN : N.length ≤ 9) : Pr (exP fun G => spFRsub G C) E [.ref x, .int n] H G C (nrm (nrm (negT N) ++ wT n)) := fun H1 s1 Q q => ⟨G, PG, x, n, N, rfl, fx.same s1, by omega, fun z H2 s2 nz hz => q z H2 s2 hz⟩
theorem pr_rmul (PG : Pool G) (fx : FmAt G C H x N) (lN : N.length ≤ 9) (cb : ∀ t ∈ N, -(2 ^ 64) < t.2 ∧ t.2 < 2 ^ 64) : Pr (exP fun G => spFRmul G C) E [.ref x, .int n] H G C (nrm (ascL G.length (mulT N (wT n)))) := fun H1 s1 Q q => ⟨G, PG, x, n, N, rfl, fx.same s1, by omega, cb, fun z H2 s2 nz hz => q z H2 s2 hz⟩
end
theorem asc_of {n : Nat} {T : List FM.Tm} (h : ∀ t ∈ T, ∀ k ∈ t.1, k < n) : FM.AscT n (ascL 5 T) := fun t ht => by
  refine ⟨(FM.ascL_asc 5 _ t ht).1, fun j hj => ?_⟩
  obtain ⟨v, hv, rfl⟩ := List.mem_map.mp ht
  exact h v hv j (FM.mem_asc.mp hj).2
/-- a form and what it must be, in a pair -/
theorem arg_rd {tf ts : TE} {σ : L2.St} {H : Hp} {G : List Sg} {C : Addr} {N T : List FM.Tm} {Q : List V → Hp → Prop} (F : Fo tf σ H G C N) (D : Du ts σ H (ascL 5 T)) (e : N = nrm (ascL 5 T)) (b : ∀ t ∈ T, ∀ k ∈ t.1, k < G.length) (l : T.length ≤ 100)
    (q : ∀ a H2, Same H H2 → IsRs G C H2 (.ref a) (ascL 5 T) → Q [.ref a] H2) : tCons (tTup (tCons tf (tCons ts tNil))) tNil σ H Q := by
  subst e
  refine F H (Same.refl _) _ fun z H1 s1 hz => D H1 s1 _ fun d H2 s2 hd => ⟨by show 2 ≤ sizeLine; decide, fun a na => ?_⟩
  have s3 : Same H2 (upd H2 a (.tup [.ref z, .ref d])) := same_upd na
  exact q a _ ((s1.trans s2).trans s3) ⟨a, z, d, rfl, upd_same, (hz.same s2).same s3, s3 _ _ hd, asc_of b, by rw [show (ascL 5 T).length = T.length from List.length_map _]; exact l⟩
/-- the results so far -/
structure Rs (G : List Sg) (C : Addr) (H0 H : Hp) (rl : Addr) (L : List (V × List FM.Tm)) : Prop where
  s : Same H0 H
  n : H0 rl = none
  at_ : H rl = some (.lst (L.map fun z => z.1))
  rs : ∀ y ∈ L, IsRs G C H y.1 y.2
  ln : L.length ≤ 20
theorem IsRs.but {G C} {H H' : Hp} {v A} {d : Addr} {xs : List V} (h : IsRs G C H v A) (b : But d H H') (hd : H d = some (.lst xs)) : IsRs G C H' v A := by
  obtain ⟨t, x, e, rfl, h1, ⟨dx, tx, h2, h3, h4⟩, h5, r⟩ := h
  refine ⟨t, x, e, rfl, b _ _ h1 (by rintro rfl; rw [hd] at h1; cases h1), ⟨dx, tx, b _ _ h2 (by rintro rfl; rw [hd] at h2; cases h2), ki_but h3 b hd (fun xs z => by cases z), h4⟩, b _ _ h5 (by rintro rfl; rw [hd] at h5; cases h5), r⟩
theorem Rs.snoc {G C} {H0 H H' : Hp} {rl : Addr} {L : List (V × List FM.Tm)} {v : V} {A : List FM.Tm} (R : Rs G C H0 H rl L) (s : Same H H') (h : IsRs G C H' v A) (l : L.length < 20) : Rs G C H0 (upd H' rl (.lst ((L.map fun z => z.1) ++ [v]))) rl (L ++ [(v, A)]) := by
  refine ⟨since (R.s.trans s) R.n But.upd, R.n, by rw [upd_same, List.map_append]; rfl, fun y hy => ?_, by rw [List.length_append]; exact l⟩
  refine IsRs.but (d := rl) ?_ But.upd (s _ _ R.at_)
  rcases List.mem_append.mp hy with m | m
  · exact (R.rs y m).same s
  · rw [List.mem_singleton.mp m]; exact h
theorem Rs.few {G C} {H0 H : Hp} {rl : Addr} {L : List (V × List FM.Tm)} (R : Rs G C H0 H rl L) : (L.map fun z => z.1).length < sizeLine := small1000 (by rw [List.length_map]; have := R.ln; omega)
end KP
set_option maxRecDepth 100000
set_option maxHeartbeats 4000000
/-! The law's last three results. -/
namespace KP
open PySem PySem.Spec PyProof.Rows L2 KT FS FD
open FM (asc addP accL coef nrm mulT ascL vT negT CbL bt)
theorem sc_len (S : List FM.Tm) (c : Int) : (scT S c).length = S.length := List.length_map _
theorem Sx.lnB {G C} {H : Hp} {pl M dl dr A B x y} (S : Sx G C H pl M dl dr A B x y) : (nrm B).length ≤ 5 := by
  have h := S.hB.ln
  refine Nat.le_trans ?_ h
  unfold nrm
  rw [List.length_mergeSort]
  exact List.length_filter_le _ _
theorem Sx.cbB {G C} {H : Hp} {pl M dl dr A B x y} (S : Sx G C H pl M dl dr A B x y) : ∀ t ∈ nrm B, -(2 ^ 64) < t.2 ∧ t.2 < 2 ^ 64 := fun t ht => by
  have := S.hB.bd t (FM.mem_nrm.mp ht).1
  omega
/-- what stands ahead of the results -/
structure Wx (K : PySem.W.Frag) (G : List Sg) (C : Addr) (H : Hp) (pl : Addr) (M : List (V × Nat)) (dl dr : Addr) (A B : List FM.Tm) (x y wl : Addr) (Lw : List (V × FM.Tm)) (n : Int) (sc : Addr) (ss : List Int) : Prop where
  S : Sx G C H pl M dl dr A B x y
  wh : H wl = some (.lst (Lw.map fun z => z.1))
  wL : LtL [] G.length H Lw
  wn : Lw.map (fun z => z.2) = [([], n)]
  sc : SqL K H sc (ss.map V.int)
theorem Wx.same {K G C} {H H' : Hp} {pl M dl dr A B x y wl Lw n sc ss} (h : Wx K G C H pl M dl dr A B x y wl Lw n sc ss) (s : Same H H') : Wx K G C H' pl M dl dr A B x y wl Lw n sc ss := ⟨h.S.same s, s _ _ h.wh, h.wL.same s, h.wn, s.seq h.sc⟩
theorem gw {K G C} {H : Hp} {pl M dl dr A B x y wl Lw n sc ss} {v0 v1 v2 v3 v4 v5 v6 v7 : Option V} {vs : List (Option V)} (h : Wx K G C H pl M dl dr A B x y wl Lw n sc ss) : Gv (tVar 8) (v0 :: v1 :: v2 :: v3 :: v4 :: v5 :: v6 :: v7 :: some (.ref wl) :: vs) H G.length [([], n)] := by
  rw [← h.wn]
  exact gv_var (fun _ _ h => ⟨_, rfl, h⟩) h.wh h.wL
theorem third {α : Type} {L : List α} {a b c : α} (h : L.length = 1) : (((L ++ [a]) ++ [b]) ++ [c])[2]? = some b := match L, h with
  | [_], _ => rfl
theorem keep2 {α : Type} {L M : List α} {a : α} (h : L[2]? = some a) : (L ++ M)[2]? = some a := by
  rw [List.getElem?_append_left (List.getElem?_eq_some_iff.mp h).1]
  exact h
section
variable {P : Program} {w : World} {K : PySem.W.Frag} {mg : Str → Option Value} {base : Heap} {C CS f : Addr} {cdv : Value} {A' : Around} {outer : List Env} {st : Shared} {H0 : Hp} {E : XK}
theorem lw15 (W : LX K mg P w base C CS) (hr : Room 12 (A'.deeper (envOfC "law" (defScope sLaw) st.heap.objs.size f cdv))) :
    ∃ u, PSs (cxOf CX0 P w K mg base nLw "law" (defScope sLaw) f cdv A' outer st H0 E).nox ((defBody sLaw).drop 15) u ∧ ∀ (G : List Sg) (Q : VK), (∀ H', Q (.bl true) H') → ∀ (v1 v10 v11 v12 v13 v14 v15 v16 v17 v18 v19 v20 : Option V) (sc pl dl dr x y wl rl : Addr) (n : Int) (ss : List Int) (M : List (V × Nat)) (A B : List FM.Tm) (Lw : List (V × FM.Tm)) (L : List (V × List FM.Tm)) (v : V) (H0 H : Hp),
      Wx K G C H0 pl M dl dr A B x y wl Lw n sc ss → Rs G C H0 H rl L → L.length = 7 → L[2]? = some (v, ascL 5 (mulT (accL A) (accL B))) →
      u { nx := fun _ H' => Q .non H', rt := Q } [some (.ref sc), v1, some (.ref pl), some (.ref dl), some (.ref dr), some (.int n), some (.ref x), some (.ref y), some (.ref wl), some (.ref rl), v10, v11, v12, v13, v14, v15, v16, v17, v18, v19, v20] H := by
  obtain ⟨u, pu, hq⟩ := lw18 (P := P) (w := w) (K := K) (base := base) (f := f) (cdv := cdv) (A' := A') (outer := outer) (st := st) (H0 := H0) (E := E) W hr
  obtain ⟨fM, dM, okM, bM, mM, oM⟩ := W.mulI
  obtain ⟨fQ, dQ, okQ, bQ, oQ⟩ := W.rsub
  obtain ⟨fR, dR, okR, bR, oR⟩ := W.rmul
  obtain ⟨fS, dS, okS, mS, kS, bS⟩ := W.sum
  obtain ⟨fC, dC, okC, mC, kC, bC⟩ := W.scaled
  have hr1 := hr.mono (show 1 ≤ 12 by decide)
  refine ⟨_, (pss_cons (ps_expr (pe_bm PySem.F.plainAttrs_list PySem.F.slot_list_append PySem.F.type_list_append mt_append (pv 9) (pa_cons (pe_tup (pa_cons (pe_op (op_iSub oQ okQ (hr.mono (by decide)) bQ pass0) (pv 5) (pv 6)) (pa_cons (pe_call okS hr1 (by rfl) mS kS bS .nil pass0 (pa_cons (pe_op op_cat (pv 8) (pe_call okC hr1 (by rfl) mC kC bC .nil pass0 (pa_cons (pv 3) (pa_cons (pe_un un_neg pe_int) pa_nil)))) pa_nil)) pa_nil))) pa_nil))) (pss_cons (ps_expr (pe_bm PySem.F.plainAttrs_list PySem.F.slot_list_append PySem.F.type_list_append mt_append (pv 9) (pa_cons (pe_tup (pa_cons (pe_op (op_ownI oM okM (hr.mono (by decide)) bM pass0) (pv 6) (pv 5)) (pa_cons (pe_call okS hr1 (by rfl) mS kS bS .nil pass0 (pa_cons (pe_call okC hr1 (by rfl) mC kC bC .nil pass0 (pa_cons (pv 3) (pa_cons (pv 5) pa_nil))) pa_nil)) pa_nil))) pa_nil))) (pss_cons (ps_expr (pe_bm PySem.F.plainAttrs_list PySem.F.slot_list_append PySem.F.type_list_append mt_append (pv 9) (pa_cons (pe_tup (pa_cons (pe_op (op_iMul oR okR (hr.mono (by decide)) bR pass0) (pv 5) (pv 7)) (pa_cons (pe_call okS hr1 (by rfl) mS kS bS .nil pass0 (pa_cons (pe_call okC hr1 (by rfl) mC kC bC .nil pass0 (pa_cons (pv 4) (pa_cons (pv 5) pa_nil))) pa_nil)) pa_nil))) pa_nil))) pu))), ?_⟩
  intro G Q hQ v1 v10 v11 v12 v13 v14 v15 v16 v17 v18 v19 v20 sc pl dl dr x y wl rl n ss M A B Lw L v H0 H X R hL h2
  have h5 : G.length ≤ 5 := by have := X.S.l4; omega
  have ha := X.S.hA.ln
  have hb := X.S.hB.ln
  have X1 := X.same R.s
  have S1 := X1.S
  refine ⟨_, rfl, .inl ⟨rfl, _, SqL.of R.at_⟩, arg_rd (fo_iOwn (fun _ _ h => ⟨_, rfl, h⟩) (fun _ _ h => ⟨_, rfl, h⟩) S1.hx (pr_rsub S1.P S1.hx S1.ln)) (du_sum (gv_cat (gw X1) (gv_sc (c := -1) S1.hA (by decide) S1.l4 (fun _ _ h => ⟨_, rfl, h⟩) (fun _ _ h => ⟨1, rfl, h⟩)) (by simp only [List.length_append, sc_len, List.length_cons, List.length_nil]; omega)) (by simp only [List.length_append, sc_len, List.length_cons, List.length_nil]; omega)) (res_rsub h5 S1.hA.aA) (app_lt (one_lt _) (sc_lt S1.hA.aA (-1))) (by simp only [List.length_append, sc_len, List.length_cons, List.length_nil]; omega) fun a15 H15 s15 h15 => ⟨rl, _, _, rfl, rfl, s15 _ _ R.at_, R.few, ?_⟩⟩
  replace R := R.snoc s15 h15 (by first | omega | (simp only [List.length_append, List.length_cons, List.length_nil]; omega))
  clear X1 S1
  generalize upd H15 rl (.lst _) = J15 at R
  have X1 := X.same R.s
  have S1 := X1.S
  refine ⟨_, rfl, .inl ⟨rfl, _, SqL.of R.at_⟩, arg_rd (fo_ownI (fun _ _ h => ⟨_, rfl, h⟩) (fun _ _ h => ⟨_, rfl, h⟩) S1.hx (pr_mulI S1.P S1.hx S1.ln S1.cb)) (du_sum (gv_sc (c := n) S1.hA (by decide) S1.l4 (fun _ _ h => ⟨_, rfl, h⟩) (fun _ _ h => ⟨_, rfl, h⟩)) (by simp only [List.length_append, sc_len, List.length_cons, List.length_nil]; omega)) (res_mulI h5 S1.hA.aA) (sc_lt S1.hA.aA n) (by simp only [List.length_append, sc_len, List.length_cons, List.length_nil]; omega) fun a16 H16 s16 h16 => ⟨rl, _, _, rfl, rfl, s16 _ _ R.at_, R.few, ?_⟩⟩
  replace R := R.snoc s16 h16 (by first | omega | (simp only [List.length_append, List.length_cons, List.length_nil]; omega))
  clear X1 S1
  generalize upd H16 rl (.lst _) = J16 at R
  have X1 := X.same R.s
  have S1 := X1.S
  refine ⟨_, rfl, .inl ⟨rfl, _, SqL.of R.at_⟩, arg_rd (fo_iOwn (fun _ _ h => ⟨_, rfl, h⟩) (fun _ _ h => ⟨_, rfl, h⟩) S1.hy (pr_rmul S1.P S1.hy (by have := S1.lnB; omega) S1.cbB)) (du_sum (gv_sc (c := n) S1.hB (by decide) S1.l4 (fun _ _ h => ⟨_, rfl, h⟩) (fun _ _ h => ⟨_, rfl, h⟩)) (by simp only [List.length_append, sc_len, List.length_cons, List.length_nil]; omega)) (res_mulI h5 S1.hB.aA) (sc_lt S1.hB.aA n) (by simp only [List.length_append, sc_len, List.length_cons, List.length_nil]; omega) fun a17 H17 s17 h17 => ⟨rl, _, _, rfl, rfl, s17 _ _ R.at_, R.few, ?_⟩⟩
  replace R := R.snoc s17 h17 (by first | omega | (simp only [List.length_append, List.length_cons, List.length_nil]; omega))
  clear X1 S1
  generalize upd H17 rl (.lst _) = J17 at R
  have X1 := X.same R.s
  exact hq G Q hQ v1 _ _ v10 v11 v12 v13 v14 v15 v16 v17 v18 v19 v20 sc pl dl dr x y rl ss M A B _ v _ X1.S R.at_ R.rs (keep2 (keep2 (keep2 h2))) X1.sc
end
end KP
set_option maxRecDepth 100000
set_option maxHeartbeats 4000000
/-! The law's middle results. -/
namespace KP
open PySem PySem.Spec PyProof.Rows L2 KT FS FD
open FM (asc addP accL coef nrm mulT ascL vT negT CbL bt)
section
variable {P : Program} {w : World} {K : PySem.W.Frag} {mg : Str → Option Value} {base : Heap} {C CS f : Addr} {cdv : Value} {A' : Around} {outer : List Env} {st : Shared} {H0 : Hp} {E : XK}
theorem lw12 (W : LX K mg P w base C CS) (hr : Room 12 (A'.deeper (envOfC "law" (defScope sLaw) st.heap.objs.size f cdv))) :
    ∃ u, PSs (cxOf CX0 P w K mg base nLw "law" (defScope sLaw) f cdv A' outer st H0 E).nox ((defBody sLaw).drop 12) u ∧ ∀ (G : List Sg) (Q : VK), (∀ H', Q (.bl true) H') → ∀ (v1 v10 v11 v12 v13 v14 v15 v16 v17 v18 v19 v20 : Option V) (sc pl dl dr x y wl rl : Addr) (n : Int) (ss : List Int) (M : List (V × Nat)) (A B : List FM.Tm) (Lw : List (V × FM.Tm)) (L : List (V × List FM.Tm)) (v : V) (H0 H : Hp),
      Wx K G C H0 pl M dl dr A B x y wl Lw n sc ss → Rs G C H0 H rl L → L.length = 4 → L[2]? = some (v, ascL 5 (mulT (accL A) (accL B))) →
      u { nx := fun _ H' => Q .non H', rt := Q } [some (.ref sc), v1, some (.ref pl), some (.ref dl), some (.ref dr), some (.int n), some (.ref x), some (.ref y), some (.ref wl), some (.ref rl), v10, v11, v12, v13, v14, v15, v16, v17, v18, v19, v20] H := by
  obtain ⟨u, pu, hq⟩ := lw15 (P := P) (w := w) (K := K) (base := base) (f := f) (cdv := cdv) (A' := A') (outer := outer) (st := st) (H0 := H0) (E := E) W hr
  obtain ⟨fA, dA, okA, bA, mA, oA⟩ := W.addI
  obtain ⟨fB, dB, okB, bB, mB, oB⟩ := W.subI
  obtain ⟨fP, dP', okP, bP, oP⟩ := W.radd
  obtain ⟨fS, dS, okS, mS, kS, bS⟩ := W.sum
  obtain ⟨fC, dC, okC, mC, kC, bC⟩ := W.scaled
  have hr1 := hr.mono (show 1 ≤ 12 by decide)
  refine ⟨_, (pss_cons (ps_expr (pe_bm PySem.F.plainAttrs_list PySem.F.slot_list_append PySem.F.type_list_append mt_append (pv 9) (pa_cons (pe_tup (pa_cons (pe_op (op_ownI oA okA (hr.mono (by decide)) bA pass0) (pv 6) (pv 5)) (pa_cons (pe_call okS hr1 (by rfl) mS kS bS .nil pass0 (pa_cons (pe_op op_cat (pe_call okC hr1 (by rfl) mC kC bC .nil pass0 (pa_cons (pv 3) (pa_cons pe_int pa_nil))) (pv 8)) pa_nil)) pa_nil))) pa_nil))) (pss_cons (ps_expr (pe_bm PySem.F.plainAttrs_list PySem.F.slot_list_append PySem.F.type_list_append mt_append (pv 9) (pa_cons (pe_tup (pa_cons (pe_op (op_iAdd oP okP (hr.mono (by decide)) bP pass0) (pv 5) (pv 6)) (pa_cons (pe_call okS hr1 (by rfl) mS kS bS .nil pass0 (pa_cons (pe_op op_cat (pv 8) (pe_call okC hr1 (by rfl) mC kC bC .nil pass0 (pa_cons (pv 3) (pa_cons pe_int pa_nil)))) pa_nil)) pa_nil))) pa_nil))) (pss_cons (ps_expr (pe_bm PySem.F.plainAttrs_list PySem.F.slot_list_append PySem.F.type_list_append mt_append (pv 9) (pa_cons (pe_tup (pa_cons (pe_op (op_ownI oB okB (hr.mono (by decide)) bB pass0) (pv 6) (pv 5)) (pa_cons (pe_call okS hr1 (by rfl) mS kS bS .nil pass0 (pa_cons (pe_op op_cat (pe_call okC hr1 (by rfl) mC kC bC .nil pass0 (pa_cons (pv 3) (pa_cons pe_int pa_nil))) (pe_lst (pa_cons (pe_tup (pa_cons (pe_lst pa_nil) (pa_cons (pe_un un_neg (pv 5)) pa_nil))) pa_nil))) pa_nil)) pa_nil))) pa_nil))) pu))), ?_⟩
  intro G Q hQ v1 v10 v11 v12 v13 v14 v15 v16 v17 v18 v19 v20 sc pl dl dr x y wl rl n ss M A B Lw L v H0 H X R hL h2
  have h5 : G.length ≤ 5 := by have := X.S.l4; omega
  have ha := X.S.hA.ln
  have hb := X.S.hB.ln
  have X1 := X.same R.s
  have S1 := X1.S
  refine ⟨_, rfl, .inl ⟨rfl, _, SqL.of R.at_⟩, arg_rd (fo_ownI (fun _ _ h => ⟨_, rfl, h⟩) (fun _ _ h => ⟨_, rfl, h⟩) S1.hx (pr_addI S1.P S1.hx S1.ln)) (du_sum (gv_cat (gv_sc (c := 1) S1.hA (by decide) S1.l4 (fun _ _ h => ⟨_, rfl, h⟩) (fun _ _ h => h)) (gw X1) (by simp only [List.length_append, sc_len, List.length_cons, List.length_nil]; omega)) (by simp only [List.length_append, sc_len, List.length_cons, List.length_nil]; omega)) (res_addI h5 S1.hA.aA) (app_lt (sc_lt S1.hA.aA 1) (one_lt _)) (by simp only [List.length_append, sc_len, List.length_cons, List.length_nil]; omega) fun a12 H12 s12 h12 => ⟨rl, _, _, rfl, rfl, s12 _ _ R.at_, R.few, ?_⟩⟩
  replace R := R.snoc s12 h12 (by first | omega | (simp only [List.length_append, List.length_cons, List.length_nil]; omega))
  clear X1 S1
  generalize upd H12 rl (.lst _) = J12 at R
  have X1 := X.same R.s
  have S1 := X1.S
  refine ⟨_, rfl, .inl ⟨rfl, _, SqL.of R.at_⟩, arg_rd (fo_iOwn (fun _ _ h => ⟨_, rfl, h⟩) (fun _ _ h => ⟨_, rfl, h⟩) S1.hx (pr_radd S1.P S1.hx S1.ln)) (du_sum (gv_cat (gw X1) (gv_sc (c := 1) S1.hA (by decide) S1.l4 (fun _ _ h => ⟨_, rfl, h⟩) (fun _ _ h => h)) (by simp only [List.length_append, sc_len, List.length_cons, List.length_nil]; omega)) (by simp only [List.length_append, sc_len, List.length_cons, List.length_nil]; omega)) (res_radd h5 S1.hA.aA) (app_lt (one_lt _) (sc_lt S1.hA.aA 1)) (by simp only [List.length_append, sc_len, List.length_cons, List.length_nil]; omega) fun a13 H13 s13 h13 => ⟨rl, _, _, rfl, rfl, s13 _ _ R.at_, R.few, ?_⟩⟩
  replace R := R.snoc s13 h13 (by first | omega | (simp only [List.length_append, List.length_cons, List.length_nil]; omega))
  clear X1 S1
  generalize upd H13 rl (.lst _) = J13 at R
  have X1 := X.same R.s
  have S1 := X1.S
  refine ⟨_, rfl, .inl ⟨rfl, _, SqL.of R.at_⟩, arg_rd (fo_ownI (fun _ _ h => ⟨_, rfl, h⟩) (fun _ _ h => ⟨_, rfl, h⟩) S1.hx (pr_subI S1.P S1.hx S1.ln)) (du_sum (gv_cat (gv_sc (c := 1) S1.hA (by decide) S1.l4 (fun _ _ h => ⟨_, rfl, h⟩) (fun _ _ h => h)) (gv_one (c := -n) (fun _ _ h => ⟨_, rfl, _, rfl, h⟩)) (by simp only [List.length_append, sc_len, List.length_cons, List.length_nil]; omega)) (by simp only [List.length_append, sc_len, List.length_cons, List.length_nil]; omega)) (res_subI h5 S1.hA.aA) (app_lt (sc_lt S1.hA.aA 1) (one_lt _)) (by simp only [List.length_append, sc_len, List.length_cons, List.length_nil]; omega) fun a14 H14 s14 h14 => ⟨rl, _, _, rfl, rfl, s14 _ _ R.at_, R.few, ?_⟩⟩
  replace R := R.snoc s14 h14 (by first | omega | (simp only [List.length_append, List.length_cons, List.length_nil]; omega))
  clear X1 S1
  generalize upd H14 rl (.lst _) = J14 at R
  exact hq G Q hQ v1 v10 v11 v12 v13 v14 v15 v16 v17 v18 v19 v20 sc pl dl dr x y wl rl n ss M A B Lw _ v H0 _ X R (by simp only [List.length_append, List.length_cons, List.length_nil]; omega) (keep2 (keep2 (keep2 h2)))
end
end KP
set_option maxRecDepth 100000
set_option maxHeartbeats 4000000
/-! The law's first results. -/
namespace KP
open PySem PySem.Spec PyProof.Rows L2 KT FS FD
open FM (asc addP accL coef nrm mulT ascL vT negT CbL bt)
section
variable {P : Program} {w : World} {K : PySem.W.Frag} {mg : Str → Option Value} {base : Heap} {C CS f : Addr} {cdv : Value} {A' : Around} {outer : List Env} {st : Shared} {H0 : Hp} {E : XK}
theorem lw9 (W : LX K mg P w base C CS) (hr : Room 12 (A'.deeper (envOfC "law" (defScope sLaw) st.heap.objs.size f cdv))) :
    ∃ u, PSs (cxOf CX0 P w K mg base nLw "law" (defScope sLaw) f cdv A' outer st H0 E).nox ((defBody sLaw).drop 9) u ∧ ∀ (G : List Sg) (Q : VK), (∀ H', Q (.bl true) H') → ∀ (v1 v10 v11 v12 v13 v14 v15 v16 v17 v18 v19 v20 : Option V) (sc pl dl dr x y wl rl : Addr) (n : Int) (ss : List Int) (M : List (V × Nat)) (A B : List FM.Tm) (Lw : List (V × FM.Tm)) (L : List (V × List FM.Tm)) (H0 H : Hp),
      Wx K G C H0 pl M dl dr A B x y wl Lw n sc ss → Rs G C H0 H rl L → L.length = 1 →
      u { nx := fun _ H' => Q .non H', rt := Q } [some (.ref sc), v1, some (.ref pl), some (.ref dl), some (.ref dr), some (.int n), some (.ref x), some (.ref y), some (.ref wl), some (.ref rl), v10, v11, v12, v13, v14, v15, v16, v17, v18, v19, v20] H := by
  obtain ⟨u, pu, hq⟩ := lw12 (P := P) (w := w) (K := K) (base := base) (f := f) (cdv := cdv) (A' := A') (outer := outer) (st := st) (H0 := H0) (E := E) W hr
  obtain ⟨fB, dB, okB, bB, mB, oB⟩ := W.subI
  obtain ⟨fM, dM, okM, bM, mM, oM⟩ := W.mulI
  obtain ⟨fN, dN, okN, mN, bN⟩ := W.neg
  obtain ⟨fS, dS, okS, mS, kS, bS⟩ := W.sum
  obtain ⟨fC, dC, okC, mC, kC, bC⟩ := W.scaled
  obtain ⟨fT, dT, okT, mT, kT, bT⟩ := W.times
  have hr1 := hr.mono (show 1 ≤ 12 by decide)
  refine ⟨_, (pss_cons (ps_expr (pe_bm PySem.F.plainAttrs_list PySem.F.slot_list_append PySem.F.type_list_append mt_append (pv 9) (pa_cons (pe_tup (pa_cons (pe_op (op_own (op := .Sub) W.sf mB.at_ mB.fn okB (hr.mono (by decide)) bB pass0) (pv 6) (pv 7)) (pa_cons (pe_call okS hr1 (by rfl) mS kS bS .nil pass0 (pa_cons (pe_op op_cat (pe_call okC hr1 (by rfl) mC kC bC .nil pass0 (pa_cons (pv 3) (pa_cons pe_int pa_nil))) (pe_call okC hr1 (by rfl) mC kC bC .nil pass0 (pa_cons (pv 4) (pa_cons (pe_un un_neg pe_int) pa_nil)))) pa_nil)) pa_nil))) pa_nil))) (pss_cons (ps_expr (pe_bm PySem.F.plainAttrs_list PySem.F.slot_list_append PySem.F.type_list_append mt_append (pv 9) (pa_cons (pe_tup (pa_cons (pe_op (op_own (op := .Mult) W.sf mM.at_ mM.fn okM (hr.mono (by decide)) bM pass0) (pv 6) (pv 7)) (pa_cons (pe_call okT (hr.mono (by decide)) (by rfl) mT kT bT .nil pass0 (pa_cons (pv 3) (pa_cons (pv 4) pa_nil))) pa_nil))) pa_nil))) (pss_cons (ps_expr (pe_bm PySem.F.plainAttrs_list PySem.F.slot_list_append PySem.F.type_list_append mt_append (pv 9) (pa_cons (pe_tup (pa_cons (pe_un (un_negO mN.at_ mN.fn okN (hr.mono (by decide)) bN pass0) (pv 6)) (pa_cons (pe_call okS hr1 (by rfl) mS kS bS .nil pass0 (pa_cons (pe_call okC hr1 (by rfl) mC kC bC .nil pass0 (pa_cons (pv 3) (pa_cons (pe_un un_neg pe_int) pa_nil))) pa_nil)) pa_nil))) pa_nil))) pu))), ?_⟩
  intro G Q hQ v1 v10 v11 v12 v13 v14 v15 v16 v17 v18 v19 v20 sc pl dl dr x y wl rl n ss M A B Lw L H0 H X R hL
  have h5 : G.length ≤ 5 := by have := X.S.l4; omega
  have ha := X.S.hA.ln
  have hb := X.S.hB.ln
  have X1 := X.same R.s
  have S1 := X1.S
  refine ⟨_, rfl, .inl ⟨rfl, _, SqL.of R.at_⟩, arg_rd (fo_own (fun _ _ h => ⟨_, rfl, h⟩) (fun _ _ h => ⟨_, rfl, h⟩) S1.hx S1.hy (pr_sub S1.P S1.hx S1.hy S1.ln S1.lnB)) (du_sum (gv_cat (gv_sc (c := 1) S1.hA (by decide) S1.l4 (fun _ _ h => ⟨_, rfl, h⟩) (fun _ _ h => h)) (gv_sc (c := -1) S1.hB (by decide) S1.l4 (fun _ _ h => ⟨_, rfl, h⟩) (fun _ _ h => ⟨1, rfl, h⟩)) (by simp only [List.length_append, sc_len, List.length_cons, List.length_nil]; omega)) (by simp only [List.length_append, sc_len, List.length_cons, List.length_nil]; omega)) (res_sub h5 S1.hA.aA S1.hB.aA) (app_lt (sc_lt S1.hA.aA 1) (sc_lt S1.hB.aA (-1))) (by simp only [List.length_append, sc_len, List.length_cons, List.length_nil]; omega) fun a9 H9 s9 h9 => ⟨rl, _, _, rfl, rfl, s9 _ _ R.at_, R.few, ?_⟩⟩
  replace R := R.snoc s9 h9 (by first | omega | (simp only [List.length_append, List.length_cons, List.length_nil]; omega))
  clear X1 S1
  generalize upd H9 rl (.lst _) = J9 at R
  have X1 := X.same R.s
  have S1 := X1.S
  refine ⟨_, rfl, .inl ⟨rfl, _, SqL.of R.at_⟩, arg_rd (fo_own (fun _ _ h => ⟨_, rfl, h⟩) (fun _ _ h => ⟨_, rfl, h⟩) S1.hx S1.hy (pr_mul S1.P S1.hx S1.hy S1.ln S1.lnB S1.cb)) (du_times S1.hA S1.hB S1.nd S1.l4 (fun _ _ h => ⟨_, rfl, h⟩) (fun _ _ h => ⟨_, rfl, h⟩)) (res_mul h5 S1.hA.aA S1.hB.aA) (FM.mul_lt (asc_acc S1.hA.aA) (asc_acc S1.hB.aA)) (by rw [mul_len]; exact Nat.le_trans (Nat.mul_le_mul ha hb) (by decide)) fun a10 H10 s10 h10 => ⟨rl, _, _, rfl, rfl, s10 _ _ R.at_, R.few, ?_⟩⟩
  replace R := R.snoc s10 h10 (by first | omega | (simp only [List.length_append, List.length_cons, List.length_nil]; omega))
  clear X1 S1
  generalize upd H10 rl (.lst _) = J10 at R
  have X1 := X.same R.s
  have S1 := X1.S
  refine ⟨_, rfl, .inl ⟨rfl, _, SqL.of R.at_⟩, arg_rd (fo_neg (fun _ _ h => ⟨_, rfl, h⟩) S1.hx (pr_neg S1.P S1.hx S1.ln)) (du_sum (gv_sc (c := -1) S1.hA (by decide) S1.l4 (fun _ _ h => ⟨_, rfl, h⟩) (fun _ _ h => ⟨1, rfl, h⟩)) (by simp only [List.length_append, sc_len, List.length_cons, List.length_nil]; omega)) (res_neg h5 S1.hA.aA) (sc_lt S1.hA.aA (-1)) (by simp only [List.length_append, sc_len, List.length_cons, List.length_nil]; omega) fun a11 H11 s11 h11 => ⟨rl, _, _, rfl, rfl, s11 _ _ R.at_, R.few, ?_⟩⟩
  replace R := R.snoc s11 h11 (by first | omega | (simp only [List.length_append, List.length_cons, List.length_nil]; omega))
  clear X1 S1
  generalize upd H11 rl (.lst _) = J11 at R
  exact hq G Q hQ v1 v10 v11 v12 v13 v14 v15 v16 v17 v18 v19 v20 sc pl dl dr x y wl rl n ss M A B Lw _ _ H0 _ X R (by simp only [List.length_append, List.length_cons, List.length_nil]; omega) (third hL)
end
end KP
set_option maxRecDepth 100000
set_option maxHeartbeats 4000000
/-! The law's forms, its first result. -/
namespace KP
open PySem PySem.Spec PyProof.Rows L2 KT FS FD
open FM (asc addP accL coef nrm mulT ascL vT negT CbL bt)
section
variable {P : Program} {w : World} {K : PySem.W.Frag} {mg : Str → Option Value} {base : Heap} {C CS f : Addr} {cdv : Value} {A' : Around} {outer : List Env} {st : Shared} {H0 : Hp} {E : XK}
theorem lw7 (W : LX K mg P w base C CS) (hr : Room 12 (A'.deeper (envOfC "law" (defScope sLaw) st.heap.objs.size f cdv))) :
    ∃ u, PSs (cxOf CX0 P w K mg base nLw "law" (defScope sLaw) f cdv A' outer st H0 E).nox ((defBody sLaw).drop 7) u ∧ ∀ (G : List Sg) (Q : VK), (∀ H', Q (.bl true) H') → ∀ (v1 v8 v9 v10 v11 v12 v13 v14 v15 v16 v17 v18 v19 v20 : Option V) (sc pl dl dr x y : Addr) (n : Int) (ss : List Int) (M : List (V × Nat)) (A B : List FM.Tm) (H : Hp),
      Sx G C H pl M dl dr A B x y → SqL K H sc (ss.map V.int) →
      u { nx := fun _ H' => Q .non H', rt := Q } [some (.ref sc), v1, some (.ref pl), some (.ref dl), some (.ref dr), some (.int n), some (.ref x), some (.ref y), v8, v9, v10, v11, v12, v13, v14, v15, v16, v17, v18, v19, v20] H := by
  obtain ⟨u, pu, hq⟩ := lw9 (P := P) (w := w) (K := K) (base := base) (f := f) (cdv := cdv) (A' := A') (outer := outer) (st := st) (H0 := H0) (E := E) W hr
  obtain ⟨fA, dA, okA, bA, mA, oA⟩ := W.addI
  obtain ⟨fS, dS, okS, mS, kS, bS⟩ := W.sum
  obtain ⟨fC, dC, okC, mC, kC, bC⟩ := W.scaled
  have hr1 := hr.mono (show 1 ≤ 12 by decide)
  refine ⟨_, pss_cons (ps_set (i := 8) scLaw.nd rfl (.inl rfl) (pe_lst (pa_cons (pe_tup (pa_cons (pe_lst pa_nil) (pa_cons (pv 5) pa_nil))) pa_nil)))
    (pss_cons (ps_set (i := 9) scLaw.nd rfl (.inl rfl) (pe_lst (pa_cons (pe_tup (pa_cons (pe_op (op_own (op := .Add) W.sf mA.at_ mA.fn okA (hr.mono (by decide)) bA pass0) (pv 6) (pv 7)) (pa_cons (pe_call okS hr1 (by rfl) mS kS bS .nil pass0 (pa_cons (pe_op op_cat (pe_call okC hr1 (by rfl) mC kC bC .nil pass0 (pa_cons (pv 3) (pa_cons pe_int pa_nil))) (pe_call okC hr1 (by rfl) mC kC bC .nil pass0 (pa_cons (pv 4) (pa_cons pe_int pa_nil)))) pa_nil)) pa_nil))) pa_nil))) pu), ?_⟩
  intro G Q hQ v1 v8 v9 v10 v11 v12 v13 v14 v15 v16 v17 v18 v19 v20 sc pl dl dr x y n ss M A B H S hsc
  unfold tSeq tAsg
  refine gv_one (n := G.length) (c := n) (fun _ _ h => ⟨_, rfl, h⟩) H (Same.refl _) _ fun wl Lw H1 s1 hwl hL eL => ?_
  have h5 : G.length ≤ 5 := by have := S.l4; omega
  have ha := S.hA.ln
  have hb := S.hB.ln
  have X1 : Wx K G C H1 pl M dl dr A B x y wl Lw n sc ss := ⟨S.same s1, hwl, hL, eL, s1.seq hsc⟩
  have S1 := X1.S
  unfold gName tLst
  dsimp only
  refine arg_rd (fo_own (fun _ _ h => ⟨_, rfl, h⟩) (fun _ _ h => ⟨_, rfl, h⟩) S1.hx S1.hy (pr_add S1.P S1.hx S1.hy S1.ln S1.lnB)) (du_sum (gv_cat (gv_sc (c := 1) S1.hA (by decide) S1.l4 (fun _ _ h => ⟨_, rfl, h⟩) (fun _ _ h => h)) (gv_sc (c := 1) S1.hB (by decide) S1.l4 (fun _ _ h => ⟨_, rfl, h⟩) (fun _ _ h => h)) (by simp only [List.length_append, sc_len, List.length_cons, List.length_nil]; omega)) (by simp only [List.length_append, sc_len, List.length_cons, List.length_nil]; omega)) (res_add h5 S1.hA.aA S1.hB.aA) (app_lt (sc_lt S1.hA.aA 1) (sc_lt S1.hB.aA 1)) (by simp only [List.length_append, sc_len, List.length_cons, List.length_nil]; omega) fun a H8 s8 h8 => ⟨by show 1 ≤ sizeLine; decide, fun rl nr => ?_⟩
  have s9 : Same H8 (upd H8 rl (.lst [.ref a])) := same_upd nr
  exact hq G Q hQ v1 v10 v11 v12 v13 v14 v15 v16 v17 v18 v19 v20 sc pl dl dr x y wl rl n ss M A B Lw [(.ref a, _)] H8 _ (X1.same s8) ⟨s9, nr, upd_same, (fun z hz => by rw [List.mem_singleton.mp hz]; exact h8.same s9), by show 1 ≤ 20; decide⟩ rfl
theorem lw5 (W : LX K mg P w base C CS) (hr : Room 12 (A'.deeper (envOfC "law" (defScope sLaw) st.heap.objs.size f cdv))) :
    ∃ u, PSs (cxOf CX0 P w K mg base nLw "law" (defScope sLaw) f cdv A' outer st H0 E).nox ((defBody sLaw).drop 5) u ∧ ∀ (G : List Sg) (Q : VK), (∀ H', Q (.bl true) H') → ∀ (v1 v6 v7 v8 v9 v10 v11 v12 v13 v14 v15 v16 v17 v18 v19 v20 : Option V) (sc pl dl dr : Addr) (n : Int) (ss : List Int) (M : List (V × Nat)) (A B : List FM.Tm) (H : Hp),
      Pool G → G.length ≤ 4 → (∀ g ∈ G, g.1 ≠ g.2.1) → PoolAt G H pl M → dl ≠ dr → SumAt G.length H dl A 9 1000000000000 → SumAt G.length H dr B 5 1000000000000 → A.length ≤ 100 → B.length ≤ 100 → SqL K H sc (ss.map V.int) →
      u { nx := fun _ H' => Q .non H', rt := Q } [some (.ref sc), v1, some (.ref pl), some (.ref dl), some (.ref dr), some (.int n), v6, v7, v8, v9, v10, v11, v12, v13, v14, v15, v16, v17, v18, v19, v20] H := by
  obtain ⟨u, pu, hq⟩ := lw7 (P := P) (w := w) (K := K) (base := base) (f := f) (cdv := cdv) (A' := A') (outer := outer) (st := st) (H0 := H0) (E := E) W hr
  obtain ⟨f1, d1, ok1, m1, k1, b1⟩ := W.form
  have hr9 := hr.mono (show 9 ≤ 12 by decide)
  refine ⟨_, pss_cons (ps_set (i := 6) scLaw.nd rfl (.inl rfl) (pe_call ok1 hr9 (by rfl) m1 k1 b1 .nil pass0 (pa_cons (pv 3) (pa_cons (pv 2) pa_nil))))
    (pss_cons (ps_set (i := 7) scLaw.nd rfl (.inl rfl) (pe_call ok1 hr9 (by rfl) m1 k1 b1 .nil pass0 (pa_cons (pv 4) (pa_cons (pv 2) pa_nil)))) pu), ?_⟩
  intro G Q hQ v1 v6 v7 v8 v9 v10 v11 v12 v13 v14 v15 v16 v17 v18 v19 v20 sc pl dl dr n ss M A B H PG l4 ne hP nd hA hB lA lB hsc
  have la := hA.ln
  have lb := hB.ln
  refine ⟨_, rfl, _, rfl, G, PG, dl, pl, M, A, rfl, hA.at_, hP, hA.aA, by omega, fun x H1 s1 nx hx => ?_⟩
  refine ⟨_, rfl, _, rfl, G, PG, dr, pl, M, B, rfl, s1 _ _ hB.at_, hP.same s1, hB.aA, by omega, fun y H2 s2 ny hy => ?_⟩
  have s12 := s1.trans s2
  exact hq G Q hQ v1 v8 v9 v10 v11 v12 v13 v14 v15 v16 v17 v18 v19 v20 sc pl dl dr x y n ss M A B H2 ⟨PG, l4, ne, hP.same s12, nd, hA.same s12, hB.same s12, lA, lB, hx.same s2, hy⟩ (s12.seq hsc)

end
end KP
set_option maxRecDepth 100000
set_option maxHeartbeats 4000000
/-! The law, whole. -/
namespace FM
theorem acc_id (T : List Tm) : (T.map (·.1)).Nodup → accL T = T := by
  refine list_snoc (C := fun T => (T.map (·.1)).Nodup → accL T = T) (fun _ => rfl) (fun T t ih h => ?_) T
  rw [List.map_append, List.nodup_append] at h
  rw [acc_snoc, ih h.1]
  unfold addP
  rw [if_neg fun m => h.2.2 _ m t.1 (by simp) rfl]
end FM
namespace KP
open PySem PySem.Spec PyProof.Rows L2 KT FS FD
open FM (asc addP accL coef nrm mulT ascL vT negT CbL bt)
theorem SumAt.acc {n} {H : Hp} {d A m B} (h : SumAt n H d A m B) : SumAt n H d (accL A) m B := by
  have e := FM.acc_id (accL A) (FM.acc_nd A)
  exact ⟨by rw [e]; exact h.at_, asc_acc h.aA, by rw [e]; exact h.ln, by rw [e]; exact h.bd⟩
def spLaw (K : PySem.W.Frag) : Sp := fun vs H Q _ => ∃ (sc : Addr) (ss : List Int), vs = [.ref sc] ∧ SqL K H sc (ss.map V.int) ∧ ∀ H', Q (.bl true) H'
section
variable {P : Program} {w : World} {K : PySem.W.Frag} {mg : Str → Option Value} {base : Heap}
theorem ok_law {fl C CS : Addr} {dl : FuncData} (F : Fun K "law" "law" sLaw fl dl) (W : LX K mg P w base C CS) : FnOk P w K mg base CX0 13 fl dl ["_law_script"] (spLaw K) := by
  refine F.ok scLaw (fun vs H Q E h => ?_) (fun cdv A' outer st H vs Q E hr h => ?_)
  · obtain ⟨_, _, rfl, _⟩ := h
    rfl
  · obtain ⟨sc, ss, rfl, hsc, hQ⟩ := h
    have hr1 := hr.mono (show 1 ≤ 12 by decide)
    obtain ⟨u, pu, hq⟩ := lw5 (P := P) (w := w) (K := K) (base := base) (f := fl) (cdv := cdv) (A' := A') (outer := outer) (st := st) (H0 := H) (E := E) W hr
    obtain ⟨f1, d1, ok1, m1, k1, b1⟩ := W.pot
    obtain ⟨f2, d2, ok2, m2, k2, b2⟩ := W.draw
    obtain ⟨f3, d3, ok3, m3, k3, b3⟩ := W.signs
    obtain ⟨f4, d4, ok4, m4, k4, b4⟩ := W.terms
    obtain ⟨f5, d5, ok5, m5, k5, b5⟩ := W.sum
    obtain ⟨f6, d6, ok6, m6, k6, b6⟩ := W.first
    obtain ⟨f7, d7, ok7, m7, k7, b7⟩ := W.num
    refine ⟨_, pss_cons (ps_set (i := 1) scLaw.nd rfl (.inr rfl) (pe_call ok1 hr1 (by rfl) m1 k1 b1 .nil pass0 (pa_cons (pv 0) (pa_cons pe_int pa_nil))))
      (pss_cons (ps_set (i := 2) scLaw.nd rfl (.inr rfl) (pe_call ok3 (hr.mono (by decide)) (by rfl) m3 k3 b3 .nil pass0 (pa_cons (pv 1) (pa_cons (pe_op op_add pe_int (pe_call ok2 hr1 (by rfl) m2 k2 b2 .nil pass0 (pa_cons (pv 1) (pa_cons pe_int pa_nil)))) pa_nil))))
      (pss_cons (ps_set (i := 3) scLaw.nd rfl (.inl rfl) (pe_call ok6 (hr.mono (by decide)) (by rfl) m6 k6 b6 .nil pass0 (pa_cons (pe_call ok1 hr1 (by rfl) m1 k1 b1 .nil pass0 (pa_cons (pv 0) (pa_cons pe_int pa_nil))) (pa_cons (pe_callB call_len_seq (by rfl) W.B.len PySem.boot_len (pa_cons (pv 2) pa_nil)) pa_nil))))
      (pss_cons (ps_set (i := 4) scLaw.nd rfl (.inl rfl) (pe_call ok5 hr1 (by rfl) m5 k5 b5 .nil pass0 (pa_cons (pe_call ok4 (hr.mono (by decide)) (by rfl) m4 k4 b4 .nil pass0 (pa_cons (pe_call ok1 hr1 (by rfl) m1 k1 b1 .nil pass0 (pa_cons (pv 0) (pa_cons pe_int pa_nil))) (pa_cons pe_int (pa_cons (pe_callB call_len_seq (by rfl) W.B.len PySem.boot_len (pa_cons (pv 2) pa_nil)) pa_nil)))) pa_nil)))
      (pss_cons (ps_set (i := 5) scLaw.nd rfl (.inl rfl) (pe_call ok7 (hr.mono (by decide)) (by rfl) m7 k7 b7 .nil pass0 (pa_cons (pe_call ok1 hr1 (by rfl) m1 k1 b1 .nil pass0 (pa_cons (pv 0) (pa_cons pe_int pa_nil))) pa_nil))) pu)))), ?_⟩
    refine ⟨_, rfl, sc, ss, 0, rfl, hsc, fun p0 H1 s1 n0 hp0 => ?_⟩
    refine ⟨_, rfl, _, rfl, p0, 4, rfl, hp0, by decide, fun v H2 v0 v4 hp2 b2 => ⟨_, _, rfl, rfl, ?_⟩⟩
    have s2 := since s1 n0 b2
    obtain ⟨v, rfl⟩ : ∃ v' : Nat, v = (v' : Int) := ⟨v.toNat, by omega⟩
    refine ⟨p0, 1 + v, by rw [show ((1 + v : Nat) : Int) = 1 + (v : Int) by omega]; rfl, hp2, by omega, by omega, fun G M pl H3 PG lG ne npl hp3 b3 hpl hMn hMs => ?_⟩
    have s3 := since s2 n0 b3
    have hP3 : PoolAt G H3 pl M := ⟨hpl, hMn, hMs⟩
    have lM : ((M.map fun z : V × Nat => z.1).length : Int) = (G.length : Int) := by rw [List.length_map, hP3.len]
    have gpos := PG.pos
    have g4 : G.length ≤ 4 := by omega
    -- the left sum
    refine ⟨_, rfl, sc, ss, 1, rfl, s3.seq hsc, fun p1 H4 s4 n1 hp4 => ?_⟩
    have hP4 := hP3.same s4
    refine ⟨_, rfl, pl, _, rfl, .inl (SqL.of hP4.at_), ?_⟩
    rw [lM]
    refine ⟨p1, G.length, rfl, hp4, gpos, g4, fun A dl H5 hA ndl hp5 b5 => ?_⟩
    have s35 : Same H3 H5 := since s4 n1 b5
    -- the right sum
    have s5 := s3.trans s35
    refine ⟨_, rfl, sc, ss, 2, rfl, s5.seq hsc, fun p2 H6 s6 n2 hp6 => ?_⟩
    have hP6 := (hP3.same s35).same s6
    refine ⟨_, rfl, pl, _, rfl, .inl (SqL.of hP6.at_), ?_⟩
    rw [lM]
    refine ⟨p2, G.length, 5, rfl, by decide, hp6, gpos, by omega, fun L fa H7 nfa hp7 b7 hfa hL l5 cL => ?_⟩
    have s57 : Same H5 H7 := since s6 n2 b7
    have hL0 : LtL [] G.length H7 L := hL.weak (by simp)
    refine ⟨fa, L, G.length, rfl, hfa, hL0, by omega, fun dr H8 s8 ndr hdr => ?_⟩
    have s58 := s57.trans s8
    have hB : SumAt G.length H8 dr (lT L) 5 1000000000000 := by
      refine ⟨hdr, lT_asc hL0 (Nat.le_refl _), ?_, ?_⟩
      · have := FM.acc_len (lT L)
        rw [lT_len] at this
        omega
      · refine (FM.acc_bd (by decide) (lT_bd cL)).le ?_
        rw [lT_len]
        omega
    have hA8 := hA.same s58
    have nd : dl ≠ dr := fun z => by
      have h7 := (hA.same s57).at_
      rw [z, ndr] at h7
      cases h7
    -- the number
    have s08 := s5.trans s58
    refine ⟨_, rfl, sc, ss, 3, rfl, s08.seq hsc, fun p3 H9 s9 n3 hp9 => ⟨p3, rfl, hp9, fun n H10 _ hp10 b10 => ?_⟩⟩
    have s810 : Same H8 H10 := since s9 n3 b10
    have s010 := s08.trans s810
    exact hq G Q hQ _ none none none none none none none none none none none none none none none sc pl dl dr n ss M (accL A) (lT L) H10 PG g4 ne (hP3.same ((s35.trans s58).trans s810)) nd (hA8.same s810).acc (hB.same s810) (by have := hA.ln; omega) (by rw [lT_len]; omega) (s010.seq hsc)
end
end KP
set_option maxRecDepth 100000
set_option maxHeartbeats 4000000
/-! The end: all facts of the written part, put together. -/
namespace KP
open PySem PySem.Spec PyProof.Rows L2 KT FS FD
/-- a def of the module's top as it lies in the written part -/
abbrev GlobF (K : PySem.W.Frag) (x : Str) (st : Stmt) : Prop := ∃ (f : Addr) (oc : Value) (od an : Option Addr) (sl : Array (Option Value)) (kV dc pm cd ct : Value),
  PySem.W.nsIn K mainGlobals x = some (some (.ref f)) ∧ K.lookup f = some ⟨oc, od, .func (PySem.W.fnOf x x (defArgs st) (defBody st) (defScope st) .none kV dc pm an cd ct), sl⟩ ∧ PySem.W.codeIn K cd x = true ∧ PySem.W.keepIn K (.ref f) = true
/-- a method of the class at C -/
abbrev MethF (K : PySem.W.Frag) (C : Addr) (x q : Str) (st : Stmt) : Prop := ∃ (f : Addr) (oc : Value) (od an : Option Addr) (sl : Array (Option Value)) (kV dc pm cd ct : Value),
  PySem.W.findIn K (.ref C) x = some (some (.ref f)) ∧ PySem.W.isFn K (.ref f) = true ∧ K.lookup f = some ⟨oc, od, .func (PySem.W.fnOf x q (defArgs st) (defBody st) (defScope st) .none kV dc pm an cd ct), sl⟩ ∧ PySem.W.codeIn K cd q = true ∧ PySem.W.keepIn K (.ref f) = true
theorem GlobF.get {K : PySem.W.Frag} {h : Heap} {mg : Str → Option Value} {x : Str} {st : Stmt} (g : GlobF K x st) (X : K.In h) (G : h.Ns mainGlobals mg) : ∃ f fd, mg x = some (.ref f) ∧ Fun K x x st f fd := by
  obtain ⟨f, oc, od, an, sl, kV, dc, pm, cd, ct, a, l, c, k⟩ := g
  exact ⟨f, _, PySem.W.mg_of X G a, fun_mk (st := st) l c k⟩
theorem MethF.get {K : PySem.W.Frag} {C : Addr} {x q : Str} {st : Stmt} (g : MethF K C x q st) : ∃ f fd, Meth K C x f ∧ Fun K x q st f fd := by
  obtain ⟨f, oc, od, an, sl, kV, dc, pm, cd, ct, a, i, l, c, k⟩ := g
  exact ⟨f, _, ⟨a, i, k⟩, fun_mk (st := st) l c k⟩
/-- Form.__init__ with its default -/
abbrev InitF (K : PySem.W.Frag) (C : Addr) : Prop := ∃ (f T q0 : Addr) (oc oT : Value) (od odT an od0 : Option Addr) (sl slT sl0 : Array (Option Value)) (nT n0 : Nat) (kV dc pm cd ct : Value),
  PySem.W.findIn K (.ref C) "__init__" = some (some (.ref f)) ∧ PySem.W.isFn K (.ref f) = true ∧ K.lookup f = some ⟨oc, od, .func (PySem.W.fnOf "__init__" "Form.__init__" (defArgs sFormInit) (defBody sFormInit) (defScope sFormInit) (.ref T) kV dc pm an cd ct), sl⟩ ∧ PySem.W.codeIn K cd "Form.__init__" = true ∧
  PySem.W.keepIn K (.ref f) = true ∧ K.lookup T = some ⟨oT, odT, .seq #[.ref q0] nT, slT⟩ ∧ K.lookup q0 = some ⟨.type "tuple", od0, .seq #[] n0, sl0⟩
theorem InitF.get {K : PySem.W.Frag} {C : Addr} (g : InitF K C) : ∃ f fd q0, PySem.W.findIn K (.ref C) "__init__" = some (some (.ref f)) ∧ PySem.W.isFn K (.ref f) = true ∧ FunD K "__init__" "Form.__init__" (defArgs sFormInit) (defBody sFormInit) (defScope sFormInit) [.ref q0] [] f fd ∧ ∀ H, SqT K H q0 [] := by
  obtain ⟨f, T, q0, oc, oT, od, odT, an, od0, sl, slT, sl0, nT, n0, kV, dc, pm, cd, ct, a, i, l, c, k, lT, l0⟩ := g
  exact ⟨f, _, q0, a, i, ⟨⟨_, _, _, _, _, _, _, _, _, _, rfl, l, c, .inr ⟨(fun z => nomatch z), T, _, [.ref q0], nT, rfl, lT, rfl, .cons rfl .nil⟩, .inl rfl⟩, k⟩, fun H => .inr ⟨_, _, n0, l0, rfl, rfl, Nat.zero_le _, .nil⟩⟩
theorem init_b0 {K : PySem.W.Frag} {f q0 : Addr} {fd : FuncData} (F : FunD K "__init__" "Form.__init__" (defArgs sFormInit) (defBody sFormInit) (defScope sFormInit) [.ref q0] [] f fd) :
    Binds K fd ["self", "terms"] [] := by
  obtain ⟨ds, v, b⟩ := F.binds1 (ps := ["self", "terms"]) 2 1 (fun z => nomatch z) rfl fun T kV doc pm an cdv ct us its h1 h2 =>
    match us, its, h1, h2 with
    | [_, _], [_], _, _ => ⟨_, rfl, rfl⟩
  cases v
  exact b
theorem init_b1 {K : PySem.W.Frag} {f q0 : Addr} {fd : FuncData} (F : FunD K "__init__" "Form.__init__" (defArgs sFormInit) (defBody sFormInit) (defScope sFormInit) [.ref q0] [] f fd) :
    ∃ ds : List Value, Vals [V.ref q0] ds ∧ Binds K fd ["self", "terms"] ds :=
  F.binds1 (ps := ["self", "terms"]) 1 0 (fun z => nomatch z) rfl fun T kV doc pm an cdv ct us its h1 h2 =>
    match us, its, h1, h2 with
    | [_], [_], _, _ => ⟨_, rfl, rfl⟩
/-- a class method of the class at C -/
abbrev ClsF (K : PySem.W.Frag) (C : Addr) (x q : Str) (st : Stmt) : Prop := ∃ (p g : Addr) (more : List Value) (oc : Value) (od an : Option Addr) (sl : Array (Option Value)) (kV dc pm cd ct : Value),
  PySem.W.findCls K (.ref C) (.type "type") x = some (.get (.builtin "classmethod.__get__") (.ref p) .none (.ref C)) ∧ PySem.W.recIn K p "classmethod" = some (.ref g :: more) ∧ PySem.W.fnIn K g = true ∧
  K.lookup g = some ⟨oc, od, .func (PySem.W.fnOf x q (defArgs st) (defBody st) (defScope st) .none kV dc pm an cd ct), sl⟩ ∧ PySem.W.codeIn K cd q = true ∧ PySem.W.keepIn K (.ref g) = true
theorem ClsF.get {K : PySem.W.Frag} {C : Addr} {x q : Str} {st : Stmt} (z : ClsF K C x q st) : ∃ p g fd, ClX.CMet K C (.type "type") x p g ∧ Fun K x q st g fd := by
  obtain ⟨p, g, more, oc, od, an, sl, kV, dc, pm, cd, ct, a, r, i, l, c, k⟩ := z
  exact ⟨p, g, _, ⟨a, ⟨more, r⟩, i⟩, fun_mk (st := st) l c k⟩
theorem ClsF.of {K : PySem.W.Frag} {C : Addr} {x q : Str} {st : Stmt} {p g : Addr} {more : List Value} {oc : Value} {od an : Option Addr} {sl : Array (Option Value)} {kV dc pm cd ct : Value}
    (a : PySem.W.findCls K (.ref C) (.type "type") x = some (.get (.builtin "classmethod.__get__") (.ref p) .none (.ref C))) (r : PySem.W.recIn K p "classmethod" = some (.ref g :: more)) (i : PySem.W.fnIn K g = true)
    (l : K.lookup g = some ⟨oc, od, .func (PySem.W.fnOf x q (defArgs st) (defBody st) (defScope st) .none kV dc pm an cd ct), sl⟩) (c : PySem.W.codeIn K cd q = true) (k : PySem.W.keepIn K (.ref g) = true) : ClsF K C x q st :=
  ⟨p, g, more, oc, od, an, sl, kV, dc, pm, cd, ct, a, r, i, l, c, k⟩
theorem GlobF.of {K : PySem.W.Frag} {x : Str} {st : Stmt} {f : Addr} {oc : Value} {od an : Option Addr} {sl : Array (Option Value)} {kV dc pm cd ct : Value}
    (a : PySem.W.nsIn K mainGlobals x = some (some (.ref f))) (l : K.lookup f = some ⟨oc, od, .func (PySem.W.fnOf x x (defArgs st) (defBody st) (defScope st) .none kV dc pm an cd ct), sl⟩) (c : PySem.W.codeIn K cd x = true) (k : PySem.W.keepIn K (.ref f) = true) : GlobF K x st :=
  ⟨f, oc, od, an, sl, kV, dc, pm, cd, ct, a, l, c, k⟩
theorem MethF.of {K : PySem.W.Frag} {C : Addr} {x q : Str} {st : Stmt} {f : Addr} {oc : Value} {od an : Option Addr} {sl : Array (Option Value)} {kV dc pm cd ct : Value}
    (a : PySem.W.findIn K (.ref C) x = some (some (.ref f))) (i : PySem.W.isFn K (.ref f) = true) (l : K.lookup f = some ⟨oc, od, .func (PySem.W.fnOf x q (defArgs st) (defBody st) (defScope st) .none kV dc pm an cd ct), sl⟩) (c : PySem.W.codeIn K cd q = true) (k : PySem.W.keepIn K (.ref f) = true) : MethF K C x q st :=
  ⟨f, oc, od, an, sl, kV, dc, pm, cd, ct, a, i, l, c, k⟩
theorem InitF.of {K : PySem.W.Frag} {C f T q0 : Addr} {oc oT : Value} {od odT an od0 : Option Addr} {sl slT sl0 : Array (Option Value)} {nT n0 : Nat} {kV dc pm cd ct : Value}
    (a : PySem.W.findIn K (.ref C) "__init__" = some (some (.ref f))) (i : PySem.W.isFn K (.ref f) = true) (l : K.lookup f = some ⟨oc, od, .func (PySem.W.fnOf "__init__" "Form.__init__" (defArgs sFormInit) (defBody sFormInit) (defScope sFormInit) (.ref T) kV dc pm an cd ct), sl⟩) (c : PySem.W.codeIn K cd "Form.__init__" = true)
    (k : PySem.W.keepIn K (.ref f) = true) (t : K.lookup T = some ⟨oT, odT, .seq #[.ref q0] nT, slT⟩) (z : K.lookup q0 = some ⟨.type "tuple", od0, .seq #[] n0, sl0⟩) : InitF K C :=
  ⟨f, T, q0, oc, oT, od, odT, an, od0, sl, slT, sl0, nT, n0, kV, dc, pm, cd, ct, a, i, l, c, k, t, z⟩

/-- Sight.__init__ with its defaults -/
abbrev SIniF (K : PySem.W.Frag) (C : Addr) : Prop := ∃ (f T q0 q1 : Addr) (oc oT : Value) (od odT an : Option Addr) (sl slT : Array (Option Value)) (nT : Nat) (kV dc pm cd ct : Value),
  PySem.W.findIn K (.ref C) "__init__" = some (some (.ref f)) ∧ PySem.W.isFn K (.ref f) = true ∧ K.lookup f = some ⟨oc, od, .func (PySem.W.fnOf "__init__" "Sight.__init__" (defArgs sSightInit) (defBody sSightInit) (defScope sSightInit) (.ref T) kV dc pm an cd ct), sl⟩ ∧ PySem.W.codeIn K cd "Sight.__init__" = true ∧
  PySem.W.keepIn K (.ref f) = true ∧ K.lookup T = some ⟨oT, odT, .seq #[.ref q0, .ref q1] nT, slT⟩
theorem SIniF.get {K : PySem.W.Frag} {C : Addr} (g : SIniF K C) : ∃ f fd q0 q1, PySem.W.findIn K (.ref C) "__init__" = some (some (.ref f)) ∧ PySem.W.isFn K (.ref f) = true ∧ FunD K "__init__" "Sight.__init__" (defArgs sSightInit) (defBody sSightInit) (defScope sSightInit) [.ref q0, .ref q1] [] f fd := by
  obtain ⟨f, T, q0, q1, oc, oT, od, odT, an, sl, slT, nT, kV, dc, pm, cd, ct, a, i, l, c, k, lT⟩ := g
  exact ⟨f, _, q0, q1, a, i, ⟨⟨_, _, _, _, _, _, _, _, _, _, rfl, l, c, .inr ⟨(fun z => nomatch z), T, _, [.ref q0, .ref q1], nT, rfl, lT, rfl, .cons rfl (.cons rfl .nil)⟩, .inl rfl⟩, k⟩⟩
theorem sini_b0 {K : PySem.W.Frag} {f q0 q1 : Addr} {fd : FuncData} (F : FunD K "__init__" "Sight.__init__" (defArgs sSightInit) (defBody sSightInit) (defScope sSightInit) [.ref q0, .ref q1] [] f fd) :
    Binds K fd ["self", "defaults", "exceptions"] [] := by
  obtain ⟨ds, v, b⟩ := F.binds1 (ps := ["self", "defaults", "exceptions"]) 3 2 (fun z => nomatch z) rfl fun T kV doc pm an cdv ct us its h1 h2 =>
    match us, its, h1, h2 with
    | [_, _, _], [_, _], _, _ => ⟨_, rfl, rfl⟩
  cases v
  exact b
theorem SIniF.of {K : PySem.W.Frag} {C f T q0 q1 : Addr} {oc oT : Value} {od odT an : Option Addr} {sl slT : Array (Option Value)} {nT : Nat} {kV dc pm cd ct : Value}
    (a : PySem.W.findIn K (.ref C) "__init__" = some (some (.ref f))) (i : PySem.W.isFn K (.ref f) = true) (l : K.lookup f = some ⟨oc, od, .func (PySem.W.fnOf "__init__" "Sight.__init__" (defArgs sSightInit) (defBody sSightInit) (defScope sSightInit) (.ref T) kV dc pm an cd ct), sl⟩) (c : PySem.W.codeIn K cd "Sight.__init__" = true)
    (k : PySem.W.keepIn K (.ref f) = true) (t : K.lookup T = some ⟨oT, odT, .seq #[.ref q0, .ref q1] nT, slT⟩) : SIniF K C :=
  ⟨f, T, q0, q1, oc, oT, od, odT, an, sl, slT, nT, kV, dc, pm, cd, ct, a, i, l, c, k, t⟩
/-- an attribute of int -/
abbrev IntF (K : PySem.W.Frag) (n : Str) : Prop := ∃ fo, PySem.W.findIn K (.type "int") n = some fo
theorem IntF.of {K : PySem.W.Frag} {n : Str} {fo : Option Value} (h : PySem.W.findIn K (.type "int") n = some fo) : IntF K n := ⟨_, h⟩

theorem all_mk {P : Program} {w : World} {K : PySem.W.Frag} {h : Heap} {mg : Str → Option Value} {fa C S : Addr} (X : K.In h) (G : h.Ns mainGlobals mg) (hfa : mg "law" = some (.ref fa))
    (top : (P.main.scope.names.lookup ("super" : Str)).isSome = false)
    (aC : PySem.W.nsIn K mainGlobals "Form" = some (some (.ref C)))
    (aS : PySem.W.nsIn K mainGlobals "Sight" = some (some (.ref S)))
    (n_isinstance : PySem.W.nsIn K mainGlobals "isinstance" = some none)
    (n_int : PySem.W.nsIn K mainGlobals "int" = some none)
    (n_bool : PySem.W.nsIn K mainGlobals "bool" = some none)
    (n_tuple : PySem.W.nsIn K mainGlobals "tuple" = some none)
    (n_list : PySem.W.nsIn K mainGlobals "list" = some none)
    (n_len : PySem.W.nsIn K mainGlobals "len" = some none)
    (n_sorted : PySem.W.nsIn K mainGlobals "sorted" = some none)
    (n_abs : PySem.W.nsIn K mainGlobals "abs" = some none)
    (n_range : PySem.W.nsIn K mainGlobals "range" = some none)
    (n_enumerate : PySem.W.nsIn K mainGlobals "enumerate" = some none)
    (n_set : PySem.W.nsIn K mainGlobals "set" = some none)
    (n_all : PySem.W.nsIn K mainGlobals "all" = some none)
    (n_sum : PySem.W.nsIn K mainGlobals "sum" = some none)
    (g_rank : GlobF K "rank" sRank)
    (g_ranks : GlobF K "ranks" sRanks)
    (g_sign_rank : GlobF K "sign_rank" sSignRank)
    (g_ascending : GlobF K "ascending" sAscending)
    (g_term_rank : GlobF K "term_rank" sTermRank)
    (g_as_form : GlobF K "as_form" sAsForm)
    (g_l_pot : GlobF K "_law_pot" sPot)
    (g_l_draw : GlobF K "_law_draw" sDraw)
    (g_l_number : GlobF K "_law_number" sNumber)
    (g_l_names : GlobF K "_law_names" sLNames)
    (g_l_content : GlobF K "_law_content" sLContent)
    (g_l_content_rank : GlobF K "_law_content_rank" sLContentRank)
    (g_l_sign_rank : GlobF K "_law_sign_rank" sLSignRank)
    (g_l_signs : GlobF K "_law_signs" sLSigns)
    (g_l_terms : GlobF K "_law_terms" sLTerms)
    (g_l_bits : GlobF K "_law_bits" sLBits)
    (g_l_sum : GlobF K "_law_sum" sLSum)
    (g_l_value : GlobF K "_law_value" sLValue)
    (g_l_product_rank : GlobF K "_law_product_rank" sLProductRank)
    (g_l_normal : GlobF K "_law_normal" sLNormal)
    (g_l_is_integer : GlobF K "_law_is_integer" sLIsInteger)
    (g_l_same_terms : GlobF K "_law_same_terms" sLSameTerms)
    (g_l_times : GlobF K "_law_times" sLTimes)
    (g_l_scaled : GlobF K "_law_scaled" sLScaled)
    (g_l_first : GlobF K "_law_first" sLFirst)
    (g_l_form : GlobF K "_law_form" sLForm)
    (g_l_results_right : GlobF K "_law_results_right" sLResultsRight)
    (g_law : GlobF K "law" sLaw)
    (m_m_eq_ : MethF K C "__eq__" "Form.__eq__" sFormEq)
    (m_m_add_ : MethF K C "__add__" "Form.__add__" sFormAdd)
    (m_m_radd_ : MethF K C "__radd__" "Form.__radd__" sFormRadd)
    (m_m_neg_ : MethF K C "__neg__" "Form.__neg__" sFormNeg)
    (m_m_sub_ : MethF K C "__sub__" "Form.__sub__" sFormSub)
    (m_m_rsub_ : MethF K C "__rsub__" "Form.__rsub__" sFormRsub)
    (m_m_mul_ : MethF K C "__mul__" "Form.__mul__" sFormMul)
    (m_m_rmul_ : MethF K C "__rmul__" "Form.__rmul__" sFormRmul)
    (m_when : MethF K C "when" "Form.when" sFormWhen)
    (m_under : MethF K C "under" "Form.under" sFormUnder)
    (m_sign_list : MethF K C "sign_list" "Form.sign_list" sFormSignList)
    (iF : InitF K C)
    (pgC : PySem.W.plainGet K C Str.empty = true)
    (hdC : PySem.W.hasDictIn K C = true)
    (poC : PySem.W.plainOver K C = true)
    (saC : PySem.W.findIn K (.ref C) "__setattr__" = some (some (.builtin "object.__setattr__")))
    (mkC : PySem.W.makesIn K C = true)
    (kcC : PySem.W.keepIn K (.ref C) = true)
    (ca : PySem.W.findIn K (.ref C) "__class__" = some (some (.builtin "object.__class__")))
    (cn : PySem.W.specialIn K (.builtin "object.__class__") "__get__" = some (some (.builtin "getset_descriptor.__get__")))
    (ct : PySem.W.takesIn K (.builtin "object.__class__") = some true)
    (cm : PySem.W.mroIn K C (.type "object") = some true)
    (no1 : PySem.W.findIn K (.ref C) "terms" = some none)
    (kme : PySem.W.kitOne K (.ref C) (.ref C) = some true)
    (ktu : PySem.W.kitOne K (.type "tuple") (.ref C) = some false)
    (kin : PySem.W.kitOne K (.type "int") (.ref C) = some false)
    (sfC : PySem.W.selfFirst K C = true)
    (sbI : PySem.W.subIn K (.ref C) (.type "int") = some false)
    (sbJ : PySem.W.subIn K (.type "int") (.ref C) = some false)
    (pgS : PySem.W.plainGet K S Str.empty = true)
    (hdS : PySem.W.hasDictIn K S = true)
    (poS : PySem.W.plainOver K S = true)
    (saS : PySem.W.findIn K (.ref S) "__setattr__" = some (some (.builtin "object.__setattr__")))
    (mkS : PySem.W.makesIn K S = true)
    (kcS : PySem.W.keepIn K (.ref S) = true)
    (ns1 : PySem.W.findIn K (.ref S) "_defaults" = some none)
    (ns2 : PySem.W.findIn K (.ref S) "_exceptions" = some none)
    (sI : SIniF K S)
    (h_holds : MethF K S "holds" "Sight.holds" sSightHolds)
    (h_byd : MethF K S "_by_default" "Sight._by_default" sSightByDefault)
    (i_add : IntF K "__add__")
    (i_sub : IntF K "__sub__")
    (i_mul : IntF K "__mul__")
    (i_radd : IntF K "__radd__")
    (i_rsub : IntF K "__rsub__")
    (i_rmul : IntF K "__rmul__")
    : ∃ fd : FuncData, (∀ (s : Shared) (v : Value), BindsTo s fd ⟨[v], []⟩ [("_law_script", v)]) ∧ ∀ base : Heap, K.In base → base.Ns mainGlobals mg → FnOk P w K mg base CX0 13 fa fd ["_law_script"] (spLaw K) := by
  obtain ⟨f_rank, d_rank, M_rank, F_rank⟩ := g_rank.get X G
  have B_rank := F_rank.binds (ps := ["content"]) fun _ _ _ _ _ _ us hl => match us, hl with | [_], _ => rfl
  obtain ⟨f_ranks, d_ranks, M_ranks, F_ranks⟩ := g_ranks.get X G
  have B_ranks := F_ranks.binds (ps := ["contents"]) fun _ _ _ _ _ _ us hl => match us, hl with | [_], _ => rfl
  obtain ⟨f_sign_rank, d_sign_rank, M_sign_rank, F_sign_rank⟩ := g_sign_rank.get X G
  have B_sign_rank := F_sign_rank.binds (ps := ["sign"]) fun _ _ _ _ _ _ us hl => match us, hl with | [_], _ => rfl
  obtain ⟨f_ascending, d_ascending, M_ascending, F_ascending⟩ := g_ascending.get X G
  have B_ascending := F_ascending.binds (ps := ["signs"]) fun _ _ _ _ _ _ us hl => match us, hl with | [_], _ => rfl
  obtain ⟨f_term_rank, d_term_rank, M_term_rank, F_term_rank⟩ := g_term_rank.get X G
  have B_term_rank := F_term_rank.binds (ps := ["term"]) fun _ _ _ _ _ _ us hl => match us, hl with | [_], _ => rfl
  obtain ⟨f_as_form, d_as_form, M_as_form, F_as_form⟩ := g_as_form.get X G
  have B_as_form := F_as_form.binds (ps := ["value"]) fun _ _ _ _ _ _ us hl => match us, hl with | [_], _ => rfl
  obtain ⟨f_l_pot, d_l_pot, M_l_pot, F_l_pot⟩ := g_l_pot.get X G
  have B_l_pot := F_l_pot.binds (ps := ["_law_script", "_law_k"]) fun _ _ _ _ _ _ us hl => match us, hl with | [_, _], _ => rfl
  obtain ⟨f_l_draw, d_l_draw, M_l_draw, F_l_draw⟩ := g_l_draw.get X G
  have B_l_draw := F_l_draw.binds (ps := ["_law_pot_here", "_law_many"]) fun _ _ _ _ _ _ us hl => match us, hl with | [_, _], _ => rfl
  obtain ⟨f_l_number, d_l_number, M_l_number, F_l_number⟩ := g_l_number.get X G
  have B_l_number := F_l_number.binds (ps := ["_law_pot_here"]) fun _ _ _ _ _ _ us hl => match us, hl with | [_], _ => rfl
  obtain ⟨f_l_names, d_l_names, M_l_names, F_l_names⟩ := g_l_names.get X G
  have B_l_names := F_l_names.binds (ps := ["_law_pot_here", "_law_many"]) fun _ _ _ _ _ _ us hl => match us, hl with | [_, _], _ => rfl
  obtain ⟨f_l_content, d_l_content, M_l_content, F_l_content⟩ := g_l_content.get X G
  have B_l_content := F_l_content.binds (ps := ["_law_pot_here"]) fun _ _ _ _ _ _ us hl => match us, hl with | [_], _ => rfl
  obtain ⟨f_l_content_rank, d_l_content_rank, M_l_content_rank, F_l_content_rank⟩ := g_l_content_rank.get X G
  have B_l_content_rank := F_l_content_rank.binds (ps := ["_law_content_here"]) fun _ _ _ _ _ _ us hl => match us, hl with | [_], _ => rfl
  obtain ⟨f_l_sign_rank, d_l_sign_rank, M_l_sign_rank, F_l_sign_rank⟩ := g_l_sign_rank.get X G
  have B_l_sign_rank := F_l_sign_rank.binds (ps := ["_law_sign"]) fun _ _ _ _ _ _ us hl => match us, hl with | [_], _ => rfl
  obtain ⟨f_l_signs, d_l_signs, M_l_signs, F_l_signs⟩ := g_l_signs.get X G
  have B_l_signs := F_l_signs.binds (ps := ["_law_pot_here", "_law_many"]) fun _ _ _ _ _ _ us hl => match us, hl with | [_, _], _ => rfl
  obtain ⟨f_l_terms, d_l_terms, M_l_terms, F_l_terms⟩ := g_l_terms.get X G
  have B_l_terms := F_l_terms.binds (ps := ["_law_pot_here", "_law_most", "_law_signs_here"]) fun _ _ _ _ _ _ us hl => match us, hl with | [_, _, _], _ => rfl
  obtain ⟨f_l_bits, d_l_bits, M_l_bits, F_l_bits⟩ := g_l_bits.get X G
  have B_l_bits := F_l_bits.binds (ps := ["_law_number_here"]) fun _ _ _ _ _ _ us hl => match us, hl with | [_], _ => rfl
  obtain ⟨f_l_sum, d_l_sum, M_l_sum, F_l_sum⟩ := g_l_sum.get X G
  have B_l_sum := F_l_sum.binds (ps := ["_law_terms_here"]) fun _ _ _ _ _ _ us hl => match us, hl with | [_], _ => rfl
  obtain ⟨f_l_value, d_l_value, M_l_value, F_l_value⟩ := g_l_value.get X G
  have B_l_value := F_l_value.binds (ps := ["_law_form_here", "_law_truths"]) fun _ _ _ _ _ _ us hl => match us, hl with | [_, _], _ => rfl
  obtain ⟨f_l_product_rank, d_l_product_rank, M_l_product_rank, F_l_product_rank⟩ := g_l_product_rank.get X G
  have B_l_product_rank := F_l_product_rank.binds (ps := ["_law_product"]) fun _ _ _ _ _ _ us hl => match us, hl with | [_], _ => rfl
  obtain ⟨f_l_normal, d_l_normal, M_l_normal, F_l_normal⟩ := g_l_normal.get X G
  have B_l_normal := F_l_normal.binds (ps := ["_law_form_here", "_law_pool"]) fun _ _ _ _ _ _ us hl => match us, hl with | [_, _], _ => rfl
  obtain ⟨f_l_is_integer, d_l_is_integer, M_l_is_integer, F_l_is_integer⟩ := g_l_is_integer.get X G
  have B_l_is_integer := F_l_is_integer.binds (ps := ["_law_value_here"]) fun _ _ _ _ _ _ us hl => match us, hl with | [_], _ => rfl
  obtain ⟨f_l_same_terms, d_l_same_terms, M_l_same_terms, F_l_same_terms⟩ := g_l_same_terms.get X G
  have B_l_same_terms := F_l_same_terms.binds (ps := ["_law_actual", "_law_due"]) fun _ _ _ _ _ _ us hl => match us, hl with | [_, _], _ => rfl
  obtain ⟨f_l_times, d_l_times, M_l_times, F_l_times⟩ := g_l_times.get X G
  have B_l_times := F_l_times.binds (ps := ["_law_left", "_law_right"]) fun _ _ _ _ _ _ us hl => match us, hl with | [_, _], _ => rfl
  obtain ⟨f_l_scaled, d_l_scaled, M_l_scaled, F_l_scaled⟩ := g_l_scaled.get X G
  have B_l_scaled := F_l_scaled.binds (ps := ["_law_form_here", "_law_number_here"]) fun _ _ _ _ _ _ us hl => match us, hl with | [_, _], _ => rfl
  obtain ⟨f_l_first, d_l_first, M_l_first, F_l_first⟩ := g_l_first.get X G
  have B_l_first := F_l_first.binds (ps := ["_law_pot_here", "_law_signs_here"]) fun _ _ _ _ _ _ us hl => match us, hl with | [_, _], _ => rfl
  obtain ⟨f_l_form, d_l_form, M_l_form, F_l_form⟩ := g_l_form.get X G
  have B_l_form := F_l_form.binds (ps := ["_law_form_here", "_law_pool"]) fun _ _ _ _ _ _ us hl => match us, hl with | [_, _], _ => rfl
  obtain ⟨f_l_results_right, d_l_results_right, M_l_results_right, F_l_results_right⟩ := g_l_results_right.get X G
  have B_l_results_right := F_l_results_right.binds (ps := ["_law_results", "_law_pool"]) fun _ _ _ _ _ _ us hl => match us, hl with | [_, _], _ => rfl
  obtain ⟨f_m_eq_, d_m_eq_, M_m_eq_, F_m_eq_⟩ := m_m_eq_.get
  have B_m_eq_ := F_m_eq_.binds (ps := ["self", "other"]) fun _ _ _ _ _ _ us hl => match us, hl with | [_, _], _ => rfl
  obtain ⟨f_m_add_, d_m_add_, M_m_add_, F_m_add_⟩ := m_m_add_.get
  have B_m_add_ := F_m_add_.binds (ps := ["self", "other"]) fun _ _ _ _ _ _ us hl => match us, hl with | [_, _], _ => rfl
  obtain ⟨f_m_radd_, d_m_radd_, M_m_radd_, F_m_radd_⟩ := m_m_radd_.get
  have B_m_radd_ := F_m_radd_.binds (ps := ["self", "other"]) fun _ _ _ _ _ _ us hl => match us, hl with | [_, _], _ => rfl
  obtain ⟨f_m_neg_, d_m_neg_, M_m_neg_, F_m_neg_⟩ := m_m_neg_.get
  have B_m_neg_ := F_m_neg_.binds (ps := ["self"]) fun _ _ _ _ _ _ us hl => match us, hl with | [_], _ => rfl
  obtain ⟨f_m_sub_, d_m_sub_, M_m_sub_, F_m_sub_⟩ := m_m_sub_.get
  have B_m_sub_ := F_m_sub_.binds (ps := ["self", "other"]) fun _ _ _ _ _ _ us hl => match us, hl with | [_, _], _ => rfl
  obtain ⟨f_m_rsub_, d_m_rsub_, M_m_rsub_, F_m_rsub_⟩ := m_m_rsub_.get
  have B_m_rsub_ := F_m_rsub_.binds (ps := ["self", "other"]) fun _ _ _ _ _ _ us hl => match us, hl with | [_, _], _ => rfl
  obtain ⟨f_m_mul_, d_m_mul_, M_m_mul_, F_m_mul_⟩ := m_m_mul_.get
  have B_m_mul_ := F_m_mul_.binds (ps := ["self", "other"]) fun _ _ _ _ _ _ us hl => match us, hl with | [_, _], _ => rfl
  obtain ⟨f_m_rmul_, d_m_rmul_, M_m_rmul_, F_m_rmul_⟩ := m_m_rmul_.get
  have B_m_rmul_ := F_m_rmul_.binds (ps := ["self", "other"]) fun _ _ _ _ _ _ us hl => match us, hl with | [_, _], _ => rfl
  obtain ⟨f_when, d_when, M_when, F_when⟩ := m_when.get
  have B_when := F_when.binds (ps := ["self", "signs"]) fun _ _ _ _ _ _ us hl => match us, hl with | [_, _], _ => rfl
  obtain ⟨f_under, d_under, M_under, F_under⟩ := m_under.get
  have B_under := F_under.binds (ps := ["self", "sight"]) fun _ _ _ _ _ _ us hl => match us, hl with | [_, _], _ => rfl
  obtain ⟨f_sign_list, d_sign_list, M_sign_list, F_sign_list⟩ := m_sign_list.get
  have B_sign_list := F_sign_list.binds (ps := ["self"]) fun _ _ _ _ _ _ us hl => match us, hl with | [_], _ => rfl
  obtain ⟨fi, di, q0, iA, iN, FI, e0⟩ := iF.get
  have b0 := init_b0 FI
  obtain ⟨gi, ei, q1, q2, jA, jN, GI0⟩ := sI.get
  have c0 := sini_b0 GI0
  obtain ⟨f_holds, d_holds, M_holds, F_holds⟩ := h_holds.get
  have B_holds := F_holds.binds (ps := ["self", "sign"]) fun _ _ _ _ _ _ us hl => match us, hl with | [_, _], _ => rfl
  obtain ⟨f_byd, d_byd, M_byd, F_byd⟩ := h_byd.get
  have B_byd := F_byd.binds (ps := ["self", "sign"]) fun _ _ _ _ _ _ us hl => match us, hl with | [_, _], _ => rfl
  obtain ⟨fl, oc', od', an', sl', kV', dc', pm', cd', ct'', la, ll, lc, lk⟩ := g_law
  have efa := hfa.symm.trans (PySem.W.mg_of X G la)
  cases efa
  have F_law := fun_mk (st := sLaw) ll lc lk
  have N : ∀ {x : Str}, PySem.W.nsIn K mainGlobals x = some none → mg x = none := fun e => PySem.W.mg_none_of X G e
  have B : Blt mg := ⟨N n_isinstance, N n_int, N n_bool, N n_tuple, N n_list, N n_len, N n_sorted, N n_abs, N n_range, N n_enumerate, N n_set, N n_all⟩
  have FC : FmC K mg C := ⟨⟨pgC, hdC, poC, saC⟩, no1, PySem.W.mg_of X G aC⟩
  have IC : FmI K C := ⟨ca, cn, ct, cm, kme, ktu⟩
  have MC : Mk K C fi := ⟨mkC, iA, iN, kcC⟩
  have SI : SiC K mg S := ⟨⟨pgS, hdS, poS, saS⟩, ns1, ns2, PySem.W.mg_of X G aS⟩
  have MS : Mk K S gi := ⟨mkS, jA, jN, kcS⟩
  have nOwn : PySem.W.notFirst K C (.ref C) = true := by unfold PySem.W.notFirst; simp
  have O_add : OwnI K C f_m_add_ .Add := ⟨sfC, M_m_add_.at_, M_m_add_.fn, ⟨_, M_m_radd_.at_⟩, i_add, i_radd, sbJ⟩
  have O_sub : OwnI K C f_m_sub_ .Sub := ⟨sfC, M_m_sub_.at_, M_m_sub_.fn, ⟨_, M_m_rsub_.at_⟩, i_sub, i_rsub, sbJ⟩
  have O_mul : OwnI K C f_m_mul_ .Mult := ⟨sfC, M_m_mul_.at_, M_m_mul_.fn, ⟨_, M_m_rmul_.at_⟩, i_mul, i_rmul, sbJ⟩
  refine ⟨PySem.W.fnOf "law" "law" (defArgs sLaw) (defBody sLaw) (defScope sLaw) .none kV' dc' pm' an' cd' ct'', fun s v => .of_eq rfl, fun base _ _ => ?_⟩
  have RD : RkD K mg P w base f_rank d_rank := ⟨ok_rank F_rank, M_rank, F_rank.kp, B_rank⟩
  have RS : RksD K mg P w base f_ranks d_ranks := ⟨ok_ranks F_ranks RD, M_ranks, F_ranks.kp, B_ranks⟩
  have SR : SrD K mg P w base f_sign_rank d_sign_rank := ⟨ok_signRank F_sign_rank RS, M_sign_rank, F_sign_rank.kp, B_sign_rank⟩
  have AS : ∀ G, Pool G → AscD K mg P w base G f_ascending d_ascending := fun G PG => ⟨ok_asc PG F_ascending B SR, M_ascending, F_ascending.kp, B_ascending⟩
  have TR : ∀ G, Pool G → TrD K mg P w base G f_term_rank d_term_rank := fun G PG => ⟨ok_termRank PG F_term_rank B SR, M_term_rank, F_term_rank.kp, B_term_rank⟩
  have GI : ∀ G, Pool G → FnOk P w K mg base CX0 7 fi di ["self", "terms"] (spFInit K G C) := fun G PG => ok_finit PG FI B FC (AS G PG) (TR G PG)
  have FK : ∀ G, Pool G → FmkD K mg P w base G C fi di := fun G PG => ⟨MC, GI G PG, b0⟩
  have AF : ∀ G, Pool G → AfD K mg P w base G C f_as_form d_as_form := fun G PG => ⟨ok_asForm F_as_form B FC IC kin (FK G PG), M_as_form, F_as_form.kp, B_as_form⟩
  have DD : DrwD K mg P w base f_l_draw d_l_draw := ⟨ok_draw F_l_draw B, M_l_draw, F_l_draw.kp, B_l_draw⟩
  have ND : NumD K mg P w base f_l_number d_l_number := ⟨ok_number F_l_number B F_l_draw M_l_draw B_l_draw, M_l_number, F_l_number.kp, B_l_number⟩
  have NM : NmsD K mg P w base f_l_names d_l_names := ⟨ok_names F_l_names B DD, M_l_names, F_l_names.kp, B_l_names⟩
  have CN : CntD K mg P w base f_l_content d_l_content := ⟨ok_content F_l_content DD ND, M_l_content, F_l_content.kp, B_l_content⟩
  have LS : LsrD K mg P w base f_l_sign_rank d_l_sign_rank := ⟨ok_lsr F_l_sign_rank B ⟨ok_lcr F_l_content_rank, M_l_content_rank, F_l_content_rank.kp, B_l_content_rank⟩, M_l_sign_rank, F_l_sign_rank.kp, B_l_sign_rank⟩
  have SU : SuD K mg P w base f_l_sum d_l_sum := ⟨ok_lsum F_l_sum B, M_l_sum, F_l_sum.kp, B_l_sum⟩
  have TM : TrmD K mg P w base f_l_terms d_l_terms := ⟨ok_terms F_l_terms B DD ND, M_l_terms, F_l_terms.kp, B_l_terms⟩
  have TI : TmsD K mg P w base f_l_times d_l_times := ⟨ok_times F_l_times B SU, M_l_times, F_l_times.kp, B_l_times⟩
  have SC : ScdD K mg P w base f_l_scaled d_l_scaled := ⟨ok_scaled F_l_scaled B, M_l_scaled, F_l_scaled.kp, B_l_scaled⟩
  have IS : IsiD K mg P w base f_l_is_integer d_l_is_integer := ⟨ok_isInt F_l_is_integer B, M_l_is_integer, F_l_is_integer.kp, B_l_is_integer⟩
  have WF : ∀ G, Pool G → WhF K mg P w base G C f_when d_when := fun G PG => ⟨ok_whenF PG F_when B (N n_sum) FC, M_when, B_when⟩
  have SL : ∀ G, Pool G → SlD K mg P w base G C f_sign_list d_sign_list := fun G PG => ⟨ok_slist PG F_sign_list FC (AS G PG), M_sign_list, B_sign_list⟩
  have HO : HoD K mg P w base S f_holds d_holds := ⟨ok_holds F_holds SI ⟨ok_byD F_byd SI, M_byd, B_byd⟩, M_holds, B_holds⟩
  have NO : ∀ G, Pool G → NoD K mg P w base G f_l_normal d_l_normal := fun G PG => ⟨ok_normal PG F_l_normal B ⟨ok_prank F_l_product_rank B, M_l_product_rank, F_l_product_rank.kp, B_l_product_rank⟩, M_l_normal, F_l_normal.kp, B_l_normal⟩
  have SM : ∀ G, Pool G → SmD K mg P w base G f_l_same_terms d_l_same_terms := fun G _ => ⟨ok_same F_l_same_terms B IS, M_l_same_terms, F_l_same_terms.kp, B_l_same_terms⟩
  refine ok_law F_law ⟨B, FC, IC, SI, nOwn, sfC, ?add, ?sub, ?mul, ?radd, ?rsub, ?rmul, ?neg, ?eq, ?when, ?under, ⟨gi, ei, MS, ok_sinit GI0 SI, c0⟩, ⟨_, _, IS.ok, M_l_is_integer, F_l_is_integer.kp, B_l_is_integer⟩, ⟨_, _, ok_bits F_l_bits B, M_l_bits, F_l_bits.kp, B_l_bits⟩, ⟨_, _, ok_value F_l_value B, M_l_value, F_l_value.kp, B_l_value⟩, ⟨_, _, ok_pot F_l_pot B, M_l_pot, F_l_pot.kp, B_l_pot⟩, ⟨_, _, DD.ok, M_l_draw, F_l_draw.kp, B_l_draw⟩, ⟨_, _, ND.ok, M_l_number, F_l_number.kp, B_l_number⟩, ⟨_, _, ok_signs F_l_signs B DD NM CN LS, M_l_signs, F_l_signs.kp, B_l_signs⟩, ⟨_, _, TM.ok, M_l_terms, F_l_terms.kp, B_l_terms⟩, ⟨_, _, SU.ok, M_l_sum, F_l_sum.kp, B_l_sum⟩, ⟨_, _, TI.ok, M_l_times, F_l_times.kp, B_l_times⟩, ⟨_, _, SC.ok, M_l_scaled, F_l_scaled.kp, B_l_scaled⟩, ⟨_, _, ok_first F_l_first B DD TM SU TI SC, M_l_first, F_l_first.kp, B_l_first⟩, ⟨_, _, fn_ex fun G PG => ok_lform PG F_l_form FC (FK G PG), M_l_form, F_l_form.kp, B_l_form⟩, ⟨_, _, fn_ex fun G PG => ok_rr PG F_l_results_right B FC IC (NO G PG) (SM G PG), M_l_results_right, F_l_results_right.kp, B_l_results_right⟩⟩
  case add => exact ⟨_, _, fn_ex fun G PG => ok_fadd PG F_m_add_ FC (FK G PG) (AF G PG), B_m_add_, M_m_add_, O_add⟩
  case sub => exact ⟨_, _, fn_ex fun G PG => ok_fsub F_m_sub_ sfC (AF G PG) ⟨ok_fneg PG F_m_neg_ FC (FK G PG), M_m_neg_.at_, M_m_neg_.fn, B_m_neg_⟩ ⟨ok_fadd PG F_m_add_ FC (FK G PG) (AF G PG), M_m_add_.at_, M_m_add_.fn, B_m_add_⟩, B_m_sub_, M_m_sub_, O_sub⟩
  case mul => exact ⟨_, _, fn_ex fun G PG => ok_fmul PG F_m_mul_ FC (FK G PG) (AF G PG), B_m_mul_, M_m_mul_, O_mul⟩
  case radd => exact ⟨_, _, fn_ex fun G PG => ok_fradd F_m_radd_ O_add (ok_fadd PG F_m_add_ FC (FK G PG) (AF G PG)) B_m_add_, B_m_radd_, ⟨sfC, ⟨_, M_m_add_.at_⟩, M_m_radd_.at_, M_m_radd_.fn, sbI⟩⟩
  case rsub => exact ⟨_, _, fn_ex fun G PG => ok_frsub F_m_rsub_ ⟨ok_fneg PG F_m_neg_ FC (FK G PG), M_m_neg_.at_, M_m_neg_.fn, B_m_neg_⟩ O_add (ok_fadd PG F_m_add_ FC (FK G PG) (AF G PG)) B_m_add_, B_m_rsub_, ⟨sfC, ⟨_, M_m_sub_.at_⟩, M_m_rsub_.at_, M_m_rsub_.fn, sbI⟩⟩
  case rmul => exact ⟨_, _, fn_ex fun G PG => ok_frmul F_m_rmul_ O_mul (ok_fmul PG F_m_mul_ FC (FK G PG) (AF G PG)) B_m_mul_, B_m_rmul_, ⟨sfC, ⟨_, M_m_mul_.at_⟩, M_m_rmul_.at_, M_m_rmul_.fn, sbI⟩⟩
  case neg => exact ⟨_, _, fn_ex fun G PG => ok_fneg PG F_m_neg_ FC (FK G PG), M_m_neg_, B_m_neg_⟩
  case eq => exact ⟨_, _, fn_ex fun G PG => ok_feqI PG F_m_eq_ B FC IC kin, M_m_eq_, B_m_eq_⟩
  case when => exact ⟨_, _, fn_ex fun G PG => (WF G PG).ok, M_when, B_when⟩
  case under => exact ⟨_, _, fn_ex fun G PG => ok_under PG F_under FC SI (WF G PG) (SL G PG) HO, M_under, B_under⟩
theorem walk {l : PySem.W.OpenLaw} {q : Program} {loose : List Str} {XP : (Str → Option Value) → Heap → Prop} {YP : World → Heap → Prop} {d : DefRec} {K : Params → PySem.W.Frag} (hn : l.most = some 63) (hdf : d.params.defaults = [])
    (hY : ∀ (w : World) (h : Heap), YP w h → (K w.params).In h)
    (F : ∀ (w : World) (mg : Str → Option Value) (fa : Addr) (h : Heap), (K w.params).In h → h.Ns mainGlobals mg → mg d.name = some (.ref fa) →
      ∃ fd : FuncData, (∀ (s : Shared) (u : Value), BindsTo s fd ⟨[u], []⟩ [("_law_script", u)]) ∧ ∀ base : Heap, (K w.params).In base → base.Ns mainGlobals mg → FnOk l.prog w (K w.params) mg base CX0 13 fa fd ["_law_script"] (spLaw (K w.params))) :
    PySem.W.WalkO q loose XP YP l.row.toRowW d [] (fun f vs => PySem.call f vs) :=
  L2.walk_of (n := 63) (k := 13) (x := "_law_script") (CX := fun _ => CX0) (sp := fun w => spLaw (K w.params)) hn (by decide) hdf ⟨rfl, by decide, by decide⟩ hY F (fun _ _ a ns hl _ hS => ⟨a, ns, rfl, hS, fun _ => rfl⟩) fun _ _ _ _ _ z => z
end KP
set_option maxRecDepth 100000
open PySem PySem.W PyProof.Rows
set_option maxRecDepth 100000 in
set_option maxHeartbeats 0 in
theorem PySem.Challenge.cw_keptbase_k33_forms_reckoned_holds : PySem.Challenge.rw_keptbase_k33_forms_reckoned.Holds := by
  w_on; o_law; k_head; (case hw => w_witness2)
  k_fill
  refine KP.walk (l := PySem.Challenge.rw_keptbase_k33_forms_reckoned) rfl rfl (fun w h Y => PySem.W.kIn_of Y) ?F
  case F =>
    intro w mg fa h KX G hmg
    refine' KP.all_mk KX G hmg ?top ?aC ?aS ?n_isinstance ?n_int ?n_bool ?n_tuple ?n_list ?n_len ?n_sorted ?n_abs ?n_range ?n_enumerate ?n_set ?n_all ?n_sum ?g_rank ?g_ranks ?g_sign_rank ?g_ascending ?g_term_rank ?g_as_form ?g_l_pot ?g_l_draw ?g_l_number ?g_l_names ?g_l_content ?g_l_content_rank ?g_l_sign_rank ?g_l_signs ?g_l_terms ?g_l_bits ?g_l_sum ?g_l_value ?g_l_product_rank ?g_l_normal ?g_l_is_integer ?g_l_same_terms ?g_l_times ?g_l_scaled ?g_l_first ?g_l_form ?g_l_results_right ?g_law ?m_m_eq_ ?m_m_add_ ?m_m_radd_ ?m_m_neg_ ?m_m_sub_ ?m_m_rsub_ ?m_m_mul_ ?m_m_rmul_ ?m_when ?m_under ?m_sign_list ?iF ?pgC ?hdC ?poC ?saC ?mkC ?kcC ?ca ?cn ?ct ?cm ?no1 ?kme ?ktu ?kin ?sfC ?sbI ?sbJ ?pgS ?hdS ?poS ?saS ?mkS ?kcS ?ns1 ?ns2 ?sI ?h_holds ?h_byd ?i_add ?i_sub ?i_mul ?i_radd ?i_rsub ?i_rmul
    (case top => decide +kernel)
    (case aC => k_is)
    (case aS => k_is)
    (case n_isinstance => k_is)
    (case n_int => k_is)
    (case n_bool => k_is)
    (case n_tuple => k_is)
    (case n_list => k_is)
    (case n_len => k_is)
    (case n_sorted => k_is)
    (case n_abs => k_is)
    (case n_range => k_is)
    (case n_enumerate => k_is)
    (case n_set => k_is)
    (case n_all => k_is)
    (case n_sum => k_is)
    (case g_rank => refine' KP.GlobF.of ?pa_g_rank ?pl_g_rank ?pc_g_rank ?pk_g_rank; (case pa_g_rank => k_is); (case pl_g_rank => k_is); (case pc_g_rank => k_is); (case pk_g_rank => k_is))
    (case g_ranks => refine' KP.GlobF.of ?pa_g_ranks ?pl_g_ranks ?pc_g_ranks ?pk_g_ranks; (case pa_g_ranks => k_is); (case pl_g_ranks => k_is); (case pc_g_ranks => k_is); (case pk_g_ranks => k_is))
    (case g_sign_rank => refine' KP.GlobF.of ?pa_g_sign_rank ?pl_g_sign_rank ?pc_g_sign_rank ?pk_g_sign_rank; (case pa_g_sign_rank => k_is); (case pl_g_sign_rank => k_is); (case pc_g_sign_rank => k_is); (case pk_g_sign_rank => k_is))
    (case g_ascending => refine' KP.GlobF.of ?pa_g_ascending ?pl_g_ascending ?pc_g_ascending ?pk_g_ascending; (case pa_g_ascending => k_is); (case pl_g_ascending => k_is); (case pc_g_ascending => k_is); (case pk_g_ascending => k_is))
    (case g_term_rank => refine' KP.GlobF.of ?pa_g_term_rank ?pl_g_term_rank ?pc_g_term_rank ?pk_g_term_rank; (case pa_g_term_rank => k_is); (case pl_g_term_rank => k_is); (case pc_g_term_rank => k_is); (case pk_g_term_rank => k_is))
    (case g_as_form => refine' KP.GlobF.of ?pa_g_as_form ?pl_g_as_form ?pc_g_as_form ?pk_g_as_form; (case pa_g_as_form => k_is); (case pl_g_as_form => k_is); (case pc_g_as_form => k_is); (case pk_g_as_form => k_is))
    (case g_l_pot => refine' KP.GlobF.of ?pa_g_l_pot ?pl_g_l_pot ?pc_g_l_pot ?pk_g_l_pot; (case pa_g_l_pot => k_is); (case pl_g_l_pot => k_is); (case pc_g_l_pot => k_is); (case pk_g_l_pot => k_is))
    (case g_l_draw => refine' KP.GlobF.of ?pa_g_l_draw ?pl_g_l_draw ?pc_g_l_draw ?pk_g_l_draw; (case pa_g_l_draw => k_is); (case pl_g_l_draw => k_is); (case pc_g_l_draw => k_is); (case pk_g_l_draw => k_is))
    (case g_l_number => refine' KP.GlobF.of ?pa_g_l_number ?pl_g_l_number ?pc_g_l_number ?pk_g_l_number; (case pa_g_l_number => k_is); (case pl_g_l_number => k_is); (case pc_g_l_number => k_is); (case pk_g_l_number => k_is))
    (case g_l_names => refine' KP.GlobF.of ?pa_g_l_names ?pl_g_l_names ?pc_g_l_names ?pk_g_l_names; (case pa_g_l_names => k_is); (case pl_g_l_names => k_is); (case pc_g_l_names => k_is); (case pk_g_l_names => k_is))
    (case g_l_content => refine' KP.GlobF.of ?pa_g_l_content ?pl_g_l_content ?pc_g_l_content ?pk_g_l_content; (case pa_g_l_content => k_is); (case pl_g_l_content => k_is); (case pc_g_l_content => k_is); (case pk_g_l_content => k_is))
    (case g_l_content_rank => refine' KP.GlobF.of ?pa_g_l_content_rank ?pl_g_l_content_rank ?pc_g_l_content_rank ?pk_g_l_content_rank; (case pa_g_l_content_rank => k_is); (case pl_g_l_content_rank => k_is); (case pc_g_l_content_rank => k_is); (case pk_g_l_content_rank => k_is))
    (case g_l_sign_rank => refine' KP.GlobF.of ?pa_g_l_sign_rank ?pl_g_l_sign_rank ?pc_g_l_sign_rank ?pk_g_l_sign_rank; (case pa_g_l_sign_rank => k_is); (case pl_g_l_sign_rank => k_is); (case pc_g_l_sign_rank => k_is); (case pk_g_l_sign_rank => k_is))
    (case g_l_signs => refine' KP.GlobF.of ?pa_g_l_signs ?pl_g_l_signs ?pc_g_l_signs ?pk_g_l_signs; (case pa_g_l_signs => k_is); (case pl_g_l_signs => k_is); (case pc_g_l_signs => k_is); (case pk_g_l_signs => k_is))
    (case g_l_terms => refine' KP.GlobF.of ?pa_g_l_terms ?pl_g_l_terms ?pc_g_l_terms ?pk_g_l_terms; (case pa_g_l_terms => k_is); (case pl_g_l_terms => k_is); (case pc_g_l_terms => k_is); (case pk_g_l_terms => k_is))
    (case g_l_bits => refine' KP.GlobF.of ?pa_g_l_bits ?pl_g_l_bits ?pc_g_l_bits ?pk_g_l_bits; (case pa_g_l_bits => k_is); (case pl_g_l_bits => k_is); (case pc_g_l_bits => k_is); (case pk_g_l_bits => k_is))
    (case g_l_sum => refine' KP.GlobF.of ?pa_g_l_sum ?pl_g_l_sum ?pc_g_l_sum ?pk_g_l_sum; (case pa_g_l_sum => k_is); (case pl_g_l_sum => k_is); (case pc_g_l_sum => k_is); (case pk_g_l_sum => k_is))
    (case g_l_value => refine' KP.GlobF.of ?pa_g_l_value ?pl_g_l_value ?pc_g_l_value ?pk_g_l_value; (case pa_g_l_value => k_is); (case pl_g_l_value => k_is); (case pc_g_l_value => k_is); (case pk_g_l_value => k_is))
    (case g_l_product_rank => refine' KP.GlobF.of ?pa_g_l_product_rank ?pl_g_l_product_rank ?pc_g_l_product_rank ?pk_g_l_product_rank; (case pa_g_l_product_rank => k_is); (case pl_g_l_product_rank => k_is); (case pc_g_l_product_rank => k_is); (case pk_g_l_product_rank => k_is))
    (case g_l_normal => refine' KP.GlobF.of ?pa_g_l_normal ?pl_g_l_normal ?pc_g_l_normal ?pk_g_l_normal; (case pa_g_l_normal => k_is); (case pl_g_l_normal => k_is); (case pc_g_l_normal => k_is); (case pk_g_l_normal => k_is))
    (case g_l_is_integer => refine' KP.GlobF.of ?pa_g_l_is_integer ?pl_g_l_is_integer ?pc_g_l_is_integer ?pk_g_l_is_integer; (case pa_g_l_is_integer => k_is); (case pl_g_l_is_integer => k_is); (case pc_g_l_is_integer => k_is); (case pk_g_l_is_integer => k_is))
    (case g_l_same_terms => refine' KP.GlobF.of ?pa_g_l_same_terms ?pl_g_l_same_terms ?pc_g_l_same_terms ?pk_g_l_same_terms; (case pa_g_l_same_terms => k_is); (case pl_g_l_same_terms => k_is); (case pc_g_l_same_terms => k_is); (case pk_g_l_same_terms => k_is))
    (case g_l_times => refine' KP.GlobF.of ?pa_g_l_times ?pl_g_l_times ?pc_g_l_times ?pk_g_l_times; (case pa_g_l_times => k_is); (case pl_g_l_times => k_is); (case pc_g_l_times => k_is); (case pk_g_l_times => k_is))
    (case g_l_scaled => refine' KP.GlobF.of ?pa_g_l_scaled ?pl_g_l_scaled ?pc_g_l_scaled ?pk_g_l_scaled; (case pa_g_l_scaled => k_is); (case pl_g_l_scaled => k_is); (case pc_g_l_scaled => k_is); (case pk_g_l_scaled => k_is))
    (case g_l_first => refine' KP.GlobF.of ?pa_g_l_first ?pl_g_l_first ?pc_g_l_first ?pk_g_l_first; (case pa_g_l_first => k_is); (case pl_g_l_first => k_is); (case pc_g_l_first => k_is); (case pk_g_l_first => k_is))
    (case g_l_form => refine' KP.GlobF.of ?pa_g_l_form ?pl_g_l_form ?pc_g_l_form ?pk_g_l_form; (case pa_g_l_form => k_is); (case pl_g_l_form => k_is); (case pc_g_l_form => k_is); (case pk_g_l_form => k_is))
    (case g_l_results_right => refine' KP.GlobF.of ?pa_g_l_results_right ?pl_g_l_results_right ?pc_g_l_results_right ?pk_g_l_results_right; (case pa_g_l_results_right => k_is); (case pl_g_l_results_right => k_is); (case pc_g_l_results_right => k_is); (case pk_g_l_results_right => k_is))
    (case g_law => refine' KP.GlobF.of ?pa_g_law ?pl_g_law ?pc_g_law ?pk_g_law; (case pa_g_law => k_is); (case pl_g_law => k_is); (case pc_g_law => k_is); (case pk_g_law => k_is))
    (case m_m_eq_ => refine' KP.MethF.of ?pa_m_m_eq_ ?pi_m_m_eq_ ?pl_m_m_eq_ ?pc_m_m_eq_ ?pk_m_m_eq_; (case pa_m_m_eq_ => k_is); (case pi_m_m_eq_ => k_is); (case pl_m_m_eq_ => k_is); (case pc_m_m_eq_ => k_is); (case pk_m_m_eq_ => k_is))
    (case m_m_add_ => refine' KP.MethF.of ?pa_m_m_add_ ?pi_m_m_add_ ?pl_m_m_add_ ?pc_m_m_add_ ?pk_m_m_add_; (case pa_m_m_add_ => k_is); (case pi_m_m_add_ => k_is); (case pl_m_m_add_ => k_is); (case pc_m_m_add_ => k_is); (case pk_m_m_add_ => k_is))
    (case m_m_radd_ => refine' KP.MethF.of ?pa_m_m_radd_ ?pi_m_m_radd_ ?pl_m_m_radd_ ?pc_m_m_radd_ ?pk_m_m_radd_; (case pa_m_m_radd_ => k_is); (case pi_m_m_radd_ => k_is); (case pl_m_m_radd_ => k_is); (case pc_m_m_radd_ => k_is); (case pk_m_m_radd_ => k_is))
    (case m_m_neg_ => refine' KP.MethF.of ?pa_m_m_neg_ ?pi_m_m_neg_ ?pl_m_m_neg_ ?pc_m_m_neg_ ?pk_m_m_neg_; (case pa_m_m_neg_ => k_is); (case pi_m_m_neg_ => k_is); (case pl_m_m_neg_ => k_is); (case pc_m_m_neg_ => k_is); (case pk_m_m_neg_ => k_is))
    (case m_m_sub_ => refine' KP.MethF.of ?pa_m_m_sub_ ?pi_m_m_sub_ ?pl_m_m_sub_ ?pc_m_m_sub_ ?pk_m_m_sub_; (case pa_m_m_sub_ => k_is); (case pi_m_m_sub_ => k_is); (case pl_m_m_sub_ => k_is); (case pc_m_m_sub_ => k_is); (case pk_m_m_sub_ => k_is))
    (case m_m_rsub_ => refine' KP.MethF.of ?pa_m_m_rsub_ ?pi_m_m_rsub_ ?pl_m_m_rsub_ ?pc_m_m_rsub_ ?pk_m_m_rsub_; (case pa_m_m_rsub_ => k_is); (case pi_m_m_rsub_ => k_is); (case pl_m_m_rsub_ => k_is); (case pc_m_m_rsub_ => k_is); (case pk_m_m_rsub_ => k_is))
    (case m_m_mul_ => refine' KP.MethF.of ?pa_m_m_mul_ ?pi_m_m_mul_ ?pl_m_m_mul_ ?pc_m_m_mul_ ?pk_m_m_mul_; (case pa_m_m_mul_ => k_is); (case pi_m_m_mul_ => k_is); (case pl_m_m_mul_ => k_is); (case pc_m_m_mul_ => k_is); (case pk_m_m_mul_ => k_is))
    (case m_m_rmul_ => refine' KP.MethF.of ?pa_m_m_rmul_ ?pi_m_m_rmul_ ?pl_m_m_rmul_ ?pc_m_m_rmul_ ?pk_m_m_rmul_; (case pa_m_m_rmul_ => k_is); (case pi_m_m_rmul_ => k_is); (case pl_m_m_rmul_ => k_is); (case pc_m_m_rmul_ => k_is); (case pk_m_m_rmul_ => k_is))
    (case m_when => refine' KP.MethF.of ?pa_m_when ?pi_m_when ?pl_m_when ?pc_m_when ?pk_m_when; (case pa_m_when => k_is); (case pi_m_when => k_is); (case pl_m_when => k_is); (case pc_m_when => k_is); (case pk_m_when => k_is))
    (case m_under => refine' KP.MethF.of ?pa_m_under ?pi_m_under ?pl_m_under ?pc_m_under ?pk_m_under; (case pa_m_under => k_is); (case pi_m_under => k_is); (case pl_m_under => k_is); (case pc_m_under => k_is); (case pk_m_under => k_is))
    (case m_sign_list => refine' KP.MethF.of ?pa_m_sign_list ?pi_m_sign_list ?pl_m_sign_list ?pc_m_sign_list ?pk_m_sign_list; (case pa_m_sign_list => k_is); (case pi_m_sign_list => k_is); (case pl_m_sign_list => k_is); (case pc_m_sign_list => k_is); (case pk_m_sign_list => k_is))
    (case iF => refine' KP.InitF.of ?pa_iF ?pi_iF ?pl_iF ?pc_iF ?pk_iF ?pt_iF ?pz_iF; (case pa_iF => k_is); (case pi_iF => k_is); (case pl_iF => k_is); (case pc_iF => k_is); (case pk_iF => k_is); (case pt_iF => k_is); (case pz_iF => k_is))
    (case pgC => k_is)
    (case hdC => k_is)
    (case poC => k_is)
    (case saC => k_is)
    (case mkC => k_is)
    (case kcC => k_is)
    (case ca => k_is)
    (case cn => k_is)
    (case ct => k_is)
    (case cm => k_is)
    (case no1 => k_is)
    (case kme => first | kit_is | k_is | decide +kernel)
    (case ktu => first | kit_is | k_is | decide +kernel)
    (case kin => first | kit_is | k_is | decide +kernel)
    (case sfC => k_is)
    (case sbI => k_is)
    (case sbJ => k_is)
    (case pgS => k_is)
    (case hdS => k_is)
    (case poS => k_is)
    (case saS => k_is)
    (case mkS => k_is)
    (case kcS => k_is)
    (case ns1 => k_is)
    (case ns2 => k_is)
    (case sI => refine' KP.SIniF.of ?pa_sI ?pi_sI ?pl_sI ?pc_sI ?pk_sI ?pt_sI; (case pa_sI => k_is); (case pi_sI => k_is); (case pl_sI => k_is); (case pc_sI => k_is); (case pk_sI => k_is); (case pt_sI => k_is))
    (case h_holds => refine' KP.MethF.of ?pa_h_holds ?pi_h_holds ?pl_h_holds ?pc_h_holds ?pk_h_holds; (case pa_h_holds => k_is); (case pi_h_holds => k_is); (case pl_h_holds => k_is); (case pc_h_holds => k_is); (case pk_h_holds => k_is))
    (case h_byd => refine' KP.MethF.of ?pa_h_byd ?pi_h_byd ?pl_h_byd ?pc_h_byd ?pk_h_byd; (case pa_h_byd => k_is); (case pi_h_byd => k_is); (case pl_h_byd => k_is); (case pc_h_byd => k_is); (case pk_h_byd => k_is))
    (case i_add => refine' KP.IntF.of ?q_i_add; (case q_i_add => k_is))
    (case i_sub => refine' KP.IntF.of ?q_i_sub; (case q_i_sub => k_is))
    (case i_mul => refine' KP.IntF.of ?q_i_mul; (case q_i_mul => k_is))
    (case i_radd => refine' KP.IntF.of ?q_i_radd; (case q_i_radd => k_is))
    (case i_rsub => refine' KP.IntF.of ?q_i_rsub; (case q_i_rsub => k_is))
    (case i_rmul => refine' KP.IntF.of ?q_i_rmul; (case q_i_rmul => k_is))
