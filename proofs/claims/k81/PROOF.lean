import PyProof.Rows.All
import Wide.All
import OpenK.AllK
import Wide.FinOn
import HandS.ForMost
import HandS.Iter
import HandS.Zip0
import HandS.Zip
import PyProof.Draws
import PyProof.StrOps2
import PyProof.ReprRoads
import PyProof.ReprLen
import PyProof.AutoSeq1
import HandS.FStrTup
import PyProof.StrLawsRepr
import HandS.IsInst
import HandS.TupAny
import HandS.SortInts
import HandS.SetFor
import PyProof.Rows.DictTally
import HandS.FStr
import HandS.WordsDict
import HandS.SetBool
import KE.KDictSum
import PyProof.TupleOfGen
import HandS.Style
import HandS.Flow
import HandS.Exc
import HandS.WordsExc
import HandS.Deep
import HandS.SetKeys
import HandS.Set
import HandS.Strs
import HandS.List
import HandS.More
import PyProof.Rows.SortShellAny
import PyProof.Rows.SortStr
import PySem.Challenge.RW_conceptscript_k81_letters_in_order
set_option Elab.async false
set_option linter.all false
set_option maxRecDepth 100000

/-! sets of texts made of a list, and sorted -/
namespace AS
open PySem PySem.Spec PyProof.Rows L2
def tx (e : Int × Value) : Str := match e.2 with
  | .str k _ => k
  | _ => Str.empty
def IsTx (w : World) (e : Int × Value) : Prop := ∃ u, e = (hashStr w (tx e), .str (tx e) u)
/-- the rows of a table hold the texts ks -/
structure Tab (w : World) (es : Array (Int × Value)) (t : SetTable) (ks : List Str) : Prop where
  all : ∀ e ∈ es.toList, IsTx w e
  mem : (es.toList.map tx).Perm ks
  nd : ks.Nodup
  few : es.size < scanBound
  fit : t.fits es.size = true
  ris : Ris t.place.toList
  led : w.params.followText "set-order" = true ∨ t.led = true
def SetS (w : World) (h : Heap) (a : Addr) (ks : List Str) : Prop := ∃ o es ep t, h.get? a = some o ∧ o.ExactSet ∧ o.data = .set es ep t ∧ Tab w es t ks
section
variable {P : Program} {w : World} {h h' : Heap} {a : Addr} {ks : List Str} {es : Array (Int × Value)} {t : SetTable}
theorem SetS.keep (R : SetS w h a ks) (k : ∀ o, h.get? a = some o → h'.get? a = some o) : SetS w h' a ks := by
  obtain ⟨o, es, ep, t, ho, z⟩ := R
  exact ⟨o, es, ep, t, k o ho, z⟩
theorem Tab.size (T : Tab w es t ks) : es.size = ks.length := by
  have z := T.mem.length_eq
  rw [List.length_map, Array.length_toList] at z
  exact z
theorem Tab.els (T : Tab w es t ks) : ElemsOf (PySem.strKind P w) es.toList := fun e he => by
  obtain ⟨u, z⟩ := T.all e he
  rw [z]
  exact ⟨⟨tx e, strKind_is _ _ _ _, rfl⟩, rfl⟩
theorem is_tx {e : Int × Value} (g : IsTx w e) (k : Str) : (PySem.strKind P w).is k e.2 = decide (tx e = k) := by
  obtain ⟨u, z⟩ := g
  rw [z, KeyKind.is_eq_decide (strKind_is P w (tx e) u) k]
  show decide (k = tx e) = decide (tx e = k)
  exact decide_eq_decide.mpr eq_comm
end
section
variable {P : Program} {w : World} {A : Around} {E : Value → Shared → Prop} {s : Shared} {a : Addr} {ks : List Str}
theorem tail {g : Bool → Sem Unit} (hg : ∀ (b : Bool) (z : Shared) (q : Unit → Shared → Prop), q () z → wpAny (model P w) A (g b) q E z) {o : Obj} {es es1 : Array (Int × Value)} {ep : Nat} {t t2 : SetTable}
    (ho : s.heap.get? a = some o) (hex : o.ExactSet) (hd : o.data = .set es ep t) (T : Tab w es1 t2 ks) {dm : Bool} {R : Option Bool → Shared → Prop}
    (fin : ∀ h2, Heap.SameBut a s.heap h2 → SetS w h2 a ks → R (some true) { s with heap := h2 }) :
    wpAny (model P w) A (do storeSet a es1 t2; if (!dm && t2.tooFull) = true then (do g (relayAll t2 es1 (SetTable.grown es1.size)).2.2; storeSet a (relayAll t2 es1 (SetTable.grown es1.size)).1 (relayAll t2 es1 (SetTable.grown es1.size)).2.1; pure (some true)) else pure (some true)) R E s := by
  have n1 := store_at (es' := es1) (t' := t2) ho hd
  have b1 := Heap.SameBut.update s.heap a (Obj.putSet es1 t2)
  refine wpAny_bind (wpAny_storeSet_of ho hd ?_ (fits_of_scanBound T.few))
  by_cases c : (!dm && t2.tooFull) = true
  · rw [if_pos c]
    have p1 := relayAll_perm t2 es1 (SetTable.grown es1.size)
    have p2 := relayAll_fits t2 es1 (SetTable.grown es1.size)
    have p3 := relayAll_ris t2 es1 (SetTable.grown es1.size)
    have p4 := relayAll_led t2 es1 (SetTable.grown es1.size)
    revert p1 p2 p3 p4
    generalize relayAll t2 es1 (SetTable.grown es1.size) = Z
    obtain ⟨e2, t3, gv⟩ := Z
    intro p1 p2 p3 p4
    dsimp only at p1 p2 p3 p4 ⊢
    have same : e2.size = es1.size := by
      have z := p1.length_eq
      rw [Array.length_toList, Array.length_toList] at z
      exact z
    have T2 : Tab w e2 t3 ks := ⟨fun e he => T.all e (p1.mem_iff.mp he), (p1.map tx).trans T.mem, T.nd, by rw [same]; exact T.few, p2, p3, T.led.imp (fun z => z) fun z => by rw [p4]; exact z⟩
    refine wpAny_bind (hg _ _ _ (wpAny_bind (wpAny_storeSet_of n1 rfl ?_ (fits_of_scanBound T2.few))))
    exact wpAny_pure (fin _ (b1.trans (Heap.SameBut.update _ a _)) ⟨_, e2, _, t3, store_at (es' := e2) (t' := t3) n1 rfl, hex, rfl, T2⟩)
  · rw [if_neg c]
    exact wpAny_pure (fin _ b1 ⟨_, es1, _, t2, n1, hex, rfl, T⟩)
theorem put {k : Str} {u : Tok} {Q : Bool → Shared → Prop} (R : SetS w s.heap a ks) (room : ks.length + 1 < scanBound) (hQ : ∀ b h2, Heap.SameBut a s.heap h2 → SetS w h2 a (if k ∈ ks then ks else k :: ks) → Q b { s with heap := h2 }) :
    wpAny (model P w) A (setAddHashed a (.str k u) (hashStr w k)) Q E s := by
  obtain ⟨o, es, ep, t, ho, hex, hd, T⟩ := R
  have scn : (Value.str k u).scannable = true := rfl
  have els := T.els (P := P)
  unfold setAddHashed setAddHashedIn
  refine wpAny_holding (wpAny_bind (wpAny_setState_of ho hd T.fit ?_))
  dsimp only
  rw [byScan_of scn T.few els]
  simp only [↓reduceIte]
  unfold setAddByScan
  refine wpAny_bind (wpAny_bind (wpAny_rule (wpAny_bind (wpAny_setScan_of (strKind_is P w k u) ho hd T.fit els ?_))))
  cases hf : List.findIdx? (fun e => (PySem.strKind P w).is k e.2) es.toList with
  | some j =>
    dsimp only
    obtain ⟨hj, pj, _⟩ := List.findIdx?_eq_some_iff_getElem.mp hf
    rw [is_tx (T.all _ (List.getElem_mem hj)), decide_eq_true_eq] at pj
    have inn : k ∈ ks := T.mem.mem_iff.mp (List.mem_map.mpr ⟨_, List.getElem_mem hj, pj⟩)
    have q := fun b => hQ b s.heap (Heap.SameBut.refl a s.heap)
    rw [if_pos inn] at q
    exact wpAny_pure (wpAny_pure (q _ ⟨o, es, ep, t, ho, hex, hd, T⟩))
  | none =>
    dsimp only
    have out : k ∉ ks := fun z => by
      obtain ⟨e, he, q⟩ := List.mem_map.mp (T.mem.mem_iff.mpr z)
      have c := List.findIdx?_eq_none_iff.mp hf e he
      rw [is_tx (T.all e he), decide_eq_false_iff_not] at c
      exact c q
    have q := hQ
    rw [if_neg out] at q
    have way : ∀ (b : Bool) {z : Shared} {r : Unit → Shared → Prop}, r () z → wpAny (model P w) A (match b with | true => rule "set.scan.the-table-gave-way" | false => pure ()) r E z := fun b z r y => by
      cases b
      · exact wpAny_pure y
      · exact wpAny_rule y
    have l1 := layNew_perm t es (hashStr w k) (.str k u)
    have l2 := layNew_fits t es (hashStr w k) (.str k u)
    have l3 := layNew_ris t es (hashStr w k) (.str k u) T.ris
    have l4 := layNew_led t es (hashStr w k) (.str k u)
    revert l1 l2 l3 l4
    generalize layNew t es (hashStr w k) (.str k u) = Z
    obtain ⟨e1, t1, dm, gv⟩ := Z
    intro l1 l2 l3 l4
    dsimp only at l1 l2 l3 l4 ⊢
    rw [Array.toList_push] at l1
    have l5 : e1.toList.Perm ((hashStr w k, .str k u) :: es.toList) := l1.trans (List.perm_append_singleton _ _)
    have l6 : (e1.toList.map tx).Perm (k :: ks) := (l5.map tx).trans (List.Perm.cons k T.mem)
    have T1 : Tab w e1 t1 (k :: ks) := by
      refine ⟨fun e he => ?_, l6, List.nodup_cons.mpr ⟨out, T.nd⟩, ?_, l2, l3, T.led.imp (fun z => z) fun z => by rw [l4]; exact z⟩
      · rcases List.mem_cons.mp (l5.mem_iff.mp he) with z | z
        · rw [z]
          exact ⟨u, rfl⟩
        · exact T.all e z
      · have z := l6.length_eq
        rw [List.length_map, Array.length_toList, List.length_cons] at z
        rw [z]
        exact room
    refine wpAny_bind (way _ ?_)
    rw [hashByValue_scannable 8 scn]
    have done : ∀ h2, Heap.SameBut a s.heap h2 → SetS w h2 a (k :: ks) → wpAny (model P w) A (pure true) Q E { s with heap := h2 } := fun h2 z1 z2 => wpAny_pure (q true h2 z1 z2)
    have T0 : Tab w e1 { t1 with plain := false } (k :: ks) := ⟨T1.all, T1.mem, T1.nd, T1.few, SetTable.fits_plain_off T1.fit, T1.ris, T1.led⟩
    generalize plainKind (Value.str k u) = pb
    have go : ∀ (b : Bool) (z : Shared) (r : Unit → Shared → Prop), r () z → wpAny (model P w) A (match b with | true => rule "set.scan.the-table-gave-way" | false => pure ()) r E z := fun b z r y => way b y
    split
    · refine wpAny_bind (wpAny_pure ?_)
      cases pb with
      | true =>
        simp only [↓reduceIte]
        exact tail go ho hex hd T1 done
      | false =>
        simp only [↓reduceIte, Bool.false_eq_true]
        exact tail go ho hex hd T0 done
    · refine wpAny_bind (wpAny_pure ?_)
      simp only [↓reduceIte]
      exact tail go ho hex hd T1 done
end
section
variable {P : Program} {w : World} {A : Around} {R : Result → Shared → Prop} {I : Addr} {fp wr : List Addr} {G : Array GenState → Array GenState → Prop} {n : Nat} {Pv : Nat → Value → Prop} {St : Nat → Shared → Prop}
/-- the texts that stand in the table behind i items -/
structure Met (xs : List Str) (i : Nat) (ks : List Str) : Prop where
  sub : ∀ k ∈ ks, k ∈ xs
  has : ∀ k ∈ xs.take i, k ∈ ks
  len : ks.length ≤ i
theorem Met.step {xs ks : List Str} {i : Nat} {k : Str} (m : Met xs i ks) (hk : xs[i]? = some k) : Met xs (i + 1) (if k ∈ ks then ks else k :: ks) := by
  have tk : ∀ y, y ∈ xs.take (i + 1) → y ∈ xs.take i ∨ y = k := fun y hy => by
    rw [List.take_add_one, hk] at hy
    rcases List.mem_append.mp hy with z | z
    · exact .inl z
    · exact .inr (List.mem_singleton.mp z)
  by_cases c : k ∈ ks
  · rw [if_pos c]
    refine ⟨m.sub, fun y hy => ?_, Nat.le_succ_of_le m.len⟩
    rcases tk y hy with z | z
    · exact m.has y z
    · rw [z]; exact c
  · rw [if_neg c]
    refine ⟨fun y hy => ?_, fun y hy => ?_, Nat.succ_le_succ m.len⟩
    · rcases List.mem_cons.mp hy with z | z
      · rw [z]; exact List.mem_of_getElem? hk
      · exact m.sub y z
    · rcases tk y hy with z | z
      · exact List.mem_cons_of_mem _ (m.has y z)
      · rw [z]; exact List.mem_cons_self
theorem fill (W : WalksS P w A.in1 I fp wr G n Pv St) (c : Addr) (hc : c ∉ fp) (xs : List Str) (few : n + 1 < scanBound) (val : ∀ i v, Pv i v → ∃ x u, xs[i]? = some x ∧ v = .str x u) :
    ∀ (k i : Nat) (s : Shared), n - i = k → i ≤ n → St i s → (∃ ks, SetS w s.heap c ks ∧ Met xs i ks) → (∀ z ks, Moved (c :: wr) G s z → SetS w z.heap c ks → Met xs n ks → R (.ok (.ret .none)) z) →
      codeAny (model P w) A (.builtin "set.update.loop" ⟨[.ref c, .ref I], []⟩) R s := by
  have cw : c ∉ wr := fun z => hc (W.sub _ z)
  have up : ∀ b ∈ wr, b ∈ c :: wr := fun b z => List.mem_cons_of_mem _ z
  intro k
  induction k with
  | zero =>
    rintro i s hk hi st ⟨ks, hS, m⟩ fin
    obtain rfl : i = n := by omega
    refine codeAny_builtin PyProof.Rows.F.entry_set_update_loop ?_
    rw [Around.under_plainId PyProof.Rows.F.plain_set_update_loop _]
    exact wpAny_bind (W.done s _ _ st fun z mv => wpAny_pure (fin z ks (mv.mono up) (hS.keep fun o e => mv.heap c o cw e) m))
  | succ k ih =>
    rintro i s hk hi st ⟨ks, hS, m⟩ fin
    have lt : i < n := by omega
    refine codeAny_builtin PyProof.Rows.F.entry_set_update_loop ?_
    rw [Around.under_plainId PyProof.Rows.F.plain_set_update_loop _]
    refine wpAny_bind (W.item i s _ _ lt st fun v z hv st' mv => ?_)
    obtain ⟨x, u, hx, rfl⟩ := val i v hv
    have hS' := hS.keep (h' := z.heap) fun o e => mv.heap c o cw e
    refine wpAny_bind (wpAny_holding ?_)
    unfold setAdd
    refine wpAny_holding (wpAny_bind ((PySem.strKind P w).pyHash (k := x) (strKind_is _ _ _ _) ?_))
    refine put (s := { z with toks := z.toks + 1 }) hS' (by have := m.len; omega) fun b h2 sb r => ?_
    refine wpAny_pure ⟨plainId_quiet PyProof.Rows.F.plain_set_update_loop _, ih (i + 1) _ (by omega) lt (W.frame _ z _ _ st' (Nat.le_succ _) fun b hb o e => ?_) ⟨_, r, m.step hx⟩ fun y ls mv2 r2 m2 => ?_⟩
    · exact (sb.2 b fun z => hc (z ▸ hb)).trans e
    · refine fin y ls (Moved.trans W.gtrans ((mv.mono up).then_heap (Nat.le_succ _) fun b o hb e => ?_) mv2) r2 m2
      exact (sb.2 b fun z => hb (z ▸ List.mem_cons_self)).trans e
end
section
variable {P : Program} {w : World} {A : Around} {E : Value → Shared → Prop} {s : Shared}
/-- a set that is made, still empty -/
def bare (w : World) : Obj := { cls := .type "set", dict := none, data := .set #[] 0 (.fresh 0 0 (!w.params.followText "set-order")) }
theorem bare_tab (w : World) : Tab w #[] (.fresh 0 0 (!w.params.followText "set-order")) [] := ⟨fun e z => by simp at z, List.Perm.refl _, List.nodup_nil, (by decide), rfl, List.Pairwise.nil, by
  show _ ∨ (!w.params.followText "set-order") = true
  cases w.params.followText "set-order" with
  | true => exact .inl rfl
  | false => exact .inr rfl⟩
theorem bare_at {h : Heap} {a : Addr} (e : h.get? a = some (bare w)) : SetS w h a [] := ⟨_, #[], 0, _, e, ⟨rfl, rfl, rfl⟩, rfl, bare_tab w⟩
theorem made (v : Value) {q : Value → Shared → Prop} (h : q (.ref s.heap.objs.size) { s with heap := s.heap.push (bare w) }) : codeAny (model P w) A (.call (.builtin "set.__new__") ⟨[.type "set", v], []⟩) (wants q E) s := by
  refine codeAny_of_tree ?_
  refine wpAny_bind (wpAny_of_eq (F.newCall_set_1 v) (wpAny_pure ⟨plainId_quiet F.plain_set_new _, codeAny_builtin F.entry_set_new ?_⟩))
  rw [Around.under_plainId F.plain_set_new _]
  have hsub := sub_set_self
  unfold Builtin.«set.__new__» Builtin.Frozenset.newClass
  revert h
  obtain ⟨hp, g, d, tk, os⟩ := s
  intro h
  dsimp only
  wp_walk
  refine wpAny_askSetting (wpAny_pure ?_)
  dsimp only
  simp only [newObj]
  exact wpAny_bind (wpAny_alloc (wpAny_pure (wpAny_pure h)))
theorem str_at {vs : List Value} {xs : List Str} (r : StrsAre vs xs) : ∀ (i : Nat) (v : Value), vs[i]? = some v → ∃ (x : Str) (u : Tok), xs[i]? = some x ∧ v = Value.str x u := by
  induction r with
  | nil => exact fun i v z => by simp at z
  | cons n t r ih =>
    intro i v z
    cases i with
    | zero => exact ⟨n, t, rfl, (Option.some.inj z).symm⟩
    | succ i => exact ih i v z
set_option maxHeartbeats 3200000 in
/-- set(xs), a list of texts -/
theorem call_set {l : Addr} {its : Array Value} {xs : List Str} {Q : Value → Shared → Prop} (hh : A.handled = none) (hl : s.heap.IsList l its) (hi : StrsAre its.toList xs) (few : xs.length + 1 < scanBound)
    (fin : ∀ (h2 : Heap) (tk : Nat) (ks : List Str), SetS w h2 s.heap.objs.size ks → Met xs xs.length ks → (∀ b o, b < s.heap.objs.size → s.heap.get? b = some o → h2.get? b = some o) → Q (.ref s.heap.objs.size) { s with heap := h2, toks := tk }) :
    wpAny (model P w) A (call (.type "set") [.ref l]) Q E s := by
  have f1 := F.called_set.made
  have f2 := F.called_set.sub
  have f3 := F.called_set.notType
  have f4 := F.called_set.canCreate
  have f5 := F.typeCall_set_1 (.ref l)
  obtain ⟨c, tl, f6⟩ := F.called_set.mro
  refine wpAny_call (codeAny_of_tree (wpAny_pure ⟨Code.quiet_builtin _ (by decide +kernel), codeAny_builtin F.entry_type_call ?_⟩))
  rw [Around.under_plain (weight_type_call_type "set" [.ref l] []) rfl]
  repeat (any_goals (first | assumption | wp_step))
  refine codeAny_mono (made (.ref l) (E := E) (q := fun x z => x = .ref s.heap.objs.size ∧ z = { s with heap := s.heap.push (bare w) }) ⟨rfl, rfl⟩) fun r z hr => ?_
  match r, hr with
  | .error e, hr => exact hr
  | .ok (.ret x), ⟨e1, e2⟩ =>
    subst e1 e2
    have at0 : (s.heap.push (bare w)).get? s.heap.objs.size = some (bare w) := Heap.get?_push_size _ rfl
    have ty : Shared.TypeIs { s with heap := s.heap.push (bare w) } (.ref s.heap.objs.size) "set" := ⟨_, at0, rfl⟩
    have g1 := F.called_set.init.lookup
    have g2 := F.called_set.init.bind (.ref s.heap.objs.size)
    repeat (any_goals (first | assumption | wp_step))
    refine codeAny_mono (codeAny_call_builtin (R := wants (fun r y => r = .none ∧ ∃ h2 tk ks, y = { s with heap := h2, toks := tk } ∧ SetS w h2 s.heap.objs.size ks ∧ Met xs xs.length ks ∧ ∀ b o, b < s.heap.objs.size → s.heap.get? b = some o → h2.get? b = some o) E)
      F.called_set.init.plain F.entry_set_init (check_set_init_1 ty ?_)) fun r y hr => ?_
    · obtain ⟨ol, hol, hcl, nl, hdl⟩ := hl
      obtain ⟨k1, k2, k3, k4⟩ := ol
      dsimp only at hcl hdl
      subst hcl hdl
      have sl : (s.heap.push (bare w)).IsList l its := ⟨_, Heap.get?_push_of_some _ hol, rfl, nl, rfl⟩
      have hol2 := Heap.get?_push_of_some (bare w) hol
      have t1 := F.sub_list_set
      have t2 := F.sub_list_frozenset
      have t3 : (Value.type "list" == Value.type "dict") = false := by decide
      unfold Builtin.«set.__init__» noKeywords Builtin.Frozenset.updateFrom
      generalize hPI : pyIter = PI
      wp_walk
      subst hPI
      refine wpAny_pyIter_list sl ?_
      have lt := Heap.lt_size hol
      have sz : (s.heap.push (bare w)).objs.size = s.heap.objs.size + 1 := Heap.size_push _ _
      have n1 : l ≠ (s.heap.push (bare w)).objs.size := by rw [sz]; exact Nat.ne_of_lt (Nat.lt_succ_of_lt lt)
      have n2 : s.heap.objs.size ∉ [(s.heap.push (bare w)).objs.size, l] := fun z => by
        rcases List.mem_cons.mp z with z | z
        · rw [sz] at z; exact absurd z (Nat.ne_of_lt (Nat.lt_succ_self _))
        · exact absurd (List.mem_singleton.mp z) (Nat.ne_of_gt lt)
      have len : its.size = xs.length := by rw [← Array.length_toList]; exact StrsAre.len_eq hi
      have calm : A.in1.in1.in1.handled = none := by
        show A.handled = none
        exact hh
      refine wpAny_bind (wpAny_runValue ?_)
      refine fill ((Walks.list calm _ l n1 its).toS) s.heap.objs.size n2 xs (by rw [len]; exact few) (fun i v e => str_at hi i v (by rw [Array.getElem?_toList]; exact e)) (its.size - 0) 0 _ rfl (Nat.zero_le _) ⟨⟨_, Heap.get?_push_size _ rfl, rfl, rfl⟩, sl.push _⟩ ?_ ?_
      · exact ⟨[], bare_at (Heap.get?_push_of_some _ at0), ⟨(fun k z => nomatch z), (fun k z => by simp at z), Nat.le_refl _⟩⟩
      · intro y ks mv hS m
        rw [len] at m
        have c1 : y.gens = s.gens := mv.gens
        have c2 : y.drawn = s.drawn := mv.drawn
        have c3 : y.os = s.os := mv.os
        have old : ∀ b o, b < s.heap.objs.size → s.heap.get? b = some o → y.heap.get? b = some o := fun b o lb e => mv.heap b o (fun z => by
          rcases List.mem_cons.mp z with z | z
          · exact absurd z (Nat.ne_of_lt lb)
          · have z := List.mem_singleton.mp z
            rw [sz] at z
            exact absurd z (Nat.ne_of_lt (Nat.lt_succ_of_lt lb))) (Heap.get?_push_of_some _ (Heap.get?_push_of_some _ e))
        refine wpAny_pure (wpAny_pure ⟨rfl, y.heap, y.toks, ks, ?_, hS, m, old⟩)
        obtain ⟨y1, y2, y3, y4, y5⟩ := y
        dsimp only at c1 c2 c3 ⊢
        rw [c1, c2, c3]
    · match r, hr with
      | .error e, hr => exact hr
      | .ok (.ret x), ⟨e1, h2, tk, ks, e2, k1, k2, k3⟩ =>
        subst e1 e2
        repeat (any_goals (first | assumption | wp_step))
        exact fin h2 tk ks k1 k2 k3
end
end AS

namespace AS
open PySem PySem.Spec PyProof.Rows L2
section
variable {P : Program} {w : World} {A : Around} {E : Value → Shared → Prop} {s : Shared} {a : Addr} {ks : List Str}
/-- sorted(s), s a set of texts -/
theorem call_sorted {Q : Value → Shared → Prop} (R : SetS w s.heap a ks) (hh : A.handled = none)
    (fin : ∀ (z : Shared) (p : Addr) (out : Array Value) (c : Nat) (ys : List Str), (∀ b o, s.heap.get? b = some o → z.heap.get? b = some o) → z.gens = s.gens → z.os = s.os → s.heap.objs.size ≤ p →
      z.heap.get? p = some (seqObj "list" out c) → StrsAre out.toList ys → ys.Perm ks → sortedS ys = true → Q (.ref p) z) : wpAny (model P w) A (call (.builtin "sorted") [.ref a]) Q E s := by
  obtain ⟨o, es, ep, t, ho, hex, hd, T⟩ := R
  refine Calls.call_function_entry kind_sorted plain_sorted entry_sorted (args_sorted1 _) ?_
  unfold Builtin.«sorted»
  refine wpAny_bind (m := checkCount "sorted" 1 1 _) (wpAny_pure (wpAny_bind (collect_set (A := A.in1) hh ⟨o, ho, hex.1, hd⟩ T.fit T.few T.ris T.led fun z vs k1 hz g1 o1 pm => ?_)))
  have txs : ∀ v, v ∈ vs → ∃ x u, v = Value.str x u := fun v hv => by
    obtain ⟨e, he, q⟩ := List.mem_map.mp (pm.mem_iff.mp hv)
    obtain ⟨u, e2⟩ := T.all e he
    exact ⟨tx e, u, by rw [← q]; exact congrArg (·.2) e2⟩
  have S0 : StrsAre vs (vs.map PyProof.Rows.strOf) := strsAre_map vs txs
  have perm : (vs.map PyProof.Rows.strOf).Perm ks := by
    refine (pm.map PyProof.Rows.strOf).trans ?_
    rw [List.map_map]
    refine List.Perm.trans (List.Perm.of_eq (List.map_congr_left fun e he => ?_)) T.mem
    obtain ⟨u, e2⟩ := T.all e he
    show PyProof.Rows.strOf e.2 = tx e
    rw [e2]
    rfl
  have few : vs.length ≤ sizeLine := by
    rw [pm.length_eq, List.length_map, Array.length_toList]
    exact fits_of_scanBound T.few
  refine wpAny_bind (wpAny_newList ?_ few)
  have oL : (z.heap.push (seqObj "list" vs.toArray 0)).get? z.heap.objs.size = some (seqObj "list" vs.toArray 0) := Heap.get?_push_size _ rfl
  refine wpAny_bind (wpAny_holding (wpAny_call_entry slot_list_sort ⟨_, oL, rfl⟩ entry_list_sort (list_sort_treeKAny strKind_oneLt oL S0.keysOf (fun v₁ v₂ rest e => keyKind_strs (by rw [← e]; exact S0)) few fun st a1 a2 => ⟨_, rfl, ?_⟩) (args_list_sort _)))
  obtain ⟨ys, b1, b2, b3⟩ := sorted_out_str S0 a1 a2
  obtain ⟨c, hc⟩ := sortedHeap_at (vs := vs) (out := (arrOf st).map (·.2)) oL
  refine wpAny_pure ⟨_, rfl, fin _ z.heap.objs.size _ c ys (fun b u e => ?_) g1 o1 hz hc b1 (b2.trans perm) b3⟩
  have e1 := k1 b u e
  have lt := Heap.lt_size e1
  show (sortedHeap (z.heap.push (seqObj "list" vs.toArray 0)) z.heap.objs.size vs _).get? b = some u
  rw [sortedHeap_old (Nat.ne_of_lt lt) (by rw [size_push']; exact Nat.lt_succ_of_lt lt)]
  exact Heap.get?_push_of_some _ e1
end
end AS
namespace L2
open PySem PySem.Spec PyProof.Rows
/-- a set of texts as an object of the tracked heap -/
def SetTx (w : World) (a : Addr) (ks : List Str) : HO := .ext fun h => AS.SetS w h a ks
theorem setTx_ok {P : Program} {w : World} {H : Hp} {h : Heap} {a : Addr} {ks : List Str} (R : AS.SetS w h a ks) : ObjOk P w H h a (SetTx w a ks) := by
  refine ⟨R, ?_, fun h1 h2 z k => ?_⟩
  · obtain ⟨o, es, ep, t, ho, z⟩ := R
    exact ⟨o, ho⟩
  · exact AS.SetS.keep z k
section
variable {X : Cx}
def rSetTx (K : PySem.W.Frag) (w : World) : List V → Hp → VK → Prop := fun xs H Q => ∃ (l : Addr) (ys : List Str), xs = [V.ref l] ∧ SqL K H l (ys.map V.str) ∧ ys.length + 1 < scanBound ∧
  ∀ (a : Addr) (ks : List Str), H a = none → ks.Nodup → (∀ k, k ∈ ks ↔ k ∈ ys) → Q (.ref a) (upd H a (SetTx w a ks))
theorem cr_setTx (hc : X.calm = true) : CallR X (.type "set") (rSetTx X.K X.w) := by
  intro pins s σ H xs us Q I r h
  obtain ⟨l, ys, rfl, hl, few, q⟩ := h
  rw [Vals.ref1 r]
  obtain ⟨its, rv, pl, hz⟩ := I.list hl
  refine AS.call_set (P := X.prog) (w := X.w) (I.ok.hd hc) pl.isList (by simpa using strsAre_of rv) few fun h2 tk ks R m k => ?_
  have nd : ks.Nodup := by
    obtain ⟨o, es, ep, t, ho, hex, hd, T⟩ := R
    exact T.nd
  refine ⟨.ref s.heap.objs.size, upd H s.heap.objs.size (SetTx X.w s.heap.objs.size ks), I.laid (t' := tk) (fun b o e => k b o (Heap.lt_size e) e) (Nat.le_refl _) (setTx_ok R), rfl, q _ ks (I.hok.fresh (Nat.le_refl _)) nd fun y => ⟨m.sub y, fun z => m.has y (by rw [List.take_length]; exact z)⟩⟩
def rSortTx (w : World) : List V → Hp → VK → Prop := fun vs H Q => ∃ (a : Addr) (ks : List Str), vs = [V.ref a] ∧ H a = some (SetTx w a ks) ∧
  ∀ (ys : List Str) (p : Addr), ys.Perm ks → sortedS ys = true → H p = none → Q (.ref p) (upd H p (.lst (ys.map V.str)))
theorem cr_sortTx (hc : X.calm = true) : CallR X (.builtin "sorted") (rSortTx X.w) := by
  intro pins s σ H vs us Q I r h
  obtain ⟨a, ks, rfl, ha, q⟩ := h
  have R : AS.SetS X.w s.heap a ks := (I.hok a _ ha).1
  rw [Vals.ref1 r]
  refine AS.call_sorted R (I.ok.hd hc) fun z p out c ys k g o hp hg st pm so => ?_
  have len : (ys.map V.str).length ≤ sizeLine := by
    obtain ⟨o, es, ep, t, ho, hex, hd, T⟩ := R
    rw [List.length_map, pm.length_eq, ← T.size]
    exact fits_of_scanBound T.few
  have hn : H p = none := I.hok.fresh hp
  have J : Inv X pins σ (upd H p (.lst (ys.map V.str))) { s with heap := z.heap, gens := z.gens, drawn := z.drawn, toks := z.toks } :=
    I.call (ch := []) (Un.laid k hp hn) (I.hok.laid k hp ⟨len, out.toList, c, vals_of_strs st, hg⟩) (by rw [g]; exact I.bare) (fun _ z => nomatch z)
  have e : z = { s with heap := z.heap, gens := z.gens, drawn := z.drawn, toks := z.toks } := by
    obtain ⟨z1, z2, z3, z4, z5⟩ := z
    dsimp only at o ⊢
    rw [o]
  rw [e]
  exact ⟨.ref p, _, J, rfl, q ys p pm so hn⟩
end
end L2

/-! sets of texts, made and added to -/
namespace AS
open PySem PySem.Spec PyProof.Rows L2
section
variable {P : Program} {w : World} {A : Around} {E : Value → Shared → Prop} {s : Shared} {a : Addr} {ks : List Str}
theorem SetS.gen (R : SetS w s.heap a ks) : s.heap.SetOf (PySem.strKind P w) a (fun k => decide (k ∈ ks)) ks.length := by
  obtain ⟨o, es, ep, t, ho, hex, hd, T⟩ := R
  refine ⟨o, es, ep, t, ho, hex, hd, T.els, fun k => ?_, T.few, T.fit, T.size⟩
  rw [decide_eq_true_eq, ← T.mem.mem_iff, List.mem_map]
  constructor
  · rintro ⟨e, he, q⟩
    exact ⟨e, he, by rw [is_tx (T.all e he), decide_eq_true_eq]; exact q⟩
  · rintro ⟨e, he, q⟩
    exact ⟨e, he, by rw [is_tx (T.all e he), decide_eq_true_eq] at q; exact q⟩
theorem one_more {k : Str} {u : Tok} {Q : Value → Shared → Prop} (R : SetS w s.heap a ks) (room : ks.length + 1 < scanBound)
    (fin : ∀ h2 tk, Heap.SameBut a s.heap h2 → SetS w h2 a (if k ∈ ks then ks else k :: ks) → Q .none { s with heap := h2, toks := tk }) : wpAny (model P w) A (call (.builtin "set.add") [.ref a, .str k u]) Q E s := by
  refine wpAny_call_entry F.slot_set_add (R.gen (P := P)).typeIs F.entry_set_add ?_ (F.args_set_add_2 _ _)
  unfold Builtin.«set.add» Builtin.Frozenset.oneOther Builtin.Frozenset.addrOf setAdd
  simp only [List.isEmpty_nil, bind_assoc]
  refine wpAny_bind (wpAny_pure ?_)
  refine wpAny_bind (wpAny_pure (wpAny_bind (wpAny_holding (wpAny_bind ((PySem.strKind P w).pyHash (k := k) (strKind_is _ _ _ _) (put (s := { s with toks := s.toks + 1 }) R room fun b h2 sb r => ?_))))))
  exact wpAny_pure ⟨_, rfl, fin h2 _ sb r⟩
end
end AS
namespace L2
open PySem PySem.Spec PyProof.Rows
section
variable {X : Cx} {o e : Expr} {es : List Expr} {to : TE} {t : TA} {apos cpos : Pos}
theorem cr_set0Tx : CallR X (.type "set") (fun xs H Q => xs = [] ∧ ∀ p, H p = none → Q (.ref p) (upd H p (SetTx X.w p []))) := by
  intro pins s σ H xs us Q I r h
  obtain ⟨rfl, q⟩ := h
  cases r
  refine setR_new fun _ => ?_
  exact ⟨.ref _, upd H s.heap.objs.size (SetTx X.w s.heap.objs.size []), I.laid (t' := s.toks) (fun b u e => Heap.get?_push_of_some _ e) (Nat.le_refl _) (setTx_ok (AS.bare_at (Heap.get?_push_size _ rfl))), rfl, q _ (I.hok.fresh (Nat.le_refl _))⟩
def tSAddTx (w : World) (to : TE) (t : TA) : TE := fun σ H Q => to σ H fun x H1 => (∃ a ks, x = V.ref a ∧ H1 a = some (SetTx w a ks)) ∧ t σ H1 fun xs H2 => ∃ (a : Addr) (k : Str) (ks : List Str), x = V.ref a ∧ xs = [.str k] ∧ H2 a = some (SetTx w a ks) ∧ ks.length + 1 < scanBound ∧
  Q .non (upd H2 a (SetTx w a (if k ∈ ks then ks else k :: ks)))
theorem pe_saddTx (ho : PE X o to) (ha : PA X (e :: es) t) (hbase : attributeBase o "add" X.env (eval o X.env) = eval o X.env := by rfl)
    (hfew : ((backTo cpos (starEach (e :: es) X.env)).all (fun x => !x.1) && (backToKw cpos (keywordEach [] X.env)).all (fun x => x.1.isSome)
      && decide ((e :: es).length + ([] : List Keyword).length + (if ([] : List Keyword).isEmpty then 0 else 1) < 30)) = true := by rfl)
    (hline : (apos.endLine == cpos.line) = true := by rfl) (hs : starEach (e :: es) X.env = (false, eval e X.env) :: starEach es X.env := by rfl) (hplain : (backTo cpos (starEach es X.env)).any (·.1) = false := by rfl) :
    PE X (.Call (.Attribute o "add" apos) (e :: es) [] cpos) (tSAddTx X.w to t) := ⟨fun pins s σ H Q I h => by
  refine wpAny_Call_method_late hbase hfew hline rfl (thn (ho.run pins s σ H _ I h) fun v s1 got => ?_)
  obtain ⟨x, H1, I1, r1, ⟨a, ks, rfl, hka⟩, q1⟩ := got
  cases (show v = Value.ref a from r1)
  have R1 : AS.SetS X.w s1.heap a ks := (I1.hok a _ hka).1
  have so := R1.gen (P := X.prog)
  refine ⟨"set", "set.add", F.plainAttrs_set, F.slot_set_add, F.type_set_add, so.typeIs, so.noDict, ?_⟩
  have args := ha.run cpos pins s1 σ H1 _ I1 q1
  rw [hs] at args ⊢
  refine Calls.callWith_builtin ((Bool.false_or _).trans hplain) (Calls.evalArgs_plain (thn args fun us s2 got => ?_))
  obtain ⟨vs, H2, I2, r2, a', k, ks2, ea, rfl, at2, room, q2⟩ := got
  cases ea
  obtain ⟨u, rfl, t, rfl⟩ := vals1 r2
  have R2 : AS.SetS X.w s2.heap a ks2 := (I2.hok a _ at2).1
  refine AS.one_more R2 room fun h2 tk sb new => ?_
  have there : ∃ u, h2.get? a = some u := by
    obtain ⟨o, _, _, _, ho, _⟩ := new
    exact ⟨o, ho⟩
  exact ⟨.non, _, I2.write (e := a) (t' := tk) (by rw [at2]; trivial) (.inl rfl) (fun b u hb hu => (sb.2 b hb).trans hu) there (setTx_ok new), rfl, q2⟩⟩
end
end L2

namespace L2
open PySem PySem.Spec PyProof.Rows
set_option maxHeartbeats 1000000 in
/-- xs.extend(t), t any tuple -/
theorem ext_tup (l : Addr) (its : Array Value) (n : Nat) (b : Addr) (more : Array Value) (m : Nat) (dc : Option Addr) (sl : Array (Option Value)) (c0 : ¬(!its.isEmpty && Builtin.List.listTooLong (its.size + more.size)) = true) (c1 : its.size ≤ sizeLine) (c2 : its.size + more.size ≤ sizeLine + 1) :
    Meets (Builtin.«list.extend» ⟨[.ref l, .ref b], []⟩) (fun _ R sh => sh.heap.get? l = some { cls := .type "list", dict := none, data := .seq its n, slots := #[] } ∧ sh.heap.get? b = some { cls := .type "tuple", dict := dc, data := .seq more m, slots := sl } ∧
      R (.ok (.ret Value.none)) { sh with heap := sh.heap.update l (Obj.mapSeq fun x => x ++ more), toks := sh.toks }) :=
  .of_wp fun prog w A R sh got => by
    obtain ⟨hp, gg, dd, tt, oo⟩ := sh
    obtain ⟨at1, at2, got⟩ := got
    have g1 := AutoSeq1.idx_int; have g2 := AutoSeq1.sub_tuple_tuple; have g3 := AutoSeq1.sub_list_list; have g4 := AutoSeq1.sub_tuple_list; have g5 := AutoSeq1.sub_list_tuple
    have c3 : (its ++ more).size ≤ sizeLine + 1 := by rw [Array.size_append]; exact c2
    wp_walk using (wpAny_updateSeq at1 rfl (hz := c1) (_hz' := c3)), AutoSeq1.wpAny_loadPart' at1, AutoSeq1.wpAny_loadPart' at2
    exact ⟨_, rfl, got⟩
section
variable {X : Cx}
def rExtT (K : PySem.W.Frag) : V → List V → Hp → VK → Prop := fun x vs H Q => ∃ l b xs zs, x = .ref l ∧ vs = [.ref b] ∧ H l = some (.lst xs) ∧ SqT K H b zs ∧ xs.length + zs.length ≤ sizeLine ∧ Q .non (upd H l (.lst (xs ++ zs)))
theorem mt_extT : MtM X "list.extend" (rExtT X.K) := by
  intro pins s σ H x vs v us Q I rx rv h
  obtain ⟨l, b, xs, zs, rfl, rfl, at1, at2, small, q⟩ := h
  cases rx
  obtain ⟨u, rfl, ru⟩ := rv.one
  cases ru
  obtain ⟨z, its, n, r, hl, e⟩ := I.lstM at1
  obtain ⟨more, r2, ⟨⟨cc, dc, dt, sl⟩, e2, c2, m, d2⟩, _⟩ := I.tuple at2
  cases (show cc = .type "tuple" from c2)
  cases (show dt = .seq more.toArray m from d2)
  have nl := r2.length
  have sum : its.toArray.size + more.toArray.size ≤ sizeLine := by rw [List.size_toArray, List.size_toArray]; omega
  have long : ¬ (!its.toArray.isEmpty && Builtin.List.listTooLong (its.toArray.size + more.toArray.size)) = true := by rw [notLongL sum, Bool.and_false]; exact Bool.false_ne_true
  refine call_meets F.slot_list_extend ⟨_, e, rfl⟩ F.entry_list_extend (F.args_list_extend_2 _ _) (ext_tup l its.toArray n b more.toArray m dc sl long (by rw [List.size_toArray]; omega) (by omega)) ⟨e, e2, ?_⟩
  exact ⟨.non, _, I.lset (its' := its ++ more) at1 e (by simp) (r.append r2) (by rw [List.length_append]; omega), rfl, q⟩
end
end L2

/-! own: tuple(d.values()) -/
namespace L2
open PySem PySem.Spec PyProof.Rows
section
variable {prog : Program} {w : World} {A : Around} {E : Value → Shared → Prop} {s : Shared} {r d : Addr} {n : Nat} {P : Nat → Value → Prop} {OK : Heap → Prop}
theorem tup_new_src {Q₁ : Value → Shared → Prop} (S : PySem.W.KdlSrc prog w "dict_values" r d n P OK) (hh : A.handled = none) (ok : OK s.heap) (few : n ≤ sizeLine)
    (fin : ∀ (h2 : Heap) (tk : Nat) (acc : Array Value), (∀ b o, s.heap.get? b = some o → h2.get? b = some o) → ItemsOf P acc n → Q₁ (.ref h2.objs.size) { s with heap := h2.push { cls := .type "tuple", data := .seq acc }, toks := tk }) :
    codeAny (model prog w) A (.call (.builtin "tuple.__new__") ⟨[.type "tuple", .ref r], []⟩) (wants Q₁ E) s := by
  refine codeAny_of_tree ?_
  refine wpAny_bind (wpAny_of_eq (PySem.F.newCall_tuple_1 _) (wpAny_pure ⟨plainId_quiet PySem.F.plain_tuple_new _, codeAny_builtin PySem.F.entry_tuple_new ?_⟩))
  rw [Around.under_plainId PySem.F.plain_tuple_new _]
  have a1 := sub_tuple_self
  have a2 := init_tuple_lookup
  have a3 := madeHere_tuple
  have ty := S.type s ok
  wp_walk using wpAny_typeOf ty, PySem.W.kdu_collect (A := A.in1) S (show A.in1.handled = none from hh) ok few
  intro h2 tk acc keep items
  show wpAny _ _ (Builtin.Tuple.tupleExact acc.toList.toArray >>= fun v => ret v) _ _ _
  unfold Builtin.Tuple.tupleExact
  rw [Array.toArray_toList]
  exact wpAny_bind (wpAny_newObj_type (wpAny_pure (fin h2 tk acc keep items)) (by show acc.size ≤ sizeLine; rw [items.1]; exact few))
theorem tup_src {Q : Value → Shared → Prop} (S : PySem.W.KdlSrc prog w "dict_values" r d n P OK) (hh : A.handled = none) (ok : OK s.heap) (few : n ≤ sizeLine)
    (fin : ∀ (h2 : Heap) (tk : Nat) (acc : Array Value), (∀ b o, s.heap.get? b = some o → h2.get? b = some o) → ItemsOf P acc n → Q (.ref h2.objs.size) { s with heap := h2.push { cls := .type "tuple", data := .seq acc }, toks := tk }) :
    wpAny (model prog w) A (call (.type "tuple") [.ref r]) Q E s := by
  refine callType_codes (Q₁ := fun ob z => z.TypeIs ob "tuple" ∧ Q ob z) PySem.F.called_tuple (PySem.F.typeCall_tuple_1 _) PySem.F.entry_object_init
    (tup_new_src S hh ok few fun h2 tk acc k i => ⟨⟨_, Heap.get?_push_size _ rfl, rfl⟩, fin h2 tk acc k i⟩) fun ob z got => ?_
  exact ⟨got.1, PySem.F.args_object_init_2 ob _, object_init_meets PySem.F.called_tuple.init.lookup PySem.F.called_tuple.made (by decide) prog w A.in1 _ z ⟨got.1, rfl, got.2⟩⟩
end
section
variable {X : Cx} {e : Expr} {te : TE} {p apos cpos pos : Pos}
theorem kv_vals : ∀ {kvs : List (Key × V)} {vs : List (Key × Value)}, KV kvs vs → Vals (kvs.map (·.2)) (vs.map (·.2))
  | [], _, .nil => .nil
  | _ :: _, _ :: _, .cons q h => .cons q.2 (kv_vals h)
def tTupVals (te : TE) : TE := fun σ H Q => te σ H fun x H1 => ∃ (a : Addr) (kvs : List (Key × V)), x = .ref a ∧ H1 a = some (.dK kvs) ∧ ∀ o, H1 o = none → Q (.ref o) (upd H1 o (.tup (kvs.map (·.2))))
theorem pe_tupVals (hc : X.calm = true) (he : PE X e te) (hg : Gl X "tuple") (hm : X.mg "tuple" = none) (hbase : attributeBase e "values" X.env (eval e X.env) = eval e X.env := by rfl) (hline : (apos.endLine == cpos.line) = true := by rfl)
    (hs : starEach [.Call (.Attribute e "values" apos) [] [] cpos] X.env = [(false, eval (.Call (.Attribute e "values" apos) [] [] cpos) X.env)] := by rfl) :
    PE X (.Call (.Name "tuple" p) [.Call (.Attribute e "values" apos) [] [] cpos] [] pos) (tTupVals te) := ⟨fun pins s σ H Q I h => by
  refine Call_ (ld_blt I hg hm PyProof.Rows.boot_tuple (callWith_type1 ?_ hs rfl))
  have arg : wpAny (model X.prog X.w) X.A (eval (.Call (.Attribute e "values" apos) [] [] cpos) X.env) (fun v s1 => wpAny (model X.prog X.w) X.A (call (.type "tuple") [v]) (EP X pins σ Q) X.xe s1) X.xe s := by
    refine wpAny_Call_method (T := "dict") (id := "dict.values") hbase rfl hline PySem.F.plainAttrs_dict PySem.F.slot_dict_values PySem.F.type_dict_values (thn (he.run pins s σ H _ I h) fun u s1 got => ?_)
    obtain ⟨x, H1, I1, rx, a, kvs, rfl, at1, q⟩ := got
    cases (show u = Value.ref a from rx)
    obtain ⟨few, lo, vs, rel, dd⟩ := dk_of I1.hok at1
    refine ⟨dd.typeIs, dd.mapOf.noDict, ?_⟩
    obtain ⟨ep, hat⟩ := dd.dictAt
    have len : kvs.length = vs.length := Paired.length rel
    have keep0 : ∀ b ob, s1.heap.get? b = some ob → (s1.heap.push { cls := .type "dict_values", data := .fields #[.ref a] }).get? b = some ob := fun b ob q => Heap.get?_push_of_some _ q
    have fin : wpAny (model X.prog X.w) X.A (call (.type "tuple") [.ref s1.heap.objs.size]) (EP X pins σ Q) X.xe { s1 with heap := s1.heap.push { cls := .type "dict_values", data := .fields #[.ref a] } } := by
      refine tup_src (PySem.W.kdl_values (knd := mixKind X.prog X.w) (kvs := vs) (ep := ep) (d := a) (r := s1.heap.objs.size)) (I1.ok.hd hc) ⟨⟨_, Heap.get?_push_size _ rfl, rfl, rfl⟩, hat.push _⟩ (by rw [← len]; exact few) fun h2 tk acc keep items => ?_
      have at2 : ∀ b ob, s1.heap.get? b = some ob → (h2.push { cls := .type "tuple", data := .seq acc }).get? b = some ob := fun b ob q => Heap.get?_push_of_some _ (keep b ob (keep0 b ob q))
      have big : s1.heap.objs.size ≤ h2.objs.size := by
        have z : (s1.heap.push { cls := .type "dict_values", data := .fields #[.ref a] }).get? s1.heap.objs.size = some _ := Heap.get?_push_size _ rfl
        exact Nat.le_of_lt (Heap.lt_size (keep _ _ z))
      have same : acc.toList = vs.map (·.2) := by
        refine List.ext_getElem? fun i => ?_
        rw [Array.getElem?_toList]
        cases q : acc[i]? with
        | none =>
          have l : acc.size ≤ i := Array.getElem?_eq_none_iff.mp q
          rw [List.getElem?_eq_none (by rw [List.length_map, ← items.1]; exact l)]
        | some v =>
          obtain ⟨k, e1⟩ := items.2 i v q
          rw [List.getElem?_map, e1]
          rfl
      have rv : Vals (kvs.map (·.2)) acc.toList := by rw [same]; exact kv_vals rel
      refine ⟨.ref h2.objs.size, _, I1.laid (o := .tup (kvs.map (·.2))) (t' := tk) at2 big ⟨by rw [List.length_map]; exact few, acc.toList, rv, ⟨_, Heap.get?_push_size _ rfl, rfl, _, by rw [Array.toArray_toList]⟩⟩, rfl, q _ (I1.hok.fresh big)⟩
    show wpAny _ _ (callWith cpos (.builtin "dict.values") [.ref a] [] []) _ X.xe s1
    exact method_meetsIn PySem.F.slot_dict_values PySem.F.entry_dict_values rfl (PySem.evalArgs_none ⟨rfl, dd.typeIs, PySem.F.args_dict_values_1 _, _, meets_dict_values (mixKind X.prog X.w) a lo, ⟨vs, dd⟩, fin⟩)
  rw [hs]
  exact Calls.spliced_cons (thn arg fun u s1 z => Calls.spliced_nil z)⟩
end
end L2

set_option maxHeartbeats 2000000
/-! own: a set comprehension over any kind of members: ob D z is the set at D in the state z, pick what a member makes of it -/
namespace L2
open PySem PySem.Spec PyProof.Rows PpSet
abbrev bareSet (w : World) : Obj := { cls := .type "set", dict := none, data := .set #[] 0 (.fresh 0 0 (!w.params.followText "set-order")) }
structure Members (P : Program) (w : World) (Z : Type) where
  ob : Addr → Z → HO
  nil : Z
  pick : V → Z → Option Z
  born : ∀ (H : Hp) (h : Heap), ObjOk P w H (h.push (bareSet w)) h.objs.size (ob h.objs.size nil)
  more : ∀ (Y : Cx), Y.prog = P → Y.w = w → ∀ (pins : List (Addr × Obj)) (sh : Shared) (τ : St) (H : Hp) (ER : Value → Shared → Prop) (D : Addr) (z z' : Z) (y : V) (v : Value) (R : Value → Shared → Prop), Inv Y pins τ H sh → H D = some (ob D z) → pick y z = some z' → RelV y v →
    (∀ sh', Inv Y pins τ (upd H D (ob D z')) sh' → R .none sh') → wpAny (model Y.prog Y.w) Y.A (call (.builtin "set.add") [.ref D, v]) R ER sh
section
variable {X : Cx} {Z : Type}
def tScM (B : Members X.prog X.w Z) (wi : TI) (g : TG) (tt : TT) (te : TE) (vs : List Nat) : TE := fun σ H Q => wi σ H fun J H1 => ∀ D, H1 D = none → ∃ I : Nat → Nat → Hp → Prop, (∃ m, I 0 m (upd H1 D (B.ob D B.nil))) ∧ ∀ i m H2, I i m H2 →
  (J.stop i H2 ∧ Q (.ref D) H2) ∨ (J.go i H2 ∧ ∃ Nx : Hp → Prop, (∀ H3, Nx H3 → ∃ m', m' < m ∧ I (i + 1) m' H3) ∧ ∀ x H3, J.yld i H2 x H3 → g x (wipe σ vs) H3 fun σ4 H4 => wipe σ4 vs = wipe σ vs ∧ tt σ4 H4 fun b H5 =>
    if b = true then te σ4 H5 fun y H6 => ∃ z z', H6 D = some (B.ob D z) ∧ B.pick y z = some z' ∧ Nx (upd H6 D (B.ob D z')) else Nx H5)
variable {elt tg iter : Expr} {ifs : List Expr} {scope : Scope} {own : List (PySem.Str × Nat)} {pos : Pos} {wi : TI} {g : TG} {tt : TT} {te : TE}
theorem pe_scM (B : Members X.prog X.w Z) (hc : X.calm = true) (hN : X.N.Nodup) (hi : PI X tg iter wi) (ok : BlkOk X.N X.env.scope scope own)
    (hg : ∀ (sh : Shared) (H : Hp) (C : Addr) (cl : List (PySem.Str × Addr)) (fp : List Addr), PG (X.blk sh H scope (compEnvC scope cl C X.env) fp) tg g) (ht : ∀ (sh : Shared) (H : Hp) (C : Addr) (cl : List (PySem.Str × Addr)) (fp : List Addr), PTs (X.blk sh H scope (compEnvC scope cl C X.env) fp) ifs tt)
    (he : ∀ (sh : Shared) (H : Hp) (C : Addr) (cl : List (PySem.Str × Addr)) (fp : List Addr), PE (X.blk sh H scope (compEnvC scope cl C X.env) fp) elt te) (hs : ∀ x, foldedSetIterable iter X.env x = pure x := by intro _; rfl) :
    PE X (.SetComp elt [⟨tg, iter, ifs, 0⟩] scope pos) (tScM B wi g tt te (own.map (·.2))) := ⟨fun pins s σ H Q I h => by
  rw [eval_SetComp]
  have caught : ∀ y ∈ scope.names, y.2 = .free → ∃ c, X.env.cells.lookup y.1 = some c := fun y hy e => (ok.free y hy e).elim (fun k => I.ok.has _ (.inl k)) fun k => I.ok.has _ (.inr k)
  refine wpAny_comprehension_free (use := none) rfl hs (closure_ok caught) ok.kind (fun y hy e => by rw [ok.uniq y hy, e]) (thn (hi.run pins s σ H _ I h) fun xv s1 hx => thn hx fun itv s2 got => ?_)
  obtain ⟨it, fp, tn, J, H2, rfl, I2, T, st2, f2, q⟩ := got
  refine newSet_ok (newEnv_comp ?_)
  generalize hD : s2.heap.objs.size = D
  have dn : H2 D = none := I2.hok.fresh (Nat.le_of_eq hD)
  obtain ⟨W, ⟨m0, w0⟩, turn⟩ := q D dn
  have size2 : ∀ b ∈ fp, b < s2.heap.objs.size := fun b hb => by obtain ⟨o, e, _⟩ := T.obj _ _ st2 b hb; exact Heap.lt_size e
  obtain ⟨s3, e3⟩ : ∃ s3 : Shared, s3 = { s2 with heap := s2.heap.push (bareSet X.w) } := ⟨_, rfl⟩
  obtain ⟨H3, eH⟩ : ∃ H3 : Hp, H3 = upd H2 D (B.ob D B.nil) := ⟨_, rfl⟩
  have I3 : Inv X pins σ H3 s3 := by
    rw [e3, eH]
    refine I2.laid (t' := s2.toks) (fun b o e => Heap.get?_push_of_some _ e) (Nat.le_of_eq hD) ?_
    rw [← hD]
    exact B.born _ _
  have h3 : s3.heap = s2.heap.push (bareSet X.w) := by rw [e3]
  have f3 : ∀ b ∈ fp, FpOk X pins H3 b ∧ b < s3.heap.objs.size := fun b hb => by
    have lt := size2 b hb
    refine ⟨⟨?_, (f2 b hb).2⟩, by rw [h3, Heap.size_push]; exact Nat.lt_succ_of_lt lt⟩
    rw [eH, upd_ne (by rw [← hD]; exact Nat.ne_of_lt lt)]
    exact (f2 b hb).1
  have st3 : tn 0 s3.heap := T.keep _ _ _ st2 fun b _ o e => by rw [h3]; exact Heap.get?_push_of_some _ e
  have I4 := block_start I3 ok hN f3
  have pg := hg s3 H3 s3.heap.objs.size (cellsFrom (s3.heap.objs.size + 1) scope.names (cloFrom X.env.cells scope.names [])) fp
  have pt := ht s3 H3 s3.heap.objs.size (cellsFrom (s3.heap.objs.size + 1) scope.names (cloFrom X.env.cells scope.names [])) fp
  have pe := he s3 H3 s3.heap.objs.size (cellsFrom (s3.heap.objs.size + 1) scope.names (cloFrom X.env.cells scope.names [])) fp
  rw [← e3]
  rw [← eH] at w0
  show codeAny _ _ (.compStart (.SetComp elt [⟨tg, iter, ifs, 0⟩] scope pos) 0 (.ref it) (.ref D) (compEnvC scope (cellsFrom (s3.heap.objs.size + 1) scope.names (cloFrom X.env.cells scope.names [])) s3.heap.objs.size X.env)) (compPost (model X.prog X.w) X.A X.xe none _ (.ref D) s3.heap.objs.size) _
  generalize ce0 : compEnvC scope (cellsFrom (s3.heap.objs.size + 1) scope.names (cloFrom X.env.cells scope.names [])) s3.heap.objs.size X.env = ce at I4 pg pt pe ⊢
  have ceL : ce.locals = s3.heap.objs.size := by rw [← ce0]; rfl
  obtain ⟨s4, e4⟩ : ∃ s4 : Shared, s4 = { s3 with heap := pushCells (s3.heap.push { cls := .type "dict", data := .dict #[] }) scope.names } := ⟨_, rfl⟩
  have I4' : Inv (X.blk s3 H3 scope ce fp) [] (wipe σ (own.map (·.2))) H3 s4 := by rw [e4]; exact I4
  have st4 : tn 0 s4.heap := T.keep _ _ _ st3 fun b _ o e => by rw [e4]; exact pushCells_keeps _ _ _ _ (Heap.get?_push_of_some _ e)
  have fpB : ∀ {τ : St} {H' : Hp} {s' : Shared}, Inv (X.blk s3 H3 scope ce fp) [] τ H' s' → (∀ b ∈ fp, H' b = none) → ∀ b ∈ fp, FpOk (X.blk s3 H3 scope ce fp) [] H' b := fun {τ H' s'} J n b hb =>
    ⟨n b hb, (J.ok.exf b hb).1, J.ok.exfs b hb, .inl hb, fun x c e => (J.ok.exf b hb).2 x c e, fun p hp => nomatch hp⟩
  have loop : codeAny (model X.prog X.w) X.A (.compLoop (.SetComp elt [⟨tg, iter, ifs, 0⟩] scope pos) 0 (.ref it) (.ref D) ce) (compPost (model X.prog X.w) X.A X.xe none (EP X pins σ Q) (.ref D) s3.heap.objs.size) s4 := by
    refine compLoopS_any (fun n s' => ∃ i H', Inv (X.blk s3 H3 scope ce fp) [] (wipe σ (own.map (·.2))) H' s' ∧ tn i s'.heap ∧ (∀ b ∈ fp, H' b = none) ∧ W i n H') ?_ m0 ⟨0, H3, I4', st4, fun b hb => (f3 b hb).1.1, w0⟩
    rintro n s5 ⟨i, H5, I5, st5, n5, w5⟩
    rcases turn i n H5 w5 with ⟨stop, done⟩ | ⟨go, Nx, hNx, step⟩
    · refine thnF (T.done (X.blk s3 H3 scope ce fp) rfl rfl rfl hc i [] s5 _ H5 (fun _ _ => False) I5 (fpB I5 n5) st5 stop) fun r s6 z => ?_
      obtain ⟨rfl, I6⟩ := z
      have I7 : Inv X pins σ H5 s6 := I3.call' (ch := fp) I6.os I6.base I6.hok I6.bare fun b hb => let u := (f3 b hb).1.2; ⟨u.2.2.1, u.1, u.2.2.2.1, u.2.2.2.2⟩
      have loc0 : H5 s3.heap.objs.size = none := by have u : H5 ce.locals = none := I6.free; rw [ceL] at u; exact u
      obtain ⟨m, ns, _⟩ := I6.loc
      have ns' : s6.heap.Ns ce.locals m := ns
      rw [ceL] at ns'
      refine ⟨m, ns', fun h'' sb => ?_⟩
      obtain ⟨g0, g1, g2, g3, g4, g5⟩ := I3.fpOk (Nat.le_refl _) loc0
      exact ⟨.ref D, H5, I7.turned (t' := s6.toks) (fun b o hb e => (sb.2 b hb).trans e) g0 g1 g3 g4 g5, rfl, done⟩
    · refine thnF (T.item (X.blk s3 H3 scope ce fp) rfl rfl rfl hc i [] s5 _ H5 (fun _ _ => False) I5 (fpB I5 n5) st5 go) fun r s6 z => ?_
      obtain ⟨u, rfl, z⟩ := z
      refine thnF z fun _ s7 z => ?_
      obtain ⟨x, H7, I7, r7, y7, st7, n7⟩ := z
      refine thnF (pg.run _ s7 _ H7 x u _ (I7.pinned (fpB I7 n7) (T.obj _ _ st7)) r7 (step x H7 y7)) fun _ s8 z => ?_
      obtain ⟨σ8, H8, I8, w8, q8⟩ := z
      refine thnF (pt.run _ s8 σ8 H8 _ I8 q8) fun b s9 z => ?_
      obtain ⟨H9, I9, q9⟩ := z
      have fin : ∀ {s' : Shared} {H' : Hp}, Inv (X.blk s3 H3 scope ce fp) ([] ++ pinsAt fp s7.heap) σ8 H' s' → Nx H' → ∃ m, m < n ∧ ∃ i H', Inv (X.blk s3 H3 scope ce fp) [] (wipe σ (own.map (·.2))) H' s' ∧ tn i s'.heap ∧ (∀ b ∈ fp, H' b = none) ∧ W i m H' := fun {s' H'} J nx => by
        obtain ⟨m', lt, w'⟩ := hNx H' nx
        have pin : ∀ b ∈ fp, ∀ o, s7.heap.get? b = some o → s'.heap.get? b = some o ∧ H' b = none := fun b hb o e => (J.pin (b, o) (List.mem_append_right _ (List.mem_append_right _ (mem_pinsAt hb e)))).imp id And.left
        refine ⟨m', lt, i + 1, H', (J.unpinned (pins := [])).weak (by rw [← w8, wipe_length]) (fun j v e => by rw [← w8] at e; exact (wipe_some e).1), T.keep _ _ _ st7 fun b hb o e => (pin b hb o e).1, fun b hb => ?_, w'⟩
        obtain ⟨o, e, _⟩ := T.obj _ _ st7 b hb
        exact (pin b hb o e).2
      cases b with
      | false => exact fin I9 q9
      | true =>
        refine thnF (pe.run _ s9 σ8 H9 _ I9 q9) fun v s10 z => ?_
        obtain ⟨yv, H10, I10, r10, za, zb, at10, pk, nx⟩ := z
        exact B.more (X.blk s3 H3 scope ce fp) rfl rfl _ _ _ _ _ D za zb yv v _ I10 at10 pk r10 fun s11 I11 => fin I11 nx
  rw [← e4]
  exact codeAny_compStart_set loop (T.self X.A 0 _ _ _ st4 loop)⟩
end
end L2

/-! own: set(xs) of a list of ints -/
namespace AS
open PySem PySem.Spec PyProof.Rows L2
section
variable {P : Program} {w : World} {A : Around} {E : Value → Shared → Prop} {s : Shared}
set_option maxHeartbeats 3200000 in
/-- set(xs), a list of ints -/
theorem call_setI {l : Addr} {its : Array Value} {xs : List Int} {Q : Value → Shared → Prop} (hh : A.handled = none) (hl : s.heap.IsList l its) (hi : IntsAre its.toList xs) (few : xs.length + 1 < scanBound)
    (fin : ∀ (h2 : Heap) (tk : Nat) (c : Nat), c ≤ xs.length → SetR w h2 s.heap.objs.size (fun j => decide (j ∈ xs)) c → (∀ b o, b < s.heap.objs.size → s.heap.get? b = some o → h2.get? b = some o) → Q (.ref s.heap.objs.size) { s with heap := h2, toks := tk }) :
    wpAny (model P w) A (call (.type "set") [.ref l]) Q E s := by
  have f1 := F.called_set.made
  have f2 := F.called_set.sub
  have f3 := F.called_set.notType
  have f4 := F.called_set.canCreate
  have f5 := F.typeCall_set_1 (.ref l)
  obtain ⟨c, tl, f6⟩ := F.called_set.mro
  refine wpAny_call (codeAny_of_tree (wpAny_pure ⟨Code.quiet_builtin _ (by decide +kernel), codeAny_builtin F.entry_type_call ?_⟩))
  rw [Around.under_plain (weight_type_call_type "set" [.ref l] []) rfl]
  repeat (any_goals (first | assumption | wp_step))
  refine codeAny_mono (made (.ref l) (E := E) (q := fun x z => x = .ref s.heap.objs.size ∧ z = { s with heap := s.heap.push (bare w) }) ⟨rfl, rfl⟩) fun r z hr => ?_
  match r, hr with
  | .error e, hr => exact hr
  | .ok (.ret x), ⟨e1, e2⟩ =>
    subst e1 e2
    have at0 : (s.heap.push (bare w)).get? s.heap.objs.size = some (bare w) := Heap.get?_push_size _ rfl
    have ty : Shared.TypeIs { s with heap := s.heap.push (bare w) } (.ref s.heap.objs.size) "set" := ⟨_, at0, rfl⟩
    have g1 := F.called_set.init.lookup
    have g2 := F.called_set.init.bind (.ref s.heap.objs.size)
    repeat (any_goals (first | assumption | wp_step))
    refine codeAny_mono (codeAny_call_builtin (R := wants (fun r y => r = .none ∧ ∃ h2 tk c, y = { s with heap := h2, toks := tk } ∧ c ≤ xs.length ∧ SetR w h2 s.heap.objs.size (fun j => decide (j ∈ xs)) c ∧ ∀ b o, b < s.heap.objs.size → s.heap.get? b = some o → h2.get? b = some o) E)
      F.called_set.init.plain F.entry_set_init (check_set_init_1 ty ?_)) fun r y hr => ?_
    · obtain ⟨ol, hol, hcl, nl, hdl⟩ := hl
      obtain ⟨k1, k2, k3, k4⟩ := ol
      dsimp only at hcl hdl
      subst hcl hdl
      have sl : (s.heap.push (bare w)).IsList l its := ⟨_, Heap.get?_push_of_some _ hol, rfl, nl, rfl⟩
      have hol2 := Heap.get?_push_of_some (bare w) hol
      have t1 := F.sub_list_set
      have t2 := F.sub_list_frozenset
      have t3 : (Value.type "list" == Value.type "dict") = false := by decide
      unfold Builtin.«set.__init__» noKeywords Builtin.Frozenset.updateFrom
      generalize hPI : pyIter = PI
      wp_walk
      subst hPI
      refine wpAny_pyIter_list sl ?_
      have lt := Heap.lt_size hol
      have sz : (s.heap.push (bare w)).objs.size = s.heap.objs.size + 1 := Heap.size_push _ _
      have n1 : l ≠ (s.heap.push (bare w)).objs.size := by rw [sz]; exact Nat.ne_of_lt (Nat.lt_succ_of_lt lt)
      have n2 : s.heap.objs.size ∉ [(s.heap.push (bare w)).objs.size, l] := fun z => by
        rcases List.mem_cons.mp z with z | z
        · rw [sz] at z; exact absurd z (Nat.ne_of_lt (Nat.lt_succ_self _))
        · exact absurd (List.mem_singleton.mp z) (Nat.ne_of_gt lt)
      have len : its.size = xs.length := by rw [← Array.length_toList]; exact IntsAre.length hi
      have calm : A.in1.in1.in1.handled = none := by
        show A.handled = none
        exact hh
      refine wpAny_bind (wpAny_runValue ?_)
      refine set_update_ints ((Walks.list calm _ l n1 its).toS) s.heap.objs.size n2 xs len few (fun i v e => by
        obtain ⟨k, t, h1, h2⟩ := IntsAre.at hi i v (by rw [Array.getElem?_toList]; exact e)
        exact ⟨k, t, h2, h1⟩) (its.size - 0) 0 _ rfl (Nat.zero_le _) ⟨⟨_, Heap.get?_push_size _ rfl, rfl, rfl⟩, sl.push _⟩ ?_ ?_
      · have R0 := (setR_fresh (h := s.heap) w)
        have e0 : (fun j : Int => decide (j ∈ xs.take 0)) = fun _ => false := funext fun j => by rw [List.take_zero]; exact decide_eq_false List.not_mem_nil
        rw [e0]
        exact ⟨0, Nat.le_refl _, SetR.at R0 fun o e => Heap.get?_push_of_some _ e⟩
      · intro y c mv m hS
        rw [len] at m
        have c1 : y.gens = s.gens := mv.gens
        have c2 : y.drawn = s.drawn := mv.drawn
        have c3 : y.os = s.os := mv.os
        have old : ∀ b o, b < s.heap.objs.size → s.heap.get? b = some o → y.heap.get? b = some o := fun b o lb e => mv.heap b o (fun z => by
          rcases List.mem_cons.mp z with z | z
          · exact absurd z (Nat.ne_of_lt lb)
          · have z := List.mem_singleton.mp z
            rw [sz] at z
            exact absurd z (Nat.ne_of_lt (Nat.lt_succ_of_lt lb))) (Heap.get?_push_of_some _ (Heap.get?_push_of_some _ e))
        refine wpAny_pure (wpAny_pure ⟨rfl, y.heap, y.toks, c, ?_, m, hS, old⟩)
        obtain ⟨y1, y2, y3, y4, y5⟩ := y
        dsimp only at c1 c2 c3 ⊢
        rw [c1, c2, c3]
    · match r, hr with
      | .error e, hr => exact hr
      | .ok (.ret x), ⟨e1, h2, tk, ks, e2, k1, k2, k3⟩ =>
        subst e1 e2
        repeat (any_goals (first | assumption | wp_step))
        exact fin h2 tk ks k1 k2 k3
end
end AS
namespace L2
open PySem PySem.Spec PyProof.Rows
def rSetI (K : PySem.W.Frag) (w : World) : List V → Hp → VK → Prop := fun xs H Q => ∃ (l : Addr) (ns : List Int), xs = [V.ref l] ∧ SqL K H l (ns.map V.int) ∧ ns.length + 1 < scanBound ∧
  ∀ (a : Addr) (c : Nat), H a = none → c ≤ ns.length → Q (.ref a) (upd H a (SetO w a (fun j => decide (j ∈ ns)) c))
theorem cr_setI {X : Cx} (hc : X.calm = true) : CallR X (.type "set") (rSetI X.K X.w) := by
  intro pins s σ H xs us Q I r h
  obtain ⟨l, ns, rfl, hl, few, q⟩ := h
  rw [Vals.ref1 r]
  obtain ⟨its, rv, pl, hz⟩ := I.list hl
  refine AS.call_setI (P := X.prog) (w := X.w) (I.ok.hd hc) pl.isList (by simpa using ints_vals rv) few fun h2 tk c hcl R k => ?_
  exact ⟨.ref s.heap.objs.size, upd H s.heap.objs.size (SetO X.w s.heap.objs.size (fun j => decide (j ∈ ns)) c), I.laid (t' := tk) (fun b o e => k b o (Heap.lt_size e) e) (Nat.le_refl _) (setO_new R), rfl, q _ c (I.hok.fresh (Nat.le_refl _)) hcl⟩
end L2

set_option maxHeartbeats 2000000
/-! own: t[:0:-1] of a tuple -/
namespace HT
open PySem PySem.Spec PyProof.Rows
theorem fm_congr {α β : Type} {f g : α → Option β} : ∀ {l : List α}, (∀ a ∈ l, f a = g a) → l.filterMap f = l.filterMap g
  | [], _ => rfl
  | a :: l, h => by
    rw [List.filterMap_cons, List.filterMap_cons, h a List.mem_cons_self, fm_congr fun b hb => h b (List.mem_cons_of_mem _ hb)]
section
variable {prog : Program} {w : World} {A : Around} {E : Value → Shared → Prop} {s : Shared}
theorem adjust_tail (n : Nat) : Builtin.Slice.sliceAdjust none (some 0) (-1) (n : Int) = ((n : Int) - 1, min 0 ((n : Int) - 1)) := by
  unfold Builtin.Slice.sliceAdjust
  have h1 : ((-1 : Int) < 0) := by decide
  have h2 : ¬ ((0 : Int) < 0) := by decide
  simp only [h1, h2, if_true, if_false]
theorem places_tail (n : Nat) : Builtin.Slice.slicePlaces ((n : Int) - 1) (min 0 ((n : Int) - 1)) (-1) = n - 1 := by
  unfold Builtin.Slice.slicePlaces
  have h1 : ¬ ((-1 : Int) > 0) := by decide
  have h2 : (- -1 : Int) = 1 := by decide
  simp only [h1, h2, if_false, Int.ediv_one]
  split <;> omega
theorem sliceApplied_tail {sl : Addr} {vl vu vs : Value} {n : Nat} {Q : Int × Int × Nat → Shared → Prop} (hs : s.heap.IsSliceOf sl vl vu vs) (pl : IsPart vl none) (pu : IsPart vu (some 0)) (ps : IsPart vs (some (-1)))
    (h : Q ((n : Int) - 1, -1, n - 1) s) : wpAny (model prog w) A (Builtin.Slice.sliceApplied (.ref sl) (pure (n : Int))) Q E s := by
  obtain ⟨os, hos, hcs, hds⟩ := id hs
  unfold Builtin.Slice.sliceApplied Builtin.Slice.sliceFields
  refine wpAny_bind (wpAny_bind (wpAny_field hos hds (x := vl) rfl (wpAny_bind (wpAny_field hos hds (x := vu) rfl (wpAny_bind (wpAny_field hos hds (x := vs) rfl (wpAny_pure ?_)))))))
  refine wpAny_bind (slicePart_ ps ?_)
  show wpAny _ _ (if ((-1 : Int) == 0) = true then _ else _) _ _ s
  rw [if_neg (by decide)]
  refine wpAny_bind (slicePart_ pl (wpAny_bind (slicePart_ pu (wpAny_bind (wpAny_pure ?_)))))
  show wpAny _ _ (match Builtin.Slice.sliceAdjust none (some 0) (-1) (n : Int) with | (lo, hi) => pure (lo, (-1 : Int), Builtin.Slice.slicePlaces lo hi (-1))) _ _ s
  rw [adjust_tail n]
  show wpAny _ _ (pure ((n : Int) - 1, (-1 : Int), Builtin.Slice.slicePlaces ((n : Int) - 1) (min 0 ((n : Int) - 1)) (-1))) _ _ s
  rw [places_tail]
  exact wpAny_pure h
theorem pick_tail (xs : List Value) : ((List.range (xs.length - 1)).filterMap fun (m : Nat) => xs.toArray[(((xs.length : Nat) : Int) - 1 + (m : Int) * (-1)).toNat]?) = (xs.drop 1).reverse := by
  have e : (fun (m : Nat) => xs.toArray[(((xs.length : Nat) : Int) - 1 + (m : Int) * (-1)).toNat]?) = fun m => xs[xs.length - 1 - m]? := by
    funext m
    have : (((xs.length : Nat) : Int) - 1 + (m : Int) * (-1)).toNat = xs.length - 1 - m := by omega
    rw [this, List.getElem?_toArray]
  rw [e]
  have g : ∀ ys : List Value, ((List.range ys.length).filterMap fun m => ys[m]?) = ys := by
    intro ys
    have h := pick_run ys.toArray 0 ys.length
    rw [List.filterMap_map, List.drop_zero, List.take_of_length_le (Nat.le_refl _)] at h
    refine Eq.trans (fm_congr fun m _ => ?_) h
    show ys[m]? = ys.toArray[0 + m]?
    rw [Nat.zero_add, List.getElem?_toArray]
  have z := g (xs.drop 1).reverse
  rw [List.length_reverse, List.length_drop] at z
  refine Eq.trans (fm_congr fun m hm => ?_) z
  have hm := List.mem_range.mp hm
  rw [List.getElem?_reverse (by rw [List.length_drop]; exact hm), List.length_drop, List.getElem?_drop]
  congr 1
  omega
theorem getItem_tuple_tail {t sl : Addr} {items : List Value} {vl vu vs : Value} {Q : Value → Shared → Prop} (ht : IsTup s.heap t items.toArray) (hs : s.heap.IsSliceOf sl vl vu vs) (pl : IsPart vl none) (pu : IsPart vu (some 0)) (ps : IsPart vs (some (-1)))
    (h : Q (.ref s.heap.objs.size) { s with heap := s.heap.push { cls := .type "tuple", data := .seq (items.drop 1).reverse.toArray } })
    (hsz : items.length ≤ sizeLine) : wpAny (model prog w) A (getItem (.ref t) (.ref sl)) Q E s := by
  have htake : sizeOk (.seq (items.drop 1).reverse.toArray) := by
    show (items.drop 1).reverse.toArray.size ≤ sizeLine
    rw [List.size_toArray, List.length_reverse, List.length_drop]
    omega
  obtain ⟨os, hos, hcs, hds⟩ := id hs
  have hTs : s.TypeIs (.ref sl) "slice" := ⟨os, hos, hcs⟩
  unfold getItem
  try with_reducible refine wpAny_holding ?_
  first | refine wpAny_bind (wpAny_pure ?_) | skip
  refine wpAny_bind (wpAny_sequenceKey ht.typeIs (by decide) ?_)
  refine wpAny_bind (wpAny_callSpecial?_slot (name := Str.ofString "__getitem__") ht.typeIs PyProof.Rows.slot_tuple_getitem
    (wpAny_call_entry PyProof.Rows.slot_tuple_getitem ht.typeIs entry_tuple_getitem ?_ (args_tuple_getitem _ _)))
  show wpAny _ _ (Builtin.Tuple.tupleItemsOf (.ref t) >>= _) _ _ s
  refine wpAny_bind (tupleItemsOf_ ht ?_)
  refine wpAny_bind (wpAny_typeOf hTs ?_)
  rw [if_pos (by decide)]
  refine wpAny_bind ?_
  have e1 : ((items.toArray.size : Nat) : Int) = ((items.length : Nat) : Int) := by rw [List.size_toArray]
  rw [e1]
  refine sliceApplied_tail hs pl pu ps ?_
  have hno : ¬ (((((items.length : Nat) : Int) - 1) == 0 && (-1 : Int) == 1 && (items.length - 1) == items.toArray.size) = true) := by
    intro q
    rw [Bool.and_eq_true, Bool.and_eq_true] at q
    exact absurd q.1.2 (by decide)
  show wpAny _ _ (if ((((items.length : Nat) : Int) - 1) == 0 && (-1 : Int) == 1 && (items.length - 1) == items.toArray.size) = true then _ else _) _ _ s
  rw [if_neg hno, pick_tail]
  first
    | exact wpAny_bind (m := Builtin.Tuple.tupleExact _) (wpAny_newObj_type (wpAny_pure ⟨_, rfl, wpAny_pure h⟩) htake)
    | exact wpAny_bind (m := Builtin.Tuple.tupleExact _) (wpAny_newObj_type (wpAny_bind (wpAny_pure (wpAny_pure ⟨_, rfl, wpAny_pure h⟩))) htake)
    | exact wpAny_bind (wpAny_bind (m := Builtin.Tuple.tupleExact _) (wpAny_newObj_type (wpAny_pure (wpAny_pure ⟨_, rfl, wpAny_pure h⟩)) htake))
    | exact wpAny_bind (wpAny_bind (m := Builtin.Tuple.tupleExact _) (wpAny_newObj_type (wpAny_pure ⟨_, rfl, wpAny_pure h⟩) htake))
end
end HT
namespace L2
open PySem PySem.Spec PyProof.Rows
/-- t[:0:-1] -/
def tTailR (K : PySem.W.Frag) (te : TE) : TE := fun σ H Q => te σ H fun x H1 => ∃ a xs, x = .ref a ∧ SqT K H1 a xs ∧ ∀ p, H1 p = none → Q (.ref p) (upd H1 p (.tup (xs.drop 1).reverse))
theorem pe_tailR {X : Cx} {e : Expr} {te : TE} {k j : Nat} {p0 p1 p2 p3 pos : Pos} (he : PE X e te) : PE X (.Subscript e (.Slice none (some (.Constant (.int 0) j p0)) (some (.UnaryOp .USub (.Constant (.int 1) k p1) p2)) p3) pos) (tTailR X.K te) := by
  refine ⟨fun pins s σ H Q I h => ?_⟩
  refine Subscript_ (thn (he.run pins s σ H _ I h) fun v s1 ⟨x, H1, I1, r1, q1⟩ => ?_)
  obtain ⟨a, xs, ex, hx, q⟩ := q1
  subst ex
  cases r1
  have hst : PO X (some (.UnaryOp .USub (.Constant (.int 1) k p1) p2)) (tPart (tUn (rU fun i => .int (-i)) (tC (.int 1)))) := po_some (pe_un un_neg pe_int)
  have hsu : PO X (some (.Constant (.int 0) j p0)) (tPart (tC (.int 0))) := po_some pe_int
  refine wpAny_Slice (thn (po_none.run pins s1 σ H1 (fun o H2 => o = none ∧ H2 = H1) I1 ⟨rfl, rfl⟩) fun vl s2 ⟨l, H2, I2, pl, el, e2⟩ => ?_)
  subst el e2
  refine thn (hsu.run pins s2 σ H2 (fun o H3 => o = some 0 ∧ H3 = H2) I2 ⟨0, rfl, rfl, rfl⟩) fun vu s3 ⟨u, H3, I3, pu, eu, e3⟩ => ?_
  subst eu e3
  refine thn (hst.run pins s3 σ H3 (fun o H4 => o = some (-1) ∧ H4 = H3) I3 ⟨1, rfl, -1, rfl, rfl, rfl⟩) fun vs s4 ⟨o, H4, I4, ps, eo, e4⟩ => ?_
  subst eo e4
  have I5 : Inv X pins σ H4 { s4 with heap := s4.heap.push { cls := .type "slice", data := .fields #[vl, vu, vs] } } := I4.kept (t' := s4.toks) fun b ob q => Heap.get?_push_of_some _ q
  obtain ⟨its, r, ht, hz⟩ := I5.tuple hx
  have hlen := r.length
  show wpAny (model X.prog X.w) X.A (subscriptTail e (.Slice none (some (.Constant (.int 0) j p0)) (some (.UnaryOp .USub (.Constant (.int 1) k p1) p2)) p3) (.ref a) (.ref s4.heap.objs.size)) (EP X pins σ Q) X.xe { s4 with heap := s4.heap.push { cls := .type "slice", data := .fields #[vl, vu, vs] } }
  refine tail_any (ops := [.ref a, .ref s4.heap.objs.size]) ht.typeIs (PyProof.Rows.slot_tuple_getitem.lookup) ?_ (by with_unfolding_all rfl)
  refine HT.getItem_tuple_tail ht (Heap.IsSliceOf.new _ vl vu vs) pl pu ps ?_ (by omega)
  refine ⟨.ref _, _, I5.laid (t' := s4.toks) (o := .tup (xs.drop 1).reverse) (fun b ob q => Heap.get?_push_of_some _ q) (Nat.le_refl _) ?_, rfl, q _ (I5.hok.fresh (Nat.le_refl _))⟩
  exact ⟨by rw [List.length_reverse, List.length_drop]; omega, _, (r.drop 1).reverse, IsTup.new _ _⟩
end L2

/-! own: enumerate of a tuple; a text times an int -/
namespace EN
open PySem PySem.Spec PyProof.Rows L2
/-- a tuple's iterator as a source of draws -/
theorem src_tup {prog : Program} {w : World} {A : Around} (nh : A.handled = none) (it t : Addr) (ne : t ≠ it) (vs : Array Value) :
    Draws prog w A it [it, t] vs.size (fun k v => vs[k]? = some v) (fun k hp => hp.IsTupleIter it t k ∧ hp.IsTuple t vs) := by
  refine ⟨fun _ _ u => ?_, fun _ _ _ u stay => ?_, fun k sh R ER lt u go => ?_, fun sh R ER u go => ?_⟩
  · obtain ⟨⟨ob, e, _⟩, _⟩ := u; exact ⟨ob, e⟩
  · exact ⟨u.1.at (stay it List.mem_cons_self), u.2.at (stay t (by simp))⟩
  · have here : vs[k]? = some vs[k] := Array.getElem?_eq_getElem lt
    exact RZ.nextOf_tuple_item u.1 u.2 here fun hp' n1 n2 => go vs[k] hp' sh.toks here ⟨n1, u.2.extBut n2.extBut ne⟩ n2
  · exact RZ.nextOf_tuple_end nh u.1 u.2 (Array.getElem?_eq_none (Nat.le_refl _)) go
set_option maxHeartbeats 1000000 in
theorem new_enumT (t : Addr) (vs : Array Value) : Meets (Builtin.«enumerate.__new__» ⟨[.type "enumerate", .ref t], []⟩) (fun _ R sh => sh.heap.IsTuple t vs ∧
    R (.ok (.ret (.ref (sh.heap.push { cls := .type "tuple_iterator", data := .fields #[.ref t, .int 0 0] }).objs.size))) { sh with heap := (sh.heap.push { cls := .type "tuple_iterator", data := .fields #[.ref t, .int 0 0] }).push { cls := .type "enumerate", data := .fields #[.none, .bool false, .ref sh.heap.objs.size, rawInt 0, .none, .none] } }) :=
  .of_wp fun prog w A R sh u => by
    obtain ⟨hp, gg, dd, tt, oo⟩ := sh
    obtain ⟨isT, u⟩ := u
    have isT' : Heap.IsTuple (Shared.heap ⟨hp, gg, dd, tt, oo⟩) t vs := isT
    obtain ⟨ob, e1, e2, n, e3⟩ := id isT
    have sub := sub_enumerate
    wp_walk using AutoSeq1.wpAny_loadPart' e1
    refine wpAny_stack_any fun st => wpAny_pure ?_
    split
    · rename_i c _ _ _ _ _
      cases c == Value.type "enumerate"
      all_goals (wp_walk using AutoSeq1.wpAny_loadPart' e1, wpAny_pyIter_tuple isT')
      all_goals exact ⟨_, rfl, u⟩
    · wp_walk using AutoSeq1.wpAny_loadPart' e1, wpAny_pyIter_tuple isT'
      exact ⟨_, rfl, u⟩
theorem make_enumT {prog : Program} {w : World} {A : Around} {ER : Value → Shared → Prop} {sh : Shared} {t : Addr} {vs : Array Value} {R : Value → Shared → Prop} (isT : sh.heap.IsTuple t vs)
    (go : ∀ hp', IsEnum hp' (sh.heap.objs.size + 1) sh.heap.objs.size 0 .none → hp'.IsTupleIter sh.heap.objs.size t 0 → (∀ c ob, sh.heap.get? c = some ob → hp'.get? c = some ob) → R (.ref (sh.heap.objs.size + 1)) { sh with heap := hp' }) :
    wpAny (model prog w) A (call (.type "enumerate") [.ref t]) R ER sh := by
  refine callType_new F.called_enumerate (by decide) (F.typeCall_enumerate_1 _) (F.newCall_enumerate_1 _) (fun ob => F.args_object_init_2 ob _) F.entry_enumerate_new (new_enumT t vs) ⟨isT, ?_⟩
  have z : (sh.heap.push { cls := .type "tuple_iterator", data := .fields #[.ref t, .int 0 0] }).objs.size = sh.heap.objs.size + 1 := Heap.size_push ..
  have z2 := Heap.get?_push_size (sh.heap.push { cls := .type "tuple_iterator", data := .fields #[.ref t, .int 0 0] }) (o := { cls := .type "enumerate", data := .fields #[.none, .bool false, .ref sh.heap.objs.size, rawInt 0, .none, .none] }) rfl
  rw [z] at z2
  show _ ∧ _
  rw [z]
  exact ⟨⟨_, z2, rfl⟩, go _ z2 ⟨_, Heap.get?_push_of_some _ (Heap.get?_push_size _ rfl), rfl, rfl⟩ fun c ob q => Heap.get?_push_of_some _ (Heap.get?_push_of_some _ q)⟩
/-- the tuple at a, each item in a new pair with its number -/
def ItEn (K : PySem.W.Frag) (a : Addr) : It :=
  ⟨fun k H => ∃ (vs : List V) (v : V), SqT K H a vs ∧ vs[k]? = some v, fun k H u H' => ∃ T v, u = .ref T ∧ H T = none ∧ H' = upd H T (.tup [.int (k : Nat), v]) ∧ ∀ vs, SqT K H a vs → vs[k]? = some v, fun k H => ∃ vs : List V, SqT K H a vs ∧ vs.length ≤ k⟩
theorem apart {hp : Heap} {x y : Addr} {ob : Obj} {n m : String} (e : hp.get? x = some ob) (c : ob.cls = .type n) (u : ∃ ob2, hp.get? y = some ob2 ∧ ob2.cls = .type m) (d : n ≠ m) : x ≠ y := by
  rintro rfl
  obtain ⟨ob2, e2, c2⟩ := u
  rw [e] at e2
  cases e2
  rw [c] at c2
  exact d (Value.type.inj c2)
theorem turn_en {P : Program} {w : World} {K : PySem.W.Frag} {es : List Expr} {kk : Nat} {tp : Pos} (a e it : Addr) :
    Turn P w K (.Tuple es kk tp) (ItEn K a) [e, it] e (fun k hp => (∃ old, IsEnum hp e it ((k : Nat) : Int) old) ∧ hp.IsTupleIter it a k) where
  mem := List.mem_cons_self
  obj := fun k hp u b hb => by
    obtain ⟨⟨old, h1⟩, ob, h2, h3, h4⟩ := u
    rcases List.mem_cons.mp hb with q | q
    · subst q; exact ⟨_, h1, fun v z => nomatch z⟩
    · cases List.mem_singleton.mp q; exact ⟨ob, h2, fun v z => by rw [h4] at z; cases z⟩
  keep := fun k hp hp' u stay => ⟨u.1.imp fun old q => stay e List.mem_cons_self _ q, u.2.at (stay it (by simp))⟩
  self := fun A k sh R ER u go => wpAny_pyIter_enum u.1.choose_spec go
  item := by
    intro X hP hw hK hc k pins sh σ H ER I free u g
    subst hP hw hK
    obtain ⟨⟨old, h1⟩, h2⟩ := u
    obtain ⟨vs, v, q, hv⟩ := g
    obtain ⟨its, rv, isT, _⟩ := I.tuple q
    obtain ⟨o2, e2, c2, d2⟩ := id h2
    obtain ⟨o3, e3, c3, n3, d3⟩ := id isT
    have n1 : e ≠ it := apart h1 rfl ⟨o2, e2, c2⟩ (by decide)
    have n2 : e ≠ a := apart h1 rfl ⟨o3, e3, c3⟩ (by decide)
    have n4 : a ≠ it := apart e3 c3 ⟨o2, e2, c2⟩ (by decide)
    obtain ⟨u, hu, ru⟩ := rv.get hv
    have hk : k < its.toArray.size := by rw [List.size_toArray]; exact (List.getElem?_eq_some_iff.mp hu).1
    have l1 : e < sh.heap.objs.size := Heap.lt_size h1
    have l2 : it < sh.heap.objs.size := Heap.lt_size e2
    refine wpAny_pyNext_enum_itemD (src_tup (A := X.A.in1) (I.ok.hd hc) it a n4 its.toArray) h1 ⟨h2, isT⟩ hk n1 (by simp [n1, n2]) fun u' h' tk hu' out st' hT _ stay => ?_
    have eu : u' = u := by
      have z : its.toArray[k]? = some u := by simpa using hu
      exact Option.some.inj (hu'.symm.trans z)
    subst eu
    refine ⟨_, rfl, wpAny_letOwnedTupleGo_enum (s := { sh with heap := h', toks := tk + 1 }) out fun h'' back sb => ?_⟩
    have hT2 := (sb.2 _ (Nat.ne_of_gt l1)).trans hT
    have new : ObjOk X.prog X.w (upd H sh.heap.objs.size (.tup [.int (k : Nat), v])) h'' sh.heap.objs.size (.tup [.int (k : Nat), v]) := ⟨by show 2 ≤ sizeLine; decide, [.int k tk, u'], .cons ⟨_, rfl⟩ (.cons ru .nil), ⟨_, hT2, rfl, _, rfl⟩⟩
    have J : Inv X pins σ (upd H sh.heap.objs.size (.tup [.int (k : Nat), v])) { sh with heap := h'', toks := tk + 1 } := I.turnedNew (ch := [e, it]) (fun b ob nb z => by
      have w1 : b ≠ e := fun z => nb (z ▸ List.mem_cons_self)
      have w2 : b ≠ it := fun z => nb (by simp [z])
      exact (sb.2 b w1).trans (stay b ob w1 w2 z)) free (Nat.le_refl _) new
    refine ⟨.ref sh.heap.objs.size, _, J, rfl, ⟨_, v, rfl, I.hok.fresh (Nat.le_refl _), rfl, fun ys z => by rw [I.tuple_inj z q]; exact hv⟩, ⟨⟨u', ?_⟩, st'.1.at fun ob z => (sb.2 it n1.symm).trans z⟩, fun b hb => ?_⟩
    · rw [show ((k + 1 : Nat) : Int) = (k : Int) + 1 by omega]; exact back
    · have lb : b < sh.heap.objs.size := by
        rcases List.mem_cons.mp hb with z | z
        · rw [z]; exact l1
        · rw [List.mem_singleton.mp z]; exact l2
      rw [upd_ne (Nat.ne_of_lt lb)]
      exact (free b hb).1
  done := by
    intro X hP hw hK hc k pins sh σ H ER I free u g
    subst hP hw hK
    obtain ⟨⟨old, h1⟩, h2⟩ := u
    obtain ⟨vs, q, hv⟩ := g
    obtain ⟨its, rv, isT, _⟩ := I.tuple q
    obtain ⟨o2, e2, c2, d2⟩ := id h2
    obtain ⟨o3, e3, c3, n3, d3⟩ := id isT
    have n4 : a ≠ it := apart e3 c3 ⟨o2, e2, c2⟩ (by decide)
    have l1 := rv.length
    have hx : its.toArray[k]? = none := by simp; omega
    obtain ⟨f0, f1, f2, f3, f4, f5⟩ := free it (by simp)
    have D : Draws X.prog X.w X.A.in1 it [it, a] 0 (fun _ _ => False) (fun _ hp => hp.IsTupleIter it a k ∧ hp.IsTuple a its.toArray) :=
      ⟨fun _ _ u => ⟨_, u.1.choose_spec.1⟩, fun _ _ _ u stay => ⟨u.1.at (stay it List.mem_cons_self), u.2.at (stay a (by simp))⟩, fun i _ _ _ lt => absurd lt (Nat.not_lt_zero i), fun _ _ _ u go => RZ.nextOf_tuple_end (I.ok.hd hc) u.1 u.2 hx go⟩
    exact wpAny_pyNext_enum_endD D h1 ⟨h2, isT⟩ fun h' eb => ⟨rfl, I.turned (t' := sh.toks) (fun b ob nb z => eb b ob nb z) f0 f1 f3 f4 f5⟩
theorem fresh2 {X : Cx} {pins : List (Addr × Obj)} {σ : L2.St} {H : Hp} {sh : Shared} (I : Inv X pins σ H sh) : ∀ b ∈ [sh.heap.objs.size + 1, sh.heap.objs.size], FpOk X pins H b := fun b hb => by
  have le : sh.heap.objs.size ≤ b := by
    rcases List.mem_cons.mp hb with z | z
    · rw [z]; exact Nat.le_add_right _ _
    · rw [List.mem_singleton.mp z]; exact Nat.le_refl _
  exact I.fpOk le (I.hok.fresh le)
/-- enumerate of a list or of a tuple -/
def iEnA (K : PySem.W.Frag) (ta : TA) : TI := fun σ H R => ta σ H fun vs H1 => ∃ a xs, vs = [.ref a] ∧ ((SqL K H1 a xs ∧ R (Ite K a) H1) ∨ (SqT K H1 a xs ∧ R (ItEn K a) H1))
theorem pi_enA {X : Cx} {e : Expr} {ta : TA} {p pos tp : Pos} {es : List Expr} {kk : Nat} (hg : Gl X "enumerate") (hm : X.mg "enumerate" = none) (ha : PA X [e] ta) (hs : starEach [e] X.env = [(false, eval e X.env)] := by rfl) :
    PI X (.Tuple es kk tp) (.Call (.Name "enumerate" p) [e] [] pos) (iEnA X.K ta) := ⟨fun pins sh σ H R I h => by
  refine Call_ (ld_blt I hg hm boot_enumerate (PyProof.Rows.callWith_type1 (thn (ha.run pos pins sh σ H _ I h) fun us s1 got => ?_) hs rfl))
  obtain ⟨vs, H1, I1, r1, a, xs, rfl, q⟩ := got
  have eu : us = [Value.ref a] := by
    cases r1 with
    | cons r rr => cases rr; cases r; rfl
  subst eu
  rcases q with ⟨q, go⟩ | ⟨q, go⟩
  · obtain ⟨its, rv, isL, _⟩ := I1.list q
    refine call_enumerate_list isL.isList fun h' c1 c2 _ stay => wpAny_pyIter_enum c1 ?_
    have J : Inv X pins σ H1 { s1 with heap := h' } := I1.kept (t' := s1.toks) stay
    exact ⟨_, _, _, _, H1, rfl, J, turn_enum a (s1.heap.objs.size + 1) s1.heap.objs.size, ⟨⟨.none, c1⟩, c2, Nat.succ_ne_self _⟩, fresh2 I1, go⟩
  · obtain ⟨its, rv, isT, _⟩ := I1.tuple q
    refine make_enumT (show s1.heap.IsTuple a its.toArray from isT) fun h' c1 c2 stay => wpAny_pyIter_enum c1 ?_
    have J : Inv X pins σ H1 { s1 with heap := h' } := I1.kept (t' := s1.toks) stay
    exact ⟨_, _, _, _, H1, rfl, J, turn_en a (s1.heap.objs.size + 1) s1.heap.objs.size, ⟨⟨.none, c1⟩, c2⟩, fresh2 I1, go⟩⟩
/-- a text times a number from 0 on -/
def reps (z : Str) (n : Nat) : Str := ⟨(List.replicate n z.cps).foldl (· ++ ·) #[]⟩
def rRepS : R2 := fun x y H Q => ∃ z k, x = .str z ∧ y = .int k ∧ 0 ≤ k ∧ k ≤ 1000 ∧ z.length ≤ 1000 ∧ Q (.str (reps z k.toNat)) H
theorem fits {a b : Nat} (h1 : a ≤ 1000) (h2 : b ≤ 1000) : a * b ≤ 1000000 := Nat.mul_le_mul h1 h2
theorem op_repS {X : Cx} : OpR X (binaryOp .Mult) rRepS := by
  intro pins s σ H x y v u Q I rx ry h
  obtain ⟨z, k, rfl, rfl, h0, h1, h2, q⟩ := h
  obtain ⟨t, rfl⟩ := rx
  obtain ⟨t2, rfl⟩ := ry
  have hz := fits h2 (show k.toNat ≤ 1000 by omega)
  have lenOk : (reps z k.toNat).length ≤ sizeLine := by
    have e : ∀ (n : Nat) (acc : Array Nat), ((List.replicate n z.cps).foldl (· ++ ·) acc).size = acc.size + n * z.cps.size := by
      intro n
      induction n with
      | zero => intro acc; simp
      | succ n ih => intro acc; rw [List.replicate_succ, List.foldl_cons, ih, Array.size_append, Nat.succ_mul]; omega
    have e2 : (reps z k.toNat).length = 0 + k.toNat * z.length := e k.toNat #[]
    have hl : (1000000 : Nat) ≤ sizeLine := by decide
    rw [e2, Nat.zero_add, Nat.mul_comm]
    omega
  refine P.mul_str ?_ (fun hn _ => ?_) (fun _ _ => ?_) ?_
  · have a1 : ¬ k < -(2 ^ 63) := by omega
    have a2 : ¬ k ≥ 2 ^ 63 := by omega
    rw [decide_eq_false a1, decide_eq_false a2]; rfl
  · have a3 : (2 ^ 63 - 1) / k ≥ (2 ^ 63 - 1) / 1000 := by
      have : (2 ^ 63 - 1) / k * k + (2 ^ 63 - 1) % k = 2 ^ 63 - 1 := Int.ediv_mul_add_emod ..
      have hm : (2 ^ 63 - 1) % k < k := Int.emod_lt_of_pos _ (by omega)
      by_cases hq : (2 ^ 63 - 1) / k ≥ (2 ^ 63 - 1) / 1000
      · exact hq
      · exfalso
        have b1 : (2 ^ 63 - 1) / k ≤ (2 ^ 63 - 1) / 1000 - 1 := by omega
        have b2 : (2 ^ 63 - 1) / k * k ≤ ((2 ^ 63 - 1) / 1000 - 1) * 1000 := by
          have c1 : 0 ≤ (2 ^ 63 - 1) / k := Int.ediv_nonneg (by decide) h0
          calc (2 ^ 63 - 1) / k * k ≤ (2 ^ 63 - 1) / k * 1000 := Int.mul_le_mul_of_nonneg_left h1 c1
            _ ≤ _ := Int.mul_le_mul_of_nonneg_right b1 (by decide)
        omega
    omega
  · exact Bool.eq_false_iff.mpr fun hc => by
      have hl : (1000000 : Nat) ≤ sizeLine := by decide
      have hc : decide (z.length * k.toNat > sizeLine) = true := hc
      have := of_decide_eq_true hc
      omega
  · by_cases c1 : k < 1
    · rw [if_pos c1]
      have e : k = 0 := by omega
      subst e
      exact ⟨by decide, .str (reps z 0), H, I.tok _, ⟨_, rfl⟩, q⟩
    · rw [if_neg c1]
      by_cases c2 : (k == 1 || z.length == 0) = true
      · rw [if_pos c2]
        have e : reps z k.toNat = z := by
          rcases (Bool.or_eq_true _ _).mp c2 with c | c
          · have e1 : k = 1 := by simpa using c
            subst e1
            show (⟨#[] ++ z.cps⟩ : Str) = z
            simp
          · have e2 : z.cps = #[] := Array.eq_empty_of_size_eq_zero (show z.length = 0 by simpa using c)
            have e3 : ∀ n, (List.replicate n (#[] : Array Nat)).foldl (· ++ ·) #[] = #[] := by
              intro n
              induction n with
              | zero => rfl
              | succ n ih => rw [List.replicate_succ, List.foldl_cons]; exact ih
            show (⟨(List.replicate k.toNat z.cps).foldl (· ++ ·) #[]⟩ : Str) = z
            rw [e2, e3, ← e2]
        exact ⟨.str z, H, I, ⟨_, rfl⟩, by rw [e] at q; exact q⟩
      · rw [if_neg c2]
        exact ⟨lenOk, .str (reps z k.toNat), H, I.tok _, ⟨_, rfl⟩, q⟩
end EN

/-! own: promises of defs that are called where no repr is under way (NoG); repr of data -/
namespace GU
open PySem PySem.Spec PyProof.Rows L2
abbrev NoG (A : Around) : Prop := A.guards = some []
structure FnG (P : Program) (w : World) (K : PySem.W.Frag) (mg : Str → Option Value) (base : Heap) (k : Nat) (f : Addr) (fd : FuncData) (ps : List Str) (sp : Sp) : Prop where
  arity : ∀ xs H Q E, sp xs H Q E → xs.length = ps.length
  go : ∀ (A : Around) (out : List Env) (sh : Shared) (H : Hp) (ar : Args) (us : List Value) (xs : List V) (Q : VK) (E : XK), Room k A → NoG A → Env0 P w K mg base A out sh H → BindsTo sh fd ar (ps.zip us) → Vals xs us → sp xs H Q E →
    codeAny (model P w) A (.call (.ref f) ar) (CR CX0 out P w H sh Q E) sh
section
variable {P : Program} {w : World} {K : PySem.W.Frag} {mg : Str → Option Value} {base : Heap} {j k : Nat} {f : Addr} {fd : FuncData} {ps : List Str} {sp : Sp}
theorem FnG.of (F : FnOk P w K mg base CX0 k f fd ps sp) : FnG P w K mg base k f fd ps sp := ⟨F.len, fun A out sh H ar us xs Q E hr _ e b r z => F.run A out sh H ar us xs Q E hr e b r z⟩
theorem FnG.up (F : FnG P w K mg base j f fd ps sp) (h : j ≤ k) : FnG P w K mg base k f fd ps sp := ⟨F.arity, fun A out sh H ar us xs Q E hr => F.go A out sh H ar us xs Q E (hr.mono h)⟩
/-- a def by its body -/
theorem def_G {x qual : Str} {st : Stmt} {N : List Str} (F : Fun K x qual st f fd) (S : FnScope N ps (defScope st)) (ar : ∀ xs H Q E, sp xs H Q E → xs.length = ps.length)
    (body : ∀ (cdv : Value) (A : Around) (out : List Env) (sh : Shared) (H : Hp) (xs : List V) (Q : VK) (E : XK), Room k (A.deeper (envOfC qual (defScope st) sh.heap.objs.size f cdv)) → NoG A → sp xs H Q E →
      ∃ t, PSs (cxOf CX0 P w K mg base N qual (defScope st) f cdv A out sh H E).nox (defBody st) t ∧ t { nx := fun _ H' => Q .non H', rt := Q } (start N xs) H) : FnG P w K mg base (k + 1) f fd ps sp := by
  obtain ⟨oc, od, kV, doc, pm, an, cdv, ct, osl, rfl, found, code⟩ := F.ex
  refine ⟨ar, fun A out sh H args us xs Q E hr ng e0 bd r z => ?_⟩
  have n1 := ar _ _ _ _ z
  have inK : K.In sh.heap := e0.mod.kin.keeps fun c ob q => (e0.bs c ob q).1
  have lim : sh.heap.NoLimit := e0.mod.nolimit.keeps fun c ob q => (e0.bs c ob q).1
  have kinds : ∀ y ∈ ps.zip us, (defScope st).names.lookup y.1 = some .local ∨ ((defScope st).names.lookup y.1 = some .cell ∧ ((cellsFrom (sh.heap.objs.size + 1) (defScope st).names []).lookup y.1).isSome = true) := by
    rintro ⟨n, v⟩ m
    exact (S.par n (List.of_mem_zip m).1).imp id fun q => ⟨q, PySem.W.cellsFrom_some _ _ _ (.inl q)⟩
  refine codeAny_call_function hr.depth (inK _ _ found) rfl S.co S.gen rfl (PySem.W.codeRec_of inK code) (bd _ _ _ _ (wpAny_newFunctionEnv_cells S.kind kinds fun env he s1 at1 => ?_))
  subst he
  obtain ⟨t, th, tq⟩ := body cdv A out sh H xs Q E (hr.deeper _) ng z
  refine ⟨lim.keeps at1.toInCall.keep, codeAny_func (wpAny_mono (th.nox.run [] s1 (start N xs) H _ (inv_start S hr.hd e0 n1 r at1) tq) (fun fl s' got => ?_) fun e s' q => q)⟩
  cases fl with
  | ret u => obtain ⟨v, σ', H', J, rv, q⟩ := got; exact ⟨v, H', J.os, J.bare, J.base, J.hok, rv, q⟩
  | next => obtain ⟨σ', H', J, q⟩ := got; exact ⟨V.non, H', J.os, J.bare, J.base, J.hok, rfl, q⟩
  | brk => exact got.choose_spec.choose_spec.2.elim
  | cont => exact got.choose_spec.choose_spec.2.elim
end
section
variable {X : Cx} {k : Nat} {f : Addr} {fd : FuncData} {ps : List Str} {sp : Sp} {x : Str} {p pos : Pos} {e : Expr} {es : List Expr} {t : TA}
/-- f(e, ..) of such a def -/
theorem pe_callG (F : FnG X.prog X.w X.K X.mg X.base k f fd ps sp) (hr : Room k X.A) (ng : NoG X.A) (hg : Gl X x) (hm : X.mg x = some (.ref f)) (hk : PySem.W.keepIn X.K (.ref f) = true) (hb : Binds X.K fd ps [])
    (ha : PA X (e :: es) t) (hdb : (x == ("__debug__" : Str)) = false := by decide) (he : starEach (e :: es) X.env = (false, eval e X.env) :: starEach es X.env := by rfl) (hpl : (backTo pos (starEach es X.env)).any (·.1) = false := by rfl) :
    PE X (.Call (.Name x p) (e :: es) [] pos) (tCall sp [] (fun _ _ _ => False) t) := ⟨fun pins sh σ H Q I h => by
  refine wpAny_Call_Name_kw (ld_glob I hg hm (PySem.W.callWith_K (h₀ := X.base) I.ok.mod.kin hk (thn (ha.run pos pins sh σ H _ I h) fun us s1 got => ?_) he hpl) hdb)
  obtain ⟨xs, H1, J, r, z⟩ := got
  have z' : sp xs H1 Q (fun _ _ _ => False) := by rw [List.append_nil] at z; exact z
  have n1 : us.length = ps.length := by rw [← r.length]; exact F.arity _ _ _ _ z'
  have bd := hb s1 us J.kIn (by rw [List.append_nil]; exact n1)
  rw [List.append_nil] at bd
  refine ⟨J.kIn, wpAny_call (codeAny_mono (F.go X.A X.stack s1 H1 ⟨us, []⟩ us xs Q _ hr ng J.env0 bd r z') fun res s' q => ?_)⟩
  match res, q with
  | .error _, q => exact q.elim
  | .ok (.ret u), q => exact J.after q
  | .ok .next, q => exact q.elim
  | .ok .brk, q => exact q.elim
  | .ok .cont, q => exact q.elim⟩
/-- repr of data -/
def rRepr (K : PySem.W.Frag) : List V → Hp → VK → Prop := fun xs H Q => ∃ (a : Addr) (d : PyData), xs = [.ref a] ∧ Dp K H (.ref a) d ∧ d.showable = true ∧ d.hasDict = false ∧ d.depth ≤ 64 ∧ d.shown.length ≤ sizeLine ∧ Q (.str d.shown) H
theorem cr_repr (ng : NoG X.A) (hu : X.A.units + 100 < cLine) : CallR X (.builtin "repr") (rRepr X.K) := by
  intro pins sh σ H xs us Q I r h
  obtain ⟨a, d, rfl, dp, h1, h2, h3, h4, q⟩ := h
  obtain ⟨u, rfl, ru⟩ := vals1 r
  cases (show u = Value.ref a from ru)
  obtain ⟨as, rd⟩ := Dp.reads I d _ _ dp ru
  exact repr_of_reads' rd h1 (PyData.noDict_hsm h2) ng (by omega) (fun _ _ e => e) (fun h' v tk stay => ⟨.str d.shown, H, I.kept (t' := tk) stay, ⟨v, rfl⟩, q⟩) h4
end
/-! the end of a law's row by such a promise -/
theorem law_G {P : Program} {w : World} {K : PySem.W.Frag} {mg mb : Str → Option Value} {k : Nat} {fa a : Addr} {fd : FuncData} {x : Str} {sp : Sp} {sh : Shared} {vs : List Value} {ns : List Int} (inK : K.In sh.heap) (gl : sh.heap.Ns mainGlobals mg)
    (bl : sh.heap.Ns builtinsNs mb) (bb : ∀ x : Str, x ≠ "__name__" → mb x = bootBuiltins x) (lim : sh.heap.NoLimit) (ge : sh.gens = #[]) (here : sh.heap.get? a = some { cls := .type "list", data := .seq vs.toArray }) (nums : IntsAre vs ns) (small : ns.length ≤ sizeLine) (hr : Room k callerA)
    (F : ∀ base : Heap, K.In base → base.Ns mainGlobals mg → FnG P w K mg base k fa fd [x] sp) (bind : ∀ (s : Shared) (u : Value), BindsTo s fd ⟨[u], []⟩ [(x, u)])
    (ask : ∀ H : Hp, Only H → SqL K H a (ns.map V.int) → sp [.ref a] H (fun v _ => v = .bl true) fun _ _ _ => False) :
    codeAny (model P w) callerA (.call (.ref fa) ⟨[.ref a], []⟩) (fun r s' => r = .ok (.ret (.bool true)) ∧ OldK sh.heap s'.heap ∧ s'.os = sh.os ∧ AllBare s'.gens) sh := by
  have rel := vals_ints nums
  have nl := nums.length
  obtain ⟨H, only, sq, ok, at1, at2⟩ : ∃ H : Hp, Only H ∧ SqL K H a (ns.map V.int) ∧ HOk P w H sh.heap ∧ (∀ b u, H b = some u → b = a) ∧ ∀ u, H a = some u → K.lookup a = none := by
    cases own : K.lookup a with
    | some ob =>
      have e := here.symm.trans (inK a ob own)
      cases e
      exact ⟨fun _ => none, fun _ => .inl rfl, .inr ⟨_, vs.toArray, _, own, rfl, rfl, rfl, (by rw [List.size_toArray, nl]; exact small), (by simpa using rel)⟩, (fun _ _ z => nomatch z), (fun _ _ z => nomatch z), fun _ z => nomatch z⟩
    | none =>
      have pick : ∀ {b : Addr} {u : HO}, (if b = a then some (HO.frz { cls := .type "list", data := .seq vs.toArray } (.lst (ns.map V.int))) else none) = some u → b = a ∧ u = HO.frz { cls := .type "list", data := .seq vs.toArray } (.lst (ns.map V.int)) := fun {b u} z => by
        split at z
        · exact ⟨by assumption, (Option.some.inj z).symm⟩
        · cases z
      refine ⟨fun b => if b = a then some (.frz { cls := .type "list", data := .seq vs.toArray } (.lst (ns.map V.int))) else none, fun b => ?_, .inl (.inr ⟨_, if_pos rfl⟩), fun b u z => ?_, fun b u z => (pick z).1, fun _ _ => rfl⟩
      · by_cases q : b = a
        · exact .inr ⟨_, _, if_pos q⟩
        · exact .inl (if_neg q)
      · obtain ⟨rfl, rfl⟩ := pick z
        exact ⟨here, by rw [List.length_map]; exact small, vs, _, rel, here⟩
  have free : ∀ {b : Addr} {ob : Obj}, sh.heap.get? b = some ob → (b = a → K.lookup a ≠ none ∨ ∃ es ep, ob.data = .dict es ep) → H b = none := fun {b ob} e c => by
    cases q : H b with
    | none => rfl
    | some u =>
      cases at1 b u q
      rcases c rfl with z | ⟨es, ep, z⟩
      · exact absurd (at2 u q) z
      · rw [here] at e
        cases e
        cases z
  have moved : ∀ {b : Addr} {m : Str → Option Value}, sh.heap.Ns b m → (hidT sh.heap H).Ns b m := fun {b m} ⟨ob, es, ep, e, d, r⟩ => ⟨ob, es, ep, hidT_get e (free e fun _ => .inr ⟨es, ep, d⟩), d, r⟩
  have inB : K.In (hidT sh.heap H) := fun b ob e => hidT_get (inK b ob e) (free (inK b ob e) fun z => .inl (by rw [← z, e]; exact nofun))
  have md : Mod K mg (hidT sh.heap H) := ⟨inB, moved gl, ⟨mb, moved bl, bb⟩, lim.imp fun mc q => ⟨moved q.1, q.2⟩⟩
  have e0 : Env0 P w K mg (hidT sh.heap H) callerA [] sh H := { frames := rfl, mod := md, bs := fun b ob e => of_hidT e, bsz := Nat.le_of_eq (hidT_size _ _), funs := trivial, frf := (fun b hb => absurd (show b ∈ ([] : List Addr) from hb) List.not_mem_nil), hok := ok, bare := .of_eq ge }
  refine codeAny_mono ((F _ inB (moved gl)).go callerA [] sh H ⟨[.ref a], []⟩ [.ref a] [.ref a] _ _ hr rfl e0 (bind sh (.ref a)) (.cons rfl .nil) (ask H only sq)) fun r s' got => ?_
  match r, got with
  | .error _, got => exact got.elim
  | .ok .next, got => exact got.elim
  | .ok .brk, got => exact got.elim
  | .ok .cont, got => exact got.elim
  | .ok (.ret u), got =>
    obtain ⟨v, H', same, bare, un, ok', ru, rfl⟩ := got
    cases (show u = Value.bool true from ru)
    refine ⟨rfl, OldK.of_keep fun b ob e => ?_, same, bare⟩
    cases q : H b with
    | none => exact un.keep b ob e q nofun nofun
    | some u =>
      rcases only b with z | ⟨o2, ys, z⟩
      · rw [q] at z; cases z
      · have w2 := (ok' b _ (un.frzs b o2 _ z)).1
        rw [e.symm.trans (ok b _ z).1]
        exact w2
theorem walk_G {l : PySem.W.OpenLaw} {n k : Nat} {q : Program} {loose : List Str} {XP : (Str → Option Value) → Heap → Prop} {YP : World → Heap → Prop} {d : DefRec} {K : Params → PySem.W.Frag} {sp : World → Sp} {x : Str}
    (most : l.most = some n) (few : n ≤ sizeLine) (dfl : d.params.defaults = []) (hr : Room k callerA) (frag : ∀ (w : World) (h : Heap), YP w h → (K w.params).In h)
    (F : ∀ (w : World) (mg : Str → Option Value) (fa : Addr) (h : Heap), (K w.params).In h → h.Ns mainGlobals mg → mg d.name = some (.ref fa) →
      ∃ fd : FuncData, (∀ (s : Shared) (u : Value), BindsTo s fd ⟨[u], []⟩ [(x, u)]) ∧ ∀ base : Heap, (K w.params).In base → base.Ns mainGlobals mg → FnG l.prog w (K w.params) mg base k fa fd [x] (sp w))
    (ask : ∀ (w : World) (H : Hp) (a : Addr) (ns : List Int), ns.length ≤ n → Only H → SqL (K w.params) H a (ns.map V.int) → sp w [.ref a] H (fun v _ => v = .bl true) fun _ _ _ => False) :
    PySem.W.WalkO q loose XP YP l.row.toRowW d [] (fun f vs => PySem.call f vs) :=
  Att.attach_call most dfl fun w s0 s1 mg mb fa ob pm cd doc a vs ns G Y _ _ _ nm obj nums len ge => by
    obtain ⟨fd, bd, go⟩ := F w mg fa _ (frag w _ Y) G.T.g nm
    exact law_G (frag w _ Y) G.T.g G.T.b G.T.builtins G.T.nolimit ge obj nums (Nat.le_trans len few) hr go bd fun H only sq => ask w H a ns len only sq
end GU

namespace AL
open PySem PySem.Spec L2

/-! The data layer: readings over data (D) and a store of lists and dicts (Sto), above HandS. -/
/-! ### data, store -/
inductive D where
  | non | bl (b : Bool) | int (i : Int) | str (x : Str) | tup (xs : List D) | obj (a : Addr) | fl (xs : List D)
inductive MO where
  | lst (xs : List D)
  | dic (kvs : List (Key × D))
  | raw (o : HO)
  | dif (od : Obj) (ws : List (Key × V)) (kvs : List (Key × D))
abbrev Sto := Addr → Option MO
def up (M : Sto) (a : Addr) (o : MO) : Sto := fun b => if b = a then some o else M b
theorem up_same {M : Sto} {a : Addr} {o : MO} : up M a o a = some o := by unfold up; rw [if_pos rfl]
theorem up_ne {M : Sto} {a b : Addr} {o : MO} (h : b ≠ a) : up M a o b = M b := by unfold up; rw [if_neg h]
theorem up_up {M : Sto} {a : Addr} {o u : MO} : up (up M a o) a u = up M a u := by
  funext b; unfold up; split <;> rfl

/-- what stands at p in the store, in an option: as the readings ask it -/
def lstAt (M : Sto) (p : Addr) (k : List D → Prop) : Prop := match M p with
  | some (.lst ds) => k ds
  | _ => False
def dicAt (M : Sto) (p : Addr) (k : List (Key × D) → Prop) : Prop := match M p with
  | some (.dic ds) => k ds
  | _ => False
def optAt {α : Type} (o : Option α) (k : α → Prop) : Prop := match o with
  | some x => k x
  | none => False
theorem lstAt_ex {M : Sto} {p : Addr} {k : List D → Prop} (h : lstAt M p k) : ∃ ds, M p = some (.lst ds) ∧ k ds := by
  unfold lstAt at h
  split at h
  · exact ⟨_, by assumption, h⟩
  · exact h.elim
theorem dicAt_ex {M : Sto} {p : Addr} {k : List (Key × D) → Prop} (h : dicAt M p k) : ∃ ds, M p = some (.dic ds) ∧ k ds := by
  unfold dicAt at h
  split at h
  · exact ⟨_, by assumption, h⟩
  · exact h.elim
theorem optAt_ex {α : Type} {o : Option α} {k : α → Prop} (h : optAt o k) : ∃ x, o = some x ∧ k x := by
  cases o with
  | none => exact h.elim
  | some x => exact ⟨x, rfl, h⟩
/-- a new list or dict -/
def New (mo : MO) (M : Sto) (Q : D → Sto → Prop) : Prop := ∀ p, M p = none → Q (.obj p) (up M p mo)
/-- a list that never changes (the script) -/
def SqF (K : PySem.W.Frag) (H : Hp) (a : Addr) (xs : List V) : Prop :=
  (∃ o, H a = some (.frz o (.lst xs))) ∨
    ∃ (o : Obj) (its : Array Value) (n : Nat), K.lookup a = some o ∧ o.cls = .type "list" ∧ o.dict = none ∧ o.data = .seq its n ∧ its.size ≤ sizeLine ∧ Vals xs its.toList
theorem SqF.l {K : PySem.W.Frag} {H : Hp} {a : Addr} {xs : List V} (h : SqF K H a xs) : SqL K H a xs := by
  rcases h with ⟨o, h⟩ | h
  · exact .inl (.inr ⟨o, h⟩)
  · exact .inr h
/-- things that never change -/
def Fz : HO → Prop
  | .tup _ => True
  | .frz _ (.dK _) => False
  | .frz _ _ => True
  | _ => False
def Kp (H H' : Hp) : Prop := ∀ a o, Fz o → H a = some o → H' a = some o
theorem Kp.sqT {K : PySem.W.Frag} {H H' : Hp} (k : Kp H H') {a : Addr} {vs : List V} (e : SqT K H a vs) : SqT K H' a vs := by
  rcases e with (e | ⟨u, e⟩) | e
  · exact .inl (.inl (k a _ trivial e))
  · exact .inl (.inr ⟨u, k a _ trivial e⟩)
  · exact .inr e
theorem Kp.sqF {K : PySem.W.Frag} {H H' : Hp} (k : Kp H H') {a : Addr} {vs : List V} (e : SqF K H a vs) : SqF K H' a vs := by
  rcases e with ⟨u, e⟩ | e
  · exact .inl ⟨u, k a _ trivial e⟩
  · exact .inr e
mutual
def Rep (K : PySem.W.Frag) (H : Hp) : D → V → Prop
  | .non, v => v = .non
  | .bl b, v => v = .bl b
  | .int i, v => v = .int i
  | .str x, v => v = .str x
  | .tup ds, v => ∃ a vs, v = .ref a ∧ SqT K H a vs ∧ RepL K H ds vs
  | .obj a, v => v = .ref a
  | .fl ds, v => ∃ a vs, v = .ref a ∧ SqF K H a vs ∧ RepL K H ds vs
def RepL (K : PySem.W.Frag) (H : Hp) : List D → List V → Prop
  | [], vs => vs = []
  | d :: ds, vs => ∃ v r, vs = v :: r ∧ Rep K H d v ∧ RepL K H ds r
end
mutual
theorem Rep.mono {K : PySem.W.Frag} {H H' : Hp} (hT : Kp H H') : ∀ (d : D) (v : V), Rep K H d v → Rep K H' d v
  | .non, _, h => h
  | .bl _, _, h => h
  | .int _, _, h => h
  | .str _, _, h => h
  | .obj _, _, h => h
  | .tup ds, v, h => by
    obtain ⟨a, vs, e, t, r⟩ := h
    exact ⟨a, vs, e, hT.sqT t, RepL.mono hT ds vs r⟩
  | .fl ds, v, h => by
    obtain ⟨a, vs, e, t, r⟩ := h
    exact ⟨a, vs, e, hT.sqF t, RepL.mono hT ds vs r⟩
theorem RepL.mono {K : PySem.W.Frag} {H H' : Hp} (hT : Kp H H') : ∀ (ds : List D) (vs : List V), RepL K H ds vs → RepL K H' ds vs
  | [], _, h => h
  | d :: ds, vs, h => by
    obtain ⟨v, r, e, h1, h2⟩ := h
    exact ⟨v, r, e, Rep.mono hT d v h1, RepL.mono hT ds r h2⟩
end
section
variable {K : PySem.W.Frag} {H H' : Hp}
theorem RepL.length : ∀ {ds : List D} {vs : List V}, RepL K H ds vs → ds.length = vs.length
  | [], _, h => by cases (show _ = [] from h); rfl
  | d :: ds, _, h => by
    obtain ⟨v, r, rfl, _, h2⟩ := h
    rw [List.length_cons, List.length_cons, RepL.length h2]
theorem RepL.get : ∀ {ds : List D} {vs : List V} {i : Nat} {d : D}, RepL K H ds vs → ds[i]? = some d → ∃ v, vs[i]? = some v ∧ Rep K H d v
  | [], _, _, _, _, e => by simp at e
  | d :: ds, _, 0, _, h, e => by
    obtain ⟨v, r, rfl, h1, _⟩ := h
    cases (Option.some.inj e)
    exact ⟨v, rfl, h1⟩
  | d :: ds, _, i + 1, _, h, e => by
    obtain ⟨v, r, rfl, _, h2⟩ := h
    exact RepL.get (i := i) h2 e
theorem RepL.set : ∀ {ds : List D} {vs : List V} (i : Nat) {d : D} {v : V}, RepL K H ds vs → Rep K H d v → RepL K H (ds.set i d) (vs.set i v)
  | [], _, _, _, _, h, _ => by cases (show _ = [] from h); rfl
  | d :: ds, _, 0, _, _, h, q => by
    obtain ⟨v, r, rfl, _, h2⟩ := h
    exact ⟨_, r, rfl, q, h2⟩
  | d :: ds, _, i + 1, _, _, h, q => by
    obtain ⟨v, r, rfl, h1, h2⟩ := h
    exact ⟨v, _, rfl, h1, RepL.set i h2 q⟩
theorem RepL.append : ∀ {ds es : List D} {vs ws : List V}, RepL K H ds vs → RepL K H es ws → RepL K H (ds ++ es) (vs ++ ws)
  | [], _, _, _, h, q => by cases (show _ = [] from h); exact q
  | d :: ds, _, _, _, h, q => by
    obtain ⟨v, r, rfl, h1, h2⟩ := h
    exact ⟨v, _, rfl, h1, RepL.append h2 q⟩
theorem RepL.one {d : D} {v : V} (h : Rep K H d v) : RepL K H [d] [v] := ⟨v, [], rfl, h, rfl⟩
theorem RepL.take : ∀ {ds : List D} {vs : List V} (n : Nat), RepL K H ds vs → RepL K H (ds.take n) (vs.take n)
  | [], _, n, h => by cases (show _ = [] from h); rw [List.take_nil, List.take_nil]; rfl
  | d :: ds, _, 0, h => by rw [List.take_zero, List.take_zero]; rfl
  | d :: ds, _, n + 1, h => by
    obtain ⟨v, r, rfl, h1, h2⟩ := h
    exact ⟨v, _, rfl, h1, RepL.take n h2⟩
theorem RepL.drop : ∀ {ds : List D} {vs : List V} (n : Nat), RepL K H ds vs → RepL K H (ds.drop n) (vs.drop n)
  | [], _, n, h => by cases (show _ = [] from h); rw [List.drop_nil, List.drop_nil]; rfl
  | d :: ds, _, 0, h => h
  | d :: ds, _, n + 1, h => by
    obtain ⟨v, r, rfl, h1, h2⟩ := h
    exact RepL.drop n h2
theorem RepL.reverse : ∀ {ds : List D} {vs : List V}, RepL K H ds vs → RepL K H ds.reverse vs.reverse
  | [], _, h => by cases (show _ = [] from h); rfl
  | d :: ds, _, h => by
    obtain ⟨v, r, rfl, h1, h2⟩ := h
    rw [List.reverse_cons, List.reverse_cons]
    exact RepL.append (RepL.reverse h2) (RepL.one h1)
theorem RepL.getN : ∀ {ds : List D} {vs : List V} {i : Nat} {v : V}, RepL K H ds vs → vs[i]? = some v → ∃ d, ds[i]? = some d ∧ Rep K H d v
  | [], _, _, _, h, e => by cases (show _ = [] from h); simp at e
  | d :: ds, _, 0, _, h, e => by
    obtain ⟨v, r, rfl, h1, _⟩ := h
    cases (Option.some.inj e)
    exact ⟨d, rfl, h1⟩
  | d :: ds, _, i + 1, _, h, e => by
    obtain ⟨v, r, rfl, _, h2⟩ := h
    exact RepL.getN (i := i) h2 e
theorem RepL.dropLast {ds : List D} {vs : List V} (h : RepL K H ds vs) : RepL K H ds.dropLast vs.dropLast := by
  rw [List.dropLast_eq_take, List.dropLast_eq_take, h.length]
  exact h.take _
theorem RepL.strs : ∀ {xs : List Str} {vs : List V}, RepL K H (xs.map D.str) vs → vs = xs.map V.str
  | [], _, h => h
  | x :: xs, _, h => by
    obtain ⟨v, r, rfl, h1, h2⟩ := h
    cases (show v = V.str x from h1)
    rw [RepL.strs h2, List.map_cons]
theorem RepL.of_strs : ∀ (xs : List Str), RepL K H (xs.map D.str) (xs.map V.str)
  | [] => rfl
  | x :: xs => ⟨_, _, rfl, rfl, RepL.of_strs xs⟩
theorem RepL.ints : ∀ {xs : List Int} {vs : List V}, RepL K H (xs.map D.int) vs → vs = xs.map V.int
  | [], _, h => h
  | x :: xs, _, h => by
    obtain ⟨v, r, rfl, h1, h2⟩ := h
    cases (show v = V.int x from h1)
    rw [RepL.ints h2, List.map_cons]
theorem RepL.of_ints : ∀ (xs : List Int), RepL K H (xs.map D.int) (xs.map V.int)
  | [] => rfl
  | x :: xs => ⟨_, _, rfl, rfl, RepL.of_ints xs⟩
end
abbrev RepK (K : PySem.W.Frag) (H : Hp) : List (Key × D) → List (Key × V) → Prop := Paired fun p q => p.1 = q.1 ∧ Rep K H p.2 q.2
def MOk (K : PySem.W.Frag) (H : Hp) (a : Addr) : MO → Prop
  | .lst ds => ∃ vs, H a = some (.lst vs) ∧ RepL K H ds vs
  | .dic kvs => ∃ ws, H a = some (.dK ws) ∧ RepK K H kvs ws
  | .raw o => H a = some o ∧ ¬ Fz o
  | .dif od ws kvs => H a = some (.frz od (.dK ws)) ∧ RepK K H kvs ws
def Abs (K : PySem.W.Frag) (M : Sto) (H : Hp) : Prop := ∀ a mo, M a = some mo → MOk K H a mo
/-- what the names hold -/
abbrev AEnv := List (Option D)
def RepS (K : PySem.W.Frag) (H : Hp) (env : AEnv) (σ : L2.St) : Prop := env.length = σ.length ∧ ∀ (i : Nat) (d : D), env[i]? = some (some d) → ∃ v, σ[i]? = some (some v) ∧ Rep K H d v
/-- a step: all that the store does not know stays -/
structure Tr (K : PySem.W.Frag) (M : Sto) (H : Hp) (M' : Sto) (H' : Hp) : Prop where
  abs : Abs K M' H'
  keep : ∀ b o, H b = some o → M b = none → H' b = some o ∧ M' b = none
section
variable {K : PySem.W.Frag} {M M1 M2 : Sto} {H H1 H2 : Hp}
theorem Tr.refl (h : Abs K M H) : Tr K M H M H := ⟨h, fun _ _ h1 h2 => ⟨h1, h2⟩⟩
theorem Tr.trans (a : Tr K M H M1 H1) (b : Tr K M1 H1 M2 H2) : Tr K M H M2 H2 := ⟨b.abs, fun c o h1 h2 => let ⟨h3, h4⟩ := a.keep c o h1 h2; b.keep c o h3 h4⟩
theorem Abs.fzFree (h : Abs K M H) {a : Addr} {o : HO} (f : Fz o) (e : H a = some o) : M a = none := by
  cases q : M a with
  | none => rfl
  | some mo =>
    have z := h a mo q
    cases mo with
    | lst ds => obtain ⟨ws, z, _⟩ := z; rw [z] at e; cases e; exact f.elim
    | dic ds => obtain ⟨ws, z, _⟩ := z; rw [z] at e; cases e; exact f.elim
    | raw o => rw [z.1] at e; cases e; exact absurd f z.2
    | dif od ws ds => obtain ⟨z, _⟩ := z; rw [z] at e; cases e; exact f.elim
theorem Tr.kp (t : Tr K M H M1 H1) (h : Abs K M H) : Kp H H1 := fun a o f e => (t.keep a o e (h.fzFree f e)).1
theorem Tr.sqT (t : Tr K M H M1 H1) (h : Abs K M H) {a : Addr} {vs : List V} (e : SqT K H a vs) : SqT K H1 a vs := (t.kp h).sqT e
theorem Tr.rep (t : Tr K M H M1 H1) (h : Abs K M H) {d : D} {v : V} (r : Rep K H d v) : Rep K H1 d v := Rep.mono (t.kp h) d v r
theorem Tr.repL (t : Tr K M H M1 H1) (h : Abs K M H) {d : List D} {v : List V} (r : RepL K H d v) : RepL K H1 d v := RepL.mono (t.kp h) d v r
theorem Tr.repS (t : Tr K M H M1 H1) (h : Abs K M H) {env : AEnv} {σ : L2.St} (r : RepS K H env σ) : RepS K H1 env σ :=
  ⟨r.1, fun i d e => let ⟨v, h1, h2⟩ := r.2 i d e; ⟨v, h1, t.rep h h2⟩⟩
/-- a new object -/
theorem Abs.fresh (h : Abs K M H) {p : Addr} (hp : H p = none) : M p = none := by
  cases q : M p with
  | none => rfl
  | some mo =>
    have z := h p mo q
    cases mo with
    | lst ds => obtain ⟨ws, z, _⟩ := z; rw [hp] at z; cases z
    | dic ds => obtain ⟨ws, z, _⟩ := z; rw [hp] at z; cases z
    | raw o => have z1 := z.1; rw [hp] at z1; cases z1
    | dif od ws ds => obtain ⟨z, _⟩ := z; rw [hp] at z; cases z
theorem Kp.new {p : Addr} {o : HO} (hp : H p = none) : Kp H (upd H p o) := fun a u _ e => by rw [upd_ne (ne_of_none e hp)]; exact e
theorem Kp.write (h : Abs K M H) {p : Addr} {o : HO} {m0 : MO} (hp : M p = some m0) : Kp H (upd H p o) := fun a u f e => by
  have n : a ≠ p := fun z => by
    subst z
    rw [h.fzFree f e] at hp
    cases hp
  rw [upd_ne n]
  exact e
theorem Kp.updL {p : Addr} {vs ws : List V} (hp : H p = some (.lst vs)) : Kp H (upd H p (.lst ws)) := fun a u f e => by
  have n : a ≠ p := fun z => by
    subst z
    rw [hp] at e
    cases e
    exact f.elim
  rw [upd_ne n]
  exact e
theorem MOk.mono {H' : Hp} {a : Addr} (ha : ∀ o, H a = some o → H' a = some o) (hT : Kp H H') : ∀ {mo : MO}, MOk K H a mo → MOk K H' a mo
  | .lst ds, ⟨vs, e, r⟩ => ⟨vs, ha _ e, RepL.mono hT ds vs r⟩
  | .dic kvs, ⟨ws, e, r⟩ => ⟨ws, ha _ e, Paired.mapP r fun p q z => ⟨z.1, Rep.mono hT _ _ z.2⟩⟩
  | .raw o, ⟨e, n⟩ => ⟨ha _ e, n⟩
  | .dif od ws kvs, ⟨e, r⟩ => ⟨ha _ e, Paired.mapP r fun p q z => ⟨z.1, Rep.mono hT _ _ z.2⟩⟩
/-- a new tuple (or another thing that the store does not know) -/
theorem Tr.newT (h : Abs K M H) {p : Addr} {o : HO} (hp : H p = none) : Tr K M H M (upd H p o) := by
  refine ⟨fun a mo e => ?_, fun b u e n => ⟨by rw [upd_ne (ne_of_none e hp)]; exact e, n⟩⟩
  exact (h a mo e).mono (fun u q => by rw [upd_ne (ne_of_none q hp)]; exact q) (Kp.new hp)
/-- a new list or dict that the store knows -/
theorem Tr.newM (h : Abs K M H) {p : Addr} {o : HO} {mo : MO} (hp : H p = none) (hm : MOk K (upd H p o) p mo) : Tr K M H (up M p mo) (upd H p o) := by
  refine ⟨fun a m e => ?_, fun b u e n => ?_⟩
  · by_cases ha : a = p
    · subst ha
      rw [up_same] at e
      cases e
      exact hm
    · rw [up_ne ha] at e
      exact (h a m e).mono (fun u q => by rw [upd_ne (ne_of_none q hp)]; exact q) (Kp.new hp)
  · have nb := ne_of_none e hp
    exact ⟨by rw [upd_ne nb]; exact e, by rw [up_ne nb]; exact n⟩
/-- one that the store knows is changed -/
theorem Tr.write (h : Abs K M H) {p : Addr} {o : HO} {mo m0 : MO} (hp : M p = some m0) (hm : MOk K (upd H p o) p mo) : Tr K M H (up M p mo) (upd H p o) := by
  have hT : Kp H (upd H p o) := Kp.write h hp
  refine ⟨fun a m e => ?_, fun b u e n => ?_⟩
  · by_cases ha : a = p
    · subst ha
      rw [up_same] at e
      cases e
      exact hm
    · rw [up_ne ha] at e
      exact (h a m e).mono (fun u q => by rw [upd_ne ha]; exact q) hT
  · have nb : b ≠ p := fun z => by subst z; rw [hp] at n; cases n
    exact ⟨by rw [upd_ne nb]; exact e, by rw [up_ne nb]; exact n⟩
theorem rep_write (h : Abs K M H) {p : Addr} {o : HO} {m0 : MO} (hp : M p = some m0) {d : D} {v : V} (r : Rep K H d v) : Rep K (upd H p o) d v := Rep.mono (Kp.write h hp) d v r
theorem repL_write (h : Abs K M H) {p : Addr} {o : HO} {m0 : MO} (hp : M p = some m0) {d : List D} {v : List V} (r : RepL K H d v) : RepL K (upd H p o) d v := RepL.mono (Kp.write h hp) d v r
theorem rep_new {p : Addr} {o : HO} (hp : H p = none) {d : D} {v : V} (r : Rep K H d v) : Rep K (upd H p o) d v := Rep.mono (Kp.new hp) d v r
theorem repL_new {p : Addr} {o : HO} (hp : H p = none) {d : List D} {v : List V} (r : RepL K H d v) : RepL K (upd H p o) d v := RepL.mono (Kp.new hp) d v r
/-- a new tuple of such items -/
theorem rep_newT {p : Addr} {ds : List D} {vs : List V} (hp : H p = none) (r : RepL K H ds vs) : Rep K (upd H p (.tup vs)) (.tup ds) (.ref p) := ⟨p, vs, rfl, .inl (.inl upd_same), repL_new hp r⟩
theorem RepS.get {env : AEnv} {σ : L2.St} (h : RepS K H env σ) {i : Nat} {d : D} (e : env[i]? = some (some d)) : ∃ v, σ[i]? = some (some v) ∧ Rep K H d v := h.2 i d e
theorem RepS.set {env : AEnv} {σ : L2.St} (h : RepS K H env σ) {i : Nat} {d : D} {v : V} (r : Rep K H d v) : RepS K H (env.set i (some d)) (σ.set i (some v)) := by
  refine ⟨by rw [List.length_set, List.length_set, h.1], fun j d' e => ?_⟩
  by_cases hj : i = j
  · subst hj
    by_cases hl : i < env.length
    · rw [List.getElem?_set_self hl] at e
      cases e
      exact ⟨v, by rw [List.getElem?_set_self (by rw [← h.1]; exact hl)], r⟩
    · rw [List.getElem?_eq_none (by rw [List.length_set]; omega)] at e
      cases e
  · rw [List.getElem?_set_ne hj] at e
    obtain ⟨v', q1, q2⟩ := h.2 j d' e
    exact ⟨v', by rw [List.getElem?_set_ne hj]; exact q1, q2⟩
theorem RepS.unset {env : AEnv} {σ : L2.St} (h : RepS K H env σ) (i : Nat) : RepS K H (env.set i none) (σ.set i none) := by
  refine ⟨by rw [List.length_set, List.length_set, h.1], fun j d' e => ?_⟩
  by_cases hj : i = j
  · subst hj
    by_cases hl : i < env.length
    · rw [List.getElem?_set_self hl] at e
      cases e
    · rw [List.getElem?_eq_none (by rw [List.length_set]; omega)] at e
      cases e
  · rw [List.getElem?_set_ne hj] at e
    obtain ⟨v', q1, q2⟩ := h.2 j d' e
    exact ⟨v', by rw [List.getElem?_set_ne hj]; exact q1, q2⟩
end

/-! ### errors -/
/-- what is wanted of an error: its class, its fields, the names, the store -/
abbrev AX := Value → List (Str × D) → AEnv → Sto → Prop
def RepX (K : PySem.W.Frag) (H : Hp) : Option Addr → List (Str × D) → Prop
  | none, fs => fs = []
  | some a, fs => ∃ ws : List (Str × V), H a = some (.xd ws) ∧ Paired (fun (p : Str × D) (q : Str × V) => p.1 = q.1 ∧ Rep K H p.2 q.2) fs ws
def XC (K : PySem.W.Frag) (W : WX) (ax : AX) (M : Sto) (H : Hp) : Prop := ∀ σ' env' H' M' cls d fs, Tr K M H M' H' → RepS K H' env' σ' → RepX K H' d fs → ax cls fs env' M' → W cls d σ' H'
theorem XC.next {K : PySem.W.Frag} {W : WX} {ax : AX} {M M1 : Sto} {H H1 : Hp} (x : XC K W ax M H) (t : Tr K M H M1 H1) : XC K W ax M1 H1 :=
  fun σ' env' H' M' cls d fs t' r x' a => x σ' env' H' M' cls d fs (t.trans t') r x' a
def ax0 : AX := fun _ _ _ _ => False
theorem XC.no {K : PySem.W.Frag} {W : WX} {M : Sto} {H : Hp} : XC K W ax0 M H := fun _ _ _ _ _ _ _ _ _ _ z => z.elim
/-- a state of both sides -/
structure Stt (K : PySem.W.Frag) (W : WX) (ax : AX) (env : AEnv) (M : Sto) (σ : L2.St) (H : Hp) : Prop where
  rs : RepS K H env σ
  abs : Abs K M H
  xc : XC K W ax M H
section
variable {K : PySem.W.Frag} {W : WX} {ax : AX} {env env' : AEnv} {M M1 : Sto} {σ σ' : L2.St} {H H1 : Hp}
theorem Stt.next (s : Stt K W ax env M σ H) (t : Tr K M H M1 H1) : Stt K W ax env M1 σ H1 := ⟨t.repS s.abs s.rs, t.abs, s.xc.next t⟩
theorem Stt.at_ (s : Stt K W ax env M σ H) (t : Tr K M H M1 H1) (r : RepS K H1 env' σ') : Stt K W ax env' M1 σ' H1 := ⟨r, t.abs, s.xc.next t⟩
end

/-! ### readings over data, and what they are below -/
abbrev ATE := AX → AEnv → Sto → (D → Sto → Prop) → Prop
abbrev ATT := AX → AEnv → Sto → (Bool → Sto → Prop) → Prop
abbrev ATA := AX → AEnv → Sto → (List D → Sto → Prop) → Prop
structure AEnds where
  nx : AEnv → Sto → Prop
  rt : D → Sto → Prop
  bk : AEnv → Sto → Prop := fun _ _ => False
  ct : AEnv → Sto → Prop := fun _ _ => False
abbrev ATS := AX → AEnds → AEnv → Sto → Prop
abbrev ATG := D → AX → AEnv → Sto → (AEnv → Sto → Prop) → Prop
/-- the items, what must stand at each turn -/
abbrev ATI := AX → AEnv → Sto → (List D → (Sto → Prop) → Sto → Prop) → Prop
section
variable (K : PySem.W.Frag) (W : WX)
def cE (a : ATE) : TE := fun σ H Q => ∃ ax env M Qa, Stt K W ax env M σ H ∧ a ax env M Qa ∧ ∀ v H' d M', Tr K M H M' H' → Rep K H' d v → Qa d M' → Q v H'
def cT (a : ATT) : TT := fun σ H Q => ∃ ax env M Qa, Stt K W ax env M σ H ∧ a ax env M Qa ∧ ∀ b H' M', Tr K M H M' H' → Qa b M' → Q b H'
def cA (a : ATA) : TA := fun σ H Q => ∃ ax env M Qa, Stt K W ax env M σ H ∧ a ax env M Qa ∧ ∀ vs H' ds M', Tr K M H M' H' → RepL K H' ds vs → Qa ds M' → Q vs H'
structure EndsOk (M : Sto) (H : Hp) (D : AEnds) (Dc : Ends) : Prop where
  nx : ∀ σ' H' env' M', Tr K M H M' H' → RepS K H' env' σ' → D.nx env' M' → Dc.nx σ' H'
  bk : ∀ σ' H' env' M', Tr K M H M' H' → RepS K H' env' σ' → D.bk env' M' → Dc.bk σ' H'
  ct : ∀ σ' H' env' M', Tr K M H M' H' → RepS K H' env' σ' → D.ct env' M' → Dc.ct σ' H'
  rt : ∀ v H' d M', Tr K M H M' H' → Rep K H' d v → D.rt d M' → Dc.rt v H'
def cS (a : ATS) : TS := fun Dc σ H => ∃ ax env M D, Stt K W ax env M σ H ∧ a ax D env M ∧ EndsOk K M H D Dc
def cG (g : ATG) : TG := fun v σ H Q => ∃ d ax env M Qa, Stt K W ax env M σ H ∧ Rep K H d v ∧ g d ax env M Qa ∧ ∀ σ' H' env' M', Tr K M H M' H' → RepS K H' env' σ' → Qa env' M' → Q σ' H'
/-- what an iterator yields -/
def ItSim (J : It) (items : List D) (chk : Sto → Prop) (M1 : Sto) (H1 : Hp) : Prop := ∀ i M H, Tr K M1 H1 M H → chk M →
  (∀ d, items[i]? = some d → J.go i H ∧ ∀ x H', J.yld i H x H' → Tr K M H M H' ∧ Rep K H' d x) ∧ (items[i]? = none → J.stop i H)
def cI (a : ATI) : TI := fun σ H R => ∃ ax env M Ra, Stt K W ax env M σ H ∧ a ax env M Ra ∧ ∀ J items chk M' H', Tr K M H M' H' → ItSim K J items chk M' H' → Ra items chk M' → R J H'
end
theorem EndsOk.next {K : PySem.W.Frag} {M M1 : Sto} {H H1 : Hp} {D : AEnds} {Dc : Ends} (e : EndsOk K M H D Dc) (t : Tr K M H M1 H1) : EndsOk K M1 H1 D Dc :=
  ⟨fun σ' H' env' M' t' => e.nx σ' H' env' M' (t.trans t'), fun σ' H' env' M' t' => e.bk σ' H' env' M' (t.trans t'), fun σ' H' env' M' t' => e.ct σ' H' env' M' (t.trans t'), fun v H' d M' t' => e.rt v H' d M' (t.trans t')⟩

/-! ### from a reading of HandS to one below -/
theorem PE.imp {X : Cx} {e : Expr} {t u : TE} (h : PE X e t) (k : ∀ σ H Q, u σ H Q → t σ H Q) : PE X e u := ⟨fun pins s σ H Q I q => h.run pins s σ H Q I (k σ H Q q)⟩
theorem PT.imp {X : Cx} {e : Expr} {t u : TT} (h : PT X e t) (k : ∀ σ H Q, u σ H Q → t σ H Q) : PT X e u := ⟨fun pins s σ H Q I q => h.run pins s σ H Q I (k σ H Q q)⟩
theorem PW.imp {X : Cx} {e : Expr} {t u : TT} (h : PW X e t) (k : ∀ σ H Q, u σ H Q → t σ H Q) : PW X e u := ⟨fun wh pins s σ H Q I q => h.run wh pins s σ H Q I (k σ H Q q)⟩
theorem PA.imp {X : Cx} {e : List Expr} {t u : TA} (h : PA X e t) (k : ∀ σ H Q, u σ H Q → t σ H Q) : PA X e u := ⟨fun pos pins s σ H Q I q => h.run pos pins s σ H Q I (k σ H Q q)⟩
theorem PS.imp {X : Cx} {e : Stmt} {t u : TS} (h : PS X e t) (k : ∀ D σ H, u D σ H → t D σ H) : PS X e u := ⟨fun pins s σ H D I q => h.run pins s σ H D I (k D σ H q)⟩
theorem PSs.imp {X : Cx} {e : List Stmt} {t u : TS} (h : PSs X e t) (k : ∀ D σ H, u D σ H → t D σ H) : PSs X e u := ⟨fun pins s σ H D I q => h.run pins s σ H D I (k D σ H q)⟩
theorem PG.imp {X : Cx} {e : Expr} {t u : TG} (h : PG X e t) (k : ∀ v σ H Q, u v σ H Q → t v σ H Q) : PG X e u := ⟨fun pins s σ H v w Q I r q => h.run pins s σ H v w Q I r (k v σ H Q q)⟩
theorem PI.imp {X : Cx} {g e : Expr} {t u : TI} (h : PI X g e t) (k : ∀ σ H Q, u σ H Q → t σ H Q) : PI X g e u := ⟨fun pins s σ H Q I q => h.run pins s σ H Q I (k σ H Q q)⟩

/-! ### expressions -/
section
variable {K : PySem.W.Frag} {W : WX}
def aVar (i : Nat) : ATE := fun _ env M Q => optAt env[i]? fun o => optAt o fun d => Q d M
def aC (d : D) : ATE := fun _ _ M Q => Q d M
abbrev AR2 := D → D → Sto → (D → Sto → Prop) → Prop
abbrev AR1 := D → Sto → (D → Sto → Prop) → Prop
abbrev ARs := List D → Sto → (D → Sto → Prop) → Prop
def SimR (K : PySem.W.Frag) (r : R2) (ρ : AR2) : Prop := ∀ x y dx dy H M (Q : D → Sto → Prop) (Qc : VK), Abs K M H → Rep K H dx x → Rep K H dy y → ρ dx dy M Q →
  (∀ v H' d M', Tr K M H M' H' → Rep K H' d v → Q d M' → Qc v H') → r x y H Qc
def SimC (K : PySem.W.Frag) (r : List V → Hp → VK → Prop) (ρ : ARs) : Prop := ∀ xs ds H M (Q : D → Sto → Prop) (Qc : VK), Abs K M H → RepL K H ds xs → ρ ds M Q →
  (∀ v H' d M', Tr K M H M' H' → Rep K H' d v → Q d M' → Qc v H') → r xs H Qc
def aOp (ρ : AR2) (a b : ATE) : ATE := fun ax env M Q => a ax env M fun x M1 => b ax env M1 fun y M2 => ρ x y M2 Q
def aUn (ρ : AR1) (a : ATE) : ATE := fun ax env M Q => a ax env M fun x M1 => ρ x M1 Q
theorem s_var {i : Nat} {σ : L2.St} {H : Hp} {Q : VK} (h : cE K W (aVar i) σ H Q) : tVar i σ H Q := by
  obtain ⟨ax, env, M, Qa, S, q, k⟩ := h
  obtain ⟨o, e, q⟩ := optAt_ex q
  obtain ⟨d, rfl, q⟩ := optAt_ex q
  obtain ⟨v, e', r⟩ := S.rs.get e
  exact ⟨v, e', k v H d M (Tr.refl S.abs) r q⟩
theorem s_c {d : D} {v : V} (hr : ∀ H, Rep K H d v) {σ : L2.St} {H : Hp} {Q : VK} (h : cE K W (aC d) σ H Q) : tC v σ H Q := by
  obtain ⟨ax, env, M, Qa, S, q, k⟩ := h
  exact k v H d M (Tr.refl S.abs) (hr H) q
theorem s_op {r : R2} {ρ : AR2} (hr : SimR K r ρ) {a b : ATE} {σ : L2.St} {H : Hp} {Q : VK} (h : cE K W (aOp ρ a b) σ H Q) : tOp r (cE K W a) (cE K W b) σ H Q := by
  obtain ⟨ax, env, M, Qa, S, q, k⟩ := h
  refine ⟨ax, env, M, _, S, q, fun x H1 dx M1 t1 r1 q1 => ?_⟩
  refine ⟨ax, env, M1, _, S.next t1, q1, fun y H2 dy M2 t2 r2 q2 => ?_⟩
  exact hr x y dx dy H2 M2 Qa _ t2.abs (t2.rep t1.abs r1) r2 q2 fun v H' d M' t3 r3 q3 => k v H' d M' ((t1.trans t2).trans t3) r3 q3
variable {X : Cx} {a b : Expr} {α β : ATE} {pos : Pos}
abbrev AE (X : Cx) (W : WX) (e : Expr) (a : ATE) : Prop := PE X e (cE X.K W a)
abbrev AT (X : Cx) (W : WX) (e : Expr) (a : ATT) : Prop := PT X e (cT X.K W a)
abbrev AW (X : Cx) (W : WX) (e : Expr) (a : ATT) : Prop := PW X e (cT X.K W a)
abbrev AA (X : Cx) (W : WX) (e : List Expr) (a : ATA) : Prop := PA X e (cA X.K W a)
abbrev AS (X : Cx) (W : WX) (e : Stmt) (a : ATS) : Prop := PS X e (cS X.K W a)
abbrev ASs (X : Cx) (W : WX) (e : List Stmt) (a : ATS) : Prop := PSs X e (cS X.K W a)
abbrev AG (X : Cx) (W : WX) (e : Expr) (a : ATG) : Prop := PG X e (cG X.K W a)
abbrev AI (X : Cx) (W : WX) (g e : Expr) (a : ATI) : Prop := PI X g e (cI X.K W a)
theorem ae_var (i : Nat) {x : Str} {pos : Pos} (hN : X.N[i]? = some x := by rfl) (hv : Vis X.env.scope x := by first | exact Or.inl rfl | exact Or.inr (Or.inl rfl) | exact Or.inr (Or.inr rfl)) (hd : (x == ("__debug__" : Str)) = false := by decide)
    (hcd : (x == ("__classdict__" : Str)) = false := by decide) : AE X W (.Name x pos) (aVar i) := PE.imp (pe_var hN hv hd hcd) fun _ _ _ => s_var
theorem ae_int {i j pos} : AE X W (.Constant (.int i) j pos) (aC (.int i)) := PE.imp pe_int fun _ _ _ h => s_c (d := .int i) (v := .int i) (fun _ => rfl) h
theorem ae_bl {i j pos} : AE X W (.Constant (.bool i) j pos) (aC (.bl i)) := PE.imp pe_bl fun _ _ _ h => s_c (d := .bl i) (v := .bl i) (fun _ => rfl) h
theorem ae_non {j pos} : AE X W (.Constant .none j pos) (aC .non) := PE.imp pe_non fun _ _ _ h => s_c (d := .non) (v := .non) (fun _ => rfl) h
theorem ae_str {x j pos} : AE X W (.Constant (.str x) j pos) (aC (.str x)) := PE.imp pe_str fun _ _ _ h => s_c (d := .str x) (v := .str x) (fun _ => rfl) h
/-- a module's name: a number, a text, an object of the written part -/
theorem ae_glob {x : Str} {d : D} {v : V} {u : Value} {pos : Pos} (hg : Gl X x) (hm : X.mg x = some u) (r : RelV v u) (hr : ∀ H, Rep X.K H d v) (hd : (x == ("__debug__" : Str)) = false := by decide) : AE X W (.Name x pos) (aC d) :=
  PE.imp (pe_glob hg hm r hd) fun _ _ _ => s_c hr
theorem ae_op {op : Operator} {r : R2} {ρ : AR2} (ho : OpR X (binaryOp op) r) (hr : SimR X.K r ρ) (ha : AE X W a α) (hb : AE X W b β) : AE X W (.BinOp a op b pos) (aOp ρ α β) := PE.imp (pe_op ho ha hb) fun _ _ _ => s_op hr
theorem ae_cmpR {op : CmpOp} {r : R2} {ρ : AR2} (ho : OpR X (compareOp op) r) (hr : SimR X.K r ρ) (ha : AE X W a α) (hb : AE X W b β) (hm : behindInMarks op b = false) : AE X W (.Compare a [op] [b] pos) (aOp ρ α β) := PE.imp (pe_cmpR ho ha hb hm) fun _ _ _ => s_op hr
end

/-! ### operators by data -/
theorem SimR.or1 {K : PySem.W.Frag} {r r' : R2} {ρ : AR2} (h : SimR K r ρ) : SimR K (fun x y H Q => r x y H Q ∨ r' x y H Q) ρ := fun x y dx dy H M Q Qc ab rx ry q k => .inl (h x y dx dy H M Q Qc ab rx ry q k)
section
variable {K : PySem.W.Frag} {X : Cx}
/-- + -/
def rPlus (K : PySem.W.Frag) : R2 := fun x y H Q => (rI0 fun i j => .int (i + j)) x y H Q ∨ (∃ i j, x = .str i ∧ y = .str j ∧ i.length + j.length ≤ sizeLine ∧ Q (.str (i ++ j)) H) ∨ rCat x y H Q ∨ rCatA K x y H Q
theorem op_plus : OpR X (binaryOp .Add) (rPlus X.K) := op_add.or (op_add_str.or (op_cat.or op_catA))
def ρAdd : AR2 := fun x y M Q => match x, y with
  | .int i, .int j => Q (.int (i + j)) M
  | .str i, .str j => i.length + j.length ≤ sizeLine ∧ Q (.str (i ++ j)) M
  | .tup ds, .tup es => ds.length + es.length ≤ sizeLine ∧ Q (.tup (ds ++ es)) M
  | .obj p, .obj q => lstAt M p fun ds => lstAt M q fun es => ds.length + es.length ≤ sizeLine ∧ New (.lst (ds ++ es)) M Q
  | _, _ => False
theorem sim_add : SimR K (rPlus K) ρAdd := by
  intro x y dx dy H M Q Qc ab rx ry q k
  cases dx with
  | int i =>
    cases dy with
    | int j =>
      cases (show x = V.int i from rx)
      cases (show y = V.int j from ry)
      exact .inl ⟨i, j, rfl, rfl, k _ H (.int (i + j)) M (Tr.refl ab) rfl q⟩
    | _ => exact False.elim q
  | str i =>
    cases dy with
    | str j =>
      cases (show x = V.str i from rx)
      cases (show y = V.str j from ry)
      obtain ⟨z, q⟩ := q
      exact .inr (.inl ⟨i, j, rfl, rfl, z, k _ H (.str (i ++ j)) M (Tr.refl ab) rfl q⟩)
    | _ => exact False.elim q
  | tup ds =>
    cases dy with
    | tup es =>
      obtain ⟨z, q⟩ := q
      obtain ⟨p, vs, rfl, hp, hv⟩ := rx
      obtain ⟨p', ws, rfl, hp', hw⟩ := ry
      have l1 := hv.length
      have l2 := hw.length
      refine .inr (.inr (.inr ⟨p, p', vs, ws, rfl, rfl, hp, hp', by omega, fun e => ?_, fun _ e => ?_, fun _ _ o ho => ?_⟩))
      · subst e
        have e0 : ds = [] := List.eq_nil_of_length_eq_zero l1
        subst e0
        exact k _ H (.tup ([] ++ es)) M (Tr.refl ab) ⟨p', ws, rfl, hp', hw⟩ q
      · subst e
        have e0 : es = [] := List.eq_nil_of_length_eq_zero l2
        subst e0
        exact k _ H (.tup (ds ++ [])) M (Tr.refl ab) ⟨p, vs, rfl, hp, by rw [List.append_nil]; exact hv⟩ q
      · exact k _ _ (.tup (ds ++ es)) M (Tr.newT ab ho) (rep_newT ho (hv.append hw)) q
    | _ => exact False.elim q
  | obj p =>
    cases dy with
    | obj p' =>
      obtain ⟨ds, m1, q⟩ := lstAt_ex q
      obtain ⟨es, m2, z, q⟩ := lstAt_ex q
      cases (show x = V.ref p from rx)
      cases (show y = V.ref p' from ry)
      obtain ⟨vs, h1, r1⟩ := ab p _ m1
      obtain ⟨ws, h2, r2⟩ := ab p' _ m2
      have l1 := r1.length
      have l2 := r2.length
      refine .inr (.inr (.inl ⟨p, p', vs, ws, rfl, rfl, h1, h2, by omega, fun o ho => ?_⟩))
      exact k _ _ (.obj o) _ (Tr.newM (mo := .lst (ds ++ es)) ab ho ⟨_, upd_same, repL_new ho (r1.append r2)⟩) rfl (q o (ab.fresh ho))
    | _ => exact False.elim q
  | _ => exact False.elim q
/-- ints alone -/
def ρI (C : Int → Int → Prop) (g : Int → Int → D) : AR2 := fun x y M Q => match x, y with
  | .int i, .int j => C i j ∧ Q (g i j) M
  | _, _ => False
def ρI0 (g : Int → Int → D) : AR2 := fun x y M Q => match x, y with
  | .int i, .int j => Q (g i j) M
  | _, _ => False
theorem sim_I {C : Int → Int → Prop} {g : Int → Int → D} {gv : Int → Int → V} (hg : ∀ H i j, Rep K H (g i j) (gv i j)) : SimR K (rI C gv) (ρI C g) := by
  intro x y dx dy H M Q Qc ab rx ry q k
  cases dx with
  | int i =>
    cases dy with
    | int j =>
      cases (show x = V.int i from rx)
      cases (show y = V.int j from ry)
      exact ⟨i, j, rfl, rfl, q.1, k _ H _ M (Tr.refl ab) (hg H i j) q.2⟩
    | _ => exact False.elim q
  | _ => exact False.elim q
theorem sim_I0 {g : Int → Int → D} {gv : Int → Int → V} (hg : ∀ H i j, Rep K H (g i j) (gv i j)) : SimR K (rI0 gv) (ρI0 g) := by
  intro x y dx dy H M Q Qc ab rx ry q k
  cases dx with
  | int i =>
    cases dy with
    | int j =>
      cases (show x = V.int i from rx)
      cases (show y = V.int j from ry)
      exact ⟨i, j, rfl, rfl, k _ H _ M (Tr.refl ab) (hg H i j) q⟩
    | _ => exact False.elim q
  | _ => exact False.elim q
abbrev ρSub : AR2 := ρI0 fun i j => .int (i - j)
abbrev ρMul : AR2 := ρI CMul fun i j => .int (i * j)
abbrev ρMod : AR2 := ρI (fun _ j => 0 < j) fun i j => .int (i % j)
abbrev ρFdiv : AR2 := ρI CDiv fun i j => .int (i / j)
abbrev ρPow : AR2 := ρI CPow fun i j => .int (i ^ j.toNat)
theorem sim_sub : SimR K (rI0 fun i j => .int (i - j)) ρSub := sim_I0 fun _ _ _ => rfl
theorem sim_mul : SimR K (rI CMul fun i j => .int (i * j)) ρMul := sim_I fun _ _ _ => rfl
theorem sim_mod : SimR K (rI (fun _ j => 0 < j) fun i j => .int (i % j)) ρMod := sim_I fun _ _ _ => rfl
theorem sim_fdiv : SimR K (rI CDiv fun i j => .int (i / j)) ρFdiv := sim_I fun _ _ _ => rfl
theorem sim_pow : SimR K (rI CPow fun i j => .int (i ^ j.toNat)) ρPow := sim_I fun _ _ _ => rfl
/-! comparisons -/
def rLtA : R2 := fun x y H Q => (rI0 fun i j => .bl (decide (i < j))) x y H Q ∨ ∃ i j, x = .str i ∧ y = .str j ∧ Q (.bl (decide (i.cps.toList < j.cps.toList))) H
def rLeA : R2 := fun x y H Q => (rI0 fun i j => .bl (decide (i ≤ j))) x y H Q ∨ ∃ i j, x = .str i ∧ y = .str j ∧ Q (.bl (!decide (j.cps.toList < i.cps.toList))) H
theorem op_ltA : OpR X (compareOp .Lt) rLtA := op_lt.or op_lt_str
theorem op_leA : OpR X (compareOp .LtE) rLeA := op_le.or op_le_str
def ρIS (g : Int → Int → Bool) (f : Str → Str → Bool) : AR2 := fun x y M Q => match x, y with
  | .int i, .int j => Q (.bl (g i j)) M
  | .str i, .str j => Q (.bl (f i j)) M
  | _, _ => False
abbrev ρLt : AR2 := ρIS (fun i j => decide (i < j)) (fun i j => decide (i.cps.toList < j.cps.toList))
abbrev ρLe : AR2 := ρIS (fun i j => decide (i ≤ j)) (fun i j => !decide (j.cps.toList < i.cps.toList))
abbrev ρGt : AR2 := ρI0 fun i j => .bl (decide (j < i))
abbrev ρGe : AR2 := ρI0 fun i j => .bl (decide (j ≤ i))
theorem sim_IS {g : Int → Int → Bool} {f : Str → Str → Bool} : SimR K (fun x y H Q => (rI0 fun i j => .bl (g i j)) x y H Q ∨ ∃ i j, x = .str i ∧ y = .str j ∧ Q (.bl (f i j)) H) (ρIS g f) := by
  intro x y dx dy H M Q Qc ab rx ry q k
  cases dx with
  | int i =>
    cases dy with
    | int j =>
      cases (show x = V.int i from rx)
      cases (show y = V.int j from ry)
      exact .inl ⟨i, j, rfl, rfl, k _ H (.bl _) M (Tr.refl ab) rfl q⟩
    | _ => exact False.elim q
  | str i =>
    cases dy with
    | str j =>
      cases (show x = V.str i from rx)
      cases (show y = V.str j from ry)
      exact .inr ⟨i, j, rfl, rfl, k _ H (.bl _) M (Tr.refl ab) rfl q⟩
    | _ => exact False.elim q
  | _ => exact False.elim q
theorem sim_lt : SimR K rLtA ρLt := sim_IS
theorem sim_le : SimR K rLeA ρLe := sim_IS
theorem sim_gt : SimR K (rI0 fun i j => .bl (decide (j < i))) ρGt := sim_I0 fun _ _ _ => rfl
theorem sim_ge : SimR K (rI0 fun i j => .bl (decide (j ≤ i))) ρGe := sim_I0 fun _ _ _ => rfl
/-! == of data -/
mutual
def D.py : D → Option PyData
  | .non => some .none
  | .bl b => some (.bool b)
  | .int i => some (.int i)
  | .str x => some (.str x)
  | .tup ds => (D.pys ds).map .tuple
  | .obj _ => none
  | .fl _ => none
def D.pys : List D → Option (List PyData)
  | [] => some []
  | d :: ds => d.py.bind fun p => (D.pys ds).map fun ps => p :: ps
end
mutual
theorem Rep.dp {H : Hp} : ∀ (d : D) (v : V) (p : PyData), Rep K H d v → d.py = some p → Dp K H v p
  | .non, v, p, h, e => by cases (Option.some.inj e); cases (show v = V.non from h); exact .non
  | .bl b, v, p, h, e => by cases (Option.some.inj e); cases (show v = V.bl b from h); exact .bl b
  | .int i, v, p, h, e => by cases (Option.some.inj e); cases (show v = V.int i from h); exact .int i
  | .str i, v, p, h, e => by cases (Option.some.inj e); cases (show v = V.str i from h); exact .str i
  | .obj _, v, p, h, e => by cases e
  | .fl _, v, p, h, e => by cases e
  | .tup ds, v, p, h, e => by
    obtain ⟨a, vs, rfl, hT, hl⟩ := h
    rw [D.py, Option.map_eq_some_iff] at e
    obtain ⟨ps, e, rfl⟩ := e
    exact .tup hT (RepL.dp ds vs ps hl e)
theorem RepL.dp {H : Hp} : ∀ (ds : List D) (vs : List V) (ps : List PyData), RepL K H ds vs → D.pys ds = some ps → DpAll K H vs ps
  | [], vs, ps, h, e => by cases (show vs = [] from h); cases (Option.some.inj e); exact .nil
  | d :: ds, vs, ps, h, e => by
    obtain ⟨v, r, rfl, h1, h2⟩ := h
    rw [D.pys, Option.bind_eq_some_iff] at e
    obtain ⟨p, e1, e⟩ := e
    rw [Option.map_eq_some_iff] at e
    obtain ⟨ps', e2, rfl⟩ := e
    exact .cons (Rep.dp d v p h1 e1) (RepL.dp ds r ps' h2 e2)
end
/-- lists of data too, at the head -/
def pyM (M : Sto) : D → Option PyData
  | .obj a => match M a with
    | some (.lst ds) => (D.pys ds).map .list
    | _ => none
  | d => d.py
theorem Rep.dpM {H : Hp} {M : Sto} (ab : Abs K M H) {d : D} {v : V} {p : PyData} (h : Rep K H d v) (e : pyM M d = some p) : Dp K H v p := by
  cases d with
  | obj a =>
    cases (show v = V.ref a from h)
    have e' : (match M a with | some (.lst ds) => (D.pys ds).map PyData.list | _ => none) = some p := e
    cases m : M a with
    | none => rw [m] at e'; cases e'
    | some mo =>
      cases mo with
      | dic kvs => rw [m] at e'; cases e'
      | raw o => rw [m] at e'; cases e'
      | dif od ws kvs => rw [m] at e'; cases e'
      | lst ds =>
        rw [m] at e'
        obtain ⟨ps, e2, rfl⟩ := Option.map_eq_some_iff.mp (show (D.pys ds).map PyData.list = some p from e')
        obtain ⟨vs, h1, r1⟩ := ab a _ m
        exact .lst (SqL.of h1) (RepL.dp ds vs ps r1 e2)
  | non => exact Rep.dp _ v p h e
  | bl b => exact Rep.dp _ v p h e
  | int b => exact Rep.dp _ v p h e
  | str b => exact Rep.dp _ v p h e
  | tup b => exact Rep.dp _ v p h e
  | fl b => cases e
def ρEqv (neg : Bool) : AR2 := fun x y M Q => ∃ p q, pyM M x = some p ∧ pyM M y = some q ∧ SeqAt.shaped p = true ∧ SeqAt.shaped q = true ∧ Q (.bl (if neg then !PyData.eqv p q else PyData.eqv p q)) M
/-- == and !=, by shape -/
def ρEq (neg : Bool) : AR2 := fun x y M Q => match x, y with
  | .str a, .str b => Q (.bl (if neg then !decide (a = b) else decide (a = b))) M
  | .int a, .int b => Q (.bl (if neg then !decide (a = b) else decide (a = b))) M
  | .bl a, .bl b => Q (.bl (if neg then !decide (a = b) else decide (a = b))) M
  | x, y => ρEqv neg x y M Q
def rEqA (K : PySem.W.Frag) (neg : Bool) : R2 := fun x y H Q => (if neg then rNe x y H Q else rEq x y H Q) ∨ (if neg then rNeD K x y H Q else rEqD K x y H Q)
theorem op_eqA (hu : X.A.units + 64 < cLine) : OpR X (compareOp .Eq) (rEqA X.K false) := op_eq.or (op_eqD hu)
theorem op_neA (hu : X.A.units + 64 < cLine) : OpR X (compareOp .NotEq) (rEqA X.K true) := op_ne.or (op_neD hu)
theorem sim_eqA {neg : Bool} : SimR K (rEqA K neg) (ρEq neg) := by
  intro x y dx dy H M Q Qc ab rx ry q k
  unfold ρEq at q
  split at q
  · rename_i a b
    cases (show x = V.str a from rx)
    cases (show y = V.str b from ry)
    refine .inl ?_
    cases neg with
    | true => exact ⟨rfl, k _ H (.bl _) M (Tr.refl ab) rfl (by rw [dec_str, Bool.beq_eq_decide_eq]; exact q)⟩
    | false => exact ⟨rfl, k _ H (.bl _) M (Tr.refl ab) rfl (by rw [dec_str, Bool.beq_eq_decide_eq]; exact q)⟩
  · rename_i a b
    cases (show x = V.int a from rx)
    cases (show y = V.int b from ry)
    refine .inl ?_
    cases neg with
    | true => exact ⟨rfl, k _ H (.bl _) M (Tr.refl ab) rfl (by rw [dec_int, Bool.beq_eq_decide_eq]; exact q)⟩
    | false => exact ⟨rfl, k _ H (.bl _) M (Tr.refl ab) rfl (by rw [dec_int, Bool.beq_eq_decide_eq]; exact q)⟩
  · rename_i a b
    cases (show x = V.bl a from rx)
    cases (show y = V.bl b from ry)
    refine .inl ?_
    cases neg with
    | true => exact ⟨rfl, k _ H (.bl _) M (Tr.refl ab) rfl (by rw [dec_bl, Bool.beq_eq_decide_eq]; exact q)⟩
    | false => exact ⟨rfl, k _ H (.bl _) M (Tr.refl ab) rfl (by rw [dec_bl, Bool.beq_eq_decide_eq]; exact q)⟩
  · obtain ⟨p, p', e1, e2, s1, s2, q⟩ := q
    refine .inr ?_
    cases neg with
    | true => exact ⟨p, p', rx.dpM ab e1, ry.dpM ab e2, s1, s2, k _ H (.bl _) M (Tr.refl ab) rfl q⟩
    | false => exact ⟨p, p', rx.dpM ab e1, ry.dpM ab e2, s1, s2, k _ H (.bl _) M (Tr.refl ab) rfl q⟩
/-! is None -/
def isNon : D → Bool
  | .non => true | .bl _ => false | .int _ => false | .str _ => false | .tup _ => false | .obj _ => false | .fl _ => false
def ρIsN (neg : Bool) : AR2 := fun x y M Q => isNon y = true ∧ Q (.bl (if neg then !isNon x else isNon x)) M
theorem rep_non {H : Hp} {d : D} {v : V} (h : Rep K H d v) : decide (v = V.non) = isNon d := by
  cases d with
  | non => cases (show v = V.non from h); rfl
  | bl b => cases (show v = V.bl b from h); rfl
  | int b => cases (show v = V.int b from h); rfl
  | str b => cases (show v = V.str b from h); rfl
  | obj b => cases (show v = V.ref b from h); rfl
  | tup ds => obtain ⟨a, vs, rfl, _⟩ := h; rfl
  | fl ds => obtain ⟨a, vs, rfl, _⟩ := h; rfl
theorem rep_isNon {H : Hp} {d : D} {v : V} (h : Rep K H d v) (e : isNon d = true) : v = V.non := by
  cases d with
  | non => exact h
  | _ => cases e
theorem sim_isN : SimR K (fun x y H Q => y = .non ∧ Q (.bl (decide (x = .non))) H) (ρIsN false) := by
  intro x y dx dy H M Q Qc ab rx ry q k
  refine ⟨rep_isNon ry q.1, k _ H (.bl (decide (x = .non))) M (Tr.refl ab) rfl ?_⟩
  rw [rep_non rx]
  exact q.2
theorem sim_notN : SimR K (fun x y H Q => y = .non ∧ Q (.bl (!decide (x = .non))) H) (ρIsN true) := by
  intro x y dx dy H M Q Qc ab rx ry q k
  refine ⟨rep_isNon ry q.1, k _ H (.bl (!decide (x = .non))) M (Tr.refl ab) rfl ?_⟩
  rw [rep_non rx]
  exact q.2
/-! in -/
def flatD : D → Bool
  | .non => true | .bl _ => true | .int _ => true | .str _ => true | _ => false
def eqF : D → D → Bool
  | .non, .non => true
  | .bl a, .bl b => a == b
  | .bl a, .int b => (if a then 1 else 0) == b
  | .int a, .bl b => a == (if b then 1 else 0)
  | .int a, .int b => a == b
  | .str a, .str b => decide (a = b)
  | _, _ => false
theorem flat_rep {H : Hp} {d : D} {v : V} (h : Rep K H d v) (f : flatD d = true) : flatV v = true := by
  cases d with
  | non => cases (show v = V.non from h); rfl
  | bl b => cases (show v = V.bl b from h); rfl
  | int b => cases (show v = V.int b from h); rfl
  | str b => cases (show v = V.str b from h); rfl
  | obj b => cases f
  | tup ds => cases f
  | fl ds => cases f
theorem eqF_rep {H : Hp} {d e : D} {v w : V} (h : Rep K H d v) (h' : Rep K H e w) (f : flatD d = true) (f' : flatD e = true) : eqV v w = eqF d e := by
  cases d with
  | obj b => cases f
  | tup ds => cases f
  | fl ds => cases f
  | non =>
    cases (show v = V.non from h)
    cases e with
    | obj b => cases f'
    | tup ds => cases f'
    | fl ds => cases f'
    | non => cases (show w = V.non from h'); rfl
    | bl b => cases (show w = V.bl b from h'); rfl
    | int b => cases (show w = V.int b from h'); rfl
    | str b => cases (show w = V.str b from h'); rfl
  | bl b =>
    cases (show v = V.bl b from h)
    cases e with
    | obj b => cases f'
    | tup ds => cases f'
    | fl ds => cases f'
    | non => cases (show w = V.non from h'); rfl
    | bl b => cases (show w = V.bl b from h'); rfl
    | int b => cases (show w = V.int b from h'); rfl
    | str b => cases (show w = V.str b from h'); rfl
  | int b =>
    cases (show v = V.int b from h)
    cases e with
    | obj b => cases f'
    | tup ds => cases f'
    | fl ds => cases f'
    | non => cases (show w = V.non from h'); rfl
    | bl b => cases (show w = V.bl b from h'); rfl
    | int b => cases (show w = V.int b from h'); rfl
    | str b => cases (show w = V.str b from h'); rfl
  | str b =>
    cases (show v = V.str b from h)
    cases e with
    | obj b => cases f'
    | tup ds => cases f'
    | fl ds => cases f'
    | non => cases (show w = V.non from h'); rfl
    | bl b => cases (show w = V.bl b from h'); rfl
    | int b => cases (show w = V.int b from h'); rfl
    | str c => cases (show w = V.str c from h'); exact Bool.beq_eq_decide_eq b c
theorem flats_rep {H : Hp} : ∀ {ds : List D} {vs : List V}, RepL K H ds vs → ds.all flatD = true → vs.all flatV = true
  | [], vs, h, _ => by cases (show vs = [] from h); rfl
  | d :: ds, _, h, f => by
    obtain ⟨v, r, rfl, h1, h2⟩ := h
    rw [List.all_cons, Bool.and_eq_true] at f ⊢
    exact ⟨flat_rep h1 f.1, flats_rep h2 f.2⟩
theorem inF_rep {H : Hp} {x : V} {dx : D} (hx : Rep K H dx x) (fx : flatD dx = true) : ∀ {ds : List D} {vs : List V}, RepL K H ds vs → ds.all flatD = true → inV x vs = ds.any fun y => eqF y dx
  | [], vs, h, _ => by cases (show vs = [] from h); rfl
  | d :: ds, _, h, f => by
    obtain ⟨v, r, rfl, h1, h2⟩ := h
    rw [List.all_cons, Bool.and_eq_true] at f
    show (eqV v x || inV x r) = _
    rw [eqF_rep h1 hx f.1 fx, inF_rep hx fx h2 f.2, List.any_cons]
/-- in, not in: a tuple or list of flat things, a list of data, a sign in a text -/
def rInA (K : PySem.W.Frag) (neg : Bool) : R2 := fun x y H Q => rIn K neg x y H Q ∨ (if neg then rNotInD K x y H Q else rInD K x y H Q) ∨ ∃ (c : Nat) (z : Str), x = .str ⟨#[c]⟩ ∧ y = .str z ∧ Q (.bl (if neg then !decide (c ∈ z.cps.toList) else decide (c ∈ z.cps.toList))) H
theorem op_inA (hu : X.A.units + 65 < cLine) : OpR X (compareOp .In) (rInA X.K false) := op_in_seq.or ((op_inD hu).or op_in_sign)
theorem op_notInA (hu : X.A.units + 65 < cLine) : OpR X (compareOp .NotIn) (rInA X.K true) := op_notIn_seq.or ((op_notInD hu).or op_notIn_sign)
def ρIn (neg : Bool) : AR2 := fun x y M Q => match y with
  | .tup ds => flatD x = true ∧ ds.all flatD = true ∧ Q (.bl (if neg then !(ds.any fun y => eqF y x) else ds.any fun y => eqF y x)) M
  | .obj a => lstAt M a fun ds => ((flatD x = true ∧ ds.all flatD = true ∧ Q (.bl (if neg then !(ds.any fun y => eqF y x) else ds.any fun y => eqF y x)) M) ∨
      ∃ p ps, x.py = some p ∧ D.pys ds = some ps ∧ SeqAt.shaped p = true ∧ SeqAt.shaped (.list ps) = true ∧ Q (.bl (if neg then !(ps.any fun z => PyData.eqv z p) else ps.any fun z => PyData.eqv z p)) M)
  | .str z => ∃ c : Nat, x = .str ⟨#[c]⟩ ∧ Q (.bl (if neg then !decide (c ∈ z.cps.toList) else decide (c ∈ z.cps.toList))) M
  | _ => False
theorem sim_in {neg : Bool} : SimR K (rInA K neg) (ρIn neg) := by
  intro x y dx dy H M Q Qc ab rx ry q k
  cases dy with
  | tup ds =>
    obtain ⟨f, fs, q⟩ := q
    obtain ⟨p, vs, rfl, hp, hv⟩ := ry
    refine .inl ⟨p, vs, rfl, .inr hp, flat_rep rx f, flats_rep hv fs, k _ H (.bl _) M (Tr.refl ab) rfl ?_⟩
    rw [inF_rep rx f hv fs]
    exact q
  | obj a =>
    obtain ⟨ds, m, q⟩ := lstAt_ex q
    cases (show y = V.ref a from ry)
    obtain ⟨vs, h1, hv⟩ := ab a _ m
    rcases q with ⟨f, fs, q⟩ | ⟨p, ps, e1, e2, s1, s2, q⟩
    · refine .inl ⟨a, vs, rfl, .inl (SqL.of h1), flat_rep rx f, flats_rep hv fs, k _ H (.bl _) M (Tr.refl ab) rfl ?_⟩
      rw [inF_rep rx f hv fs]
      exact q
    · refine .inr (.inl ?_)
      cases neg with
      | true => exact ⟨p, ps, Rep.dp dx x p rx e1, .lst (SqL.of h1) (RepL.dp ds vs ps hv e2), s1, s2, k _ H (.bl _) M (Tr.refl ab) rfl q⟩
      | false => exact ⟨p, ps, Rep.dp dx x p rx e1, .lst (SqL.of h1) (RepL.dp ds vs ps hv e2), s1, s2, k _ H (.bl _) M (Tr.refl ab) rfl q⟩
  | str z =>
    obtain ⟨c, rfl, q⟩ := q
    cases (show x = V.str _ from rx)
    cases (show y = V.str _ from ry)
    exact .inr (.inr ⟨c, z, rfl, rfl, k _ H (.bl _) M (Tr.refl ab) rfl q⟩)
  | _ => exact q.elim
/-! a[b] -/
def ρIx : AR2 := fun x y M Q => match x, y with
  | .tup ds, .int i => optAt (atI ds i) fun d => Q d M
  | .str z, .int i => z.length ≤ sizeLine ∧ optAt (atI z.cps.toList i) fun c => Q (.str ⟨#[c]⟩) M
  | .obj a, .int i => lstAt M a fun ds => optAt (atI ds i) fun d => Q d M
  | .fl ds, .int i => optAt (atI ds i) fun d => Q d M
  | _, _ => False
theorem rep_at {H : Hp} {ds : List D} {vs : List V} {i : Int} {d : D} (h : RepL K H ds vs) (e : atI ds i = some d) : ∃ v, atI vs i = some v ∧ Rep K H d v := by
  unfold atI at e ⊢
  rw [Option.bind_eq_some_iff] at e
  obtain ⟨j, e1, e2⟩ := e
  obtain ⟨v, e3, r⟩ := h.get e2
  exact ⟨v, by rw [← h.length, e1]; exact e3, r⟩
theorem sim_ix : SimR K (rIx K) ρIx := by
  intro x y dx dy H M Q Qc ab rx ry q k
  cases dx with
  | tup ds =>
    cases dy with
    | int i =>
      obtain ⟨d, e, q⟩ := optAt_ex q
      obtain ⟨p, vs, rfl, hp, hv⟩ := rx
      cases (show y = V.int i from ry)
      obtain ⟨v, e', r⟩ := rep_at hv e
      exact .inr (.inl ⟨p, vs, i, v, rfl, rfl, hp, e', k v H d M (Tr.refl ab) r q⟩)
    | _ => exact False.elim q
  | str z =>
    cases dy with
    | int i =>
      obtain ⟨l, q⟩ := q
      obtain ⟨c, e, q⟩ := optAt_ex q
      cases (show x = V.str z from rx)
      cases (show y = V.int i from ry)
      exact .inr (.inr ⟨z, i, c, rfl, rfl, l, e, k _ H (.str _) M (Tr.refl ab) rfl q⟩)
    | _ => exact False.elim q
  | obj a =>
    cases dy with
    | int i =>
      obtain ⟨ds, m, q⟩ := lstAt_ex q
      obtain ⟨d, e, q⟩ := optAt_ex q
      cases (show x = V.ref a from rx)
      cases (show y = V.int i from ry)
      obtain ⟨vs, h1, hv⟩ := ab a _ m
      obtain ⟨v, e', r⟩ := rep_at hv e
      exact .inl ⟨a, vs, i, v, rfl, rfl, SqL.of h1, e', k v H d M (Tr.refl ab) r q⟩
    | _ => exact False.elim q
  | fl ds =>
    cases dy with
    | int i =>
      obtain ⟨d, e, q⟩ := optAt_ex q
      obtain ⟨p, vs, rfl, hp, hv⟩ := rx
      cases (show y = V.int i from ry)
      obtain ⟨v, e', r⟩ := rep_at hv e
      exact .inl ⟨p, vs, i, v, rfl, rfl, hp.l, e', k v H d M (Tr.refl ab) r q⟩
    | _ => exact False.elim q
  | _ => exact False.elim q
theorem ae_ix {W : WX} {a b : Expr} {α β : ATE} {pos : Pos} (ha : AE X W a α) (hb : AE X W b β) (hs : PlainIx b) : AE X W (.Subscript a b pos) (aOp ρIx α β) := PE.imp (pe_ix ix_seq ha hb hs) fun _ _ _ => s_op sim_ix
end

/-! ### tests -/
section
variable {W : WX} {X : Cx} {a b c : Expr} {α β γ : ATE} {A B : ATT} {rest : List Expr} {pos : Pos}
def aTest (a : ATE) : ATT := fun ax env M Q => a ax env M fun x M1 => match x with
  | .bl b => Q b M1
  | _ => False
theorem at_cmpR {op : CmpOp} {r : R2} {ρ : AR2} (ho : OpR X (compareOp op) r) (hr : SimR X.K r ρ) (ha : AE X W a α) (hb : AE X W b β) (hm : behindInMarks op b = false) : AT X W (.Compare a [op] [b] pos) (aTest (aOp ρ α β)) :=
  PT.imp (pt_cmpR ho ha hb hm) fun σ H Q h => by
    obtain ⟨ax, env, M, Qa, S, q, k⟩ := h
    refine s_op hr (ρ := ρ) ⟨ax, env, M, _, S, q, fun v H' d M' t r q => ?_⟩
    cases d with
    | bl b => cases (show v = V.bl b from r); exact ⟨b, rfl, k b H' M' t q⟩
    | _ => exact False.elim q
/-- truth -/
def aTruth (a : ATE) : ATT := fun ax env M Q => a ax env M fun x M1 => match x with
  | .non => Q false M1
  | .bl b => Q b M1
  | .int i => Q (i != 0) M1
  | .str z => z.length ≤ sizeLine ∧ Q ((z.length : Int) != 0) M1
  | .tup ds => Q (!ds.isEmpty) M1
  | .obj p => match M1 p with
    | some (.lst ds) => Q (!ds.isEmpty) M1
    | some (.dic kvs) => Q (!kvs.isEmpty) M1
    | _ => False
  | .fl _ => False
theorem isEmpty_rep {K : PySem.W.Frag} {H : Hp} {ds : List D} {vs : List V} (h : RepL K H ds vs) : vs.isEmpty = ds.isEmpty := by
  cases ds with
  | nil => cases (show vs = [] from h); rfl
  | cons d ds => obtain ⟨v, r, rfl, _⟩ := h; rfl
theorem isEmpty_repK {K : PySem.W.Frag} {H : Hp} {ds : List (Key × D)} {vs : List (Key × V)} (h : RepK K H ds vs) : vs.isEmpty = ds.isEmpty := by
  cases h <;> rfl
theorem at_truth (ha : AE X W a α) (he : ∀ whole, isTrue a X.env whole = (do let v ← whole; standAt a.pos; holding [v] (truthy v)) := by intro _; rfl) : AT X W a (aTruth α) :=
  PT.imp (pt_truth ha he) fun σ H Q h => by
    obtain ⟨ax, env, M, Qa, S, q, k⟩ := h
    refine ⟨ax, env, M, _, S, q, fun v H' d M' t r q => ?_⟩
    cases d with
    | non => cases (show v = V.non from r); exact ⟨false, rfl, k _ H' M' t q⟩
    | bl b => cases (show v = V.bl b from r); exact ⟨b, rfl, k _ H' M' t q⟩
    | int i => cases (show v = V.int i from r); exact ⟨_, rfl, k _ H' M' t q⟩
    | str z => cases (show v = V.str z from r); exact ⟨_, ⟨q.1, rfl⟩, k _ H' M' t q.2⟩
    | tup ds =>
      obtain ⟨p, vs, rfl, hp, hv⟩ := r
      exact ⟨_, .inr (.inl ⟨vs, hp, by rw [isEmpty_rep hv]⟩), k _ H' M' t q⟩
    | obj p =>
      cases (show v = V.ref p from r)
      have q' : (match M' p with | some (.lst ds) => Qa (!ds.isEmpty) M' | some (.dic kvs) => Qa (!kvs.isEmpty) M' | _ => False) := q
      split at q'
      · rename_i m
        obtain ⟨vs, h1, hv⟩ := t.abs p _ m
        exact ⟨_, .inl ⟨vs, SqL.of h1, by rw [isEmpty_rep hv]⟩, k _ H' M' t q'⟩
      · rename_i m
        obtain ⟨vs, h1, hv⟩ := t.abs p _ m
        exact ⟨_, .inr (.inr ⟨vs, h1, by rw [isEmpty_repK hv]⟩), k _ H' M' t q'⟩
      · exact q'.elim
    | fl ds => exact False.elim q
def aAnd (A B : ATT) : ATT := fun ax env M Q => A ax env M fun c M1 => if c = true then B ax env M1 Q else Q false M1
def aOr (A B : ATT) : ATT := fun ax env M Q => A ax env M fun c M1 => if c = true then Q true M1 else B ax env M1 Q
def aNot (A : ATT) : ATT := fun ax env M Q => A ax env M fun c M1 => Q (!c) M1
theorem aw_and1 (ha : AT X W a A) : AW X W (.BoolOp .And [a] pos) A := pw_and1 ha
theorem aw_or1 (ha : AT X W a A) : AW X W (.BoolOp .Or [a] pos) A := pw_or1 ha
theorem aw_and (ha : AT X W a A) (hb : AW X W (.BoolOp .And (b :: rest) pos) B) : AW X W (.BoolOp .And (a :: b :: rest) pos) (aAnd A B) := PW.imp (pw_and ha hb) fun σ H Q h => by
  obtain ⟨ax, env, M, Qa, S, q, k⟩ := h
  refine ⟨ax, env, M, _, S, q, fun c H1 M1 t q => ?_⟩
  cases c with
  | true => exact ⟨ax, env, M1, Qa, S.next t, q, fun b H' M' t' q => k b H' M' (t.trans t') q⟩
  | false => exact k false H1 M1 t q
theorem aw_or (ha : AT X W a A) (hb : AW X W (.BoolOp .Or (b :: rest) pos) B) : AW X W (.BoolOp .Or (a :: b :: rest) pos) (aOr A B) := PW.imp (pw_or ha hb) fun σ H Q h => by
  obtain ⟨ax, env, M, Qa, S, q, k⟩ := h
  refine ⟨ax, env, M, _, S, q, fun c H1 M1 t q => ?_⟩
  cases c with
  | false => exact ⟨ax, env, M1, Qa, S.next t, q, fun b H' M' t' q => k b H' M' (t.trans t') q⟩
  | true => exact k true H1 M1 t q
theorem at_w (h : AW X W a A) : AT X W a A := PW.pt h
theorem at_not (ha : AT X W a A) : AT X W (.UnaryOp .Not a pos) (aNot A) := PT.imp (pt_not ha) fun σ H Q h => by
  obtain ⟨ax, env, M, Qa, S, q, k⟩ := h
  exact ⟨ax, env, M, _, S, q, fun c H1 M1 t q => k _ H1 M1 t q⟩
/-- a op1 b op2 c -/
def aChain (ρ ρ' : AR2) (a b c : ATE) : ATE := fun ax env M Q => a ax env M fun x M1 => b ax env M1 fun y M2 => ρ x y M2 fun z M3 => match z with
  | .bl k => if k = true then c ax env M3 fun w M4 => ρ' y w M4 Q else Q (.bl false) M3
  | _ => False
theorem s_chain {K : PySem.W.Frag} {r r' : R2} {ρ ρ' : AR2} (hr : SimR K r ρ) (hr' : SimR K r' ρ') {σ : L2.St} {H : Hp} {Q : VK} (h : cE K W (aChain ρ ρ' α β γ) σ H Q) : tChain r r' (cE K W α) (cE K W β) (cE K W γ) σ H Q := by
  obtain ⟨ax, env, M, Qa, S, q, k⟩ := h
  refine ⟨ax, env, M, _, S, q, fun x H1 dx M1 t1 r1 q1 => ?_⟩
  refine ⟨ax, env, M1, _, S.next t1, q1, fun y H2 dy M2 t2 r2 q2 => ?_⟩
  refine hr x y dx dy H2 M2 _ _ t2.abs (t2.rep t1.abs r1) r2 q2 fun z H3 dz M3 t3 r3 q3 => ?_
  cases dz with
  | bl b =>
    cases (show z = V.bl b from r3)
    refine ⟨b, rfl, ?_⟩
    cases b with
    | true =>
      refine ⟨ax, env, M3, _, ((S.next t1).next t2).next t3, q3, fun w H4 dw M4 t4 r4 q4 => ?_⟩
      exact hr' y w dy dw H4 M4 Qa _ t4.abs (t4.rep t3.abs (t3.rep t2.abs r2)) r4 q4 fun v H' d M' t5 r5 q5 => k v H' d M' ((((t1.trans t2).trans t3).trans t4).trans t5) r5 q5
    | false => exact k _ H3 (.bl false) M3 ((t1.trans t2).trans t3) rfl q3
  | _ => exact False.elim q3
theorem ae_chain {op op' : CmpOp} {r r' : R2} {ρ ρ' : AR2} (ho : OpR X (compareOp op) r) (ho' : OpR X (compareOp op') r') (hr : SimR X.K r ρ) (hr' : SimR X.K r' ρ') (ha : AE X W a α) (hb : AE X W b β) (hc : AE X W c γ)
    (hm : lastMarks [op, op'] [b, c] = false := by rfl) : AE X W (.Compare a [op, op'] [b, c] pos) (aChain ρ ρ' α β γ) := PE.imp (pe_chain ho ho' ha hb hc hm) fun _ _ _ => s_chain hr hr'
theorem at_chain {op op' : CmpOp} {r r' : R2} {ρ ρ' : AR2} (ho : OpR X (compareOp op) r) (ho' : OpR X (compareOp op') r') (hr : SimR X.K r ρ) (hr' : SimR X.K r' ρ') (ha : AE X W a α) (hb : AE X W b β) (hc : AE X W c γ)
    (hm : lastMarks [op, op'] [b, c] = false := by rfl) : AT X W (.Compare a [op, op'] [b, c] pos) (aTest (aChain ρ ρ' α β γ)) := PT.imp (pt_chain ho ho' ha hb hc hm) fun σ H Q h => by
  obtain ⟨ax, env, M, Qa, S, q, k⟩ := h
  refine s_chain (W := W) (α := α) (β := β) (γ := γ) hr hr' ⟨ax, env, M, _, S, q, fun v H' d M' t r q => ?_⟩
  cases d with
  | bl b => cases (show v = V.bl b from r); exact ⟨b, rfl, k b H' M' t q⟩
  | _ => exact False.elim q
/-! as values, by truth -/
def aTru1 (d : D) (M : Sto) (Q : Bool → Prop) : Prop := match d with
  | .non => Q false
  | .bl b => Q b
  | .int i => Q (i != 0)
  | .str z => z.length ≤ sizeLine ∧ Q ((z.length : Int) != 0)
  | .tup ds => Q (!ds.isEmpty)
  | .obj p => match M p with
    | some (.lst ds) => Q (!ds.isEmpty)
    | some (.dic kvs) => Q (!kvs.isEmpty)
    | _ => False
  | .fl _ => False
theorem tru1_rep {K : PySem.W.Frag} {M : Sto} {H : Hp} (ab : Abs K M H) {d : D} {v : V} (r : Rep K H d v) {Q : Bool → Prop} (q : aTru1 d M Q) : ∃ k, TruV K v H k ∧ Q k := by
  cases d with
  | non => cases (show v = V.non from r); exact ⟨false, rfl, q⟩
  | bl b => cases (show v = V.bl b from r); exact ⟨b, rfl, q⟩
  | int i => cases (show v = V.int i from r); exact ⟨_, rfl, q⟩
  | str z => cases (show v = V.str z from r); exact ⟨_, ⟨q.1, rfl⟩, q.2⟩
  | tup ds =>
    obtain ⟨p, vs, rfl, hp, hv⟩ := r
    exact ⟨_, .inr (.inl ⟨vs, hp, by rw [isEmpty_rep hv]⟩), q⟩
  | obj p =>
    cases (show v = V.ref p from r)
    have q' : (match M p with | some (.lst ds) => Q (!ds.isEmpty) | some (.dic kvs) => Q (!kvs.isEmpty) | _ => False) := q
    split at q'
    · rename_i m
      obtain ⟨vs, h1, hv⟩ := ab p _ m
      exact ⟨_, .inl ⟨vs, SqL.of h1, by rw [isEmpty_rep hv]⟩, q'⟩
    · rename_i m
      obtain ⟨vs, h1, hv⟩ := ab p _ m
      exact ⟨_, .inr (.inr ⟨vs, h1, by rw [isEmpty_repK hv]⟩), q'⟩
    · exact q'.elim
  | fl ds => exact False.elim q
def aOrV (a b : ATE) : ATE := fun ax env M Q => a ax env M fun x M1 => aTru1 x M1 fun k => if k = true then Q x M1 else b ax env M1 Q
def aAndV (a b : ATE) : ATE := fun ax env M Q => a ax env M fun x M1 => aTru1 x M1 fun k => if k = true then b ax env M1 Q else Q x M1
def aNotV (a : ATE) : ATE := fun ax env M Q => a ax env M fun x M1 => aTru1 x M1 fun k => Q (.bl (!k)) M1
theorem ae_one {op} (h : AE X W a α) : AE X W (.BoolOp op [a] pos) α := pe_one h
theorem ae_or (ha : AE X W a α) (hb : AE X W (.BoolOp .Or (b :: rest) pos) β) : AE X W (.BoolOp .Or (a :: b :: rest) pos) (aOrV α β) := PE.imp (pe_orT ha hb) fun σ H Q h => by
  obtain ⟨ax, env, M, Qa, S, q, k⟩ := h
  refine ⟨ax, env, M, _, S, q, fun x H1 dx M1 t r q => ?_⟩
  obtain ⟨b, tv, q⟩ := tru1_rep t.abs r q
  refine ⟨b, tv, ?_⟩
  cases b with
  | true => exact k x H1 dx M1 t r q
  | false => exact ⟨ax, env, M1, Qa, S.next t, q, fun v H' d M' t' r' q => k v H' d M' (t.trans t') r' q⟩
theorem ae_and (ha : AE X W a α) (hb : AE X W (.BoolOp .And (b :: rest) pos) β) : AE X W (.BoolOp .And (a :: b :: rest) pos) (aAndV α β) := PE.imp (pe_andT ha hb) fun σ H Q h => by
  obtain ⟨ax, env, M, Qa, S, q, k⟩ := h
  refine ⟨ax, env, M, _, S, q, fun x H1 dx M1 t r q => ?_⟩
  obtain ⟨b, tv, q⟩ := tru1_rep t.abs r q
  refine ⟨b, tv, ?_⟩
  cases b with
  | false => exact k x H1 dx M1 t r q
  | true => exact ⟨ax, env, M1, Qa, S.next t, q, fun v H' d M' t' r' q => k v H' d M' (t.trans t') r' q⟩
theorem ae_not (ha : AE X W a α) : AE X W (.UnaryOp .Not a pos) (aNotV α) := PE.imp (pe_notT ha) fun σ H Q h => by
  obtain ⟨ax, env, M, Qa, S, q, k⟩ := h
  refine ⟨ax, env, M, _, S, q, fun x H1 dx M1 t r q => ?_⟩
  obtain ⟨b, tv, q⟩ := tru1_rep t.abs r q
  exact ⟨b, tv, k _ H1 (.bl (!b)) M1 t rfl q⟩
def aIfE (A : ATT) (a b : ATE) : ATE := fun ax env M Q => A ax env M fun c M1 => if c = true then a ax env M1 Q else b ax env M1 Q
theorem ae_ifExp (hc : AT X W c A) (ha : AE X W a α) (hb : AE X W b β) : AE X W (.IfExp c a b pos) (aIfE A α β) := PE.imp (pe_ifExp hc ha hb) fun σ H Q h => by
  obtain ⟨ax, env, M, Qa, S, q, k⟩ := h
  refine ⟨ax, env, M, _, S, q, fun c H1 M1 t q => ?_⟩
  cases c with
  | true => exact ⟨ax, env, M1, Qa, S.next t, q, fun v H' d M' t' r q => k v H' d M' (t.trans t') r q⟩
  | false => exact ⟨ax, env, M1, Qa, S.next t, q, fun v H' d M' t' r q => k v H' d M' (t.trans t') r q⟩
def aNeg (a : ATE) : ATE := fun ax env M Q => a ax env M fun x M1 => match x with
  | .int i => Q (.int (-i)) M1
  | _ => False
theorem ae_neg (ha : AE X W a α) : AE X W (.UnaryOp .USub a pos) (aNeg α) := PE.imp (pe_un un_neg ha) fun σ H Q h => by
  obtain ⟨ax, env, M, Qa, S, q, k⟩ := h
  refine ⟨ax, env, M, _, S, q, fun x H1 dx M1 t r q => ?_⟩
  cases dx with
  | int i => cases (show x = V.int i from r); exact ⟨i, rfl, k _ H1 (.int (-i)) M1 t rfl q⟩
  | _ => exact False.elim q
end

/-! ### arguments, displays, calls -/
section
variable {W : WX} {X : Cx} {e : Expr} {es : List Expr} {α β : ATE} {τ : ATA} {pos : Pos} {x : Str} {p : Pos}
def aNil : ATA := fun _ _ M Q => Q [] M
def aCons (a : ATE) (r : ATA) : ATA := fun ax env M Q => a ax env M fun x M1 => r ax env M1 fun xs M2 => Q (x :: xs) M2
theorem aa_nil : AA X W [] aNil := PA.imp pa_nil fun σ H Q h => by
  obtain ⟨ax, env, M, Qa, S, q, k⟩ := h
  exact k [] H [] M (Tr.refl S.abs) rfl q
theorem aa_cons (ha : AE X W e α) (hr : AA X W es τ) (hs : starEach (e :: es) X.env = (false, eval e X.env) :: starEach es X.env := by rfl) : AA X W (e :: es) (aCons α τ) := PA.imp (pa_cons ha hr hs) fun σ H Q h => by
  obtain ⟨ax, env, M, Qa, S, q, k⟩ := h
  refine ⟨ax, env, M, _, S, q, fun v H1 d M1 t r q => ?_⟩
  exact ⟨ax, env, M1, _, S.next t, q, fun vs H2 ds M2 t2 r2 q2 => k (v :: vs) H2 (d :: ds) M2 (t.trans t2) ⟨v, vs, rfl, t2.rep t.abs r, r2⟩ q2⟩
def aTup (τ : ATA) : ATE := fun ax env M Q => τ ax env M fun ds M1 => ds.length ≤ sizeLine ∧ Q (.tup ds) M1
def aLst (τ : ATA) : ATE := fun ax env M Q => τ ax env M fun ds M1 => ds.length ≤ sizeLine ∧ New (.lst ds) M1 Q
theorem ae_tup {x1} (h : AA X W es τ) : AE X W (.Tuple es x1 pos) (aTup τ) := PE.imp (pe_tup h) fun σ H Q h => by
  obtain ⟨ax, env, M, Qa, S, q, k⟩ := h
  refine ⟨ax, env, M, _, S, q, fun vs H1 ds M1 t r q => ?_⟩
  refine ⟨by rw [← r.length]; exact q.1, fun p hp => ?_⟩
  exact k _ _ (.tup ds) M1 (t.trans (Tr.newT t.abs hp)) (rep_newT hp r) q.2
theorem ae_lst (h : AA X W es τ) : AE X W (.List es pos) (aLst τ) := PE.imp (pe_lst h) fun σ H Q h => by
  obtain ⟨ax, env, M, Qa, S, q, k⟩ := h
  refine ⟨ax, env, M, _, S, q, fun vs H1 ds M1 t r q => ?_⟩
  refine ⟨by rw [← r.length]; exact q.1, fun p hp => ?_⟩
  exact k _ _ (.obj p) _ (t.trans (Tr.newM (mo := .lst ds) t.abs hp ⟨vs, upd_same, repL_new hp r⟩)) rfl (q.2 p (t.abs.fresh hp))
/-- {} -/
def aDNew : ATE := fun _ _ M Q => New (.dic []) M Q
theorem ae_dnew : AE X W (.Dict [] [] pos) aDNew := PE.imp pe_dnewK fun σ H Q h => by
  obtain ⟨ax, env, M, Qa, S, q, k⟩ := h
  intro p hp
  exact k _ _ (.obj p) _ (Tr.newM (mo := .dic []) S.abs hp ⟨[], upd_same, .nil⟩) rfl (q p (S.abs.fresh hp))
/-! a def's promise over data -/
abbrev ASp := List D → Sto → (D → Sto → Prop) → (Value → List (Str × D) → Sto → Prop) → Prop
def conc (K : PySem.W.Frag) (n : Nat) (A : ASp) : Sp := fun vs H Q E => ∃ ds M Qa Xa, vs.length = n ∧ RepL K H ds vs ∧ Abs K M H ∧ A ds M Qa Xa ∧ (∀ v H' d M', Tr K M H M' H' → Rep K H' d v → Qa d M' → Q v H') ∧
  ∀ cls d H' M' fs, Tr K M H M' H' → RepX K H' d fs → Xa cls fs M' → E cls d H'
def xa0 : Value → List (Str × D) → Sto → Prop := fun _ _ _ => False
def Wait (n : Nat) (A : ASp) (ds : List D) (M : Sto) (Q : D → Sto → Prop) : Prop := ds.length = n ∧ A ds M Q xa0
/-- a call that lets nothing out; one that may -/
def aCall (n : Nat) (A : ASp) (τ : ATA) : ATE := fun ax env M Q => τ ax env M fun ds M1 => Wait n A ds M1 Q
def aCallX (n : Nat) (A : ASp) (τ : ATA) : ATE := fun ax env M Q => τ ax env M fun ds M1 => ds.length = n ∧ A ds M1 Q fun cls fs M2 => ax cls fs env M2
variable {CX : CXT} {k : Nat} {f : Addr} {fd : FuncData} {ps : List Str} {A : ASp} {n : Nat}
theorem s_call {K : PySem.W.Frag} {σ : L2.St} {H : Hp} {Q : VK} (h : cE K W (aCall n A τ) σ H Q) : tCall (conc K n A) [] E0 (cA K W τ) σ H Q := by
  obtain ⟨ax, env, M, Qa, S, q, k⟩ := h
  refine ⟨ax, env, M, _, S, q, fun vs H1 ds M1 t r q => ?_⟩
  show conc K n A (vs ++ []) H1 Q E0
  rw [List.append_nil]
  exact ⟨ds, M1, Qa, xa0, by rw [← r.length]; exact q.1, r, t.abs, q.2, fun v H' d M' t' r' q' => k v H' d M' (t.trans t') r' q', fun cls d H' M' fs t' rx q' => q'.elim⟩
theorem s_callX {K : PySem.W.Frag} {E : XK} (hE : ∀ σ cls d H, W cls d σ H → E cls d H) {σ : L2.St} {H : Hp} {Q : VK} (h : cE K W (aCallX n A τ) σ H Q) : tCall (conc K n A) [] E (cA K W τ) σ H Q := by
  obtain ⟨ax, env, M, Qa, S, q, k⟩ := h
  refine ⟨ax, env, M, _, S, q, fun vs H1 ds M1 t r q => ?_⟩
  show conc K n A (vs ++ []) H1 Q E
  rw [List.append_nil]
  refine ⟨ds, M1, Qa, _, by rw [← r.length]; exact q.1, r, t.abs, q.2, fun v H' d M' t' r' q' => k v H' d M' (t.trans t') r' q', fun cls d H' M' fs t' rx q' => ?_⟩
  exact hE σ cls d H' ((S.next t).xc σ env H' M' cls d fs t' ((S.next t).next t').rs rx q')
/-- f(e, ..), f lets nothing out -/
theorem ae_call (F : FnOk X.prog X.w X.K X.mg X.base CX0 k f fd ps (conc X.K n A)) (hr : Room k X.A) (hg : Gl X x) (hm : X.mg x = some (.ref f)) (hk : PySem.W.keepIn X.K (.ref f) = true) (hb : Binds X.K fd ps [])
    (ha : AA X W (e :: es) τ) (hdb : (x == ("__debug__" : Str)) = false := by decide) (he : starEach (e :: es) X.env = (false, eval e X.env) :: starEach es X.env := by rfl) (hpl : (backTo pos (starEach es X.env)).any (·.1) = false := by rfl) :
    AE X W (.Call (.Name x p) (e :: es) [] pos) (aCall n A τ) :=
  PE.imp (pe_call F hr hg hm hk hb .nil pass0 ha hdb he hpl) fun _ _ _ => s_call
theorem ae_callX (tk : Takes X W) (hE : ∀ σ σ' cls d H, W cls d σ H → W cls d σ' H) (F : FnOk X.prog X.w X.K X.mg X.base (L2.CX X.prog X.w) k f fd ps (conc X.K n A)) (hr : Room k X.A) (hg : Gl X x) (hm : X.mg x = some (.ref f)) (hk : PySem.W.keepIn X.K (.ref f) = true) (hb : Binds X.K fd ps [])
    (ha : AA X W (e :: es) τ) (hdb : (x == ("__debug__" : Str)) = false := by decide) (he : starEach (e :: es) X.env = (false, eval e X.env) :: starEach es X.env := by rfl) (hpl : (backTo pos (starEach es X.env)).any (·.1) = false := by rfl) :
    AE X W (.Call (.Name x p) (e :: es) [] pos) (aCallX n A τ) :=
  PE.imp (pe_call (E := fun cls d H => W cls d [] H) F hr hg hm hk hb .nil (passes_call tk fun cls d σ H h => hE [] σ cls d H h) ha hdb he hpl) fun _ _ _ => s_callX fun σ cls d H h => hE σ [] cls d H h
/-! built-ins -/
def aCB (ρ : ARs) (τ : ATA) : ATE := fun ax env M Q => τ ax env M fun ds M1 => ρ ds M1 Q
theorem s_cb {K : PySem.W.Frag} {r : List V → Hp → VK → Prop} {ρ : ARs} (hr : SimC K r ρ) {σ : L2.St} {H : Hp} {Q : VK} (h : cE K W (aCB ρ τ) σ H Q) : tCB r (cA K W τ) σ H Q := by
  obtain ⟨ax, env, M, Qa, S, q, k⟩ := h
  refine ⟨ax, env, M, _, S, q, fun vs H1 ds M1 t r' q => ?_⟩
  exact hr vs ds H1 M1 Qa _ t.abs r' q fun v H' d M' t' r2 q' => k v H' d M' (t.trans t') r2 q'
variable {id T : String} {r : List V → Hp → VK → Prop} {ρ : ARs}
theorem ae_callB (hc : CallR X (.builtin id) r) (hs : SimC X.K r ρ) (hg : Gl X x) (hm : X.mg x = none) (hv : bootBuiltins x = some (.builtin id)) (ha : AA X W (e :: es) τ) (hn : x ≠ "__name__" := by decide) (hdb : (x == ("__debug__" : Str)) = false := by decide)
    (he : starEach (e :: es) X.env = (false, eval e X.env) :: starEach es X.env := by rfl) (hpl : (backTo pos (starEach es X.env)).any (·.1) = false := by rfl) : AE X W (.Call (.Name x p) (e :: es) [] pos) (aCB ρ τ) :=
  PE.imp (pe_callB hc hg hm hv ha hn hdb he hpl) fun _ _ _ => s_cb hs
theorem ae_callTy (hc : CallR X (.type T) r) (hs : SimC X.K r ρ) (hg : Gl X x) (hm : X.mg x = none) (hv : bootBuiltins x = some (.type T)) (ha : AA X W (e :: es) τ) (hn : x ≠ "__name__" := by decide) (hdb : (x == ("__debug__" : Str)) = false := by decide)
    (he : starEach (e :: es) X.env = (false, eval e X.env) :: starEach es X.env := by rfl) (hpl : (backTo pos (starEach es X.env)).any (·.1) = false := by rfl) : AE X W (.Call (.Name x p) (e :: es) [] pos) (aCB ρ τ) :=
  PE.imp (pe_callTy hc hg hm hv ha hn hdb he hpl) fun _ _ _ => s_cb hs
variable {K : PySem.W.Frag}
/-- len -/
def rLenA (K : PySem.W.Frag) : List V → Hp → VK → Prop := fun xs H Q => (∃ p ys, xs = [.ref p] ∧ (SqL K H p ys ∨ SqT K H p ys) ∧ Q (.int ys.length) H) ∨ (∃ z, xs = [.str z] ∧ z.length ≤ sizeLine ∧ Q (.int z.length) H)
theorem call_lenA : CallR X (.builtin "len") (rLenA X.K) := call_len_seq.or call_len_str
def ρLen : ARs := fun ds M Q => match ds with
  | [.tup ds] => Q (.int ds.length) M
  | [.str z] => z.length ≤ sizeLine ∧ Q (.int z.length) M
  | [.fl ds] => Q (.int ds.length) M
  | [.obj p] => lstAt M p fun ds => Q (.int ds.length) M
  | _ => False
theorem repL1 {H : Hp} {d : D} {xs : List V} (h : RepL K H [d] xs) : ∃ v, xs = [v] ∧ Rep K H d v := by
  obtain ⟨v, r, rfl, h1, h2⟩ := h
  cases (show r = [] from h2)
  exact ⟨v, rfl, h1⟩
theorem repL2 {H : Hp} {d e : D} {xs : List V} (h : RepL K H [d, e] xs) : ∃ v w, xs = [v, w] ∧ Rep K H d v ∧ Rep K H e w := by
  obtain ⟨v, r, rfl, h1, h2⟩ := h
  obtain ⟨w, rfl, h3⟩ := repL1 h2
  exact ⟨v, w, rfl, h1, h3⟩
theorem sim_len : SimC K (rLenA K) ρLen := by
  intro xs ds H M Q Qc ab rx q k
  unfold ρLen at q
  split at q
  · obtain ⟨v, rfl, r1⟩ := repL1 rx
    obtain ⟨p, vs, rfl, hp, hv⟩ := r1
    exact .inl ⟨p, vs, rfl, .inr hp, k _ H (.int _) M (Tr.refl ab) rfl (by rw [← hv.length]; exact q)⟩
  · obtain ⟨v, rfl, r1⟩ := repL1 rx
    cases (show v = V.str _ from r1)
    exact .inr ⟨_, rfl, q.1, k _ H (.int _) M (Tr.refl ab) rfl q.2⟩
  · obtain ⟨v, rfl, r1⟩ := repL1 rx
    obtain ⟨p, vs, rfl, hp, hv⟩ := r1
    exact .inl ⟨p, vs, rfl, .inl hp.l, k _ H (.int _) M (Tr.refl ab) rfl (by rw [← hv.length]; exact q)⟩
  · obtain ⟨v, rfl, r1⟩ := repL1 rx
    cases (show v = V.ref _ from r1)
    obtain ⟨ds, m, q⟩ := lstAt_ex q
    obtain ⟨vs, h1, hv⟩ := ab _ _ m
    exact .inl ⟨_, vs, rfl, .inl (SqL.of h1), k _ H (.int _) M (Tr.refl ab) rfl (by rw [← hv.length]; exact q)⟩
  · exact q.elim
/-- int(n) -/
def ρInt : ARs := fun ds M Q => match ds with
  | [.int i] => Q (.int i) M
  | [.bl b] => Q (.int (if b then 1 else 0)) M
  | _ => False
theorem sim_int : SimC K (fun xs H Q => (∃ i, xs = [.int i] ∧ Q (.int i) H) ∨ ∃ k, xs = [.bl k] ∧ Q (.int (if k then 1 else 0)) H) ρInt := by
  intro xs ds H M Q Qc ab rx q k
  unfold ρInt at q
  split at q
  · obtain ⟨v, rfl, r1⟩ := repL1 rx
    cases (show v = V.int _ from r1)
    exact .inl ⟨_, rfl, k _ H (.int _) M (Tr.refl ab) rfl q⟩
  · obtain ⟨v, rfl, r1⟩ := repL1 rx
    cases (show v = V.bl _ from r1)
    exact .inr ⟨_, rfl, k _ H (.int _) M (Tr.refl ab) rfl q⟩
  · exact q.elim
/-- tuple(xs), list(xs) -/
def ρTuple : ARs := fun ds M Q => match ds with
  | [.tup ds] => Q (.tup ds) M
  | [.obj p] => lstAt M p fun ds => Q (.tup ds) M
  | _ => False
theorem sim_tuple : SimC K (fun xs H Q => ∃ p ys, xs = [.ref p] ∧ ((SqL K H p ys ∧ ∀ l, H l = none → Q (.ref l) (upd H l (.tup ys))) ∨ (SqT K H p ys ∧ Q (.ref p) H))) ρTuple := by
  intro xs ds H M Q Qc ab rx q k
  unfold ρTuple at q
  split at q
  · obtain ⟨v, rfl, r1⟩ := repL1 rx
    obtain ⟨p, vs, rfl, hp, hv⟩ := r1
    exact ⟨p, vs, rfl, .inr ⟨hp, k _ H (.tup _) M (Tr.refl ab) ⟨p, vs, rfl, hp, hv⟩ q⟩⟩
  · obtain ⟨v, rfl, r1⟩ := repL1 rx
    cases (show v = V.ref _ from r1)
    obtain ⟨ds, m, q⟩ := lstAt_ex q
    obtain ⟨vs, h1, hv⟩ := ab _ _ m
    exact ⟨_, vs, rfl, .inl ⟨SqL.of h1, fun l hl => k _ _ (.tup ds) M (Tr.newT ab hl) (rep_newT hl hv) q⟩⟩
  · exact q.elim
def ρList : ARs := fun ds M Q => match ds with
  | [.tup ds] => New (.lst ds) M Q
  | [.obj p] => lstAt M p fun ds => New (.lst ds) M Q
  | _ => False
theorem sim_list : SimC K (fun xs H Q => ∃ p ys, xs = [.ref p] ∧ (SqL K H p ys ∨ SqT K H p ys) ∧ ∀ l, H l = none → Q (.ref l) (upd H l (.lst ys))) ρList := by
  intro xs ds H M Q Qc ab rx q k
  unfold ρList at q
  split at q
  · rename_i ds
    obtain ⟨v, rfl, r1⟩ := repL1 rx
    obtain ⟨p, vs, rfl, hp, hv⟩ := r1
    exact ⟨p, vs, rfl, .inr hp, fun l hl => k _ _ (.obj l) _ (Tr.newM (mo := .lst ds) ab hl ⟨vs, upd_same, repL_new hl hv⟩) rfl (q l (ab.fresh hl))⟩
  · obtain ⟨v, rfl, r1⟩ := repL1 rx
    cases (show v = V.ref _ from r1)
    obtain ⟨ds, m, q⟩ := lstAt_ex q
    obtain ⟨vs, h1, hv⟩ := ab _ _ m
    exact ⟨_, vs, rfl, .inl (SqL.of h1), fun l hl => k _ _ (.obj l) _ (Tr.newM (mo := .lst ds) ab hl ⟨vs, upd_same, repL_new hl hv⟩) rfl (q l (ab.fresh hl))⟩
  · exact q.elim
/-! isinstance(x, T) -/
def tyN (M : Sto) : D → String
  | .non => "NoneType" | .bl _ => "bool" | .int _ => "int" | .str _ => "str" | .tup _ => "tuple"
  | .obj p => match M p with
    | some (.lst _) => "list"
    | some (.dic _) => "dict"
    | _ => ""
  | .fl _ => ""
def aIsi (T : String) (a : ATE) : ATE := fun ax env M Q => a ax env M fun x M1 => optAt (kitB (tyN M1 x) T) fun b => Q (.bl b) M1
theorem rep_ty {M : Sto} {H : Hp} (ab : Abs K M H) {d : D} {v : V} (h : Rep K H d v) (hne : tyN M d ≠ "") : TyX K H v (.type (tyN M d)) := by
  cases d with
  | non => cases (show v = V.non from h); exact .base .non
  | bl b => cases (show v = V.bl b from h); exact .base (.bl b)
  | int b => cases (show v = V.int b from h); exact .base (.int b)
  | str b => cases (show v = V.str b from h); exact .base (.str b)
  | tup ds =>
    obtain ⟨a, vs, rfl, hT, _⟩ := h
    rcases hT with (hT | ⟨o, hT⟩) | ⟨o, its, n, hk, hc, _⟩
    · exact .base (.tup hT)
    · exact .fTuple hT
    · exact .kTuple hk hc
  | obj p =>
    cases (show v = V.ref p from h)
    cases m : M p with
    | none =>
      refine absurd ?_ hne
      show (match M p with | some (.lst _) => "list" | some (.dic _) => "dict" | _ => "") = ""
      rw [m]
    | some mo =>
      have z := ab p mo m
      cases mo with
      | lst ds =>
        obtain ⟨vs, h1, _⟩ := z
        have e : tyN M (.obj p) = "list" := by
          show (match M p with | some (.lst _) => "list" | some (.dic _) => "dict" | _ => "") = "list"
          rw [m]
        rw [e]
        exact .base (.lst h1)
      | dic ds =>
        obtain ⟨vs, h1, _⟩ := z
        have e : tyN M (.obj p) = "dict" := by
          show (match M p with | some (.lst _) => "list" | some (.dic _) => "dict" | _ => "") = "dict"
          rw [m]
        rw [e]
        exact .base (.dK h1)
      | raw o =>
        refine absurd ?_ hne
        show (match M p with | some (.lst _) => "list" | some (.dic _) => "dict" | _ => "") = ""
        rw [m]
      | dif od ws kvs =>
        refine absurd ?_ hne
        show (match M p with | some (.lst _) => "list" | some (.dic _) => "dict" | _ => "") = ""
        rw [m]
  | fl ds => exact absurd rfl hne
theorem ae_isi {y : Str} {py : Pos} {α : ATE} (hg : Gl X x) (hm : X.mg x = none) (hv : bootBuiltins x = some (.builtin "isinstance")) (ha : AE X W e α) (gy : Gl X y) (my : X.mg y = none) (vy : bootBuiltins y = some (.type T)) (hT : ∀ b, kitB "" T ≠ some b)
    (ny : y ≠ "__name__" := by decide) (dy : (y == ("__debug__" : Str)) = false := by decide) (hn : x ≠ "__name__" := by decide) (hdb : (x == ("__debug__" : Str)) = false := by decide)
    (h1 : starEach [e, .Name y py] X.env = (false, eval e X.env) :: starEach [.Name y py] X.env := by rfl) (h2 : starEach [.Name y py] X.env = (false, eval (.Name y py) X.env) :: starEach [] X.env := by rfl) (hpl : (backTo pos (starEach [.Name y py] X.env)).any (·.1) = false := by rfl) :
    AE X W (.Call (.Name x p) [e, .Name y py] [] pos) (aIsi T α) :=
  PE.imp (pe_callB call_isi hg hm hv (pa_cons ha (pa_cons (pe_bltn (v := .ty T) gy my vy rfl ny dy) pa_nil h2) h1) hn hdb h1 hpl) fun σ H Q h => by
    obtain ⟨ax, env, M, Qa, S, q, k⟩ := h
    refine ⟨ax, env, M, _, S, q, fun v H1 d M1 t r q => ?_⟩
    obtain ⟨b, e, q⟩ := optAt_ex q
    refine ⟨v, .ty T, .type (tyN M1 d), .type T, b, rfl, .ty T, rep_ty t.abs r fun z => ?_, kit_ty e, k _ H1 (.bl b) M1 t rfl q⟩
    rw [z] at e
    exact hT b e
end

/-! ### slices -/
section
variable {W : WX} {X : Cx} {e : Expr} {α β : ATE} {pos : Pos} {K : PySem.W.Frag}
abbrev ATO := AX → AEnv → Sto → (Option Int → Sto → Prop) → Prop
def cO (K : PySem.W.Frag) (W : WX) (a : ATO) : TO := fun σ H Q => ∃ ax env M Qa, Stt K W ax env M σ H ∧ a ax env M Qa ∧ ∀ o H' M', Tr K M H M' H' → Qa o M' → Q o H'
abbrev AO (X : Cx) (W : WX) (e : Option Expr) (a : ATO) : Prop := PO X e (cO X.K W a)
theorem PO.imp {X : Cx} {e : Option Expr} {t u : TO} (h : PO X e t) (k : ∀ σ H Q, u σ H Q → t σ H Q) : PO X e u := ⟨fun pins s σ H Q I q => h.run pins s σ H Q I (k σ H Q q)⟩
def aONone : ATO := fun _ _ M Q => Q none M
def aOSome (a : ATE) : ATO := fun ax env M Q => a ax env M fun x M1 => match x with
  | .int i => Q (some i) M1
  | _ => False
theorem ao_none : AO X W none aONone := PO.imp po_none fun σ H Q h => by
  obtain ⟨ax, env, M, Qa, S, q, k⟩ := h
  exact k none H M (Tr.refl S.abs) q
theorem ao_some (ha : AE X W e α) : AO X W (some e) (aOSome α) := PO.imp (po_some ha) fun σ H Q h => by
  obtain ⟨ax, env, M, Qa, S, q, k⟩ := h
  refine ⟨ax, env, M, _, S, q, fun x H1 dx M1 t r q => ?_⟩
  cases dx with
  | int i => cases (show x = V.int i from r); exact ⟨i, rfl, k _ H1 M1 t q⟩
  | _ => exact False.elim q
def cutL {α : Type} (xs : List α) (lo hi : Option Int) : List α := (xs.drop (HT.sIx xs.length 0 lo)).take (HT.sIx xs.length xs.length hi - HT.sIx xs.length 0 lo)
theorem rep_cut {H : Hp} {ds : List D} {vs : List V} (h : RepL K H ds vs) (lo hi : Option Int) : RepL K H (cutL ds lo hi) (cutV vs lo hi) := by
  unfold cutL cutV
  rw [h.length]
  exact (h.drop _).take _
theorem cutV_whole {vs : List V} {lo hi : Option Int} (h : HT.sIx vs.length 0 lo = 0 ∧ HT.sIx vs.length vs.length hi = vs.length) : cutV vs lo hi = vs := by
  unfold cutV
  rw [h.1, h.2, List.drop_zero, Nat.sub_zero, List.take_length]
def rSlAny (K : PySem.W.Frag) : V → Option Int → Option Int → Hp → VK → Prop := fun x lo hi H Q => rSlL K x lo hi H Q ∨ rSlA K x lo hi H Q ∨ rSlS x lo hi H Q
theorem sl_any : SlR X (rSlAny X.K) := sl_list.or (sl_tupA.or sl_str)
def aSl (a : ATE) (l h : ATO) : ATE := fun ax env M Q => a ax env M fun x M1 => l ax env M1 fun lo M2 => h ax env M2 fun hi M3 => match x with
  | .tup ds => Q (.tup (cutL ds lo hi)) M3
  | .str z => z.length ≤ sizeLine ∧ Q (.str (cutS z lo hi)) M3
  | .obj p => lstAt M3 p fun ds => New (.lst (cutL ds lo hi)) M3 Q
  | _ => False
theorem ae_sl {lo hi : Option Expr} {l h : ATO} {p2 : Pos} (ha : AE X W e α) (hl : AO X W lo l) (hh : AO X W hi h) : AE X W (.Subscript e (.Slice lo hi none p2) pos) (aSl α l h) := PE.imp (pe_slice sl_any ha hl hh) fun σ H Q h => by
  obtain ⟨ax, env, M, Qa, S, q, k⟩ := h
  refine ⟨ax, env, M, _, S, q, fun x H1 dx M1 t1 r q => ?_⟩
  refine ⟨ax, env, M1, _, S.next t1, q, fun lo H2 M2 t2 q => ?_⟩
  refine ⟨ax, env, M2, _, (S.next t1).next t2, q, fun hi H3 M3 t3 q => ?_⟩
  have t := (t1.trans t2).trans t3
  have r' := t3.rep t2.abs (t2.rep t1.abs r)
  cases dx with
  | tup ds =>
    obtain ⟨p, vs, rfl, hp, hv⟩ := r'
    refine .inr (.inl ⟨p, vs, rfl, hp, fun w => ?_, fun w o ho => ?_⟩)
    · refine k _ H3 (.tup (cutL ds lo hi)) M3 t ⟨p, vs, rfl, hp, ?_⟩ q
      have z := rep_cut hv lo hi
      rw [cutV_whole w] at z
      exact z
    · exact k _ _ (.tup (cutL ds lo hi)) M3 (t.trans (Tr.newT t3.abs ho)) (rep_newT ho (rep_cut hv lo hi)) q
  | str z =>
    cases (show x = V.str z from r')
    exact .inr (.inr ⟨z, rfl, q.1, k _ H3 (.str _) M3 t rfl q.2⟩)
  | obj p =>
    cases (show x = V.ref p from r')
    obtain ⟨ds, m, q⟩ := lstAt_ex q
    obtain ⟨vs, h1, hv⟩ := t3.abs p _ m
    exact .inl ⟨p, vs, rfl, SqL.of h1, fun o ho => k _ _ (.obj o) _ (t.trans (Tr.newM (mo := .lst (cutL ds lo hi)) t3.abs ho ⟨_, upd_same, repL_new ho (rep_cut hv lo hi)⟩)) rfl (q o (t3.abs.fresh ho))⟩
  | _ => exact False.elim q
/-- xs[::-1] of a list -/
def aRev (a : ATE) : ATE := fun ax env M Q => a ax env M fun x M1 => match x with
  | .obj p => lstAt M1 p fun ds => New (.lst ds.reverse) M1 Q
  | _ => False
theorem ae_rev {k : Nat} {p1 p2 p3 : Pos} (ha : AE X W e α) : AE X W (.Subscript e (.Slice none none (some (.UnaryOp .USub (.Constant (.int 1) k p1) p2)) p3) pos) (aRev α) := PE.imp (pe_revL ha) fun σ H Q h => by
  obtain ⟨ax, env, M, Qa, S, q, k⟩ := h
  refine ⟨ax, env, M, _, S, q, fun x H1 dx M1 t r q => ?_⟩
  cases dx with
  | obj p =>
    cases (show x = V.ref p from r)
    obtain ⟨ds, m, q⟩ := lstAt_ex q
    obtain ⟨vs, h1, hv⟩ := t.abs p _ m
    exact ⟨p, vs, rfl, SqL.of h1, fun o ho => k _ _ (.obj o) _ (t.trans (Tr.newM (mo := .lst ds.reverse) t.abs ho ⟨_, upd_same, repL_new ho hv.reverse⟩)) rfl (q o (t.abs.fresh ho))⟩
  | _ => exact False.elim q
end

/-! ### methods of lists, texts, dicts -/
section
variable {W : WX} {X : Cx} {e : Expr} {es : List Expr} {o : Expr} {α β : ATE} {τ : ATA} {pos apos cpos : Pos} {name : Str} {K : PySem.W.Frag}
/-- o.m(..) of a list: at its place, with the arguments -/
def aLm (ρ : Addr → List D → List D → Sto → (D → Sto → Prop) → Prop) (a : ATE) (τ : ATA) : ATE := fun ax env M Q => a ax env M fun x M1 => match x with
  | .obj p => lstAt M1 p fun _ => τ ax env M1 fun xs M2 => lstAt M2 p fun ds => ρ p ds xs M2 Q
  | _ => False
def SimM (K : PySem.W.Frag) (r : V → List V → Hp → VK → Prop) (ρ : Addr → List D → List D → Sto → (D → Sto → Prop) → Prop) : Prop := ∀ p ds xs vs H M (Q : D → Sto → Prop) (Qc : VK), Abs K M H → M p = some (.lst ds) → RepL K H xs vs → ρ p ds xs M Q →
  (∀ v H' d M', Tr K M H M' H' → Rep K H' d v → Q d M' → Qc v H') → r (.ref p) vs H Qc
theorem s_lm {r : V → List V → Hp → VK → Prop} {ρ : Addr → List D → List D → Sto → (D → Sto → Prop) → Prop} (hr : SimM K r ρ) {σ : L2.St} {H : Hp} {Q : VK} (h : cE K W (aLm ρ α τ) σ H Q) : tBM K "list" r (cE K W α) (cA K W τ) σ H Q := by
  obtain ⟨ax, env, M, Qa, S, q, k⟩ := h
  refine ⟨ax, env, M, _, S, q, fun x H1 dx M1 t r q => ?_⟩
  cases dx with
  | obj p =>
    cases (show x = V.ref p from r)
    obtain ⟨ds, m, q⟩ := lstAt_ex q
    obtain ⟨vs, h1, hv⟩ := t.abs p _ m
    refine ⟨.inl ⟨rfl, _, SqL.of h1⟩, ax, env, M1, _, S.next t, q, fun vs H2 xs M2 t2 r2 q2 => ?_⟩
    obtain ⟨ds, m, q2⟩ := lstAt_ex q2
    exact hr p ds xs vs H2 M2 Qa _ t2.abs m r2 q2 fun v H' d M' t' r' q' => k v H' d M' ((t.trans t2).trans t') r' q'
  | _ => exact False.elim q
def ρAppend : Addr → List D → List D → Sto → (D → Sto → Prop) → Prop := fun p ds xs M Q => match xs with
  | [x] => ds.length < sizeLine ∧ Q .non (up M p (.lst (ds ++ [x])))
  | _ => False
theorem sim_append : SimM K rAppend ρAppend := by
  intro p ds xs vs H M Q Qc ab m rx q k
  unfold ρAppend at q
  split at q
  · rename_i x
    obtain ⟨v, rfl, r1⟩ := repL1 rx
    obtain ⟨ws, h1, hv⟩ := ab p _ m
    exact ⟨p, ws, v, rfl, rfl, h1, by rw [← hv.length]; exact q.1, k _ _ .non _ (Tr.write (mo := .lst (ds ++ [x])) ab m ⟨_, upd_same, repL_write ab m (hv.append (RepL.one r1))⟩) rfl q.2⟩
  · exact q.elim
def ρExtend : Addr → List D → List D → Sto → (D → Sto → Prop) → Prop := fun p ds xs M Q => match xs with
  | [.obj q] => lstAt M q fun es => ds.length + es.length ≤ sizeLine ∧ Q .non (up M p (.lst (ds ++ es)))
  | _ => False
theorem sim_extend : SimM K rExtend ρExtend := by
  intro p ds xs vs H M Q Qc ab m rx q k
  unfold ρExtend at q
  split at q
  · rename_i o
    obtain ⟨v, rfl, r1⟩ := repL1 rx
    cases (show v = V.ref o from r1)
    obtain ⟨es, m2, z, q⟩ := lstAt_ex q
    obtain ⟨ws, h1, hv⟩ := ab p _ m
    obtain ⟨us, h2, hw⟩ := ab o _ m2
    exact ⟨p, o, ws, us, rfl, rfl, h1, h2, by rw [← hv.length, ← hw.length]; exact z, k _ _ .non _ (Tr.write (mo := .lst (ds ++ es)) ab m ⟨_, upd_same, repL_write ab m (hv.append hw)⟩) rfl q⟩
  · exact q.elim
theorem ae_append (ha : AE X W o α) (hb : AA X W (e :: es) τ) (hbase : attributeBase o "append" X.env (eval o X.env) = eval o X.env := by rfl)
    (hfew : ((backTo cpos (starEach (e :: es) X.env)).all (fun x => !x.1) && (backToKw cpos (keywordEach [] X.env)).all (fun x => x.1.isSome)
      && decide ((e :: es).length + ([] : List Keyword).length + (if ([] : List Keyword).isEmpty then 0 else 1) < 30)) = true := by rfl)
    (hline : (apos.endLine == cpos.line) = true := by rfl) (hs : starEach (e :: es) X.env = (false, eval e X.env) :: starEach es X.env := by rfl) (hplain : (backTo cpos (starEach es X.env)).any (·.1) = false := by rfl) :
    AE X W (.Call (.Attribute o "append" apos) (e :: es) [] cpos) (aLm ρAppend α τ) :=
  PE.imp (pe_bm PySem.F.plainAttrs_list PySem.F.slot_list_append PySem.F.type_list_append mt_append ha hb hbase hfew hline hs hplain) fun _ _ _ => s_lm sim_append
theorem ae_extend (ha : AE X W o α) (hb : AA X W (e :: es) τ) (hbase : attributeBase o "extend" X.env (eval o X.env) = eval o X.env := by rfl)
    (hfew : ((backTo cpos (starEach (e :: es) X.env)).all (fun x => !x.1) && (backToKw cpos (keywordEach [] X.env)).all (fun x => x.1.isSome)
      && decide ((e :: es).length + ([] : List Keyword).length + (if ([] : List Keyword).isEmpty then 0 else 1) < 30)) = true := by rfl)
    (hline : (apos.endLine == cpos.line) = true := by rfl) (hs : starEach (e :: es) X.env = (false, eval e X.env) :: starEach es X.env := by rfl) (hplain : (backTo cpos (starEach es X.env)).any (·.1) = false := by rfl) :
    AE X W (.Call (.Attribute o "extend" apos) (e :: es) [] cpos) (aLm ρExtend α τ) :=
  PE.imp (pe_bm PySem.F.plainAttrs_list PySem.F.slot_list_extend PySem.F.type_list_extend mt_extend ha hb hbase hfew hline hs hplain) fun _ _ _ => s_lm sim_extend
/-- xs.pop() -/
def aPop (a : ATE) : ATE := fun ax env M Q => a ax env M fun x M1 => match x with
  | .obj p => lstAt M1 p fun ds => optAt ds.getLast? fun d => Q d (up M1 p (.lst ds.dropLast))
  | _ => False
theorem ae_pop (ha : AE X W o α) (hbase : attributeBase o "pop" X.env (eval o X.env) = eval o X.env := by rfl) (hline : (apos.endLine == cpos.line) = true := by rfl) : AE X W (.Call (.Attribute o "pop" apos) [] [] cpos) (aPop α) :=
  PE.imp (pe_bm0 PySem.F.plainAttrs_list PySem.F.slot_list_pop PySem.F.type_list_pop mt_pop ha hbase hline) fun σ H Q h => by
    obtain ⟨ax, env, M, Qa, S, q, k⟩ := h
    refine ⟨ax, env, M, _, S, q, fun x H1 dx M1 t r q => ?_⟩
    cases dx with
    | obj p =>
      cases (show x = V.ref p from r)
      obtain ⟨ds, m, q⟩ := lstAt_ex q
      obtain ⟨d, e, q⟩ := optAt_ex q
      rw [List.getLast?_eq_getElem?] at e
      obtain ⟨vs, h1, hv⟩ := t.abs p _ m
      obtain ⟨v, e', r1⟩ := hv.get e
      refine ⟨.inl ⟨rfl, _, SqL.of h1⟩, p, vs, v, rfl, rfl, h1, by rw [← hv.length]; exact e', ?_⟩
      exact k v _ d _ (t.trans (Tr.write (mo := .lst ds.dropLast) t.abs m ⟨_, upd_same, repL_write t.abs m hv.dropLast⟩)) (rep_write t.abs m r1) q
    | _ => exact False.elim q
/-- the texts of a list or tuple of texts -/
def strsOf : List D → Option (List Str)
  | [] => some []
  | .str x :: r => (strsOf r).map fun xs => x :: xs
  | _ :: _ => none
def strsM (M : Sto) : D → Option (List Str)
  | .tup ds => strsOf ds
  | .obj p => match M p with
    | some (.lst ds) => strsOf ds
    | _ => none
  | _ => none
theorem strsOf_eq : ∀ {ds : List D} {xs : List Str}, strsOf ds = some xs → ds = xs.map D.str
  | [], xs, e => by cases (Option.some.inj e); rfl
  | .str x :: r, xs, e => by
    obtain ⟨ys, e1, rfl⟩ := Option.map_eq_some_iff.mp (show (strsOf r).map (fun xs => x :: xs) = some xs from e)
    rw [strsOf_eq e1, List.map_cons]
  | .non :: _, _, e => by cases e
  | .bl _ :: _, _, e => by cases e
  | .int _ :: _, _, e => by cases e
  | .tup _ :: _, _, e => by cases e
  | .obj _ :: _, _, e => by cases e
theorem strsOf_map : ∀ (xs : List Str), strsOf (xs.map D.str) = some xs
  | [] => rfl
  | x :: xs => by show (strsOf (xs.map D.str)).map (fun ys => x :: ys) = _; rw [strsOf_map xs]; rfl
/-- sep.join(xs) -/
def aJoin (a b : ATE) : ATE := fun ax env M Q => a ax env M fun x M1 => match x with
  | .str z => b ax env M1 fun y M2 => optAt (strsM M2 y) fun xs => (xs.map (·.length)).sum + xs.length * z.length ≤ 16777216 ∧ Q (.str (Txt.join z xs)) M2
  | _ => False
end

/-! ### dicts -/
section
variable {W : WX} {X : Cx} {o i value : Expr} {α β γ : ATE} {pos pos' apos cpos : Pos} {K : PySem.W.Frag}
def keyD : D → Option Key
  | .int i => some (.inl i)
  | .str x => some (.inr x)
  | _ => none
theorem key_rep {H : Hp} {d : D} {v : V} {k : Key} (h : Rep K H d v) (e : keyD d = some k) : v = kV k := by
  cases d with
  | int i => cases (Option.some.inj e); exact h
  | str x => cases (Option.some.inj e); exact h
  | _ => cases e
def valA (kvs : List (Key × D)) (k : Key) : Option D := (kvs.find? fun kv => decide (kv.1 = k)).map (·.2)
def putA (kvs : List (Key × D)) (k : Key) (v : D) : List (Key × D) :=
  if (kvs.any fun kv => decide (kv.1 = k)) = true then kvs.map (fun kv => if kv.1 = k then (kv.1, v) else kv) else kvs ++ [(k, v)]
theorem valA_rep {H : Hp} : ∀ {kvs : List (Key × D)} {ws : List (Key × V)} (k : Key), RepK K H kvs ws → (∀ d, valA kvs k = some d → ∃ v, valV ws k = some v ∧ Rep K H d v) ∧ (valA kvs k = none → valV ws k = none)
  | [], _, k, .nil => ⟨fun d e => (by cases e), fun _ => rfl⟩
  | (k', d') :: kvs, (k2, v2) :: ws, k, .cons ⟨e, r⟩ h => by
    cases (show k' = k2 from e)
    obtain ⟨i1, i2⟩ := valA_rep k h
    by_cases hk : k' = k
    · subst hk
      have e1 : valA ((k', d') :: kvs) k' = some d' := by unfold valA; rw [List.find?_cons_of_pos (by simp)]; rfl
      have e2 : valV ((k', v2) :: ws) k' = some v2 := valV_pos (p := (k', v2)) rfl
      refine ⟨fun d e => ?_, fun e => ?_⟩
      · rw [e1] at e; cases e; exact ⟨v2, e2, r⟩
      · rw [e1] at e; cases e
    · have e1 : valA ((k', d') :: kvs) k = valA kvs k := by unfold valA; rw [List.find?_cons_of_neg (by simpa using hk)]
      have e2 : valV ((k', v2) :: ws) k = valV ws k := valV_neg (p := (k', v2)) hk
      rw [e1, e2]
      exact ⟨i1, i2⟩
theorem any_rep {H : Hp} {k : Key} : ∀ {kvs : List (Key × D)} {ws : List (Key × V)}, RepK K H kvs ws → (ws.any fun kv => decide (kv.1 = k)) = (kvs.any fun kv => decide (kv.1 = k))
  | [], _, .nil => rfl
  | (k', d') :: kvs, (k2, v2) :: ws, .cons ⟨e, r⟩ h => by
    cases (show k' = k2 from e)
    rw [List.any_cons, List.any_cons, any_rep h]
theorem mapPut_rep {H : Hp} {k : Key} {d : D} {v : V} (r : Rep K H d v) : ∀ {kvs : List (Key × D)} {ws : List (Key × V)}, RepK K H kvs ws → RepK K H (kvs.map fun kv => if kv.1 = k then (kv.1, d) else kv) (ws.map fun kv => if kv.1 = k then (kv.1, v) else kv)
  | [], _, .nil => .nil
  | (k', d') :: kvs, (k2, v2) :: ws, .cons ⟨e, r'⟩ h => by
    cases (show k' = k2 from e)
    refine .cons ?_ (mapPut_rep r h)
    by_cases hk : k' = k
    · show (if k' = k then (k', d) else (k', d')).1 = (if k' = k then (k', v) else (k', v2)).1 ∧ Rep K H (if k' = k then (k', d) else (k', d')).2 (if k' = k then (k', v) else (k', v2)).2
      rw [if_pos hk, if_pos hk]; exact ⟨rfl, r⟩
    · show (if k' = k then (k', d) else (k', d')).1 = (if k' = k then (k', v) else (k', v2)).1 ∧ Rep K H (if k' = k then (k', d) else (k', d')).2 (if k' = k then (k', v) else (k', v2)).2
      rw [if_neg hk, if_neg hk]; exact ⟨rfl, r'⟩
theorem snoc_rep {H : Hp} {k : Key} {d : D} {v : V} (r : Rep K H d v) : ∀ {kvs : List (Key × D)} {ws : List (Key × V)}, RepK K H kvs ws → RepK K H (kvs ++ [(k, d)]) (ws ++ [(k, v)])
  | [], _, .nil => .cons ⟨rfl, r⟩ .nil
  | _ :: _, _ :: _, .cons q h => .cons q (snoc_rep r h)
theorem put_rep {H : Hp} {k : Key} {d : D} {v : V} (r : Rep K H d v) {kvs : List (Key × D)} {ws : List (Key × V)} (h : RepK K H kvs ws) : RepK K H (putA kvs k d) (putK ws k v) := by
  unfold putA putK
  rw [any_rep h]
  split
  · exact mapPut_rep r h
  · exact snoc_rep r h
theorem lenK {H : Hp} {kvs : List (Key × D)} {ws : List (Key × V)} (h : RepK K H kvs ws) : kvs.length = ws.length := Paired.length h
theorem repK_write {M : Sto} {H : Hp} (ab : Abs K M H) {p : Addr} {ob : HO} {m0 : MO} (hp : M p = some m0) {d : List (Key × D)} {v : List (Key × V)} (r : RepK K H d v) : RepK K (upd H p ob) d v := Paired.mapP r fun a b z => ⟨z.1, rep_write ab hp z.2⟩
/-- d[y] -/
def ρDGet : AR2 := fun x y M Q => match x with
  | .obj a => dicAt M a fun kvs => optAt (keyD y) fun k => optAt (valA kvs k) fun d => Q d M
  | _ => False
theorem ae_dget (hu : X.A.units + 1 < cLine) (ho : AE X W o α) (hi : AE X W i β) (hs : NoSl i) : AE X W (.Subscript o i pos) (aOp ρDGet α β) := PE.imp (pe_dget hu ho hi hs) fun σ H Q h => by
  refine s_op (r := fun x y H Q => ∃ a v, x = .ref a ∧ DGet H a y (some v) ∧ Q v H) (ρ := ρDGet) (fun x y dx dy H M Q Qc ab rx ry q k => ?_) h
  cases dx with
  | obj a =>
    obtain ⟨kvs, m, q⟩ := dicAt_ex q
    obtain ⟨key, e, q⟩ := optAt_ex q
    obtain ⟨d, g, q⟩ := optAt_ex q
    cases (show x = V.ref a from rx)
    obtain ⟨ws, h1, hv⟩ := ab a _ m
    obtain ⟨v, e2, r⟩ := (valA_rep key hv).1 d g
    refine ⟨a, v, rfl, ?_, k v H d M (Tr.refl ab) r q⟩
    rw [key_rep ry e, ← e2]
    exact DGet.k h1
  | _ => exact False.elim q
/-- y in d -/
def ρDIn (neg : Bool) : AR2 := fun y x M Q => match x with
  | .obj a => dicAt M a fun kvs => optAt (keyD y) fun k => Q (.bl (if neg then !(valA kvs k).isSome else (valA kvs k).isSome)) M
  | _ => False
theorem val_some {H : Hp} {kvs : List (Key × D)} {ws : List (Key × V)} {k : Key} (h : RepK K H kvs ws) : (valV ws k).isSome = (valA kvs k).isSome := by
  obtain ⟨h1, h2⟩ := valA_rep k h
  cases q : valA kvs k with
  | none => rw [h2 q]; rfl
  | some d => obtain ⟨v, e, _⟩ := h1 d q; rw [e]; rfl
theorem sim_din {neg : Bool} : SimR K (fun y x H Q => ∃ a o, x = .ref a ∧ DGet H a y o ∧ Q (.bl (if neg then !o.isSome else o.isSome)) H) (ρDIn neg) := by
  intro y x dy dx H M Q Qc ab ry rx q k
  cases dx with
  | obj a =>
    obtain ⟨kvs, m, q⟩ := dicAt_ex q
    obtain ⟨key, e, q⟩ := optAt_ex q
    cases (show x = V.ref a from rx)
    obtain ⟨ws, h1, hv⟩ := ab a _ m
    refine ⟨a, valV ws key, rfl, ?_, k _ H (.bl _) M (Tr.refl ab) rfl ?_⟩
    · rw [key_rep ry e]
      exact DGet.k h1
    · rw [val_some hv]
      exact q
  | _ => exact False.elim q
theorem ae_din (hu : X.A.units + 1 < cLine) (hi : AE X W i β) (ho : AE X W o α) (h1 : behindInMarks .In o = false := by rfl) : AE X W (.Compare i [.In] [o] pos) (aOp (ρDIn false) β α) := PE.imp (pe_cmp (pc_din hu hi ho) h1) fun σ H Q h => s_op (r := fun y x H Q => ∃ a o, x = .ref a ∧ DGet H a y o ∧ Q (.bl (if false then !o.isSome else o.isSome)) H) sim_din h
theorem ae_dnotin (hu : X.A.units + 1 < cLine) (hi : AE X W i β) (ho : AE X W o α) (h1 : behindInMarks .NotIn o = false := by rfl) : AE X W (.Compare i [.NotIn] [o] pos) (aOp (ρDIn true) β α) := PE.imp (pe_cmp (pc_dnotin hu hi ho) h1) fun σ H Q h => s_op (r := fun y x H Q => ∃ a o, x = .ref a ∧ DGet H a y o ∧ Q (.bl (if true then !o.isSome else o.isSome)) H) sim_din h
theorem at_din (hu : X.A.units + 1 < cLine) (hi : AE X W i β) (ho : AE X W o α) (h1 : behindInMarks .In o = false := by rfl) : AT X W (.Compare i [.In] [o] pos) (aTest (aOp (ρDIn false) β α)) := PT.imp (pt_cmp (pc_din hu hi ho) h1) fun σ H Q h => by
  obtain ⟨ax, env, M, Qa, S, q, k⟩ := h
  show tOp (fun y x H Q => ∃ a o, x = .ref a ∧ DGet H a y o ∧ Q (.bl (if false then !o.isSome else o.isSome)) H) _ _ σ H (fun x H1 => ∃ c, x = V.bl c ∧ Q c H1)
  refine s_op (ρ := ρDIn false) sim_din ⟨ax, env, M, _, S, q, fun v H' d M' t r q => ?_⟩
  cases d with
  | bl b => cases (show v = V.bl b from r); exact ⟨b, rfl, k b H' M' t q⟩
  | _ => exact False.elim q
theorem at_dnotin (hu : X.A.units + 1 < cLine) (hi : AE X W i β) (ho : AE X W o α) (h1 : behindInMarks .NotIn o = false := by rfl) : AT X W (.Compare i [.NotIn] [o] pos) (aTest (aOp (ρDIn true) β α)) := PT.imp (pt_cmp (pc_dnotin hu hi ho) h1) fun σ H Q h => by
  obtain ⟨ax, env, M, Qa, S, q, k⟩ := h
  show tOp (fun y x H Q => ∃ a o, x = .ref a ∧ DGet H a y o ∧ Q (.bl (if true then !o.isSome else o.isSome)) H) _ _ σ H (fun x H1 => ∃ c, x = V.bl c ∧ Q c H1)
  refine s_op (ρ := ρDIn true) sim_din ⟨ax, env, M, _, S, q, fun v H' d M' t r q => ?_⟩
  cases d with
  | bl b => cases (show v = V.bl b from r); exact ⟨b, rfl, k b H' M' t q⟩
  | _ => exact False.elim q
/-- d.get(k, x) -/
def aDGet2 (a b c : ATE) : ATE := fun ax env M Q => a ax env M fun x M1 => match x with
  | .obj p => dicAt M1 p fun _ => b ax env M1 fun y M2 => c ax env M2 fun z M3 => dicAt M3 p fun kvs => optAt (keyD y) fun k => Q ((valA kvs k).getD z) M3
  | _ => False
theorem ae_dget2 {e f : Expr} (hu : X.A.units + 1 < cLine) (ho : AE X W o α) (he : AE X W e β) (hf : AE X W f γ) (m : M2 X o "get" apos e f cpos) : AE X W (.Call (.Attribute o "get" apos) [e, f] [] cpos) (aDGet2 α β γ) :=
  PE.imp (pe_dget2 hu ho he hf m) fun σ H Q h => by
    obtain ⟨ax, env, M, Qa, S, q, k⟩ := h
    refine ⟨ax, env, M, _, S, q, fun x H1 dx M1 t1 r q => ?_⟩
    cases dx with
    | obj p =>
      cases (show x = V.ref p from r)
      obtain ⟨kvs, m, q⟩ := dicAt_ex q
      obtain ⟨ws, h1, hv⟩ := t1.abs p _ m
      refine ⟨p, rfl, .inl ⟨ws, .inl h1⟩, ax, env, M1, _, S.next t1, q, fun y H2 dy M2 t2 ry q => ?_⟩
      refine ⟨ax, env, M2, _, (S.next t1).next t2, q, fun z H3 dz M3 t3 rz q => ?_⟩
      obtain ⟨kvs, m, q⟩ := dicAt_ex q
      obtain ⟨key, e, q⟩ := optAt_ex q
      obtain ⟨ws, h1, hv⟩ := t3.abs p _ m
      refine ⟨valV ws key, by rw [key_rep (t3.rep t2.abs ry) e]; exact DGet.k h1, ?_⟩
      obtain ⟨i1, i2⟩ := valA_rep key hv
      cases g : valA kvs key with
      | none =>
        rw [i2 g]
        rw [g] at q
        exact k _ H3 dz M3 ((t1.trans t2).trans t3) rz q
      | some d =>
        obtain ⟨v, e2, r2⟩ := i1 d g
        rw [e2]
        rw [g] at q
        exact k _ H3 d M3 ((t1.trans t2).trans t3) r2 q
    | _ => exact False.elim q
end

/-! ### statements -/
section
variable {W : WX} {X : Cx} {st : Stmt} {rest body orelse : List Stmt} {e tg : Expr} {α β : ATE} {A : ATT} {t u : ATS} {g : ATG} {pos pos' : Pos}
def aNext : ATS := fun _ D env M => D.nx env M
def aSeq (t u : ATS) : ATS := fun ax D env M => t ax { D with nx := u ax D } env M
theorem as_nil : ASs X W [] aNext := PSs.imp pss_nil fun D σ H h => by
  obtain ⟨ax, env, M, Da, S, q, k⟩ := h
  exact k.nx σ H env M (Tr.refl S.abs) S.rs q
theorem as_cons (h1 : AS X W st t) (h2 : ASs X W rest u) : ASs X W (st :: rest) (aSeq t u) := PSs.imp (pss_cons h1 h2) fun D σ H h => by
  obtain ⟨ax, env, M, Da, S, q, k⟩ := h
  refine ⟨ax, env, M, _, S, q, ⟨fun σ' H' env' M' tr rs q => ?_, k.bk, k.ct, k.rt⟩⟩
  exact ⟨ax, env', M', Da, S.at_ tr rs, q, k.next tr⟩
theorem as_one (h1 : AS X W st t) : ASs X W [st] t := pss_one h1
theorem as_pass : AS X W (.Pass pos) aNext := PS.imp ps_pass fun D σ H h => by
  obtain ⟨ax, env, M, Da, S, q, k⟩ := h
  exact k.nx σ H env M (Tr.refl S.abs) S.rs q
def aBreak : ATS := fun _ D env M => D.bk env M
def aCont : ATS := fun _ D env M => D.ct env M
theorem as_break : AS X W (.Break pos) aBreak := PS.imp ps_break fun D σ H h => by
  obtain ⟨ax, env, M, Da, S, q, k⟩ := h
  exact k.bk σ H env M (Tr.refl S.abs) S.rs q
theorem as_continue : AS X W (.Continue pos) aCont := PS.imp ps_continue fun D σ H h => by
  obtain ⟨ax, env, M, Da, S, q, k⟩ := h
  exact k.ct σ H env M (Tr.refl S.abs) S.rs q
def aExpr (a : ATE) : ATS := fun ax D env M => a ax env M fun _ M1 => D.nx env M1
theorem as_expr (he : AE X W e α) (hs : swapsWith e none pos.line X.env = pure false := by rfl) : AS X W (.Expr e pos) (aExpr α) := PS.imp (ps_expr he hs) fun D σ H h => by
  obtain ⟨ax, env, M, Da, S, q, k⟩ := h
  exact ⟨ax, env, M, _, S, q, fun v H' d M' t r q => k.nx σ H' env M' t (S.next t).rs q⟩
def aRet (a : ATE) : ATS := fun ax D env M => a ax env M D.rt
theorem as_ret (he : AE X W e α) : AS X W (.Return (some e) pos) (aRet α) := PS.imp (ps_ret he) fun D σ H h => by
  obtain ⟨ax, env, M, Da, S, q, k⟩ := h
  exact ⟨ax, env, M, _, S, q, k.rt⟩
def aRetN : ATS := fun _ D _ M => D.rt .non M
theorem as_retN : AS X W (.Return none pos) aRetN := PS.imp ps_retN fun D σ H h => by
  obtain ⟨ax, env, M, Da, S, q, k⟩ := h
  exact k.rt _ H .non M (Tr.refl S.abs) rfl q
def aIf (A : ATT) (t u : ATS) : ATS := fun ax D env M => A ax env M fun b M1 => if b = true then t ax D env M1 else u ax D env M1
theorem as_if {c : Expr} {a b : List Stmt} (hc : AT X W c A) (ha : ASs X W a t) (hb : ASs X W b u) : AS X W (.If c a b pos) (aIf A t u) := PS.imp (ps_if hc ha hb) fun D σ H h => by
  obtain ⟨ax, env, M, Da, S, q, k⟩ := h
  refine ⟨ax, env, M, _, S, q, fun b H1 M1 tr q => ?_⟩
  cases b with
  | true => exact ⟨ax, env, M1, Da, S.next tr, q, k.next tr⟩
  | false => exact ⟨ax, env, M1, Da, S.next tr, q, k.next tr⟩
def aNever : ATS := fun _ _ _ _ => False
theorem as_never : AS X W st aNever := ⟨fun _ _ _ _ _ _ h => by obtain ⟨_, _, _, _, _, q, _⟩ := h; exact q.elim⟩
theorem as_nevers : ASs X W body aNever := ⟨fun _ _ _ _ _ _ h => by obtain ⟨_, _, _, _, _, q, _⟩ := h; exact q.elim⟩
/-! targets -/
def agName (i : Nat) : ATG := fun d _ env M Q => Q (env.set i (some d)) M
theorem ag_name (i : Nat) {x : Str} (hN : X.N.Nodup) (hi : X.N[i]? = some x := by rfl) (hx : Loc X.env.scope x := by first | exact .inl rfl | exact .inr rfl) (hf : X.fn x = true ∨ X.env.scope.names.lookup x = some .local := by first | exact .inl rfl | exact .inr rfl | assumption) : AG X W (.Name x pos) (agName i) :=
  PG.imp (pg_name hN hi hx hf) fun v σ H Q h => by
    obtain ⟨d, ax, env, M, Qa, S, r, q, k⟩ := h
    exact k _ H _ M (Tr.refl S.abs) (S.rs.set r) q
abbrev ATGs := List D → AX → AEnv → Sto → (AEnv → Sto → Prop) → Prop
def cGs (K : PySem.W.Frag) (W : WX) (g : ATGs) : TGs := fun vs σ H Q => ∃ ds ax env M Qa, Stt K W ax env M σ H ∧ RepL K H ds vs ∧ g ds ax env M Qa ∧ ∀ σ' H' env' M', Tr K M H M' H' → RepS K H' env' σ' → Qa env' M' → Q σ' H'
abbrev AGs (X : Cx) (W : WX) (ts : List Expr) (g : ATGs) : Prop := PGs X ts (cGs X.K W g)
theorem PGs.imp {X : Cx} {e : List Expr} {t u : TGs} (h : PGs X e t) (k : ∀ v σ H Q, u v σ H Q → t v σ H Q) : PGs X e u := ⟨fun pins s σ H v w Q I r q => h.run pins s σ H v w Q I r (k v σ H Q q)⟩
def agNil : ATGs := fun ds _ env M Q => match ds with
  | [] => Q env M
  | _ => False
def agCons (g : ATG) (r : ATGs) : ATGs := fun ds ax env M Q => match ds with
  | d :: ds => g d ax env M fun env1 M1 => r ds ax env1 M1 Q
  | _ => False
theorem ags_nil : AGs X W [] agNil := PGs.imp pgs_nil fun v σ H Q h => by
  obtain ⟨ds, ax, env, M, Qa, S, r, q, k⟩ := h
  cases ds with
  | nil => exact ⟨r, k σ H env M (Tr.refl S.abs) S.rs q⟩
  | cons d ds => exact q.elim
theorem ags_cons {es : List Expr} {r : ATGs} (h1 : AG X W e g) (h2 : AGs X W es r) (hs : (assignEach (e :: es) X.env).map (·.2) = assign e X.env :: (assignEach es X.env).map (·.2) := by rfl) : AGs X W (e :: es) (agCons g r) := PGs.imp (pgs_cons h1 h2 hs) fun v σ H Q h => by
  obtain ⟨ds, ax, env, M, Qa, S, r, q, k⟩ := h
  cases ds with
  | nil => exact q.elim
  | cons d ds =>
    obtain ⟨v, vs, rfl, r1, r2⟩ := r
    refine ⟨v, vs, rfl, d, ax, env, M, _, S, r1, q, fun σ1 H1 env1 M1 t rs q => ?_⟩
    exact ⟨ds, ax, env1, M1, Qa, S.at_ t rs, t.repL S.abs r2, q, fun σ' H' env' M' t' => k σ' H' env' M' (t.trans t')⟩
def agTup (n : Nat) (g : ATGs) : ATG := fun d ax env M Q => match d with
  | .tup ds => ds.length = n ∧ g ds ax env M Q
  | _ => False
theorem ag_tup {es : List Expr} {k : Nat} {r : ATGs} {n : Nat} (hc : X.calm = true) (h : AGs X W es r)
    (hn : (assignEach es X.env).length = n := by rfl) (hst : (assignEach es X.env).findIdx? (·.1) = none := by rfl) : AG X W (.Tuple es k pos) (agTup n r) := PG.imp (pg_tup hc h hn hst) fun v σ H Q h => by
  obtain ⟨d, ax, env, M, Qa, S, r, q, k⟩ := h
  cases d with
  | tup ds =>
    obtain ⟨p, vs, rfl, hp, hv⟩ := r
    exact ⟨p, vs, rfl, hp, by rw [← hv.length]; exact q.1, ds, ax, env, M, Qa, S, hv, q.2, k⟩
  | _ => exact False.elim q
def aAsg (a : ATE) (g : ATG) : ATS := fun ax D env M => a ax env M fun d M1 => g d ax env M1 D.nx
theorem as_asg (he : AE X W e α) (hg : AG X W tg g) (hs : swapsWithSole [tg] e pos.line X.env = pure false := by rfl) (hw : swappedStores [tg] e X.env = pure none := by rfl)
    (h1 : (assignEach [tg] X.env).map (·.2) = [assign tg X.env] := by rfl) : AS X W (.Assign [tg] e pos) (aAsg α g) := PS.imp (ps_asg he hg hs hw h1) fun D σ H h => by
  obtain ⟨ax, env, M, Da, S, q, k⟩ := h
  refine ⟨ax, env, M, _, S, q, fun v H1 d M1 t r q => ?_⟩
  exact ⟨d, ax, env, M1, _, S.next t, r, q, fun σ' H' env' M' t' => k.nx σ' H' env' M' (t.trans t')⟩
theorem as_set (i : Nat) {x : Str} (hN : X.N.Nodup) (he : AE X W e α) (hi : X.N[i]? = some x := by rfl) (hx : Loc X.env.scope x := by first | exact .inl rfl | exact .inr rfl) (hs : swapsWith e (some (.Name x pos')) pos.line X.env = pure false := by rfl) (hf : X.fn x = true ∨ X.env.scope.names.lookup x = some .local := by first | exact .inl rfl | exact .inr rfl | assumption) :
    AS X W (.Assign [.Name x pos'] e pos) (aAsg α (agName i)) := PS.imp (ps_set hN hi hx he hs hf) fun D σ H h => by
  obtain ⟨ax, env, M, Da, S, q, k⟩ := h
  exact ⟨ax, env, M, _, S, q, fun v H1 d M1 t r q => k.nx _ H1 _ M1 t ((S.next t).rs.set r) q⟩
/-- xs[i] = e, a list -/
def agSub (a b : ATE) : ATG := fun d ax env M Q => a ax env M fun x M1 => b ax env M1 fun y M2 => match x, y with
  | .obj p, .int i => lstAt M2 p fun ds => optAt (ixN ds.length i) fun j => Q env (up M2 p (.lst (ds.set j d)))
  | _, _ => False
theorem ag_sub {o i : Expr} (ho : AE X W o α) (hi : AE X W i β)
    (ha : ∀ v, assign (.Subscript o i pos) X.env v = (do
      let ov ← holding [v] (eval o X.env)
      let iv ← holding [v, ov] (eval i X.env)
      standAt pos
      holding [v, ov, iv] (setItem ov iv v)
      release [v, ov, iv] []) := by intro _; rfl) : AG X W (.Subscript o i pos) (agSub α β) := PG.imp (pg_sub ho hi set_list ha) fun v σ H Q h => by
  obtain ⟨d, ax, env, M, Qa, S, r, q, k⟩ := h
  refine ⟨ax, env, M, _, S, q, fun x H1 dx M1 t1 rx q => ?_⟩
  refine ⟨ax, env, M1, _, S.next t1, q, fun y H2 dy M2 t2 ry q => ?_⟩
  cases dx with
  | obj p =>
    cases dy with
    | int i =>
      obtain ⟨ds, m, q⟩ := lstAt_ex q
      obtain ⟨j, e, q⟩ := optAt_ex q
      cases (show x = V.ref p from rx)
      cases (show y = V.int i from ry)
      obtain ⟨vs, h1, hv⟩ := t2.abs p _ m
      have t := t1.trans t2
      have rd := t.rep S.abs r
      have tw := Tr.write (mo := .lst (ds.set j d)) t2.abs m ⟨_, upd_same, repL_write t2.abs m (hv.set j rd)⟩
      exact ⟨p, vs, i, j, rfl, rfl, h1, by rw [← hv.length]; exact e, k σ _ env _ (t.trans tw) ((S.next t).next tw).rs q⟩
    | _ => exact False.elim q
  | _ => exact False.elim q
/-- d[k] = e -/
def aDPut (a b c : ATE) : ATS := fun ax D env M => c ax env M fun z M1 => a ax env M1 fun x M2 => b ax env M2 fun y M3 => match x with
  | .obj p => dicAt M3 p fun kvs => optAt (keyD y) fun k => kvs.length < sizeLine ∧ D.nx env (up M3 p (.dic (putA kvs k z)))
  | _ => False
theorem as_dput {o i value : Expr} {γ : ATE} (hu : X.A.units + 1 < cLine) (ho : AE X W o α) (hi : AE X W i β) (hv : AE X W value γ) (hs : swapsWith value (some (.Subscript o i pos')) pos.line X.env = pure false := by rfl) :
    AS X W (.Assign [.Subscript o i pos'] value pos) (aDPut α β γ) := PS.imp (ps_dput hu ho hi hv hs) fun D σ H h => by
  obtain ⟨ax, env, M, Da, S, q, k⟩ := h
  refine ⟨ax, env, M, _, S, q, fun z H1 dz M1 t1 rz q => ?_⟩
  refine ⟨ax, env, M1, _, S.next t1, q, fun x H2 dx M2 t2 rx q => ?_⟩
  refine ⟨ax, env, M2, _, (S.next t1).next t2, q, fun y H3 dy M3 t3 ry q => ?_⟩
  cases dx with
  | obj p =>
    obtain ⟨kvs, m, q⟩ := dicAt_ex q
    obtain ⟨key, e, l, q⟩ := optAt_ex q
    cases (show x = V.ref p from rx)
    obtain ⟨ws, h1, hv⟩ := t3.abs p _ m
    have t := (t1.trans t2).trans t3
    have rz' := t3.rep t2.abs (t2.rep t1.abs rz)
    have tw := Tr.write (mo := .dic (putA kvs key dz)) t3.abs m ⟨_, upd_same, repK_write t3.abs m (put_rep rz' hv)⟩
    refine ⟨p, _, rfl, ?_, k.nx σ _ env _ (t.trans tw) ((S.next t).next tw).rs q⟩
    rw [key_rep ry e]
    exact DPut.k h1 (by rw [← lenK hv]; exact l)
  | _ => exact False.elim q
/-- x op= e, ints, texts, lists -/
def aAug (ρ : AR2) (i : Nat) (a : ATE) : ATS := fun ax D env M => optAt env[i]? fun o => optAt o fun x => a ax env M fun y M1 => ρ x y M1 fun z M2 => D.nx (env.set i (some z)) M2
theorem as_aug (i : Nat) {x : Str} {op : Operator} {r : R2} {ρ : AR2} (hN : X.N.Nodup) (ho : OpR X (inplaceOp op) r) (hr : SimR X.K r ρ) (he : AE X W e α) (hi : X.N[i]? = some x := by rfl) (hx : Loc X.env.scope x := by first | exact .inl rfl | exact .inr rfl) (hf : X.fn x = true ∨ X.env.scope.names.lookup x = some .local := by first | exact .inl rfl | exact .inr rfl | assumption) :
    AS X W (.AugAssign (.Name x pos') op e pos) (aAug ρ i α) := PS.imp (ps_aug hN hi hx he (fun pins s σ H x y v u Q I rx ry q => ho pins s σ H x y v u Q I rx ry q) hf) fun D σ H h => by
  obtain ⟨ax, env, M, Da, S, q, k⟩ := h
  obtain ⟨o, ed, q⟩ := optAt_ex q
  obtain ⟨d, rfl, q⟩ := optAt_ex q
  obtain ⟨v, ev, rv⟩ := S.rs.get ed
  refine ⟨v, ev, ax, env, M, _, S, q, fun y H1 dy M1 t ry q => ?_⟩
  refine hr v y d dy H1 M1 _ _ t.abs (t.rep S.abs rv) ry q fun z H2 dz M2 t2 rz q => ?_
  exact k.nx _ H2 _ M2 (t.trans t2) (((S.next t).next t2).rs.set rz) q
def rIPlus : R2 := fun x y H Q => (rI0 fun i j => .int (i + j)) x y H Q ∨ (∃ i j, x = .str i ∧ y = .str j ∧ i.length + j.length ≤ sizeLine ∧ Q (.str (i ++ j)) H) ∨ rExt2 x y H Q
theorem iop_plus : OpR X (inplaceOp .Add) rIPlus := iop_add.or (iop_add_str.or iop_ext)
def ρIAdd : AR2 := fun x y M Q => match x, y with
  | .int i, .int j => Q (.int (i + j)) M
  | .str i, .str j => i.length + j.length ≤ sizeLine ∧ Q (.str (i ++ j)) M
  | .obj p, .obj q => lstAt M p fun ds => lstAt M q fun es => ds.length + es.length ≤ sizeLine ∧ Q (.obj p) (up M p (.lst (ds ++ es)))
  | _, _ => False
theorem sim_iadd {K : PySem.W.Frag} : SimR K rIPlus ρIAdd := by
  intro x y dx dy H M Q Qc ab rx ry q k
  cases dx with
  | int i =>
    cases dy with
    | int j =>
      cases (show x = V.int i from rx)
      cases (show y = V.int j from ry)
      exact .inl ⟨i, j, rfl, rfl, k _ H (.int (i + j)) M (Tr.refl ab) rfl q⟩
    | _ => exact False.elim q
  | str i =>
    cases dy with
    | str j =>
      cases (show x = V.str i from rx)
      cases (show y = V.str j from ry)
      obtain ⟨z, q⟩ := q
      exact .inr (.inl ⟨i, j, rfl, rfl, z, k _ H (.str (i ++ j)) M (Tr.refl ab) rfl q⟩)
    | _ => exact False.elim q
  | obj p =>
    cases dy with
    | obj p' =>
      obtain ⟨ds, m1, q⟩ := lstAt_ex q
      obtain ⟨es, m2, z, q⟩ := lstAt_ex q
      cases (show x = V.ref p from rx)
      cases (show y = V.ref p' from ry)
      obtain ⟨vs, h1, r1⟩ := ab p _ m1
      obtain ⟨ws, h2, r2⟩ := ab p' _ m2
      exact .inr (.inr ⟨p, p', vs, ws, rfl, rfl, h1, h2, by rw [← r1.length, ← r2.length]; exact z, k _ _ (.obj p) _ (Tr.write (mo := .lst (ds ++ es)) ab m1 ⟨_, upd_same, repL_write ab m1 (r1.append r2)⟩) rfl q⟩)
    | _ => exact False.elim q
  | _ => exact False.elim q
abbrev ρISub : AR2 := ρI0 fun i j => .int (i - j)
theorem sim_isub {K : PySem.W.Frag} : SimR K (rI0 fun i j => .int (i - j)) ρISub := sim_I0 fun _ _ _ => rfl
end

/-! ### while -/
section
variable {W : WX} {X : Cx} {body : List Stmt} {e tg iter : Expr} {α β : ATE} {A : ATT} {t u : ATS} {g : ATG} {ι : ATI} {pos pos' : Pos}
def aWhileN (A : ATT) (b : ATS) (ax : AX) (D : AEnds) : Nat → AEnv → Sto → Prop
  | 0, _, _ => False
  | n + 1, env, M => A ax env M fun k M1 => if k = true then b ax ⟨aWhileN A b ax D n, D.rt, D.nx, aWhileN A b ax D n⟩ env M1 else D.nx env M1
def aWhile (A : ATT) (b : ATS) : ATS := fun ax D env M => ∃ n, aWhileN A b ax D n env M
theorem s_while {K : PySem.W.Frag} {D : Ends} {σ : L2.St} {H : Hp} (h : cS K W (aWhile A t) D σ H) : tWhile (cT K W A) (cS K W t) D σ H := by
  obtain ⟨ax, env, M, Da, S, ⟨n, q⟩, k⟩ := h
  refine ⟨fun m σ' H' => ∃ env' M', Tr K M H M' H' ∧ RepS K H' env' σ' ∧ aWhileN A t ax Da m env' M', ⟨n, env, M, Tr.refl S.abs, S.rs, q⟩, ?_⟩
  rintro m σ1 H1 ⟨env1, M1, t1, rs1, q1⟩
  cases m with
  | zero => exact q1.elim
  | succ m =>
    refine ⟨ax, env1, M1, _, S.at_ t1 rs1, q1, fun b H2 M2 t2 q2 => ?_⟩
    cases b with
    | false => exact k.nx σ1 H2 env1 M2 (t1.trans t2) ((S.at_ t1 rs1).next t2).rs q2
    | true =>
      refine ⟨fun σ' H' => ∃ env' M', Tr K M H M' H' ∧ RepS K H' env' σ' ∧ aWhileN A t ax Da m env' M', fun σ' H' z => ⟨m, Nat.lt_succ_self m, z⟩, ?_⟩
      have t12 := t1.trans t2
      exact ⟨ax, env1, M2, _, (S.at_ t1 rs1).next t2, q2, ⟨fun σ' H' env' M' t' rs q => ⟨env', M', t12.trans t', rs, q⟩, fun σ' H' env' M' t' rs q => k.nx σ' H' env' M' (t12.trans t') rs q, fun σ' H' env' M' t' rs q => ⟨env', M', t12.trans t', rs, q⟩, fun v H' d M' t' r q => k.rt v H' d M' (t12.trans t') r q⟩⟩
theorem as_while {c : Expr} (hp : PassesOwn (model X.prog X.w) X.A X.env X.xe) (hc : AT X W c A) (hb : ASs X W body t) : AS X W (.While c body [] pos) (aWhile A t) := PS.imp (ps_while hp hc hb) fun _ _ _ => s_while

/-! ### for -/
def aForGo (chk : Sto → Prop) (g : ATG) (b : ATS) (ax : AX) (De : AEnds) : List D → AEnv → Sto → Prop
  | [], env, M => chk M ∧ De.nx env M
  | d :: r, env, M => chk M ∧ g d ax env M fun env1 M1 => b ax ⟨aForGo chk g b ax De r, De.rt, De.nx, aForGo chk g b ax De r⟩ env1 M1
def aFor (ι : ATI) (g : ATG) (b : ATS) : ATS := fun ax D env M => ι ax env M fun items chk M1 => aForGo chk g b ax D items env M1
theorem drop_at {α : Type} {l : List α} {i : Nat} {x : α} {r : List α} (h : l.drop i = x :: r) : l[i]? = some x ∧ l.drop (i + 1) = r ∧ i < l.length := by
  have hi : i < l.length := by
    by_cases hi : i < l.length
    · exact hi
    · rw [List.drop_eq_nil_of_le (by omega)] at h
      cases h
  rw [List.drop_eq_getElem_cons hi] at h
  injection h with h1 h2
  exact ⟨by rw [List.getElem?_eq_getElem hi, h1], h2, hi⟩
theorem drop_end {α : Type} {l : List α} {i : Nat} (h : l.drop i = []) : l[i]? = none := List.getElem?_eq_none (List.drop_eq_nil_iff.mp h)
theorem s_for {K : PySem.W.Frag} {D : Ends} {σ : L2.St} {H : Hp} (h : cS K W (aFor ι g t) D σ H) : tFor (cI K W ι) (cG K W g) (cS K W t) D σ H := by
  obtain ⟨ax, env, M, Da, S, q, k⟩ := h
  refine ⟨ax, env, M, _, S, q, fun J items chk M1 H1 t1 sim q => ?_⟩
  refine ⟨fun i m σ' H' => m = items.length - i ∧ ∃ env' M', Tr K M1 H1 M' H' ∧ RepS K H' env' σ' ∧ aForGo chk g t ax Da (items.drop i) env' M', ⟨items.length, rfl, env, M1, Tr.refl t1.abs, (S.next t1).rs, q⟩, ?_⟩
  rintro i m σ2 H2 ⟨rfl, env2, M2, t2, rs2, q2⟩
  cases hd : items.drop i with
  | nil =>
    rw [hd] at q2
    exact .inl ⟨(sim i M2 H2 t2 q2.1).2 (drop_end hd), k.nx σ2 H2 env2 M2 (t1.trans t2) rs2 q2.2⟩
  | cons d r =>
    rw [hd] at q2
    obtain ⟨hi, hr, hl⟩ := drop_at hd
    obtain ⟨go, yld⟩ := (sim i M2 H2 t2 q2.1).1 d hi
    refine .inr ⟨go, fun σ' H' => ∃ env' M', Tr K M1 H1 M' H' ∧ RepS K H' env' σ' ∧ aForGo chk g t ax Da (items.drop (i + 1)) env' M', fun σ' H' z => ⟨items.length - (i + 1), by omega, rfl, z⟩, fun x H3 y => ?_⟩
    obtain ⟨t3, r3⟩ := yld x H3 y
    have t23 := t2.trans t3
    refine ⟨d, ax, env2, M2, _, (S.at_ (t1.trans t2) rs2).next t3, r3, q2.2, fun σ4 H4 env4 M4 t4 rs4 q4 => ?_⟩
    have t24 := t23.trans t4
    have t14 := t1.trans t24
    refine ⟨ax, env4, M4, _, S.at_ t14 rs4, q4, ⟨fun σ' H' env' M' t' rs q => ⟨env', M', t24.trans t', rs, by rw [hr]; exact q⟩, fun σ' H' env' M' t' rs q => k.nx σ' H' env' M' (t14.trans t') rs q, fun σ' H' env' M' t' rs q => ⟨env', M', t24.trans t', rs, by rw [hr]; exact q⟩, fun v H' d M' t' r q => k.rt v H' d M' (t14.trans t') r q⟩⟩
theorem as_for (hp : PassesOwn (model X.prog X.w) X.A X.env X.xe) (hc : X.calm = true) (hi : AI X W tg iter ι) (hg : AG X W tg g) (hb : ASs X W body t)
    (hs : ∀ x, foldedSetIterable iter X.env x = pure x := by intro _; rfl) : AS X W (.For tg iter body [] pos) (aFor ι g t) := PS.imp (ps_for hp hc hi hg hb hs) fun _ _ _ => s_for

/-! what is walked -/
def aIList (a : ATE) : ATI := fun ax env M R => a ax env M fun x M1 => match x with
  | .obj p => lstAt M1 p fun ds => R ds (fun M => M p = some (.lst ds)) M1
  | _ => False
def aITup (a : ATE) : ATI := fun ax env M R => a ax env M fun x M1 => match x with
  | .tup ds => R ds (fun _ => True) M1
  | _ => False
theorem itsim_list {K : PySem.W.Frag} {p : Addr} {ds : List D} {M1 : Sto} {H1 : Hp} : ItSim K (Itl K p) ds (fun M => M p = some (.lst ds)) M1 H1 := fun i M H t m => by
  obtain ⟨vs, h1, hv⟩ := t.abs p _ m
  refine ⟨fun d e => ?_, fun e => ?_⟩
  · obtain ⟨v, e', r⟩ := hv.get e
    refine ⟨⟨vs, v, SqL.of h1, e'⟩, fun x H' y => ?_⟩
    obtain ⟨rfl, y⟩ := y
    have z := y vs (SqL.of h1)
    rw [e'] at z
    cases z
    exact ⟨Tr.refl t.abs, r⟩
  · refine ⟨vs, SqL.of h1, ?_⟩
    rw [← hv.length]
    exact List.getElem?_eq_none_iff.mp e
theorem itsim_tup {K : PySem.W.Frag} {p : Addr} {ds : List D} {vs : List V} {M1 : Sto} {H1 : Hp} (ab : Abs K M1 H1) (hp : SqT K H1 p vs) (hv : RepL K H1 ds vs) : ItSim K (Itt K p) ds (fun _ => True) M1 H1 := fun i M H t _ => by
  have hp' := t.sqT ab hp
  have hv' := t.repL ab hv
  refine ⟨fun d e => ?_, fun e => ?_⟩
  · obtain ⟨v, e', r⟩ := hv'.get e
    refine ⟨⟨vs, v, hp', e'⟩, fun x H' y => ?_⟩
    obtain ⟨rfl, y⟩ := y
    have z := y vs hp'
    rw [e'] at z
    cases z
    exact ⟨Tr.refl t.abs, r⟩
  · refine ⟨vs, hp', ?_⟩
    rw [← hv'.length]
    exact List.getElem?_eq_none_iff.mp e
theorem ai_list (ha : AE X W e α) : AI X W tg e (aIList α) := PI.imp (pi_list ha) fun σ H R h => by
  obtain ⟨ax, env, M, Ra, S, q, k⟩ := h
  refine ⟨ax, env, M, _, S, q, fun x H1 dx M1 t r q => ?_⟩
  cases dx with
  | obj p =>
    cases (show x = V.ref p from r)
    obtain ⟨ds, m, q⟩ := lstAt_ex q
    obtain ⟨vs, h1, hv⟩ := t.abs p _ m
    exact ⟨p, rfl, ⟨vs, SqL.of h1⟩, k _ ds _ M1 H1 t itsim_list q⟩
  | _ => exact False.elim q
theorem ai_tup (ha : AE X W e α) : AI X W tg e (aITup α) := PI.imp (pi_tup ha) fun σ H R h => by
  obtain ⟨ax, env, M, Ra, S, q, k⟩ := h
  refine ⟨ax, env, M, _, S, q, fun x H1 dx M1 t r q => ?_⟩
  cases dx with
  | tup ds =>
    obtain ⟨p, vs, rfl, hp, hv⟩ := r
    exact ⟨p, rfl, ⟨vs, hp⟩, k _ ds _ M1 H1 t (itsim_tup t.abs hp hv) q⟩
  | _ => exact False.elim q
/-- lo, lo + 1, .. -/
def rngD : Int → Nat → List D
  | _, 0 => []
  | lo, n + 1 => .int lo :: rngD (lo + 1) n
theorem rngD_get : ∀ (n : Nat) (lo : Int) (i : Nat), (rngD lo n)[i]? = if i < n then some (.int (lo + i)) else none
  | 0, _, _ => by simp [rngD]
  | n + 1, lo, 0 => by simp [rngD]
  | n + 1, lo, i + 1 => by
    rw [rngD, List.getElem?_cons_succ, rngD_get n (lo + 1) i]
    by_cases h : i < n
    · rw [if_pos h, if_pos (by omega)]
      congr 2
      omega
    · rw [if_neg h, if_neg (by omega)]
theorem rngD_length : ∀ (n : Nat) (lo : Int), (rngD lo n).length = n
  | 0, _ => rfl
  | n + 1, lo => by rw [rngD, List.length_cons, rngD_length n]
theorem itsim_rng {K : PySem.W.Frag} {lo : Int} {n : Nat} {M1 : Sto} {H1 : Hp} : ItSim K (Itr lo n) (rngD lo n) (fun _ => True) M1 H1 := fun i M H t _ => by
  refine ⟨fun d e => ?_, fun e => ?_⟩
  · rw [rngD_get] at e
    by_cases h : i < n
    · rw [if_pos h] at e
      cases e
      refine ⟨h, fun x H' y => ?_⟩
      obtain ⟨rfl, rfl⟩ := y
      exact ⟨Tr.refl t.abs, rfl⟩
    · rw [if_neg h] at e
      cases e
  · have z := List.getElem?_eq_none_iff.mp e
    rw [rngD_length] at z
    exact z
def aIRng1 (τ : ATA) : ATI := fun ax env M R => τ ax env M fun ds M1 => match ds with
  | [.int j] => -(2 ^ 62) ≤ j ∧ j < 2 ^ 62 ∧ R (rngD 0 j.toNat) (fun _ => True) M1
  | _ => False
def aIRng2 (τ : ATA) : ATI := fun ax env M R => τ ax env M fun ds M1 => match ds with
  | [.int i, .int j] => (-(2 ^ 62) ≤ i ∧ i < 2 ^ 62 ∧ -(2 ^ 62) ≤ j ∧ j < 2 ^ 62) ∧ R (rngD i (j - i).toNat) (fun _ => True) M1
  | _ => False
theorem ai_rng1 {a : Expr} {τ : ATA} {p : Pos} (hg : Gl X "range") (hm : X.mg "range" = none) (ha : AA X W [a] τ) (hs : starEach [a] X.env = [(false, eval a X.env)] := by rfl) : AI X W tg (.Call (.Name "range" p) [a] [] pos) (aIRng1 τ) :=
  PI.imp (pi_range1 hg hm ha hs) fun σ H R h => by
    obtain ⟨ax, env, M, Ra, S, q, k⟩ := h
    refine ⟨ax, env, M, _, S, q, fun vs H1 ds M1 t r q => ?_⟩
    split at q
    · obtain ⟨v, rfl, r1⟩ := repL1 r
      cases (show v = V.int _ from r1)
      exact ⟨_, rfl, q.1, q.2.1, k _ _ _ M1 H1 t itsim_rng q.2.2⟩
    · exact q.elim
theorem ai_rng2 {a b : Expr} {τ : ATA} {p : Pos} (hg : Gl X "range") (hm : X.mg "range" = none) (ha : AA X W [a, b] τ) (hs : starEach [a, b] X.env = [(false, eval a X.env), (false, eval b X.env)] := by rfl) (hs2 : starEach [b] X.env = [(false, eval b X.env)] := by rfl) :
    AI X W tg (.Call (.Name "range" p) [a, b] [] pos) (aIRng2 τ) :=
  PI.imp (pi_range2 hg hm ha hs hs2) fun σ H R h => by
    obtain ⟨ax, env, M, Ra, S, q, k⟩ := h
    refine ⟨ax, env, M, _, S, q, fun vs H1 ds M1 t r q => ?_⟩
    split at q
    · obtain ⟨v, w, rfl, r1, r2⟩ := repL2 r
      cases (show v = V.int _ from r1)
      cases (show w = V.int _ from r2)
      exact ⟨_, _, rfl, q.1, k _ _ _ M1 H1 t itsim_rng q.2⟩
    · exact q.elim
end

/-! ### comprehensions, one clause, a plain name -/
section
variable {W : WX} {X : Cx} {K : PySem.W.Frag}
theorem abs_updL {M : Sto} {H : Hp} (ab : Abs K M H) {p : Addr} {vs ws : List V} (hp : H p = some (.lst vs)) (mp : M p = none) : Abs K M (upd H p (.lst ws)) := fun a mo m => by
  have na : a ≠ p := fun z => by subst z; rw [mp] at m; cases m
  exact (ab a mo m).mono (fun u q => by rw [upd_ne na]; exact q) (Kp.updL hp)
def aLcGo (chk : Sto → Prop) (i : Nat) (t : ATT) (e : ATE) (ax : AX) (env : AEnv) : List D → List D → Sto → (List D → Sto → Prop) → Prop
  | [], acc, M, Q => chk M ∧ Q acc M
  | d :: r, acc, M, Q => chk M ∧ t ax (env.set i (some d)) M fun b M1 => if b = true then e ax (env.set i (some d)) M1 fun y M2 => aLcGo chk i t e ax env r (acc ++ [y]) M2 Q else aLcGo chk i t e ax env r acc M1 Q
def aLc (ι : ATI) (i : Nat) (t : ATT) (e : ATE) : ATE := fun ax env M Q => ι ax env M fun items chk M1 => items.length ≤ 1000000 ∧ aLcGo chk i t e ax env items [] M1 fun acc M2 => New (.lst acc) M2 Q
theorem s_lc {i : Nat} {ι : ATI} {t : ATT} {e : ATE} {σ : L2.St} {H : Hp} {Q : VK} (h : cE K W (aLc ι i t e) σ H Q) : tLc (cI K W ι) (gName i) (cT K W t) (cE K W e) [i] σ H Q := by
  obtain ⟨ax, env, M, Qa, S, q, k⟩ := h
  refine ⟨ax, env, M, _, S, q, fun J items chk M1 H1 t1 sim q => ?_⟩
  obtain ⟨hlen, q⟩ := q
  intro D hD
  have md : M1 D = none := t1.abs.fresh hD
  let Qf : List AL.D → Sto → Prop := fun acc M2 => ∀ p, M2 p = none → Qa (.obj p) (up M2 p (.lst acc))
  let Inv : Nat → Hp → Prop := fun i' H' => ∃ M' acc vs, Tr K M1 H1 M' H' ∧ H' D = some (.lst vs) ∧ M' D = none ∧ RepL K H' acc vs ∧ acc.length ≤ i' ∧ aLcGo chk i t e ax env (items.drop i') acc M' Qf
  refine ⟨fun i' m H' => m = items.length - i' ∧ Inv i' H', ⟨items.length, rfl, M1, [], [], Tr.newT t1.abs hD, upd_same, md, rfl, Nat.le_refl _, q⟩, ?_⟩
  rintro i' m H2 ⟨rfl, M2, acc, vs, t2, hD2, md2, ra, hl, q2⟩
  cases hd : items.drop i' with
  | nil =>
    rw [hd] at q2
    refine .inl ⟨(sim i' M2 H2 t2 q2.1).2 (drop_end hd), ?_⟩
    refine k (.ref D) H2 (.obj D) (up M2 D (.lst acc)) (t1.trans ?_) rfl (q2.2 D md2)
    refine ⟨fun a mo m => ?_, fun b o e1 n => ?_⟩
    · by_cases ha : a = D
      · subst ha
        rw [up_same] at m
        cases m
        exact ⟨vs, hD2, ra⟩
      · rw [up_ne ha] at m
        exact t2.abs a mo m
    · obtain ⟨z1, z2⟩ := t2.keep b o e1 n
      exact ⟨z1, by rw [up_ne (ne_of_none e1 hD)]; exact z2⟩
  | cons d r =>
    rw [hd] at q2
    obtain ⟨hi, hr, hlt⟩ := drop_at hd
    obtain ⟨go, yld⟩ := (sim i' M2 H2 t2 q2.1).1 d hi
    refine .inr ⟨go, Inv (i' + 1), fun H' z => ⟨items.length - (i' + 1), by omega, rfl, z⟩, fun x H3 y => ?_⟩
    obtain ⟨t3, r3⟩ := yld x H3 y
    have t13 := t1.trans (t2.trans t3)
    have S3 : Stt K W ax (env.set i (some d)) M2 ((wipe σ [i]).set i (some x)) H3 := by
      have rs := (S.next t13).rs.set (i := i) r3
      have e1 : (wipe σ [i]).set i (some x) = σ.set i (some x) := by
        show (σ.set i none).set i (some x) = σ.set i (some x)
        rw [List.set_set]
      rw [e1]
      exact S.at_ t13 rs
    show wipe ((wipe σ [i]).set i (some x)) [i] = wipe σ [i] ∧ _
    refine ⟨?_, ax, _, M2, _, S3, q2.2, fun b H4 M4 t4 q4 => ?_⟩
    · show ((σ.set i none).set i (some x)).set i none = σ.set i none
      rw [List.set_set, List.set_set]
    obtain ⟨hD3, _⟩ := t3.keep D _ hD2 md2
    obtain ⟨hD4, md4⟩ := t4.keep D _ hD3 md2
    have ra4 : RepL K H4 acc vs := t4.repL t3.abs (t3.repL t2.abs ra)
    have t24 := t2.trans (t3.trans t4)
    cases b with
    | false => exact ⟨M4, acc, vs, t24, hD4, md4, ra4, by omega, by rw [hr]; exact q4⟩
    | true =>
      refine ⟨ax, _, M4, _, S3.next t4, q4, fun v H5 dv M5 t5 r5 q5 => ?_⟩
      obtain ⟨hD5, md5⟩ := t5.keep D _ hD4 md4
      have ra5 : RepL K H5 acc vs := t5.repL t4.abs ra4
      have t25 := t24.trans t5
      refine ⟨vs, hD5, ?_, M5, acc ++ [dv], vs ++ [v], ⟨abs_updL t5.abs hD5 md5, fun b o e1 n => ?_⟩, upd_same, md5, ?_, ?_, by rw [hr]; exact q5⟩
      · rw [← ra5.length]
        exact Nat.lt_of_le_of_lt hl (Nat.lt_of_lt_of_le hlt (Nat.le_trans hlen (by decide)))
      · obtain ⟨z1, z2⟩ := t25.keep b o e1 n
        exact ⟨by rw [upd_ne (ne_of_none e1 hD)]; exact z1, z2⟩
      · exact RepL.mono (Kp.updL hD5) _ _ (ra5.append (RepL.one r5))
      · rw [List.length_append, List.length_singleton]
        omega
abbrev ATTs (X : Cx) (W : WX) (es : List Expr) (t : ATT) : Prop := PTs X es (cT X.K W t)
def aYes : ATT := fun _ _ M Q => Q true M
theorem PTs.imp {X : Cx} {e : List Expr} {t u : TT} (h : PTs X e t) (k : ∀ σ H Q, u σ H Q → t σ H Q) : PTs X e u := ⟨fun pins s σ H Q I q => h.run pins s σ H Q I (k σ H Q q)⟩
theorem ats_nil : ATTs X W [] aYes := PTs.imp pts_nil fun σ H Q h => by
  obtain ⟨ax, env, M, Qa, S, q, k⟩ := h
  exact k true H M (Tr.refl S.abs) q
theorem ats_one {c : Expr} {t : ATT} (h : AT X W c t) : ATTs X W [c] t := pts_one h
theorem ae_lc {x : Str} (i : Nat) {elt iter : Expr} {ifs : List Expr} {scope : Scope} {pos px : Pos} {ι : ATI} {t : ATT} {e : ATE} (hc : X.calm = true) (hN : X.N.Nodup) (hi : AI X W (.Name x px) iter ι) (ok : BlkOk X.N X.env.scope scope [(x, i)])
    (hg : ∀ (s : Shared) (H : Hp) (C : Addr) (cl : List (Str × Addr)) (fp : List Addr), PG (X.blk s H scope (compEnvC scope cl C X.env) fp) (.Name x px) (gName i)) (ht : ∀ (s : Shared) (H : Hp) (C : Addr) (cl : List (Str × Addr)) (fp : List Addr), ATTs (X.blk s H scope (compEnvC scope cl C X.env) fp) W ifs t)
    (he : ∀ (s : Shared) (H : Hp) (C : Addr) (cl : List (Str × Addr)) (fp : List Addr), AE (X.blk s H scope (compEnvC scope cl C X.env) fp) W elt e) (hs : ∀ x, foldedSetIterable iter X.env x = pure x := by intro _; rfl) :
    AE X W (.ListComp elt [⟨.Name x px, iter, ifs, 0⟩] scope pos) (aLc ι i t e) := PE.imp (pe_lc (own := [(x, i)]) hc hN hi ok hg ht he hs) fun _ _ _ => s_lc
theorem as_setLc {x : Str} (i j : Nat) {y : Str} {py : Pos} {elt iter : Expr} {ifs : List Expr} {scope : Scope} {pos px spos : Pos} {ι : ATI} {t : ATT} {e : ATE} (hc : X.calm = true) (hN : X.N.Nodup) (hy : X.N[j]? = some y) (hyl : X.env.scope.names.lookup y = some .local)
    (hsw : swapsWith (.ListComp elt [⟨.Name x px, iter, ifs, 0⟩] scope pos) (some (.Name y py)) spos.line X.env = pure true) (hi : AI X W (.Name x px) iter ι) (ok : BlkOk X.N X.env.scope scope [(x, i)])
    (hg : ∀ (s : Shared) (H : Hp) (C : Addr) (cl : List (Str × Addr)) (fp : List Addr), PG (X.blk s H scope (compEnvC scope cl C X.env) fp) (.Name x px) (gName i)) (ht : ∀ (s : Shared) (H : Hp) (C : Addr) (cl : List (Str × Addr)) (fp : List Addr), ATTs (X.blk s H scope (compEnvC scope cl C X.env) fp) W ifs t)
    (he : ∀ (s : Shared) (H : Hp) (C : Addr) (cl : List (Str × Addr)) (fp : List Addr), AE (X.blk s H scope (compEnvC scope cl C X.env) fp) W elt e) (hs : ∀ x, foldedSetIterable iter X.env x = pure x := by intro _; rfl) :
    AS X W (.Assign [.Name y py] (.ListComp elt [⟨.Name x px, iter, ifs, 0⟩] scope pos) spos) (aAsg (aLc ι i t e) (agName j)) := PS.imp (ps_setLc (i := j) (own := [(x, i)]) hc hN hy hyl hsw hi ok hg ht he hs) fun D σ H h => by
  obtain ⟨ax, env, M, Da, S, q, k⟩ := h
  exact s_lc (W := W) ⟨ax, env, M, _, S, q, fun v H1 d M1 t r q => k.nx _ H1 _ M1 t ((S.next t).rs.set r) q⟩
end

/-! ### a def -/
section
variable {P : Program} {w : World} {K : PySem.W.Frag} {mg : Str → Option Value} {base : Heap}
def W0 : WX := fun _ _ _ _ => False
def startA (N : List Str) (ds : List D) : AEnv := ds.map some ++ List.replicate (N.length - ds.length) none
theorem start_rep {H : Hp} {N : List Str} {ds : List D} {vs : List V} (r : RepL K H ds vs) : RepS K H (startA N ds) (L2.start N vs) := by
  have l := r.length
  refine ⟨?_, fun i d e => ?_⟩
  · unfold startA L2.start
    rw [List.length_append, List.length_append, List.length_map, List.length_map, List.length_replicate, List.length_replicate, l]
  · unfold startA at e
    unfold L2.start
    by_cases hi : i < ds.length
    · rw [List.getElem?_append_left (by rw [List.length_map]; exact hi), List.getElem?_map, Option.map_eq_some_iff] at e
      obtain ⟨d', e1, e2⟩ := e
      cases e2
      obtain ⟨v, e3, rv⟩ := r.get e1
      exact ⟨v, by rw [List.getElem?_append_left (by rw [List.length_map]; omega), List.getElem?_map, e3]; rfl, rv⟩
    · rw [List.getElem?_append_right (by rw [List.length_map]; omega)] at e
      have z := List.mem_of_getElem? e
      rw [List.mem_replicate] at z
      cases z.2
theorem fn_abs {x qual : Str} {st : Stmt} {f : Addr} {fd : FuncData} {N ps : List Str} {k n : Nat} {A : ASp} {a : ATS} (F : Fun K x qual st f fd) (S : FnScope N ps (defScope st)) (hn : ps.length = n)
    (hbody : ∀ (cdv : Value) (A : Around) (outer : List Env) (s : Shared) (H : Hp) (E : XK), Room k (A.deeper (PyProof.Rows.envOfC qual (defScope st) s.heap.objs.size f cdv)) → ASs (cxOf CX0 P w K mg base N qual (defScope st) f cdv A outer s H E).nox W0 (defBody st) a)
    (hp : ∀ ds M Q Xa, ds.length = n → A ds M Q Xa → a ax0 { nx := fun _ M => Q .non M, rt := Q } (startA N ds) M) : FnOk P w K mg base CX0 (k + 1) f fd ps (conc K n A) := by
  refine F.ok S (fun vs H Q E h => ?_) (fun cdv Ar outer s H vs Q E hr h => ?_)
  · obtain ⟨ds, M, Qa, Xa, e, _⟩ := h
    rw [e, hn]
  · obtain ⟨ds, M, Qa, Xa, e, r, ab, q, k1, _⟩ := h
    refine ⟨_, hbody cdv Ar outer s H E hr, ax0, startA N ds, M, { nx := fun _ M => Qa .non M, rt := Qa }, ⟨start_rep r, ab, XC.no⟩, hp ds M Qa Xa (by rw [r.length]; exact e) q, ⟨fun σ' H' env' M' t rs q => k1 .non H' .non M' t rfl q, fun _ _ _ _ _ _ z => z.elim, fun _ _ _ _ _ _ z => z.elim, fun v H' d M' t r q => k1 v H' d M' t r q⟩⟩
end

theorem hu64 {k : Nat} {A : Around} (r : Room k A) : A.units + 64 < cLine := r.units
theorem hu65 {k : Nat} {A : Around} (r : Room k A) : A.units + 65 < cLine := by have := r.un; omega
theorem hu1 {k : Nat} {A : Around} (r : Room k A) : A.units + 1 < cLine := hu_of r
section
variable {W : WX} {X : Cx} {o e : Expr} {α β : ATE} {pos apos cpos : Pos}
theorem ae_join (ho : AE X W o α) (he : AE X W e β) (hs : starEach [e] X.env = [(false, eval e X.env)] := by rfl) (hb : attributeBase o "join" X.env (eval o X.env) = eval o X.env := by rfl) (hl : (apos.endLine == cpos.line) = true := by rfl) :
    AE X W (.Call (.Attribute o "join" apos) [e] [] cpos) (aJoin α β) := PE.imp (pe_join ho he hs hb hl) fun σ H Q h => by
  obtain ⟨ax, env, M, Qa, S, q, k⟩ := h
  refine ⟨ax, env, M, _, S, q, fun x H1 dx M1 t r q => ?_⟩
  cases dx with
  | str z =>
    cases (show x = V.str z from r)
    refine ⟨⟨z, rfl⟩, ax, env, M1, _, S.next t, q, fun y H2 dy M2 t2 ry q => ?_⟩
    obtain ⟨xs, hx, l, q5⟩ := optAt_ex q
    cases dy with
    | obj p =>
      cases (show y = V.ref p from ry)
      have hx' : (match M2 p with | some (.lst ds) => strsOf ds | _ => none) = some xs := hx
      cases m : M2 p with
      | none => rw [m] at hx'; cases hx'
      | some mo =>
        cases mo with
        | dic kvs => rw [m] at hx'; cases hx'
        | raw o => rw [m] at hx'; cases hx'
        | dif od ws kvs => rw [m] at hx'; cases hx'
        | lst ds =>
          rw [m] at hx'
          have e := strsOf_eq (show strsOf ds = some xs from hx')
          subst e
          obtain ⟨vs, h1, hv⟩ := t2.abs p _ m
          rw [hv.strs] at h1
          exact ⟨z, p, xs, rfl, rfl, .inl (SqL.of h1), l, k _ H2 (.str _) M2 (t.trans t2) rfl q5⟩
    | tup ds =>
      have e := strsOf_eq (show strsOf ds = some xs from hx)
      subst e
      obtain ⟨p, vs, rfl, hp, hv⟩ := ry
      rw [hv.strs] at hp
      exact ⟨z, p, xs, rfl, rfl, .inr hp, l, k _ H2 (.str _) M2 (t.trans t2) rfl q5⟩
    | _ => cases hx
  | _ => exact False.elim q
end

/-! ### sorted(set(e)), sorted(xs), sorted(d): texts -/
section
variable {X : Cx} {W : WX} {e f o : Expr} {α β γ : ATE} {τ : ATA} {p p2 q2 pos apos cpos : Pos}
theorem repL_strs {K : PySem.W.Frag} {H : Hp} : ∀ {xs : List Str} {vs : List V}, RepL K H (xs.map D.str) vs → vs = xs.map V.str
  | [], vs, h => h
  | x :: r, vs, h => by
    obtain ⟨v, us, rfl, h1, h2⟩ := h
    rw [repL_strs h2, show v = V.str x from h1]
    rfl
theorem repL_of_strs {K : PySem.W.Frag} {H : Hp} : ∀ xs : List Str, RepL K H (xs.map D.str) (xs.map V.str)
  | [] => rfl
  | x :: r => ⟨_, _, rfl, rfl, repL_of_strs r⟩
def aSortSet (α : ATE) : ATE := fun ax env M Q => α ax env M fun x M1 => match x with
  | .obj p => lstAt M1 p fun ds => optAt (strsOf ds) fun xs => xs.length ≤ 4000 ∧ ∀ ys : List Str, ys.Nodup → (∀ k, k ∈ ys ↔ k ∈ xs) → PyProof.Rows.sortedS ys = true → New (.lst (ys.map D.str)) M1 Q
  | _ => False
theorem ae_sortSet (hc : X.calm = true) (hg1 : Gl X "sorted") (hm1 : X.mg "sorted" = none) (hg2 : Gl X "set") (hm2 : X.mg "set" = none) (ha : AE X W e α)
    (w1 : starEach [.Call (.Name "set" p2) [e] [] q2] X.env = (false, eval (.Call (.Name "set" p2) [e] [] q2) X.env) :: starEach [] X.env := by rfl) (w2 : (backTo pos (starEach [] X.env)).any (·.1) = false := by rfl)
    (w3 : starEach [e] X.env = (false, eval e X.env) :: starEach [] X.env := by rfl) (w4 : (backTo q2 (starEach [] X.env)).any (·.1) = false := by rfl) :
    AE X W (.Call (.Name "sorted" p) [.Call (.Name "set" p2) [e] [] q2] [] pos) (aSortSet α) :=
  PE.imp (pe_callB (cr_sortTx hc) hg1 hm1 (by decide +kernel) (pa_cons (pe_callTy (cr_setTx hc) hg2 hm2 (by decide +kernel) (pa_cons ha pa_nil w3) (by decide) (by decide) w3 w4) pa_nil w1) (by decide) (by decide) w1 w2) fun σ H Q h => by
    obtain ⟨ax, env, M, Qa, S, q, k⟩ := h
    refine ⟨ax, env, M, _, S, q, fun x H1 dx M1 t1 r q => ?_⟩
    cases dx with
    | obj p =>
      cases (show x = V.ref p from r)
      obtain ⟨ds, m, q⟩ := lstAt_ex q
      obtain ⟨xs, es, few, q⟩ := optAt_ex q
      obtain ⟨vs, h1, rv⟩ := t1.abs p _ m
      rw [strsOf_eq es] at rv
      rw [repL_strs rv] at h1
      refine ⟨p, xs, rfl, .inl (.inl h1), by unfold PySem.scanBound; omega, fun a ks ha nd mem => ?_⟩
      refine ⟨a, ks, rfl, upd_same, fun ys b pm so hb => ?_⟩
      have t2 : Tr X.K M1 H1 M1 (upd H1 a (SetTx X.w a ks)) := Tr.newT t1.abs ha
      have t3 := Tr.newM (mo := .lst (ys.map D.str)) t2.abs hb ⟨ys.map V.str, upd_same, repL_of_strs ys⟩
      exact k (.ref b) _ (.obj b) _ ((t1.trans t2).trans t3) rfl (q ys (pm.nodup_iff.mpr nd) (fun z => (pm.mem_iff).trans (mem z)) so b (t2.abs.fresh hb))
    | _ => exact False.elim q
def ρSortS : ARs := fun ds M Q => match ds with
  | [.obj p] => lstAt M p fun ds => optAt (strsOf ds) fun xs => xs.length < 64 ∧ ∀ ys : List Str, ys.Perm xs → PyProof.Rows.sortedS ys = true → New (.lst (ys.map D.str)) M Q
  | _ => False
theorem sim_sortS {K : PySem.W.Frag} : SimC K (rSortedS K) ρSortS := by
  intro vs ds H M Q Qc ab r q k
  unfold ρSortS at q
  split at q
  · rename_i p
    obtain ⟨v, rfl, rv⟩ := repL1 r
    cases (show v = V.ref p from rv)
    obtain ⟨ds, m, q⟩ := lstAt_ex q
    obtain ⟨xs, es, few, q⟩ := optAt_ex q
    obtain ⟨us, h1, ru⟩ := ab p _ m
    rw [strsOf_eq es] at ru
    rw [repL_strs ru] at h1
    refine ⟨p, xs, rfl, .inl (.inl h1), few, fun ys b pm so hb => ?_⟩
    exact k (.ref b) _ (.obj b) _ (Tr.newM (mo := .lst (ys.map D.str)) ab hb ⟨ys.map V.str, upd_same, repL_of_strs ys⟩) rfl (q ys pm so b (ab.fresh hb))
  · exact q.elim
/-- d.setdefault(y, z) -/
def aSetd (a b c : ATE) : ATE := fun ax env M Q => a ax env M fun x M1 => match x with
  | .obj p => dicAt M1 p fun _ => b ax env M1 fun y M2 => c ax env M2 fun z M3 => dicAt M3 p fun kvs => optAt (keyD y) fun k => kvs.length < sizeLine ∧ match valA kvs k with
    | some v => Q v M3
    | none => Q z (up M3 p (.dic (putA kvs k z)))
  | _ => False
theorem ae_setd (ho : AE X W o α) (he : AE X W e β) (hf : AE X W f γ) (m : M2 X o "setdefault" apos e f cpos) : AE X W (.Call (.Attribute o "setdefault" apos) [e, f] [] cpos) (aSetd α β γ) :=
  PE.imp (pe_dsetd ho he hf m) fun σ H Q h => by
    obtain ⟨ax, env, M, Qa, S, q, k⟩ := h
    refine ⟨ax, env, M, _, S, q, fun x H1 dx M1 t1 r q => ?_⟩
    cases dx with
    | obj p =>
      cases (show x = V.ref p from r)
      obtain ⟨kvs, m, q⟩ := dicAt_ex q
      obtain ⟨ws, h1, hv⟩ := t1.abs p _ m
      refine ⟨p, rfl, .inl ⟨ws, .inl h1⟩, ax, env, M1, _, S.next t1, q, fun y H2 dy M2 t2 ry q => ?_⟩
      refine ⟨ax, env, M2, _, (S.next t1).next t2, q, fun z H3 dz M3 t3 rz q => ?_⟩
      obtain ⟨kvs, m, q⟩ := dicAt_ex q
      obtain ⟨key, e, l, q⟩ := optAt_ex q
      obtain ⟨ws, h1, hv⟩ := t3.abs p _ m
      obtain ⟨i1, i2⟩ := valA_rep key hv
      have t := (t1.trans t2).trans t3
      refine ⟨ws, key, h1, key_rep (t3.rep t2.abs ry) e, by rw [← lenK hv]; exact l, fun v hvv => ?_, fun hn => ?_⟩
      · cases g : valA kvs key with
        | some d =>
          rw [g] at q
          obtain ⟨v', h3, r3⟩ := i1 d g
          rw [h3] at hvv
          cases hvv
          exact k v H3 d M3 t r3 q
        | none => rw [i2 g] at hvv; cases hvv
      · cases g : valA kvs key with
        | some d =>
          obtain ⟨v', h3, r3⟩ := i1 d g
          rw [h3] at hn
          cases hn
        | none =>
          rw [g] at q
          have tw := Tr.write (mo := .dic (putA kvs key dz)) t3.abs m ⟨_, upd_same, repK_write t3.abs m (put_rep rz hv)⟩
          exact k z _ dz _ (t.trans tw) (rep_write t3.abs m rz) q
    | _ => exact False.elim q
/-! max of a list of ints -/
def intsOf : List D → Option (List Int)
  | [] => some []
  | .int i :: r => (intsOf r).map fun xs => i :: xs
  | _ => none
theorem intsOf_eq : ∀ {ds : List D} {xs : List Int}, intsOf ds = some xs → ds = xs.map D.int
  | [], _, e => by cases (Option.some.inj e); rfl
  | d :: r, xs, e => by
    cases d with
    | int i =>
      obtain ⟨ys, e1, rfl⟩ := Option.map_eq_some_iff.mp (show (intsOf r).map (fun xs => i :: xs) = some xs from e)
      rw [intsOf_eq e1, List.map_cons]
    | _ => cases e
theorem intsOf_map : ∀ xs : List Int, intsOf (xs.map D.int) = some xs
  | [] => rfl
  | x :: xs => by show (intsOf (xs.map D.int)).map (fun ys => x :: ys) = _; rw [intsOf_map xs]; rfl
theorem repL_ints' {K : PySem.W.Frag} {H : Hp} : ∀ {xs : List Int} {vs : List V}, RepL K H (xs.map D.int) vs → vs = xs.map V.int
  | [], vs, h => h
  | x :: r, vs, h => by
    obtain ⟨v, us, rfl, h1, h2⟩ := h
    rw [repL_ints' h2, show v = V.int x from h1]
    rfl
def ρMaxI : ARs := fun ds M Q => match ds with
  | [.obj p] => lstAt M p fun ds => optAt (intsOf ds) fun xs => 0 < xs.length ∧ ∀ m, m ∈ xs → (∀ y, y ∈ xs → y ≤ m) → Q (.int m) M
  | _ => False
theorem sim_maxI {K : PySem.W.Frag} : SimC K (rMax K) ρMaxI := by
  intro vs ds H M Q Qc ab r q k
  unfold ρMaxI at q
  split at q
  · rename_i p
    obtain ⟨v, rfl, rv⟩ := repL1 r
    cases (show v = V.ref p from rv)
    obtain ⟨ds, m, q⟩ := lstAt_ex q
    obtain ⟨xs, es, pos, q⟩ := optAt_ex q
    obtain ⟨us, h1, ru⟩ := ab p _ m
    rw [intsOf_eq es] at ru
    rw [repL_ints' ru] at h1
    exact ⟨p, xs, rfl, .inl (.inl h1), pos, fun n hn hy => k (.int n) H (.int n) M (Tr.refl ab) rfl (q n hn hy)⟩
  · exact q.elim
end

/-! a written dict with texts for keys -/
section
variable {X : Cx} {W : WX} {K : PySem.W.Frag}
def aPairs : List (Str × ATE) → AX → AEnv → Sto → (List (Key × D) → Sto → Prop) → Prop
  | [], _, _, M, Q => Q [] M
  | (s, a) :: r, ax, env, M, Q => a ax env M fun y M1 => aPairs r ax env M1 fun kvs M2 => Q ((.inr s, y) :: kvs) M2
def trsOf (K : PySem.W.Frag) (W : WX) (prs : List (Str × ATE)) : List (TE × TE) := prs.map fun z => (tC (.str z.1), cE K W z.2)
def mergeA (kvs : List (Key × D)) (more : List (Key × D)) : List (Key × D) := more.foldl (fun acc kv => putA acc kv.1 kv.2) kvs
theorem merge_rep {H : Hp} : ∀ {more : List (Key × D)} {ws : List (Key × V)} {kvs : List (Key × D)} {us : List (Key × V)}, RepK K H more ws → RepK K H kvs us → RepK K H (mergeA kvs more) (mergeK us ws)
  | [], _, _, _, .nil, h => h
  | (k, d) :: r, (k2, v) :: ws, kvs, us, .cons ⟨e, rv⟩ t, h => by
    cases (show k = k2 from e)
    exact merge_rep (more := r) (ws := ws) t (put_rep rv h)
theorem pairs_ok : ∀ (prs : List (Str × ATE)) (σ : L2.St) (H : Hp) (ax : AX) (env : AEnv) (M : Sto) (Qa : List (Key × D) → Sto → Prop), Stt K W ax env M σ H → aPairs prs ax env M Qa → ∀ Q : List (V × V) → Hp → Prop,
    (∀ (ws : List (Key × V)) kvs H' M', Tr K M H M' H' → RepK K H' kvs ws → Qa kvs M' → Q (ws.map fun kv => (kV kv.1, kv.2)) H') → tPairs (trsOf K W prs) σ H Q
  | [], σ, H, ax, env, M, Qa, S, q, Q, k => k [] [] H M (Tr.refl S.abs) .nil q
  | (s, a) :: r, σ, H, ax, env, M, Qa, S, q, Q, k => by
    show cE K W a σ H _
    refine ⟨ax, env, M, _, S, q, fun v H1 d M1 t rv q1 => ?_⟩
    refine pairs_ok r σ H1 ax env M1 _ (S.next t) q1 _ fun ws kvs H2 M2 t2 rk q2 => ?_
    exact k ((.inr s, v) :: ws) _ H2 M2 (t.trans t2) (.cons ⟨rfl, t2.rep t.abs rv⟩ rk) q2
def aDisp (prs : List (Str × ATE)) : ATE := fun ax env M Q => ∀ p, M p = none → aPairs prs ax env (up M p (.dic [])) fun kvs M2 => M2 p = some (.dic []) ∧ kvs.length ≤ 15 ∧ Q (.obj p) (up M2 p (.dic (mergeA [] kvs)))
def ADP (X : Cx) (W : WX) (pos : Pos) (keys : List (Option Expr)) (vals : List Expr) (prs : List (Str × ATE)) : Prop := PPs X pos keys vals (trsOf X.K W prs)
theorem adp_nil {pos : Pos} : ADP X W pos [] [] [] := pps_nil
theorem adp_cons {pos p : Pos} {j : Nat} {s : Str} {v : Expr} {ks : List (Option Expr)} {vs : List Expr} {a : ATE} {r : List (Str × ATE)} (hv : AE X W v a) (hr : ADP X W pos ks vs r) : ADP X W pos (some (.Constant (.str s) j p) :: ks) (v :: vs) ((s, a) :: r) := pps_cons pe_str hv hr
theorem repK_nil {H : Hp} {ws : List (Key × V)} (h : RepK K H [] ws) : ws = [] := by cases h; rfl
theorem ae_disp {pos : Pos} {keys : List (Option Expr)} {values : List Expr} {prs : List (Str × ATE)} (h : ADP X W pos keys values prs) (hall : keys.all (·.isSome) = true) (hl : keys.length = values.length) (h0 : keys ≠ [])
    (h15 : keys.length ≤ 15) : AE X W (.Dict keys values pos) (aDisp prs) := PE.imp (pe_disp h hall hl h0 h15) fun σ H Q h => by
  obtain ⟨ax, env, M, Qa, S, q, k⟩ := h
  intro p hp
  have t1 := Tr.newM (mo := .dic []) S.abs hp ⟨[], upd_same, .nil⟩
  refine pairs_ok prs σ _ ax env _ _ (S.next t1) (q p (S.abs.fresh hp)) _ fun ws kvs H2 M2 t2 rk q2 => ?_
  obtain ⟨m2, l15, q3⟩ := q2
  obtain ⟨us, h2, r2⟩ := t2.abs p _ m2
  rw [repK_nil r2] at h2
  refine ⟨h2, ws, rfl, by rw [← lenK rk]; exact l15, ?_⟩
  have tw := Tr.write (mo := .dic (mergeA [] kvs)) (o := .dK (mergeK [] ws)) t2.abs m2 ⟨_, upd_same, repK_write t2.abs m2 (merge_rep rk .nil)⟩
  exact k (.ref p) _ (.obj p) _ ((t1.trans t2).trans tw) rfl q3
end

/-! enumerate, zip -/
section
variable {W : WX} {X : Cx} {K : PySem.W.Frag}
def enumD : Int → List D → List D
  | _, [] => []
  | k, d :: r => .tup [.int k, d] :: enumD (k + 1) r
theorem enumD_get : ∀ (ds : List D) (k : Int) (i : Nat), (enumD k ds)[i]? = (ds[i]?).map fun d => D.tup [.int (k + i), d]
  | [], _, _ => by simp [enumD]
  | d :: r, k, 0 => by simp [enumD]
  | d :: r, k, i + 1 => by
    rw [enumD, List.getElem?_cons_succ, List.getElem?_cons_succ, enumD_get r (k + 1) i]
    congr 1
    funext x
    congr 3
    push_cast
    omega
theorem enumD_length : ∀ (ds : List D) (k : Int), (enumD k ds).length = ds.length
  | [], _ => rfl
  | d :: r, k => by rw [enumD, List.length_cons, List.length_cons, enumD_length]
def aIEnum (τ : ATA) : ATI := fun ax env M R => τ ax env M fun ds M1 => match ds with
  | [.tup ds] => R (enumD 0 ds) (fun _ => True) M1
  | [.obj p] => lstAt M1 p fun ds => R (enumD 0 ds) (fun M => M p = some (.lst ds)) M1
  | _ => False
theorem rep_pair {H : Hp} {T : Addr} {d e : D} {v w : V} (hT : H T = none) (h1 : Rep K H d v) (h2 : Rep K H e w) : Rep K (upd H T (.tup [v, w])) (.tup [d, e]) (.ref T) := rep_newT hT ⟨v, [w], rfl, h1, RepL.one h2⟩
theorem itsim_enL {p : Addr} {ds : List D} {M1 : Sto} {H1 : Hp} : ItSim K (Ite K p) (enumD 0 ds) (fun M => M p = some (.lst ds)) M1 H1 := fun i M H t m => by
  obtain ⟨vs, h1, hv⟩ := t.abs p _ m
  refine ⟨fun d e => ?_, fun e => ?_⟩
  · rw [enumD_get, Option.map_eq_some_iff] at e
    obtain ⟨d0, e0, rfl⟩ := e
    obtain ⟨v, e', r⟩ := hv.get e0
    refine ⟨⟨vs, v, SqL.of h1, e'⟩, fun x H' y => ?_⟩
    obtain ⟨T, v', rfl, hT, rfl, y⟩ := y
    cases e'.symm.trans (y vs (SqL.of h1))
    refine ⟨Tr.newT t.abs hT, ?_⟩
    rw [Int.zero_add]
    exact rep_pair (d := .int (i : Nat)) hT rfl r
  · refine ⟨vs, SqL.of h1, ?_⟩
    rw [enumD_get, Option.map_eq_none_iff] at e
    rw [← hv.length]
    exact List.getElem?_eq_none_iff.mp e
theorem itsim_enT {p : Addr} {ds : List D} {vs : List V} {M1 : Sto} {H1 : Hp} (ab : Abs K M1 H1) (hp : SqT K H1 p vs) (hv : RepL K H1 ds vs) : ItSim K (EN.ItEn K p) (enumD 0 ds) (fun _ => True) M1 H1 := fun i M H t m => by
  have hp' := t.sqT ab hp
  have hv' := t.repL ab hv
  refine ⟨fun d e => ?_, fun e => ?_⟩
  · rw [enumD_get, Option.map_eq_some_iff] at e
    obtain ⟨d0, e0, rfl⟩ := e
    obtain ⟨v, e', r⟩ := hv'.get e0
    refine ⟨⟨vs, v, hp', e'⟩, fun x H' y => ?_⟩
    obtain ⟨T, v', rfl, hT, rfl, y⟩ := y
    cases e'.symm.trans (y vs hp')
    refine ⟨Tr.newT t.abs hT, ?_⟩
    rw [Int.zero_add]
    exact rep_pair (d := .int (i : Nat)) hT rfl r
  · refine ⟨vs, hp', ?_⟩
    rw [enumD_get, Option.map_eq_none_iff] at e
    rw [← hv'.length]
    exact List.getElem?_eq_none_iff.mp e
theorem ai_enum {a : Expr} {τ : ATA} {p pos tp : Pos} {es : List Expr} {kk : Nat} (hg : Gl X "enumerate") (hm : X.mg "enumerate" = none) (ha : AA X W [a] τ) (hs : starEach [a] X.env = [(false, eval a X.env)] := by rfl) :
    AI X W (.Tuple es kk tp) (.Call (.Name "enumerate" p) [a] [] pos) (aIEnum τ) :=
  PI.imp (EN.pi_enA hg hm ha hs) fun σ H R h => by
    obtain ⟨ax, env, M, Ra, S, q, k⟩ := h
    refine ⟨ax, env, M, _, S, q, fun vs H1 ds M1 t r q => ?_⟩
    split at q
    · obtain ⟨v, rfl, r1⟩ := repL1 r
      obtain ⟨b, ws, rfl, hp, hv⟩ := r1
      exact ⟨b, ws, rfl, .inr ⟨hp, k _ _ _ M1 H1 t (itsim_enT t.abs hp hv) q⟩⟩
    · obtain ⟨v, rfl, r1⟩ := repL1 r
      cases (show v = V.ref _ from r1)
      obtain ⟨ds, m, q⟩ := lstAt_ex q
      obtain ⟨ws, h1, hv⟩ := t.abs _ _ m
      exact ⟨_, ws, rfl, .inl ⟨SqL.of h1, k _ _ _ M1 H1 t itsim_enL q⟩⟩
    · exact q.elim
/-- pairs of the items of two lists -/
def zipD : List D → List D → List D
  | d :: r, e :: s => .tup [d, e] :: zipD r s
  | _, _ => []
theorem zipD_some : ∀ {ds es : List D} {i : Nat} {x : D}, (zipD ds es)[i]? = some x → ∃ d e, ds[i]? = some d ∧ es[i]? = some e ∧ x = .tup [d, e]
  | [], _, _, _, h => by simp [zipD] at h
  | _ :: _, [], _, _, h => by simp [zipD] at h
  | d :: r, e :: s, 0, x, h => ⟨d, e, rfl, rfl, by simpa [zipD] using h.symm⟩
  | d :: r, e :: s, i + 1, x, h => zipD_some (ds := r) (es := s) (i := i) (by simpa [zipD] using h)
theorem zipD_none : ∀ {ds es : List D} {i : Nat}, (zipD ds es)[i]? = none → ds.length ≤ i ∨ es.length ≤ i
  | [], _, _, _ => .inl (Nat.zero_le _)
  | _ :: _, [], _, _ => .inr (Nat.zero_le _)
  | d :: r, e :: s, 0, h => by simp [zipD] at h
  | d :: r, e :: s, i + 1, h => by
    rcases zipD_none (ds := r) (es := s) (i := i) (by simpa [zipD] using h) with q | q
    · exact .inl (Nat.succ_le_succ q)
    · exact .inr (Nat.succ_le_succ q)
def aIZip (τ : ATA) : ATI := fun ax env M R => τ ax env M fun ds M1 => match ds with
  | [.tup ds, .tup es] => R (zipD ds es) (fun _ => True) M1
  | [.obj p, .obj q] => lstAt M1 p fun ds => lstAt M1 q fun es => R (zipD ds es) (fun M => M p = some (.lst ds) ∧ M q = some (.lst es)) M1
  | _ => False
theorem itsim_zipL {p q : Addr} {ds es : List D} {M1 : Sto} {H1 : Hp} : ItSim K (Itz K p q) (zipD ds es) (fun M => M p = some (.lst ds) ∧ M q = some (.lst es)) M1 H1 := fun i M H t m => by
  obtain ⟨vs, h1, hv⟩ := t.abs p _ m.1
  obtain ⟨ws, h2, hw⟩ := t.abs q _ m.2
  refine ⟨fun d e => ?_, fun e => ?_⟩
  · obtain ⟨d1, d2, e1, e2, rfl⟩ := zipD_some e
    obtain ⟨v, e1', r1⟩ := hv.get e1
    obtain ⟨w, e2', r2⟩ := hw.get e2
    refine ⟨⟨vs, ws, v, w, SqL.of h1, SqL.of h2, e1', e2'⟩, fun x H' y => ?_⟩
    obtain ⟨T, v', w', rfl, hT, rfl, y1, y2⟩ := y
    cases e1'.symm.trans (y1 vs (SqL.of h1))
    cases e2'.symm.trans (y2 ws (SqL.of h2))
    exact ⟨Tr.newT t.abs hT, rep_pair hT r1 r2⟩
  · refine ⟨vs, ws, SqL.of h1, SqL.of h2, ?_⟩
    rw [← hv.length, ← hw.length]
    exact zipD_none e
theorem itsim_zipT {p q : Addr} {ds es : List D} {vs ws : List V} {M1 : Sto} {H1 : Hp} (ab : Abs K M1 H1) (hp : SqT K H1 p vs) (hv : RepL K H1 ds vs) (hq : SqT K H1 q ws) (hw : RepL K H1 es ws) : ItSim K (RZ.ItzT K p q) (zipD ds es) (fun _ => True) M1 H1 := fun i M H t m => by
  have hp' := t.sqT ab hp
  have hv' := t.repL ab hv
  have hq' := t.sqT ab hq
  have hw' := t.repL ab hw
  refine ⟨fun d e => ?_, fun e => ?_⟩
  · obtain ⟨d1, d2, e1, e2, rfl⟩ := zipD_some e
    obtain ⟨v, e1', r1⟩ := hv'.get e1
    obtain ⟨w, e2', r2⟩ := hw'.get e2
    refine ⟨⟨vs, ws, v, w, hp', hq', e1', e2'⟩, fun x H' y => ?_⟩
    obtain ⟨T, v', w', rfl, hT, rfl, y1, y2⟩ := y
    cases e1'.symm.trans (y1 vs hp')
    cases e2'.symm.trans (y2 ws hq')
    exact ⟨Tr.newT t.abs hT, rep_pair hT r1 r2⟩
  · refine ⟨vs, ws, hp', hq', ?_⟩
    rw [← hv'.length, ← hw'.length]
    exact zipD_none e
theorem ai_zip {a b : Expr} {τ : ATA} {p pos tp : Pos} {es : List Expr} {kk : Nat} (hg : Gl X "zip") (hm : X.mg "zip" = none) (ha : AA X W [a, b] τ) (hs : starEach [a, b] X.env = (false, eval a X.env) :: starEach [b] X.env := by rfl) (hpl : (backTo pos (starEach [b] X.env)).any (·.1) = false := by rfl) :
    AI X W (.Tuple es kk tp) (.Call (.Name "zip" p) [a, b] [] pos) (aIZip τ) :=
  PI.imp (RZ.pi_zipA hg hm ha hs hpl) fun σ H R h => by
    obtain ⟨ax, env, M, Ra, S, q, k⟩ := h
    refine ⟨ax, env, M, _, S, q, fun vs H1 ds M1 t r q => ?_⟩
    split at q
    · obtain ⟨v, w, rfl, r1, r2⟩ := repL2 r
      obtain ⟨b, ws, rfl, hp, hv⟩ := r1
      obtain ⟨c, us, rfl, hq, hw⟩ := r2
      exact ⟨b, c, ws, us, rfl, .inr ⟨hp, hq, k _ _ _ M1 H1 t (itsim_zipT t.abs hp hv hq hw) q⟩⟩
    · obtain ⟨v, w, rfl, r1, r2⟩ := repL2 r
      cases (show v = V.ref _ from r1)
      cases (show w = V.ref _ from r2)
      obtain ⟨ds, m, q⟩ := lstAt_ex q
      obtain ⟨es, m2, q⟩ := lstAt_ex q
      obtain ⟨ws, h1, hv⟩ := t.abs _ _ m
      obtain ⟨us, h2, hw⟩ := t.abs _ _ m2
      exact ⟨_, _, ws, us, rfl, .inl ⟨SqL.of h1, SqL.of h2, k _ _ _ M1 H1 t itsim_zipL q⟩⟩
    · exact q.elim
end
/-! a comprehension whose target is a pair of names -/
section
variable {W : WX} {X : Cx} {K : PySem.W.Frag}
def aLc2Go (chk : Sto → Prop) (i j : Nat) (t : ATT) (e : ATE) (ax : AX) (env : AEnv) : List D → List D → Sto → (List D → Sto → Prop) → Prop
  | [], acc, M, Q => chk M ∧ Q acc M
  | .tup [d, c] :: r, acc, M, Q => chk M ∧ t ax ((env.set i (some d)).set j (some c)) M fun b M1 => if b = true then e ax ((env.set i (some d)).set j (some c)) M1 fun y M2 => aLc2Go chk i j t e ax env r (acc ++ [y]) M2 Q else aLc2Go chk i j t e ax env r acc M1 Q
  | _ :: _, _, _, _ => False
def aLc2 (ι : ATI) (i j : Nat) (t : ATT) (e : ATE) : ATE := fun ax env M Q => ι ax env M fun items chk M1 => i ≠ j ∧ items.length ≤ 1000000 ∧ aLc2Go chk i j t e ax env items [] M1 fun acc M2 => New (.lst acc) M2 Q
abbrev gPair (K : PySem.W.Frag) (i j : Nat) : TG := gTup K 2 (gCons (gName i) (gCons (gName j) gNil))
theorem set_pair {σ : L2.St} {i j : Nat} (n : i ≠ j) (v w : V) : ((wipe σ [i, j]).set i (some v)).set j (some w) = (σ.set i (some v)).set j (some w) := by
  show (((σ.set j none).set i none).set i (some v)).set j (some w) = _
  rw [List.set_set, List.set_comm _ _ n.symm, List.set_set]
theorem wipe_pair {σ : L2.St} {i j : Nat} (n : i ≠ j) (v w : V) : wipe ((σ.set i (some v)).set j (some w)) [i, j] = wipe σ [i, j] := by
  show (((σ.set i (some v)).set j (some w)).set j none).set i none = (σ.set j none).set i none
  rw [List.set_set, List.set_comm _ _ n, List.set_set]
theorem lc2_cons {chk : Sto → Prop} {i j : Nat} {t : ATT} {e : ATE} {ax : AX} {env : AEnv} {d : D} {r acc : List D} {M : Sto} {Q : List D → Sto → Prop} (h : aLc2Go chk i j t e ax env (d :: r) acc M Q) : ∃ a b, d = .tup [a, b] ∧
    chk M ∧ t ax ((env.set i (some a)).set j (some b)) M fun k M1 => if k = true then e ax ((env.set i (some a)).set j (some b)) M1 fun y M2 => aLc2Go chk i j t e ax env r (acc ++ [y]) M2 Q else aLc2Go chk i j t e ax env r acc M1 Q := by
  match d, h with
  | .tup [a, b], h => exact ⟨a, b, rfl, h⟩
theorem s_lc2 {i j : Nat} {ι : ATI} {t : ATT} {e : ATE} {σ : L2.St} {H : Hp} {Q : VK} (h : cE K W (aLc2 ι i j t e) σ H Q) : tLc (cI K W ι) (gPair K i j) (cT K W t) (cE K W e) [i, j] σ H Q := by
  obtain ⟨ax, env, M, Qa, S, q, k⟩ := h
  refine ⟨ax, env, M, _, S, q, fun J items chk M1 H1 t1 sim q => ?_⟩
  obtain ⟨nij, hlen, q⟩ := q
  intro D hD
  have md : M1 D = none := t1.abs.fresh hD
  let Qf : List AL.D → Sto → Prop := fun acc M2 => ∀ p, M2 p = none → Qa (.obj p) (up M2 p (.lst acc))
  let Inv : Nat → Hp → Prop := fun i' H' => ∃ M' acc vs, Tr K M1 H1 M' H' ∧ H' D = some (.lst vs) ∧ M' D = none ∧ RepL K H' acc vs ∧ acc.length ≤ i' ∧ aLc2Go chk i j t e ax env (items.drop i') acc M' Qf
  refine ⟨fun i' m H' => m = items.length - i' ∧ Inv i' H', ⟨items.length, rfl, M1, [], [], Tr.newT t1.abs hD, upd_same, md, rfl, Nat.le_refl _, q⟩, ?_⟩
  rintro i' m H2 ⟨rfl, M2, acc, vs, t2, hD2, md2, ra, hl, q2⟩
  cases hd : items.drop i' with
  | nil =>
    rw [hd] at q2
    refine .inl ⟨(sim i' M2 H2 t2 q2.1).2 (drop_end hd), ?_⟩
    refine k (.ref D) H2 (.obj D) (up M2 D (.lst acc)) (t1.trans ?_) rfl (q2.2 D md2)
    refine ⟨fun a mo m => ?_, fun b o e1 n => ?_⟩
    · by_cases ha : a = D
      · subst ha
        rw [up_same] at m
        cases m
        exact ⟨vs, hD2, ra⟩
      · rw [up_ne ha] at m
        exact t2.abs a mo m
    · obtain ⟨z1, z2⟩ := t2.keep b o e1 n
      exact ⟨z1, by rw [up_ne (ne_of_none e1 hD)]; exact z2⟩
  | cons d r =>
    rw [hd] at q2
    obtain ⟨d1, d2, rfl, q2⟩ := lc2_cons q2
    obtain ⟨hi, hr, hlt⟩ := drop_at hd
    obtain ⟨go, yld⟩ := (sim i' M2 H2 t2 q2.1).1 _ hi
    refine .inr ⟨go, Inv (i' + 1), fun H' z => ⟨items.length - (i' + 1), by omega, rfl, z⟩, fun x H3 y => ?_⟩
    obtain ⟨t3, r3⟩ := yld x H3 y
    obtain ⟨a, us, rfl, hT, hu⟩ := r3
    obtain ⟨v1, v2, rfl, rv1, rv2⟩ := repL2 hu
    have t13 := t1.trans (t2.trans t3)
    have S3 : Stt K W ax ((env.set i (some d1)).set j (some d2)) M2 ((σ.set i (some v1)).set j (some v2)) H3 := S.at_ t13 (((S.next t13).rs.set (i := i) rv1).set (i := j) rv2)
    refine ⟨a, [v1, v2], rfl, hT, rfl, v1, [v2], rfl, ?_⟩
    show ∃ v r, [v2] = v :: r ∧ _
    refine ⟨v2, [], rfl, ?_⟩
    show [] = [] ∧ _
    refine ⟨rfl, ?_⟩
    rw [set_pair nij]
    refine ⟨wipe_pair nij v1 v2, ax, _, M2, _, S3, q2.2, fun b H4 M4 t4 q4 => ?_⟩
    obtain ⟨hD3, _⟩ := t3.keep D _ hD2 md2
    obtain ⟨hD4, md4⟩ := t4.keep D _ hD3 md2
    have ra4 : RepL K H4 acc vs := t4.repL t3.abs (t3.repL t2.abs ra)
    have t24 := t2.trans (t3.trans t4)
    cases b with
    | false => exact ⟨M4, acc, vs, t24, hD4, md4, ra4, by omega, by rw [hr]; exact q4⟩
    | true =>
      refine ⟨ax, _, M4, _, S3.next t4, q4, fun v H5 dv M5 t5 r5 q5 => ?_⟩
      obtain ⟨hD5, md5⟩ := t5.keep D _ hD4 md4
      have ra5 : RepL K H5 acc vs := t5.repL t4.abs ra4
      have t25 := t24.trans t5
      refine ⟨vs, hD5, ?_, M5, acc ++ [dv], vs ++ [v], ⟨abs_updL t5.abs hD5 md5, fun b o e1 n => ?_⟩, upd_same, md5, ?_, ?_, by rw [hr]; exact q5⟩
      · rw [← ra5.length]
        exact Nat.lt_of_le_of_lt hl (Nat.lt_of_lt_of_le hlt (Nat.le_trans hlen (by decide)))
      · obtain ⟨z1, z2⟩ := t25.keep b o e1 n
        exact ⟨by rw [upd_ne (ne_of_none e1 hD)]; exact z1, z2⟩
      · exact RepL.mono (Kp.updL hD5) _ _ (ra5.append (RepL.one r5))
      · rw [List.length_append, List.length_singleton]
        omega
theorem ae_lc2 {x y : Str} (i j : Nat) {elt iter : Expr} {ifs : List Expr} {scope : Scope} {pos px py pt : Pos} {kk : Nat} {ι : ATI} {t : ATT} {e : ATE} (hc : X.calm = true) (hN : X.N.Nodup) (hi : AI X W (.Tuple [.Name x px, .Name y py] kk pt) iter ι) (ok : BlkOk X.N X.env.scope scope [(x, i), (y, j)])
    (hg : ∀ (s : Shared) (H : Hp) (C : Addr) (cl : List (Str × Addr)) (fp : List Addr), PG (X.blk s H scope (compEnvC scope cl C X.env) fp) (.Tuple [.Name x px, .Name y py] kk pt) (gPair X.K i j))
    (ht : ∀ (s : Shared) (H : Hp) (C : Addr) (cl : List (Str × Addr)) (fp : List Addr), ATTs (X.blk s H scope (compEnvC scope cl C X.env) fp) W ifs t)
    (he : ∀ (s : Shared) (H : Hp) (C : Addr) (cl : List (Str × Addr)) (fp : List Addr), AE (X.blk s H scope (compEnvC scope cl C X.env) fp) W elt e) (hs : ∀ x, foldedSetIterable iter X.env x = pure x := by intro _; rfl) :
    AE X W (.ListComp elt [⟨.Tuple [.Name x px, .Name y py] kk pt, iter, ifs, 0⟩] scope pos) (aLc2 ι i j t e) := PE.imp (pe_lc (own := [(x, i), (y, j)]) hc hN hi ok hg ht he hs) fun _ _ _ => s_lc2
theorem as_setLc2 {x y z : Str} (i j l : Nat) {pz : Pos} {elt iter : Expr} {ifs : List Expr} {scope : Scope} {pos px py pt spos : Pos} {kk : Nat} {ι : ATI} {t : ATT} {e : ATE} (hc : X.calm = true) (hN : X.N.Nodup) (hz : X.N[l]? = some z) (hzl : X.env.scope.names.lookup z = some .local)
    (hsw : swapsWith (.ListComp elt [⟨.Tuple [.Name x px, .Name y py] kk pt, iter, ifs, 0⟩] scope pos) (some (.Name z pz)) spos.line X.env = pure true) (hi : AI X W (.Tuple [.Name x px, .Name y py] kk pt) iter ι) (ok : BlkOk X.N X.env.scope scope [(x, i), (y, j)])
    (hg : ∀ (s : Shared) (H : Hp) (C : Addr) (cl : List (Str × Addr)) (fp : List Addr), PG (X.blk s H scope (compEnvC scope cl C X.env) fp) (.Tuple [.Name x px, .Name y py] kk pt) (gPair X.K i j))
    (ht : ∀ (s : Shared) (H : Hp) (C : Addr) (cl : List (Str × Addr)) (fp : List Addr), ATTs (X.blk s H scope (compEnvC scope cl C X.env) fp) W ifs t)
    (he : ∀ (s : Shared) (H : Hp) (C : Addr) (cl : List (Str × Addr)) (fp : List Addr), AE (X.blk s H scope (compEnvC scope cl C X.env) fp) W elt e) (hs : ∀ x, foldedSetIterable iter X.env x = pure x := by intro _; rfl) :
    AS X W (.Assign [.Name z pz] (.ListComp elt [⟨.Tuple [.Name x px, .Name y py] kk pt, iter, ifs, 0⟩] scope pos) spos) (aAsg (aLc2 ι i j t e) (agName l)) := PS.imp (ps_setLc (i := l) (own := [(x, i), (y, j)]) hc hN hz hzl hsw hi ok hg ht he hs) fun D σ H h => by
  obtain ⟨ax, env, M, Da, S, q, k⟩ := h
  exact s_lc2 (W := W) ⟨ax, env, M, _, S, q, fun v H1 d M1 t r q => k.nx _ H1 _ M1 t ((S.next t).rs.set r) q⟩
end
/-! any, all of a list of truth values -/
section
variable {K : PySem.W.Frag}
def blsOf : List D → Option (List Bool)
  | [] => some []
  | .bl x :: r => (blsOf r).map fun xs => x :: xs
  | _ :: _ => none
theorem blsOf_map : ∀ (xs : List Bool), blsOf (xs.map D.bl) = some xs
  | [] => rfl
  | x :: xs => by show (blsOf (xs.map D.bl)).map (fun ys => x :: ys) = _; rw [blsOf_map xs]; rfl
theorem blsOf_rep {H : Hp} : ∀ {ds : List D} {xs : List Bool} {vs : List V}, blsOf ds = some xs → RepL K H ds vs → vs = xs.map V.bl
  | [], xs, vs, e, h => by cases (Option.some.inj e); exact h
  | .bl x :: r, xs, vs, e, h => by
    obtain ⟨ys, e1, rfl⟩ := Option.map_eq_some_iff.mp (show (blsOf r).map (fun xs => x :: xs) = some xs from e)
    obtain ⟨v, w, rfl, h1, h2⟩ := h
    cases (show v = V.bl x from h1)
    rw [blsOf_rep e1 h2, List.map_cons]
  | .non :: _, _, _, e, _ => by cases e
  | .str _ :: _, _, _, e, _ => by cases e
  | .int _ :: _, _, _, e, _ => by cases e
  | .tup _ :: _, _, _, e, _ => by cases e
  | .obj _ :: _, _, _, e, _ => by cases e
  | .fl _ :: _, _, _, e, _ => by cases e
def ρAny : ARs := fun ds M Q => match ds with
  | [.obj p] => lstAt M p fun ds => optAt (blsOf ds) fun bs => Q (.bl (bs.any id)) M
  | _ => False
def ρAll : ARs := fun ds M Q => match ds with
  | [.obj p] => lstAt M p fun ds => optAt (blsOf ds) fun bs => Q (.bl (bs.all id)) M
  | _ => False
theorem sim_any : SimC K (rAny K) ρAny := by
  intro xs ds H M Q Qc ab rx q k
  unfold ρAny at q
  split at q
  · obtain ⟨v, rfl, r1⟩ := repL1 rx
    cases (show v = V.ref _ from r1)
    obtain ⟨ds, m, q⟩ := lstAt_ex q
    obtain ⟨bs, e, q⟩ := optAt_ex q
    obtain ⟨vs, h1, hv⟩ := ab _ _ m
    cases blsOf_rep e hv
    exact ⟨_, bs, rfl, SqL.of h1, k _ H (.bl _) M (Tr.refl ab) rfl q⟩
  · exact q.elim
theorem sim_all : SimC K (rAll K) ρAll := by
  intro xs ds H M Q Qc ab rx q k
  unfold ρAll at q
  split at q
  · obtain ⟨v, rfl, r1⟩ := repL1 rx
    cases (show v = V.ref _ from r1)
    obtain ⟨ds, m, q⟩ := lstAt_ex q
    obtain ⟨bs, e, q⟩ := optAt_ex q
    obtain ⟨vs, h1, hv⟩ := ab _ _ m
    cases blsOf_rep e hv
    exact ⟨_, bs, rfl, SqL.of h1, k _ H (.bl _) M (Tr.refl ab) rfl q⟩
  · exact q.elim
/-! * of ints; a text times an int -/
def rMulS : R2 := fun x y H Q => (rI CMul fun i j => .int (i * j)) x y H Q ∨ EN.rRepS x y H Q
theorem op_mulS {X : Cx} : OpR X (binaryOp .Mult) rMulS := op_mul.or EN.op_repS
def ρMulS : AR2 := fun x y M Q => match x, y with
  | .str z, .int k => 0 ≤ k ∧ k ≤ 1000 ∧ z.length ≤ 1000 ∧ Q (.str (EN.reps z k.toNat)) M
  | x, y => ρMul x y M Q
theorem sim_mulS : SimR K rMulS ρMulS := by
  intro x y dx dy H M Q Qc ab rx ry q k
  unfold ρMulS at q
  split at q
  · rename_i z i
    cases (show x = V.str z from rx)
    cases (show y = V.int i from ry)
    exact .inr ⟨z, i, rfl, rfl, q.1, q.2.1, q.2.2.1, k _ H (.str _) M (Tr.refl ab) rfl q.2.2.2⟩
  · exact .inl (sim_mul x y dx dy H M Q Qc ab rx ry q k)
end

section
variable {W : WX} {X : Cx} {K : PySem.W.Frag} {e o : Expr} {es : List Expr} {α : ATE} {τ : ATA} {pos p apos cpos : Pos} {x : Str}
theorem ext_noFz {f : Heap → Prop} : ¬ Fz (.ext f) := fun z => z.elim
theorem Tr.newR {M : Sto} {H : Hp} (h : Abs K M H) {p : Addr} {o : HO} (n : ¬ Fz o) (hp : H p = none) : Tr K M H (up M p (.raw o)) (upd H p o) := Tr.newM (mo := .raw o) h hp ⟨upd_same, n⟩
theorem Tr.writeR {M : Sto} {H : Hp} (h : Abs K M H) {p : Addr} {o : HO} {m0 : MO} (n : ¬ Fz o) (hp : M p = some m0) : Tr K M H (up M p (.raw o)) (upd H p o) := Tr.write (mo := .raw o) h hp ⟨upd_same, n⟩
/-- set() -/
def aSet0 (w : World) : ATE := fun _ _ M Q => ∀ p, M p = none → Q (.obj p) (up M p (.raw (SetTx w p [])))
theorem ae_set0 (hg : Gl X x) (hm : X.mg x = none) (hv : bootBuiltins x = some (.type "set")) (hn : x ≠ "__name__" := by decide) (hdb : (x == ("__debug__" : Str)) = false := by decide) : AE X W (.Call (.Name x p) [] [] pos) (aSet0 X.w) :=
  PE.imp (pe_callTy0 cr_set0Tx hg hm hv hn hdb) fun σ H Q h => by
    obtain ⟨ax, env, M, Qa, S, q, k⟩ := h
    exact ⟨rfl, fun b hb => k _ _ (.obj b) _ (Tr.newR S.abs ext_noFz hb) rfl (q b (S.abs.fresh hb))⟩
/-- s.add(k) -/
def aSAdd (w : World) (a : ATE) (τ : ATA) : ATE := fun ax env M Q => a ax env M fun x M1 => match x with
  | .obj p => (∃ ks, M1 p = some (.raw (SetTx w p ks))) ∧ τ ax env M1 fun xs M2 => match xs with
    | [.str k] => ∃ ks, M2 p = some (.raw (SetTx w p ks)) ∧ ks.length ≤ 4000 ∧ Q .non (up M2 p (.raw (SetTx w p (if k ∈ ks then ks else k :: ks))))
    | _ => False
  | _ => False
theorem ae_sadd (ha : AE X W o α) (hb : AA X W (e :: es) τ) (hbase : attributeBase o "add" X.env (eval o X.env) = eval o X.env := by rfl)
    (hfew : ((backTo cpos (starEach (e :: es) X.env)).all (fun x => !x.1) && (backToKw cpos (keywordEach [] X.env)).all (fun x => x.1.isSome)
      && decide ((e :: es).length + ([] : List Keyword).length + (if ([] : List Keyword).isEmpty then 0 else 1) < 30)) = true := by rfl)
    (hline : (apos.endLine == cpos.line) = true := by rfl) (hs : starEach (e :: es) X.env = (false, eval e X.env) :: starEach es X.env := by rfl) (hplain : (backTo cpos (starEach es X.env)).any (·.1) = false := by rfl) :
    AE X W (.Call (.Attribute o "add" apos) (e :: es) [] cpos) (aSAdd X.w α τ) :=
  PE.imp (pe_saddTx ha hb hbase hfew hline hs hplain) fun σ H Q h => by
    obtain ⟨ax, env, M, Qa, S, q, k⟩ := h
    refine ⟨ax, env, M, _, S, q, fun x H1 dx M1 t r q => ?_⟩
    cases dx with
    | obj p =>
      cases (show x = V.ref p from r)
      obtain ⟨⟨ks, m⟩, q⟩ := q
      refine ⟨⟨p, ks, rfl, (t.abs p _ m).1⟩, ax, env, M1, _, S.next t, q, fun vs H2 ds M2 t2 r2 q2 => ?_⟩
      split at q2
      · obtain ⟨v, rfl, r1⟩ := repL1 r2
        cases (show v = V.str _ from r1)
        obtain ⟨ks2, m2, few, q2⟩ := q2
        refine ⟨p, _, ks2, rfl, rfl, (t2.abs p _ m2).1, ?_, k _ _ .non _ ((t.trans t2).trans (Tr.writeR t2.abs ext_noFz m2)) rfl q2⟩
        unfold PySem.scanBound
        omega
      · exact q2.elim
    | _ => exact False.elim q
/-- sorted(s), s a set of texts -/
def ρSortTx (w : World) : ARs := fun ds M Q => match ds with
  | [.obj p] => ∃ ks, M p = some (.raw (SetTx w p ks)) ∧ ∀ ys : List Str, ys.Perm ks → PyProof.Rows.sortedS ys = true → New (.lst (ys.map D.str)) M Q
  | _ => False
theorem sim_sortTx {w : World} : SimC K (rSortTx w) (ρSortTx w) := by
  intro xs ds H M Q Qc ab rx q k
  unfold ρSortTx at q
  split at q
  · obtain ⟨v, rfl, r1⟩ := repL1 rx
    cases (show v = V.ref _ from r1)
    obtain ⟨ks, m, q⟩ := q
    refine ⟨_, ks, rfl, (ab _ _ m).1, fun ys b pm so hb => ?_⟩
    exact k _ _ (.obj b) _ (Tr.newM (mo := .lst (ys.map D.str)) ab hb ⟨ys.map V.str, upd_same, repL_of_strs ys⟩) rfl (q ys pm so b (ab.fresh hb))
  · exact q.elim
/-- sorted(d), d a dict with texts for keys -/
def rSortD : List V → Hp → VK → Prop := fun xs H Q => ∃ (a : Addr) (kvs : List (Key × V)) (ks : List Str), xs = [.ref a] ∧ Rd H a (.dK kvs) ∧ kvs.map (·.1) = ks.map Sum.inr ∧ ks.length < 64 ∧
    ∀ ys p, ys.Perm ks → PyProof.Rows.sortedS ys = true → H p = none → Q (.ref p) (upd H p (.lst (ys.map V.str)))
theorem cr_sortD (hc : X.calm = true) : CallR X (.builtin "sorted") rSortD := call_sortedD hc
def ρSortD : ARs := fun ds M Q => match ds with
  | [.obj p] => dicAt M p fun kvs => ∃ ks : List Str, kvs.map (·.1) = ks.map Sum.inr ∧ ks.length < 64 ∧ ∀ ys : List Str, ys.Perm ks → PyProof.Rows.sortedS ys = true → New (.lst (ys.map D.str)) M Q
  | _ => False
theorem keys_rep {H : Hp} : ∀ {kvs : List (Key × D)} {ws : List (Key × V)}, RepK K H kvs ws → ws.map (·.1) = kvs.map (·.1)
  | [], _, .nil => rfl
  | _ :: _, _ :: _, .cons q h => by rw [List.map_cons, List.map_cons, keys_rep h, q.1]
theorem sim_sortD : SimC K rSortD ρSortD := by
  intro xs ds H M Q Qc ab rx q k
  unfold ρSortD at q
  split at q
  · obtain ⟨v, rfl, r1⟩ := repL1 rx
    cases (show v = V.ref _ from r1)
    obtain ⟨kvs, m, ks, e, few, q⟩ := dicAt_ex q
    obtain ⟨ws, h1, hv⟩ := ab _ _ m
    refine ⟨_, ws, ks, rfl, .inl h1, (keys_rep hv).trans e, few, fun ys b pm so hb => ?_⟩
    exact k _ _ (.obj b) _ (Tr.newM (mo := .lst (ys.map D.str)) ab hb ⟨ys.map V.str, upd_same, repL_of_strs ys⟩) rfl (q ys pm so b (ab.fresh hb))
  · exact q.elim
/-- repr of data; a list within a list -/
def pysM (M : Sto) : List D → Option (List PyData)
  | [] => some []
  | d :: ds => (pyM M d).bind fun p => (pysM M ds).map fun ps => p :: ps
def pyM2 (M : Sto) : D → Option PyData
  | .obj a => match M a with
    | some (.lst ds) => (pysM M ds).map .list
    | _ => none
  | d => d.py
theorem RepL.dpM {H : Hp} {M : Sto} (ab : Abs K M H) : ∀ {ds : List D} {vs : List V} {ps : List PyData}, RepL K H ds vs → pysM M ds = some ps → DpAll K H vs ps
  | [], vs, ps, h, e => by cases (show vs = [] from h); cases (Option.some.inj e); exact .nil
  | d :: ds, vs, ps, h, e => by
    obtain ⟨v, r, rfl, h1, h2⟩ := h
    rw [pysM, Option.bind_eq_some_iff] at e
    obtain ⟨p, e1, e⟩ := e
    rw [Option.map_eq_some_iff] at e
    obtain ⟨ps', e2, rfl⟩ := e
    exact .cons (Rep.dpM ab h1 e1) (RepL.dpM ab h2 e2)
theorem Rep.dpM2 {H : Hp} {M : Sto} (ab : Abs K M H) {d : D} {v : V} {p : PyData} (h : Rep K H d v) (e : pyM2 M d = some p) : Dp K H v p := by
  cases d with
  | obj a =>
    cases (show v = V.ref a from h)
    have e' : (match M a with | some (.lst ds) => (pysM M ds).map PyData.list | _ => none) = some p := e
    cases m : M a with
    | none => rw [m] at e'; cases e'
    | some mo =>
      cases mo with
      | dic kvs => rw [m] at e'; cases e'
      | raw o => rw [m] at e'; cases e'
      | dif od ws kvs => rw [m] at e'; cases e'
      | lst ds =>
        rw [m] at e'
        obtain ⟨ps, e2, rfl⟩ := Option.map_eq_some_iff.mp (show (pysM M ds).map PyData.list = some p from e')
        obtain ⟨vs, h1, r1⟩ := ab a _ m
        exact .lst (SqL.of h1) (RepL.dpM ab r1 e2)
  | non => exact Rep.dp _ v p h e
  | bl b => exact Rep.dp _ v p h e
  | int b => exact Rep.dp _ v p h e
  | str b => exact Rep.dp _ v p h e
  | tup b => exact Rep.dp _ v p h e
  | fl b => cases e
def isRef : D → Bool
  | .tup _ => true
  | .obj _ => true
  | _ => false
def ρRepr : ARs := fun ds M Q => match ds with
  | [d] => ∃ p, isRef d = true ∧ pyM2 M d = some p ∧ p.showable = true ∧ p.hasDict = false ∧ p.depth ≤ 64 ∧ p.shown.length ≤ sizeLine ∧ Q (.str p.shown) M
  | _ => False
theorem sim_repr : SimC K (GU.rRepr K) ρRepr := by
  intro xs ds H M Q Qc ab rx q k
  unfold ρRepr at q
  split at q
  · obtain ⟨v, rfl, r1⟩ := repL1 rx
    obtain ⟨p, isr, e, h1, h2, h3, h4, q⟩ := q
    have dp := Rep.dpM2 ab r1 e
    obtain ⟨a, rfl⟩ : ∃ a, v = V.ref a := by
      rename_i d
      cases d with
      | tup ds => obtain ⟨a, vs, rfl, _⟩ := r1; exact ⟨a, rfl⟩
      | obj a => exact ⟨a, r1⟩
      | _ => cases isr
    exact ⟨a, p, rfl, dp, h1, h2, h3, h4, k _ H (.str _) M (Tr.refl ab) rfl q⟩
  · exact q.elim
end
/-! defs called where no repr is under way -/
section
variable {P : Program} {w : World} {K : PySem.W.Frag} {mg : Str → Option Value} {base : Heap}
theorem fn_absG {x qual : Str} {st : Stmt} {f : Addr} {fd : FuncData} {N ps : List Str} {k n : Nat} {A : ASp} {a : ATS} (F : Fun K x qual st f fd) (S : FnScope N ps (defScope st)) (hn : ps.length = n)
    (hbody : ∀ (cdv : Value) (A : Around) (outer : List Env) (s : Shared) (H : Hp) (E : XK), Room k (A.deeper (PyProof.Rows.envOfC qual (defScope st) s.heap.objs.size f cdv)) → GU.NoG A → ASs (cxOf CX0 P w K mg base N qual (defScope st) f cdv A outer s H E).nox W0 (defBody st) a)
    (hp : ∀ ds M Q Xa, ds.length = n → A ds M Q Xa → a ax0 { nx := fun _ M => Q .non M, rt := Q } (startA N ds) M) : GU.FnG P w K mg base (k + 1) f fd ps (conc K n A) := by
  refine GU.def_G F S (fun vs H Q E h => ?_) (fun cdv Ar outer s H vs Q E hr ng h => ?_)
  · obtain ⟨ds, M, Qa, Xa, e, _⟩ := h
    rw [e, hn]
  · obtain ⟨ds, M, Qa, Xa, e, r, ab, q, k1, _⟩ := h
    refine ⟨_, hbody cdv Ar outer s H E hr ng, ax0, startA N ds, M, { nx := fun _ M => Qa .non M, rt := Qa }, ⟨start_rep r, ab, XC.no⟩, hp ds M Qa Xa (by rw [r.length]; exact e) q, ⟨fun σ' H' env' M' t rs q => k1 .non H' .non M' t rfl q, fun _ _ _ _ _ _ z => z.elim, fun _ _ _ _ _ _ z => z.elim, fun v H' d M' t r q => k1 v H' d M' t r q⟩⟩
theorem fn_noneG {k n : Nat} {f : Addr} {fd : FuncData} {ps : List Str} {A : ASp} (h : ∀ ds M Q Xa, ¬ A ds M Q Xa) : GU.FnG P w K mg base k f fd ps (conc K n A) := by
  have no : ∀ vs H Q E, ¬ conc K n A vs H Q E := fun vs H Q E z => by
    obtain ⟨ds, M, Qa, Xa, _, _, _, q, _⟩ := z
    exact h _ _ _ _ q
  exact ⟨fun vs H Q E z => absurd z (no vs H Q E), fun A outer s H args us vs Q E _ _ _ _ _ z => absurd z (no vs H Q E)⟩
end
section
variable {W : WX} {X : Cx} {k n : Nat} {f : Addr} {fd : FuncData} {ps : List Str} {A : ASp} {x : Str} {p pos : Pos} {e : Expr} {es : List Expr} {τ : ATA}
theorem ae_callG (F : GU.FnG X.prog X.w X.K X.mg X.base k f fd ps (conc X.K n A)) (hr : Room k X.A) (ng : GU.NoG X.A) (hg : Gl X x) (hm : X.mg x = some (.ref f)) (hk : PySem.W.keepIn X.K (.ref f) = true) (hb : Binds X.K fd ps [])
    (ha : AA X W (e :: es) τ) (hdb : (x == ("__debug__" : Str)) = false := by decide) (he : starEach (e :: es) X.env = (false, eval e X.env) :: starEach es X.env := by rfl) (hpl : (backTo pos (starEach es X.env)).any (·.1) = false := by rfl) :
    AE X W (.Call (.Name x p) (e :: es) [] pos) (aCall n A τ) := PE.imp (GU.pe_callG F hr ng hg hm hk hb ha hdb he hpl) fun _ _ _ => s_call
end

section
variable {W : WX} {X : Cx} {K : PySem.W.Frag} {e o : Expr} {es : List Expr} {α : ATE} {τ : ATA} {pos p apos cpos : Pos} {x : Str}
theorem hu100 {A : Around} {k : Nat} (hr : Room k A) : A.units + 100 < cLine := by have := hr.un; omega
/-- xs.extend(t), t a tuple -/
def ρExtT : Addr → List D → List D → Sto → (D → Sto → Prop) → Prop := fun p ds xs M Q => match xs with
  | [.tup es] => ds.length + es.length ≤ sizeLine ∧ Q .non (up M p (.lst (ds ++ es)))
  | _ => False
theorem sim_extT : SimM K (rExtT K) ρExtT := by
  intro p ds xs vs H M Q Qc ab m rx q k
  unfold ρExtT at q
  split at q
  · obtain ⟨v, rfl, r1⟩ := repL1 rx
    obtain ⟨b, us, rfl, hT, hw⟩ := r1
    obtain ⟨ws, h1, hv⟩ := ab p _ m
    exact ⟨p, b, ws, us, rfl, rfl, h1, hT, by rw [← hv.length, ← hw.length]; exact q.1, k _ _ .non _ (Tr.write (mo := .lst (ds ++ _)) ab m ⟨_, upd_same, repL_write ab m (hv.append hw)⟩) rfl q.2⟩
  · exact q.elim
theorem ae_extT (ha : AE X W o α) (hb : AA X W (e :: es) τ) (hbase : attributeBase o "extend" X.env (eval o X.env) = eval o X.env := by rfl)
    (hfew : ((backTo cpos (starEach (e :: es) X.env)).all (fun x => !x.1) && (backToKw cpos (keywordEach [] X.env)).all (fun x => x.1.isSome)
      && decide ((e :: es).length + ([] : List Keyword).length + (if ([] : List Keyword).isEmpty then 0 else 1) < 30)) = true := by rfl)
    (hline : (apos.endLine == cpos.line) = true := by rfl) (hs : starEach (e :: es) X.env = (false, eval e X.env) :: starEach es X.env := by rfl) (hplain : (backTo cpos (starEach es X.env)).any (·.1) = false := by rfl) :
    AE X W (.Call (.Attribute o "extend" apos) (e :: es) [] cpos) (aLm ρExtT α τ) :=
  PE.imp (pe_bm PySem.F.plainAttrs_list PySem.F.slot_list_extend PySem.F.type_list_extend mt_extT ha hb hbase hfew hline hs hplain) fun _ _ _ => s_lm sim_extT
end

/-- the members of a set of ints -/
def intM (P : Program) (w : World) : Members P w ((Int → Bool) × Nat) where
  ob := fun D z => SetO w D z.1 z.2
  nil := (fun _ => false, 0)
  pick := fun y z => match y with
    | .int k => if z.2 ≤ 4000 then some (fun j => z.1 j || decide (j = k), if z.1 k = true then z.2 else z.2 + 1) else none
    | _ => none
  born := fun H h => setO_new (setR_fresh w)
  more := fun Y eP ew pins sh τ H ER D z z' y v R I at1 pk rv fin => by
    cases eP
    cases ew
    cases y with
    | int k =>
      obtain ⟨t, rfl⟩ := rv
      dsimp only at pk
      by_cases few : z.2 ≤ 4000
      · rw [if_pos few] at pk
        cases pk
        have R1 := setO_get (X := Y) I at1
        refine setR_add R1 (by unfold PySem.scanBound; omega) fun h' sb new => ?_
        have there : ∃ u, h'.get? D = some u := by
          obtain ⟨o, _, _, _, ho, _⟩ := id new
          exact ⟨o, ho⟩
        exact fin _ (I.write (e := D) (t' := sh.toks + 1) (by rw [at1]; trivial) (.inl rfl) (fun b u hb hu => (sb.2 b hb).trans hu) there (setO_new new))
      · rw [if_neg few] at pk
        cases pk
    | _ => cases pk
section
variable {W : WX} {X : Cx} {K : PySem.W.Frag}
/-- {e for i, j in .. if t}, e an int: what is met, in its order -/
def aScGo2 (chk : Sto → Prop) (i j : Nat) (t : ATT) (e : ATE) (ax : AX) (env : AEnv) : List D → List Int → Sto → (List Int → Sto → Prop) → Prop
  | [], acc, M, Q => chk M ∧ Q acc M
  | .tup [d, c] :: r, acc, M, Q => chk M ∧ t ax ((env.set i (some d)).set j (some c)) M fun b M1 => if b = true then e ax ((env.set i (some d)).set j (some c)) M1 fun y M2 => match y with
      | .int k => aScGo2 chk i j t e ax env r (acc ++ [k]) M2 Q
      | _ => False
    else aScGo2 chk i j t e ax env r acc M1 Q
  | _ :: _, _, _, _ => False
def aSc2 (w : World) (ι : ATI) (i j : Nat) (t : ATT) (e : ATE) : ATE := fun ax env M Q => ι ax env M fun items chk M1 => i ≠ j ∧ items.length ≤ 4000 ∧ aScGo2 chk i j t e ax env items [] M1 fun acc M2 =>
  ∀ (p : Addr) (n : Nat), n ≤ acc.length → M2 p = none → Q (.obj p) (up M2 p (.raw (SetO w p (fun k => decide (k ∈ acc)) n)))
theorem sc2_cons {chk : Sto → Prop} {i j : Nat} {t : ATT} {e : ATE} {ax : AX} {env : AEnv} {d : D} {r : List D} {acc : List Int} {M : Sto} {Q : List Int → Sto → Prop} (h : aScGo2 chk i j t e ax env (d :: r) acc M Q) : ∃ a b, d = .tup [a, b] ∧
    chk M ∧ t ax ((env.set i (some a)).set j (some b)) M fun k M1 => if k = true then e ax ((env.set i (some a)).set j (some b)) M1 fun y M2 => (match y with
      | .int k => aScGo2 chk i j t e ax env r (acc ++ [k]) M2 Q
      | _ => False) else aScGo2 chk i j t e ax env r acc M1 Q := by
  match d, h with
  | .tup [a, b], h => exact ⟨a, b, rfl, h⟩
theorem s_sc2 {P : Program} {w : World} {i j : Nat} {ι : ATI} {t : ATT} {e : ATE} {σ : L2.St} {H : Hp} {Q : VK} {Y : Cx} (hP : Y.prog = P) (hw : Y.w = w) (h : cE K W (aSc2 w ι i j t e) σ H Q) :
    (fun σ H Q => cI K W ι σ H fun J H1 => ∀ D, H1 D = none → ∃ I : Nat → Nat → Hp → Prop, (∃ m, I 0 m (upd H1 D ((intM P w).ob D (intM P w).nil))) ∧ ∀ i' m H2, I i' m H2 →
      (J.stop i' H2 ∧ Q (V.ref D) H2) ∨ (J.go i' H2 ∧ ∃ Nx : Hp → Prop, (∀ H3, Nx H3 → ∃ m', m' < m ∧ I (i' + 1) m' H3) ∧ ∀ x H3, J.yld i' H2 x H3 → gPair K i j x (wipe σ [i, j]) H3 fun σ4 H4 => wipe σ4 [i, j] = wipe σ [i, j] ∧ cT K W t σ4 H4 fun b H5 =>
        if b = true then cE K W e σ4 H5 fun y H6 => ∃ z z', H6 D = some ((intM P w).ob D z) ∧ (intM P w).pick y z = some z' ∧ Nx (upd H6 D ((intM P w).ob D z')) else Nx H5) : TE) σ H Q := by
  obtain ⟨ax, env, M, Qa, S, q, k⟩ := h
  refine ⟨ax, env, M, _, S, q, fun J items chk M1 H1 t1 sim q => ?_⟩
  obtain ⟨nij, hlen, q⟩ := q
  intro D hD
  have md : M1 D = none := t1.abs.fresh hD
  let Qf : List Int → Sto → Prop := fun acc M2 => ∀ (p : Addr) (n : Nat), n ≤ acc.length → M2 p = none → Qa (.obj p) (up M2 p (.raw (SetO w p (fun k => decide (k ∈ acc)) n)))
  let Inv : Nat → Hp → Prop := fun i' H' => ∃ M' acc n, Tr K M1 H1 M' H' ∧ H' D = some (SetO w D (fun k => decide (k ∈ acc)) n) ∧ M' D = none ∧ n ≤ acc.length ∧ acc.length ≤ i' ∧ aScGo2 chk i j t e ax env (items.drop i') acc M' Qf
  have none0 : (fun _ : Int => false) = fun k => decide (k ∈ ([] : List Int)) := funext fun k => (decide_eq_false List.not_mem_nil).symm
  refine ⟨fun i' m H' => m = items.length - i' ∧ Inv i' H', ⟨items.length, rfl, M1, [], 0, Tr.newT t1.abs hD, ?_, md, Nat.le_refl _, Nat.le_refl _, q⟩, ?_⟩
  · rw [upd_same, ← none0]
    rfl
  rintro i' m H2 ⟨rfl, M2, acc, n, t2, hD2, md2, hn, hl, q2⟩
  cases hd : items.drop i' with
  | nil =>
    rw [hd] at q2
    refine .inl ⟨(sim i' M2 H2 t2 q2.1).2 (drop_end hd), ?_⟩
    refine k (.ref D) H2 (.obj D) _ (t1.trans ?_) rfl (q2.2 D n hn md2)
    refine ⟨fun a mo m => ?_, fun b o e1 nn => ?_⟩
    · by_cases ha : a = D
      · subst ha
        rw [up_same] at m
        cases m
        exact ⟨hD2, ext_noFz⟩
      · rw [up_ne ha] at m
        exact t2.abs a mo m
    · obtain ⟨z1, z2⟩ := t2.keep b o e1 nn
      exact ⟨z1, by rw [up_ne (ne_of_none e1 hD)]; exact z2⟩
  | cons d r =>
    rw [hd] at q2
    obtain ⟨d1, d2, rfl, q2⟩ := sc2_cons q2
    obtain ⟨hi, hr, hlt⟩ := drop_at hd
    obtain ⟨go, yld⟩ := (sim i' M2 H2 t2 q2.1).1 _ hi
    refine .inr ⟨go, Inv (i' + 1), fun H' z => ⟨items.length - (i' + 1), by omega, rfl, z⟩, fun x H3 y => ?_⟩
    obtain ⟨t3, r3⟩ := yld x H3 y
    obtain ⟨a, us, rfl, hT, hu⟩ := r3
    obtain ⟨v1, v2, rfl, rv1, rv2⟩ := repL2 hu
    have t13 := t1.trans (t2.trans t3)
    have S3 : Stt K W ax ((env.set i (some d1)).set j (some d2)) M2 ((σ.set i (some v1)).set j (some v2)) H3 := S.at_ t13 (((S.next t13).rs.set (i := i) rv1).set (i := j) rv2)
    refine ⟨a, [v1, v2], rfl, hT, rfl, v1, [v2], rfl, ?_⟩
    show ∃ v r, [v2] = v :: r ∧ _
    refine ⟨v2, [], rfl, ?_⟩
    show [] = [] ∧ _
    refine ⟨rfl, ?_⟩
    rw [set_pair nij]
    refine ⟨wipe_pair nij v1 v2, ax, _, M2, _, S3, q2.2, fun b H4 M4 t4 q4 => ?_⟩
    obtain ⟨hD3, _⟩ := t3.keep D _ hD2 md2
    obtain ⟨hD4, md4⟩ := t4.keep D _ hD3 md2
    have t24 := t2.trans (t3.trans t4)
    cases b with
    | false => exact ⟨M4, acc, n, t24, hD4, md4, hn, by omega, by rw [hr]; exact q4⟩
    | true =>
      refine ⟨ax, _, M4, _, S3.next t4, q4, fun v H5 dv M5 t5 r5 q5 => ?_⟩
      obtain ⟨hD5, md5⟩ := t5.keep D _ hD4 md4
      have t25 := t24.trans t5
      cases dv with
      | int kk =>
        cases (show v = V.int kk from r5)
        have same : (fun j => decide (j ∈ acc) || decide (j = kk)) = fun j => decide (j ∈ acc ++ [kk]) := funext fun j => by
          rw [← Bool.decide_or]
          exact decide_eq_decide.mpr ⟨fun z => z.elim (List.mem_append_left _) fun z => List.mem_append_right _ (List.mem_singleton.mpr z), fun z => (List.mem_append.mp z).imp id List.mem_singleton.mp⟩
        have few : n ≤ 4000 := by omega
        refine ⟨(fun k => decide (k ∈ acc), n), _, hD5, if_pos few, M5, acc ++ [kk], if decide (kk ∈ acc) = true then n else n + 1, ⟨fun a mo m => ?_, fun b o e1 nn => ?_⟩, ?_, md5, ?_, ?_, by rw [hr]; exact q5⟩
        · have na : a ≠ D := fun z => by subst z; rw [md5] at m; cases m
          refine (t25.abs a mo m).mono (fun u q => by rw [upd_ne na]; exact q) fun b u f q => ?_
          have nb : b ≠ D := fun z => by
            subst z
            rw [hD5] at q
            cases q
            exact f.elim
          rw [upd_ne nb]
          exact q
        · obtain ⟨z1, z2⟩ := t25.keep b o e1 nn
          exact ⟨by rw [upd_ne (ne_of_none e1 hD)]; exact z1, z2⟩
        · rw [upd_same, ← same]
          rfl
        · rw [List.length_append, List.length_singleton]
          split <;> omega
        · rw [List.length_append, List.length_singleton]
          omega
      | _ => exact q5.elim
theorem ae_sc2 {x y : Str} (i j : Nat) {elt iter : Expr} {ifs : List Expr} {scope : Scope} {pos px py pt : Pos} {kk : Nat} {ι : ATI} {t : ATT} {e : ATE} (hc : X.calm = true) (hN : X.N.Nodup) (hi : AI X W (.Tuple [.Name x px, .Name y py] kk pt) iter ι) (ok : BlkOk X.N X.env.scope scope [(x, i), (y, j)])
    (hg : ∀ (s : Shared) (H : Hp) (C : Addr) (cl : List (Str × Addr)) (fp : List Addr), PG (X.blk s H scope (compEnvC scope cl C X.env) fp) (.Tuple [.Name x px, .Name y py] kk pt) (gPair X.K i j))
    (ht : ∀ (s : Shared) (H : Hp) (C : Addr) (cl : List (Str × Addr)) (fp : List Addr), ATTs (X.blk s H scope (compEnvC scope cl C X.env) fp) W ifs t)
    (he : ∀ (s : Shared) (H : Hp) (C : Addr) (cl : List (Str × Addr)) (fp : List Addr), AE (X.blk s H scope (compEnvC scope cl C X.env) fp) W elt e) (hs : ∀ x, foldedSetIterable iter X.env x = pure x := by intro _; rfl) :
    AE X W (.SetComp elt [⟨.Tuple [.Name x px, .Name y py] kk pt, iter, ifs, 0⟩] scope pos) (aSc2 X.w ι i j t e) := PE.imp (pe_scM (own := [(x, i), (y, j)]) (intM X.prog X.w) hc hN hi ok hg ht he hs) fun _ _ _ h => s_sc2 (Y := X) rfl rfl h
/-- sorted(s), s a set of ints -/
def ρSortZ (w : World) : ARs := fun ds M Q => match ds with
  | [.obj p] => ∃ S n, M p = some (.raw (SetO w p S n)) ∧ n < 64 ∧ ∀ ns : List Int, ns.Pairwise (· < ·) → (∀ k : Int, k ∈ ns ↔ S k = true) → New (.lst (ns.map D.int)) M Q
  | _ => False
theorem of_ints {H : Hp} : ∀ ns : List Int, RepL K H (ns.map D.int) (ns.map V.int)
  | [] => rfl
  | x :: r => ⟨_, _, rfl, rfl, of_ints r⟩
theorem sim_sortZ {w : World} : SimC K (rSortedSet w) (ρSortZ w) := by
  intro xs ds H M Q Qc ab rx q k
  unfold ρSortZ at q
  split at q
  · obtain ⟨v, rfl, r1⟩ := repL1 rx
    cases (show v = V.ref _ from r1)
    obtain ⟨S, n, m, few, q⟩ := q
    refine ⟨_, S, n, rfl, (ab _ _ m).1, few, fun ns b so mem _ hb => ?_⟩
    exact k _ _ (.obj b) _ (Tr.newM (mo := .lst (ns.map D.int)) ab hb ⟨ns.map V.int, upd_same, of_ints ns⟩) rfl (q ns so mem b (ab.fresh hb))
  · exact q.elim
/-- tuple(d.values()) -/
def aTupVals (a : ATE) : ATE := fun ax env M Q => a ax env M fun x M1 => match x with
  | .obj p => dicAt M1 p fun kvs => Q (.tup (kvs.map (·.2))) M1
  | _ => False
theorem rep_vals {H : Hp} : ∀ {kvs : List (Key × D)} {ws : List (Key × V)}, RepK K H kvs ws → RepL K H (kvs.map (·.2)) (ws.map (·.2))
  | [], _, .nil => rfl
  | _ :: _, _ :: _, .cons q h => ⟨_, _, rfl, q.2, rep_vals h⟩
theorem ae_tupVals {e : Expr} {α : ATE} {p apos cpos pos : Pos} (hc : X.calm = true) (ha : AE X W e α) (hg : Gl X "tuple") (hm : X.mg "tuple" = none) (hbase : attributeBase e "values" X.env (eval e X.env) = eval e X.env := by rfl) (hline : (apos.endLine == cpos.line) = true := by rfl)
    (hs : starEach [.Call (.Attribute e "values" apos) [] [] cpos] X.env = [(false, eval (.Call (.Attribute e "values" apos) [] [] cpos) X.env)] := by rfl) :
    AE X W (.Call (.Name "tuple" p) [.Call (.Attribute e "values" apos) [] [] cpos] [] pos) (aTupVals α) := PE.imp (pe_tupVals hc ha hg hm hbase hline hs) fun σ H Q h => by
  obtain ⟨ax, env, M, Qa, S, q, k⟩ := h
  refine ⟨ax, env, M, _, S, q, fun x H1 dx M1 t r q => ?_⟩
  cases dx with
  | obj a =>
    cases (show x = V.ref a from r)
    obtain ⟨kvs, m, q⟩ := dicAt_ex q
    obtain ⟨ws, h1, hv⟩ := t.abs a _ m
    exact ⟨a, ws, rfl, h1, fun o ho => k _ _ (.tup (kvs.map (·.2))) M1 (t.trans (Tr.newT t.abs ho)) (rep_newT ho (rep_vals hv)) q⟩
  | _ => exact False.elim q
end

/-! own: a dict of the module, written out, with ints and texts for keys -/
section
open PySem PySem.Spec L2 PyProof.Rows
/-- a value of the module stands for data -/
def RepW (K : PySem.W.Frag) (d : D) (u : Value) : Prop := ∃ v, RelV v u ∧ ∀ H, Rep K H d v
def EntsOk (K : PySem.W.Frag) (w : World) : List DictEntry → List (Key × D) → Prop
  | [], [] => True
  | e :: es, (k, d) :: tab => keyIs k e.key = true ∧ e.hash = keyH w k ∧ RepW K d e.val ∧ EntsOk K w es tab
  | _, _ => False
structure WDct (K : PySem.W.Frag) (w : World) (a : Addr) (tab : List (Key × D)) : Prop where
  ents : ∃ es n, K.lookup a = some ⟨.type "dict", none, .dict es n, #[]⟩ ∧ EntsOk K w es.toList tab
  low : (a == sysModules) = false
theorem RepW.int {K : PySem.W.Frag} {i : Int} {t : Tok} : RepW K (.int i) (.int i t) := ⟨.int i, ⟨t, rfl⟩, fun _ => rfl⟩
theorem RepW.str {K : PySem.W.Frag} {x : Str} {t : Tok} : RepW K (.str x) (.str x t) := ⟨.str x, ⟨t, rfl⟩, fun _ => rfl⟩
theorem repW_all {K : PySem.W.Frag} : ∀ {ds : List D} {us : List Value}, Paired (RepW K) ds us → ∃ vs, Vals vs us ∧ ∀ H, RepL K H ds vs
  | _, _, .nil => ⟨[], .nil, fun _ => rfl⟩
  | _, _, .cons ⟨v, r, q⟩ h => by
    obtain ⟨vs, r2, q2⟩ := repW_all h
    exact ⟨v :: vs, .cons r r2, fun H => ⟨v, vs, rfl, q H, q2 H⟩⟩
theorem RepW.tup {K : PySem.W.Frag} {ds : List D} {a : Addr} {dd : Option Addr} {its : Array Value} {n : Nat} {sl : Array (Option Value)} (h : K.lookup a = some ⟨.type "tuple", dd, .seq its n, sl⟩) (z : its.size ≤ sizeLine) (q : Paired (RepW K) ds its.toList) : RepW K (.tup ds) (.ref a) := by
  obtain ⟨vs, r, q2⟩ := repW_all q
  exact ⟨.ref a, rfl, fun H => ⟨a, vs, rfl, .inr ⟨_, its, n, h, rfl, rfl, z, r⟩, q2 H⟩⟩
section
variable {P : Program} {w : World} {K : PySem.W.Frag}
theorem ents_keys : ∀ {es : List DictEntry} {tab : List (Key × D)}, EntsOk K w es tab → ∀ e ∈ es, ∃ k, (mixKind P w).is k e.key = true ∧ e.hash = (mixKind P w).hash k
  | [], [], _, e, h => nomatch h
  | e :: es, (k, d) :: tab, h, e', m => by
    rcases List.mem_cons.mp m with rfl | m
    · exact ⟨k, h.1, h.2.1⟩
    · exact ents_keys h.2.2.2 e' m
theorem ents_find (y : Key) : ∀ {es : List DictEntry} {tab : List (Key × D)}, EntsOk K w es tab → ∃ u, (((es.find? fun e => keyIs y e.key).map (·.val)).getD .none) = u ∧ RepW K ((valA tab y).getD .non) u ∧ ((es.find? fun e => keyIs y e.key).isSome = (valA tab y).isSome)
  | [], [], _ => ⟨_, rfl, ⟨.non, rfl, fun _ => rfl⟩, rfl⟩
  | e :: es, (k, d) :: tab, h => by
    obtain ⟨u, e1, q, s⟩ := ents_find y h.2.2.2
    have z : keyIs y e.key = decide (y = k) := KeyKind.is_eq_decide (knd := mixKind (default : Program) w) h.1 y
    have e2 : valA ((k, d) :: tab) y = if k = y then some d else valA tab y := by
      unfold valA
      rw [List.find?_cons]
      by_cases c : k = y
      · rw [if_pos c]
        have : decide (((k, d) : Key × D).1 = y) = true := decide_eq_true c
        rw [this]; rfl
      · rw [if_neg c]
        have : decide (((k, d) : Key × D).1 = y) = false := decide_eq_false c
        rw [this]
    rw [List.find?_cons, z, e2]
    by_cases c : y = k
    · subst c
      rw [decide_eq_true rfl, if_pos rfl]
      exact ⟨_, rfl, h.2.2.1, rfl⟩
    · rw [decide_eq_false c, if_neg (fun z => c z.symm)]
      exact ⟨u, e1, q, s⟩
theorem WDct.mapOf {h : Heap} {a : Addr} {tab : List (Key × D)} (D : WDct K w a tab) (X : K.In h) : ∃ f, h.MapOf (mixKind P w) a f ∧ ∀ k, RepW K ((valA tab k).getD .non) ((f k).getD .none) ∧ (f k).isSome = (valA tab k).isSome := by
  obtain ⟨es, n, hl, ok⟩ := D.ents
  refine ⟨fun k => findBy (mixKind P w).is es k, ⟨_, es, n, X _ _ hl, ⟨rfl, rfl, rfl⟩, rfl, fun e he => ents_keys (P := P) ok e (Array.mem_toList_iff.mpr he), fun _ => rfl⟩, fun k => ?_⟩
  obtain ⟨u, e1, q, s⟩ := ents_find k ok
  have e3 : findBy (mixKind P w).is es k = (es.toList.find? fun e => keyIs k e.key).map (·.val) := by
    unfold findBy
    rw [← Array.find?_toList]
    rfl
  show RepW K _ ((findBy (mixKind P w).is es k).getD .none) ∧ (findBy (mixKind P w).is es k).isSome = _
  rw [e3, e1, Option.isSome_map]
  exact ⟨q, s⟩
end
section
variable {W : WX} {X : Cx} {K : PySem.W.Frag}
/-- NAME.get(e), NAME a written dict -/
def aWGet (tab : List (Key × D)) (α : ATE) : ATE := fun ax env M Q => α ax env M fun y M1 => optAt (keyD y) fun k => Q ((valA tab k).getD .non) M1
/-- NAME[e] -/
def aWIx (tab : List (Key × D)) (α : ATE) : ATE := fun ax env M Q => α ax env M fun y M1 => optAt (keyD y) fun k => optAt (valA tab k) fun d => Q d M1
theorem ae_wget {g : Str} {a : Addr} {tab : List (Key × D)} {e : Expr} {β : ATE} {p apos cpos : Pos} (hg : Gl X g) (hm : X.mg g = some (.ref a)) (D : WDct X.K X.w a tab) (he : AE X W e β) (m : M1 X (.Name g p) "get" apos e cpos) (hd : (g == ("__debug__" : Str)) = false := by decide) :
    AE X W (.Call (.Attribute (.Name g p) "get" apos) [e] [] cpos) (aWGet tab β) := ⟨fun pins s σ H Q I h => by
  obtain ⟨ax, env, M, Qa, S, q, k⟩ := h
  refine wpAny_Call_method m.base m.few m.line PySem.F.plainAttrs_dict PySem.F.slot_dict_get PySem.F.type_dict_get (thn ((pe_glob (v := .ref a) hg hm rfl hd).run pins s σ H _ I (show tC (V.ref a) σ H (fun x H1 => x = V.ref a ∧ H1 = H) from ⟨rfl, rfl⟩)) fun u s1 ⟨x, H1, I1, rx, ex, eH⟩ => ?_)
  subst ex eH
  obtain rfl : u = Value.ref a := rx
  obtain ⟨f, hm1, _⟩ := D.mapOf (P := X.prog) I1.kIn
  refine ⟨hm1.typeIs, fun b z => ?_, ?_⟩
  · cases z
    obtain ⟨ob, _, _, h1, h2, _⟩ := hm1
    exact ⟨ob, h1, h2.2.1⟩
  rw [m.trees]
  refine Calls.callWith_builtin rfl (Calls.evalArgs_plain (Calls.spliced_cons (thn (he.run pins s1 σ H1 _ I1 ⟨ax, env, M, _, S, q, fun y H2 dy M2 t ry q => (⟨dy, M2, t, ry, q⟩ : ∃ dy M2, Tr X.K M H1 M2 H2 ∧ Rep X.K H2 dy y ∧ optAt (keyD dy) fun k => Qa ((valA tab k).getD .non) M2)⟩) fun iv s2 ⟨y, H2, I2, ry, dy, M2, t, rd, q2⟩ => Calls.spliced_nil ?_)))
  obtain ⟨key, ek, q2⟩ := optAt_ex q2
  have ey := key_rep rd ek
  subst ey
  obtain ⟨f2, hm2, ok⟩ := D.mapOf (P := X.prog) I2.kIn
  obtain ⟨⟨v, rv, rep⟩, _⟩ := ok key
  refine call_meetsIn PySem.F.slot_dict_get hm2.typeIs PySem.F.entry_dict_get (PySem.F.args_dict_get_2 _ _) (meets_dict_get (mixKind X.prog X.w) a (kV_is ry) D.low) ⟨_, hm2, ?_⟩
  exact ⟨v, H2, I2.tok _, rv, k v H2 _ M2 t (rep H2) q2⟩⟩
end
end

set_option maxHeartbeats 2000000
/-! own: list(zip(a, b)) of two tuples, as a value -/
namespace ZL
open PySem PySem.Spec PyProof.Rows L2
open PySem.Sem (wp)
/-- a zip that has handed out the tuple at T -/
abbrev IsZip2 (h : Heap) (z TI TO T : Addr) (b : Bool) : Prop :=
  h.get? z = some { cls := .type "zip", dict := none, data := .fields #[rawInt T, .bool b, .bool false, .ref TI, .ref TO], slots := #[] }
section
variable {prog : Program} {w : World} {A : Around} {E : Value → Shared → Prop} {s : Shared}
theorem wpAny_loadIfAlive {a : Addr} {Q : Option Obj → Shared → Prop} (h : Q (s.heap.get? a) s) : wpAny (model prog w) A (loadIfAlive a) Q E s := fun Γ p hΓ => by
  unfold loadIfAlive
  rw [Sem.wp_loadIfAlive]
  exact wpAny_pure h Γ p hΓ
theorem notFree {z TI TO T : Addr} {b : Bool} {o : Obj} {Q : Bool → Shared → Prop} (hz : IsZip2 s.heap z TI TO T b) (hT : s.heap.get? T = some o)
    (hQ : ∀ h', IsZip2 h' z TI TO T true → Heap.SameBut z s.heap h' → Q false { s with heap := h' }) : wpAny (model prog w) A (Builtin.SmallTypes.ownedTupleIsFree (.ref z)) Q E s := by
  unfold Builtin.SmallTypes.ownedTupleIsFree
  refine wpAny_bind (wpAny_field hz rfl (x := rawInt T) rfl ?_)
  show wpAny _ _ (loadIfAlive ((T : Int)).toNat >>= _) _ _ _
  refine wpAny_bind (wpAny_loadIfAlive ?_)
  rw [Int.toNat_natCast, hT]
  show wpAny _ _ (field (.ref z) 1 >>= _) _ _ _
  refine wpAny_bind (wpAny_field hz rfl (x := .bool b) rfl ?_)
  cases b with
  | true =>
    have e : (Value.bool true != Value.bool true) = false := by decide
    rw [e]
    show wpAny _ _ (pure false) _ _ _
    refine wpAny_pure (hQ s.heap hz ?_)
    exact ⟨rfl, fun _ _ => rfl⟩
  | false =>
    have e : (Value.bool false != Value.bool true) = true := by decide
    rw [e]
    show wpAny _ _ (setField (.ref z) 1 (.bool true) >>= _) _ _ _
    refine wpAny_bind (wpAny_setField_rec hz (by simp) fun h₁ hz₁ hs₁ => ?_)
    exact wpAny_pure (hQ h₁ hz₁ hs₁)
theorem zipT_next_more {z TI TO i1 i2 l1 l2 T : Addr} {k1 k2 : Nat} {o : Obj} {bo : Bool} {xs ys : Array Value} {x y : Value} {Q : Value → Shared → Prop} (D : ZipApart z TI TO i1 i2 l1 l2)
    (hz : IsZip2 s.heap z TI TO T bo) (hT : s.heap.get? T = some o) (hTI : IsPair s.heap TI (.ref i1) (.ref i2))
    (h1 : s.heap.IsTupleIter i1 l1 k1) (h2 : s.heap.IsTupleIter i2 l2 k2) (hl1 : s.heap.IsTuple l1 xs) (hl2 : s.heap.IsTuple l2 ys) (hx : xs[k1]? = some x) (hy : ys[k2]? = some y)
    (hQ : ∀ h', IsZip2 h' z TI TO T true → h'.IsTupleIter i1 l1 (k1 + 1) → h'.IsTupleIter i2 l2 (k2 + 1) → IsPair h' s.heap.objs.size x y → h'.objs.size = s.heap.objs.size + 1 →
      (∀ c o, c ≠ z → c ≠ i1 → c ≠ i2 → s.heap.get? c = some o → h'.get? c = some o) → Q (.ref s.heap.objs.size) { s with heap := h' }) :
    wpAny (model prog w) A (Builtin.«zip.__next__» ⟨[.ref z], []⟩) (fun fin s' => ∃ v, fin = .done (.ret v) ∧ Q v s') E s := by
  show wpAny _ _ (field (.ref z) 2 >>= _) _ _ _
  refine wpAny_bind (wpAny_field hz rfl (x := .bool false) rfl ?_)
  show wpAny _ _ (field (.ref z) 3 >>= _) _ _ _
  refine wpAny_bind (wpAny_field hz rfl (x := .ref TI) rfl ?_)
  refine wpAny_bind (wpAny_seqItems hTI rfl ?_)
  show wpAny _ _ (Builtin.SmallTypes.ownedTupleIsFree (.ref z) >>= _) _ _ _
  refine wpAny_bind (notFree hz hT fun h₁ hz₁ hs₁ => ?_)
  simp only [Bool.false_eq_true, if_false]
  refine wpAny_bind ?_
  simp only [← Array.forIn_toList, List.forIn_cons, List.forIn_nil]
  refine wpAny_bind (wpAny_bind (wpAny_holding ?_))
  show wpAny _ _ (Builtin.SmallTypes.nextOf (.ref i1) >>= _) _ _ _
  refine wpAny_bind (RZ.nextOf_tuple_item (h1.extBut hs₁.extBut D.i1z) (hl1.extBut hs₁.extBut D.l1z) hx fun h₂ h1₂ hs₂ => wpAny_pure (wpAny_pure ?_))
  refine wpAny_bind (wpAny_bind (wpAny_holding ?_))
  show wpAny _ _ (Builtin.SmallTypes.nextOf (.ref i2) >>= _) _ _ _
  refine wpAny_bind (RZ.nextOf_tuple_item ((h2.extBut hs₁.extBut D.i2z).extBut hs₂.extBut D.i12.symm) ((hl2.extBut hs₁.extBut D.l2z).extBut hs₂.extBut D.l2i1) hy fun h₃ h2₃ hs₃ => wpAny_pure (wpAny_pure (wpAny_pure ?_)))
  show wpAny _ _ (newTuple [x, y] >>= _) _ _ _
  refine wpAny_bind (wpAny_newTuple (wpAny_pure ⟨_, rfl, ?_⟩))
  have hsz : h₃.objs.size = s.heap.objs.size := by rw [hs₃.1, hs₂.1, hs₁.1]
  have up : ∀ c o, c ≠ z → c ≠ i1 → c ≠ i2 → s.heap.get? c = some o → h₃.get? c = some o := fun c o c1 c3 c4 e => hs₃.extBut _ _ c4 (hs₂.extBut _ _ c3 (hs₁.extBut _ _ c1 e))
  have hz₃ : IsZip2 h₃ z TI TO T true := hs₃.extBut _ _ D.i2z.symm (hs₂.extBut _ _ D.i1z.symm hz₁)
  show Q (.ref h₃.objs.size) _
  have q := hQ (h₃.push { cls := .type "tuple", data := .seq #[x, y] }) (Heap.get?_push_of_some _ hz₃) (((h1₂.extBut hs₃.extBut D.i12).at fun o e => Heap.get?_push_of_some _ e)) (h2₃.at fun o e => Heap.get?_push_of_some _ e) (by rw [← hsz]; exact Heap.get?_push_size _ rfl) (by rw [Heap.size_push, hsz]) fun c o c1 c3 c4 e => Heap.get?_push_of_some _ (up c o c1 c3 c4 e)
  rw [hsz]
  exact q
theorem zipT_end_more {z TI TO i1 i2 l1 l2 T : Addr} {k1 : Nat} {o : Obj} {bo : Bool} {xs : Array Value} {Q : Fin → Shared → Prop} (hh : A.handled = none) (D : ZipApart z TI TO i1 i2 l1 l2)
    (hz : IsZip2 s.heap z TI TO T bo) (hT : s.heap.get? T = some o) (hTI : IsPair s.heap TI (.ref i1) (.ref i2))
    (h1 : s.heap.IsTupleIter i1 l1 k1) (hl1 : s.heap.IsTuple l1 xs) (hend : xs[k1]? = none)
    (hE : ∀ h' e, (∀ c o, c ≠ z → c ≠ i1 → s.heap.get? c = some o → h'.get? c = some o) → (∃ o, h'.get? e = some o ∧ o.cls = .type "StopIteration") → E (.ref e) { s with heap := h' }) :
    wpAny (model prog w) A (Builtin.«zip.__next__» ⟨[.ref z], []⟩) Q E s := by
  show wpAny _ _ (field (.ref z) 2 >>= _) _ _ _
  refine wpAny_bind (wpAny_field hz rfl (x := .bool false) rfl ?_)
  show wpAny _ _ (field (.ref z) 3 >>= _) _ _ _
  refine wpAny_bind (wpAny_field hz rfl (x := .ref TI) rfl ?_)
  refine wpAny_bind (wpAny_seqItems hTI rfl ?_)
  show wpAny _ _ (Builtin.SmallTypes.ownedTupleIsFree (.ref z) >>= _) _ _ _
  refine wpAny_bind (notFree hz hT fun h₁ hz₁ hs₁ => ?_)
  simp only [Bool.false_eq_true, if_false]
  refine wpAny_bind ?_
  simp only [← Array.forIn_toList, List.forIn_cons, List.forIn_nil]
  refine wpAny_bind (wpAny_bind (wpAny_holding ?_))
  show wpAny _ _ (Builtin.SmallTypes.nextOf (.ref i1) >>= _) _ _ _
  exact wpAny_bind (RZ.nextOf_tuple_end hh (h1.extBut hs₁.extBut D.i1z) (hl1.extBut hs₁.extBut D.l1z) hend fun h₂ e hs₂ he => hE h₂ e (fun c o c1 c3 x => hs₂ _ _ c3 (hs₁.extBut _ _ c1 x)) he)
theorem pyNext_more {z TI TO i1 i2 l1 l2 T : Addr} {k1 k2 : Nat} {o : Obj} {bo : Bool} {xs ys : Array Value} {x y : Value} {Q : Option Value → Shared → Prop} (D : ZipApart z TI TO i1 i2 l1 l2)
    (hz : IsZip2 s.heap z TI TO T bo) (hT : s.heap.get? T = some o) (hTI : IsPair s.heap TI (.ref i1) (.ref i2))
    (h1 : s.heap.IsTupleIter i1 l1 k1) (h2 : s.heap.IsTupleIter i2 l2 k2) (hl1 : s.heap.IsTuple l1 xs) (hl2 : s.heap.IsTuple l2 ys) (hx : xs[k1]? = some x) (hy : ys[k2]? = some y)
    (hQ : ∀ h', IsZip2 h' z TI TO T true → h'.IsTupleIter i1 l1 (k1 + 1) → h'.IsTupleIter i2 l2 (k2 + 1) → IsPair h' s.heap.objs.size x y → h'.objs.size = s.heap.objs.size + 1 →
      (∀ c o, c ≠ z → c ≠ i1 → c ≠ i2 → s.heap.get? c = some o → h'.get? c = some o) → Q (some (.ref s.heap.objs.size)) { s with heap := h' }) :
    wpAny (model prog w) A (pyNext (.ref z)) Q E s := by
  have hTy : s.TypeIs (.ref z) "zip" := ⟨_, hz, rfl⟩
  unfold pyNext
  exact wpAny_bind (wpAny_attempt (wpAny_callSpecial?_slot (name := Str.ofString "__next__") hTy F.slot_zip_next
    (wpAny_call_entry F.slot_zip_next hTy F.entry_zip_next
      (zipT_next_more D hz hT hTI h1 h2 hl1 hl2 hx hy fun h' a1 a3 a4 a5 a6 a7 => wpAny_pure (hQ h' a1 a3 a4 a5 a6 a7)) (F.args_zip_next_1 _))))
theorem pyNext_end {z TI TO i1 i2 l1 l2 T : Addr} {k1 : Nat} {o : Obj} {bo : Bool} {xs : Array Value} {Q : Option Value → Shared → Prop} (hh : A.handled = none) (D : ZipApart z TI TO i1 i2 l1 l2)
    (hz : IsZip2 s.heap z TI TO T bo) (hT : s.heap.get? T = some o) (hTI : IsPair s.heap TI (.ref i1) (.ref i2))
    (h1 : s.heap.IsTupleIter i1 l1 k1) (hl1 : s.heap.IsTuple l1 xs) (hend : xs[k1]? = none)
    (hQ : ∀ h', (∀ c o, c ≠ z → c ≠ i1 → s.heap.get? c = some o → h'.get? c = some o) → Q none { s with heap := h' }) : wpAny (model prog w) A (pyNext (.ref z)) Q E s := by
  have hTy : s.TypeIs (.ref z) "zip" := ⟨_, hz, rfl⟩
  unfold pyNext
  refine wpAny_bind (wpAny_attempt (wpAny_callSpecial?_slot (name := Str.ofString "__next__") hTy F.slot_zip_next
    (wpAny_call_entry F.slot_zip_next hTy F.entry_zip_next (zipT_end_more hh D hz hT hTI h1 hl1 hend fun h' e hk he => ?_) (F.args_zip_next_1 _))))
  obtain ⟨o, ho, hc⟩ := he
  refine wpAny_bind (wpAny_isInstance (T := "StopIteration") (b := true) ⟨o, ho, hc⟩ isSubtype_stop ?_)
  exact wpAny_pure (hQ _ hk)
end
end ZL
namespace ZL
open PySem PySem.Spec PyProof.Rows L2
open PySem.Sem (wp)
/-- pairs laid one behind the other -/
inductive Laid : Hp → List (V × V) → List V → Hp → Prop where
  | nil {G : Hp} : Laid G [] [] G
  | cons {G G' : Hp} {T : Addr} {x y : V} {r : List (V × V)} {vs : List V} (h : G T = none) (l : Laid (upd G T (.tup [x, y])) r vs G') : Laid G ((x, y) :: r) (.ref T :: vs) G'
theorem Laid.snoc {G G' : Hp} {r : List (V × V)} {vs : List V} {T : Addr} {x y : V} (l : Laid G r vs G') (h : G' T = none) : Laid G (r ++ [(x, y)]) (vs ++ [.ref T]) (upd G' T (.tup [x, y])) := by
  induction l with
  | nil => exact .cons h .nil
  | cons h1 l ih => exact .cons h1 (ih h)
theorem upd_comm {H : Hp} {a b : Addr} {x y : HO} (h : a ≠ b) : upd (upd H a x) b y = upd (upd H b y) a x := by
  funext c
  by_cases ca : c = a
  · subst ca; rw [upd_ne h, upd_same, upd_same]
  · by_cases cb : c = b
    · subst cb; rw [upd_same, upd_ne ca, upd_same]
    · rw [upd_ne cb, upd_ne ca, upd_ne ca, upd_ne cb]
theorem upd_upd {H : Hp} {a : Addr} {x y : HO} : upd (upd H a x) a y = upd H a y := by
  funext c
  by_cases ca : c = a
  · subst ca; rw [upd_same, upd_same]
  · rw [upd_ne ca, upd_ne ca, upd_ne ca]
/-- how the zip stands behind i items -/
def Zst (h : Heap) (H : Hp) (z TI TO i1 i2 a b : Addr) (i : Nat) : Prop :=
  ((i = 0 ∧ IsZip h z TI TO .none ∧ ∃ x y, IsPair h TO x y) ∨ (0 < i ∧ ∃ T bo t o, IsZip2 h z TI TO T bo ∧ H T = some (.tup t) ∧ h.get? TO = some o)) ∧ IsPair h TI (.ref i1) (.ref i2) ∧ h.IsTupleIter i1 a i ∧ h.IsTupleIter i2 b i
section
variable {X : Cx} {pins : List (Addr × Obj)} {σ : L2.St}
theorem loop {A : Around} {z TI TO i1 i2 a b S : Addr} {res : Value} {R : Result → Shared → Prop} (hh : A.handled = none) (D : ZipApart z TI TO i1 i2 a b) {xs ys : List V} (hl : xs.length = ys.length) (hb : xs.length ≤ 1000) {G0 : Hp} (hG0 : SqT X.K G0 a xs ∧ SqT X.K G0 b ys)
    (hR : ∀ s' acc G, Laid G0 (xs.zip ys) acc G → G S = none → Inv X pins σ (upd G S (.lst acc)) s' → R (.ok (.ret res)) s') :
    ∀ (k i : Nat) (s : Shared) (G : Hp) (acc : List V), xs.length - i = k → i ≤ xs.length → Inv X pins σ (upd G S (.lst acc)) s → (∀ c ∈ [z, TI, TO, i1, i2], FpOk X pins (upd G S (.lst acc)) c) → Zst s.heap G z TI TO i1 i2 a b i →
      SqT X.K G a xs → SqT X.K G b ys → G S = none → acc.length = i → Laid G0 ((xs.zip ys).take i) acc G →
      codeAny (model X.prog X.w) A (.builtin "list.extend.loop" ⟨[.ref S, .ref z, res], []⟩) R s := by
  intro k
  induction k with
  | zero =>
    intro i s G acc hk hi I hf st qa qb hS hacc la
    have hin : i = xs.length := by omega
    obtain ⟨st0, hTI, h1, h2⟩ := st
    have sub : ∀ l vs, SqT X.K G l vs → SqT X.K (upd G S (.lst acc)) l vs := fun l vs q => AL.Kp.sqT (fun c u nf e => by rw [upd_ne (ne_of_none e hS)]; exact e) q
    obtain ⟨its, rv, p, _⟩ := I.tuple (sub a xs qa)
    obtain ⟨its2, rv2, p2, _⟩ := I.tuple (sub b ys qb)
    have l1 := rv.length
    have full : (xs.zip ys).take i = xs.zip ys := List.take_of_length_le (by rw [List.length_zip]; omega)
    rw [full] at la
    have he : its.toArray[i]? = none := by simp; omega
    refine codeAny_builtin F.entry_extend_loop ?_
    rw [Around.under_plainId F.plain_extend_loop _]
    show wpAny _ A.in1 (pyNext (.ref z) >>= _) _ _ s
    refine wpAny_bind ?_
    rcases st0 with ⟨_, hz, x0, y0, hTO⟩ | ⟨_, T, bo, t, oO, hz, hT, hO⟩
    · exact RZ.pyNext_zipT_end hh D hz hTI hTO h1 h2 p p2 (.inl he) fun h' hk => wpAny_pure (hR _ acc G la hS (I.turnedL (t' := s.toks) (ch := [z, TI, TO, i1, i2]) (fun c o hb q =>
        hk c o (fun q' => hb (by simp [q'])) (fun q' => hb (by simp [q'])) (fun q' => hb (by simp [q'])) (fun q' => hb (by simp [q'])) q) hf))
    · have hT2 : (upd G S (.lst acc)) T = some (.tup t) := by rw [upd_ne (ne_of_none hT hS)]; exact hT
      obtain ⟨_, _, _, oT, hoT, _⟩ := (show ObjOk X.prog X.w _ s.heap T (.tup t) from I.hok T _ hT2)
      exact pyNext_end hh D hz hoT hTI h1 p he fun h' hk => wpAny_pure (hR _ acc G la hS (I.turnedL (t' := s.toks) (ch := [z, TI, TO, i1, i2]) (fun c o hb q =>
        hk c o (fun q' => hb (by simp [q'])) (fun q' => hb (by simp [q'])) q) hf))
  | succ k ih =>
    intro i s G acc hk hi I hf st qa qb hS hacc la
    have hlt : i < xs.length := by omega
    obtain ⟨st0, hTI, h1, h2⟩ := st
    have sub : ∀ l vs, SqT X.K G l vs → SqT X.K (upd G S (.lst acc)) l vs := fun l vs q => AL.Kp.sqT (fun c u nf e => by rw [upd_ne (ne_of_none e hS)]; exact e) q
    obtain ⟨its, rv, p, _⟩ := I.tuple (sub a xs qa)
    obtain ⟨its2, rv2, p2, _⟩ := I.tuple (sub b ys qb)
    have hx : xs[i]? = some xs[i] := List.getElem?_eq_getElem hlt
    have hlt2 : i < ys.length := by omega
    have hy : ys[i]? = some ys[i] := List.getElem?_eq_getElem hlt2
    obtain ⟨u, hu, ru⟩ := rv.get hx
    obtain ⟨u2, hu2, ru2⟩ := rv2.get hy
    have hSs : S < s.heap.objs.size := by
      obtain ⟨_, its3, n3, _, e3⟩ := (show ObjOk X.prog X.w _ s.heap S (.lst acc) from I.hok S _ upd_same)
      exact Heap.lt_size e3
    have hSf : S ∉ [z, TI, TO, i1, i2] := fun m => by
      have q := (hf S m).1
      rw [upd_same] at q
      cases q
    have hsub : ∀ {c}, c ∈ [z, TI, TO, i1, i2] → c < s.heap.objs.size := fun {c} hc => by
      have e' : c = z ∨ c = TI ∨ c = TO ∨ c = i1 ∨ c = i2 := by simpa using hc
      have hz' : z < s.heap.objs.size := by rcases st0 with ⟨_, hz, _⟩ | ⟨_, T, bo, t, oO, hz, _⟩ <;> exact Heap.lt_size hz
      rcases e' with q | q | q | q | q
      · rw [q]; exact hz'
      · rw [q]; exact Heap.lt_size hTI
      · rw [q]
        rcases st0 with ⟨_, hz, x0, y0, hTO⟩ | ⟨_, T, bo, t, oO, hz, hT, hO⟩
        · exact Heap.lt_size hTO
        · exact Heap.lt_size hO
      · rw [q]; obtain ⟨_, e1, _⟩ := h1; exact Heap.lt_size e1
      · rw [q]; obtain ⟨_, e2, _⟩ := h2; exact Heap.lt_size e2
    have size2 : ∀ {c}, c ∈ [z, TI, TO, i1, i2] → c ≠ S := fun {c} hc e => hSf (e ▸ hc)
    refine codeAny_builtin F.entry_extend_loop ?_
    rw [Around.under_plainId F.plain_extend_loop _]
    show wpAny _ A.in1 (pyNext (.ref z) >>= _) _ _ s
    refine wpAny_bind ?_
    -- what comes behind the item
    have hGT : G s.heap.objs.size = none := by
      have q := I.hok.fresh (Nat.le_refl s.heap.objs.size)
      rw [upd_ne (Nat.ne_of_gt hSs)] at q
      exact q
    have fin : ∀ (h' : Heap), h'.IsTupleIter i1 a (i + 1) → h'.IsTupleIter i2 b (i + 1) → IsPair h' s.heap.objs.size u u2 →
        (∀ c o, c ∉ [z, TI, TO, i1, i2] → s.heap.get? c = some o → h'.get? c = some o) → IsPair h' TI (.ref i1) (.ref i2) → (∃ o, h'.get? TO = some o) → (∃ T bo, IsZip2 h' z TI TO T bo ∧ (T = s.heap.objs.size ∨ ∃ t, G T = some (.tup t))) →
        ∃ av c, h'.get? S = some { cls := .type "list", dict := none, data := .seq av c, slots := #[] } ∧ av.size ≤ 1000 ∧
        codeAny (model X.prog X.w) A (.builtin "list.extend.loop" ⟨[.ref S, .ref z, res], []⟩) R { s with heap := h'.update S (Obj.mapSeq (·.push (.ref s.heap.objs.size))) } := by
      intro h' n1 n2 hT hk hTI' ⟨oO, hO⟩ ⟨T, bo, hz, hTT⟩
      have hTS : s.heap.objs.size ≠ S := Nat.ne_of_gt hSs
      have new : ObjOk X.prog X.w (upd (upd G S (.lst acc)) s.heap.objs.size (.tup [xs[i], ys[i]])) h' s.heap.objs.size (.tup [xs[i], ys[i]]) :=
        ⟨by show 2 ≤ sizeLine; decide, [u, u2], .cons ru (.cons ru2 .nil), ⟨_, hT, rfl, _, rfl⟩⟩
      have I1 : Inv X pins σ (upd (upd G S (.lst acc)) s.heap.objs.size (.tup [xs[i], ys[i]])) { s with heap := h' } :=
        I.turnedNew (t' := s.toks) (ch := [z, TI, TO, i1, i2]) hk hf (Nat.le_refl _) new
      rw [upd_comm hTS.symm] at I1
      obtain ⟨_, its3, n3, r3, e3⟩ := (show ObjOk X.prog X.w _ h' S (.lst acc) from I1.hok S _ upd_same)
      have len3 := r3.length
      refine ⟨_, _, e3, by rw [List.size_toArray]; omega, ?_⟩
      obtain ⟨n4, e4⟩ : ∃ n4, (h'.update S (Obj.mapSeq (·.push (.ref s.heap.objs.size)))).get? S = some { cls := .type "list", dict := none, data := .seq (its3.toArray.push (.ref s.heap.objs.size)) n4, slots := #[] } := ⟨_, Heap.get?_update_self (Obj.mapSeq (·.push (.ref s.heap.objs.size))) e3 rfl⟩
      have oth : ∀ c o, c ≠ S → h'.get? c = some o → (h'.update S (Obj.mapSeq (·.push (.ref s.heap.objs.size)))).get? c = some o := fun c o hc e => (Heap.get?_update_other _ _ (Ne.symm hc)).trans e
      have I2 : Inv X pins σ (upd (upd G s.heap.objs.size (.tup [xs[i], ys[i]])) S (.lst (acc ++ [.ref s.heap.objs.size]))) { s with heap := h'.update S (Obj.mapSeq (·.push (.ref s.heap.objs.size))) } := by
        have z := I1.write (x := S) (e := S) (o := .lst (acc ++ [.ref s.heap.objs.size])) (h' := h'.update S (Obj.mapSeq (·.push (.ref s.heap.objs.size)))) (t' := s.toks) (by rw [upd_same]; trivial) (.inl rfl) (fun c o hc e => oth c o hc e) ⟨_, e4⟩
          ⟨by rw [List.length_append, List.length_singleton]; have : sizeLine = 16777216 := rfl; omega, its3 ++ [.ref s.heap.objs.size], n4, r3.append (.cons (show RelV (.ref s.heap.objs.size) (.ref s.heap.objs.size) from rfl) .nil), by rw [e4]; simp⟩
        rw [upd_upd] at z
        exact z
      have fz : ∀ c ∈ [z, TI, TO, i1, i2], c ≠ S ∧ c ≠ s.heap.objs.size := fun c hc => ⟨size2 hc, Nat.ne_of_lt (hsub hc)⟩
      have keepT : ∀ l vs, SqT X.K G l vs → SqT X.K (upd G s.heap.objs.size (.tup [xs[i], ys[i]])) l vs := fun l vs q => AL.Kp.sqT (fun c u nf e => by rw [upd_ne (ne_of_none e hGT)]; exact e) q
      refine ih (i + 1) _ (upd G s.heap.objs.size (.tup [xs[i], ys[i]])) (acc ++ [.ref s.heap.objs.size]) (by omega) hlt I2 (fun c hc => ?_) ⟨.inr ⟨Nat.succ_pos _, ?_⟩, ?_, ?_, ?_⟩ (keepT a xs qa) (keepT b ys qb) (by rw [upd_ne hTS.symm]; exact hS) (by rw [List.length_append, List.length_singleton, hacc]) ?_
      · obtain ⟨f1, f2⟩ := fz c hc
        refine ⟨?_, (hf c hc).2⟩
        have q := (hf c hc).1
        rw [upd_ne f1] at q
        rw [upd_ne f1, upd_ne f2]
        exact q
      · rcases hTT with rfl | ⟨t, hTt⟩
        · exact ⟨_, bo, [xs[i], ys[i]], oO, oth _ _ (fz z (by simp)).1 hz, upd_same, oth _ _ (fz TO (by simp)).1 hO⟩
        · exact ⟨T, bo, t, oO, oth _ _ (fz z (by simp)).1 hz, by rw [upd_ne (ne_of_none hTt hGT)]; exact hTt, oth _ _ (fz TO (by simp)).1 hO⟩
      · exact oth _ _ (fz TI (by simp)).1 hTI'
      · exact n1.at fun o e => oth _ _ (fz i1 (by simp)).1 e
      · exact n2.at fun o e => oth _ _ (fz i2 (by simp)).1 e
      · have e : (xs.zip ys).take (i + 1) = (xs.zip ys).take i ++ [(xs[i], ys[i])] := by
          rw [List.take_add_one]
          have : (xs.zip ys)[i]? = some (xs[i], ys[i]) := by
            rw [List.getElem?_zip_eq_some]
            exact ⟨hx, hy⟩
          rw [this]
          rfl
        rw [e]
        exact la.snoc hGT
    have big : ∀ n : Nat, n ≤ 1000 → n + 1 ≤ sizeLine := fun n h => by have : sizeLine = 16777216 := rfl; omega
    rcases st0 with ⟨_, hz, x0, y0, hTO⟩ | ⟨_, T, bo, t, oO, hz, hT, hO⟩
    · refine RZ.pyNext_zipT_item D hz hTI hTO h1 h2 p p2 (x := u) (y := u2) (by simpa using hu) (by simpa using hu2) fun h' z' TO' h1' h2' hT hsz hk => ?_
      obtain ⟨av, c, e, hav, q⟩ := fin h' h1' h2' hT (fun c o hb q => hk c o (fun q' => hb (by simp [q'])) (fun q' => hb (by simp [q'])) (fun q' => hb (by simp [q'])) (fun q' => hb (by simp [q'])) q) (hk _ _ D.TIz D.TITO D.TIi1 D.TIi2 hTI) ⟨_, TO'⟩ ⟨_, false, z', .inl rfl⟩
      show wpAny _ A.in1 (updateSeq S (·.push (.ref s.heap.objs.size)) >>= _) _ _ _
      refine wpAny_bind ?_
      exact wpAny_updateSeq e rfl (wpAny_pure ⟨plainId_quiet F.plain_extend_loop _, q⟩) (Nat.le_of_succ_le (big _ hav)) (by show (av.push _).size ≤ sizeLine + 1; rw [Array.size_push]; exact Nat.le_succ_of_le (big _ hav))
    · have hT2 : (upd G S (.lst acc)) T = some (.tup t) := by rw [upd_ne (ne_of_none hT hS)]; exact hT
      obtain ⟨_, _, _, oT, hoT, _⟩ := (show ObjOk X.prog X.w _ s.heap T (.tup t) from I.hok T _ hT2)
      refine pyNext_more D hz hoT hTI h1 h2 p p2 (x := u) (y := u2) (by simpa using hu) (by simpa using hu2) fun h' z' h1' h2' hT' hsz hk => ?_
      obtain ⟨av, c, e, hav, q⟩ := fin h' h1' h2' hT' (fun c o hb q => hk c o (fun q' => hb (by simp [q'])) (fun q' => hb (by simp [q'])) (fun q' => hb (by simp [q'])) q) (hk _ _ D.TIz D.TIi1 D.TIi2 hTI) ⟨_, hk _ _ D.TOz D.TOi1 D.TOi2 hO⟩ ⟨T, true, z', .inr ⟨t, hT⟩⟩
      show wpAny _ A.in1 (updateSeq S (·.push (.ref s.heap.objs.size)) >>= _) _ _ _
      refine wpAny_bind ?_
      exact wpAny_updateSeq e rfl (wpAny_pure ⟨plainId_quiet F.plain_extend_loop _, q⟩) (Nat.le_of_succ_le (big _ hav)) (by show (av.push _).size ≤ sizeLine + 1; rw [Array.size_push]; exact Nat.le_succ_of_le (big _ hav))
end
end ZL
namespace ZL
open PySem PySem.Spec PyProof.Rows L2
open PySem.Sem (wp)
theorem zip_no_len : typeLookup (.type "zip") "__len__" = pure none := by rw [typeLookup_type, builtinLookup_eq_fast]; kernel_rfl
theorem zip_no_hint : typeLookup (.type "zip") "__length_hint__" = pure none := by rw [typeLookup_type, builtinLookup_eq_fast]; kernel_rfl
theorem boot_list : bootBuiltins "list" = some (.type "list") := by rfl
section
variable {X : Cx} {pins : List (Addr × Obj)} {σ : L2.St} {H : Hp}
theorem call_list_zip {s1 : Shared} {h' : Heap} {a b : Addr} {xs ys : List V} {Q : Value → Shared → Prop} {E : Value → Shared → Prop} (hc : X.calm = true) (I1 : Inv X pins σ H s1) (qa : SqT X.K H a xs) (qb : SqT X.K H b ys) (hl : xs.length = ys.length) (hb : xs.length ≤ 1000)
    (hab : a < s1.heap.objs.size ∧ b < s1.heap.objs.size)
    (hz : IsZip h' (s1.heap.objs.size + 4) (s1.heap.objs.size + 2) (s1.heap.objs.size + 3) .none) (hTI : IsPair h' (s1.heap.objs.size + 2) (.ref s1.heap.objs.size) (.ref (s1.heap.objs.size + 1)))
    (hTO : IsPair h' (s1.heap.objs.size + 3) .none .none) (h1 : h'.IsTupleIter s1.heap.objs.size a 0) (h2 : h'.IsTupleIter (s1.heap.objs.size + 1) b 0) (hsz : h'.objs.size = s1.heap.objs.size + 5) (hk : ∀ c o, s1.heap.get? c = some o → h'.get? c = some o)
    (hQ : ∀ s' acc G, Laid H (xs.zip ys) acc G → H h'.objs.size = none → G h'.objs.size = none → Inv X pins σ (upd G h'.objs.size (.lst acc)) s' → Q (.ref h'.objs.size) s') :
    wpAny (model X.prog X.w) X.A (call (.type "list") [.ref (s1.heap.objs.size + 4)]) Q E { s1 with heap := h' } := by
  have hn : ∀ c, s1.heap.objs.size ≤ c → H c = none := fun c z => I1.hok.fresh z
  have hSz : h'.objs.size ≠ s1.heap.objs.size + 4 := by omega
  have D := PySem.W.ktu_apart s1.heap.objs.size a b hab.1 hab.2
  have I2 : Inv X pins σ H { s1 with heap := h' } := I1.kept (t' := s1.toks) hk
  refine callType_codes (Q₁ := fun obj s₁ => obj = .ref h'.objs.size ∧ s₁ = { s1 with heap := h'.push { cls := .type "list", data := .seq #[] } }) F.called_list (F.typeCall_list_1 _) F.entry_list_init
    (code_list_new _ ⟨rfl, rfl⟩) fun obj s₁ h₁ => ?_
  obtain ⟨rfl, rfl⟩ := h₁
  have hS : (h'.push { cls := .type "list", data := .seq #[] }).get? h'.objs.size = some { cls := .type "list", data := .seq #[] } := Heap.get?_push_size _ rfl
  refine ⟨⟨_, hS, rfl⟩, F.args_list_init_2 _ _, ?_⟩
  show wpAny _ X.A.in1.in1 (do let old ← Builtin.List.listItems (.ref h'.objs.size); Builtin.List.listUpdate (.ref h'.objs.size) (fun _ => #[]); letGo old.toList.reverse; Builtin.List.listExtendWith (.ref h'.objs.size) (.ref (s1.heap.objs.size + 4)) .none) _ _ _
  refine wpAny_bind ?_
  unfold Builtin.List.listItems
  refine wpAny_bind (wpAny_seqItems hS rfl (wpAny_pure ?_))
  show wpAny _ X.A.in1.in1 (updateSeq h'.objs.size (fun _ => #[]) >>= fun _ => letGo (#[] : Array Value).toList.reverse >>= fun _ => Builtin.List.listExtendWith (.ref h'.objs.size) (.ref (s1.heap.objs.size + 4)) .none) _ _ _
  refine wpAny_bind (wpAny_updateSeq hS rfl ?_)
  have hS2 := Heap.get?_update_self (Obj.mapSeq (fun _ => (#[] : Array Value))) hS rfl
  refine wpAny_bind (wpAny_letGo ?_)
  unfold Builtin.List.listExtendWith
  have up : ∀ (h : Heap) (f : Obj → Obj), (∀ b o, h'.get? b = some o → h.get? b = some o) → ∀ b o, h'.get? b = some o → (h.update h'.objs.size f).get? b = some o := fun h f q b o e =>
    (Heap.get?_update_other _ _ (Ne.symm (Nat.ne_of_lt (Heap.lt_size e)))).trans (q b o e)
  have k1 : ∀ b o, h'.get? b = some o → (h'.push { cls := .type "list", data := .seq #[] }).get? b = some o := fun b o e => Heap.get?_push_of_some _ e
  have k2 := up _ (Obj.mapSeq (fun _ => (#[] : Array Value))) k1
  refine wpAny_bind (wpAny_typeOf (T := "zip") ⟨_, k2 _ _ hz, rfl⟩ ?_)
  have g1 : Builtin.List.listSameRef (.ref h'.objs.size) (.ref (s1.heap.objs.size + 4)) = false := by simp [Builtin.List.listSameRef, hSz]
  have g2 : (Value.type "zip" == Value.type "list") = false := by decide
  have g3 : (Value.type "zip" == Value.type "tuple") = false := by decide
  simp only [g1, g2, g3, Bool.or_false, Bool.false_eq_true, if_false]
  refine wpAny_bind (wpAny_pyIter_zip (k2 _ _ hz) ?_)
  refine wpAny_bind (wpAny_holding ?_)
  unfold Builtin.List.listLengthHint
  refine wpAny_bind (wpAny_specialOf (T := "zip") ⟨_, k2 _ _ hz, rfl⟩ zip_no_len ?_)
  show wpAny _ X.A.in1.in1 (specialOf (Value.ref (s1.heap.objs.size + 4)) (Str.ofString "__length_hint__") >>= _) _ _ _
  refine wpAny_bind (wpAny_specialOf (T := "zip") ⟨_, k2 _ _ hz, rfl⟩ zip_no_hint ?_)
  refine wpAny_pure ?_
  show wpAny _ X.A.in1.in1 (rule "list.extend.makes-room" >>= fun _ => Builtin.List.listTouch (.ref h'.objs.size) >>= fun _ =>
    again (.builtin "list.extend.loop" ⟨[.ref h'.objs.size, .ref (s1.heap.objs.size + 4), .none], []⟩)) _ _ _
  refine wpAny_bind (wpAny_rule ?_)
  refine wpAny_bind ?_
  show wpAny _ X.A.in1.in1 (updateSeq h'.objs.size (·.push .none) >>= fun _ => updateSeq h'.objs.size (·.pop)) _ _ _
  refine wpAny_bind (wpAny_updateSeq hS2 rfl ?_)
  have hS3 := Heap.get?_update_self (Obj.mapSeq (·.push Value.none)) hS2 rfl
  refine wpAny_updateSeq (hz := by seq_fits) hS3 rfl ?_
  have hS4 := Heap.get?_update_self (Obj.mapSeq (·.pop)) hS3 rfl
  have k4 := up _ (Obj.mapSeq (·.pop)) (up _ (Obj.mapSeq (·.push Value.none)) k2)
  refine wpAny_pure ⟨plainId_quiet F.plain_extend_loop _, ?_⟩
  have hHS : H h'.objs.size = none := hn _ (by omega)
  have I3 := I2.laid (a := h'.objs.size) (o := .lst []) (t' := s1.toks) k4 (Nat.le_refl _) ⟨Nat.zero_le _, [], _, .nil, hS4⟩
  have qn : ∀ l vs, SqT X.K H l vs → SqT X.K H l vs := fun _ _ q => q
  refine loop (A := X.A.in1) (res := .none) (I1.ok.hd hc) D hl hb ⟨qa, qb⟩ (fun s' acc G la hG I' => ⟨rfl, hQ s' acc G la hHS hG I'⟩) _ 0 _ H [] rfl (Nat.zero_le _) I3 (fun c hcm => ?_) ⟨.inl ⟨rfl, k4 _ _ hz, _, _, k4 _ _ hTO⟩, k4 _ _ hTI, h1.at fun o e => k4 _ _ e, h2.at fun o e => k4 _ _ e⟩ qa qb hHS rfl .nil
  have e' : c = s1.heap.objs.size + 4 ∨ c = s1.heap.objs.size + 2 ∨ c = s1.heap.objs.size + 3 ∨ c = s1.heap.objs.size ∨ c = s1.heap.objs.size + 1 := by simpa using hcm
  have hle : s1.heap.objs.size ≤ c ∧ c ≠ h'.objs.size := by
    rcases e' with z | z | z | z | z <;> (rw [z, hsz]; exact ⟨by omega, Nat.ne_of_lt (by omega)⟩)
  exact I1.fpOk hle.1 (by rw [upd_ne hle.2]; exact hn c hle.1)
def tListZip (K : PySem.W.Frag) (t : TA) : TE := fun σ H Q => t σ H fun vs H2 => ∃ a b xs ys, vs = [.ref a, .ref b] ∧ SqT K H2 a xs ∧ SqT K H2 b ys ∧ xs.length = ys.length ∧ xs.length ≤ 1000 ∧
  ∀ S acc G, H2 S = none → Laid H2 (xs.zip ys) acc G → G S = none → Q (.ref S) (upd G S (.lst acc))
theorem pe_listZip {e f : Expr} {t : TA} {p p2 pos q : Pos} (hc : X.calm = true) (pa : PA X [e, f] t) (hg : Gl X "list") (hm : X.mg "list" = none) (hg2 : Gl X "zip") (hm2 : X.mg "zip" = none)
    (hs : starEach [e, f] X.env = (false, eval e X.env) :: starEach [f] X.env := by rfl) (hpl : (backTo q (starEach [f] X.env)).any (·.1) = false := by rfl)
    (he : starEach [.Call (.Name "zip" p2) [e, f] [] q] X.env = (false, eval (.Call (.Name "zip" p2) [e, f] [] q) X.env) :: starEach [] X.env := by rfl) :
    PE X (.Call (.Name "list" p) [.Call (.Name "zip" p2) [e, f] [] q] [] pos) (tListZip X.K t) := by
  refine ⟨fun pins s σ H Q I h => ?_⟩
  refine wpAny_Call_Name_kw (ld_blt I hg hm boot_list ?_ (by decide) (by decide))
  refine PyProof.Rows.callWith_type1 ?_ he rfl
  rw [he]
  show wpAny _ _ (spliced ((false, eval (.Call (.Name "zip" p2) [e, f] [] q) X.env) :: backTo pos (starEach [] X.env))) _ _ s
  refine Calls.spliced_cons ?_
  refine Call_ (ld_blt I hg2 hm2 PyProof.Rows.boot_zip (PyProof.Rows.callWith_type1 (thn (pa.run q pins s σ H _ I h) fun us s1 ⟨vs, H1, I1, r1, a, b, xs, ys, ev, qa, qb, hl, hbd, k⟩ => ?_) hs hpl))
  · subst ev
    obtain ⟨u1, u2, rfl, ra, rb⟩ := vals2 r1
    cases ra
    cases rb
    obtain ⟨its, rv, p1, _⟩ := I1.tuple qa
    obtain ⟨its2, rv2, p2, _⟩ := I1.tuple qb
    obtain ⟨o1, ho1, _⟩ := id p1
    obtain ⟨o2, ho2, _⟩ := id p2
    refine RZ.call_zipT (show s1.heap.IsTuple a its.toArray from p1) (show s1.heap.IsTuple b its2.toArray from p2) fun h' hz hTI hTO h1 h2 hsz hk => ?_
    refine Calls.spliced_nil ?_
    exact call_list_zip hc I1 qa qb hl hbd ⟨Heap.lt_size ho1, Heap.lt_size ho2⟩ hz hTI hTO h1 h2 hsz hk fun s' acc G la hH hG I' => ⟨.ref h'.objs.size, _, I', rfl, k _ acc G hH la hG⟩
end
end ZL

theorem repL_new' {K : PySem.W.Frag} {H : Hp} {p : Addr} {o : HO} {ds : List D} {vs : List V} (hp : H p = none) (r : RepL K H ds vs) : RepL K (upd H p o) ds vs := RepL.mono (Kp.new hp) ds vs r
theorem laid_tr {K : PySem.W.Frag} {M : Sto} : ∀ {ds es : List D} {vs ws acc : List V} {H G : Hp}, Abs K M H → RepL K H ds vs → RepL K H es ws → ZL.Laid H (vs.zip ws) acc G → Tr K M H M G ∧ RepL K G (zipD ds es) acc
  | [], es, vs, ws, acc, H, G, ab, r1, r2, l => by
    cases (show vs = [] from r1)
    cases l
    exact ⟨Tr.refl ab, rfl⟩
  | d :: ds, [], vs, ws, acc, H, G, ab, r1, r2, l => by
    cases (show ws = [] from r2)
    obtain ⟨v, vs, rfl, _⟩ := r1
    cases l
    exact ⟨Tr.refl ab, rfl⟩
  | d :: ds, e :: es, vs, ws, acc, H, G, ab, r1, r2, l => by
    obtain ⟨v, vs, rfl, r3, r4⟩ := r1
    obtain ⟨w, ws, rfl, r5, r6⟩ := r2
    rw [List.zip_cons_cons] at l
    cases l with
    | @cons _ _ T _ _ _ acc' h l =>
      have t1 : Tr K M H M (upd H T (.tup [v, w])) := Tr.newT ab h
      obtain ⟨t2, r7⟩ := laid_tr t1.abs (repL_new' h r4) (repL_new' h r6) l
      have rr : Rep K (upd H T (.tup [v, w])) (.tup [d, e]) (.ref T) := rep_newT h ⟨v, [w], rfl, r3, w, [], rfl, r5, rfl⟩
      exact ⟨t1.trans t2, .ref T, acc', rfl, t2.rep t1.abs rr, r7⟩
section
variable {W : WX} {X : Cx} {K : PySem.W.Frag}
/-- list(zip(a, b)), two tuples -/
def aListZip (τ : ATA) : ATE := fun ax env M Q => τ ax env M fun xs M1 => match xs with
  | [.tup ds, .tup es] => ds.length = es.length ∧ ds.length ≤ 1000 ∧ New (.lst (zipD ds es)) M1 Q
  | _ => False
theorem ae_listZip {a b : Expr} {τ : ATA} {p p2 pos q : Pos} (hc : X.calm = true) (ha : AA X W [a, b] τ) (hg : Gl X "list") (hm : X.mg "list" = none) (hg2 : Gl X "zip") (hm2 : X.mg "zip" = none)
    (hs : starEach [a, b] X.env = (false, eval a X.env) :: starEach [b] X.env := by rfl) (hpl : (backTo q (starEach [b] X.env)).any (·.1) = false := by rfl)
    (he : starEach [.Call (.Name "zip" p2) [a, b] [] q] X.env = (false, eval (.Call (.Name "zip" p2) [a, b] [] q) X.env) :: starEach [] X.env := by rfl) :
    AE X W (.Call (.Name "list" p) [.Call (.Name "zip" p2) [a, b] [] q] [] pos) (aListZip τ) := PE.imp (ZL.pe_listZip hc ha hg hm hg2 hm2 hs hpl he) fun σ H Q h => by
  obtain ⟨ax, env, M, Qa, S, q, k⟩ := h
  refine ⟨ax, env, M, _, S, q, fun vs H1 ds M1 t r q => ?_⟩
  split at q
  · obtain ⟨v, w, rfl, r1, r2⟩ := repL2 r
    obtain ⟨b, ws, rfl, hp, hv⟩ := r1
    obtain ⟨c, us, rfl, hq, hw⟩ := r2
    obtain ⟨hl, hb, q⟩ := q
    have l1 := hv.length
    have l2 := hw.length
    refine ⟨b, c, ws, us, rfl, hp, hq, by omega, by omega, fun P acc G hP la hG => ?_⟩
    obtain ⟨t2, r3⟩ := laid_tr t.abs hv hw la
    exact k _ _ (.obj P) _ (t.trans (t2.trans (Tr.newM (mo := .lst (zipD _ _)) t2.abs hG ⟨acc, upd_same, repL_new' hG r3⟩))) rfl (q P (t.abs.fresh hP))
  · exact q.elim
end
section
open PySem PySem.Spec L2 PyProof.Rows
section
variable {W : WX} {X : Cx} {K : PySem.W.Frag}
theorem ae_wix {g : Str} {a : Addr} {tab : List (Key × D)} {i : Expr} {β : ATE} {p pos : Pos} (hg : Gl X g) (hm : X.mg g = some (.ref a)) (D : WDct X.K X.w a tab) (hi : AE X W i β) (hs : PlainIx i) (hd : (g == ("__debug__" : Str)) = false := by decide) :
    AE X W (.Subscript (.Name g p) i pos) (aWIx tab β) := ⟨fun pins s σ H Q I h => by
  obtain ⟨ax, env, M, Qa, S, q, k⟩ := h
  refine Subscript_ (binT (pe_glob (v := .ref a) hg hm rfl hd) hi I (R := fun x y H2 => x = .ref a ∧ ∃ dy M2, Tr X.K M H M2 H2 ∧ Rep X.K H2 dy y ∧ optAt (keyD dy) fun k => optAt (valA tab k) fun d => Qa d M2) (show tC (V.ref a) σ H _ from ⟨ax, env, M, _, S, q, fun y H2 dy M2 t ry q => ⟨rfl, dy, M2, t, ry, q⟩⟩) fun v u s2 x y H2 I2 rx ry q => ?_)
  obtain ⟨ex, dy, M2, t, rd, q⟩ := q
  subst ex
  obtain rfl : v = Value.ref a := rx
  obtain ⟨key, ek, q⟩ := optAt_ex q
  obtain ⟨d, ev, q⟩ := optAt_ex q
  have ey := key_rep rd ek
  subst ey
  obtain ⟨f2, hm2, ok⟩ := D.mapOf (P := X.prog) I2.kIn
  obtain ⟨⟨v, rv, rep⟩, so⟩ := ok key
  rw [ev] at rep so
  obtain ⟨u2, hu⟩ := Option.isSome_iff_exists.mp so
  rw [hu] at rv
  exact tail_any hm2.typeIs slot_dict_getitem.lookup (wpAny_getItem_of (kV_is ry) hm2 hu ⟨v, H2, I2.tok _, rv, k v H2 _ M2 t (rep H2) q⟩) (hs _ _)⟩
end
end

/-! a dict while a loop walks it -/
theorem up_back {M : Sto} {p : Addr} {a b : MO} (h : M p = some a) : up (up M p b) p a = M := by
  funext c
  by_cases e : c = p
  · subst e; rw [up_same, h]
  · rw [up_ne e, up_ne e]
section
variable {K : PySem.W.Frag} {M M' : Sto} {H H' : Hp} {p : Addr} {kvs : List (Key × D)} {ws : List (Key × V)} {od : Obj}
theorem Tr.lock (ab : Abs K M H) (m : M p = some (.dic kvs)) (h : H p = some (.dK ws)) (r : RepK K H kvs ws) : Tr K M H (up M p (.dif od ws kvs)) (upd H p (.frz od (.dK ws))) := by
  have kp : Kp H (upd H p (.frz od (.dK ws))) := Kp.write ab m
  exact Tr.write (mo := .dif od ws kvs) ab m ⟨upd_same, Paired.mapP r fun p q z => ⟨z.1, Rep.mono kp _ _ z.2⟩⟩
theorem Tr.unlock (ab : Abs K M H) (m : M p = some (.dif od ws kvs)) : H p = some (.frz od (.dK ws)) ∧ Tr K M H (up M p (.dic kvs)) (upd H p (.dK ws)) := by
  have kp : Kp H (upd H p (.dK ws)) := Kp.write ab m
  obtain ⟨h, r⟩ := ab p _ m
  exact ⟨h, Tr.write (mo := .dic kvs) ab m ⟨ws, upd_same, Paired.mapP r fun p q z => ⟨z.1, Rep.mono kp _ _ z.2⟩⟩⟩
end
section
variable {W : WX} {X : Cx} {K : PySem.W.Frag}
/-- the statement under a lock on the dict that slot i holds -/
def aLock (i : Nat) (t : ATS) : ATS := fun ax De env M => ∃ p kvs, env[i]? = some (some (.obj p)) ∧ M p = some (.dic kvs) ∧ ∀ od ws,
  t ax ⟨fun env' M' => M' p = some (.dif od ws kvs) ∧ De.nx env' (up M' p (.dic kvs)), fun d M' => M' p = some (.dif od ws kvs) ∧ De.rt d (up M' p (.dic kvs)), fun env' M' => M' p = some (.dif od ws kvs) ∧ De.bk env' (up M' p (.dic kvs)), fun env' M' => M' p = some (.dif od ws kvs) ∧ De.ct env' (up M' p (.dic kvs))⟩ env (up M p (.dif od ws kvs))
theorem as_lock {st : Stmt} {i : Nat} {t : ATS} (h : AS X W st t) : AS X W st (aLock i t) := PS.imp (ps_lock h) fun Dc σ H z => by
  obtain ⟨ax, env, M, D, S, ⟨p, kvs, he, m, q⟩, k⟩ := z
  obtain ⟨ws, h1, r⟩ := S.abs p _ m
  refine ⟨p, .dK ws, h1, trivial, fun od => ?_⟩
  have t1 : Tr X.K M H (up M p (.dif od ws kvs)) (upd H p (.frz od (.dK ws))) := Tr.lock S.abs m h1 r
  have fin : ∀ {M' : Sto} {H' : Hp}, Tr X.K (up M p (.dif od ws kvs)) (upd H p (.frz od (.dK ws))) M' H' → M' p = some (.dif od ws kvs) → H' p = some (.frz od (.dK ws)) ∧ Tr X.K M' H' (up M' p (.dic kvs)) (upd H' p (.dK ws)) ∧ Tr X.K M H (up M' p (.dic kvs)) (upd H' p (.dK ws)) := by
    intro M' H' t2 m2
    obtain ⟨h2, t3⟩ := Tr.unlock t2.abs m2
    exact ⟨h2, t3, t1.trans (t2.trans t3)⟩
  refine ⟨ax, env, _, _, S.next t1, q od ws, ⟨fun σ' H' env' M' t2 rs z => ?_, fun σ' H' env' M' t2 rs z => ?_, fun σ' H' env' M' t2 rs z => ?_, fun v H' d M' t2 rv z => ?_⟩⟩
  · obtain ⟨h2, t3, t4⟩ := fin t2 z.1
    exact ⟨h2, k.nx _ _ env' _ t4 (t3.repS t2.abs rs) z.2⟩
  · obtain ⟨h2, t3, t4⟩ := fin t2 z.1
    exact ⟨h2, k.bk _ _ env' _ t4 (t3.repS t2.abs rs) z.2⟩
  · obtain ⟨h2, t3, t4⟩ := fin t2 z.1
    exact ⟨h2, k.ct _ _ env' _ t4 (t3.repS t2.abs rs) z.2⟩
  · obtain ⟨h2, t3, t4⟩ := fin t2 z.1
    exact ⟨h2, k.rt _ _ d _ t4 (t3.rep t2.abs rv) z.2⟩
def keyB : Key → D
  | .inl i => .int i
  | .inr s => .str s
theorem keyB_rep {H : Hp} (k : Key) : Rep K H (keyB k) (kV k) := by cases k <;> rfl
/-- for k in d, d locked -/
def aIDif (a : ATE) : ATI := fun ax env M R => a ax env M fun x M1 => match x with
  | .obj p => ∃ od ws kvs, M1 p = some (.dif od ws kvs) ∧ R (kvs.map fun kv => keyB kv.1) (fun M => M p = some (.dif od ws kvs)) M1
  | _ => False
theorem keys_get {K : PySem.W.Frag} {H : Hp} : ∀ {kvs : List (Key × D)} {ws : List (Key × V)}, RepK K H kvs ws → kvs.length = ws.length ∧ ∀ (i : Nat) (d : D), (kvs.map fun kv => keyB kv.1)[i]? = some d → ∃ (k : Key) (v : V), ws[i]? = some (k, v) ∧ d = keyB k
  | [], _, .nil => ⟨rfl, fun i d h => by simp at h⟩
  | (k, d0) :: kvs, (k2, v) :: ws, .cons ⟨e, _⟩ h => by
    obtain ⟨l, g⟩ := keys_get h
    cases (show k = k2 from e)
    refine ⟨by rw [List.length_cons, List.length_cons, l], fun i d h2 => ?_⟩
    cases i with
    | zero => exact ⟨k, v, rfl, (Option.some.inj h2).symm⟩
    | succ i => exact g i d h2
theorem itsim_dif {p : Addr} {od : Obj} {ws : List (Key × V)} {kvs : List (Key × D)} {M1 : Sto} {H1 : Hp} : ItSim K (Itk p od ws) (kvs.map fun kv => keyB kv.1) (fun M => M p = some (.dif od ws kvs)) M1 H1 := fun i M H t m => by
  obtain ⟨h, r⟩ := t.abs p _ m
  obtain ⟨l, g⟩ := keys_get r
  refine ⟨fun d e => ?_, fun e => ?_⟩
  · obtain ⟨k, v, e2, rfl⟩ := g i d e
    refine ⟨⟨h, (List.getElem?_eq_some_iff.mp e2).1⟩, fun x H' y => ?_⟩
    obtain ⟨rfl, k', v', e3, rfl⟩ := y
    rw [e2] at e3
    cases e3
    exact ⟨Tr.refl t.abs, keyB_rep k⟩
  · refine ⟨h, ?_⟩
    rw [← l]
    have z := List.getElem?_eq_none_iff.mp e
    rw [List.length_map] at z
    exact z
theorem ai_dif {tg e : Expr} {a : ATE} (ha : AE X W e a) : AI X W tg e (aIDif a) := PI.imp (pi_keys ha) fun σ H R h => by
  obtain ⟨ax, env, M, Ra, S, q, k⟩ := h
  refine ⟨ax, env, M, _, S, q, fun x H1 dx M1 t r q => ?_⟩
  cases dx with
  | obj p =>
    obtain ⟨od, ws, kvs, m, q⟩ := q
    cases (show x = V.ref p from r)
    obtain ⟨h, _⟩ := t.abs p _ m
    exact ⟨p, od, rfl, .inl ⟨ws, h, k _ _ _ M1 H1 t itsim_dif q⟩⟩
  | _ => exact q.elim
/-- d[y], d locked -/
def ρDGetF : AR2 := fun x y M Q => match x with
  | .obj p => ∃ od ws kvs, M p = some (.dif od ws kvs) ∧ optAt (keyD y) fun k => optAt (valA kvs k) fun d => Q d M
  | _ => False
theorem ae_dgetF {o i : Expr} {α β : ATE} {pos : Pos} (hu : X.A.units + 1 < cLine) (ho : AE X W o α) (hi : AE X W i β) (hs : NoSl i) : AE X W (.Subscript o i pos) (aOp ρDGetF α β) := PE.imp (pe_dget hu ho hi hs) fun σ H Q h => by
  refine s_op (r := fun x y H Q => ∃ a v, x = .ref a ∧ DGet H a y (some v) ∧ Q v H) (ρ := ρDGetF) (fun x y dx dy H M Q Qc ab rx ry q k => ?_) h
  cases dx with
  | obj a =>
    obtain ⟨od, ws, kvs, m, q⟩ := q
    obtain ⟨key, e, q⟩ := optAt_ex q
    obtain ⟨d, g, q⟩ := optAt_ex q
    cases (show x = V.ref a from rx)
    obtain ⟨h1, hv⟩ := ab a _ m
    obtain ⟨v, e2, r⟩ := (valA_rep key hv).1 d g
    refine ⟨a, v, rfl, ?_, k v H d M (Tr.refl ab) r q⟩
    rw [key_rep ry e]
    exact .inl ⟨ws, key, .inr ⟨od, h1⟩, rfl, e2.symm⟩
  | _ => exact False.elim q
end

/-! x in a tuple of data -/
def rInTD (K : PySem.W.Frag) (neg : Bool) : R2 := fun x y H Q => ∃ d ds, Dp K H x d ∧ Dp K H y (.tuple ds) ∧ SeqAt.shaped d = true ∧ SeqAt.shaped (.tuple ds) = true ∧ Q (.bl (if neg then !(ds.any fun z => PyData.eqv z d) else ds.any fun z => PyData.eqv z d)) H
section
variable {X : Cx} {W : WX} {K : PySem.W.Frag}
theorem op_inTD (hu : X.A.units + 65 < cLine) : OpR X (compareOp .In) (rInTD X.K false) := by
  intro pins s σ H x y v u Q I rx ry h
  obtain ⟨d, ds, hd, he, sd, se, q⟩ := h
  obtain ⟨as, r1⟩ := Dp.reads I d x v hd rx
  obtain ⟨bs, r2⟩ := Dp.reads I (.tuple ds) y u he ry
  exact SeqAt.in_tuple_reads r2 r1 (SeqAt.canLay_of_shaped se) (SeqAt.canLay_of_shaped sd) (PyProof.Rows.room_in_shaped sd hu) ⟨.bl _, H, I, rfl, q⟩
theorem op_notInTD (hu : X.A.units + 65 < cLine) : OpR X (compareOp .NotIn) (rInTD X.K true) := by
  intro pins s σ H x y v u Q I rx ry h
  obtain ⟨d, ds, hd, he, sd, se, q⟩ := h
  obtain ⟨as, r1⟩ := Dp.reads I d x v hd rx
  obtain ⟨bs, r2⟩ := Dp.reads I (.tuple ds) y u he ry
  exact SeqAt.notIn_tuple_reads r2 r1 (SeqAt.canLay_of_shaped se) (SeqAt.canLay_of_shaped sd) (PyProof.Rows.room_in_shaped sd hu) ⟨.bl _, H, I, rfl, q⟩
def ρInT (neg : Bool) : AR2 := fun x y M Q => match y with
  | .tup ds => ∃ p ps, x.py = some p ∧ D.pys ds = some ps ∧ SeqAt.shaped p = true ∧ SeqAt.shaped (.tuple ps) = true ∧ Q (.bl (if neg then !(ps.any fun z => PyData.eqv z p) else ps.any fun z => PyData.eqv z p)) M
  | _ => False
theorem sim_inT {neg : Bool} : SimR K (rInTD K neg) (ρInT neg) := by
  intro x y dx dy H M Q Qc ab rx ry q k
  cases dy with
  | tup ds =>
    obtain ⟨p, ps, e1, e2, s1, s2, q⟩ := q
    obtain ⟨a, vs, rfl, hT, hv⟩ := ry
    exact ⟨p, ps, Rep.dp dx x p rx e1, .tup hT (RepL.dp ds vs ps hv e2), s1, s2, k _ H (.bl _) M (Tr.refl ab) rfl q⟩
  | _ => exact q.elim
/-! x is not y, two truth values -/
theorem bool_beq (a b : Bool) : (Value.bool a == Value.bool b) = decide (a = b) := by
  cases a <;> cases b <;> decide
theorem op_isB : OpR X (compareOp .Is) (fun x y H Q => ∃ a b, x = .bl a ∧ y = .bl b ∧ Q (.bl (decide (a = b))) H) := by
  intro pins s σ H x y v u Q I rx ry h
  obtain ⟨a, b, rfl, rfl, q⟩ := h
  cases (show v = Value.bool a from rx)
  cases (show u = Value.bool b from ry)
  exact wpAny_is_plain rfl (fin_bl I q (bool_beq a b).symm)
theorem op_notB : OpR X (compareOp .IsNot) (fun x y H Q => ∃ a b, x = .bl a ∧ y = .bl b ∧ Q (.bl (!decide (a = b))) H) := by
  intro pins s σ H x y v u Q I rx ry h
  obtain ⟨a, b, rfl, rfl, q⟩ := h
  cases (show v = Value.bool a from rx)
  cases (show u = Value.bool b from ry)
  exact wpAny_isNot_plain rfl (fin_bl I q (congrArg not (bool_beq a b).symm))
def ρIsB (neg : Bool) : AR2 := fun x y M Q => match x, y with
  | .bl a, .bl b => Q (.bl (if neg then !decide (a = b) else decide (a = b))) M
  | _, _ => False
theorem sim_isB : SimR K (fun x y H Q => ∃ a b, x = .bl a ∧ y = .bl b ∧ Q (.bl (decide (a = b))) H) (ρIsB false) := by
  intro x y dx dy H M Q Qc ab rx ry q k
  unfold ρIsB at q
  split at q
  · cases (show x = V.bl _ from rx)
    cases (show y = V.bl _ from ry)
    exact ⟨_, _, rfl, rfl, k _ H (.bl _) M (Tr.refl ab) rfl q⟩
  · exact q.elim
theorem sim_notB : SimR K (fun x y H Q => ∃ a b, x = .bl a ∧ y = .bl b ∧ Q (.bl (!decide (a = b))) H) (ρIsB true) := by
  intro x y dx dy H M Q Qc ab rx ry q k
  unfold ρIsB at q
  split at q
  · cases (show x = V.bl _ from rx)
    cases (show y = V.bl _ from ry)
    exact ⟨_, _, rfl, rfl, k _ H (.bl _) M (Tr.refl ab) rfl q⟩
  · exact q.elim
/-! sorted of a list of ints -/
def ρSortI : ARs := fun ds M Q => match ds with
  | [.obj p] => lstAt M p fun ds => ∃ ns : List Int, ds = ns.map D.int ∧ ∀ ys : List Int, ys.Perm ns → ys.Pairwise (· ≤ ·) → New (.lst (ys.map D.int)) M Q
  | _ => False
theorem repL_intsV {H : Hp} : ∀ {ns : List Int} {vs : List V}, RepL K H (ns.map D.int) vs → vs = ns.map V.int
  | [], vs, h => h
  | n :: ns, vs, h => by
    obtain ⟨v, r, rfl, h1, h2⟩ := h
    cases (show v = V.int n from h1)
    rw [repL_intsV h2]
    rfl
theorem sim_sortI : SimC K (rSortedI K) ρSortI := by
  intro vs ds H M Q Qc ab r q k
  unfold ρSortI at q
  split at q
  · rename_i p
    obtain ⟨v, rfl, rv⟩ := repL1 r
    cases (show v = V.ref p from rv)
    obtain ⟨ds, m, q⟩ := lstAt_ex q
    obtain ⟨ns, rfl, q⟩ := q
    obtain ⟨us, h1, ru⟩ := ab p _ m
    rw [repL_intsV ru] at h1
    refine ⟨p, ns, rfl, SqL.of h1, fun ys b pm so hb => ?_⟩
    exact k (.ref b) _ (.obj b) _ (Tr.newM (mo := .lst (ys.map D.int)) ab hb ⟨ys.map V.int, upd_same, of_ints ys⟩) rfl (q ys pm so b (ab.fresh hb))
  · exact q.elim
/-- sorted(set(e)), e a list of ints -/
def aSortSetI (α : ATE) : ATE := fun ax env M Q => α ax env M fun x M1 => match x with
  | .obj p => lstAt M1 p fun ds => ∃ ns : List Int, ds = ns.map D.int ∧ ns.length < 64 ∧ ∀ zs : List Int, zs.Pairwise (· < ·) → (∀ k, k ∈ zs ↔ k ∈ ns) → New (.lst (zs.map D.int)) M1 Q
  | _ => False
theorem ae_sortSetI {e : Expr} {α : ATE} {p p2 pos q2 : Pos} (hc : X.calm = true) (hg1 : Gl X "sorted") (hm1 : X.mg "sorted" = none) (hg2 : Gl X "set") (hm2 : X.mg "set" = none) (ha : AE X W e α)
    (w1 : starEach [.Call (.Name "set" p2) [e] [] q2] X.env = (false, eval (.Call (.Name "set" p2) [e] [] q2) X.env) :: starEach [] X.env := by rfl) (w2 : (backTo pos (starEach [] X.env)).any (·.1) = false := by rfl)
    (w3 : starEach [e] X.env = (false, eval e X.env) :: starEach [] X.env := by rfl) (w4 : (backTo q2 (starEach [] X.env)).any (·.1) = false := by rfl) :
    AE X W (.Call (.Name "sorted" p) [.Call (.Name "set" p2) [e] [] q2] [] pos) (aSortSetI α) :=
  PE.imp (pe_callB (cr_sortedSet hc) hg1 hm1 (by decide +kernel) (pa_cons (pe_callTy (cr_setI hc) hg2 hm2 (by decide +kernel) (pa_cons ha pa_nil w3) (by decide) (by decide) w3 w4) pa_nil w1) (by decide) (by decide) w1 w2) fun σ H Q h => by
    obtain ⟨ax, env, M, Qa, S, q, k⟩ := h
    refine ⟨ax, env, M, _, S, q, fun x H1 dx M1 t1 r q => ?_⟩
    cases dx with
    | obj p =>
      cases (show x = V.ref p from r)
      obtain ⟨ds, m, q⟩ := lstAt_ex q
      obtain ⟨ns, rfl, few, q⟩ := q
      obtain ⟨vs, h1, rv⟩ := t1.abs p _ m
      rw [repL_intsV rv] at h1
      refine ⟨p, ns, rfl, SqL.of h1, by unfold PySem.scanBound; omega, fun a c ha hcl => ?_⟩
      refine ⟨a, _, c, rfl, upd_same, by omega, fun zs b so mem _ hb => ?_⟩
      have t2 : Tr X.K M1 H1 M1 (upd H1 a (SetO X.w a (fun j => decide (j ∈ ns)) c)) := Tr.newT t1.abs ha
      have t3 := Tr.newM (mo := .lst (zs.map D.int)) t2.abs hb ⟨zs.map V.int, upd_same, of_ints zs⟩
      exact k (.ref b) _ (.obj b) _ ((t1.trans t2).trans t3) rfl (q zs so (fun z => (mem z).trans decide_eq_true_iff) b (t2.abs.fresh hb))
    | _ => exact False.elim q
end

/-! t[:0:-1], divmod, texts with values in them, str of an int, len of a dict -/
section
variable {W : WX} {X : Cx} {K : PySem.W.Frag} {e o : Expr} {es : List Expr} {α β : ATE} {τ : ATA} {pos p apos cpos : Pos} {x : Str}
theorem RepL.drop1r {H : Hp} {ds : List D} {vs : List V} (h : RepL K H ds vs) : RepL K H (ds.drop 1).reverse (vs.drop 1).reverse := (h.drop 1).reverse
/-- t[:0:-1], t a tuple -/
def aTailR (a : ATE) : ATE := fun ax env M Q => a ax env M fun x M1 => match x with
  | .tup ds => Q (.tup (ds.drop 1).reverse) M1
  | _ => False
theorem ae_tailR {k j : Nat} {p0 p1 p2 p3 : Pos} (ha : AE X W e α) : AE X W (.Subscript e (.Slice none (some (.Constant (.int 0) j p0)) (some (.UnaryOp .USub (.Constant (.int 1) k p1) p2)) p3) pos) (aTailR α) := PE.imp (pe_tailR ha) fun σ H Q h => by
  obtain ⟨ax, env, M, Qa, S, q, k⟩ := h
  refine ⟨ax, env, M, _, S, q, fun x H1 dx M1 t r q => ?_⟩
  cases dx with
  | tup ds =>
    obtain ⟨a, vs, rfl, hT, hv⟩ := r
    exact ⟨a, vs, rfl, hT, fun o ho => k _ _ (.tup (ds.drop 1).reverse) _ (t.trans (Tr.newT t.abs ho)) (rep_newT ho hv.drop1r) q⟩
  | _ => exact False.elim q
/-- divmod -/
def ρDivmod : ARs := fun ds M Q => match ds with
  | [.int i, .int j] => CDiv i j ∧ Q (.tup [.int (i / j), .int (i % j)]) M
  | _ => False
theorem sim_divmod : SimC K (fun xs H Q => ∃ i j, xs = [.int i, .int j] ∧ CDiv i j ∧ ∀ p, H p = none → Q (.ref p) (upd H p (.tup [.int (i / j), .int (i % j)]))) ρDivmod := by
  intro xs ds H M Q Qc ab rx q k
  unfold ρDivmod at q
  split at q
  · rename_i i j
    obtain ⟨v, w, rfl, r1, r2⟩ := repL2 rx
    cases (show v = V.int i from r1)
    cases (show w = V.int j from r2)
    exact ⟨i, j, rfl, q.1, fun p hp => k _ _ (.tup [.int (i / j), .int (i % j)]) M (Tr.newT ab hp) (rep_newT hp ⟨_, _, rfl, rfl, _, _, rfl, rfl, rfl⟩) q.2⟩
  · exact q.elim
/-- str(i) -/
def ρStrI : ARs := fun ds M Q => match ds with
  | [.int i] => i.natAbs.log2 < 1920 ∧ Q (.str (toString i)) M
  | _ => False
theorem sim_strI : SimC K (fun xs H Q => ∃ i, xs = [.int i] ∧ i.natAbs.log2 < 1920 ∧ Q (.str (toString i)) H) ρStrI := by
  intro xs ds H M Q Qc ab rx q k
  unfold ρStrI at q
  split at q
  · rename_i i
    obtain ⟨v, rfl, r1⟩ := repL1 rx
    cases (show v = V.int i from r1)
    exact ⟨i, rfl, q.1, k _ _ (.str (toString i)) M (Tr.refl ab) rfl q.2⟩
  · exact q.elim
/-- len(d), d a dict -/
def ρLenD : ARs := fun ds M Q => match ds with
  | [.obj p] => dicAt M p fun kvs => Q (.int kvs.length) M
  | _ => False
theorem sim_lenD : SimC K (fun xs H Q => ∃ a kvs, xs = [V.ref a] ∧ H a = some (.dK kvs) ∧ Q (.int kvs.length) H) ρLenD := by
  intro xs ds H M Q Qc ab rx q k
  unfold ρLenD at q
  split at q
  · rename_i p
    obtain ⟨v, rfl, r1⟩ := repL1 rx
    cases (show v = V.ref p from r1)
    obtain ⟨kvs, m, q⟩ := dicAt_ex q
    obtain ⟨ws, h1, hv⟩ := ab p _ m
    refine ⟨p, ws, rfl, h1, ?_⟩
    rw [← hv.length]
    exact k _ _ (.int kvs.length) M (Tr.refl ab) rfl q
  · exact q.elim
/-- one part of a text with values in it -/
def aFmt (a : ATE) : ATE := fun ax env M Q => a ax env M fun x M1 => match x with
  | .str y => y.length ≤ sizeLine ∧ Q (.str y) M1
  | .int i => i.natAbs.log2 < 1920 ∧ Q (.str (toString i)) M1
  | _ => False
theorem ae_fmt (ha : AE X W e α) : AE X W (.FormattedValue e (-1) none pos) (aFmt α) := PE.imp (pe_fmt ha) fun σ H Q h => by
  obtain ⟨ax, env, M, Qa, S, q, k⟩ := h
  refine ⟨ax, env, M, _, S, q, fun x H1 dx M1 t r q => ?_⟩
  cases dx with
  | str y =>
    cases (show x = V.str y from r)
    exact .inl ⟨y, rfl, q.1, k _ _ (.str y) _ t rfl q.2⟩
  | int i =>
    cases (show x = V.int i from r)
    exact .inr ⟨i, rfl, q.1, k _ _ (.str (toString i)) _ t rfl q.2⟩
  | _ => exact False.elim q
/-- a text of two parts -/
def aFs2 (a b : ATE) : ATE := fun ax env M Q => a ax env M fun x M1 => match x with
  | .str y => y.length ≤ sizeLine ∧ b ax env M1 fun x2 M2 => match x2 with
    | .str z => (y ++ z).length ≤ sizeLine ∧ Q (.str (y ++ z)) M2
    | _ => False
  | _ => False
theorem str_empty_app (y : Str) : Str.empty ++ y = y := by
  cases y with
  | mk a => show Str.mk (#[] ++ a) = _; rw [Array.empty_append]
theorem ae_fs2 {e2 : Expr} (ha : AE X W e α) (hb : AE X W e2 β) : AE X W (.JoinedStr [e, e2] pos) (aFs2 α β) := PE.imp (pe_joined (.cons ha (.cons hb .nil))) fun σ H Q h => by
  obtain ⟨ax, env, M, Qa, S, q, k⟩ := h
  refine ⟨ax, env, M, _, S, q, fun x H1 dx M1 t r q => ?_⟩
  cases dx with
  | str y =>
    cases (show x = V.str y from r)
    refine ⟨y, rfl, by rw [str_empty_app]; exact q.1, ax, env, M1, _, S.next t, q.2, fun x2 H2 dx2 M2 t2 r2 q2 => ?_⟩
    cases dx2 with
    | str z =>
      cases (show x2 = V.str z from r2)
      refine ⟨z, rfl, by rw [str_empty_app]; exact q2.1, ?_⟩
      show Q (.str ((Str.empty ++ y) ++ z)) H2
      rw [str_empty_app]
      exact k _ _ (.str (y ++ z)) _ (t.trans t2) rfl q2.2
    | _ => exact False.elim q2
  | _ => exact False.elim q
/-- a global text -/
theorem ae_gstr {z : Str} {t : Tok} (hg : Gl X x) (hm : X.mg x = some (.str z t)) (hd : (x == ("__debug__" : Str)) = false := by decide) : AE X W (.Name x pos) (aC (.str z)) :=
  ae_glob (d := .str z) (v := .str z) hg hm ⟨t, rfl⟩ (fun _ => rfl) hd
end

def z_letter : Str := "letter"
def z_abcdefgh : Str := "abcdefgh"
def z_not : Str := "not"
def z_if : Str := "if"
def z_a : Str := "a"
def z_b : Str := "b"
def z_z : Str := "z"
def z_c7 : Str := "c7"
def z_a0 : Str := "a0"
def z_m9 : Str := "m9"
def z_c : Str := "c"
def z_d : Str := "d"
def z_e : Str := "e"
def z_f : Str := "f"
def z_g : Str := "g"
def z_h : Str := "h"
def z__28_ : Str := "("
def z__29_ : Str := ")"
def z__7e_ : Str := "~"
def z__20__2d__3e__20_ : Str := " -> "
theorem zln : (z_letter = z_not) = False := eq_false (by decide +kernel)
theorem znl : (z_not = z_letter) = False := eq_false (by decide +kernel)
theorem zli : (z_letter = z_if) = False := eq_false (by decide +kernel)
theorem zil : (z_if = z_letter) = False := eq_false (by decide +kernel)
theorem zni : (z_not = z_if) = False := eq_false (by decide +kernel)
theorem zin : (z_if = z_not) = False := eq_false (by decide +kernel)

/-! Evaluation of readings by rewriting, and the relations of stores. -/
section
variable {ax : AX} {De : AEnds} {env : AEnv} {M : Sto} {Q : D → Sto → Prop} {R : Bool → Sto → Prop} {L : List D → Sto → Prop} {N : AEnv → Sto → Prop} {d x y : D} {o : Option D} {α β γ : ATE} {A B : ATT} {t u : ATS} {τ : ATA} {g : ATG} {ρ : AR2} {i : Nat}
theorem e_seq : aSeq t u ax De env M = t ax ⟨u ax De, De.rt, De.bk, De.ct⟩ env M := rfl
theorem e_next : aNext ax De env M = De.nx env M := rfl
theorem e_break : aBreak ax De env M = De.bk env M := rfl
theorem e_cont : aCont ax De env M = De.ct env M := rfl
theorem e_expr : aExpr α ax De env M = α ax env M (fun _ M1 => De.nx env M1) := rfl
theorem e_ret : aRet α ax De env M = α ax env M De.rt := rfl
theorem e_retN : aRetN ax De env M = De.rt .non M := rfl
theorem e_if : aIf A t u ax De env M = A ax env M (fun b M1 => if b = true then t ax De env M1 else u ax De env M1) := rfl
theorem e_never : aNever ax De env M = False := rfl
theorem e_asg : aAsg α g ax De env M = α ax env M (fun d M1 => g d ax env M1 De.nx) := rfl
theorem e_name : agName i d ax env M N = N (env.set i (some d)) M := rfl
theorem e_agtup {n : Nat} {gs : ATGs} {ds : List D} : agTup n gs (.tup ds) ax env M N = (ds.length = n ∧ gs ds ax env M N) := rfl
theorem e_agcons {gs : ATGs} {ds : List D} : agCons g gs (d :: ds) ax env M N = g d ax env M (fun env1 M1 => gs ds ax env1 M1 N) := rfl
theorem e_agnil : agNil [] ax env M N = N env M := rfl
theorem e_agsub : agSub α β d ax env M N = α ax env M (fun x M1 => β ax env M1 fun y M2 => match x, y with
  | .obj p, .int i => lstAt M2 p fun ds => optAt (ixN ds.length i) fun j => N env (up M2 p (.lst (ds.set j d)))
  | _, _ => False) := rfl
theorem e_aug : aAug ρ i α ax De env M = optAt env[i]? fun o => optAt o fun x => α ax env M fun y M1 => ρ x y M1 fun z M2 => De.nx (env.set i (some z)) M2 := rfl
theorem e_dput : aDPut α β γ ax De env M = γ ax env M fun z M1 => α ax env M1 fun x M2 => β ax env M2 fun y M3 => match x with
  | .obj p => dicAt M3 p fun kvs => optAt (keyD y) fun k => kvs.length < sizeLine ∧ De.nx env (up M3 p (.dic (putA kvs k z)))
  | _ => False := rfl
theorem e_var : aVar i ax env M Q = optAt env[i]? fun o => optAt o fun d => Q d M := rfl
theorem e_c : aC d ax env M Q = Q d M := rfl
theorem e_op : aOp ρ α β ax env M Q = α ax env M fun x M1 => β ax env M1 fun y M2 => ρ x y M2 Q := rfl
theorem e_some {α : Type} {x : α} {k : α → Prop} : optAt (some x) k = k x := rfl
theorem e_none {α : Type} {k : α → Prop} : optAt none k = False := rfl
theorem e_test : aTest α ax env M R = α ax env M fun x M1 => match x with
  | .bl b => R b M1
  | _ => False := rfl
theorem e_and : aAnd A B ax env M R = A ax env M fun c M1 => if c = true then B ax env M1 R else R false M1 := rfl
theorem e_or : aOr A B ax env M R = A ax env M fun c M1 => if c = true then R true M1 else B ax env M1 R := rfl
theorem e_not : aNot A ax env M R = A ax env M fun c M1 => R (!c) M1 := rfl
theorem e_yes : aYes ax env M R = R true M := rfl
theorem e_truth : aTruth α ax env M R = α ax env M fun x M1 => aTru1 x M1 fun b => R b M1 := by
  unfold aTruth
  congr 1
theorem e_tru_bl {b : Bool} {P : Bool → Prop} : aTru1 (.bl b) M P = P b := rfl
theorem e_tru_int {i : Int} {P : Bool → Prop} : aTru1 (.int i) M P = P (i != 0) := rfl
theorem e_tru_non {P : Bool → Prop} : aTru1 .non M P = P false := rfl
theorem e_tru_str {z : Str} {P : Bool → Prop} : aTru1 (.str z) M P = (z.length ≤ sizeLine ∧ P ((z.length : Int) != 0)) := rfl
theorem e_tru_tup {ds : List D} {P : Bool → Prop} : aTru1 (.tup ds) M P = P (!ds.isEmpty) := rfl
theorem e_tru_obj {p : Addr} {P : Bool → Prop} : aTru1 (.obj p) M P = (match M p with
    | some (.lst ds) => P (!ds.isEmpty)
    | some (.dic kvs) => P (!kvs.isEmpty)
    | _ => False) := rfl
theorem e_chain {ρ' : AR2} : aChain ρ ρ' α β γ ax env M Q = α ax env M fun x M1 => β ax env M1 fun y M2 => ρ x y M2 fun z M3 => match z with
  | .bl k => if k = true then γ ax env M3 fun w M4 => ρ' y w M4 Q else Q (.bl false) M3
  | _ => False := rfl
theorem e_orV : aOrV α β ax env M Q = α ax env M fun x M1 => aTru1 x M1 fun k => if k = true then Q x M1 else β ax env M1 Q := rfl
theorem e_andV : aAndV α β ax env M Q = α ax env M fun x M1 => aTru1 x M1 fun k => if k = true then β ax env M1 Q else Q x M1 := rfl
theorem e_notV : aNotV α ax env M Q = α ax env M fun x M1 => aTru1 x M1 fun k => Q (.bl (!k)) M1 := rfl
theorem e_ifE : aIfE A α β ax env M Q = A ax env M fun c M1 => if c = true then α ax env M1 Q else β ax env M1 Q := rfl
theorem e_neg : aNeg α ax env M Q = α ax env M fun x M1 => match x with
  | .int i => Q (.int (-i)) M1
  | _ => False := rfl
theorem e_nil : aNil ax env M L = L [] M := rfl
theorem e_cons : aCons α τ ax env M L = α ax env M fun x M1 => τ ax env M1 fun xs M2 => L (x :: xs) M2 := rfl
theorem e_tup : aTup τ ax env M Q = τ ax env M fun ds M1 => ds.length ≤ sizeLine ∧ Q (.tup ds) M1 := rfl
theorem e_lst : aLst τ ax env M Q = τ ax env M fun ds M1 => ds.length ≤ sizeLine ∧ New (.lst ds) M1 Q := rfl
theorem e_dnew : aDNew ax env M Q = New (.dic []) M Q := rfl
theorem e_call {n : Nat} {S : ASp} : aCall n S τ ax env M Q = τ ax env M fun ds M1 => Wait n S ds M1 Q := rfl
theorem e_cb {r : ARs} : aCB r τ ax env M Q = τ ax env M fun ds M1 => r ds M1 Q := rfl
theorem e_isi {T : String} : aIsi T α ax env M Q = α ax env M fun x M1 => optAt (kitB (tyN M1 x) T) fun b => Q (.bl b) M1 := rfl
theorem e_sl {l h : ATO} : aSl α l h ax env M Q = α ax env M fun x M1 => l ax env M1 fun lo M2 => h ax env M2 fun hi M3 => match x with
  | .tup ds => Q (.tup (cutL ds lo hi)) M3
  | .str z => z.length ≤ sizeLine ∧ Q (.str (cutS z lo hi)) M3
  | .obj p => lstAt M3 p fun ds => New (.lst (cutL ds lo hi)) M3 Q
  | _ => False := rfl
theorem e_onone {P : Option Int → Sto → Prop} : aONone ax env M P = P none M := rfl
theorem e_osome {P : Option Int → Sto → Prop} : aOSome α ax env M P = α ax env M fun x M1 => match x with
  | .int i => P (some i) M1
  | _ => False := rfl
theorem e_rev : aRev α ax env M Q = α ax env M fun x M1 => match x with
  | .obj p => lstAt M1 p fun ds => New (.lst ds.reverse) M1 Q
  | _ => False := rfl
theorem e_lm {r : Addr → List D → List D → Sto → (D → Sto → Prop) → Prop} : aLm r α τ ax env M Q = α ax env M fun x M1 => match x with
  | .obj p => lstAt M1 p fun _ => τ ax env M1 fun xs M2 => lstAt M2 p fun ds => r p ds xs M2 Q
  | _ => False := rfl
theorem e_append {p : Addr} {ds : List D} : ρAppend p ds [x] M Q = (ds.length < sizeLine ∧ Q .non (up M p (.lst (ds ++ [x])))) := rfl
theorem e_extend {p q : Addr} {ds : List D} : ρExtend p ds [.obj q] M Q = lstAt M q fun es => ds.length + es.length ≤ sizeLine ∧ Q .non (up M p (.lst (ds ++ es))) := rfl
theorem e_pop : aPop α ax env M Q = α ax env M fun x M1 => match x with
  | .obj p => lstAt M1 p fun ds => optAt ds.getLast? fun d => Q d (up M1 p (.lst ds.dropLast))
  | _ => False := rfl
theorem e_join : aJoin α β ax env M Q = α ax env M fun x M1 => match x with
  | .str z => β ax env M1 fun y M2 => optAt (strsM M2 y) fun xs => (xs.map (·.length)).sum + xs.length * z.length ≤ 16777216 ∧ Q (.str (Txt.join z xs)) M2
  | _ => False := rfl
theorem e_dget2 : aDGet2 α β γ ax env M Q = α ax env M fun x M1 => match x with
  | .obj p => dicAt M1 p fun _ => β ax env M1 fun y M2 => γ ax env M2 fun z M3 => dicAt M3 p fun kvs => optAt (keyD y) fun k => Q ((valA kvs k).getD z) M3
  | _ => False := rfl
theorem e_sortSet : aSortSet α ax env M Q = α ax env M fun x M1 => match x with
  | .obj p => lstAt M1 p fun ds => optAt (strsOf ds) fun xs => xs.length ≤ 4000 ∧ ∀ ys : List Str, ys.Nodup → (∀ k, k ∈ ys ↔ k ∈ xs) → PyProof.Rows.sortedS ys = true → New (.lst (ys.map D.str)) M1 Q
  | _ => False := rfl
theorem e_sortS {p : Addr} : ρSortS [.obj p] M Q = lstAt M p fun ds => optAt (strsOf ds) fun xs => xs.length < 64 ∧ ∀ ys : List Str, ys.Perm xs → PyProof.Rows.sortedS ys = true → New (.lst (ys.map D.str)) M Q := rfl
theorem e_setd : aSetd α β γ ax env M Q = α ax env M fun x M1 => match x with
  | .obj p => dicAt M1 p fun _ => β ax env M1 fun y M2 => γ ax env M2 fun z M3 => dicAt M3 p fun kvs => optAt (keyD y) fun k => kvs.length < sizeLine ∧ match valA kvs k with
    | some v => Q v M3
    | none => Q z (up M3 p (.dic (putA kvs k z)))
  | _ => False := rfl
theorem e_maxI {p : Addr} : ρMaxI [.obj p] M Q = lstAt M p fun ds => optAt (intsOf ds) fun xs => 0 < xs.length ∧ ∀ m, m ∈ xs → (∀ y, y ∈ xs → y ≤ m) → Q (.int m) M := rfl
theorem e_disp {prs : List (Str × ATE)} : aDisp prs ax env M Q = ∀ p, M p = none → aPairs prs ax env (up M p (.dic [])) fun kvs M2 => M2 p = some (.dic []) ∧ kvs.length ≤ 15 ∧ Q (.obj p) (up M2 p (.dic (mergeA [] kvs))) := rfl
theorem e_pairN {P : List (Key × D) → Sto → Prop} : aPairs [] ax env M P = P [] M := rfl
theorem e_pairC {P : List (Key × D) → Sto → Prop} {s : Str} {r : List (Str × ATE)} : aPairs ((s, α) :: r) ax env M P = α ax env M fun y M1 => aPairs r ax env M1 fun kvs M2 => P ((.inr s, y) :: kvs) M2 := rfl
theorem e_while : aWhile A t ax De env M = ∃ n, aWhileN A t ax De n env M := rfl
theorem e_for {ι : ATI} : aFor ι g t ax De env M = ι ax env M fun items chk M1 => aForGo chk g t ax De items env M1 := rfl
theorem e_forN {chk : Sto → Prop} : aForGo chk g t ax De [] env M = (chk M ∧ De.nx env M) := rfl
theorem e_forC {chk : Sto → Prop} {r : List D} : aForGo chk g t ax De (d :: r) env M = (chk M ∧ g d ax env M fun env1 M1 => t ax ⟨aForGo chk g t ax De r, De.rt, De.nx, aForGo chk g t ax De r⟩ env1 M1) := rfl
theorem e_ilist {P : List D → (Sto → Prop) → Sto → Prop} : aIList α ax env M P = α ax env M fun x M1 => match x with
  | .obj p => lstAt M1 p fun ds => P ds (fun M => M p = some (.lst ds)) M1
  | _ => False := rfl
theorem e_itup {P : List D → (Sto → Prop) → Sto → Prop} : aITup α ax env M P = α ax env M fun x M1 => match x with
  | .tup ds => P ds (fun _ => True) M1
  | _ => False := rfl
theorem e_rng1 {P : List D → (Sto → Prop) → Sto → Prop} : aIRng1 τ ax env M P = τ ax env M fun ds M1 => match ds with
  | [.int j] => -(2 ^ 62) ≤ j ∧ j < 2 ^ 62 ∧ P (rngD 0 j.toNat) (fun _ => True) M1
  | _ => False := rfl
theorem e_rng2 {P : List D → (Sto → Prop) → Sto → Prop} : aIRng2 τ ax env M P = τ ax env M fun ds M1 => match ds with
  | [.int i, .int j] => (-(2 ^ 62) ≤ i ∧ i < 2 ^ 62 ∧ -(2 ^ 62) ≤ j ∧ j < 2 ^ 62) ∧ P (rngD i (j - i).toNat) (fun _ => True) M1
  | _ => False := rfl
theorem e_lc {ι : ATI} {e : ATE} : aLc ι i A e ax env M Q = ι ax env M fun items chk M1 => items.length ≤ 1000000 ∧ aLcGo chk i A e ax env items [] M1 fun acc M2 => New (.lst acc) M2 Q := rfl
theorem e_lc2 {ι : ATI} {e : ATE} {j : Nat} : aLc2 ι i j A e ax env M Q = ι ax env M fun items chk M1 => i ≠ j ∧ items.length ≤ 1000000 ∧ aLc2Go chk i j A e ax env items [] M1 fun acc M2 => New (.lst acc) M2 Q := rfl
theorem e_lc2N {chk : Sto → Prop} {e : ATE} {acc : List D} {j : Nat} : aLc2Go chk i j A e ax env [] acc M L = (chk M ∧ L acc M) := rfl
theorem e_ienum {P : List D → (Sto → Prop) → Sto → Prop} : aIEnum τ ax env M P = τ ax env M fun ds M1 => match ds with
  | [.tup ds] => P (enumD 0 ds) (fun _ => True) M1
  | [.obj p] => lstAt M1 p fun ds => P (enumD 0 ds) (fun M => M p = some (.lst ds)) M1
  | _ => False := rfl
theorem e_izip {P : List D → (Sto → Prop) → Sto → Prop} : aIZip τ ax env M P = τ ax env M fun ds M1 => match ds with
  | [.tup ds, .tup es] => P (zipD ds es) (fun _ => True) M1
  | [.obj p, .obj q] => lstAt M1 p fun ds => lstAt M1 q fun es => P (zipD ds es) (fun M => M p = some (.lst ds) ∧ M q = some (.lst es)) M1
  | _ => False := rfl
theorem e_anyB {p : Addr} : ρAny [.obj p] M Q = lstAt M p fun ds => optAt (blsOf ds) fun bs => Q (.bl (bs.any id)) M := rfl
theorem e_allB {p : Addr} : ρAll [.obj p] M Q = lstAt M p fun ds => optAt (blsOf ds) fun bs => Q (.bl (bs.all id)) M := rfl
theorem e_mulS {z : Str} {k : Int} : ρMulS (.str z) (.int k) M Q = (0 ≤ k ∧ k ≤ 1000 ∧ z.length ≤ 1000 ∧ Q (.str (EN.reps z k.toNat)) M) := rfl
theorem e_set0 {w : World} : aSet0 w ax env M Q = ∀ p, M p = none → Q (.obj p) (up M p (.raw (SetTx w p []))) := rfl
theorem e_sadd {w : World} : aSAdd w α τ ax env M Q = α ax env M fun x M1 => match x with
  | .obj p => (∃ ks, M1 p = some (.raw (SetTx w p ks))) ∧ τ ax env M1 fun xs M2 => match xs with
    | [.str k] => ∃ ks, M2 p = some (.raw (SetTx w p ks)) ∧ ks.length ≤ 4000 ∧ Q .non (up M2 p (.raw (SetTx w p (if k ∈ ks then ks else k :: ks))))
    | _ => False
  | _ => False := rfl
theorem e_sortTx {w : World} {p : Addr} : ρSortTx w [.obj p] M Q = ∃ ks, M p = some (.raw (SetTx w p ks)) ∧ ∀ ys : List Str, ys.Perm ks → PyProof.Rows.sortedS ys = true → New (.lst (ys.map D.str)) M Q := rfl
theorem e_sortD {p : Addr} : ρSortD [.obj p] M Q = dicAt M p fun kvs => ∃ ks : List Str, kvs.map (·.1) = ks.map Sum.inr ∧ ks.length < 64 ∧ ∀ ys : List Str, ys.Perm ks → PyProof.Rows.sortedS ys = true → New (.lst (ys.map D.str)) M Q := rfl
theorem e_repr : ρRepr [d] M Q = ∃ p, isRef d = true ∧ pyM2 M d = some p ∧ p.showable = true ∧ p.hasDict = false ∧ p.depth ≤ 64 ∧ p.shown.length ≤ sizeLine ∧ Q (.str p.shown) M := rfl
theorem e_lcN {chk : Sto → Prop} {e : ATE} {acc : List D} : aLcGo chk i A e ax env [] acc M L = (chk M ∧ L acc M) := rfl
theorem e_lcC {chk : Sto → Prop} {e : ATE} {acc r : List D} : aLcGo chk i A e ax env (d :: r) acc M L = (chk M ∧ A ax (env.set i (some d)) M fun b M1 => if b = true then e ax (env.set i (some d)) M1 fun y M2 => aLcGo chk i A e ax env r (acc ++ [y]) M2 L else aLcGo chk i A e ax env r acc M1 L) := rfl
/-! operators by shape -/
theorem e_add_int {i j : Int} : ρAdd (.int i) (.int j) M Q = Q (.int (i + j)) M := rfl
theorem e_add_str {i j : Str} : ρAdd (.str i) (.str j) M Q = (i.length + j.length ≤ sizeLine ∧ Q (.str (i ++ j)) M) := rfl
theorem e_add_tup {i j : List D} : ρAdd (.tup i) (.tup j) M Q = (i.length + j.length ≤ sizeLine ∧ Q (.tup (i ++ j)) M) := rfl
theorem e_add_obj {p q : Addr} : ρAdd (.obj p) (.obj q) M Q = lstAt M p fun ds => lstAt M q fun es => ds.length + es.length ≤ sizeLine ∧ New (.lst (ds ++ es)) M Q := rfl
theorem e_iadd_int {i j : Int} : ρIAdd (.int i) (.int j) M Q = Q (.int (i + j)) M := rfl
theorem e_iadd_str {i j : Str} : ρIAdd (.str i) (.str j) M Q = (i.length + j.length ≤ sizeLine ∧ Q (.str (i ++ j)) M) := rfl
theorem e_iadd_obj {p q : Addr} : ρIAdd (.obj p) (.obj q) M Q = lstAt M p fun ds => lstAt M q fun es => ds.length + es.length ≤ sizeLine ∧ Q (.obj p) (up M p (.lst (ds ++ es))) := rfl
theorem e_I {C : Int → Int → Prop} {f : Int → Int → D} {i j : Int} : ρI C f (.int i) (.int j) M Q = (C i j ∧ Q (f i j) M) := rfl
theorem e_I0 {f : Int → Int → D} {i j : Int} : ρI0 f (.int i) (.int j) M Q = Q (f i j) M := rfl
theorem e_IS_int {f : Int → Int → Bool} {h : Str → Str → Bool} {i j : Int} : ρIS f h (.int i) (.int j) M Q = Q (.bl (f i j)) M := rfl
theorem e_IS_str {f : Int → Int → Bool} {h : Str → Str → Bool} {i j : Str} : ρIS f h (.str i) (.str j) M Q = Q (.bl (h i j)) M := rfl
theorem e_eq_str {i j : Str} : ρEq false (.str i) (.str j) M Q = Q (.bl (decide (i = j))) M := rfl
theorem e_ne_str {i j : Str} : ρEq true (.str i) (.str j) M Q = Q (.bl (!decide (i = j))) M := rfl
theorem e_eq_int {i j : Int} : ρEq false (.int i) (.int j) M Q = Q (.bl (decide (i = j))) M := rfl
theorem e_ne_int {i j : Int} : ρEq true (.int i) (.int j) M Q = Q (.bl (!decide (i = j))) M := rfl
theorem e_eq_bl {i j : Bool} : ρEq false (.bl i) (.bl j) M Q = Q (.bl (decide (i = j))) M := rfl
theorem e_ne_bl {i j : Bool} : ρEq true (.bl i) (.bl j) M Q = Q (.bl (!decide (i = j))) M := rfl
theorem e_isN : ρIsN false x .non M Q = Q (.bl (isNon x)) M := by
  unfold ρIsN
  exact propext ⟨fun h => h.2, fun h => ⟨rfl, h⟩⟩
theorem e_notN : ρIsN true x .non M Q = Q (.bl (!isNon x)) M := by
  unfold ρIsN
  exact propext ⟨fun h => h.2, fun h => ⟨rfl, h⟩⟩
theorem e_ix_tup {ds : List D} {i : Int} : ρIx (.tup ds) (.int i) M Q = optAt (atI ds i) fun d => Q d M := rfl
theorem e_ix_fl {ds : List D} {i : Int} : ρIx (.fl ds) (.int i) M Q = optAt (atI ds i) fun d => Q d M := rfl
theorem e_ix_str {z : Str} {i : Int} : ρIx (.str z) (.int i) M Q = (z.length ≤ sizeLine ∧ optAt (atI z.cps.toList i) fun c => Q (.str ⟨#[c]⟩) M) := rfl
theorem e_ix_obj {p : Addr} {i : Int} : ρIx (.obj p) (.int i) M Q = lstAt M p fun ds => optAt (atI ds i) fun d => Q d M := rfl
theorem e_in_tup {ds : List D} : ρIn false x (.tup ds) M Q = (flatD x = true ∧ ds.all flatD = true ∧ Q (.bl (ds.any fun y => eqF y x)) M) := rfl
theorem e_nin_tup {ds : List D} : ρIn true x (.tup ds) M Q = (flatD x = true ∧ ds.all flatD = true ∧ Q (.bl (!ds.any fun y => eqF y x)) M) := rfl
theorem e_len_tup {ds : List D} : ρLen [.tup ds] M Q = Q (.int ds.length) M := rfl
theorem e_len_fl {ds : List D} : ρLen [.fl ds] M Q = Q (.int ds.length) M := rfl
theorem e_len_str {z : Str} : ρLen [.str z] M Q = (z.length ≤ sizeLine ∧ Q (.int z.length) M) := rfl
theorem e_len_obj {p : Addr} : ρLen [.obj p] M Q = lstAt M p fun ds => Q (.int ds.length) M := rfl
theorem e_int_int {i : Int} : ρInt [.int i] M Q = Q (.int i) M := rfl
theorem e_tuple_tup {ds : List D} : ρTuple [.tup ds] M Q = Q (.tup ds) M := rfl
theorem e_tuple_obj {p : Addr} : ρTuple [.obj p] M Q = lstAt M p fun ds => Q (.tup ds) M := rfl
theorem e_list_tup {ds : List D} : ρList [.tup ds] M Q = New (.lst ds) M Q := rfl
theorem e_list_obj {p : Addr} : ρList [.obj p] M Q = lstAt M p fun ds => New (.lst ds) M Q := rfl
theorem e_dget {p : Addr} : ρDGet (.obj p) y M Q = dicAt M p fun kvs => optAt (keyD y) fun k => optAt (valA kvs k) fun d => Q d M := rfl
theorem e_din {p : Addr} : ρDIn false y (.obj p) M Q = dicAt M p fun kvs => optAt (keyD y) fun k => Q (.bl (valA kvs k).isSome) M := rfl
theorem e_dnin {p : Addr} : ρDIn true y (.obj p) M Q = dicAt M p fun kvs => optAt (keyD y) fun k => Q (.bl (!(valA kvs k).isSome)) M := rfl
theorem e_lstAt {p : Addr} {k : List D → Prop} : lstAt M p k = (match M p with
  | some (.lst ds) => k ds
  | _ => False) := rfl
theorem e_dicAt {p : Addr} {k : List (Key × D) → Prop} : dicAt M p k = (match M p with
  | some (.dic ds) => k ds
  | _ => False) := rfl
theorem e_key_int {i : Int} : keyD (.int i) = some (.inl i) := rfl
theorem e_key_str {i : Str} : keyD (.str i) = some (.inr i) := rfl
theorem e_up {p q : Addr} {mo : MO} : up M p mo q = if q = p then some mo else M q := rfl
theorem e_ty_str {z : Str} : tyN M (.str z) = "str" := rfl
theorem e_ty_tup {ds : List D} : tyN M (.tup ds) = "tuple" := rfl
theorem e_ty_int {z : Int} : tyN M (.int z) = "int" := rfl
theorem e_ty_bl {z : Bool} : tyN M (.bl z) = "bool" := rfl
theorem e_ty_non : tyN M .non = "NoneType" := rfl
end
theorem atI0 {α : Type} {a : α} {r : List α} : atI (a :: r) 0 = some a := atI_nat (j := 0) rfl
theorem atI1 {α : Type} {a b : α} {r : List α} : atI (a :: b :: r) 1 = some b := atI_nat (j := 1) rfl
theorem atI2 {α : Type} {a b c : α} {r : List α} : atI (a :: b :: c :: r) 2 = some c := atI_nat (j := 2) rfl
theorem atI3 {α : Type} {a b c d : α} {r : List α} : atI (a :: b :: c :: d :: r) 3 = some d := atI_nat (j := 3) rfl
theorem atIL {α : Type} {a : α} {r : List α} : atI (r ++ [a]) (-1) = some a := atI_last r a
theorem atIn {α : Type} {r : List α} {n : Nat} : atI r (n : Int) = r[n]? := by
  cases e : r[n]? with
  | some x => exact atI_nat e
  | none =>
    have h := List.getElem?_eq_none_iff.mp e
    unfold atI ixN
    rw [if_pos (by omega), if_neg (by omega)]
    rfl
theorem ixN0 {n : Nat} : ixN (n + 1) 0 = some 0 := by unfold ixN; rw [if_pos (by omega), if_pos (by omega)]; rfl
theorem ixN1 {n : Nat} : ixN (n + 2) 1 = some 1 := by unfold ixN; rw [if_pos (by omega), if_pos (by omega)]; rfl
theorem cut_from1 {α : Type} {a : α} {r : List α} : cutL (a :: r) (some 1) none = r := by
  unfold cutL
  rw [show HT.sIx (a :: r).length 0 (some 1) = 1 by
    show min (1 : Int).toNat (a :: r).length = 1
    rw [List.length_cons]
    have : (1 : Int).toNat = 1 := rfl
    omega, HT.sIx_none]
  show r.take ((a :: r).length - 1) = r
  rw [List.length_cons, Nat.add_sub_cancel, List.take_length]
theorem e_ite_or {a b : Prop} [Decidable a] [Decidable b] {X Y : Prop} : (if a then X else if b then X else Y) = if a ∨ b then X else Y := by
  by_cases ha : a
  · rw [if_pos ha, if_pos (Or.inl ha)]
  · rw [if_neg ha]
    by_cases hb : b
    · rw [if_pos hb, if_pos (Or.inr hb)]
    · rw [if_neg hb, if_neg (fun h => h.elim ha hb)]
theorem e_ite_and {a b : Prop} [Decidable a] [Decidable b] {X Y : Prop} : (if a then (if b then X else Y) else Y) = if a ∧ b then X else Y := by
  by_cases ha : a
  · rw [if_pos ha]
    by_cases hb : b
    · rw [if_pos hb, if_pos ⟨ha, hb⟩]
    · rw [if_neg hb, if_neg fun h => hb h.2]
  · rw [if_neg ha, if_neg fun h => ha h.1]
theorem isEmpty_snoc {α : Type} {l : List α} {a : α} : (l ++ [a]).isEmpty = false := by cases l <;> rfl
theorem cpow1018 : CPow 10 18 = True := eq_true ⟨by decide, by decide, by decide⟩
theorem ite_both {c : Prop} [Decidable c] {P : Int → Prop} {a b : Int} (h : ∀ w, P w) : if c then P a else P b := by
  split
  · exact h a
  · exact h b
theorem sizeLine_eq : sizeLine = 16777216 := rfl
theorem in_non : isNon .non = true := rfl
theorem in_tup {a : List D} : isNon (.tup a) = false := rfl
theorem in_str {a : Str} : isNon (.str a) = false := rfl
theorem in_int {a : Int} : isNon (.int a) = false := rfl
theorem in_bl {a : Bool} : isNon (.bl a) = false := rfl
theorem in_obj {a : Addr} : isNon (.obj a) = false := rfl
theorem in_fl {a : List D} : isNon (.fl a) = false := rfl
theorem kb_strstr : kitB "str" "str" = some true := by decide +kernel
theorem kb_tupstr : kitB "tuple" "str" = some false := by decide +kernel
theorem kb_tuptup : kitB "tuple" "tuple" = some true := by decide +kernel
theorem kb_strtup : kitB "str" "tuple" = some false := by decide +kernel
theorem kb_inttup : kitB "int" "tuple" = some false := by decide +kernel
theorem kb_bltup : kitB "bool" "tuple" = some false := by decide +kernel
theorem kb_nontup : kitB "NoneType" "tuple" = some false := by decide +kernel
theorem kb_strbl : kitB "str" "bool" = some false := by decide +kernel
theorem kb_strint : kitB "str" "int" = some false := by decide +kernel
theorem kb_intbl : kitB "int" "bool" = some false := by decide +kernel
theorem kb_intint : kitB "int" "int" = some true := by decide +kernel
theorem kb_blbl : kitB "bool" "bool" = some true := by decide +kernel
theorem kb_blint : kitB "bool" "int" = some true := by decide +kernel
theorem kb_nonbl : kitB "NoneType" "bool" = some false := by decide +kernel
theorem kb_nonint : kitB "NoneType" "int" = some false := by decide +kernel
theorem kb_nonstr : kitB "NoneType" "str" = some false := by decide +kernel
theorem kb_intstr : kitB "int" "str" = some false := by decide +kernel
theorem kb_blstr : kitB "bool" "str" = some false := by decide +kernel
theorem kb_tupbl : kitB "tuple" "bool" = some false := by decide +kernel
theorem kb_tupint : kitB "tuple" "int" = some false := by decide +kernel


/-! ### stores -/
def Ext (M M' : Sto) : Prop := ∀ a mo, M a = some mo → M' a = some mo
def ExtB (b : Addr) (M M' : Sto) : Prop := ∀ a mo, a ≠ b → M a = some mo → M' a = some mo
theorem Ext.refl (M : Sto) : Ext M M := fun _ _ h => h
theorem Ext.trans {M M1 M2 : Sto} (a : Ext M M1) (b : Ext M1 M2) : Ext M M2 := fun c o h => b c o (a c o h)
theorem Ext.new {M : Sto} {p : Addr} {mo : MO} (h : M p = none) : Ext M (up M p mo) := fun a o e => by
  have n : a ≠ p := fun z => by subst z; rw [h] at e; cases e
  rw [up_ne n]
  exact e
theorem ExtB.refl (b : Addr) (M : Sto) : ExtB b M M := fun _ _ _ h => h
theorem ExtB.trans {b : Addr} {M M1 M2 : Sto} (x : ExtB b M M1) (y : ExtB b M1 M2) : ExtB b M M2 := fun c o n h => y c o n (x c o n h)
theorem Ext.b {b : Addr} {M M' : Sto} (x : Ext M M') : ExtB b M M' := fun c o _ h => x c o h
theorem ExtB.new {b : Addr} {M : Sto} {p : Addr} {mo : MO} (h : M p = none) : ExtB b M (up M p mo) := (Ext.new h).b
theorem ExtB.upd {b : Addr} {M : Sto} {mo : MO} : ExtB b M (up M b mo) := fun a o n e => by rw [up_ne n]; exact e
theorem fresh_ne {M : Sto} {p a : Addr} {mo : MO} (h : M p = none) (e : M a = some mo) : a ≠ p := fun z => by subst z; rw [h] at e; cases e
/-- a while by a measure over states -/
theorem while_run {A : ATT} {t : ATS} {ax : AX} {De : AEnds} (I : AEnv → Sto → Prop) (μ : AEnv → Sto → Nat)
    (turn : ∀ N env M, I env M → (∀ env' M', I env' M' → μ env' M' < μ env M → N env' M') → A ax env M fun k M1 => if k = true then t ax ⟨N, De.rt, De.nx, N⟩ env M1 else De.nx env M1)
    {env : AEnv} {M : Sto} (h : I env M) : aWhile A t ax De env M := by
  have all : ∀ n env M, I env M → μ env M < n → aWhileN A t ax De n env M := by
    intro n
    induction n with
    | zero => intro env M _ l; omega
    | succ n ih => exact fun env M i l => turn _ env M i fun env' M' i' l' => ih env' M' i' (by omega)
  exact ⟨_, all _ env M h (Nat.lt_succ_self _)⟩
theorem while_runN {A : ATT} {t : ATS} {ax : AX} {De : AEnds} (I : Nat → AEnv → Sto → Prop)
    (turn : ∀ n N env M, I n env M → (∀ m env' M', m < n → I m env' M' → N env' M') → A ax env M fun k M1 => if k = true then t ax ⟨N, De.rt, De.nx, N⟩ env M1 else De.nx env M1)
    {n : Nat} {env : AEnv} {M : Sto} (h : I n env M) : aWhile A t ax De env M := by
  have all : ∀ k n env M, I n env M → n < k → aWhileN A t ax De k env M := by
    intro k
    induction k with
    | zero => intro n env M _ l; omega
    | succ k ih => exact fun n env M i l => turn n _ env M i fun m env' M' lt i' => ih m env' M' i' (by omega)
  exact ⟨_, all _ n env M h (Nat.lt_succ_self _)⟩
theorem Ext.upd {M M' : Sto} {p : Addr} {mo : MO} (h : M p = none) (e : Ext M M') : Ext M (up M' p mo) := fun a o m => by
  rw [up_ne (fresh_ne h m)]
  exact e a o m
theorem Ext.none {M M' : Sto} {p : Addr} (e : Ext M M') (h : M' p = none) : M p = none := by
  cases z : M p with
  | none => rfl
  | some mo => rw [e _ _ z] at h; cases h
theorem strsM_obj {M : Sto} {p : Addr} {xs : List Str} (h : M p = some (.lst (xs.map D.str))) : strsM M (.obj p) = some xs := by
  show (match M p with | some (.lst ds) => strsOf ds | _ => none) = some xs
  rw [h]
  exact strsOf_map xs
/-- a for by an invariant over the items still to come -/
theorem for_run {chk : Sto → Prop} {g : ATG} {t : ATS} {ax : AX} {De : AEnds} (I : List D → AEnv → Sto → Prop) (hc : ∀ ds env M, I ds env M → chk M) (hn : ∀ env M, I [] env M → De.nx env M)
    (turn : ∀ d r N env M, I (d :: r) env M → (∀ env' M', I r env' M' → N env' M') → g d ax env M fun env1 M1 => t ax ⟨N, De.rt, De.nx, N⟩ env1 M1) : ∀ {ds : List D} {env : AEnv} {M : Sto}, I ds env M → aForGo chk g t ax De ds env M
  | [], env, M, h => ⟨hc _ _ _ h, hn env M h⟩
  | d :: r, env, M, h => ⟨hc _ _ _ h, turn d r _ env M h fun env' M' i => for_run I hc hn turn i⟩
/-- a comprehension likewise: what is made so far -/
theorem lc_run {chk : Sto → Prop} {i : Nat} {t : ATT} {e : ATE} {ax : AX} {env : AEnv} {Q : List D → Sto → Prop} (I : List D → List D → Sto → Prop) (hc : ∀ ds acc M, I ds acc M → chk M) (hn : ∀ acc M, I [] acc M → Q acc M)
    (turn : ∀ d r acc M (N : List D → Sto → Prop), I (d :: r) acc M → (∀ acc' M', I r acc' M' → N acc' M') → t ax (env.set i (some d)) M fun b M1 => if b = true then e ax (env.set i (some d)) M1 fun y M2 => N (acc ++ [y]) M2 else N acc M1) :
    ∀ {ds acc : List D} {M : Sto}, I ds acc M → aLcGo chk i t e ax env ds acc M Q
  | [], acc, M, h => ⟨hc _ _ _ h, hn acc M h⟩
  | d :: r, acc, M, h => ⟨hc _ _ _ h, turn d r acc M _ h fun acc' M' i => lc_run I hc hn turn i⟩
/-- the same with a pair of names -/
theorem lc2_run {chk : Sto → Prop} {i j : Nat} {t : ATT} {e : ATE} {ax : AX} {env : AEnv} {Q : List D → Sto → Prop} (I : List D → List D → Sto → Prop) (hc : ∀ ds acc M, I ds acc M → chk M) (hn : ∀ acc M, I [] acc M → Q acc M)
    (turn : ∀ d r acc M (N : List D → Sto → Prop), I (d :: r) acc M → (∀ acc' M', I r acc' M' → N acc' M') → ∃ a b, d = .tup [a, b] ∧ t ax ((env.set i (some a)).set j (some b)) M fun k M1 => if k = true then e ax ((env.set i (some a)).set j (some b)) M1 fun y M2 => N (acc ++ [y]) M2 else N acc M1) :
    ∀ {ds acc : List D} {M : Sto}, I ds acc M → aLc2Go chk i j t e ax env ds acc M Q
  | [], acc, M, h => ⟨hc _ _ _ h, hn acc M h⟩
  | d :: r, acc, M, h => by
    obtain ⟨a, b, rfl, z⟩ := turn d r acc M (fun acc' M' => aLc2Go chk i j t e ax env r acc' M' Q) h fun acc' M' i => lc2_run I hc hn turn i
    exact ⟨hc _ _ _ h, z⟩
theorem fn_none {P : Program} {w : World} {K : PySem.W.Frag} {mg : Str → Option Value} {base : Heap} {k n : Nat} {f : Addr} {fd : FuncData} {ps : List Str} {A : ASp} (h : ∀ ds M Q Xa, ¬ A ds M Q Xa) : FnOk P w K mg base CX0 k f fd ps (conc K n A) := by
  have no : ∀ vs H Q E, ¬ conc K n A vs H Q E := fun vs H Q E z => by
    obtain ⟨ds, M, Qa, Xa, _, _, _, q, _⟩ := z
    exact h _ _ _ _ q
  exact ⟨fun vs H Q E z => absurd z (no vs H Q E), fun A outer s H args us vs Q E _ _ _ _ z => absurd z (no vs H Q E)⟩
/-! dicts -/
theorem valA_nil {k : Key} : valA [] k = none := rfl
theorem valA_pos {k : Key} {v : D} {r : List (Key × D)} : valA ((k, v) :: r) k = some v := by unfold valA; rw [List.find?_cons_of_pos (by simp)]; rfl
theorem valA_neg {k j : Key} {v : D} {r : List (Key × D)} (h : ¬ j = k) : valA ((j, v) :: r) k = valA r k := by unfold valA; rw [List.find?_cons_of_neg (by simpa using h)]
theorem valA_map (k j : Key) (y : D) : ∀ kvs : List (Key × D), valA (kvs.map fun kv => if kv.1 = k then (kv.1, y) else kv) j = (valA kvs j).map fun x => if j = k then y else x
  | [] => rfl
  | (a, x) :: r => by
    have ih := valA_map k j y r
    rw [List.map_cons]
    by_cases h : a = j
    · subst h
      by_cases hk : a = k
      · subst hk
        show valA ((if a = a then (a, y) else (a, x)) :: _) a = _
        rw [if_pos rfl, valA_pos, valA_pos, Option.map_some, if_pos rfl]
      · show valA ((if a = k then (a, y) else (a, x)) :: _) a = _
        rw [if_neg hk, valA_pos, valA_pos, Option.map_some, if_neg hk]
    · have e : valA ((if a = k then (a, y) else (a, x)) :: r.map fun kv => if kv.1 = k then (kv.1, y) else kv) j = valA (r.map fun kv => if kv.1 = k then (kv.1, y) else kv) j := by
        split
        · exact valA_neg h
        · exact valA_neg h
      show valA ((if a = k then (a, y) else (a, x)) :: r.map fun kv => if kv.1 = k then (kv.1, y) else kv) j = _
      rw [e, ih, valA_neg h]
theorem valA_any (k : Key) : ∀ kvs : List (Key × D), (kvs.any fun kv => decide (kv.1 = k)) = (valA kvs k).isSome
  | [] => rfl
  | (a, x) :: r => by
    rw [List.any_cons, valA_any k r]
    by_cases h : a = k
    · subst h
      rw [valA_pos, decide_eq_true rfl]
      rfl
    · rw [valA_neg h, decide_eq_false h, Bool.false_or]
theorem valA_snoc (k j : Key) (y : D) : ∀ kvs : List (Key × D), valA kvs k = none → valA (kvs ++ [(k, y)]) j = if j = k then some y else valA kvs j
  | [], _ => by
    by_cases h : k = j
    · subst h; rw [if_pos rfl]; exact valA_pos
    · rw [if_neg fun e => h e.symm]; exact valA_neg h
  | (a, x) :: r, h0 => by
    have ha : ¬ a = k := fun e => by subst e; rw [valA_pos] at h0; cases h0
    rw [valA_neg ha] at h0
    have ih := valA_snoc k j y r h0
    rw [List.cons_append]
    by_cases h : a = j
    · subst h
      rw [valA_pos, valA_pos, if_neg ha]
    · rw [valA_neg h, valA_neg h, ih]
theorem valA_put (kvs : List (Key × D)) (k j : Key) (y : D) : valA (putA kvs k y) j = if j = k then some y else valA kvs j := by
  unfold putA
  rw [valA_any]
  cases h : valA kvs k with
  | none =>
    rw [if_neg (by simp)]
    exact valA_snoc k j y kvs h
  | some v =>
    rw [if_pos (show (some v).isSome = true from rfl), valA_map]
    by_cases e : j = k
    · subst e
      rw [h, if_pos rfl, Option.map_some, if_pos rfl]
    · rw [if_neg e]
      cases valA kvs j with
      | none => rfl
      | some w => rw [Option.map_some, if_neg e]
theorem putA_length (kvs : List (Key × D)) (k : Key) (v : D) : (putA kvs k v).length ≤ kvs.length + 1 := by
  unfold putA
  split
  · rw [List.length_map]; omega
  · rw [List.length_append, List.length_singleton]; omega

section
variable {ax : AX} {De : AEnds} {env : AEnv} {M : Sto} {Q : D → Sto → Prop} {d x y : D}
theorem e_extT {p : Addr} {ds es : List D} : ρExtT p ds [.tup es] M Q = (ds.length + es.length ≤ sizeLine ∧ Q .non (up M p (.lst (ds ++ es)))) := rfl
theorem e_sc2 {w : World} {ι : ATI} {e : ATE} {A : ATT} {i j : Nat} : aSc2 w ι i j A e ax env M Q = ι ax env M fun items chk M1 => i ≠ j ∧ items.length ≤ 4000 ∧ aScGo2 chk i j A e ax env items [] M1 fun acc M2 =>
  ∀ (p : Addr) (n : Nat), n ≤ acc.length → M2 p = none → Q (.obj p) (up M2 p (.raw (SetO w p (fun k => decide (k ∈ acc)) n))) := rfl
theorem e_sortZ {w : World} {p : Addr} : ρSortZ w [.obj p] M Q = ∃ S n, M p = some (.raw (SetO w p S n)) ∧ n < 64 ∧ ∀ ns : List Int, ns.Pairwise (· < ·) → (∀ k : Int, k ∈ ns ↔ S k = true) → New (.lst (ns.map D.int)) M Q := rfl
theorem e_tupVals {α : ATE} : aTupVals α ax env M Q = α ax env M fun x M1 => match x with
  | .obj p => dicAt M1 p fun kvs => Q (.tup (kvs.map (·.2))) M1
  | _ => False := rfl
end
theorem sc2_run {chk : Sto → Prop} {i j : Nat} {t : ATT} {e : ATE} {ax : AX} {env : AEnv} {Q : List Int → Sto → Prop} (I : List D → List Int → Sto → Prop) (hc : ∀ ds acc M, I ds acc M → chk M) (hn : ∀ acc M, I [] acc M → Q acc M)
    (turn : ∀ d r acc M (N : List Int → Sto → Prop), I (d :: r) acc M → (∀ acc' M', I r acc' M' → N acc' M') → ∃ a b, d = .tup [a, b] ∧ t ax ((env.set i (some a)).set j (some b)) M fun k M1 => if k = true then e ax ((env.set i (some a)).set j (some b)) M1 fun y M2 => (match y with
      | .int k => N (acc ++ [k]) M2
      | _ => False) else N acc M1) : ∀ {ds : List D} {acc : List Int} {M : Sto}, I ds acc M → aScGo2 chk i j t e ax env ds acc M Q
  | [], acc, M, h => ⟨hc _ _ _ h, hn acc M h⟩
  | d :: r, acc, M, h => by
    obtain ⟨a, b, rfl, z⟩ := turn d r acc M (fun acc' M' => aScGo2 chk i j t e ax env r acc' M' Q) h fun acc' M' i => sc2_run I hc hn turn i
    exact ⟨hc _ _ _ h, z⟩

section
variable {ax : AX} {De : AEnds} {env : AEnv} {M : Sto} {Q : D → Sto → Prop} {d x y : D} {α : ATE} {τ : ATA}
theorem e_wget {tab : List (Key × D)} : aWGet tab α ax env M Q = α ax env M fun y M1 => optAt (keyD y) fun k => Q ((valA tab k).getD .non) M1 := rfl
theorem e_wix {tab : List (Key × D)} : aWIx tab α ax env M Q = α ax env M fun y M1 => optAt (keyD y) fun k => optAt (valA tab k) fun d => Q d M1 := rfl
theorem e_listZip : aListZip τ ax env M Q = τ ax env M fun xs M1 => match xs with
  | [.tup ds, .tup es] => ds.length = es.length ∧ ds.length ≤ 1000 ∧ New (.lst (zipD ds es)) M1 Q
  | _ => False := rfl
theorem zipD_nil {es : List D} : zipD [] es = [] := rfl
theorem zipD_cons {d e : D} {ds es : List D} : zipD (d :: ds) (e :: es) = .tup [d, e] :: zipD ds es := rfl
end

section
variable {ax : AX} {De : AEnds} {env : AEnv} {M : Sto} {Q : D → Sto → Prop} {d x y : D} {α : ATE} {τ : ATA}
theorem e_dgetF {p : Addr} : ρDGetF (.obj p) y M Q = (match M p with
  | some (.dif od ws kvs) => optAt (keyD y) fun k => optAt (valA kvs k) fun d => Q d M
  | _ => False) := by
  show (∃ od ws kvs, M p = some (.dif od ws kvs) ∧ optAt (keyD y) fun k => optAt (valA kvs k) fun d => Q d M) = _
  cases h : M p with
  | none => simp
  | some mo =>
    cases mo with
    | dif od ws kvs =>
      refine propext ⟨fun ⟨od', ws', kvs', e, z⟩ => ?_, fun z => ⟨od, ws, kvs, rfl, z⟩⟩
      cases e
      exact z
    | _ => simp
theorem e_idif {R : List D → (Sto → Prop) → Sto → Prop} : aIDif α ax env M R = α ax env M fun x M1 => match x with
  | .obj p => ∃ od ws kvs, M1 p = some (.dif od ws kvs) ∧ R (kvs.map fun kv => keyB kv.1) (fun M => M p = some (.dif od ws kvs)) M1
  | _ => False := rfl
end

section
variable {ax : AX} {De : AEnds} {env : AEnv} {M : Sto} {Q : D → Sto → Prop} {d x y : D} {α : ATE} {τ : ATA}
theorem e_inT {n : Bool} {ds : List D} : ρInT n x (.tup ds) M Q = ∃ p ps, x.py = some p ∧ D.pys ds = some ps ∧ SeqAt.shaped p = true ∧ SeqAt.shaped (.tuple ps) = true ∧ Q (.bl (if n then !(ps.any fun z => PyData.eqv z p) else ps.any fun z => PyData.eqv z p)) M := rfl
theorem e_isB {n a b : Bool} : ρIsB n (.bl a) (.bl b) M Q = Q (.bl (if n then !decide (a = b) else decide (a = b))) M := rfl
theorem e_sortI {p : Addr} : ρSortI [.obj p] M Q = lstAt M p fun ds => ∃ ns : List Int, ds = ns.map D.int ∧ ∀ ys : List Int, ys.Perm ns → ys.Pairwise (· ≤ ·) → New (.lst (ys.map D.int)) M Q := rfl
theorem e_sortSetI : aSortSetI α ax env M Q = α ax env M fun x M1 => match x with
  | .obj p => lstAt M1 p fun ds => ∃ ns : List Int, ds = ns.map D.int ∧ ns.length < 64 ∧ ∀ zs : List Int, zs.Pairwise (· < ·) → (∀ k, k ∈ zs ↔ k ∈ ns) → New (.lst (zs.map D.int)) M1 Q
  | _ => False := rfl
end

section
variable {ax : AX} {De : AEnds} {env : AEnv} {M : Sto} {Q : D → Sto → Prop} {d x y : D} {α β : ATE} {τ : ATA}
theorem e_tailR : aTailR α ax env M Q = α ax env M fun x M1 => match x with
  | .tup ds => Q (.tup (ds.drop 1).reverse) M1
  | _ => False := rfl
theorem e_divmod {i j : Int} : ρDivmod [.int i, .int j] M Q = (CDiv i j ∧ Q (.tup [.int (i / j), .int (i % j)]) M) := rfl
theorem e_strI {i : Int} : ρStrI [.int i] M Q = (i.natAbs.log2 < 1920 ∧ Q (.str (toString i)) M) := rfl
theorem e_lenD {p : Addr} : ρLenD [.obj p] M Q = dicAt M p fun kvs => Q (.int kvs.length) M := rfl
theorem e_fmt : aFmt α ax env M Q = α ax env M fun x M1 => match x with
  | .str y => y.length ≤ sizeLine ∧ Q (.str y) M1
  | .int i => i.natAbs.log2 < 1920 ∧ Q (.str (toString i)) M1
  | _ => False := rfl
theorem e_fs2 : aFs2 α β ax env M Q = α ax env M fun x M1 => match x with
  | .str y => y.length ≤ sizeLine ∧ β ax env M1 fun x2 M2 => match x2 with
    | .str z => (y ++ z).length ≤ sizeLine ∧ Q (.str (y ++ z)) M2
    | _ => False
  | _ => False := rfl
end

/- slots of _law_cell: 0 script, 1 k -/
def a__law_cell  : ATS :=
    (aSeq (aIf (aTest (aOp ρLt (aVar 1) (aCB ρLen (aCons (aVar 0) aNil)))) (aRet (aOp ρIx (aVar 0) (aVar 1))) aNext)
    (aRet (aC (.int 0))))
/- slots of _law_digits: 0 script, 1 first, 2 last, 3 digits, 4 k, 5 cell, 6 turn, 7 seed -/
def a__law_digits (A__law_cell : ASp) : ATS :=
    (aSeq (aAsg (aLst aNil) (agName 3))
    (aSeq (aFor (aIRng2 (aCons (aVar 1) (aCons (aVar 2) aNil))) (agName 4) (aSeq (aAsg (aCall 2 A__law_cell (aCons (aVar 0) (aCons (aVar 4) aNil))) (agName 5))
    (aSeq (aIf (aTest (aOp ρLt (aVar 5) (aC (.int 0)))) (aAsg (aOp ρSub (aC (.int 1)) (aOp ρMul (aC (.int 2)) (aVar 5))) (agName 5)) aNext)
    (aIf (aTest (aOp ρGe (aVar 5) (aOp ρPow (aC (.int 10)) (aC (.int 18))))) (aFor (aIRng1 (aCons (aC (.int 60)) aNil)) (agName 6) (aIf (aTest (aOp ρGt (aVar 5) (aC (.int 0)))) (aSeq (aExpr (aLm ρAppend (aVar 3) (aCons (aOp ρMod (aCB ρInt (aCons (aVar 5) aNil)) (aC (.int 1000))) aNil)))
    (aAsg (aOp ρFdiv (aVar 5) (aC (.int 1000))) (agName 5))) aNext)) (aSeq (aAsg (aOp ρMod (aCB ρInt (aCons (aOp ρAdd (aOp ρAdd (aOp ρMul (aVar 5) (aC (.int 48271))) (aOp ρMul (aVar 4) (aC (.int 69621)))) (aC (.int 11))) aNil)) (aC (.int 2147483647))) (agName 7))
    (aFor (aIRng1 (aCons (aC (.int 12)) aNil)) (agName 6) (aSeq (aAsg (aOp ρMod (aCB ρInt (aCons (aOp ρAdd (aOp ρAdd (aOp ρMul (aVar 7) (aC (.int 16807))) (aOp ρMul (aC (.int 7)) (aVar 6))) (aC (.int 1))) aNil)) (aC (.int 2147483647))) (agName 7))
    (aExpr (aLm ρAppend (aVar 3) (aCons (aOp ρMod (aCB ρInt (aCons (aOp ρFdiv (aVar 7) (aC (.int 997))) aNil)) (aC (.int 1000))) aNil))))))))))
    (aRet (aVar 3))))
/- slots of _law_box: 0 script, 1 first, 2 last -/
def a__law_box (A__law_digits : ASp) : ATS :=
    (aRet (aLst (aCons (aCall 3 A__law_digits (aCons (aVar 0) (aCons (aVar 1) (aCons (aVar 2) aNil)))) (aCons (aC (.int 0)) aNil))))
/- slots of _law_draw: 0 box, 1 many, 2 at -/
def a__law_draw  : ATS :=
    (aSeq (aAsg (aOp ρIx (aVar 0) (aC (.int 1))) (agName 2))
    (aSeq (aAsg (aOp ρAdd (aVar 2) (aC (.int 1))) (agSub (aVar 0) (aC (.int 1))))
    (aSeq (aIf (aTest (aOp ρLt (aVar 2) (aCB ρLen (aCons (aOp ρIx (aVar 0) (aC (.int 0))) aNil)))) (aRet (aOp ρMod (aCB ρInt (aCons (aOp ρIx (aOp ρIx (aVar 0) (aC (.int 0))) (aVar 2)) aNil)) (aVar 1))) aNext)
    (aRet (aC (.int 0))))))
/- slots of _law_put: 0 formula, 1 table, 2 part -/
def a__law_put (A__law_put : ASp) : ATS :=
    (aSeq (aIf (aTest (aOp (ρEq false) (aOp ρIx (aVar 0) (aC (.int 0))) (aC (.str z_letter)))) (aRet (aDGet2 (aVar 1) (aOp ρIx (aVar 0) (aC (.int 1))) (aVar 0))) aNext)
    (aRet (aOp ρAdd (aTup (aCons (aOp ρIx (aVar 0) (aC (.int 0))) aNil)) (aCB ρTuple (aCons (aLc (aITup (aSl (aVar 0) (aOSome (aC (.int 1))) aONone)) 2 aYes (aCall 2 A__law_put (aCons (aVar 2) (aCons (aVar 1) aNil)))) aNil)))))
/- slots of _law_any: 0 box, 1 room, 2 many, 3 kind, 4 left, 5 first -/
def a__law_any (A__law_draw : ASp) (A__law_any : ASp) : ATS :=
    (aSeq (aAsg (aCall 2 A__law_draw (aCons (aVar 0) (aCons (aC (.int 8)) aNil))) (agName 3))
    (aSeq (aIf (aOr (aTest (aOp ρLt (aVar 1) (aC (.int 2)))) (aTest (aOp ρLt (aVar 3) (aC (.int 2))))) (aRet (aTup (aCons (aC (.str z_letter)) (aCons (aOp ρIx (aC (.str z_abcdefgh)) (aCall 2 A__law_draw (aCons (aVar 0) (aCons (aVar 2) aNil)))) aNil)))) aNext)
    (aSeq (aIf (aOr (aTest (aOp ρLt (aVar 1) (aC (.int 3)))) (aTest (aOp ρLt (aVar 3) (aC (.int 4))))) (aRet (aTup (aCons (aC (.str z_not)) (aCons (aCall 3 A__law_any (aCons (aVar 0) (aCons (aOp ρSub (aVar 1) (aC (.int 1))) (aCons (aVar 2) aNil)))) aNil)))) aNext)
    (aSeq (aAsg (aOp ρAdd (aC (.int 1)) (aCall 2 A__law_draw (aCons (aVar 0) (aCons (aOp ρSub (aVar 1) (aC (.int 2))) aNil)))) (agName 4))
    (aSeq (aAsg (aCall 3 A__law_any (aCons (aVar 0) (aCons (aVar 4) (aCons (aVar 2) aNil)))) (agName 5))
    (aRet (aTup (aCons (aC (.str z_if)) (aCons (aVar 5) (aCons (aCall 3 A__law_any (aCons (aVar 0) (aCons (aOp ρSub (aOp ρSub (aVar 1) (aC (.int 1))) (aVar 4)) (aCons (aVar 2) aNil)))) aNil))))))))))
/- slots of _law_lettered: 0 box, 1 room, 2 many, 3 names, 4 table, 5 name -/
def a__law_lettered (A__law_draw : ASp) (A__law_put : ASp) (A__law_any : ASp) : ATS :=
    (aSeq (aAsg (aLst (aCons (aC (.str z_a)) (aCons (aC (.str z_b)) (aCons (aC (.str z_z)) (aCons (aC (.str z_c7)) (aCons (aC (.str z_a0)) (aCons (aC (.str z_m9)) aNil))))))) (agName 3))
    (aSeq (aAsg aDNew (agName 4))
    (aSeq (aFor (aIList (aLst (aCons (aC (.str z_a)) (aCons (aC (.str z_b)) (aCons (aC (.str z_c)) (aCons (aC (.str z_d)) (aCons (aC (.str z_e)) (aCons (aC (.str z_f)) (aCons (aC (.str z_g)) (aCons (aC (.str z_h)) aNil)))))))))) (agName 5) (aDPut (aVar 4) (aVar 5) (aTup (aCons (aC (.str z_letter)) (aCons (aOp ρIx (aVar 3) (aCall 2 A__law_draw (aCons (aVar 0) (aCons (aC (.int 6)) aNil)))) aNil)))))
    (aRet (aCall 2 A__law_put (aCons (aCall 3 A__law_any (aCons (aVar 0) (aCons (aVar 1) (aCons (aVar 2) aNil)))) (aCons (aVar 4) aNil)))))))
/- slots of _law_text: 0 formula, 1 first -/
def a__law_text (A__law_text : ASp) : ATS :=
    (aSeq (aIf (aTest (aOp (ρEq false) (aOp ρIx (aVar 0) (aC (.int 0))) (aC (.str z_letter)))) (aRet (aOp ρIx (aVar 0) (aC (.int 1)))) aNext)
    (aSeq (aAsg (aCall 1 A__law_text (aCons (aOp ρIx (aVar 0) (aC (.int 1))) aNil)) (agName 1))
    (aSeq (aIf (aTest (aOp (ρEq false) (aOp ρIx (aOp ρIx (aVar 0) (aC (.int 1))) (aC (.int 0))) (aC (.str z_if)))) (aAsg (aOp ρAdd (aOp ρAdd (aC (.str z__28_)) (aVar 1)) (aC (.str z__29_))) (agName 1)) aNext)
    (aSeq (aIf (aTest (aOp (ρEq false) (aOp ρIx (aVar 0) (aC (.int 0))) (aC (.str z_not)))) (aRet (aOp ρAdd (aC (.str z__7e_)) (aVar 1))) aNext)
    (aRet (aOp ρAdd (aOp ρAdd (aVar 1) (aC (.str z__20__2d__3e__20_))) (aCall 1 A__law_text (aCons (aOp ρIx (aVar 0) (aC (.int 2))) aNil))))))))
/- slots of _law_same: 0 actual, 1 expected, 2 k -/
def a__law_same (A__law_same : ASp) : ATS :=
    (aSeq (aIf (aTruth (aIsi "tuple" (aVar 1))) (aSeq (aIf (aOr (aNot (aTruth (aIsi "tuple" (aVar 0)))) (aTest (aOp (ρEq true) (aCB ρLen (aCons (aVar 0) aNil)) (aCB ρLen (aCons (aVar 1) aNil))))) (aRet (aC (.bl false))) aNext)
    (aSeq (aFor (aIRng1 (aCons (aCB ρLen (aCons (aVar 1) aNil)) aNil)) (agName 2) (aIf (aNot (aTruth (aCall 2 A__law_same (aCons (aOp ρIx (aVar 0) (aVar 2)) (aCons (aOp ρIx (aVar 1) (aVar 2)) aNil))))) (aRet (aC (.bl false))) aNext))
    (aRet (aC (.bl true))))) aNext)
    (aSeq (aIf (aTest (aOp (ρIsN false) (aVar 1) (aC .non))) (aRet (aOp (ρIsN false) (aVar 0) (aC .non))) aNext)
    (aSeq (aIf (aTruth (aIsi "bool" (aVar 1))) (aRet (aAndV (aIsi "bool" (aVar 0)) (aOp (ρEq false) (aVar 0) (aVar 1)))) aNext)
    (aSeq (aIf (aTruth (aIsi "int" (aVar 1))) (aRet (aAndV (aIsi "int" (aVar 0)) (aAndV (aNotV (aIsi "bool" (aVar 0))) (aOp (ρEq false) (aVar 0) (aVar 1))))) aNext)
    (aRet (aAndV (aIsi "str" (aVar 0)) (aOp (ρEq false) (aVar 0) (aVar 1))))))))

/-! general -/
theorem rngD_cons {lo : Int} {n : Nat} {d : D} {r : List D} (h : rngD lo n = d :: r) : ∃ m, n = m + 1 ∧ d = .int lo ∧ r = rngD (lo + 1) m := by
  cases n with
  | zero => cases h
  | succ m =>
    rw [rngD] at h
    injection h with h1 h2
    exact ⟨m, rfl, h1.symm, h2.symm⟩
theorem rngD_nil {lo : Int} {n : Nat} (h : rngD lo n = []) : n = 0 := by
  cases n with
  | zero => rfl
  | succ m => cases h
theorem atI_int {zs : List Int} {i : Int} (h0 : 0 ≤ i) (h : i < (zs.length : Int)) : ∃ z, atI (zs.map D.int) i = some (.int z) := by
  have hk : i.toNat < zs.length := by omega
  have e : i = ((i.toNat : Nat) : Int) := by omega
  rw [e, atIn, List.getElem?_map, List.getElem?_eq_getElem hk]
  exact ⟨_, rfl⟩
theorem ExtB.ext {M M' : Sto} {p : Addr} (h : M p = none) (e : ExtB p M M') : Ext M M' := fun a o m => e a o (fresh_ne h m) m
theorem map_snoc (zs : List Int) (z : Int) : zs.map D.int ++ [.int z] = (zs ++ [z]).map D.int := by rw [List.map_append]; rfl
/-! boxes: the list at b, its digits at d -/
def BoxAt (M : Sto) (b d : Addr) : Prop := ∃ (zs : List Int) (at_ : Int), M b = some (.lst [.obj d, .int at_]) ∧ M d = some (.lst (zs.map D.int)) ∧ 0 ≤ at_ ∧ d ≠ b
theorem BoxAt.ext {M M' : Sto} {b d : Addr} (h : BoxAt M b d) (e : Ext M M') : BoxAt M' b d := by
  obtain ⟨zs, at_, h1, h2, h3, h4⟩ := h
  exact ⟨zs, at_, e _ _ h1, e _ _ h2, h3, h4⟩
theorem BoxAt.upd {M : Sto} {b d p : Addr} {mo : MO} (h : BoxAt M b d) (h1 : b ≠ p) (h2 : d ≠ p) : BoxAt (up M p mo) b d := by
  obtain ⟨zs, at_, z1, z2, z3, z4⟩ := h
  exact ⟨zs, at_, by rw [up_ne h1]; exact z1, by rw [up_ne h2]; exact z2, z3, z4⟩
theorem BoxAt.fresh {M : Sto} {b d p : Addr} (h : BoxAt M b d) (hp : M p = none) : b ≠ p ∧ d ≠ p := by
  obtain ⟨zs, at_, z1, z2, z3, z4⟩ := h
  exact ⟨fresh_ne hp z1, fresh_ne hp z2⟩
theorem BoxAt.new {M : Sto} {b d p : Addr} {mo : MO} (h : BoxAt M b d) (hp : M p = none) : BoxAt (up M p mo) b d := h.upd (h.fresh hp).1 (h.fresh hp).2
theorem BoxAt.ne {M : Sto} {b d : Addr} (h : BoxAt M b d) : d ≠ b := by
  obtain ⟨zs, at_, z1, z2, z3, z4⟩ := h
  exact z4
def A_draw : ASp := fun ds M Q _ => ∃ b d n, ds = [.obj b, .int n] ∧ BoxAt M b d ∧ 0 < n ∧ ∀ v M', 0 ≤ v → v < n → BoxAt M' b d → ExtB b M M' → Q (.int v) M'
theorem p__law_draw (ds : List D) (M : Sto) (Q : D → Sto → Prop) (Xa) (hl : ds.length = 2) (h : A_draw ds M Q Xa) : a__law_draw ax0 ⟨fun _ M => Q .non M, Q, fun _ _ => False, fun _ _ => False⟩ (startA ["box", "many", "at"] ds) M := by
  obtain ⟨b, d, n, rfl, ⟨zs, at_, hb, hd, h0, hne⟩, hn, q⟩ := h
  have fin : ∀ v, 0 ≤ v → v < n → Q (.int v) (up M b (.lst [.obj d, .int (at_ + 1)])) := fun v h1 h2 => q v _ h1 h2 ⟨zs, at_ + 1, up_same, by rw [up_ne hne]; exact hd, by omega, hne⟩ ExtB.upd
  unfold a__law_draw
  try (simp only [↓e_seq, ↓e_next, ↓e_break, ↓e_cont, ↓e_expr, ↓e_ret, ↓e_retN, ↓e_if, ↓e_never, ↓e_asg, ↓e_name, ↓e_agtup, ↓e_agcons, ↓e_agnil, ↓e_agsub, ↓e_aug, ↓e_dput, ↓e_var, ↓e_c, ↓e_op, ↓e_some, ↓e_none, ↓e_test, ↓e_and, ↓e_or, ↓e_not, ↓e_yes, ↓e_truth,   ↓e_tru_bl, ↓e_tru_int, ↓e_tru_non, ↓e_tru_str, ↓e_tru_tup, ↓e_tru_obj, ↓e_chain, ↓e_orV, ↓e_andV, ↓e_notV, ↓e_ifE, ↓e_neg, ↓e_nil, ↓e_cons, ↓e_tup, ↓e_lst, ↓e_dnew, ↓e_call, ↓e_cb, ↓e_isi, ↓e_sl, ↓e_onone, ↓e_osome, ↓e_rev, ↓e_lm, ↓e_append, ↓e_extend, ↓e_pop, ↓e_join, ↓e_dget2, ↓e_sortSet, ↓e_sortS, ↓e_setd, strsOf_map, ↓e_maxI, ↓e_disp, ↓e_pairN, ↓e_pairC, intsOf_map, ↓e_for, ↓e_ilist, ↓e_itup, ↓e_rng1, ↓e_rng2, ↓e_lc, ↓e_lc2, e_lc2N, ↓e_ienum, ↓e_izip, ↓e_anyB, ↓e_allB, ↓e_mulS, blsOf_map, ↓e_set0, ↓e_sadd, ↓e_sortTx, ↓e_sortD, ↓e_repr, ↓e_extT, ↓e_sc2, ↓e_sortZ, ↓e_tupVals, ↓e_wget, ↓e_wix, ↓e_listZip, zipD_nil, zipD_cons, ↓e_dgetF, ↓e_idif, ↓e_isB, ↓e_sortI, ↓e_sortSetI, ↓e_tailR, ↓e_divmod, ↓e_strI, ↓e_lenD, ↓e_fmt, ↓e_fs2,   ↓e_add_int, ↓e_add_str, ↓e_add_tup, ↓e_add_obj, ↓e_iadd_int, ↓e_iadd_str, ↓e_iadd_obj, ↓e_I, ↓e_I0, ↓e_IS_int, ↓e_IS_str, ↓e_eq_str, ↓e_ne_str, ↓e_eq_int, ↓e_ne_int, ↓e_eq_bl, ↓e_ne_bl, ↓e_isN, ↓e_notN, ↓e_ix_tup, ↓e_ix_fl, ↓e_ix_str, ↓e_ix_obj, ↓e_in_tup, ↓e_nin_tup, ↓e_len_tup, ↓e_len_fl, ↓e_len_str, ↓e_len_obj, ↓e_int_int, ↓e_tuple_tup, ↓e_tuple_obj, ↓e_list_tup, ↓e_list_obj, ↓e_dget, ↓e_din, ↓e_dnin, ↓e_lstAt, ↓e_dicAt,   e_key_int, e_key_str, e_up, e_ty_str, e_ty_tup, e_ty_int, e_ty_bl, e_ty_non, atI0, atI1, atI2, atI3, atIL, ixN0, ixN1, cut_from1, e_ite_or, e_ite_and, zln, znl, zli, zil, zni, zin, sizeLine_eq, CMul, CDiv, cpow1018, true_or, or_true, kb_strstr, kb_tupstr, kb_tuptup, kb_strtup, kb_inttup, kb_bltup, kb_nontup, kb_strbl, kb_strint, kb_intbl, kb_intint, kb_blbl, kb_blint, kb_nonbl, kb_nonint, kb_nonstr, kb_intstr, kb_blstr, kb_tupbl, kb_tupint,   List.set_cons_zero, List.set_cons_succ, List.set_nil, List.getElem?_cons_zero, List.getElem?_cons_succ, List.getElem?_nil, List.length_cons, List.length_nil, List.length_map, List.length_append, e_lcN, e_lcC, e_forN, e_forC, List.getLast?_concat, List.dropLast_concat, List.nil_append, List.cons_append, List.append_nil, List.append_assoc, List.reverse_cons, List.reverse_nil, List.isEmpty_nil, List.isEmpty_cons, isEmpty_snoc, List.any_cons, List.any_nil, List.all_cons, List.all_nil, flatD, eqF, in_non, in_tup, in_str, in_int, in_bl, in_obj, in_fl, startA, List.map_cons, List.map_nil, List.replicate_succ, List.replicate_zero,   Nat.reduceAdd, Nat.reduceSub, Nat.reduceLeDiff, Nat.zero_add, Int.reduceLE, Int.reduceLT, Int.reduceToNat, Int.reducePow, Int.reduceNeg, Int.reduceAdd, Int.reduceSub,   Option.isSome_some, Option.isSome_none, Bool.not_true, Bool.not_false, Bool.not_eq_true', Bool.not_eq_eq_eq_not, Bool.not_eq_true, Bool.false_eq_true, Bool.true_eq_false, Bool.and_true, Bool.true_and, Bool.or_false, Bool.false_or, Bool.or_true, Bool.true_or, Bool.and_false, Bool.false_and, if_true, if_false, ite_true, ite_false, reduceIte, reduceCtorEq, decide_true, decide_false, decide_eq_true_eq, decide_eq_false_iff_not, true_and, and_true, eq_self, ne_eq, not_false_eq_true, not_true_eq_false, and_self, *])
  split
  · rename_i hlt
    obtain ⟨z, hz⟩ := atI_int h0 hlt
    try (simp only [↓e_seq, ↓e_next, ↓e_break, ↓e_cont, ↓e_expr, ↓e_ret, ↓e_retN, ↓e_if, ↓e_never, ↓e_asg, ↓e_name, ↓e_agtup, ↓e_agcons, ↓e_agnil, ↓e_agsub, ↓e_aug, ↓e_dput, ↓e_var, ↓e_c, ↓e_op, ↓e_some, ↓e_none, ↓e_test, ↓e_and, ↓e_or, ↓e_not, ↓e_yes, ↓e_truth,   ↓e_tru_bl, ↓e_tru_int, ↓e_tru_non, ↓e_tru_str, ↓e_tru_tup, ↓e_tru_obj, ↓e_chain, ↓e_orV, ↓e_andV, ↓e_notV, ↓e_ifE, ↓e_neg, ↓e_nil, ↓e_cons, ↓e_tup, ↓e_lst, ↓e_dnew, ↓e_call, ↓e_cb, ↓e_isi, ↓e_sl, ↓e_onone, ↓e_osome, ↓e_rev, ↓e_lm, ↓e_append, ↓e_extend, ↓e_pop, ↓e_join, ↓e_dget2, ↓e_sortSet, ↓e_sortS, ↓e_setd, strsOf_map, ↓e_maxI, ↓e_disp, ↓e_pairN, ↓e_pairC, intsOf_map, ↓e_for, ↓e_ilist, ↓e_itup, ↓e_rng1, ↓e_rng2, ↓e_lc, ↓e_lc2, e_lc2N, ↓e_ienum, ↓e_izip, ↓e_anyB, ↓e_allB, ↓e_mulS, blsOf_map, ↓e_set0, ↓e_sadd, ↓e_sortTx, ↓e_sortD, ↓e_repr, ↓e_extT, ↓e_sc2, ↓e_sortZ, ↓e_tupVals, ↓e_wget, ↓e_wix, ↓e_listZip, zipD_nil, zipD_cons, ↓e_dgetF, ↓e_idif, ↓e_isB, ↓e_sortI, ↓e_sortSetI, ↓e_tailR, ↓e_divmod, ↓e_strI, ↓e_lenD, ↓e_fmt, ↓e_fs2,   ↓e_add_int, ↓e_add_str, ↓e_add_tup, ↓e_add_obj, ↓e_iadd_int, ↓e_iadd_str, ↓e_iadd_obj, ↓e_I, ↓e_I0, ↓e_IS_int, ↓e_IS_str, ↓e_eq_str, ↓e_ne_str, ↓e_eq_int, ↓e_ne_int, ↓e_eq_bl, ↓e_ne_bl, ↓e_isN, ↓e_notN, ↓e_ix_tup, ↓e_ix_fl, ↓e_ix_str, ↓e_ix_obj, ↓e_in_tup, ↓e_nin_tup, ↓e_len_tup, ↓e_len_fl, ↓e_len_str, ↓e_len_obj, ↓e_int_int, ↓e_tuple_tup, ↓e_tuple_obj, ↓e_list_tup, ↓e_list_obj, ↓e_dget, ↓e_din, ↓e_dnin, ↓e_lstAt, ↓e_dicAt,   e_key_int, e_key_str, e_up, e_ty_str, e_ty_tup, e_ty_int, e_ty_bl, e_ty_non, atI0, atI1, atI2, atI3, atIL, ixN0, ixN1, cut_from1, e_ite_or, e_ite_and, zln, znl, zli, zil, zni, zin, sizeLine_eq, CMul, CDiv, cpow1018, true_or, or_true, kb_strstr, kb_tupstr, kb_tuptup, kb_strtup, kb_inttup, kb_bltup, kb_nontup, kb_strbl, kb_strint, kb_intbl, kb_intint, kb_blbl, kb_blint, kb_nonbl, kb_nonint, kb_nonstr, kb_intstr, kb_blstr, kb_tupbl, kb_tupint,   List.set_cons_zero, List.set_cons_succ, List.set_nil, List.getElem?_cons_zero, List.getElem?_cons_succ, List.getElem?_nil, List.length_cons, List.length_nil, List.length_map, List.length_append, e_lcN, e_lcC, e_forN, e_forC, List.getLast?_concat, List.dropLast_concat, List.nil_append, List.cons_append, List.append_nil, List.append_assoc, List.reverse_cons, List.reverse_nil, List.isEmpty_nil, List.isEmpty_cons, isEmpty_snoc, List.any_cons, List.any_nil, List.all_cons, List.all_nil, flatD, eqF, in_non, in_tup, in_str, in_int, in_bl, in_obj, in_fl, startA, List.map_cons, List.map_nil, List.replicate_succ, List.replicate_zero,   Nat.reduceAdd, Nat.reduceSub, Nat.reduceLeDiff, Nat.zero_add, Int.reduceLE, Int.reduceLT, Int.reduceToNat, Int.reducePow, Int.reduceNeg, Int.reduceAdd, Int.reduceSub,   Option.isSome_some, Option.isSome_none, Bool.not_true, Bool.not_false, Bool.not_eq_true', Bool.not_eq_eq_eq_not, Bool.not_eq_true, Bool.false_eq_true, Bool.true_eq_false, Bool.and_true, Bool.true_and, Bool.or_false, Bool.false_or, Bool.or_true, Bool.true_or, Bool.and_false, Bool.false_and, if_true, if_false, ite_true, ite_false, reduceIte, reduceCtorEq, decide_true, decide_false, decide_eq_true_eq, decide_eq_false_iff_not, true_and, and_true, eq_self, ne_eq, not_false_eq_true, not_true_eq_false, and_self, *])
    exact fin _ (Int.emod_nonneg _ (by omega)) (Int.emod_lt_of_pos _ hn)
  · trivial
def A_cell : ASp := fun ds M Q _ => ∃ (ns : List Int) (k : Int), ds = [.fl (ns.map D.int), .int k] ∧ 0 ≤ k ∧ ∀ v, Q (.int v) M
theorem p__law_cell (ds : List D) (M : Sto) (Q : D → Sto → Prop) (Xa) (hl : ds.length = 2) (h : A_cell ds M Q Xa) : a__law_cell ax0 ⟨fun _ M => Q .non M, Q, fun _ _ => False, fun _ _ => False⟩ (startA ["script", "k"] ds) M := by
  obtain ⟨ns, k, rfl, h0, q⟩ := h
  unfold a__law_cell
  try (simp only [↓e_seq, ↓e_next, ↓e_break, ↓e_cont, ↓e_expr, ↓e_ret, ↓e_retN, ↓e_if, ↓e_never, ↓e_asg, ↓e_name, ↓e_agtup, ↓e_agcons, ↓e_agnil, ↓e_agsub, ↓e_aug, ↓e_dput, ↓e_var, ↓e_c, ↓e_op, ↓e_some, ↓e_none, ↓e_test, ↓e_and, ↓e_or, ↓e_not, ↓e_yes, ↓e_truth,   ↓e_tru_bl, ↓e_tru_int, ↓e_tru_non, ↓e_tru_str, ↓e_tru_tup, ↓e_tru_obj, ↓e_chain, ↓e_orV, ↓e_andV, ↓e_notV, ↓e_ifE, ↓e_neg, ↓e_nil, ↓e_cons, ↓e_tup, ↓e_lst, ↓e_dnew, ↓e_call, ↓e_cb, ↓e_isi, ↓e_sl, ↓e_onone, ↓e_osome, ↓e_rev, ↓e_lm, ↓e_append, ↓e_extend, ↓e_pop, ↓e_join, ↓e_dget2, ↓e_sortSet, ↓e_sortS, ↓e_setd, strsOf_map, ↓e_maxI, ↓e_disp, ↓e_pairN, ↓e_pairC, intsOf_map, ↓e_for, ↓e_ilist, ↓e_itup, ↓e_rng1, ↓e_rng2, ↓e_lc, ↓e_lc2, e_lc2N, ↓e_ienum, ↓e_izip, ↓e_anyB, ↓e_allB, ↓e_mulS, blsOf_map, ↓e_set0, ↓e_sadd, ↓e_sortTx, ↓e_sortD, ↓e_repr, ↓e_extT, ↓e_sc2, ↓e_sortZ, ↓e_tupVals, ↓e_wget, ↓e_wix, ↓e_listZip, zipD_nil, zipD_cons, ↓e_dgetF, ↓e_idif, ↓e_isB, ↓e_sortI, ↓e_sortSetI, ↓e_tailR, ↓e_divmod, ↓e_strI, ↓e_lenD, ↓e_fmt, ↓e_fs2,   ↓e_add_int, ↓e_add_str, ↓e_add_tup, ↓e_add_obj, ↓e_iadd_int, ↓e_iadd_str, ↓e_iadd_obj, ↓e_I, ↓e_I0, ↓e_IS_int, ↓e_IS_str, ↓e_eq_str, ↓e_ne_str, ↓e_eq_int, ↓e_ne_int, ↓e_eq_bl, ↓e_ne_bl, ↓e_isN, ↓e_notN, ↓e_ix_tup, ↓e_ix_fl, ↓e_ix_str, ↓e_ix_obj, ↓e_in_tup, ↓e_nin_tup, ↓e_len_tup, ↓e_len_fl, ↓e_len_str, ↓e_len_obj, ↓e_int_int, ↓e_tuple_tup, ↓e_tuple_obj, ↓e_list_tup, ↓e_list_obj, ↓e_dget, ↓e_din, ↓e_dnin, ↓e_lstAt, ↓e_dicAt,   e_key_int, e_key_str, e_up, e_ty_str, e_ty_tup, e_ty_int, e_ty_bl, e_ty_non, atI0, atI1, atI2, atI3, atIL, ixN0, ixN1, cut_from1, e_ite_or, e_ite_and, zln, znl, zli, zil, zni, zin, sizeLine_eq, CMul, CDiv, cpow1018, true_or, or_true, kb_strstr, kb_tupstr, kb_tuptup, kb_strtup, kb_inttup, kb_bltup, kb_nontup, kb_strbl, kb_strint, kb_intbl, kb_intint, kb_blbl, kb_blint, kb_nonbl, kb_nonint, kb_nonstr, kb_intstr, kb_blstr, kb_tupbl, kb_tupint,   List.set_cons_zero, List.set_cons_succ, List.set_nil, List.getElem?_cons_zero, List.getElem?_cons_succ, List.getElem?_nil, List.length_cons, List.length_nil, List.length_map, List.length_append, e_lcN, e_lcC, e_forN, e_forC, List.getLast?_concat, List.dropLast_concat, List.nil_append, List.cons_append, List.append_nil, List.append_assoc, List.reverse_cons, List.reverse_nil, List.isEmpty_nil, List.isEmpty_cons, isEmpty_snoc, List.any_cons, List.any_nil, List.all_cons, List.all_nil, flatD, eqF, in_non, in_tup, in_str, in_int, in_bl, in_obj, in_fl, startA, List.map_cons, List.map_nil, List.replicate_succ, List.replicate_zero,   Nat.reduceAdd, Nat.reduceSub, Nat.reduceLeDiff, Nat.zero_add, Int.reduceLE, Int.reduceLT, Int.reduceToNat, Int.reducePow, Int.reduceNeg, Int.reduceAdd, Int.reduceSub,   Option.isSome_some, Option.isSome_none, Bool.not_true, Bool.not_false, Bool.not_eq_true', Bool.not_eq_eq_eq_not, Bool.not_eq_true, Bool.false_eq_true, Bool.true_eq_false, Bool.and_true, Bool.true_and, Bool.or_false, Bool.false_or, Bool.or_true, Bool.true_or, Bool.and_false, Bool.false_and, if_true, if_false, ite_true, ite_false, reduceIte, reduceCtorEq, decide_true, decide_false, decide_eq_true_eq, decide_eq_false_iff_not, true_and, and_true, eq_self, ne_eq, not_false_eq_true, not_true_eq_false, and_self, *])
  split
  · rename_i hlt
    obtain ⟨z, hz⟩ := atI_int h0 hlt
    try (simp only [↓e_seq, ↓e_next, ↓e_break, ↓e_cont, ↓e_expr, ↓e_ret, ↓e_retN, ↓e_if, ↓e_never, ↓e_asg, ↓e_name, ↓e_agtup, ↓e_agcons, ↓e_agnil, ↓e_agsub, ↓e_aug, ↓e_dput, ↓e_var, ↓e_c, ↓e_op, ↓e_some, ↓e_none, ↓e_test, ↓e_and, ↓e_or, ↓e_not, ↓e_yes, ↓e_truth,   ↓e_tru_bl, ↓e_tru_int, ↓e_tru_non, ↓e_tru_str, ↓e_tru_tup, ↓e_tru_obj, ↓e_chain, ↓e_orV, ↓e_andV, ↓e_notV, ↓e_ifE, ↓e_neg, ↓e_nil, ↓e_cons, ↓e_tup, ↓e_lst, ↓e_dnew, ↓e_call, ↓e_cb, ↓e_isi, ↓e_sl, ↓e_onone, ↓e_osome, ↓e_rev, ↓e_lm, ↓e_append, ↓e_extend, ↓e_pop, ↓e_join, ↓e_dget2, ↓e_sortSet, ↓e_sortS, ↓e_setd, strsOf_map, ↓e_maxI, ↓e_disp, ↓e_pairN, ↓e_pairC, intsOf_map, ↓e_for, ↓e_ilist, ↓e_itup, ↓e_rng1, ↓e_rng2, ↓e_lc, ↓e_lc2, e_lc2N, ↓e_ienum, ↓e_izip, ↓e_anyB, ↓e_allB, ↓e_mulS, blsOf_map, ↓e_set0, ↓e_sadd, ↓e_sortTx, ↓e_sortD, ↓e_repr, ↓e_extT, ↓e_sc2, ↓e_sortZ, ↓e_tupVals, ↓e_wget, ↓e_wix, ↓e_listZip, zipD_nil, zipD_cons, ↓e_dgetF, ↓e_idif, ↓e_isB, ↓e_sortI, ↓e_sortSetI, ↓e_tailR, ↓e_divmod, ↓e_strI, ↓e_lenD, ↓e_fmt, ↓e_fs2,   ↓e_add_int, ↓e_add_str, ↓e_add_tup, ↓e_add_obj, ↓e_iadd_int, ↓e_iadd_str, ↓e_iadd_obj, ↓e_I, ↓e_I0, ↓e_IS_int, ↓e_IS_str, ↓e_eq_str, ↓e_ne_str, ↓e_eq_int, ↓e_ne_int, ↓e_eq_bl, ↓e_ne_bl, ↓e_isN, ↓e_notN, ↓e_ix_tup, ↓e_ix_fl, ↓e_ix_str, ↓e_ix_obj, ↓e_in_tup, ↓e_nin_tup, ↓e_len_tup, ↓e_len_fl, ↓e_len_str, ↓e_len_obj, ↓e_int_int, ↓e_tuple_tup, ↓e_tuple_obj, ↓e_list_tup, ↓e_list_obj, ↓e_dget, ↓e_din, ↓e_dnin, ↓e_lstAt, ↓e_dicAt,   e_key_int, e_key_str, e_up, e_ty_str, e_ty_tup, e_ty_int, e_ty_bl, e_ty_non, atI0, atI1, atI2, atI3, atIL, ixN0, ixN1, cut_from1, e_ite_or, e_ite_and, zln, znl, zli, zil, zni, zin, sizeLine_eq, CMul, CDiv, cpow1018, true_or, or_true, kb_strstr, kb_tupstr, kb_tuptup, kb_strtup, kb_inttup, kb_bltup, kb_nontup, kb_strbl, kb_strint, kb_intbl, kb_intint, kb_blbl, kb_blint, kb_nonbl, kb_nonint, kb_nonstr, kb_intstr, kb_blstr, kb_tupbl, kb_tupint,   List.set_cons_zero, List.set_cons_succ, List.set_nil, List.getElem?_cons_zero, List.getElem?_cons_succ, List.getElem?_nil, List.length_cons, List.length_nil, List.length_map, List.length_append, e_lcN, e_lcC, e_forN, e_forC, List.getLast?_concat, List.dropLast_concat, List.nil_append, List.cons_append, List.append_nil, List.append_assoc, List.reverse_cons, List.reverse_nil, List.isEmpty_nil, List.isEmpty_cons, isEmpty_snoc, List.any_cons, List.any_nil, List.all_cons, List.all_nil, flatD, eqF, in_non, in_tup, in_str, in_int, in_bl, in_obj, in_fl, startA, List.map_cons, List.map_nil, List.replicate_succ, List.replicate_zero,   Nat.reduceAdd, Nat.reduceSub, Nat.reduceLeDiff, Nat.zero_add, Int.reduceLE, Int.reduceLT, Int.reduceToNat, Int.reducePow, Int.reduceNeg, Int.reduceAdd, Int.reduceSub,   Option.isSome_some, Option.isSome_none, Bool.not_true, Bool.not_false, Bool.not_eq_true', Bool.not_eq_eq_eq_not, Bool.not_eq_true, Bool.false_eq_true, Bool.true_eq_false, Bool.and_true, Bool.true_and, Bool.or_false, Bool.false_or, Bool.or_true, Bool.true_or, Bool.and_false, Bool.false_and, if_true, if_false, ite_true, ite_false, reduceIte, reduceCtorEq, decide_true, decide_false, decide_eq_true_eq, decide_eq_false_iff_not, true_and, and_true, eq_self, ne_eq, not_false_eq_true, not_true_eq_false, and_self, *])
  · trivial
def A_digits : ASp := fun ds M Q _ => ∃ (ns : List Int) (n : Int), ds = [.fl (ns.map D.int), .int 0, .int n] ∧ 0 ≤ n ∧ n ≤ 63 ∧ ∀ p (zs : List Int) M', M p = none → Ext M M' → M' p = some (.lst (zs.map D.int)) → Q (.obj p) M'
theorem p__law_digits (ds : List D) (M : Sto) (Q : D → Sto → Prop) (Xa) (hl : ds.length = 3) (h : A_digits ds M Q Xa) : a__law_digits A_cell ax0 ⟨fun _ M => Q .non M, Q, fun _ _ => False, fun _ _ => False⟩ (startA ["script", "first", "last", "digits", "k", "cell", "turn", "seed"] ds) M := by
  obtain ⟨ns, n, rfl, h0, h1, q⟩ := h
  unfold a__law_digits
  try (simp only [↓e_seq, ↓e_next, ↓e_break, ↓e_cont, ↓e_expr, ↓e_ret, ↓e_retN, ↓e_if, ↓e_never, ↓e_asg, ↓e_name, ↓e_agtup, ↓e_agcons, ↓e_agnil, ↓e_agsub, ↓e_aug, ↓e_dput, ↓e_var, ↓e_c, ↓e_op, ↓e_some, ↓e_none, ↓e_test, ↓e_and, ↓e_or, ↓e_not, ↓e_yes, ↓e_truth,   ↓e_tru_bl, ↓e_tru_int, ↓e_tru_non, ↓e_tru_str, ↓e_tru_tup, ↓e_tru_obj, ↓e_chain, ↓e_orV, ↓e_andV, ↓e_notV, ↓e_ifE, ↓e_neg, ↓e_nil, ↓e_cons, ↓e_tup, ↓e_lst, ↓e_dnew, ↓e_call, ↓e_cb, ↓e_isi, ↓e_sl, ↓e_onone, ↓e_osome, ↓e_rev, ↓e_lm, ↓e_append, ↓e_extend, ↓e_pop, ↓e_join, ↓e_dget2, ↓e_sortSet, ↓e_sortS, ↓e_setd, strsOf_map, ↓e_maxI, ↓e_disp, ↓e_pairN, ↓e_pairC, intsOf_map, ↓e_for, ↓e_ilist, ↓e_itup, ↓e_rng1, ↓e_rng2, ↓e_lc, ↓e_lc2, e_lc2N, ↓e_ienum, ↓e_izip, ↓e_anyB, ↓e_allB, ↓e_mulS, blsOf_map, ↓e_set0, ↓e_sadd, ↓e_sortTx, ↓e_sortD, ↓e_repr, ↓e_extT, ↓e_sc2, ↓e_sortZ, ↓e_tupVals, ↓e_wget, ↓e_wix, ↓e_listZip, zipD_nil, zipD_cons, ↓e_dgetF, ↓e_idif, ↓e_isB, ↓e_sortI, ↓e_sortSetI, ↓e_tailR, ↓e_divmod, ↓e_strI, ↓e_lenD, ↓e_fmt, ↓e_fs2,   ↓e_add_int, ↓e_add_str, ↓e_add_tup, ↓e_add_obj, ↓e_iadd_int, ↓e_iadd_str, ↓e_iadd_obj, ↓e_I, ↓e_I0, ↓e_IS_int, ↓e_IS_str, ↓e_eq_str, ↓e_ne_str, ↓e_eq_int, ↓e_ne_int, ↓e_eq_bl, ↓e_ne_bl, ↓e_isN, ↓e_notN, ↓e_ix_tup, ↓e_ix_fl, ↓e_ix_str, ↓e_ix_obj, ↓e_in_tup, ↓e_nin_tup, ↓e_len_tup, ↓e_len_fl, ↓e_len_str, ↓e_len_obj, ↓e_int_int, ↓e_tuple_tup, ↓e_tuple_obj, ↓e_list_tup, ↓e_list_obj, ↓e_dget, ↓e_din, ↓e_dnin, ↓e_lstAt, ↓e_dicAt,   e_key_int, e_key_str, e_up, e_ty_str, e_ty_tup, e_ty_int, e_ty_bl, e_ty_non, atI0, atI1, atI2, atI3, atIL, ixN0, ixN1, cut_from1, e_ite_or, e_ite_and, zln, znl, zli, zil, zni, zin, sizeLine_eq, CMul, CDiv, cpow1018, true_or, or_true, kb_strstr, kb_tupstr, kb_tuptup, kb_strtup, kb_inttup, kb_bltup, kb_nontup, kb_strbl, kb_strint, kb_intbl, kb_intint, kb_blbl, kb_blint, kb_nonbl, kb_nonint, kb_nonstr, kb_intstr, kb_blstr, kb_tupbl, kb_tupint,   List.set_cons_zero, List.set_cons_succ, List.set_nil, List.getElem?_cons_zero, List.getElem?_cons_succ, List.getElem?_nil, List.length_cons, List.length_nil, List.length_map, List.length_append, e_lcN, e_lcC, e_forN, e_forC, List.getLast?_concat, List.dropLast_concat, List.nil_append, List.cons_append, List.append_nil, List.append_assoc, List.reverse_cons, List.reverse_nil, List.isEmpty_nil, List.isEmpty_cons, isEmpty_snoc, List.any_cons, List.any_nil, List.all_cons, List.all_nil, flatD, eqF, in_non, in_tup, in_str, in_int, in_bl, in_obj, in_fl, startA, List.map_cons, List.map_nil, List.replicate_succ, List.replicate_zero,   Nat.reduceAdd, Nat.reduceSub, Nat.reduceLeDiff, Nat.zero_add, Int.reduceLE, Int.reduceLT, Int.reduceToNat, Int.reducePow, Int.reduceNeg, Int.reduceAdd, Int.reduceSub,   Option.isSome_some, Option.isSome_none, Bool.not_true, Bool.not_false, Bool.not_eq_true', Bool.not_eq_eq_eq_not, Bool.not_eq_true, Bool.false_eq_true, Bool.true_eq_false, Bool.and_true, Bool.true_and, Bool.or_false, Bool.false_or, Bool.or_true, Bool.true_or, Bool.and_false, Bool.false_and, if_true, if_false, ite_true, ite_false, reduceIte, reduceCtorEq, decide_true, decide_false, decide_eq_true_eq, decide_eq_false_iff_not, true_and, and_true, eq_self, ne_eq, not_false_eq_true, not_true_eq_false, and_self, *])
  intro p hp
  try (simp only [↓e_seq, ↓e_next, ↓e_break, ↓e_cont, ↓e_expr, ↓e_ret, ↓e_retN, ↓e_if, ↓e_never, ↓e_asg, ↓e_name, ↓e_agtup, ↓e_agcons, ↓e_agnil, ↓e_agsub, ↓e_aug, ↓e_dput, ↓e_var, ↓e_c, ↓e_op, ↓e_some, ↓e_none, ↓e_test, ↓e_and, ↓e_or, ↓e_not, ↓e_yes, ↓e_truth,   ↓e_tru_bl, ↓e_tru_int, ↓e_tru_non, ↓e_tru_str, ↓e_tru_tup, ↓e_tru_obj, ↓e_chain, ↓e_orV, ↓e_andV, ↓e_notV, ↓e_ifE, ↓e_neg, ↓e_nil, ↓e_cons, ↓e_tup, ↓e_lst, ↓e_dnew, ↓e_call, ↓e_cb, ↓e_isi, ↓e_sl, ↓e_onone, ↓e_osome, ↓e_rev, ↓e_lm, ↓e_append, ↓e_extend, ↓e_pop, ↓e_join, ↓e_dget2, ↓e_sortSet, ↓e_sortS, ↓e_setd, strsOf_map, ↓e_maxI, ↓e_disp, ↓e_pairN, ↓e_pairC, intsOf_map, ↓e_for, ↓e_ilist, ↓e_itup, ↓e_rng1, ↓e_rng2, ↓e_lc, ↓e_lc2, e_lc2N, ↓e_ienum, ↓e_izip, ↓e_anyB, ↓e_allB, ↓e_mulS, blsOf_map, ↓e_set0, ↓e_sadd, ↓e_sortTx, ↓e_sortD, ↓e_repr, ↓e_extT, ↓e_sc2, ↓e_sortZ, ↓e_tupVals, ↓e_wget, ↓e_wix, ↓e_listZip, zipD_nil, zipD_cons, ↓e_dgetF, ↓e_idif, ↓e_isB, ↓e_sortI, ↓e_sortSetI, ↓e_tailR, ↓e_divmod, ↓e_strI, ↓e_lenD, ↓e_fmt, ↓e_fs2,   ↓e_add_int, ↓e_add_str, ↓e_add_tup, ↓e_add_obj, ↓e_iadd_int, ↓e_iadd_str, ↓e_iadd_obj, ↓e_I, ↓e_I0, ↓e_IS_int, ↓e_IS_str, ↓e_eq_str, ↓e_ne_str, ↓e_eq_int, ↓e_ne_int, ↓e_eq_bl, ↓e_ne_bl, ↓e_isN, ↓e_notN, ↓e_ix_tup, ↓e_ix_fl, ↓e_ix_str, ↓e_ix_obj, ↓e_in_tup, ↓e_nin_tup, ↓e_len_tup, ↓e_len_fl, ↓e_len_str, ↓e_len_obj, ↓e_int_int, ↓e_tuple_tup, ↓e_tuple_obj, ↓e_list_tup, ↓e_list_obj, ↓e_dget, ↓e_din, ↓e_dnin, ↓e_lstAt, ↓e_dicAt,   e_key_int, e_key_str, e_up, e_ty_str, e_ty_tup, e_ty_int, e_ty_bl, e_ty_non, atI0, atI1, atI2, atI3, atIL, ixN0, ixN1, cut_from1, e_ite_or, e_ite_and, zln, znl, zli, zil, zni, zin, sizeLine_eq, CMul, CDiv, cpow1018, true_or, or_true, kb_strstr, kb_tupstr, kb_tuptup, kb_strtup, kb_inttup, kb_bltup, kb_nontup, kb_strbl, kb_strint, kb_intbl, kb_intint, kb_blbl, kb_blint, kb_nonbl, kb_nonint, kb_nonstr, kb_intstr, kb_blstr, kb_tupbl, kb_tupint,   List.set_cons_zero, List.set_cons_succ, List.set_nil, List.getElem?_cons_zero, List.getElem?_cons_succ, List.getElem?_nil, List.length_cons, List.length_nil, List.length_map, List.length_append, e_lcN, e_lcC, e_forN, e_forC, List.getLast?_concat, List.dropLast_concat, List.nil_append, List.cons_append, List.append_nil, List.append_assoc, List.reverse_cons, List.reverse_nil, List.isEmpty_nil, List.isEmpty_cons, isEmpty_snoc, List.any_cons, List.any_nil, List.all_cons, List.all_nil, flatD, eqF, in_non, in_tup, in_str, in_int, in_bl, in_obj, in_fl, startA, List.map_cons, List.map_nil, List.replicate_succ, List.replicate_zero,   Nat.reduceAdd, Nat.reduceSub, Nat.reduceLeDiff, Nat.zero_add, Int.reduceLE, Int.reduceLT, Int.reduceToNat, Int.reducePow, Int.reduceNeg, Int.reduceAdd, Int.reduceSub,   Option.isSome_some, Option.isSome_none, Bool.not_true, Bool.not_false, Bool.not_eq_true', Bool.not_eq_eq_eq_not, Bool.not_eq_true, Bool.false_eq_true, Bool.true_eq_false, Bool.and_true, Bool.true_and, Bool.or_false, Bool.false_or, Bool.or_true, Bool.true_or, Bool.and_false, Bool.false_and, if_true, if_false, ite_true, ite_false, reduceIte, reduceCtorEq, decide_true, decide_false, decide_eq_true_eq, decide_eq_false_iff_not, true_and, and_true, eq_self, ne_eq, not_false_eq_true, not_true_eq_false, and_self, *])
  refine ⟨⟨by omega, by omega⟩, ?_⟩
  refine for_run (fun ds env M' => ∃ lo m x4 x5 x6 x7 zs, ds = rngD lo m ∧ 0 ≤ lo ∧ lo ≤ 100 ∧ lo + m ≤ 100 ∧ env = [some (.fl (ns.map D.int)), some (.int 0), some (.int n), some (.obj p), x4, x5, x6, x7] ∧ M' p = some (.lst (zs.map D.int)) ∧ ExtB p M M' ∧ zs.length + 60 * m ≤ 10000) (fun _ _ _ _ => trivial) ?_ ?_ ⟨0, _, none, none, none, none, [], rfl, by omega, by omega, by omega, rfl, up_same, ExtB.upd, by simp; omega⟩
  · rintro env M' ⟨lo, m, x4, x5, x6, x7, zs, _, _, _, _, rfl, hp', he, _⟩
    try (simp only [↓e_seq, ↓e_next, ↓e_break, ↓e_cont, ↓e_expr, ↓e_ret, ↓e_retN, ↓e_if, ↓e_never, ↓e_asg, ↓e_name, ↓e_agtup, ↓e_agcons, ↓e_agnil, ↓e_agsub, ↓e_aug, ↓e_dput, ↓e_var, ↓e_c, ↓e_op, ↓e_some, ↓e_none, ↓e_test, ↓e_and, ↓e_or, ↓e_not, ↓e_yes, ↓e_truth,   ↓e_tru_bl, ↓e_tru_int, ↓e_tru_non, ↓e_tru_str, ↓e_tru_tup, ↓e_tru_obj, ↓e_chain, ↓e_orV, ↓e_andV, ↓e_notV, ↓e_ifE, ↓e_neg, ↓e_nil, ↓e_cons, ↓e_tup, ↓e_lst, ↓e_dnew, ↓e_call, ↓e_cb, ↓e_isi, ↓e_sl, ↓e_onone, ↓e_osome, ↓e_rev, ↓e_lm, ↓e_append, ↓e_extend, ↓e_pop, ↓e_join, ↓e_dget2, ↓e_sortSet, ↓e_sortS, ↓e_setd, strsOf_map, ↓e_maxI, ↓e_disp, ↓e_pairN, ↓e_pairC, intsOf_map, ↓e_for, ↓e_ilist, ↓e_itup, ↓e_rng1, ↓e_rng2, ↓e_lc, ↓e_lc2, e_lc2N, ↓e_ienum, ↓e_izip, ↓e_anyB, ↓e_allB, ↓e_mulS, blsOf_map, ↓e_set0, ↓e_sadd, ↓e_sortTx, ↓e_sortD, ↓e_repr, ↓e_extT, ↓e_sc2, ↓e_sortZ, ↓e_tupVals, ↓e_wget, ↓e_wix, ↓e_listZip, zipD_nil, zipD_cons, ↓e_dgetF, ↓e_idif, ↓e_isB, ↓e_sortI, ↓e_sortSetI, ↓e_tailR, ↓e_divmod, ↓e_strI, ↓e_lenD, ↓e_fmt, ↓e_fs2,   ↓e_add_int, ↓e_add_str, ↓e_add_tup, ↓e_add_obj, ↓e_iadd_int, ↓e_iadd_str, ↓e_iadd_obj, ↓e_I, ↓e_I0, ↓e_IS_int, ↓e_IS_str, ↓e_eq_str, ↓e_ne_str, ↓e_eq_int, ↓e_ne_int, ↓e_eq_bl, ↓e_ne_bl, ↓e_isN, ↓e_notN, ↓e_ix_tup, ↓e_ix_fl, ↓e_ix_str, ↓e_ix_obj, ↓e_in_tup, ↓e_nin_tup, ↓e_len_tup, ↓e_len_fl, ↓e_len_str, ↓e_len_obj, ↓e_int_int, ↓e_tuple_tup, ↓e_tuple_obj, ↓e_list_tup, ↓e_list_obj, ↓e_dget, ↓e_din, ↓e_dnin, ↓e_lstAt, ↓e_dicAt,   e_key_int, e_key_str, e_up, e_ty_str, e_ty_tup, e_ty_int, e_ty_bl, e_ty_non, atI0, atI1, atI2, atI3, atIL, ixN0, ixN1, cut_from1, e_ite_or, e_ite_and, zln, znl, zli, zil, zni, zin, sizeLine_eq, CMul, CDiv, cpow1018, true_or, or_true, kb_strstr, kb_tupstr, kb_tuptup, kb_strtup, kb_inttup, kb_bltup, kb_nontup, kb_strbl, kb_strint, kb_intbl, kb_intint, kb_blbl, kb_blint, kb_nonbl, kb_nonint, kb_nonstr, kb_intstr, kb_blstr, kb_tupbl, kb_tupint,   List.set_cons_zero, List.set_cons_succ, List.set_nil, List.getElem?_cons_zero, List.getElem?_cons_succ, List.getElem?_nil, List.length_cons, List.length_nil, List.length_map, List.length_append, e_lcN, e_lcC, e_forN, e_forC, List.getLast?_concat, List.dropLast_concat, List.nil_append, List.cons_append, List.append_nil, List.append_assoc, List.reverse_cons, List.reverse_nil, List.isEmpty_nil, List.isEmpty_cons, isEmpty_snoc, List.any_cons, List.any_nil, List.all_cons, List.all_nil, flatD, eqF, in_non, in_tup, in_str, in_int, in_bl, in_obj, in_fl, startA, List.map_cons, List.map_nil, List.replicate_succ, List.replicate_zero,   Nat.reduceAdd, Nat.reduceSub, Nat.reduceLeDiff, Nat.zero_add, Int.reduceLE, Int.reduceLT, Int.reduceToNat, Int.reducePow, Int.reduceNeg, Int.reduceAdd, Int.reduceSub,   Option.isSome_some, Option.isSome_none, Bool.not_true, Bool.not_false, Bool.not_eq_true', Bool.not_eq_eq_eq_not, Bool.not_eq_true, Bool.false_eq_true, Bool.true_eq_false, Bool.and_true, Bool.true_and, Bool.or_false, Bool.false_or, Bool.or_true, Bool.true_or, Bool.and_false, Bool.false_and, if_true, if_false, ite_true, ite_false, reduceIte, reduceCtorEq, decide_true, decide_false, decide_eq_true_eq, decide_eq_false_iff_not, true_and, and_true, eq_self, ne_eq, not_false_eq_true, not_true_eq_false, and_self, *])
    exact q p zs M' hp (he.ext hp) hp'
  · rintro d r N env M' ⟨lo, m, x4, x5, x6, x7, zs, hd, hlo, hlo1, hlo2, rfl, hp', he, hz⟩ next
    obtain ⟨m, rfl, rfl, rfl⟩ := rngD_cons hd.symm
    try (simp only [↓e_seq, ↓e_next, ↓e_break, ↓e_cont, ↓e_expr, ↓e_ret, ↓e_retN, ↓e_if, ↓e_never, ↓e_asg, ↓e_name, ↓e_agtup, ↓e_agcons, ↓e_agnil, ↓e_agsub, ↓e_aug, ↓e_dput, ↓e_var, ↓e_c, ↓e_op, ↓e_some, ↓e_none, ↓e_test, ↓e_and, ↓e_or, ↓e_not, ↓e_yes, ↓e_truth,   ↓e_tru_bl, ↓e_tru_int, ↓e_tru_non, ↓e_tru_str, ↓e_tru_tup, ↓e_tru_obj, ↓e_chain, ↓e_orV, ↓e_andV, ↓e_notV, ↓e_ifE, ↓e_neg, ↓e_nil, ↓e_cons, ↓e_tup, ↓e_lst, ↓e_dnew, ↓e_call, ↓e_cb, ↓e_isi, ↓e_sl, ↓e_onone, ↓e_osome, ↓e_rev, ↓e_lm, ↓e_append, ↓e_extend, ↓e_pop, ↓e_join, ↓e_dget2, ↓e_sortSet, ↓e_sortS, ↓e_setd, strsOf_map, ↓e_maxI, ↓e_disp, ↓e_pairN, ↓e_pairC, intsOf_map, ↓e_for, ↓e_ilist, ↓e_itup, ↓e_rng1, ↓e_rng2, ↓e_lc, ↓e_lc2, e_lc2N, ↓e_ienum, ↓e_izip, ↓e_anyB, ↓e_allB, ↓e_mulS, blsOf_map, ↓e_set0, ↓e_sadd, ↓e_sortTx, ↓e_sortD, ↓e_repr, ↓e_extT, ↓e_sc2, ↓e_sortZ, ↓e_tupVals, ↓e_wget, ↓e_wix, ↓e_listZip, zipD_nil, zipD_cons, ↓e_dgetF, ↓e_idif, ↓e_isB, ↓e_sortI, ↓e_sortSetI, ↓e_tailR, ↓e_divmod, ↓e_strI, ↓e_lenD, ↓e_fmt, ↓e_fs2,   ↓e_add_int, ↓e_add_str, ↓e_add_tup, ↓e_add_obj, ↓e_iadd_int, ↓e_iadd_str, ↓e_iadd_obj, ↓e_I, ↓e_I0, ↓e_IS_int, ↓e_IS_str, ↓e_eq_str, ↓e_ne_str, ↓e_eq_int, ↓e_ne_int, ↓e_eq_bl, ↓e_ne_bl, ↓e_isN, ↓e_notN, ↓e_ix_tup, ↓e_ix_fl, ↓e_ix_str, ↓e_ix_obj, ↓e_in_tup, ↓e_nin_tup, ↓e_len_tup, ↓e_len_fl, ↓e_len_str, ↓e_len_obj, ↓e_int_int, ↓e_tuple_tup, ↓e_tuple_obj, ↓e_list_tup, ↓e_list_obj, ↓e_dget, ↓e_din, ↓e_dnin, ↓e_lstAt, ↓e_dicAt,   e_key_int, e_key_str, e_up, e_ty_str, e_ty_tup, e_ty_int, e_ty_bl, e_ty_non, atI0, atI1, atI2, atI3, atIL, ixN0, ixN1, cut_from1, e_ite_or, e_ite_and, zln, znl, zli, zil, zni, zin, sizeLine_eq, CMul, CDiv, cpow1018, true_or, or_true, kb_strstr, kb_tupstr, kb_tuptup, kb_strtup, kb_inttup, kb_bltup, kb_nontup, kb_strbl, kb_strint, kb_intbl, kb_intint, kb_blbl, kb_blint, kb_nonbl, kb_nonint, kb_nonstr, kb_intstr, kb_blstr, kb_tupbl, kb_tupint,   List.set_cons_zero, List.set_cons_succ, List.set_nil, List.getElem?_cons_zero, List.getElem?_cons_succ, List.getElem?_nil, List.length_cons, List.length_nil, List.length_map, List.length_append, e_lcN, e_lcC, e_forN, e_forC, List.getLast?_concat, List.dropLast_concat, List.nil_append, List.cons_append, List.append_nil, List.append_assoc, List.reverse_cons, List.reverse_nil, List.isEmpty_nil, List.isEmpty_cons, isEmpty_snoc, List.any_cons, List.any_nil, List.all_cons, List.all_nil, flatD, eqF, in_non, in_tup, in_str, in_int, in_bl, in_obj, in_fl, startA, List.map_cons, List.map_nil, List.replicate_succ, List.replicate_zero,   Nat.reduceAdd, Nat.reduceSub, Nat.reduceLeDiff, Nat.zero_add, Int.reduceLE, Int.reduceLT, Int.reduceToNat, Int.reducePow, Int.reduceNeg, Int.reduceAdd, Int.reduceSub,   Option.isSome_some, Option.isSome_none, Bool.not_true, Bool.not_false, Bool.not_eq_true', Bool.not_eq_eq_eq_not, Bool.not_eq_true, Bool.false_eq_true, Bool.true_eq_false, Bool.and_true, Bool.true_and, Bool.or_false, Bool.false_or, Bool.or_true, Bool.true_or, Bool.and_false, Bool.false_and, if_true, if_false, ite_true, ite_false, reduceIte, reduceCtorEq, decide_true, decide_false, decide_eq_true_eq, decide_eq_false_iff_not, true_and, and_true, eq_self, ne_eq, not_false_eq_true, not_true_eq_false, and_self, *])
    refine ⟨rfl, ns, lo, rfl, hlo, fun v => ?_⟩
    try (simp only [↓e_seq, ↓e_next, ↓e_break, ↓e_cont, ↓e_expr, ↓e_ret, ↓e_retN, ↓e_if, ↓e_never, ↓e_asg, ↓e_name, ↓e_agtup, ↓e_agcons, ↓e_agnil, ↓e_agsub, ↓e_aug, ↓e_dput, ↓e_var, ↓e_c, ↓e_op, ↓e_some, ↓e_none, ↓e_test, ↓e_and, ↓e_or, ↓e_not, ↓e_yes, ↓e_truth,   ↓e_tru_bl, ↓e_tru_int, ↓e_tru_non, ↓e_tru_str, ↓e_tru_tup, ↓e_tru_obj, ↓e_chain, ↓e_orV, ↓e_andV, ↓e_notV, ↓e_ifE, ↓e_neg, ↓e_nil, ↓e_cons, ↓e_tup, ↓e_lst, ↓e_dnew, ↓e_call, ↓e_cb, ↓e_isi, ↓e_sl, ↓e_onone, ↓e_osome, ↓e_rev, ↓e_lm, ↓e_append, ↓e_extend, ↓e_pop, ↓e_join, ↓e_dget2, ↓e_sortSet, ↓e_sortS, ↓e_setd, strsOf_map, ↓e_maxI, ↓e_disp, ↓e_pairN, ↓e_pairC, intsOf_map, ↓e_for, ↓e_ilist, ↓e_itup, ↓e_rng1, ↓e_rng2, ↓e_lc, ↓e_lc2, e_lc2N, ↓e_ienum, ↓e_izip, ↓e_anyB, ↓e_allB, ↓e_mulS, blsOf_map, ↓e_set0, ↓e_sadd, ↓e_sortTx, ↓e_sortD, ↓e_repr, ↓e_extT, ↓e_sc2, ↓e_sortZ, ↓e_tupVals, ↓e_wget, ↓e_wix, ↓e_listZip, zipD_nil, zipD_cons, ↓e_dgetF, ↓e_idif, ↓e_isB, ↓e_sortI, ↓e_sortSetI, ↓e_tailR, ↓e_divmod, ↓e_strI, ↓e_lenD, ↓e_fmt, ↓e_fs2,   ↓e_add_int, ↓e_add_str, ↓e_add_tup, ↓e_add_obj, ↓e_iadd_int, ↓e_iadd_str, ↓e_iadd_obj, ↓e_I, ↓e_I0, ↓e_IS_int, ↓e_IS_str, ↓e_eq_str, ↓e_ne_str, ↓e_eq_int, ↓e_ne_int, ↓e_eq_bl, ↓e_ne_bl, ↓e_isN, ↓e_notN, ↓e_ix_tup, ↓e_ix_fl, ↓e_ix_str, ↓e_ix_obj, ↓e_in_tup, ↓e_nin_tup, ↓e_len_tup, ↓e_len_fl, ↓e_len_str, ↓e_len_obj, ↓e_int_int, ↓e_tuple_tup, ↓e_tuple_obj, ↓e_list_tup, ↓e_list_obj, ↓e_dget, ↓e_din, ↓e_dnin, ↓e_lstAt, ↓e_dicAt,   e_key_int, e_key_str, e_up, e_ty_str, e_ty_tup, e_ty_int, e_ty_bl, e_ty_non, atI0, atI1, atI2, atI3, atIL, ixN0, ixN1, cut_from1, e_ite_or, e_ite_and, zln, znl, zli, zil, zni, zin, sizeLine_eq, CMul, CDiv, cpow1018, true_or, or_true, kb_strstr, kb_tupstr, kb_tuptup, kb_strtup, kb_inttup, kb_bltup, kb_nontup, kb_strbl, kb_strint, kb_intbl, kb_intint, kb_blbl, kb_blint, kb_nonbl, kb_nonint, kb_nonstr, kb_intstr, kb_blstr, kb_tupbl, kb_tupint,   List.set_cons_zero, List.set_cons_succ, List.set_nil, List.getElem?_cons_zero, List.getElem?_cons_succ, List.getElem?_nil, List.length_cons, List.length_nil, List.length_map, List.length_append, e_lcN, e_lcC, e_forN, e_forC, List.getLast?_concat, List.dropLast_concat, List.nil_append, List.cons_append, List.append_nil, List.append_assoc, List.reverse_cons, List.reverse_nil, List.isEmpty_nil, List.isEmpty_cons, isEmpty_snoc, List.any_cons, List.any_nil, List.all_cons, List.all_nil, flatD, eqF, in_non, in_tup, in_str, in_int, in_bl, in_obj, in_fl, startA, List.map_cons, List.map_nil, List.replicate_succ, List.replicate_zero,   Nat.reduceAdd, Nat.reduceSub, Nat.reduceLeDiff, Nat.zero_add, Int.reduceLE, Int.reduceLT, Int.reduceToNat, Int.reducePow, Int.reduceNeg, Int.reduceAdd, Int.reduceSub,   Option.isSome_some, Option.isSome_none, Bool.not_true, Bool.not_false, Bool.not_eq_true', Bool.not_eq_eq_eq_not, Bool.not_eq_true, Bool.false_eq_true, Bool.true_eq_false, Bool.and_true, Bool.true_and, Bool.or_false, Bool.false_or, Bool.or_true, Bool.true_or, Bool.and_false, Bool.false_and, if_true, if_false, ite_true, ite_false, reduceIte, reduceCtorEq, decide_true, decide_false, decide_eq_true_eq, decide_eq_false_iff_not, true_and, and_true, eq_self, ne_eq, not_false_eq_true, not_true_eq_false, and_self, *])
    split <;> split
    iterate 2
      · refine for_run (fun ds env M'' => ∃ l2 m2 w x6 zs2, ds = rngD l2 m2 ∧ env = [some (.fl (ns.map D.int)), some (.int 0), some (.int n), some (.obj p), some (.int lo), some (.int w), x6, x7] ∧ M'' p = some (.lst (zs2.map D.int)) ∧ ExtB p M M'' ∧ zs2.length + m2 ≤ zs.length + 60) (fun _ _ _ _ => trivial) ?_ ?_ ⟨0, 60, _, x6, zs, rfl, rfl, hp', he, by omega⟩
        · rintro env M'' ⟨l2, m2, w, x6, zs2, hd2, rfl, hp2, he2, hz2⟩
          have z := rngD_nil hd2.symm
          subst z
          exact next _ _ ⟨lo + 1, m, _, _, _, _, zs2, rfl, by omega, by omega, by omega, rfl, hp2, he2, by omega⟩
        · rintro d r N2 env M'' ⟨l2, m2, w, x6, zs2, hd2, rfl, hp2, he2, hz2⟩ next2
          obtain ⟨m2, rfl, rfl, rfl⟩ := rngD_cons hd2.symm
          try (simp only [↓e_seq, ↓e_next, ↓e_break, ↓e_cont, ↓e_expr, ↓e_ret, ↓e_retN, ↓e_if, ↓e_never, ↓e_asg, ↓e_name, ↓e_agtup, ↓e_agcons, ↓e_agnil, ↓e_agsub, ↓e_aug, ↓e_dput, ↓e_var, ↓e_c, ↓e_op, ↓e_some, ↓e_none, ↓e_test, ↓e_and, ↓e_or, ↓e_not, ↓e_yes, ↓e_truth,   ↓e_tru_bl, ↓e_tru_int, ↓e_tru_non, ↓e_tru_str, ↓e_tru_tup, ↓e_tru_obj, ↓e_chain, ↓e_orV, ↓e_andV, ↓e_notV, ↓e_ifE, ↓e_neg, ↓e_nil, ↓e_cons, ↓e_tup, ↓e_lst, ↓e_dnew, ↓e_call, ↓e_cb, ↓e_isi, ↓e_sl, ↓e_onone, ↓e_osome, ↓e_rev, ↓e_lm, ↓e_append, ↓e_extend, ↓e_pop, ↓e_join, ↓e_dget2, ↓e_sortSet, ↓e_sortS, ↓e_setd, strsOf_map, ↓e_maxI, ↓e_disp, ↓e_pairN, ↓e_pairC, intsOf_map, ↓e_for, ↓e_ilist, ↓e_itup, ↓e_rng1, ↓e_rng2, ↓e_lc, ↓e_lc2, e_lc2N, ↓e_ienum, ↓e_izip, ↓e_anyB, ↓e_allB, ↓e_mulS, blsOf_map, ↓e_set0, ↓e_sadd, ↓e_sortTx, ↓e_sortD, ↓e_repr, ↓e_extT, ↓e_sc2, ↓e_sortZ, ↓e_tupVals, ↓e_wget, ↓e_wix, ↓e_listZip, zipD_nil, zipD_cons, ↓e_dgetF, ↓e_idif, ↓e_isB, ↓e_sortI, ↓e_sortSetI, ↓e_tailR, ↓e_divmod, ↓e_strI, ↓e_lenD, ↓e_fmt, ↓e_fs2,   ↓e_add_int, ↓e_add_str, ↓e_add_tup, ↓e_add_obj, ↓e_iadd_int, ↓e_iadd_str, ↓e_iadd_obj, ↓e_I, ↓e_I0, ↓e_IS_int, ↓e_IS_str, ↓e_eq_str, ↓e_ne_str, ↓e_eq_int, ↓e_ne_int, ↓e_eq_bl, ↓e_ne_bl, ↓e_isN, ↓e_notN, ↓e_ix_tup, ↓e_ix_fl, ↓e_ix_str, ↓e_ix_obj, ↓e_in_tup, ↓e_nin_tup, ↓e_len_tup, ↓e_len_fl, ↓e_len_str, ↓e_len_obj, ↓e_int_int, ↓e_tuple_tup, ↓e_tuple_obj, ↓e_list_tup, ↓e_list_obj, ↓e_dget, ↓e_din, ↓e_dnin, ↓e_lstAt, ↓e_dicAt,   e_key_int, e_key_str, e_up, e_ty_str, e_ty_tup, e_ty_int, e_ty_bl, e_ty_non, atI0, atI1, atI2, atI3, atIL, ixN0, ixN1, cut_from1, e_ite_or, e_ite_and, zln, znl, zli, zil, zni, zin, sizeLine_eq, CMul, CDiv, cpow1018, true_or, or_true, kb_strstr, kb_tupstr, kb_tuptup, kb_strtup, kb_inttup, kb_bltup, kb_nontup, kb_strbl, kb_strint, kb_intbl, kb_intint, kb_blbl, kb_blint, kb_nonbl, kb_nonint, kb_nonstr, kb_intstr, kb_blstr, kb_tupbl, kb_tupint,   List.set_cons_zero, List.set_cons_succ, List.set_nil, List.getElem?_cons_zero, List.getElem?_cons_succ, List.getElem?_nil, List.length_cons, List.length_nil, List.length_map, List.length_append, e_lcN, e_lcC, e_forN, e_forC, List.getLast?_concat, List.dropLast_concat, List.nil_append, List.cons_append, List.append_nil, List.append_assoc, List.reverse_cons, List.reverse_nil, List.isEmpty_nil, List.isEmpty_cons, isEmpty_snoc, List.any_cons, List.any_nil, List.all_cons, List.all_nil, flatD, eqF, in_non, in_tup, in_str, in_int, in_bl, in_obj, in_fl, startA, List.map_cons, List.map_nil, List.replicate_succ, List.replicate_zero,   Nat.reduceAdd, Nat.reduceSub, Nat.reduceLeDiff, Nat.zero_add, Int.reduceLE, Int.reduceLT, Int.reduceToNat, Int.reducePow, Int.reduceNeg, Int.reduceAdd, Int.reduceSub,   Option.isSome_some, Option.isSome_none, Bool.not_true, Bool.not_false, Bool.not_eq_true', Bool.not_eq_eq_eq_not, Bool.not_eq_true, Bool.false_eq_true, Bool.true_eq_false, Bool.and_true, Bool.true_and, Bool.or_false, Bool.false_or, Bool.or_true, Bool.true_or, Bool.and_false, Bool.false_and, if_true, if_false, ite_true, ite_false, reduceIte, reduceCtorEq, decide_true, decide_false, decide_eq_true_eq, decide_eq_false_iff_not, true_and, and_true, eq_self, ne_eq, not_false_eq_true, not_true_eq_false, and_self, *])
          split
          · refine ⟨by omega, ?_⟩
            refine next2 _ _ ⟨l2 + 1, m2, _, _, zs2 ++ [w % 1000], rfl, rfl, ?_, he2.trans ExtB.upd, ?_⟩
            · rw [up_same, map_snoc]
            · rw [List.length_append, List.length_singleton]
              omega
          · exact next2 _ _ ⟨l2 + 1, m2, _, _, zs2, rfl, rfl, hp2, he2, by omega⟩
      · refine for_run (fun ds env M'' => ∃ l2 m2 x5 x6 sd zs2, ds = rngD l2 m2 ∧ env = [some (.fl (ns.map D.int)), some (.int 0), some (.int n), some (.obj p), some (.int lo), x5, x6, some (.int sd)] ∧ M'' p = some (.lst (zs2.map D.int)) ∧ ExtB p M M'' ∧ zs2.length + m2 ≤ zs.length + 12) (fun _ _ _ _ => trivial) ?_ ?_ ⟨0, 12, _, x6, _, zs, rfl, rfl, hp', he, by omega⟩
        · rintro env M'' ⟨l2, m2, x5, x6, sd, zs2, hd2, rfl, hp2, he2, hz2⟩
          have z := rngD_nil hd2.symm
          subst z
          exact next _ _ ⟨lo + 1, m, _, _, _, _, zs2, rfl, by omega, by omega, by omega, rfl, hp2, he2, by omega⟩
        · rintro d r N2 env M'' ⟨l2, m2, x5, x6, sd, zs2, hd2, rfl, hp2, he2, hz2⟩ next2
          obtain ⟨m2, rfl, rfl, rfl⟩ := rngD_cons hd2.symm
          try (simp only [↓e_seq, ↓e_next, ↓e_break, ↓e_cont, ↓e_expr, ↓e_ret, ↓e_retN, ↓e_if, ↓e_never, ↓e_asg, ↓e_name, ↓e_agtup, ↓e_agcons, ↓e_agnil, ↓e_agsub, ↓e_aug, ↓e_dput, ↓e_var, ↓e_c, ↓e_op, ↓e_some, ↓e_none, ↓e_test, ↓e_and, ↓e_or, ↓e_not, ↓e_yes, ↓e_truth,   ↓e_tru_bl, ↓e_tru_int, ↓e_tru_non, ↓e_tru_str, ↓e_tru_tup, ↓e_tru_obj, ↓e_chain, ↓e_orV, ↓e_andV, ↓e_notV, ↓e_ifE, ↓e_neg, ↓e_nil, ↓e_cons, ↓e_tup, ↓e_lst, ↓e_dnew, ↓e_call, ↓e_cb, ↓e_isi, ↓e_sl, ↓e_onone, ↓e_osome, ↓e_rev, ↓e_lm, ↓e_append, ↓e_extend, ↓e_pop, ↓e_join, ↓e_dget2, ↓e_sortSet, ↓e_sortS, ↓e_setd, strsOf_map, ↓e_maxI, ↓e_disp, ↓e_pairN, ↓e_pairC, intsOf_map, ↓e_for, ↓e_ilist, ↓e_itup, ↓e_rng1, ↓e_rng2, ↓e_lc, ↓e_lc2, e_lc2N, ↓e_ienum, ↓e_izip, ↓e_anyB, ↓e_allB, ↓e_mulS, blsOf_map, ↓e_set0, ↓e_sadd, ↓e_sortTx, ↓e_sortD, ↓e_repr, ↓e_extT, ↓e_sc2, ↓e_sortZ, ↓e_tupVals, ↓e_wget, ↓e_wix, ↓e_listZip, zipD_nil, zipD_cons, ↓e_dgetF, ↓e_idif, ↓e_isB, ↓e_sortI, ↓e_sortSetI, ↓e_tailR, ↓e_divmod, ↓e_strI, ↓e_lenD, ↓e_fmt, ↓e_fs2,   ↓e_add_int, ↓e_add_str, ↓e_add_tup, ↓e_add_obj, ↓e_iadd_int, ↓e_iadd_str, ↓e_iadd_obj, ↓e_I, ↓e_I0, ↓e_IS_int, ↓e_IS_str, ↓e_eq_str, ↓e_ne_str, ↓e_eq_int, ↓e_ne_int, ↓e_eq_bl, ↓e_ne_bl, ↓e_isN, ↓e_notN, ↓e_ix_tup, ↓e_ix_fl, ↓e_ix_str, ↓e_ix_obj, ↓e_in_tup, ↓e_nin_tup, ↓e_len_tup, ↓e_len_fl, ↓e_len_str, ↓e_len_obj, ↓e_int_int, ↓e_tuple_tup, ↓e_tuple_obj, ↓e_list_tup, ↓e_list_obj, ↓e_dget, ↓e_din, ↓e_dnin, ↓e_lstAt, ↓e_dicAt,   e_key_int, e_key_str, e_up, e_ty_str, e_ty_tup, e_ty_int, e_ty_bl, e_ty_non, atI0, atI1, atI2, atI3, atIL, ixN0, ixN1, cut_from1, e_ite_or, e_ite_and, zln, znl, zli, zil, zni, zin, sizeLine_eq, CMul, CDiv, cpow1018, true_or, or_true, kb_strstr, kb_tupstr, kb_tuptup, kb_strtup, kb_inttup, kb_bltup, kb_nontup, kb_strbl, kb_strint, kb_intbl, kb_intint, kb_blbl, kb_blint, kb_nonbl, kb_nonint, kb_nonstr, kb_intstr, kb_blstr, kb_tupbl, kb_tupint,   List.set_cons_zero, List.set_cons_succ, List.set_nil, List.getElem?_cons_zero, List.getElem?_cons_succ, List.getElem?_nil, List.length_cons, List.length_nil, List.length_map, List.length_append, e_lcN, e_lcC, e_forN, e_forC, List.getLast?_concat, List.dropLast_concat, List.nil_append, List.cons_append, List.append_nil, List.append_assoc, List.reverse_cons, List.reverse_nil, List.isEmpty_nil, List.isEmpty_cons, isEmpty_snoc, List.any_cons, List.any_nil, List.all_cons, List.all_nil, flatD, eqF, in_non, in_tup, in_str, in_int, in_bl, in_obj, in_fl, startA, List.map_cons, List.map_nil, List.replicate_succ, List.replicate_zero,   Nat.reduceAdd, Nat.reduceSub, Nat.reduceLeDiff, Nat.zero_add, Int.reduceLE, Int.reduceLT, Int.reduceToNat, Int.reducePow, Int.reduceNeg, Int.reduceAdd, Int.reduceSub,   Option.isSome_some, Option.isSome_none, Bool.not_true, Bool.not_false, Bool.not_eq_true', Bool.not_eq_eq_eq_not, Bool.not_eq_true, Bool.false_eq_true, Bool.true_eq_false, Bool.and_true, Bool.true_and, Bool.or_false, Bool.false_or, Bool.or_true, Bool.true_or, Bool.and_false, Bool.false_and, if_true, if_false, ite_true, ite_false, reduceIte, reduceCtorEq, decide_true, decide_false, decide_eq_true_eq, decide_eq_false_iff_not, true_and, and_true, eq_self, ne_eq, not_false_eq_true, not_true_eq_false, and_self, *])
          refine ⟨by omega, ?_⟩
          refine next2 _ _ ⟨l2 + 1, m2, _, _, _, zs2 ++ [(sd * 16807 + 7 * l2 + 1) % 2147483647 / 997 % 1000], rfl, rfl, ?_, he2.trans ExtB.upd, ?_⟩
          · rw [up_same, map_snoc]
          · rw [List.length_append, List.length_singleton]
            omega
def A_box : ASp := fun ds M Q _ => ∃ (ns : List Int) (n : Int), ds = [.fl (ns.map D.int), .int 0, .int n] ∧ 0 ≤ n ∧ n ≤ 63 ∧ ∀ b d M', M b = none → M d = none → Ext M M' → BoxAt M' b d → Q (.obj b) M'
theorem p__law_box (ds : List D) (M : Sto) (Q : D → Sto → Prop) (Xa) (hl : ds.length = 3) (h : A_box ds M Q Xa) : a__law_box A_digits ax0 ⟨fun _ M => Q .non M, Q, fun _ _ => False, fun _ _ => False⟩ (startA ["script", "first", "last"] ds) M := by
  obtain ⟨ns, n, rfl, h0, h1, q⟩ := h
  unfold a__law_box
  try (simp only [↓e_seq, ↓e_next, ↓e_break, ↓e_cont, ↓e_expr, ↓e_ret, ↓e_retN, ↓e_if, ↓e_never, ↓e_asg, ↓e_name, ↓e_agtup, ↓e_agcons, ↓e_agnil, ↓e_agsub, ↓e_aug, ↓e_dput, ↓e_var, ↓e_c, ↓e_op, ↓e_some, ↓e_none, ↓e_test, ↓e_and, ↓e_or, ↓e_not, ↓e_yes, ↓e_truth,   ↓e_tru_bl, ↓e_tru_int, ↓e_tru_non, ↓e_tru_str, ↓e_tru_tup, ↓e_tru_obj, ↓e_chain, ↓e_orV, ↓e_andV, ↓e_notV, ↓e_ifE, ↓e_neg, ↓e_nil, ↓e_cons, ↓e_tup, ↓e_lst, ↓e_dnew, ↓e_call, ↓e_cb, ↓e_isi, ↓e_sl, ↓e_onone, ↓e_osome, ↓e_rev, ↓e_lm, ↓e_append, ↓e_extend, ↓e_pop, ↓e_join, ↓e_dget2, ↓e_sortSet, ↓e_sortS, ↓e_setd, strsOf_map, ↓e_maxI, ↓e_disp, ↓e_pairN, ↓e_pairC, intsOf_map, ↓e_for, ↓e_ilist, ↓e_itup, ↓e_rng1, ↓e_rng2, ↓e_lc, ↓e_lc2, e_lc2N, ↓e_ienum, ↓e_izip, ↓e_anyB, ↓e_allB, ↓e_mulS, blsOf_map, ↓e_set0, ↓e_sadd, ↓e_sortTx, ↓e_sortD, ↓e_repr, ↓e_extT, ↓e_sc2, ↓e_sortZ, ↓e_tupVals, ↓e_wget, ↓e_wix, ↓e_listZip, zipD_nil, zipD_cons, ↓e_dgetF, ↓e_idif, ↓e_isB, ↓e_sortI, ↓e_sortSetI, ↓e_tailR, ↓e_divmod, ↓e_strI, ↓e_lenD, ↓e_fmt, ↓e_fs2,   ↓e_add_int, ↓e_add_str, ↓e_add_tup, ↓e_add_obj, ↓e_iadd_int, ↓e_iadd_str, ↓e_iadd_obj, ↓e_I, ↓e_I0, ↓e_IS_int, ↓e_IS_str, ↓e_eq_str, ↓e_ne_str, ↓e_eq_int, ↓e_ne_int, ↓e_eq_bl, ↓e_ne_bl, ↓e_isN, ↓e_notN, ↓e_ix_tup, ↓e_ix_fl, ↓e_ix_str, ↓e_ix_obj, ↓e_in_tup, ↓e_nin_tup, ↓e_len_tup, ↓e_len_fl, ↓e_len_str, ↓e_len_obj, ↓e_int_int, ↓e_tuple_tup, ↓e_tuple_obj, ↓e_list_tup, ↓e_list_obj, ↓e_dget, ↓e_din, ↓e_dnin, ↓e_lstAt, ↓e_dicAt,   e_key_int, e_key_str, e_up, e_ty_str, e_ty_tup, e_ty_int, e_ty_bl, e_ty_non, atI0, atI1, atI2, atI3, atIL, ixN0, ixN1, cut_from1, e_ite_or, e_ite_and, zln, znl, zli, zil, zni, zin, sizeLine_eq, CMul, CDiv, cpow1018, true_or, or_true, kb_strstr, kb_tupstr, kb_tuptup, kb_strtup, kb_inttup, kb_bltup, kb_nontup, kb_strbl, kb_strint, kb_intbl, kb_intint, kb_blbl, kb_blint, kb_nonbl, kb_nonint, kb_nonstr, kb_intstr, kb_blstr, kb_tupbl, kb_tupint,   List.set_cons_zero, List.set_cons_succ, List.set_nil, List.getElem?_cons_zero, List.getElem?_cons_succ, List.getElem?_nil, List.length_cons, List.length_nil, List.length_map, List.length_append, e_lcN, e_lcC, e_forN, e_forC, List.getLast?_concat, List.dropLast_concat, List.nil_append, List.cons_append, List.append_nil, List.append_assoc, List.reverse_cons, List.reverse_nil, List.isEmpty_nil, List.isEmpty_cons, isEmpty_snoc, List.any_cons, List.any_nil, List.all_cons, List.all_nil, flatD, eqF, in_non, in_tup, in_str, in_int, in_bl, in_obj, in_fl, startA, List.map_cons, List.map_nil, List.replicate_succ, List.replicate_zero,   Nat.reduceAdd, Nat.reduceSub, Nat.reduceLeDiff, Nat.zero_add, Int.reduceLE, Int.reduceLT, Int.reduceToNat, Int.reducePow, Int.reduceNeg, Int.reduceAdd, Int.reduceSub,   Option.isSome_some, Option.isSome_none, Bool.not_true, Bool.not_false, Bool.not_eq_true', Bool.not_eq_eq_eq_not, Bool.not_eq_true, Bool.false_eq_true, Bool.true_eq_false, Bool.and_true, Bool.true_and, Bool.or_false, Bool.false_or, Bool.or_true, Bool.true_or, Bool.and_false, Bool.false_and, if_true, if_false, ite_true, ite_false, reduceIte, reduceCtorEq, decide_true, decide_false, decide_eq_true_eq, decide_eq_false_iff_not, true_and, and_true, eq_self, ne_eq, not_false_eq_true, not_true_eq_false, and_self, *])
  refine ⟨rfl, ns, n, rfl, h0, h1, fun p zs M' hp e hz => ?_⟩
  try (simp only [↓e_seq, ↓e_next, ↓e_break, ↓e_cont, ↓e_expr, ↓e_ret, ↓e_retN, ↓e_if, ↓e_never, ↓e_asg, ↓e_name, ↓e_agtup, ↓e_agcons, ↓e_agnil, ↓e_agsub, ↓e_aug, ↓e_dput, ↓e_var, ↓e_c, ↓e_op, ↓e_some, ↓e_none, ↓e_test, ↓e_and, ↓e_or, ↓e_not, ↓e_yes, ↓e_truth,   ↓e_tru_bl, ↓e_tru_int, ↓e_tru_non, ↓e_tru_str, ↓e_tru_tup, ↓e_tru_obj, ↓e_chain, ↓e_orV, ↓e_andV, ↓e_notV, ↓e_ifE, ↓e_neg, ↓e_nil, ↓e_cons, ↓e_tup, ↓e_lst, ↓e_dnew, ↓e_call, ↓e_cb, ↓e_isi, ↓e_sl, ↓e_onone, ↓e_osome, ↓e_rev, ↓e_lm, ↓e_append, ↓e_extend, ↓e_pop, ↓e_join, ↓e_dget2, ↓e_sortSet, ↓e_sortS, ↓e_setd, strsOf_map, ↓e_maxI, ↓e_disp, ↓e_pairN, ↓e_pairC, intsOf_map, ↓e_for, ↓e_ilist, ↓e_itup, ↓e_rng1, ↓e_rng2, ↓e_lc, ↓e_lc2, e_lc2N, ↓e_ienum, ↓e_izip, ↓e_anyB, ↓e_allB, ↓e_mulS, blsOf_map, ↓e_set0, ↓e_sadd, ↓e_sortTx, ↓e_sortD, ↓e_repr, ↓e_extT, ↓e_sc2, ↓e_sortZ, ↓e_tupVals, ↓e_wget, ↓e_wix, ↓e_listZip, zipD_nil, zipD_cons, ↓e_dgetF, ↓e_idif, ↓e_isB, ↓e_sortI, ↓e_sortSetI, ↓e_tailR, ↓e_divmod, ↓e_strI, ↓e_lenD, ↓e_fmt, ↓e_fs2,   ↓e_add_int, ↓e_add_str, ↓e_add_tup, ↓e_add_obj, ↓e_iadd_int, ↓e_iadd_str, ↓e_iadd_obj, ↓e_I, ↓e_I0, ↓e_IS_int, ↓e_IS_str, ↓e_eq_str, ↓e_ne_str, ↓e_eq_int, ↓e_ne_int, ↓e_eq_bl, ↓e_ne_bl, ↓e_isN, ↓e_notN, ↓e_ix_tup, ↓e_ix_fl, ↓e_ix_str, ↓e_ix_obj, ↓e_in_tup, ↓e_nin_tup, ↓e_len_tup, ↓e_len_fl, ↓e_len_str, ↓e_len_obj, ↓e_int_int, ↓e_tuple_tup, ↓e_tuple_obj, ↓e_list_tup, ↓e_list_obj, ↓e_dget, ↓e_din, ↓e_dnin, ↓e_lstAt, ↓e_dicAt,   e_key_int, e_key_str, e_up, e_ty_str, e_ty_tup, e_ty_int, e_ty_bl, e_ty_non, atI0, atI1, atI2, atI3, atIL, ixN0, ixN1, cut_from1, e_ite_or, e_ite_and, zln, znl, zli, zil, zni, zin, sizeLine_eq, CMul, CDiv, cpow1018, true_or, or_true, kb_strstr, kb_tupstr, kb_tuptup, kb_strtup, kb_inttup, kb_bltup, kb_nontup, kb_strbl, kb_strint, kb_intbl, kb_intint, kb_blbl, kb_blint, kb_nonbl, kb_nonint, kb_nonstr, kb_intstr, kb_blstr, kb_tupbl, kb_tupint,   List.set_cons_zero, List.set_cons_succ, List.set_nil, List.getElem?_cons_zero, List.getElem?_cons_succ, List.getElem?_nil, List.length_cons, List.length_nil, List.length_map, List.length_append, e_lcN, e_lcC, e_forN, e_forC, List.getLast?_concat, List.dropLast_concat, List.nil_append, List.cons_append, List.append_nil, List.append_assoc, List.reverse_cons, List.reverse_nil, List.isEmpty_nil, List.isEmpty_cons, isEmpty_snoc, List.any_cons, List.any_nil, List.all_cons, List.all_nil, flatD, eqF, in_non, in_tup, in_str, in_int, in_bl, in_obj, in_fl, startA, List.map_cons, List.map_nil, List.replicate_succ, List.replicate_zero,   Nat.reduceAdd, Nat.reduceSub, Nat.reduceLeDiff, Nat.zero_add, Int.reduceLE, Int.reduceLT, Int.reduceToNat, Int.reducePow, Int.reduceNeg, Int.reduceAdd, Int.reduceSub,   Option.isSome_some, Option.isSome_none, Bool.not_true, Bool.not_false, Bool.not_eq_true', Bool.not_eq_eq_eq_not, Bool.not_eq_true, Bool.false_eq_true, Bool.true_eq_false, Bool.and_true, Bool.true_and, Bool.or_false, Bool.false_or, Bool.or_true, Bool.true_or, Bool.and_false, Bool.false_and, if_true, if_false, ite_true, ite_false, reduceIte, reduceCtorEq, decide_true, decide_false, decide_eq_true_eq, decide_eq_false_iff_not, true_and, and_true, eq_self, ne_eq, not_false_eq_true, not_true_eq_false, and_self, *])
  intro b hb
  have hne := fresh_ne hb hz
  have hb0 : M b = none := by
    cases z : M b with
    | none => rfl
    | some mo => rw [e _ _ z] at hb; cases hb
  exact q b p _ hb0 hp (e.trans (Ext.new hb)) ⟨zs, 0, up_same, by rw [up_ne hne]; exact hz, by omega, hne⟩

/-! formulas -/
inductive Fm where
  | lt (s : Str) | ng (p : Fm) | im (p q : Fm)
  deriving DecidableEq
def Fm.d : Fm → D
  | .lt s => .tup [.str z_letter, .str s]
  | .ng p => .tup [.str z_not, p.d]
  | .im p q => .tup [.str z_if, p.d, q.d]
def Fm.All (P : Str → Prop) : Fm → Prop
  | .lt s => P s
  | .ng p => p.All P
  | .im p q => p.All P ∧ q.All P
def Fm.sz : Fm → Nat
  | .lt _ => 1
  | .ng p => p.sz + 1
  | .im p q => p.sz + q.sz + 1
def Fm.sub (σ : Str → Fm) : Fm → Fm
  | .lt s => σ s
  | .ng p => .ng (p.sub σ)
  | .im p q => .im (p.sub σ) (q.sub σ)
theorem Fm.d_lt (s : Str) : (Fm.lt s).d = .tup [.str z_letter, .str s] := rfl
theorem Fm.d_ng (p : Fm) : (Fm.ng p).d = .tup [.str z_not, p.d] := rfl
theorem Fm.d_im (p q : Fm) : (Fm.im p q).d = .tup [.str z_if, p.d, q.d] := rfl
theorem Fm.All.mono {P R : Str → Prop} (h : ∀ s, P s → R s) : ∀ {f : Fm}, f.All P → f.All R
  | .lt s, a => h s a
  | .ng p, a => Fm.All.mono (f := p) h a
  | .im p q, a => ⟨Fm.All.mono (f := p) h a.1, Fm.All.mono (f := q) h a.2⟩
theorem Fm.sub_all {P R : Str → Prop} {σ : Str → Fm} (h : ∀ s, P s → (σ s).All R) : ∀ {f : Fm}, f.All P → (f.sub σ).All R
  | .lt s, a => h s a
  | .ng p, a => Fm.sub_all (f := p) h a
  | .im p q, a => ⟨Fm.sub_all (f := p) h a.1, Fm.sub_all (f := q) h a.2⟩
theorem Fm.sub_sz {P : Str → Prop} {σ : Str → Fm} (h : ∀ s, P s → (σ s).sz = 1) : ∀ {f : Fm}, f.All P → (f.sub σ).sz = f.sz
  | .lt s, a => h s a
  | .ng p, a => by show (p.sub σ).sz + 1 = p.sz + 1; rw [Fm.sub_sz (f := p) h a]
  | .im p q, a => by show (p.sub σ).sz + (q.sub σ).sz + 1 = p.sz + q.sz + 1; rw [Fm.sub_sz (f := p) h a.1, Fm.sub_sz (f := q) h a.2]
theorem Fm.sz_pos : ∀ f : Fm, 1 ≤ f.sz
  | .lt _ => Nat.le_refl _
  | .ng p => Nat.le_add_left _ _
  | .im p q => Nat.le_add_left _ _
theorem Fm.d_inj : ∀ {f g : Fm}, f.d = g.d → f = g
  | .lt s, .lt t, e => by injection e with e; injection e with _ e; injection e with e _; injection e with e; rw [e]
  | .ng p, .ng q, e => by injection e with e; injection e with _ e; injection e with e _; rw [Fm.d_inj e]
  | .im p q, .im p' q', e => by injection e with e; injection e with _ e; injection e with e1 e; injection e with e2 _; rw [Fm.d_inj e1, Fm.d_inj e2]
  | .lt s, .ng q, e => by injection e with e; injection e with e _; injection e with e; exact absurd e (by decide +kernel)
  | .lt s, .im p' q', e => by injection e with e; injection e with e _; injection e with e; exact absurd e (by decide +kernel)
  | .ng p, .lt t, e => by injection e with e; injection e with e _; injection e with e; exact absurd e (by decide +kernel)
  | .ng p, .im p' q', e => by injection e with e; injection e with e _; injection e with e; exact absurd e (by decide +kernel)
  | .im p q, .lt t, e => by injection e with e; injection e with e _; injection e with e; exact absurd e (by decide +kernel)
  | .im p q, .ng q', e => by injection e with e; injection e with e _; injection e with e; exact absurd e (by decide +kernel)
def lets8 : List Nat := [97, 98, 99, 100, 101, 102, 103, 104]
theorem z8 : z_abcdefgh.cps.toList = lets8 := by decide +kernel
theorem z8l : z_abcdefgh.length ≤ 16777216 := by decide +kernel
def L8 (s : Str) : Prop := ∃ c ∈ lets8, s = ⟨#[c]⟩
theorem at8 {v : Int} (h0 : 0 ≤ v) (h : v < 8) : ∃ c ∈ lets8, atI lets8 v = some c := by
  have e : v = ((v.toNat : Nat) : Int) := by omega
  have hk : v.toNat < lets8.length := by show v.toNat < 8; omega
  rw [e, atIn, List.getElem?_eq_getElem hk]
  exact ⟨_, List.getElem_mem hk, rfl⟩
abbrev Done (Q : D → Sto → Prop) : AEnds := ⟨fun _ M => Q .non M, Q, fun _ _ => False, fun _ _ => False⟩
def A_any (L : Nat) : ASp := fun ds M Q _ => ∃ b d room many, ds = [.obj b, .int room, .int many] ∧ BoxAt M b d ∧ 1 ≤ room ∧ room ≤ (L : Int) ∧ 1 ≤ many ∧ many ≤ 8 ∧ ∀ (f : Fm) M', f.All L8 → (f.sz : Int) ≤ room → BoxAt M' b d → ExtB b M M' → Q f.d M'
theorem p__law_any (L : Nat) (ds : List D) (M : Sto) (Q : D → Sto → Prop) (Xa) (hl : ds.length = 3) (h : A_any (L + 1) ds M Q Xa) : a__law_any A_draw (A_any L) ax0 (Done Q) (startA ["box", "room", "many", "kind", "left", "first"] ds) M := by
  obtain ⟨b, d, room, many, rfl, hb, hr, hL, hm, hm8, q⟩ := h
  unfold a__law_any
  try (simp only [↓e_seq, ↓e_next, ↓e_break, ↓e_cont, ↓e_expr, ↓e_ret, ↓e_retN, ↓e_if, ↓e_never, ↓e_asg, ↓e_name, ↓e_agtup, ↓e_agcons, ↓e_agnil, ↓e_agsub, ↓e_aug, ↓e_dput, ↓e_var, ↓e_c, ↓e_op, ↓e_some, ↓e_none, ↓e_test, ↓e_and, ↓e_or, ↓e_not, ↓e_yes, ↓e_truth,   ↓e_tru_bl, ↓e_tru_int, ↓e_tru_non, ↓e_tru_str, ↓e_tru_tup, ↓e_tru_obj, ↓e_chain, ↓e_orV, ↓e_andV, ↓e_notV, ↓e_ifE, ↓e_neg, ↓e_nil, ↓e_cons, ↓e_tup, ↓e_lst, ↓e_dnew, ↓e_call, ↓e_cb, ↓e_isi, ↓e_sl, ↓e_onone, ↓e_osome, ↓e_rev, ↓e_lm, ↓e_append, ↓e_extend, ↓e_pop, ↓e_join, ↓e_dget2, ↓e_sortSet, ↓e_sortS, ↓e_setd, strsOf_map, ↓e_maxI, ↓e_disp, ↓e_pairN, ↓e_pairC, intsOf_map, ↓e_for, ↓e_ilist, ↓e_itup, ↓e_rng1, ↓e_rng2, ↓e_lc, ↓e_lc2, e_lc2N, ↓e_ienum, ↓e_izip, ↓e_anyB, ↓e_allB, ↓e_mulS, blsOf_map, ↓e_set0, ↓e_sadd, ↓e_sortTx, ↓e_sortD, ↓e_repr, ↓e_extT, ↓e_sc2, ↓e_sortZ, ↓e_tupVals, ↓e_wget, ↓e_wix, ↓e_listZip, zipD_nil, zipD_cons, ↓e_dgetF, ↓e_idif, ↓e_isB, ↓e_sortI, ↓e_sortSetI, ↓e_tailR, ↓e_divmod, ↓e_strI, ↓e_lenD, ↓e_fmt, ↓e_fs2,   ↓e_add_int, ↓e_add_str, ↓e_add_tup, ↓e_add_obj, ↓e_iadd_int, ↓e_iadd_str, ↓e_iadd_obj, ↓e_I, ↓e_I0, ↓e_IS_int, ↓e_IS_str, ↓e_eq_str, ↓e_ne_str, ↓e_eq_int, ↓e_ne_int, ↓e_eq_bl, ↓e_ne_bl, ↓e_isN, ↓e_notN, ↓e_ix_tup, ↓e_ix_fl, ↓e_ix_str, ↓e_ix_obj, ↓e_in_tup, ↓e_nin_tup, ↓e_len_tup, ↓e_len_fl, ↓e_len_str, ↓e_len_obj, ↓e_int_int, ↓e_tuple_tup, ↓e_tuple_obj, ↓e_list_tup, ↓e_list_obj, ↓e_dget, ↓e_din, ↓e_dnin, ↓e_lstAt, ↓e_dicAt,   e_key_int, e_key_str, e_up, e_ty_str, e_ty_tup, e_ty_int, e_ty_bl, e_ty_non, atI0, atI1, atI2, atI3, atIL, ixN0, ixN1, cut_from1, e_ite_or, e_ite_and, zln, znl, zli, zil, zni, zin, sizeLine_eq, CMul, CDiv, cpow1018, true_or, or_true, kb_strstr, kb_tupstr, kb_tuptup, kb_strtup, kb_inttup, kb_bltup, kb_nontup, kb_strbl, kb_strint, kb_intbl, kb_intint, kb_blbl, kb_blint, kb_nonbl, kb_nonint, kb_nonstr, kb_intstr, kb_blstr, kb_tupbl, kb_tupint,   List.set_cons_zero, List.set_cons_succ, List.set_nil, List.getElem?_cons_zero, List.getElem?_cons_succ, List.getElem?_nil, List.length_cons, List.length_nil, List.length_map, List.length_append, e_lcN, e_lcC, e_forN, e_forC, List.getLast?_concat, List.dropLast_concat, List.nil_append, List.cons_append, List.append_nil, List.append_assoc, List.reverse_cons, List.reverse_nil, List.isEmpty_nil, List.isEmpty_cons, isEmpty_snoc, List.any_cons, List.any_nil, List.all_cons, List.all_nil, flatD, eqF, in_non, in_tup, in_str, in_int, in_bl, in_obj, in_fl, startA, List.map_cons, List.map_nil, List.replicate_succ, List.replicate_zero,   Nat.reduceAdd, Nat.reduceSub, Nat.reduceLeDiff, Nat.zero_add, Int.reduceLE, Int.reduceLT, Int.reduceToNat, Int.reducePow, Int.reduceNeg, Int.reduceAdd, Int.reduceSub,   Option.isSome_some, Option.isSome_none, Bool.not_true, Bool.not_false, Bool.not_eq_true', Bool.not_eq_eq_eq_not, Bool.not_eq_true, Bool.false_eq_true, Bool.true_eq_false, Bool.and_true, Bool.true_and, Bool.or_false, Bool.false_or, Bool.or_true, Bool.true_or, Bool.and_false, Bool.false_and, if_true, if_false, ite_true, ite_false, reduceIte, reduceCtorEq, decide_true, decide_false, decide_eq_true_eq, decide_eq_false_iff_not, true_and, and_true, eq_self, ne_eq, not_false_eq_true, not_true_eq_false, and_self, *])
  refine ⟨rfl, b, d, 8, rfl, hb, by decide, fun kind M1 hk0 hk8 hb1 e1 => ?_⟩
  try (simp only [↓e_seq, ↓e_next, ↓e_break, ↓e_cont, ↓e_expr, ↓e_ret, ↓e_retN, ↓e_if, ↓e_never, ↓e_asg, ↓e_name, ↓e_agtup, ↓e_agcons, ↓e_agnil, ↓e_agsub, ↓e_aug, ↓e_dput, ↓e_var, ↓e_c, ↓e_op, ↓e_some, ↓e_none, ↓e_test, ↓e_and, ↓e_or, ↓e_not, ↓e_yes, ↓e_truth,   ↓e_tru_bl, ↓e_tru_int, ↓e_tru_non, ↓e_tru_str, ↓e_tru_tup, ↓e_tru_obj, ↓e_chain, ↓e_orV, ↓e_andV, ↓e_notV, ↓e_ifE, ↓e_neg, ↓e_nil, ↓e_cons, ↓e_tup, ↓e_lst, ↓e_dnew, ↓e_call, ↓e_cb, ↓e_isi, ↓e_sl, ↓e_onone, ↓e_osome, ↓e_rev, ↓e_lm, ↓e_append, ↓e_extend, ↓e_pop, ↓e_join, ↓e_dget2, ↓e_sortSet, ↓e_sortS, ↓e_setd, strsOf_map, ↓e_maxI, ↓e_disp, ↓e_pairN, ↓e_pairC, intsOf_map, ↓e_for, ↓e_ilist, ↓e_itup, ↓e_rng1, ↓e_rng2, ↓e_lc, ↓e_lc2, e_lc2N, ↓e_ienum, ↓e_izip, ↓e_anyB, ↓e_allB, ↓e_mulS, blsOf_map, ↓e_set0, ↓e_sadd, ↓e_sortTx, ↓e_sortD, ↓e_repr, ↓e_extT, ↓e_sc2, ↓e_sortZ, ↓e_tupVals, ↓e_wget, ↓e_wix, ↓e_listZip, zipD_nil, zipD_cons, ↓e_dgetF, ↓e_idif, ↓e_isB, ↓e_sortI, ↓e_sortSetI, ↓e_tailR, ↓e_divmod, ↓e_strI, ↓e_lenD, ↓e_fmt, ↓e_fs2,   ↓e_add_int, ↓e_add_str, ↓e_add_tup, ↓e_add_obj, ↓e_iadd_int, ↓e_iadd_str, ↓e_iadd_obj, ↓e_I, ↓e_I0, ↓e_IS_int, ↓e_IS_str, ↓e_eq_str, ↓e_ne_str, ↓e_eq_int, ↓e_ne_int, ↓e_eq_bl, ↓e_ne_bl, ↓e_isN, ↓e_notN, ↓e_ix_tup, ↓e_ix_fl, ↓e_ix_str, ↓e_ix_obj, ↓e_in_tup, ↓e_nin_tup, ↓e_len_tup, ↓e_len_fl, ↓e_len_str, ↓e_len_obj, ↓e_int_int, ↓e_tuple_tup, ↓e_tuple_obj, ↓e_list_tup, ↓e_list_obj, ↓e_dget, ↓e_din, ↓e_dnin, ↓e_lstAt, ↓e_dicAt,   e_key_int, e_key_str, e_up, e_ty_str, e_ty_tup, e_ty_int, e_ty_bl, e_ty_non, atI0, atI1, atI2, atI3, atIL, ixN0, ixN1, cut_from1, e_ite_or, e_ite_and, zln, znl, zli, zil, zni, zin, sizeLine_eq, CMul, CDiv, cpow1018, true_or, or_true, kb_strstr, kb_tupstr, kb_tuptup, kb_strtup, kb_inttup, kb_bltup, kb_nontup, kb_strbl, kb_strint, kb_intbl, kb_intint, kb_blbl, kb_blint, kb_nonbl, kb_nonint, kb_nonstr, kb_intstr, kb_blstr, kb_tupbl, kb_tupint,   List.set_cons_zero, List.set_cons_succ, List.set_nil, List.getElem?_cons_zero, List.getElem?_cons_succ, List.getElem?_nil, List.length_cons, List.length_nil, List.length_map, List.length_append, e_lcN, e_lcC, e_forN, e_forC, List.getLast?_concat, List.dropLast_concat, List.nil_append, List.cons_append, List.append_nil, List.append_assoc, List.reverse_cons, List.reverse_nil, List.isEmpty_nil, List.isEmpty_cons, isEmpty_snoc, List.any_cons, List.any_nil, List.all_cons, List.all_nil, flatD, eqF, in_non, in_tup, in_str, in_int, in_bl, in_obj, in_fl, startA, List.map_cons, List.map_nil, List.replicate_succ, List.replicate_zero,   Nat.reduceAdd, Nat.reduceSub, Nat.reduceLeDiff, Nat.zero_add, Int.reduceLE, Int.reduceLT, Int.reduceToNat, Int.reducePow, Int.reduceNeg, Int.reduceAdd, Int.reduceSub,   Option.isSome_some, Option.isSome_none, Bool.not_true, Bool.not_false, Bool.not_eq_true', Bool.not_eq_eq_eq_not, Bool.not_eq_true, Bool.false_eq_true, Bool.true_eq_false, Bool.and_true, Bool.true_and, Bool.or_false, Bool.false_or, Bool.or_true, Bool.true_or, Bool.and_false, Bool.false_and, if_true, if_false, ite_true, ite_false, reduceIte, reduceCtorEq, decide_true, decide_false, decide_eq_true_eq, decide_eq_false_iff_not, true_and, and_true, eq_self, ne_eq, not_false_eq_true, not_true_eq_false, and_self, *])
  split
  · refine ⟨rfl, b, d, many, rfl, hb1, by omega, fun v M2 hv0 hv1 hb2 e2 => ?_⟩
    obtain ⟨c, hc, hat⟩ := at8 hv0 (by omega : v < 8)
    have h8 := z8
    have h8l := z8l
    try (simp only [↓e_seq, ↓e_next, ↓e_break, ↓e_cont, ↓e_expr, ↓e_ret, ↓e_retN, ↓e_if, ↓e_never, ↓e_asg, ↓e_name, ↓e_agtup, ↓e_agcons, ↓e_agnil, ↓e_agsub, ↓e_aug, ↓e_dput, ↓e_var, ↓e_c, ↓e_op, ↓e_some, ↓e_none, ↓e_test, ↓e_and, ↓e_or, ↓e_not, ↓e_yes, ↓e_truth,   ↓e_tru_bl, ↓e_tru_int, ↓e_tru_non, ↓e_tru_str, ↓e_tru_tup, ↓e_tru_obj, ↓e_chain, ↓e_orV, ↓e_andV, ↓e_notV, ↓e_ifE, ↓e_neg, ↓e_nil, ↓e_cons, ↓e_tup, ↓e_lst, ↓e_dnew, ↓e_call, ↓e_cb, ↓e_isi, ↓e_sl, ↓e_onone, ↓e_osome, ↓e_rev, ↓e_lm, ↓e_append, ↓e_extend, ↓e_pop, ↓e_join, ↓e_dget2, ↓e_sortSet, ↓e_sortS, ↓e_setd, strsOf_map, ↓e_maxI, ↓e_disp, ↓e_pairN, ↓e_pairC, intsOf_map, ↓e_for, ↓e_ilist, ↓e_itup, ↓e_rng1, ↓e_rng2, ↓e_lc, ↓e_lc2, e_lc2N, ↓e_ienum, ↓e_izip, ↓e_anyB, ↓e_allB, ↓e_mulS, blsOf_map, ↓e_set0, ↓e_sadd, ↓e_sortTx, ↓e_sortD, ↓e_repr, ↓e_extT, ↓e_sc2, ↓e_sortZ, ↓e_tupVals, ↓e_wget, ↓e_wix, ↓e_listZip, zipD_nil, zipD_cons, ↓e_dgetF, ↓e_idif, ↓e_isB, ↓e_sortI, ↓e_sortSetI, ↓e_tailR, ↓e_divmod, ↓e_strI, ↓e_lenD, ↓e_fmt, ↓e_fs2,   ↓e_add_int, ↓e_add_str, ↓e_add_tup, ↓e_add_obj, ↓e_iadd_int, ↓e_iadd_str, ↓e_iadd_obj, ↓e_I, ↓e_I0, ↓e_IS_int, ↓e_IS_str, ↓e_eq_str, ↓e_ne_str, ↓e_eq_int, ↓e_ne_int, ↓e_eq_bl, ↓e_ne_bl, ↓e_isN, ↓e_notN, ↓e_ix_tup, ↓e_ix_fl, ↓e_ix_str, ↓e_ix_obj, ↓e_in_tup, ↓e_nin_tup, ↓e_len_tup, ↓e_len_fl, ↓e_len_str, ↓e_len_obj, ↓e_int_int, ↓e_tuple_tup, ↓e_tuple_obj, ↓e_list_tup, ↓e_list_obj, ↓e_dget, ↓e_din, ↓e_dnin, ↓e_lstAt, ↓e_dicAt,   e_key_int, e_key_str, e_up, e_ty_str, e_ty_tup, e_ty_int, e_ty_bl, e_ty_non, atI0, atI1, atI2, atI3, atIL, ixN0, ixN1, cut_from1, e_ite_or, e_ite_and, zln, znl, zli, zil, zni, zin, sizeLine_eq, CMul, CDiv, cpow1018, true_or, or_true, kb_strstr, kb_tupstr, kb_tuptup, kb_strtup, kb_inttup, kb_bltup, kb_nontup, kb_strbl, kb_strint, kb_intbl, kb_intint, kb_blbl, kb_blint, kb_nonbl, kb_nonint, kb_nonstr, kb_intstr, kb_blstr, kb_tupbl, kb_tupint,   List.set_cons_zero, List.set_cons_succ, List.set_nil, List.getElem?_cons_zero, List.getElem?_cons_succ, List.getElem?_nil, List.length_cons, List.length_nil, List.length_map, List.length_append, e_lcN, e_lcC, e_forN, e_forC, List.getLast?_concat, List.dropLast_concat, List.nil_append, List.cons_append, List.append_nil, List.append_assoc, List.reverse_cons, List.reverse_nil, List.isEmpty_nil, List.isEmpty_cons, isEmpty_snoc, List.any_cons, List.any_nil, List.all_cons, List.all_nil, flatD, eqF, in_non, in_tup, in_str, in_int, in_bl, in_obj, in_fl, startA, List.map_cons, List.map_nil, List.replicate_succ, List.replicate_zero,   Nat.reduceAdd, Nat.reduceSub, Nat.reduceLeDiff, Nat.zero_add, Int.reduceLE, Int.reduceLT, Int.reduceToNat, Int.reducePow, Int.reduceNeg, Int.reduceAdd, Int.reduceSub,   Option.isSome_some, Option.isSome_none, Bool.not_true, Bool.not_false, Bool.not_eq_true', Bool.not_eq_eq_eq_not, Bool.not_eq_true, Bool.false_eq_true, Bool.true_eq_false, Bool.and_true, Bool.true_and, Bool.or_false, Bool.false_or, Bool.or_true, Bool.true_or, Bool.and_false, Bool.false_and, if_true, if_false, ite_true, ite_false, reduceIte, reduceCtorEq, decide_true, decide_false, decide_eq_true_eq, decide_eq_false_iff_not, true_and, and_true, eq_self, ne_eq, not_false_eq_true, not_true_eq_false, and_self, *])
    exact q (.lt ⟨#[c]⟩) M2 ⟨c, hc, rfl⟩ (by show (1 : Int) ≤ room; omega) hb2 (e1.trans e2)
  · rename_i hc1
    split
    · rename_i hc2
      refine ⟨rfl, b, d, room - 1, many, rfl, hb1, by omega, by omega, hm, hm8, fun f M2 hf hs hb2 e2 => ?_⟩
      try (simp only [↓e_seq, ↓e_next, ↓e_break, ↓e_cont, ↓e_expr, ↓e_ret, ↓e_retN, ↓e_if, ↓e_never, ↓e_asg, ↓e_name, ↓e_agtup, ↓e_agcons, ↓e_agnil, ↓e_agsub, ↓e_aug, ↓e_dput, ↓e_var, ↓e_c, ↓e_op, ↓e_some, ↓e_none, ↓e_test, ↓e_and, ↓e_or, ↓e_not, ↓e_yes, ↓e_truth,   ↓e_tru_bl, ↓e_tru_int, ↓e_tru_non, ↓e_tru_str, ↓e_tru_tup, ↓e_tru_obj, ↓e_chain, ↓e_orV, ↓e_andV, ↓e_notV, ↓e_ifE, ↓e_neg, ↓e_nil, ↓e_cons, ↓e_tup, ↓e_lst, ↓e_dnew, ↓e_call, ↓e_cb, ↓e_isi, ↓e_sl, ↓e_onone, ↓e_osome, ↓e_rev, ↓e_lm, ↓e_append, ↓e_extend, ↓e_pop, ↓e_join, ↓e_dget2, ↓e_sortSet, ↓e_sortS, ↓e_setd, strsOf_map, ↓e_maxI, ↓e_disp, ↓e_pairN, ↓e_pairC, intsOf_map, ↓e_for, ↓e_ilist, ↓e_itup, ↓e_rng1, ↓e_rng2, ↓e_lc, ↓e_lc2, e_lc2N, ↓e_ienum, ↓e_izip, ↓e_anyB, ↓e_allB, ↓e_mulS, blsOf_map, ↓e_set0, ↓e_sadd, ↓e_sortTx, ↓e_sortD, ↓e_repr, ↓e_extT, ↓e_sc2, ↓e_sortZ, ↓e_tupVals, ↓e_wget, ↓e_wix, ↓e_listZip, zipD_nil, zipD_cons, ↓e_dgetF, ↓e_idif, ↓e_isB, ↓e_sortI, ↓e_sortSetI, ↓e_tailR, ↓e_divmod, ↓e_strI, ↓e_lenD, ↓e_fmt, ↓e_fs2,   ↓e_add_int, ↓e_add_str, ↓e_add_tup, ↓e_add_obj, ↓e_iadd_int, ↓e_iadd_str, ↓e_iadd_obj, ↓e_I, ↓e_I0, ↓e_IS_int, ↓e_IS_str, ↓e_eq_str, ↓e_ne_str, ↓e_eq_int, ↓e_ne_int, ↓e_eq_bl, ↓e_ne_bl, ↓e_isN, ↓e_notN, ↓e_ix_tup, ↓e_ix_fl, ↓e_ix_str, ↓e_ix_obj, ↓e_in_tup, ↓e_nin_tup, ↓e_len_tup, ↓e_len_fl, ↓e_len_str, ↓e_len_obj, ↓e_int_int, ↓e_tuple_tup, ↓e_tuple_obj, ↓e_list_tup, ↓e_list_obj, ↓e_dget, ↓e_din, ↓e_dnin, ↓e_lstAt, ↓e_dicAt,   e_key_int, e_key_str, e_up, e_ty_str, e_ty_tup, e_ty_int, e_ty_bl, e_ty_non, atI0, atI1, atI2, atI3, atIL, ixN0, ixN1, cut_from1, e_ite_or, e_ite_and, zln, znl, zli, zil, zni, zin, sizeLine_eq, CMul, CDiv, cpow1018, true_or, or_true, kb_strstr, kb_tupstr, kb_tuptup, kb_strtup, kb_inttup, kb_bltup, kb_nontup, kb_strbl, kb_strint, kb_intbl, kb_intint, kb_blbl, kb_blint, kb_nonbl, kb_nonint, kb_nonstr, kb_intstr, kb_blstr, kb_tupbl, kb_tupint,   List.set_cons_zero, List.set_cons_succ, List.set_nil, List.getElem?_cons_zero, List.getElem?_cons_succ, List.getElem?_nil, List.length_cons, List.length_nil, List.length_map, List.length_append, e_lcN, e_lcC, e_forN, e_forC, List.getLast?_concat, List.dropLast_concat, List.nil_append, List.cons_append, List.append_nil, List.append_assoc, List.reverse_cons, List.reverse_nil, List.isEmpty_nil, List.isEmpty_cons, isEmpty_snoc, List.any_cons, List.any_nil, List.all_cons, List.all_nil, flatD, eqF, in_non, in_tup, in_str, in_int, in_bl, in_obj, in_fl, startA, List.map_cons, List.map_nil, List.replicate_succ, List.replicate_zero,   Nat.reduceAdd, Nat.reduceSub, Nat.reduceLeDiff, Nat.zero_add, Int.reduceLE, Int.reduceLT, Int.reduceToNat, Int.reducePow, Int.reduceNeg, Int.reduceAdd, Int.reduceSub,   Option.isSome_some, Option.isSome_none, Bool.not_true, Bool.not_false, Bool.not_eq_true', Bool.not_eq_eq_eq_not, Bool.not_eq_true, Bool.false_eq_true, Bool.true_eq_false, Bool.and_true, Bool.true_and, Bool.or_false, Bool.false_or, Bool.or_true, Bool.true_or, Bool.and_false, Bool.false_and, if_true, if_false, ite_true, ite_false, reduceIte, reduceCtorEq, decide_true, decide_false, decide_eq_true_eq, decide_eq_false_iff_not, true_and, and_true, eq_self, ne_eq, not_false_eq_true, not_true_eq_false, and_self, *])
      exact q (.ng f) M2 hf (by show ((f.sz + 1 : Nat) : Int) ≤ room; omega) hb2 (e1.trans e2)
    · refine ⟨rfl, b, d, room - 2, rfl, hb1, by omega, fun v M2 hv0 hv1 hb2 e2 => ?_⟩
      try (simp only [↓e_seq, ↓e_next, ↓e_break, ↓e_cont, ↓e_expr, ↓e_ret, ↓e_retN, ↓e_if, ↓e_never, ↓e_asg, ↓e_name, ↓e_agtup, ↓e_agcons, ↓e_agnil, ↓e_agsub, ↓e_aug, ↓e_dput, ↓e_var, ↓e_c, ↓e_op, ↓e_some, ↓e_none, ↓e_test, ↓e_and, ↓e_or, ↓e_not, ↓e_yes, ↓e_truth,   ↓e_tru_bl, ↓e_tru_int, ↓e_tru_non, ↓e_tru_str, ↓e_tru_tup, ↓e_tru_obj, ↓e_chain, ↓e_orV, ↓e_andV, ↓e_notV, ↓e_ifE, ↓e_neg, ↓e_nil, ↓e_cons, ↓e_tup, ↓e_lst, ↓e_dnew, ↓e_call, ↓e_cb, ↓e_isi, ↓e_sl, ↓e_onone, ↓e_osome, ↓e_rev, ↓e_lm, ↓e_append, ↓e_extend, ↓e_pop, ↓e_join, ↓e_dget2, ↓e_sortSet, ↓e_sortS, ↓e_setd, strsOf_map, ↓e_maxI, ↓e_disp, ↓e_pairN, ↓e_pairC, intsOf_map, ↓e_for, ↓e_ilist, ↓e_itup, ↓e_rng1, ↓e_rng2, ↓e_lc, ↓e_lc2, e_lc2N, ↓e_ienum, ↓e_izip, ↓e_anyB, ↓e_allB, ↓e_mulS, blsOf_map, ↓e_set0, ↓e_sadd, ↓e_sortTx, ↓e_sortD, ↓e_repr, ↓e_extT, ↓e_sc2, ↓e_sortZ, ↓e_tupVals, ↓e_wget, ↓e_wix, ↓e_listZip, zipD_nil, zipD_cons, ↓e_dgetF, ↓e_idif, ↓e_isB, ↓e_sortI, ↓e_sortSetI, ↓e_tailR, ↓e_divmod, ↓e_strI, ↓e_lenD, ↓e_fmt, ↓e_fs2,   ↓e_add_int, ↓e_add_str, ↓e_add_tup, ↓e_add_obj, ↓e_iadd_int, ↓e_iadd_str, ↓e_iadd_obj, ↓e_I, ↓e_I0, ↓e_IS_int, ↓e_IS_str, ↓e_eq_str, ↓e_ne_str, ↓e_eq_int, ↓e_ne_int, ↓e_eq_bl, ↓e_ne_bl, ↓e_isN, ↓e_notN, ↓e_ix_tup, ↓e_ix_fl, ↓e_ix_str, ↓e_ix_obj, ↓e_in_tup, ↓e_nin_tup, ↓e_len_tup, ↓e_len_fl, ↓e_len_str, ↓e_len_obj, ↓e_int_int, ↓e_tuple_tup, ↓e_tuple_obj, ↓e_list_tup, ↓e_list_obj, ↓e_dget, ↓e_din, ↓e_dnin, ↓e_lstAt, ↓e_dicAt,   e_key_int, e_key_str, e_up, e_ty_str, e_ty_tup, e_ty_int, e_ty_bl, e_ty_non, atI0, atI1, atI2, atI3, atIL, ixN0, ixN1, cut_from1, e_ite_or, e_ite_and, zln, znl, zli, zil, zni, zin, sizeLine_eq, CMul, CDiv, cpow1018, true_or, or_true, kb_strstr, kb_tupstr, kb_tuptup, kb_strtup, kb_inttup, kb_bltup, kb_nontup, kb_strbl, kb_strint, kb_intbl, kb_intint, kb_blbl, kb_blint, kb_nonbl, kb_nonint, kb_nonstr, kb_intstr, kb_blstr, kb_tupbl, kb_tupint,   List.set_cons_zero, List.set_cons_succ, List.set_nil, List.getElem?_cons_zero, List.getElem?_cons_succ, List.getElem?_nil, List.length_cons, List.length_nil, List.length_map, List.length_append, e_lcN, e_lcC, e_forN, e_forC, List.getLast?_concat, List.dropLast_concat, List.nil_append, List.cons_append, List.append_nil, List.append_assoc, List.reverse_cons, List.reverse_nil, List.isEmpty_nil, List.isEmpty_cons, isEmpty_snoc, List.any_cons, List.any_nil, List.all_cons, List.all_nil, flatD, eqF, in_non, in_tup, in_str, in_int, in_bl, in_obj, in_fl, startA, List.map_cons, List.map_nil, List.replicate_succ, List.replicate_zero,   Nat.reduceAdd, Nat.reduceSub, Nat.reduceLeDiff, Nat.zero_add, Int.reduceLE, Int.reduceLT, Int.reduceToNat, Int.reducePow, Int.reduceNeg, Int.reduceAdd, Int.reduceSub,   Option.isSome_some, Option.isSome_none, Bool.not_true, Bool.not_false, Bool.not_eq_true', Bool.not_eq_eq_eq_not, Bool.not_eq_true, Bool.false_eq_true, Bool.true_eq_false, Bool.and_true, Bool.true_and, Bool.or_false, Bool.false_or, Bool.or_true, Bool.true_or, Bool.and_false, Bool.false_and, if_true, if_false, ite_true, ite_false, reduceIte, reduceCtorEq, decide_true, decide_false, decide_eq_true_eq, decide_eq_false_iff_not, true_and, and_true, eq_self, ne_eq, not_false_eq_true, not_true_eq_false, and_self, *])
      refine ⟨rfl, b, d, 1 + v, many, rfl, hb2, by omega, by omega, hm, hm8, fun f M3 hf hs hb3 e3 => ?_⟩
      try (simp only [↓e_seq, ↓e_next, ↓e_break, ↓e_cont, ↓e_expr, ↓e_ret, ↓e_retN, ↓e_if, ↓e_never, ↓e_asg, ↓e_name, ↓e_agtup, ↓e_agcons, ↓e_agnil, ↓e_agsub, ↓e_aug, ↓e_dput, ↓e_var, ↓e_c, ↓e_op, ↓e_some, ↓e_none, ↓e_test, ↓e_and, ↓e_or, ↓e_not, ↓e_yes, ↓e_truth,   ↓e_tru_bl, ↓e_tru_int, ↓e_tru_non, ↓e_tru_str, ↓e_tru_tup, ↓e_tru_obj, ↓e_chain, ↓e_orV, ↓e_andV, ↓e_notV, ↓e_ifE, ↓e_neg, ↓e_nil, ↓e_cons, ↓e_tup, ↓e_lst, ↓e_dnew, ↓e_call, ↓e_cb, ↓e_isi, ↓e_sl, ↓e_onone, ↓e_osome, ↓e_rev, ↓e_lm, ↓e_append, ↓e_extend, ↓e_pop, ↓e_join, ↓e_dget2, ↓e_sortSet, ↓e_sortS, ↓e_setd, strsOf_map, ↓e_maxI, ↓e_disp, ↓e_pairN, ↓e_pairC, intsOf_map, ↓e_for, ↓e_ilist, ↓e_itup, ↓e_rng1, ↓e_rng2, ↓e_lc, ↓e_lc2, e_lc2N, ↓e_ienum, ↓e_izip, ↓e_anyB, ↓e_allB, ↓e_mulS, blsOf_map, ↓e_set0, ↓e_sadd, ↓e_sortTx, ↓e_sortD, ↓e_repr, ↓e_extT, ↓e_sc2, ↓e_sortZ, ↓e_tupVals, ↓e_wget, ↓e_wix, ↓e_listZip, zipD_nil, zipD_cons, ↓e_dgetF, ↓e_idif, ↓e_isB, ↓e_sortI, ↓e_sortSetI, ↓e_tailR, ↓e_divmod, ↓e_strI, ↓e_lenD, ↓e_fmt, ↓e_fs2,   ↓e_add_int, ↓e_add_str, ↓e_add_tup, ↓e_add_obj, ↓e_iadd_int, ↓e_iadd_str, ↓e_iadd_obj, ↓e_I, ↓e_I0, ↓e_IS_int, ↓e_IS_str, ↓e_eq_str, ↓e_ne_str, ↓e_eq_int, ↓e_ne_int, ↓e_eq_bl, ↓e_ne_bl, ↓e_isN, ↓e_notN, ↓e_ix_tup, ↓e_ix_fl, ↓e_ix_str, ↓e_ix_obj, ↓e_in_tup, ↓e_nin_tup, ↓e_len_tup, ↓e_len_fl, ↓e_len_str, ↓e_len_obj, ↓e_int_int, ↓e_tuple_tup, ↓e_tuple_obj, ↓e_list_tup, ↓e_list_obj, ↓e_dget, ↓e_din, ↓e_dnin, ↓e_lstAt, ↓e_dicAt,   e_key_int, e_key_str, e_up, e_ty_str, e_ty_tup, e_ty_int, e_ty_bl, e_ty_non, atI0, atI1, atI2, atI3, atIL, ixN0, ixN1, cut_from1, e_ite_or, e_ite_and, zln, znl, zli, zil, zni, zin, sizeLine_eq, CMul, CDiv, cpow1018, true_or, or_true, kb_strstr, kb_tupstr, kb_tuptup, kb_strtup, kb_inttup, kb_bltup, kb_nontup, kb_strbl, kb_strint, kb_intbl, kb_intint, kb_blbl, kb_blint, kb_nonbl, kb_nonint, kb_nonstr, kb_intstr, kb_blstr, kb_tupbl, kb_tupint,   List.set_cons_zero, List.set_cons_succ, List.set_nil, List.getElem?_cons_zero, List.getElem?_cons_succ, List.getElem?_nil, List.length_cons, List.length_nil, List.length_map, List.length_append, e_lcN, e_lcC, e_forN, e_forC, List.getLast?_concat, List.dropLast_concat, List.nil_append, List.cons_append, List.append_nil, List.append_assoc, List.reverse_cons, List.reverse_nil, List.isEmpty_nil, List.isEmpty_cons, isEmpty_snoc, List.any_cons, List.any_nil, List.all_cons, List.all_nil, flatD, eqF, in_non, in_tup, in_str, in_int, in_bl, in_obj, in_fl, startA, List.map_cons, List.map_nil, List.replicate_succ, List.replicate_zero,   Nat.reduceAdd, Nat.reduceSub, Nat.reduceLeDiff, Nat.zero_add, Int.reduceLE, Int.reduceLT, Int.reduceToNat, Int.reducePow, Int.reduceNeg, Int.reduceAdd, Int.reduceSub,   Option.isSome_some, Option.isSome_none, Bool.not_true, Bool.not_false, Bool.not_eq_true', Bool.not_eq_eq_eq_not, Bool.not_eq_true, Bool.false_eq_true, Bool.true_eq_false, Bool.and_true, Bool.true_and, Bool.or_false, Bool.false_or, Bool.or_true, Bool.true_or, Bool.and_false, Bool.false_and, if_true, if_false, ite_true, ite_false, reduceIte, reduceCtorEq, decide_true, decide_false, decide_eq_true_eq, decide_eq_false_iff_not, true_and, and_true, eq_self, ne_eq, not_false_eq_true, not_true_eq_false, and_self, *])
      refine ⟨rfl, b, d, room - 1 - (1 + v), many, rfl, hb3, by omega, by omega, hm, hm8, fun g M4 hg hs2 hb4 e4 => ?_⟩
      try (simp only [↓e_seq, ↓e_next, ↓e_break, ↓e_cont, ↓e_expr, ↓e_ret, ↓e_retN, ↓e_if, ↓e_never, ↓e_asg, ↓e_name, ↓e_agtup, ↓e_agcons, ↓e_agnil, ↓e_agsub, ↓e_aug, ↓e_dput, ↓e_var, ↓e_c, ↓e_op, ↓e_some, ↓e_none, ↓e_test, ↓e_and, ↓e_or, ↓e_not, ↓e_yes, ↓e_truth,   ↓e_tru_bl, ↓e_tru_int, ↓e_tru_non, ↓e_tru_str, ↓e_tru_tup, ↓e_tru_obj, ↓e_chain, ↓e_orV, ↓e_andV, ↓e_notV, ↓e_ifE, ↓e_neg, ↓e_nil, ↓e_cons, ↓e_tup, ↓e_lst, ↓e_dnew, ↓e_call, ↓e_cb, ↓e_isi, ↓e_sl, ↓e_onone, ↓e_osome, ↓e_rev, ↓e_lm, ↓e_append, ↓e_extend, ↓e_pop, ↓e_join, ↓e_dget2, ↓e_sortSet, ↓e_sortS, ↓e_setd, strsOf_map, ↓e_maxI, ↓e_disp, ↓e_pairN, ↓e_pairC, intsOf_map, ↓e_for, ↓e_ilist, ↓e_itup, ↓e_rng1, ↓e_rng2, ↓e_lc, ↓e_lc2, e_lc2N, ↓e_ienum, ↓e_izip, ↓e_anyB, ↓e_allB, ↓e_mulS, blsOf_map, ↓e_set0, ↓e_sadd, ↓e_sortTx, ↓e_sortD, ↓e_repr, ↓e_extT, ↓e_sc2, ↓e_sortZ, ↓e_tupVals, ↓e_wget, ↓e_wix, ↓e_listZip, zipD_nil, zipD_cons, ↓e_dgetF, ↓e_idif, ↓e_isB, ↓e_sortI, ↓e_sortSetI, ↓e_tailR, ↓e_divmod, ↓e_strI, ↓e_lenD, ↓e_fmt, ↓e_fs2,   ↓e_add_int, ↓e_add_str, ↓e_add_tup, ↓e_add_obj, ↓e_iadd_int, ↓e_iadd_str, ↓e_iadd_obj, ↓e_I, ↓e_I0, ↓e_IS_int, ↓e_IS_str, ↓e_eq_str, ↓e_ne_str, ↓e_eq_int, ↓e_ne_int, ↓e_eq_bl, ↓e_ne_bl, ↓e_isN, ↓e_notN, ↓e_ix_tup, ↓e_ix_fl, ↓e_ix_str, ↓e_ix_obj, ↓e_in_tup, ↓e_nin_tup, ↓e_len_tup, ↓e_len_fl, ↓e_len_str, ↓e_len_obj, ↓e_int_int, ↓e_tuple_tup, ↓e_tuple_obj, ↓e_list_tup, ↓e_list_obj, ↓e_dget, ↓e_din, ↓e_dnin, ↓e_lstAt, ↓e_dicAt,   e_key_int, e_key_str, e_up, e_ty_str, e_ty_tup, e_ty_int, e_ty_bl, e_ty_non, atI0, atI1, atI2, atI3, atIL, ixN0, ixN1, cut_from1, e_ite_or, e_ite_and, zln, znl, zli, zil, zni, zin, sizeLine_eq, CMul, CDiv, cpow1018, true_or, or_true, kb_strstr, kb_tupstr, kb_tuptup, kb_strtup, kb_inttup, kb_bltup, kb_nontup, kb_strbl, kb_strint, kb_intbl, kb_intint, kb_blbl, kb_blint, kb_nonbl, kb_nonint, kb_nonstr, kb_intstr, kb_blstr, kb_tupbl, kb_tupint,   List.set_cons_zero, List.set_cons_succ, List.set_nil, List.getElem?_cons_zero, List.getElem?_cons_succ, List.getElem?_nil, List.length_cons, List.length_nil, List.length_map, List.length_append, e_lcN, e_lcC, e_forN, e_forC, List.getLast?_concat, List.dropLast_concat, List.nil_append, List.cons_append, List.append_nil, List.append_assoc, List.reverse_cons, List.reverse_nil, List.isEmpty_nil, List.isEmpty_cons, isEmpty_snoc, List.any_cons, List.any_nil, List.all_cons, List.all_nil, flatD, eqF, in_non, in_tup, in_str, in_int, in_bl, in_obj, in_fl, startA, List.map_cons, List.map_nil, List.replicate_succ, List.replicate_zero,   Nat.reduceAdd, Nat.reduceSub, Nat.reduceLeDiff, Nat.zero_add, Int.reduceLE, Int.reduceLT, Int.reduceToNat, Int.reducePow, Int.reduceNeg, Int.reduceAdd, Int.reduceSub,   Option.isSome_some, Option.isSome_none, Bool.not_true, Bool.not_false, Bool.not_eq_true', Bool.not_eq_eq_eq_not, Bool.not_eq_true, Bool.false_eq_true, Bool.true_eq_false, Bool.and_true, Bool.true_and, Bool.or_false, Bool.false_or, Bool.or_true, Bool.true_or, Bool.and_false, Bool.false_and, if_true, if_false, ite_true, ite_false, reduceIte, reduceCtorEq, decide_true, decide_false, decide_eq_true_eq, decide_eq_false_iff_not, true_and, and_true, eq_self, ne_eq, not_false_eq_true, not_true_eq_false, and_self, *])
      exact q (.im f g) M4 ⟨hf, hg⟩ (by show ((f.sz + g.sz + 1 : Nat) : Int) ≤ room; omega) hb4 (((e1.trans e2).trans e3).trans e4)
/-! put -/
def A_put (L : Nat) : ASp := fun ds M Q _ => ∃ (f : Fm) (t : Addr) (kvs : List (Key × D)) (σ : Str → Fm), ds = [f.d, .obj t] ∧ f.sz ≤ L ∧ M t = some (.dic kvs) ∧ (∀ s, (valA kvs (.inr s)).getD (Fm.lt s).d = (σ s).d) ∧ ∀ M', Ext M M' → Q (f.sub σ).d M'
theorem p__law_put (L : Nat) (ds : List D) (M : Sto) (Q : D → Sto → Prop) (Xa) (hl : ds.length = 2) (h : A_put (L + 1) ds M Q Xa) : a__law_put (A_put L) ax0 (Done Q) (startA ["formula", "table", "part"] ds) M := by
  obtain ⟨f, t, kvs, σ, rfl, hf, ht, hs, q⟩ := h
  unfold a__law_put
  cases f with
  | lt s =>
    rw [Fm.d_lt]
    have hs' := hs s
    try (simp only [↓e_seq, ↓e_next, ↓e_break, ↓e_cont, ↓e_expr, ↓e_ret, ↓e_retN, ↓e_if, ↓e_never, ↓e_asg, ↓e_name, ↓e_agtup, ↓e_agcons, ↓e_agnil, ↓e_agsub, ↓e_aug, ↓e_dput, ↓e_var, ↓e_c, ↓e_op, ↓e_some, ↓e_none, ↓e_test, ↓e_and, ↓e_or, ↓e_not, ↓e_yes, ↓e_truth,   ↓e_tru_bl, ↓e_tru_int, ↓e_tru_non, ↓e_tru_str, ↓e_tru_tup, ↓e_tru_obj, ↓e_chain, ↓e_orV, ↓e_andV, ↓e_notV, ↓e_ifE, ↓e_neg, ↓e_nil, ↓e_cons, ↓e_tup, ↓e_lst, ↓e_dnew, ↓e_call, ↓e_cb, ↓e_isi, ↓e_sl, ↓e_onone, ↓e_osome, ↓e_rev, ↓e_lm, ↓e_append, ↓e_extend, ↓e_pop, ↓e_join, ↓e_dget2, ↓e_sortSet, ↓e_sortS, ↓e_setd, strsOf_map, ↓e_maxI, ↓e_disp, ↓e_pairN, ↓e_pairC, intsOf_map, ↓e_for, ↓e_ilist, ↓e_itup, ↓e_rng1, ↓e_rng2, ↓e_lc, ↓e_lc2, e_lc2N, ↓e_ienum, ↓e_izip, ↓e_anyB, ↓e_allB, ↓e_mulS, blsOf_map, ↓e_set0, ↓e_sadd, ↓e_sortTx, ↓e_sortD, ↓e_repr, ↓e_extT, ↓e_sc2, ↓e_sortZ, ↓e_tupVals, ↓e_wget, ↓e_wix, ↓e_listZip, zipD_nil, zipD_cons, ↓e_dgetF, ↓e_idif, ↓e_isB, ↓e_sortI, ↓e_sortSetI, ↓e_tailR, ↓e_divmod, ↓e_strI, ↓e_lenD, ↓e_fmt, ↓e_fs2,   ↓e_add_int, ↓e_add_str, ↓e_add_tup, ↓e_add_obj, ↓e_iadd_int, ↓e_iadd_str, ↓e_iadd_obj, ↓e_I, ↓e_I0, ↓e_IS_int, ↓e_IS_str, ↓e_eq_str, ↓e_ne_str, ↓e_eq_int, ↓e_ne_int, ↓e_eq_bl, ↓e_ne_bl, ↓e_isN, ↓e_notN, ↓e_ix_tup, ↓e_ix_fl, ↓e_ix_str, ↓e_ix_obj, ↓e_in_tup, ↓e_nin_tup, ↓e_len_tup, ↓e_len_fl, ↓e_len_str, ↓e_len_obj, ↓e_int_int, ↓e_tuple_tup, ↓e_tuple_obj, ↓e_list_tup, ↓e_list_obj, ↓e_dget, ↓e_din, ↓e_dnin, ↓e_lstAt, ↓e_dicAt,   e_key_int, e_key_str, e_up, e_ty_str, e_ty_tup, e_ty_int, e_ty_bl, e_ty_non, atI0, atI1, atI2, atI3, atIL, ixN0, ixN1, cut_from1, e_ite_or, e_ite_and, zln, znl, zli, zil, zni, zin, sizeLine_eq, CMul, CDiv, cpow1018, true_or, or_true, kb_strstr, kb_tupstr, kb_tuptup, kb_strtup, kb_inttup, kb_bltup, kb_nontup, kb_strbl, kb_strint, kb_intbl, kb_intint, kb_blbl, kb_blint, kb_nonbl, kb_nonint, kb_nonstr, kb_intstr, kb_blstr, kb_tupbl, kb_tupint,   List.set_cons_zero, List.set_cons_succ, List.set_nil, List.getElem?_cons_zero, List.getElem?_cons_succ, List.getElem?_nil, List.length_cons, List.length_nil, List.length_map, List.length_append, e_lcN, e_lcC, e_forN, e_forC, List.getLast?_concat, List.dropLast_concat, List.nil_append, List.cons_append, List.append_nil, List.append_assoc, List.reverse_cons, List.reverse_nil, List.isEmpty_nil, List.isEmpty_cons, isEmpty_snoc, List.any_cons, List.any_nil, List.all_cons, List.all_nil, flatD, eqF, in_non, in_tup, in_str, in_int, in_bl, in_obj, in_fl, startA, List.map_cons, List.map_nil, List.replicate_succ, List.replicate_zero,   Nat.reduceAdd, Nat.reduceSub, Nat.reduceLeDiff, Nat.zero_add, Int.reduceLE, Int.reduceLT, Int.reduceToNat, Int.reducePow, Int.reduceNeg, Int.reduceAdd, Int.reduceSub,   Option.isSome_some, Option.isSome_none, Bool.not_true, Bool.not_false, Bool.not_eq_true', Bool.not_eq_eq_eq_not, Bool.not_eq_true, Bool.false_eq_true, Bool.true_eq_false, Bool.and_true, Bool.true_and, Bool.or_false, Bool.false_or, Bool.or_true, Bool.true_or, Bool.and_false, Bool.false_and, if_true, if_false, ite_true, ite_false, reduceIte, reduceCtorEq, decide_true, decide_false, decide_eq_true_eq, decide_eq_false_iff_not, true_and, and_true, eq_self, ne_eq, not_false_eq_true, not_true_eq_false, and_self, *])
    rw [← Fm.d_lt, hs']
    exact q M (Ext.refl M)
  | ng p =>
    rw [Fm.d_ng]
    try (simp only [↓e_seq, ↓e_next, ↓e_break, ↓e_cont, ↓e_expr, ↓e_ret, ↓e_retN, ↓e_if, ↓e_never, ↓e_asg, ↓e_name, ↓e_agtup, ↓e_agcons, ↓e_agnil, ↓e_agsub, ↓e_aug, ↓e_dput, ↓e_var, ↓e_c, ↓e_op, ↓e_some, ↓e_none, ↓e_test, ↓e_and, ↓e_or, ↓e_not, ↓e_yes, ↓e_truth,   ↓e_tru_bl, ↓e_tru_int, ↓e_tru_non, ↓e_tru_str, ↓e_tru_tup, ↓e_tru_obj, ↓e_chain, ↓e_orV, ↓e_andV, ↓e_notV, ↓e_ifE, ↓e_neg, ↓e_nil, ↓e_cons, ↓e_tup, ↓e_lst, ↓e_dnew, ↓e_call, ↓e_cb, ↓e_isi, ↓e_sl, ↓e_onone, ↓e_osome, ↓e_rev, ↓e_lm, ↓e_append, ↓e_extend, ↓e_pop, ↓e_join, ↓e_dget2, ↓e_sortSet, ↓e_sortS, ↓e_setd, strsOf_map, ↓e_maxI, ↓e_disp, ↓e_pairN, ↓e_pairC, intsOf_map, ↓e_for, ↓e_ilist, ↓e_itup, ↓e_rng1, ↓e_rng2, ↓e_lc, ↓e_lc2, e_lc2N, ↓e_ienum, ↓e_izip, ↓e_anyB, ↓e_allB, ↓e_mulS, blsOf_map, ↓e_set0, ↓e_sadd, ↓e_sortTx, ↓e_sortD, ↓e_repr, ↓e_extT, ↓e_sc2, ↓e_sortZ, ↓e_tupVals, ↓e_wget, ↓e_wix, ↓e_listZip, zipD_nil, zipD_cons, ↓e_dgetF, ↓e_idif, ↓e_isB, ↓e_sortI, ↓e_sortSetI, ↓e_tailR, ↓e_divmod, ↓e_strI, ↓e_lenD, ↓e_fmt, ↓e_fs2,   ↓e_add_int, ↓e_add_str, ↓e_add_tup, ↓e_add_obj, ↓e_iadd_int, ↓e_iadd_str, ↓e_iadd_obj, ↓e_I, ↓e_I0, ↓e_IS_int, ↓e_IS_str, ↓e_eq_str, ↓e_ne_str, ↓e_eq_int, ↓e_ne_int, ↓e_eq_bl, ↓e_ne_bl, ↓e_isN, ↓e_notN, ↓e_ix_tup, ↓e_ix_fl, ↓e_ix_str, ↓e_ix_obj, ↓e_in_tup, ↓e_nin_tup, ↓e_len_tup, ↓e_len_fl, ↓e_len_str, ↓e_len_obj, ↓e_int_int, ↓e_tuple_tup, ↓e_tuple_obj, ↓e_list_tup, ↓e_list_obj, ↓e_dget, ↓e_din, ↓e_dnin, ↓e_lstAt, ↓e_dicAt,   e_key_int, e_key_str, e_up, e_ty_str, e_ty_tup, e_ty_int, e_ty_bl, e_ty_non, atI0, atI1, atI2, atI3, atIL, ixN0, ixN1, cut_from1, e_ite_or, e_ite_and, zln, znl, zli, zil, zni, zin, sizeLine_eq, CMul, CDiv, cpow1018, true_or, or_true, kb_strstr, kb_tupstr, kb_tuptup, kb_strtup, kb_inttup, kb_bltup, kb_nontup, kb_strbl, kb_strint, kb_intbl, kb_intint, kb_blbl, kb_blint, kb_nonbl, kb_nonint, kb_nonstr, kb_intstr, kb_blstr, kb_tupbl, kb_tupint,   List.set_cons_zero, List.set_cons_succ, List.set_nil, List.getElem?_cons_zero, List.getElem?_cons_succ, List.getElem?_nil, List.length_cons, List.length_nil, List.length_map, List.length_append, e_lcN, e_lcC, e_forN, e_forC, List.getLast?_concat, List.dropLast_concat, List.nil_append, List.cons_append, List.append_nil, List.append_assoc, List.reverse_cons, List.reverse_nil, List.isEmpty_nil, List.isEmpty_cons, isEmpty_snoc, List.any_cons, List.any_nil, List.all_cons, List.all_nil, flatD, eqF, in_non, in_tup, in_str, in_int, in_bl, in_obj, in_fl, startA, List.map_cons, List.map_nil, List.replicate_succ, List.replicate_zero,   Nat.reduceAdd, Nat.reduceSub, Nat.reduceLeDiff, Nat.zero_add, Int.reduceLE, Int.reduceLT, Int.reduceToNat, Int.reducePow, Int.reduceNeg, Int.reduceAdd, Int.reduceSub,   Option.isSome_some, Option.isSome_none, Bool.not_true, Bool.not_false, Bool.not_eq_true', Bool.not_eq_eq_eq_not, Bool.not_eq_true, Bool.false_eq_true, Bool.true_eq_false, Bool.and_true, Bool.true_and, Bool.or_false, Bool.false_or, Bool.or_true, Bool.true_or, Bool.and_false, Bool.false_and, if_true, if_false, ite_true, ite_false, reduceIte, reduceCtorEq, decide_true, decide_false, decide_eq_true_eq, decide_eq_false_iff_not, true_and, and_true, eq_self, ne_eq, not_false_eq_true, not_true_eq_false, and_self, *])
    refine ⟨rfl, p, t, kvs, σ, rfl, by have : (Fm.ng p).sz = p.sz + 1 := rfl; omega, ht, hs, fun M1 e1 => ?_⟩
    try (simp only [↓e_seq, ↓e_next, ↓e_break, ↓e_cont, ↓e_expr, ↓e_ret, ↓e_retN, ↓e_if, ↓e_never, ↓e_asg, ↓e_name, ↓e_agtup, ↓e_agcons, ↓e_agnil, ↓e_agsub, ↓e_aug, ↓e_dput, ↓e_var, ↓e_c, ↓e_op, ↓e_some, ↓e_none, ↓e_test, ↓e_and, ↓e_or, ↓e_not, ↓e_yes, ↓e_truth,   ↓e_tru_bl, ↓e_tru_int, ↓e_tru_non, ↓e_tru_str, ↓e_tru_tup, ↓e_tru_obj, ↓e_chain, ↓e_orV, ↓e_andV, ↓e_notV, ↓e_ifE, ↓e_neg, ↓e_nil, ↓e_cons, ↓e_tup, ↓e_lst, ↓e_dnew, ↓e_call, ↓e_cb, ↓e_isi, ↓e_sl, ↓e_onone, ↓e_osome, ↓e_rev, ↓e_lm, ↓e_append, ↓e_extend, ↓e_pop, ↓e_join, ↓e_dget2, ↓e_sortSet, ↓e_sortS, ↓e_setd, strsOf_map, ↓e_maxI, ↓e_disp, ↓e_pairN, ↓e_pairC, intsOf_map, ↓e_for, ↓e_ilist, ↓e_itup, ↓e_rng1, ↓e_rng2, ↓e_lc, ↓e_lc2, e_lc2N, ↓e_ienum, ↓e_izip, ↓e_anyB, ↓e_allB, ↓e_mulS, blsOf_map, ↓e_set0, ↓e_sadd, ↓e_sortTx, ↓e_sortD, ↓e_repr, ↓e_extT, ↓e_sc2, ↓e_sortZ, ↓e_tupVals, ↓e_wget, ↓e_wix, ↓e_listZip, zipD_nil, zipD_cons, ↓e_dgetF, ↓e_idif, ↓e_isB, ↓e_sortI, ↓e_sortSetI, ↓e_tailR, ↓e_divmod, ↓e_strI, ↓e_lenD, ↓e_fmt, ↓e_fs2,   ↓e_add_int, ↓e_add_str, ↓e_add_tup, ↓e_add_obj, ↓e_iadd_int, ↓e_iadd_str, ↓e_iadd_obj, ↓e_I, ↓e_I0, ↓e_IS_int, ↓e_IS_str, ↓e_eq_str, ↓e_ne_str, ↓e_eq_int, ↓e_ne_int, ↓e_eq_bl, ↓e_ne_bl, ↓e_isN, ↓e_notN, ↓e_ix_tup, ↓e_ix_fl, ↓e_ix_str, ↓e_ix_obj, ↓e_in_tup, ↓e_nin_tup, ↓e_len_tup, ↓e_len_fl, ↓e_len_str, ↓e_len_obj, ↓e_int_int, ↓e_tuple_tup, ↓e_tuple_obj, ↓e_list_tup, ↓e_list_obj, ↓e_dget, ↓e_din, ↓e_dnin, ↓e_lstAt, ↓e_dicAt,   e_key_int, e_key_str, e_up, e_ty_str, e_ty_tup, e_ty_int, e_ty_bl, e_ty_non, atI0, atI1, atI2, atI3, atIL, ixN0, ixN1, cut_from1, e_ite_or, e_ite_and, zln, znl, zli, zil, zni, zin, sizeLine_eq, CMul, CDiv, cpow1018, true_or, or_true, kb_strstr, kb_tupstr, kb_tuptup, kb_strtup, kb_inttup, kb_bltup, kb_nontup, kb_strbl, kb_strint, kb_intbl, kb_intint, kb_blbl, kb_blint, kb_nonbl, kb_nonint, kb_nonstr, kb_intstr, kb_blstr, kb_tupbl, kb_tupint,   List.set_cons_zero, List.set_cons_succ, List.set_nil, List.getElem?_cons_zero, List.getElem?_cons_succ, List.getElem?_nil, List.length_cons, List.length_nil, List.length_map, List.length_append, e_lcN, e_lcC, e_forN, e_forC, List.getLast?_concat, List.dropLast_concat, List.nil_append, List.cons_append, List.append_nil, List.append_assoc, List.reverse_cons, List.reverse_nil, List.isEmpty_nil, List.isEmpty_cons, isEmpty_snoc, List.any_cons, List.any_nil, List.all_cons, List.all_nil, flatD, eqF, in_non, in_tup, in_str, in_int, in_bl, in_obj, in_fl, startA, List.map_cons, List.map_nil, List.replicate_succ, List.replicate_zero,   Nat.reduceAdd, Nat.reduceSub, Nat.reduceLeDiff, Nat.zero_add, Int.reduceLE, Int.reduceLT, Int.reduceToNat, Int.reducePow, Int.reduceNeg, Int.reduceAdd, Int.reduceSub,   Option.isSome_some, Option.isSome_none, Bool.not_true, Bool.not_false, Bool.not_eq_true', Bool.not_eq_eq_eq_not, Bool.not_eq_true, Bool.false_eq_true, Bool.true_eq_false, Bool.and_true, Bool.true_and, Bool.or_false, Bool.false_or, Bool.or_true, Bool.true_or, Bool.and_false, Bool.false_and, if_true, if_false, ite_true, ite_false, reduceIte, reduceCtorEq, decide_true, decide_false, decide_eq_true_eq, decide_eq_false_iff_not, true_and, and_true, eq_self, ne_eq, not_false_eq_true, not_true_eq_false, and_self, *])
    intro o ho
    try (simp only [↓e_seq, ↓e_next, ↓e_break, ↓e_cont, ↓e_expr, ↓e_ret, ↓e_retN, ↓e_if, ↓e_never, ↓e_asg, ↓e_name, ↓e_agtup, ↓e_agcons, ↓e_agnil, ↓e_agsub, ↓e_aug, ↓e_dput, ↓e_var, ↓e_c, ↓e_op, ↓e_some, ↓e_none, ↓e_test, ↓e_and, ↓e_or, ↓e_not, ↓e_yes, ↓e_truth,   ↓e_tru_bl, ↓e_tru_int, ↓e_tru_non, ↓e_tru_str, ↓e_tru_tup, ↓e_tru_obj, ↓e_chain, ↓e_orV, ↓e_andV, ↓e_notV, ↓e_ifE, ↓e_neg, ↓e_nil, ↓e_cons, ↓e_tup, ↓e_lst, ↓e_dnew, ↓e_call, ↓e_cb, ↓e_isi, ↓e_sl, ↓e_onone, ↓e_osome, ↓e_rev, ↓e_lm, ↓e_append, ↓e_extend, ↓e_pop, ↓e_join, ↓e_dget2, ↓e_sortSet, ↓e_sortS, ↓e_setd, strsOf_map, ↓e_maxI, ↓e_disp, ↓e_pairN, ↓e_pairC, intsOf_map, ↓e_for, ↓e_ilist, ↓e_itup, ↓e_rng1, ↓e_rng2, ↓e_lc, ↓e_lc2, e_lc2N, ↓e_ienum, ↓e_izip, ↓e_anyB, ↓e_allB, ↓e_mulS, blsOf_map, ↓e_set0, ↓e_sadd, ↓e_sortTx, ↓e_sortD, ↓e_repr, ↓e_extT, ↓e_sc2, ↓e_sortZ, ↓e_tupVals, ↓e_wget, ↓e_wix, ↓e_listZip, zipD_nil, zipD_cons, ↓e_dgetF, ↓e_idif, ↓e_isB, ↓e_sortI, ↓e_sortSetI, ↓e_tailR, ↓e_divmod, ↓e_strI, ↓e_lenD, ↓e_fmt, ↓e_fs2,   ↓e_add_int, ↓e_add_str, ↓e_add_tup, ↓e_add_obj, ↓e_iadd_int, ↓e_iadd_str, ↓e_iadd_obj, ↓e_I, ↓e_I0, ↓e_IS_int, ↓e_IS_str, ↓e_eq_str, ↓e_ne_str, ↓e_eq_int, ↓e_ne_int, ↓e_eq_bl, ↓e_ne_bl, ↓e_isN, ↓e_notN, ↓e_ix_tup, ↓e_ix_fl, ↓e_ix_str, ↓e_ix_obj, ↓e_in_tup, ↓e_nin_tup, ↓e_len_tup, ↓e_len_fl, ↓e_len_str, ↓e_len_obj, ↓e_int_int, ↓e_tuple_tup, ↓e_tuple_obj, ↓e_list_tup, ↓e_list_obj, ↓e_dget, ↓e_din, ↓e_dnin, ↓e_lstAt, ↓e_dicAt,   e_key_int, e_key_str, e_up, e_ty_str, e_ty_tup, e_ty_int, e_ty_bl, e_ty_non, atI0, atI1, atI2, atI3, atIL, ixN0, ixN1, cut_from1, e_ite_or, e_ite_and, zln, znl, zli, zil, zni, zin, sizeLine_eq, CMul, CDiv, cpow1018, true_or, or_true, kb_strstr, kb_tupstr, kb_tuptup, kb_strtup, kb_inttup, kb_bltup, kb_nontup, kb_strbl, kb_strint, kb_intbl, kb_intint, kb_blbl, kb_blint, kb_nonbl, kb_nonint, kb_nonstr, kb_intstr, kb_blstr, kb_tupbl, kb_tupint,   List.set_cons_zero, List.set_cons_succ, List.set_nil, List.getElem?_cons_zero, List.getElem?_cons_succ, List.getElem?_nil, List.length_cons, List.length_nil, List.length_map, List.length_append, e_lcN, e_lcC, e_forN, e_forC, List.getLast?_concat, List.dropLast_concat, List.nil_append, List.cons_append, List.append_nil, List.append_assoc, List.reverse_cons, List.reverse_nil, List.isEmpty_nil, List.isEmpty_cons, isEmpty_snoc, List.any_cons, List.any_nil, List.all_cons, List.all_nil, flatD, eqF, in_non, in_tup, in_str, in_int, in_bl, in_obj, in_fl, startA, List.map_cons, List.map_nil, List.replicate_succ, List.replicate_zero,   Nat.reduceAdd, Nat.reduceSub, Nat.reduceLeDiff, Nat.zero_add, Int.reduceLE, Int.reduceLT, Int.reduceToNat, Int.reducePow, Int.reduceNeg, Int.reduceAdd, Int.reduceSub,   Option.isSome_some, Option.isSome_none, Bool.not_true, Bool.not_false, Bool.not_eq_true', Bool.not_eq_eq_eq_not, Bool.not_eq_true, Bool.false_eq_true, Bool.true_eq_false, Bool.and_true, Bool.true_and, Bool.or_false, Bool.false_or, Bool.or_true, Bool.true_or, Bool.and_false, Bool.false_and, if_true, if_false, ite_true, ite_false, reduceIte, reduceCtorEq, decide_true, decide_false, decide_eq_true_eq, decide_eq_false_iff_not, true_and, and_true, eq_self, ne_eq, not_false_eq_true, not_true_eq_false, and_self, *])
    exact q _ (e1.trans (Ext.new ho))
  | im p r =>
    rw [Fm.d_im]
    try (simp only [↓e_seq, ↓e_next, ↓e_break, ↓e_cont, ↓e_expr, ↓e_ret, ↓e_retN, ↓e_if, ↓e_never, ↓e_asg, ↓e_name, ↓e_agtup, ↓e_agcons, ↓e_agnil, ↓e_agsub, ↓e_aug, ↓e_dput, ↓e_var, ↓e_c, ↓e_op, ↓e_some, ↓e_none, ↓e_test, ↓e_and, ↓e_or, ↓e_not, ↓e_yes, ↓e_truth,   ↓e_tru_bl, ↓e_tru_int, ↓e_tru_non, ↓e_tru_str, ↓e_tru_tup, ↓e_tru_obj, ↓e_chain, ↓e_orV, ↓e_andV, ↓e_notV, ↓e_ifE, ↓e_neg, ↓e_nil, ↓e_cons, ↓e_tup, ↓e_lst, ↓e_dnew, ↓e_call, ↓e_cb, ↓e_isi, ↓e_sl, ↓e_onone, ↓e_osome, ↓e_rev, ↓e_lm, ↓e_append, ↓e_extend, ↓e_pop, ↓e_join, ↓e_dget2, ↓e_sortSet, ↓e_sortS, ↓e_setd, strsOf_map, ↓e_maxI, ↓e_disp, ↓e_pairN, ↓e_pairC, intsOf_map, ↓e_for, ↓e_ilist, ↓e_itup, ↓e_rng1, ↓e_rng2, ↓e_lc, ↓e_lc2, e_lc2N, ↓e_ienum, ↓e_izip, ↓e_anyB, ↓e_allB, ↓e_mulS, blsOf_map, ↓e_set0, ↓e_sadd, ↓e_sortTx, ↓e_sortD, ↓e_repr, ↓e_extT, ↓e_sc2, ↓e_sortZ, ↓e_tupVals, ↓e_wget, ↓e_wix, ↓e_listZip, zipD_nil, zipD_cons, ↓e_dgetF, ↓e_idif, ↓e_isB, ↓e_sortI, ↓e_sortSetI, ↓e_tailR, ↓e_divmod, ↓e_strI, ↓e_lenD, ↓e_fmt, ↓e_fs2,   ↓e_add_int, ↓e_add_str, ↓e_add_tup, ↓e_add_obj, ↓e_iadd_int, ↓e_iadd_str, ↓e_iadd_obj, ↓e_I, ↓e_I0, ↓e_IS_int, ↓e_IS_str, ↓e_eq_str, ↓e_ne_str, ↓e_eq_int, ↓e_ne_int, ↓e_eq_bl, ↓e_ne_bl, ↓e_isN, ↓e_notN, ↓e_ix_tup, ↓e_ix_fl, ↓e_ix_str, ↓e_ix_obj, ↓e_in_tup, ↓e_nin_tup, ↓e_len_tup, ↓e_len_fl, ↓e_len_str, ↓e_len_obj, ↓e_int_int, ↓e_tuple_tup, ↓e_tuple_obj, ↓e_list_tup, ↓e_list_obj, ↓e_dget, ↓e_din, ↓e_dnin, ↓e_lstAt, ↓e_dicAt,   e_key_int, e_key_str, e_up, e_ty_str, e_ty_tup, e_ty_int, e_ty_bl, e_ty_non, atI0, atI1, atI2, atI3, atIL, ixN0, ixN1, cut_from1, e_ite_or, e_ite_and, zln, znl, zli, zil, zni, zin, sizeLine_eq, CMul, CDiv, cpow1018, true_or, or_true, kb_strstr, kb_tupstr, kb_tuptup, kb_strtup, kb_inttup, kb_bltup, kb_nontup, kb_strbl, kb_strint, kb_intbl, kb_intint, kb_blbl, kb_blint, kb_nonbl, kb_nonint, kb_nonstr, kb_intstr, kb_blstr, kb_tupbl, kb_tupint,   List.set_cons_zero, List.set_cons_succ, List.set_nil, List.getElem?_cons_zero, List.getElem?_cons_succ, List.getElem?_nil, List.length_cons, List.length_nil, List.length_map, List.length_append, e_lcN, e_lcC, e_forN, e_forC, List.getLast?_concat, List.dropLast_concat, List.nil_append, List.cons_append, List.append_nil, List.append_assoc, List.reverse_cons, List.reverse_nil, List.isEmpty_nil, List.isEmpty_cons, isEmpty_snoc, List.any_cons, List.any_nil, List.all_cons, List.all_nil, flatD, eqF, in_non, in_tup, in_str, in_int, in_bl, in_obj, in_fl, startA, List.map_cons, List.map_nil, List.replicate_succ, List.replicate_zero,   Nat.reduceAdd, Nat.reduceSub, Nat.reduceLeDiff, Nat.zero_add, Int.reduceLE, Int.reduceLT, Int.reduceToNat, Int.reducePow, Int.reduceNeg, Int.reduceAdd, Int.reduceSub,   Option.isSome_some, Option.isSome_none, Bool.not_true, Bool.not_false, Bool.not_eq_true', Bool.not_eq_eq_eq_not, Bool.not_eq_true, Bool.false_eq_true, Bool.true_eq_false, Bool.and_true, Bool.true_and, Bool.or_false, Bool.false_or, Bool.or_true, Bool.true_or, Bool.and_false, Bool.false_and, if_true, if_false, ite_true, ite_false, reduceIte, reduceCtorEq, decide_true, decide_false, decide_eq_true_eq, decide_eq_false_iff_not, true_and, and_true, eq_self, ne_eq, not_false_eq_true, not_true_eq_false, and_self, *])
    have hz : (Fm.im p r).sz = p.sz + r.sz + 1 := rfl
    refine ⟨rfl, p, t, kvs, σ, rfl, by omega, ht, hs, fun M1 e1 => ?_⟩
    try (simp only [↓e_seq, ↓e_next, ↓e_break, ↓e_cont, ↓e_expr, ↓e_ret, ↓e_retN, ↓e_if, ↓e_never, ↓e_asg, ↓e_name, ↓e_agtup, ↓e_agcons, ↓e_agnil, ↓e_agsub, ↓e_aug, ↓e_dput, ↓e_var, ↓e_c, ↓e_op, ↓e_some, ↓e_none, ↓e_test, ↓e_and, ↓e_or, ↓e_not, ↓e_yes, ↓e_truth,   ↓e_tru_bl, ↓e_tru_int, ↓e_tru_non, ↓e_tru_str, ↓e_tru_tup, ↓e_tru_obj, ↓e_chain, ↓e_orV, ↓e_andV, ↓e_notV, ↓e_ifE, ↓e_neg, ↓e_nil, ↓e_cons, ↓e_tup, ↓e_lst, ↓e_dnew, ↓e_call, ↓e_cb, ↓e_isi, ↓e_sl, ↓e_onone, ↓e_osome, ↓e_rev, ↓e_lm, ↓e_append, ↓e_extend, ↓e_pop, ↓e_join, ↓e_dget2, ↓e_sortSet, ↓e_sortS, ↓e_setd, strsOf_map, ↓e_maxI, ↓e_disp, ↓e_pairN, ↓e_pairC, intsOf_map, ↓e_for, ↓e_ilist, ↓e_itup, ↓e_rng1, ↓e_rng2, ↓e_lc, ↓e_lc2, e_lc2N, ↓e_ienum, ↓e_izip, ↓e_anyB, ↓e_allB, ↓e_mulS, blsOf_map, ↓e_set0, ↓e_sadd, ↓e_sortTx, ↓e_sortD, ↓e_repr, ↓e_extT, ↓e_sc2, ↓e_sortZ, ↓e_tupVals, ↓e_wget, ↓e_wix, ↓e_listZip, zipD_nil, zipD_cons, ↓e_dgetF, ↓e_idif, ↓e_isB, ↓e_sortI, ↓e_sortSetI, ↓e_tailR, ↓e_divmod, ↓e_strI, ↓e_lenD, ↓e_fmt, ↓e_fs2,   ↓e_add_int, ↓e_add_str, ↓e_add_tup, ↓e_add_obj, ↓e_iadd_int, ↓e_iadd_str, ↓e_iadd_obj, ↓e_I, ↓e_I0, ↓e_IS_int, ↓e_IS_str, ↓e_eq_str, ↓e_ne_str, ↓e_eq_int, ↓e_ne_int, ↓e_eq_bl, ↓e_ne_bl, ↓e_isN, ↓e_notN, ↓e_ix_tup, ↓e_ix_fl, ↓e_ix_str, ↓e_ix_obj, ↓e_in_tup, ↓e_nin_tup, ↓e_len_tup, ↓e_len_fl, ↓e_len_str, ↓e_len_obj, ↓e_int_int, ↓e_tuple_tup, ↓e_tuple_obj, ↓e_list_tup, ↓e_list_obj, ↓e_dget, ↓e_din, ↓e_dnin, ↓e_lstAt, ↓e_dicAt,   e_key_int, e_key_str, e_up, e_ty_str, e_ty_tup, e_ty_int, e_ty_bl, e_ty_non, atI0, atI1, atI2, atI3, atIL, ixN0, ixN1, cut_from1, e_ite_or, e_ite_and, zln, znl, zli, zil, zni, zin, sizeLine_eq, CMul, CDiv, cpow1018, true_or, or_true, kb_strstr, kb_tupstr, kb_tuptup, kb_strtup, kb_inttup, kb_bltup, kb_nontup, kb_strbl, kb_strint, kb_intbl, kb_intint, kb_blbl, kb_blint, kb_nonbl, kb_nonint, kb_nonstr, kb_intstr, kb_blstr, kb_tupbl, kb_tupint,   List.set_cons_zero, List.set_cons_succ, List.set_nil, List.getElem?_cons_zero, List.getElem?_cons_succ, List.getElem?_nil, List.length_cons, List.length_nil, List.length_map, List.length_append, e_lcN, e_lcC, e_forN, e_forC, List.getLast?_concat, List.dropLast_concat, List.nil_append, List.cons_append, List.append_nil, List.append_assoc, List.reverse_cons, List.reverse_nil, List.isEmpty_nil, List.isEmpty_cons, isEmpty_snoc, List.any_cons, List.any_nil, List.all_cons, List.all_nil, flatD, eqF, in_non, in_tup, in_str, in_int, in_bl, in_obj, in_fl, startA, List.map_cons, List.map_nil, List.replicate_succ, List.replicate_zero,   Nat.reduceAdd, Nat.reduceSub, Nat.reduceLeDiff, Nat.zero_add, Int.reduceLE, Int.reduceLT, Int.reduceToNat, Int.reducePow, Int.reduceNeg, Int.reduceAdd, Int.reduceSub,   Option.isSome_some, Option.isSome_none, Bool.not_true, Bool.not_false, Bool.not_eq_true', Bool.not_eq_eq_eq_not, Bool.not_eq_true, Bool.false_eq_true, Bool.true_eq_false, Bool.and_true, Bool.true_and, Bool.or_false, Bool.false_or, Bool.or_true, Bool.true_or, Bool.and_false, Bool.false_and, if_true, if_false, ite_true, ite_false, reduceIte, reduceCtorEq, decide_true, decide_false, decide_eq_true_eq, decide_eq_false_iff_not, true_and, and_true, eq_self, ne_eq, not_false_eq_true, not_true_eq_false, and_self, *])
    refine ⟨rfl, r, t, kvs, σ, rfl, by omega, e1 _ _ ht, hs, fun M2 e2 => ?_⟩
    try (simp only [↓e_seq, ↓e_next, ↓e_break, ↓e_cont, ↓e_expr, ↓e_ret, ↓e_retN, ↓e_if, ↓e_never, ↓e_asg, ↓e_name, ↓e_agtup, ↓e_agcons, ↓e_agnil, ↓e_agsub, ↓e_aug, ↓e_dput, ↓e_var, ↓e_c, ↓e_op, ↓e_some, ↓e_none, ↓e_test, ↓e_and, ↓e_or, ↓e_not, ↓e_yes, ↓e_truth,   ↓e_tru_bl, ↓e_tru_int, ↓e_tru_non, ↓e_tru_str, ↓e_tru_tup, ↓e_tru_obj, ↓e_chain, ↓e_orV, ↓e_andV, ↓e_notV, ↓e_ifE, ↓e_neg, ↓e_nil, ↓e_cons, ↓e_tup, ↓e_lst, ↓e_dnew, ↓e_call, ↓e_cb, ↓e_isi, ↓e_sl, ↓e_onone, ↓e_osome, ↓e_rev, ↓e_lm, ↓e_append, ↓e_extend, ↓e_pop, ↓e_join, ↓e_dget2, ↓e_sortSet, ↓e_sortS, ↓e_setd, strsOf_map, ↓e_maxI, ↓e_disp, ↓e_pairN, ↓e_pairC, intsOf_map, ↓e_for, ↓e_ilist, ↓e_itup, ↓e_rng1, ↓e_rng2, ↓e_lc, ↓e_lc2, e_lc2N, ↓e_ienum, ↓e_izip, ↓e_anyB, ↓e_allB, ↓e_mulS, blsOf_map, ↓e_set0, ↓e_sadd, ↓e_sortTx, ↓e_sortD, ↓e_repr, ↓e_extT, ↓e_sc2, ↓e_sortZ, ↓e_tupVals, ↓e_wget, ↓e_wix, ↓e_listZip, zipD_nil, zipD_cons, ↓e_dgetF, ↓e_idif, ↓e_isB, ↓e_sortI, ↓e_sortSetI, ↓e_tailR, ↓e_divmod, ↓e_strI, ↓e_lenD, ↓e_fmt, ↓e_fs2,   ↓e_add_int, ↓e_add_str, ↓e_add_tup, ↓e_add_obj, ↓e_iadd_int, ↓e_iadd_str, ↓e_iadd_obj, ↓e_I, ↓e_I0, ↓e_IS_int, ↓e_IS_str, ↓e_eq_str, ↓e_ne_str, ↓e_eq_int, ↓e_ne_int, ↓e_eq_bl, ↓e_ne_bl, ↓e_isN, ↓e_notN, ↓e_ix_tup, ↓e_ix_fl, ↓e_ix_str, ↓e_ix_obj, ↓e_in_tup, ↓e_nin_tup, ↓e_len_tup, ↓e_len_fl, ↓e_len_str, ↓e_len_obj, ↓e_int_int, ↓e_tuple_tup, ↓e_tuple_obj, ↓e_list_tup, ↓e_list_obj, ↓e_dget, ↓e_din, ↓e_dnin, ↓e_lstAt, ↓e_dicAt,   e_key_int, e_key_str, e_up, e_ty_str, e_ty_tup, e_ty_int, e_ty_bl, e_ty_non, atI0, atI1, atI2, atI3, atIL, ixN0, ixN1, cut_from1, e_ite_or, e_ite_and, zln, znl, zli, zil, zni, zin, sizeLine_eq, CMul, CDiv, cpow1018, true_or, or_true, kb_strstr, kb_tupstr, kb_tuptup, kb_strtup, kb_inttup, kb_bltup, kb_nontup, kb_strbl, kb_strint, kb_intbl, kb_intint, kb_blbl, kb_blint, kb_nonbl, kb_nonint, kb_nonstr, kb_intstr, kb_blstr, kb_tupbl, kb_tupint,   List.set_cons_zero, List.set_cons_succ, List.set_nil, List.getElem?_cons_zero, List.getElem?_cons_succ, List.getElem?_nil, List.length_cons, List.length_nil, List.length_map, List.length_append, e_lcN, e_lcC, e_forN, e_forC, List.getLast?_concat, List.dropLast_concat, List.nil_append, List.cons_append, List.append_nil, List.append_assoc, List.reverse_cons, List.reverse_nil, List.isEmpty_nil, List.isEmpty_cons, isEmpty_snoc, List.any_cons, List.any_nil, List.all_cons, List.all_nil, flatD, eqF, in_non, in_tup, in_str, in_int, in_bl, in_obj, in_fl, startA, List.map_cons, List.map_nil, List.replicate_succ, List.replicate_zero,   Nat.reduceAdd, Nat.reduceSub, Nat.reduceLeDiff, Nat.zero_add, Int.reduceLE, Int.reduceLT, Int.reduceToNat, Int.reducePow, Int.reduceNeg, Int.reduceAdd, Int.reduceSub,   Option.isSome_some, Option.isSome_none, Bool.not_true, Bool.not_false, Bool.not_eq_true', Bool.not_eq_eq_eq_not, Bool.not_eq_true, Bool.false_eq_true, Bool.true_eq_false, Bool.and_true, Bool.true_and, Bool.or_false, Bool.false_or, Bool.or_true, Bool.true_or, Bool.and_false, Bool.false_and, if_true, if_false, ite_true, ite_false, reduceIte, reduceCtorEq, decide_true, decide_false, decide_eq_true_eq, decide_eq_false_iff_not, true_and, and_true, eq_self, ne_eq, not_false_eq_true, not_true_eq_false, and_self, *])
    intro o ho
    try (simp only [↓e_seq, ↓e_next, ↓e_break, ↓e_cont, ↓e_expr, ↓e_ret, ↓e_retN, ↓e_if, ↓e_never, ↓e_asg, ↓e_name, ↓e_agtup, ↓e_agcons, ↓e_agnil, ↓e_agsub, ↓e_aug, ↓e_dput, ↓e_var, ↓e_c, ↓e_op, ↓e_some, ↓e_none, ↓e_test, ↓e_and, ↓e_or, ↓e_not, ↓e_yes, ↓e_truth,   ↓e_tru_bl, ↓e_tru_int, ↓e_tru_non, ↓e_tru_str, ↓e_tru_tup, ↓e_tru_obj, ↓e_chain, ↓e_orV, ↓e_andV, ↓e_notV, ↓e_ifE, ↓e_neg, ↓e_nil, ↓e_cons, ↓e_tup, ↓e_lst, ↓e_dnew, ↓e_call, ↓e_cb, ↓e_isi, ↓e_sl, ↓e_onone, ↓e_osome, ↓e_rev, ↓e_lm, ↓e_append, ↓e_extend, ↓e_pop, ↓e_join, ↓e_dget2, ↓e_sortSet, ↓e_sortS, ↓e_setd, strsOf_map, ↓e_maxI, ↓e_disp, ↓e_pairN, ↓e_pairC, intsOf_map, ↓e_for, ↓e_ilist, ↓e_itup, ↓e_rng1, ↓e_rng2, ↓e_lc, ↓e_lc2, e_lc2N, ↓e_ienum, ↓e_izip, ↓e_anyB, ↓e_allB, ↓e_mulS, blsOf_map, ↓e_set0, ↓e_sadd, ↓e_sortTx, ↓e_sortD, ↓e_repr, ↓e_extT, ↓e_sc2, ↓e_sortZ, ↓e_tupVals, ↓e_wget, ↓e_wix, ↓e_listZip, zipD_nil, zipD_cons, ↓e_dgetF, ↓e_idif, ↓e_isB, ↓e_sortI, ↓e_sortSetI, ↓e_tailR, ↓e_divmod, ↓e_strI, ↓e_lenD, ↓e_fmt, ↓e_fs2,   ↓e_add_int, ↓e_add_str, ↓e_add_tup, ↓e_add_obj, ↓e_iadd_int, ↓e_iadd_str, ↓e_iadd_obj, ↓e_I, ↓e_I0, ↓e_IS_int, ↓e_IS_str, ↓e_eq_str, ↓e_ne_str, ↓e_eq_int, ↓e_ne_int, ↓e_eq_bl, ↓e_ne_bl, ↓e_isN, ↓e_notN, ↓e_ix_tup, ↓e_ix_fl, ↓e_ix_str, ↓e_ix_obj, ↓e_in_tup, ↓e_nin_tup, ↓e_len_tup, ↓e_len_fl, ↓e_len_str, ↓e_len_obj, ↓e_int_int, ↓e_tuple_tup, ↓e_tuple_obj, ↓e_list_tup, ↓e_list_obj, ↓e_dget, ↓e_din, ↓e_dnin, ↓e_lstAt, ↓e_dicAt,   e_key_int, e_key_str, e_up, e_ty_str, e_ty_tup, e_ty_int, e_ty_bl, e_ty_non, atI0, atI1, atI2, atI3, atIL, ixN0, ixN1, cut_from1, e_ite_or, e_ite_and, zln, znl, zli, zil, zni, zin, sizeLine_eq, CMul, CDiv, cpow1018, true_or, or_true, kb_strstr, kb_tupstr, kb_tuptup, kb_strtup, kb_inttup, kb_bltup, kb_nontup, kb_strbl, kb_strint, kb_intbl, kb_intint, kb_blbl, kb_blint, kb_nonbl, kb_nonint, kb_nonstr, kb_intstr, kb_blstr, kb_tupbl, kb_tupint,   List.set_cons_zero, List.set_cons_succ, List.set_nil, List.getElem?_cons_zero, List.getElem?_cons_succ, List.getElem?_nil, List.length_cons, List.length_nil, List.length_map, List.length_append, e_lcN, e_lcC, e_forN, e_forC, List.getLast?_concat, List.dropLast_concat, List.nil_append, List.cons_append, List.append_nil, List.append_assoc, List.reverse_cons, List.reverse_nil, List.isEmpty_nil, List.isEmpty_cons, isEmpty_snoc, List.any_cons, List.any_nil, List.all_cons, List.all_nil, flatD, eqF, in_non, in_tup, in_str, in_int, in_bl, in_obj, in_fl, startA, List.map_cons, List.map_nil, List.replicate_succ, List.replicate_zero,   Nat.reduceAdd, Nat.reduceSub, Nat.reduceLeDiff, Nat.zero_add, Int.reduceLE, Int.reduceLT, Int.reduceToNat, Int.reducePow, Int.reduceNeg, Int.reduceAdd, Int.reduceSub,   Option.isSome_some, Option.isSome_none, Bool.not_true, Bool.not_false, Bool.not_eq_true', Bool.not_eq_eq_eq_not, Bool.not_eq_true, Bool.false_eq_true, Bool.true_eq_false, Bool.and_true, Bool.true_and, Bool.or_false, Bool.false_or, Bool.or_true, Bool.true_or, Bool.and_false, Bool.false_and, if_true, if_false, ite_true, ite_false, reduceIte, reduceCtorEq, decide_true, decide_false, decide_eq_true_eq, decide_eq_false_iff_not, true_and, and_true, eq_self, ne_eq, not_false_eq_true, not_true_eq_false, and_self, *])
    exact q _ ((e1.trans e2).trans (Ext.new ho))

/-! the six names -/
def names6 : List Str := [z_a, z_b, z_z, z_c7, z_a0, z_m9]
def names8 : List Str := [z_a, z_b, z_c, z_d, z_e, z_f, z_g, z_h]
theorem L8_names {s : Str} (h : L8 s) : s ∈ names8 := by
  obtain ⟨c, hc, rfl⟩ := h
  have all : ∀ c ∈ lets8, (⟨#[c]⟩ : Str) ∈ names8 := by decide +kernel
  exact all c hc
def unlet : D → Fm
  | .tup [_, .str t] => .lt t
  | _ => .lt Str.empty
def A_lettered (L : Nat) : ASp := fun ds M Q _ => ∃ b d room many, ds = [.obj b, .int room, .int many] ∧ BoxAt M b d ∧ 1 ≤ room ∧ room ≤ (L : Int) ∧ 1 ≤ many ∧ many ≤ 8 ∧ ∀ (f : Fm) M', f.All (· ∈ names6) → (f.sz : Int) ≤ room → BoxAt M' b d → ExtB b M M' → Q f.d M'
theorem at6 {v : Int} (h0 : 0 ≤ v) (h : v < 6) : ∃ s ∈ names6, atI (names6.map D.str) v = some (.str s) := by
  have e : v = ((v.toNat : Nat) : Int) := by omega
  have hk : v.toNat < names6.length := by show v.toNat < 6; omega
  rw [e, atIn, List.getElem?_map, List.getElem?_eq_getElem hk]
  exact ⟨_, List.getElem_mem hk, rfl⟩
theorem p__law_lettered (L : Nat) (ds : List D) (M : Sto) (Q : D → Sto → Prop) (Xa) (hl : ds.length = 3) (h : A_lettered L ds M Q Xa) : a__law_lettered A_draw (A_put L) (A_any L) ax0 (Done Q) (startA ["box", "room", "many", "names", "table", "name"] ds) M := by
  obtain ⟨b, d, room, many, rfl, hb, hr, hL, hm, hm8, q⟩ := h
  unfold a__law_lettered
  try (simp only [↓e_seq, ↓e_next, ↓e_break, ↓e_cont, ↓e_expr, ↓e_ret, ↓e_retN, ↓e_if, ↓e_never, ↓e_asg, ↓e_name, ↓e_agtup, ↓e_agcons, ↓e_agnil, ↓e_agsub, ↓e_aug, ↓e_dput, ↓e_var, ↓e_c, ↓e_op, ↓e_some, ↓e_none, ↓e_test, ↓e_and, ↓e_or, ↓e_not, ↓e_yes, ↓e_truth,   ↓e_tru_bl, ↓e_tru_int, ↓e_tru_non, ↓e_tru_str, ↓e_tru_tup, ↓e_tru_obj, ↓e_chain, ↓e_orV, ↓e_andV, ↓e_notV, ↓e_ifE, ↓e_neg, ↓e_nil, ↓e_cons, ↓e_tup, ↓e_lst, ↓e_dnew, ↓e_call, ↓e_cb, ↓e_isi, ↓e_sl, ↓e_onone, ↓e_osome, ↓e_rev, ↓e_lm, ↓e_append, ↓e_extend, ↓e_pop, ↓e_join, ↓e_dget2, ↓e_sortSet, ↓e_sortS, ↓e_setd, strsOf_map, ↓e_maxI, ↓e_disp, ↓e_pairN, ↓e_pairC, intsOf_map, ↓e_for, ↓e_ilist, ↓e_itup, ↓e_rng1, ↓e_rng2, ↓e_lc, ↓e_lc2, e_lc2N, ↓e_ienum, ↓e_izip, ↓e_anyB, ↓e_allB, ↓e_mulS, blsOf_map, ↓e_set0, ↓e_sadd, ↓e_sortTx, ↓e_sortD, ↓e_repr, ↓e_extT, ↓e_sc2, ↓e_sortZ, ↓e_tupVals, ↓e_wget, ↓e_wix, ↓e_listZip, zipD_nil, zipD_cons, ↓e_dgetF, ↓e_idif, ↓e_isB, ↓e_sortI, ↓e_sortSetI, ↓e_tailR, ↓e_divmod, ↓e_strI, ↓e_lenD, ↓e_fmt, ↓e_fs2,   ↓e_add_int, ↓e_add_str, ↓e_add_tup, ↓e_add_obj, ↓e_iadd_int, ↓e_iadd_str, ↓e_iadd_obj, ↓e_I, ↓e_I0, ↓e_IS_int, ↓e_IS_str, ↓e_eq_str, ↓e_ne_str, ↓e_eq_int, ↓e_ne_int, ↓e_eq_bl, ↓e_ne_bl, ↓e_isN, ↓e_notN, ↓e_ix_tup, ↓e_ix_fl, ↓e_ix_str, ↓e_ix_obj, ↓e_in_tup, ↓e_nin_tup, ↓e_len_tup, ↓e_len_fl, ↓e_len_str, ↓e_len_obj, ↓e_int_int, ↓e_tuple_tup, ↓e_tuple_obj, ↓e_list_tup, ↓e_list_obj, ↓e_dget, ↓e_din, ↓e_dnin, ↓e_lstAt, ↓e_dicAt,   e_key_int, e_key_str, e_up, e_ty_str, e_ty_tup, e_ty_int, e_ty_bl, e_ty_non, atI0, atI1, atI2, atI3, atIL, ixN0, ixN1, cut_from1, e_ite_or, e_ite_and, zln, znl, zli, zil, zni, zin, sizeLine_eq, CMul, CDiv, cpow1018, true_or, or_true, kb_strstr, kb_tupstr, kb_tuptup, kb_strtup, kb_inttup, kb_bltup, kb_nontup, kb_strbl, kb_strint, kb_intbl, kb_intint, kb_blbl, kb_blint, kb_nonbl, kb_nonint, kb_nonstr, kb_intstr, kb_blstr, kb_tupbl, kb_tupint,   List.set_cons_zero, List.set_cons_succ, List.set_nil, List.getElem?_cons_zero, List.getElem?_cons_succ, List.getElem?_nil, List.length_cons, List.length_nil, List.length_map, List.length_append, e_lcN, e_lcC, e_forN, e_forC, List.getLast?_concat, List.dropLast_concat, List.nil_append, List.cons_append, List.append_nil, List.append_assoc, List.reverse_cons, List.reverse_nil, List.isEmpty_nil, List.isEmpty_cons, isEmpty_snoc, List.any_cons, List.any_nil, List.all_cons, List.all_nil, flatD, eqF, in_non, in_tup, in_str, in_int, in_bl, in_obj, in_fl, startA, List.map_cons, List.map_nil, List.replicate_succ, List.replicate_zero,   Nat.reduceAdd, Nat.reduceSub, Nat.reduceLeDiff, Nat.zero_add, Int.reduceLE, Int.reduceLT, Int.reduceToNat, Int.reducePow, Int.reduceNeg, Int.reduceAdd, Int.reduceSub,   Option.isSome_some, Option.isSome_none, Bool.not_true, Bool.not_false, Bool.not_eq_true', Bool.not_eq_eq_eq_not, Bool.not_eq_true, Bool.false_eq_true, Bool.true_eq_false, Bool.and_true, Bool.true_and, Bool.or_false, Bool.false_or, Bool.or_true, Bool.true_or, Bool.and_false, Bool.false_and, if_true, if_false, ite_true, ite_false, reduceIte, reduceCtorEq, decide_true, decide_false, decide_eq_true_eq, decide_eq_false_iff_not, true_and, and_true, eq_self, ne_eq, not_false_eq_true, not_true_eq_false, and_self, *])
  intro n hn
  try (simp only [↓e_seq, ↓e_next, ↓e_break, ↓e_cont, ↓e_expr, ↓e_ret, ↓e_retN, ↓e_if, ↓e_never, ↓e_asg, ↓e_name, ↓e_agtup, ↓e_agcons, ↓e_agnil, ↓e_agsub, ↓e_aug, ↓e_dput, ↓e_var, ↓e_c, ↓e_op, ↓e_some, ↓e_none, ↓e_test, ↓e_and, ↓e_or, ↓e_not, ↓e_yes, ↓e_truth,   ↓e_tru_bl, ↓e_tru_int, ↓e_tru_non, ↓e_tru_str, ↓e_tru_tup, ↓e_tru_obj, ↓e_chain, ↓e_orV, ↓e_andV, ↓e_notV, ↓e_ifE, ↓e_neg, ↓e_nil, ↓e_cons, ↓e_tup, ↓e_lst, ↓e_dnew, ↓e_call, ↓e_cb, ↓e_isi, ↓e_sl, ↓e_onone, ↓e_osome, ↓e_rev, ↓e_lm, ↓e_append, ↓e_extend, ↓e_pop, ↓e_join, ↓e_dget2, ↓e_sortSet, ↓e_sortS, ↓e_setd, strsOf_map, ↓e_maxI, ↓e_disp, ↓e_pairN, ↓e_pairC, intsOf_map, ↓e_for, ↓e_ilist, ↓e_itup, ↓e_rng1, ↓e_rng2, ↓e_lc, ↓e_lc2, e_lc2N, ↓e_ienum, ↓e_izip, ↓e_anyB, ↓e_allB, ↓e_mulS, blsOf_map, ↓e_set0, ↓e_sadd, ↓e_sortTx, ↓e_sortD, ↓e_repr, ↓e_extT, ↓e_sc2, ↓e_sortZ, ↓e_tupVals, ↓e_wget, ↓e_wix, ↓e_listZip, zipD_nil, zipD_cons, ↓e_dgetF, ↓e_idif, ↓e_isB, ↓e_sortI, ↓e_sortSetI, ↓e_tailR, ↓e_divmod, ↓e_strI, ↓e_lenD, ↓e_fmt, ↓e_fs2,   ↓e_add_int, ↓e_add_str, ↓e_add_tup, ↓e_add_obj, ↓e_iadd_int, ↓e_iadd_str, ↓e_iadd_obj, ↓e_I, ↓e_I0, ↓e_IS_int, ↓e_IS_str, ↓e_eq_str, ↓e_ne_str, ↓e_eq_int, ↓e_ne_int, ↓e_eq_bl, ↓e_ne_bl, ↓e_isN, ↓e_notN, ↓e_ix_tup, ↓e_ix_fl, ↓e_ix_str, ↓e_ix_obj, ↓e_in_tup, ↓e_nin_tup, ↓e_len_tup, ↓e_len_fl, ↓e_len_str, ↓e_len_obj, ↓e_int_int, ↓e_tuple_tup, ↓e_tuple_obj, ↓e_list_tup, ↓e_list_obj, ↓e_dget, ↓e_din, ↓e_dnin, ↓e_lstAt, ↓e_dicAt,   e_key_int, e_key_str, e_up, e_ty_str, e_ty_tup, e_ty_int, e_ty_bl, e_ty_non, atI0, atI1, atI2, atI3, atIL, ixN0, ixN1, cut_from1, e_ite_or, e_ite_and, zln, znl, zli, zil, zni, zin, sizeLine_eq, CMul, CDiv, cpow1018, true_or, or_true, kb_strstr, kb_tupstr, kb_tuptup, kb_strtup, kb_inttup, kb_bltup, kb_nontup, kb_strbl, kb_strint, kb_intbl, kb_intint, kb_blbl, kb_blint, kb_nonbl, kb_nonint, kb_nonstr, kb_intstr, kb_blstr, kb_tupbl, kb_tupint,   List.set_cons_zero, List.set_cons_succ, List.set_nil, List.getElem?_cons_zero, List.getElem?_cons_succ, List.getElem?_nil, List.length_cons, List.length_nil, List.length_map, List.length_append, e_lcN, e_lcC, e_forN, e_forC, List.getLast?_concat, List.dropLast_concat, List.nil_append, List.cons_append, List.append_nil, List.append_assoc, List.reverse_cons, List.reverse_nil, List.isEmpty_nil, List.isEmpty_cons, isEmpty_snoc, List.any_cons, List.any_nil, List.all_cons, List.all_nil, flatD, eqF, in_non, in_tup, in_str, in_int, in_bl, in_obj, in_fl, startA, List.map_cons, List.map_nil, List.replicate_succ, List.replicate_zero,   Nat.reduceAdd, Nat.reduceSub, Nat.reduceLeDiff, Nat.zero_add, Int.reduceLE, Int.reduceLT, Int.reduceToNat, Int.reducePow, Int.reduceNeg, Int.reduceAdd, Int.reduceSub,   Option.isSome_some, Option.isSome_none, Bool.not_true, Bool.not_false, Bool.not_eq_true', Bool.not_eq_eq_eq_not, Bool.not_eq_true, Bool.false_eq_true, Bool.true_eq_false, Bool.and_true, Bool.true_and, Bool.or_false, Bool.false_or, Bool.or_true, Bool.true_or, Bool.and_false, Bool.false_and, if_true, if_false, ite_true, ite_false, reduceIte, reduceCtorEq, decide_true, decide_false, decide_eq_true_eq, decide_eq_false_iff_not, true_and, and_true, eq_self, ne_eq, not_false_eq_true, not_true_eq_false, and_self, *])
  intro t ht
  try (simp only [↓e_seq, ↓e_next, ↓e_break, ↓e_cont, ↓e_expr, ↓e_ret, ↓e_retN, ↓e_if, ↓e_never, ↓e_asg, ↓e_name, ↓e_agtup, ↓e_agcons, ↓e_agnil, ↓e_agsub, ↓e_aug, ↓e_dput, ↓e_var, ↓e_c, ↓e_op, ↓e_some, ↓e_none, ↓e_test, ↓e_and, ↓e_or, ↓e_not, ↓e_yes, ↓e_truth,   ↓e_tru_bl, ↓e_tru_int, ↓e_tru_non, ↓e_tru_str, ↓e_tru_tup, ↓e_tru_obj, ↓e_chain, ↓e_orV, ↓e_andV, ↓e_notV, ↓e_ifE, ↓e_neg, ↓e_nil, ↓e_cons, ↓e_tup, ↓e_lst, ↓e_dnew, ↓e_call, ↓e_cb, ↓e_isi, ↓e_sl, ↓e_onone, ↓e_osome, ↓e_rev, ↓e_lm, ↓e_append, ↓e_extend, ↓e_pop, ↓e_join, ↓e_dget2, ↓e_sortSet, ↓e_sortS, ↓e_setd, strsOf_map, ↓e_maxI, ↓e_disp, ↓e_pairN, ↓e_pairC, intsOf_map, ↓e_for, ↓e_ilist, ↓e_itup, ↓e_rng1, ↓e_rng2, ↓e_lc, ↓e_lc2, e_lc2N, ↓e_ienum, ↓e_izip, ↓e_anyB, ↓e_allB, ↓e_mulS, blsOf_map, ↓e_set0, ↓e_sadd, ↓e_sortTx, ↓e_sortD, ↓e_repr, ↓e_extT, ↓e_sc2, ↓e_sortZ, ↓e_tupVals, ↓e_wget, ↓e_wix, ↓e_listZip, zipD_nil, zipD_cons, ↓e_dgetF, ↓e_idif, ↓e_isB, ↓e_sortI, ↓e_sortSetI, ↓e_tailR, ↓e_divmod, ↓e_strI, ↓e_lenD, ↓e_fmt, ↓e_fs2,   ↓e_add_int, ↓e_add_str, ↓e_add_tup, ↓e_add_obj, ↓e_iadd_int, ↓e_iadd_str, ↓e_iadd_obj, ↓e_I, ↓e_I0, ↓e_IS_int, ↓e_IS_str, ↓e_eq_str, ↓e_ne_str, ↓e_eq_int, ↓e_ne_int, ↓e_eq_bl, ↓e_ne_bl, ↓e_isN, ↓e_notN, ↓e_ix_tup, ↓e_ix_fl, ↓e_ix_str, ↓e_ix_obj, ↓e_in_tup, ↓e_nin_tup, ↓e_len_tup, ↓e_len_fl, ↓e_len_str, ↓e_len_obj, ↓e_int_int, ↓e_tuple_tup, ↓e_tuple_obj, ↓e_list_tup, ↓e_list_obj, ↓e_dget, ↓e_din, ↓e_dnin, ↓e_lstAt, ↓e_dicAt,   e_key_int, e_key_str, e_up, e_ty_str, e_ty_tup, e_ty_int, e_ty_bl, e_ty_non, atI0, atI1, atI2, atI3, atIL, ixN0, ixN1, cut_from1, e_ite_or, e_ite_and, zln, znl, zli, zil, zni, zin, sizeLine_eq, CMul, CDiv, cpow1018, true_or, or_true, kb_strstr, kb_tupstr, kb_tuptup, kb_strtup, kb_inttup, kb_bltup, kb_nontup, kb_strbl, kb_strint, kb_intbl, kb_intint, kb_blbl, kb_blint, kb_nonbl, kb_nonint, kb_nonstr, kb_intstr, kb_blstr, kb_tupbl, kb_tupint,   List.set_cons_zero, List.set_cons_succ, List.set_nil, List.getElem?_cons_zero, List.getElem?_cons_succ, List.getElem?_nil, List.length_cons, List.length_nil, List.length_map, List.length_append, e_lcN, e_lcC, e_forN, e_forC, List.getLast?_concat, List.dropLast_concat, List.nil_append, List.cons_append, List.append_nil, List.append_assoc, List.reverse_cons, List.reverse_nil, List.isEmpty_nil, List.isEmpty_cons, isEmpty_snoc, List.any_cons, List.any_nil, List.all_cons, List.all_nil, flatD, eqF, in_non, in_tup, in_str, in_int, in_bl, in_obj, in_fl, startA, List.map_cons, List.map_nil, List.replicate_succ, List.replicate_zero,   Nat.reduceAdd, Nat.reduceSub, Nat.reduceLeDiff, Nat.zero_add, Int.reduceLE, Int.reduceLT, Int.reduceToNat, Int.reducePow, Int.reduceNeg, Int.reduceAdd, Int.reduceSub,   Option.isSome_some, Option.isSome_none, Bool.not_true, Bool.not_false, Bool.not_eq_true', Bool.not_eq_eq_eq_not, Bool.not_eq_true, Bool.false_eq_true, Bool.true_eq_false, Bool.and_true, Bool.true_and, Bool.or_false, Bool.false_or, Bool.or_true, Bool.true_or, Bool.and_false, Bool.false_and, if_true, if_false, ite_true, ite_false, reduceIte, reduceCtorEq, decide_true, decide_false, decide_eq_true_eq, decide_eq_false_iff_not, true_and, and_true, eq_self, ne_eq, not_false_eq_true, not_true_eq_false, and_self, *])
  intro o ho
  have hn6 : (up M n (.lst [.str z_a, .str z_b, .str z_z, .str z_c7, .str z_a0, .str z_m9])) n = some (.lst (names6.map D.str)) := up_same
  have nt := fresh_ne ht hn6
  have no := fresh_ne ho (Ext.new ht _ _ hn6)
  have to := fresh_ne ho (up_same (M := up M n (.lst [.str z_a, .str z_b, .str z_z, .str z_c7, .str z_a0, .str z_m9])) (a := t) (o := .dic []))
  have ho8 : ∀ M' : Sto, up M' o (.lst [.str z_a, .str z_b, .str z_c, .str z_d, .str z_e, .str z_f, .str z_g, .str z_h]) o = some (.lst (names8.map D.str)) := fun _ => up_same
  have hb1 := ((hb.new (mo := .lst [.str z_a, .str z_b, .str z_z, .str z_c7, .str z_a0, .str z_m9]) hn).new (mo := .dic []) ht).new (mo := .lst [.str z_a, .str z_b, .str z_c, .str z_d, .str z_e, .str z_f, .str z_g, .str z_h]) ho
  have e1 : Ext M _ := ((Ext.new (mo := .lst [.str z_a, .str z_b, .str z_z, .str z_c7, .str z_a0, .str z_m9]) hn).trans (Ext.new (mo := .dic []) ht)).trans (Ext.new (mo := .lst [.str z_a, .str z_b, .str z_c, .str z_d, .str z_e, .str z_f, .str z_g, .str z_h]) ho)
  have bn := (hb.fresh hn).1
  have bt := ((hb.new (mo := .lst [.str z_a, .str z_b, .str z_z, .str z_c7, .str z_a0, .str z_m9]) hn).fresh ht)
  have bo := (((hb.new (mo := .lst [.str z_a, .str z_b, .str z_z, .str z_c7, .str z_a0, .str z_m9]) hn).new (mo := .dic []) ht).fresh ho).1
  show lstAt _ o _
  unfold lstAt
  rw [ho8]
  refine for_run (fun ds env M' => ∃ done rest x5 kvs, names8 = done ++ rest ∧ ds = rest.map D.str ∧ env = [some (.obj b), some (.int room), some (.int many), some (.obj n), some (.obj t), x5] ∧ M' n = some (.lst (names6.map D.str)) ∧ M' t = some (.dic kvs) ∧ M' o = some (.lst (names8.map D.str)) ∧ BoxAt M' b d ∧ ExtB b M M' ∧ kvs.length ≤ done.length ∧
    (∀ s ∈ done, ∃ u ∈ names6, valA kvs (.inr s) = some (Fm.lt u).d) ∧ ∀ s v, valA kvs (.inr s) = some v → ∃ u, v = (Fm.lt u).d) ?_ ?_ ?_ ⟨[], names8, none, [], rfl, rfl, rfl, ?_, ?_, ho8 _, hb1, e1.b, Nat.le_refl _, (fun s hs => nomatch hs), (fun s v hv => nomatch hv)⟩
  · rintro ds env M' ⟨done, rest, x5, kvs, _, _, _, _, _, h8, _⟩
    exact h8
  · rintro env M' ⟨done, rest, x5, kvs, he8, hd, rfl, h6, ht', h8, hb', e', hl, hs, hv⟩
    have hr : rest = [] := List.map_eq_nil_iff.mp hd.symm
    subst hr
    rw [List.append_nil] at he8
    try (simp only [↓e_seq, ↓e_next, ↓e_break, ↓e_cont, ↓e_expr, ↓e_ret, ↓e_retN, ↓e_if, ↓e_never, ↓e_asg, ↓e_name, ↓e_agtup, ↓e_agcons, ↓e_agnil, ↓e_agsub, ↓e_aug, ↓e_dput, ↓e_var, ↓e_c, ↓e_op, ↓e_some, ↓e_none, ↓e_test, ↓e_and, ↓e_or, ↓e_not, ↓e_yes, ↓e_truth,   ↓e_tru_bl, ↓e_tru_int, ↓e_tru_non, ↓e_tru_str, ↓e_tru_tup, ↓e_tru_obj, ↓e_chain, ↓e_orV, ↓e_andV, ↓e_notV, ↓e_ifE, ↓e_neg, ↓e_nil, ↓e_cons, ↓e_tup, ↓e_lst, ↓e_dnew, ↓e_call, ↓e_cb, ↓e_isi, ↓e_sl, ↓e_onone, ↓e_osome, ↓e_rev, ↓e_lm, ↓e_append, ↓e_extend, ↓e_pop, ↓e_join, ↓e_dget2, ↓e_sortSet, ↓e_sortS, ↓e_setd, strsOf_map, ↓e_maxI, ↓e_disp, ↓e_pairN, ↓e_pairC, intsOf_map, ↓e_for, ↓e_ilist, ↓e_itup, ↓e_rng1, ↓e_rng2, ↓e_lc, ↓e_lc2, e_lc2N, ↓e_ienum, ↓e_izip, ↓e_anyB, ↓e_allB, ↓e_mulS, blsOf_map, ↓e_set0, ↓e_sadd, ↓e_sortTx, ↓e_sortD, ↓e_repr, ↓e_extT, ↓e_sc2, ↓e_sortZ, ↓e_tupVals, ↓e_wget, ↓e_wix, ↓e_listZip, zipD_nil, zipD_cons, ↓e_dgetF, ↓e_idif, ↓e_isB, ↓e_sortI, ↓e_sortSetI, ↓e_tailR, ↓e_divmod, ↓e_strI, ↓e_lenD, ↓e_fmt, ↓e_fs2,   ↓e_add_int, ↓e_add_str, ↓e_add_tup, ↓e_add_obj, ↓e_iadd_int, ↓e_iadd_str, ↓e_iadd_obj, ↓e_I, ↓e_I0, ↓e_IS_int, ↓e_IS_str, ↓e_eq_str, ↓e_ne_str, ↓e_eq_int, ↓e_ne_int, ↓e_eq_bl, ↓e_ne_bl, ↓e_isN, ↓e_notN, ↓e_ix_tup, ↓e_ix_fl, ↓e_ix_str, ↓e_ix_obj, ↓e_in_tup, ↓e_nin_tup, ↓e_len_tup, ↓e_len_fl, ↓e_len_str, ↓e_len_obj, ↓e_int_int, ↓e_tuple_tup, ↓e_tuple_obj, ↓e_list_tup, ↓e_list_obj, ↓e_dget, ↓e_din, ↓e_dnin, ↓e_lstAt, ↓e_dicAt,   e_key_int, e_key_str, e_up, e_ty_str, e_ty_tup, e_ty_int, e_ty_bl, e_ty_non, atI0, atI1, atI2, atI3, atIL, ixN0, ixN1, cut_from1, e_ite_or, e_ite_and, zln, znl, zli, zil, zni, zin, sizeLine_eq, CMul, CDiv, cpow1018, true_or, or_true, kb_strstr, kb_tupstr, kb_tuptup, kb_strtup, kb_inttup, kb_bltup, kb_nontup, kb_strbl, kb_strint, kb_intbl, kb_intint, kb_blbl, kb_blint, kb_nonbl, kb_nonint, kb_nonstr, kb_intstr, kb_blstr, kb_tupbl, kb_tupint,   List.set_cons_zero, List.set_cons_succ, List.set_nil, List.getElem?_cons_zero, List.getElem?_cons_succ, List.getElem?_nil, List.length_cons, List.length_nil, List.length_map, List.length_append, e_lcN, e_lcC, e_forN, e_forC, List.getLast?_concat, List.dropLast_concat, List.nil_append, List.cons_append, List.append_nil, List.append_assoc, List.reverse_cons, List.reverse_nil, List.isEmpty_nil, List.isEmpty_cons, isEmpty_snoc, List.any_cons, List.any_nil, List.all_cons, List.all_nil, flatD, eqF, in_non, in_tup, in_str, in_int, in_bl, in_obj, in_fl, startA, List.map_cons, List.map_nil, List.replicate_succ, List.replicate_zero,   Nat.reduceAdd, Nat.reduceSub, Nat.reduceLeDiff, Nat.zero_add, Int.reduceLE, Int.reduceLT, Int.reduceToNat, Int.reducePow, Int.reduceNeg, Int.reduceAdd, Int.reduceSub,   Option.isSome_some, Option.isSome_none, Bool.not_true, Bool.not_false, Bool.not_eq_true', Bool.not_eq_eq_eq_not, Bool.not_eq_true, Bool.false_eq_true, Bool.true_eq_false, Bool.and_true, Bool.true_and, Bool.or_false, Bool.false_or, Bool.or_true, Bool.true_or, Bool.and_false, Bool.false_and, if_true, if_false, ite_true, ite_false, reduceIte, reduceCtorEq, decide_true, decide_false, decide_eq_true_eq, decide_eq_false_iff_not, true_and, and_true, eq_self, ne_eq, not_false_eq_true, not_true_eq_false, and_self, *])
    refine ⟨rfl, b, d, room, many, rfl, hb', hr, hL, hm, hm8, fun f M2 hf hz hb2 e2 => ?_⟩
    try (simp only [↓e_seq, ↓e_next, ↓e_break, ↓e_cont, ↓e_expr, ↓e_ret, ↓e_retN, ↓e_if, ↓e_never, ↓e_asg, ↓e_name, ↓e_agtup, ↓e_agcons, ↓e_agnil, ↓e_agsub, ↓e_aug, ↓e_dput, ↓e_var, ↓e_c, ↓e_op, ↓e_some, ↓e_none, ↓e_test, ↓e_and, ↓e_or, ↓e_not, ↓e_yes, ↓e_truth,   ↓e_tru_bl, ↓e_tru_int, ↓e_tru_non, ↓e_tru_str, ↓e_tru_tup, ↓e_tru_obj, ↓e_chain, ↓e_orV, ↓e_andV, ↓e_notV, ↓e_ifE, ↓e_neg, ↓e_nil, ↓e_cons, ↓e_tup, ↓e_lst, ↓e_dnew, ↓e_call, ↓e_cb, ↓e_isi, ↓e_sl, ↓e_onone, ↓e_osome, ↓e_rev, ↓e_lm, ↓e_append, ↓e_extend, ↓e_pop, ↓e_join, ↓e_dget2, ↓e_sortSet, ↓e_sortS, ↓e_setd, strsOf_map, ↓e_maxI, ↓e_disp, ↓e_pairN, ↓e_pairC, intsOf_map, ↓e_for, ↓e_ilist, ↓e_itup, ↓e_rng1, ↓e_rng2, ↓e_lc, ↓e_lc2, e_lc2N, ↓e_ienum, ↓e_izip, ↓e_anyB, ↓e_allB, ↓e_mulS, blsOf_map, ↓e_set0, ↓e_sadd, ↓e_sortTx, ↓e_sortD, ↓e_repr, ↓e_extT, ↓e_sc2, ↓e_sortZ, ↓e_tupVals, ↓e_wget, ↓e_wix, ↓e_listZip, zipD_nil, zipD_cons, ↓e_dgetF, ↓e_idif, ↓e_isB, ↓e_sortI, ↓e_sortSetI, ↓e_tailR, ↓e_divmod, ↓e_strI, ↓e_lenD, ↓e_fmt, ↓e_fs2,   ↓e_add_int, ↓e_add_str, ↓e_add_tup, ↓e_add_obj, ↓e_iadd_int, ↓e_iadd_str, ↓e_iadd_obj, ↓e_I, ↓e_I0, ↓e_IS_int, ↓e_IS_str, ↓e_eq_str, ↓e_ne_str, ↓e_eq_int, ↓e_ne_int, ↓e_eq_bl, ↓e_ne_bl, ↓e_isN, ↓e_notN, ↓e_ix_tup, ↓e_ix_fl, ↓e_ix_str, ↓e_ix_obj, ↓e_in_tup, ↓e_nin_tup, ↓e_len_tup, ↓e_len_fl, ↓e_len_str, ↓e_len_obj, ↓e_int_int, ↓e_tuple_tup, ↓e_tuple_obj, ↓e_list_tup, ↓e_list_obj, ↓e_dget, ↓e_din, ↓e_dnin, ↓e_lstAt, ↓e_dicAt,   e_key_int, e_key_str, e_up, e_ty_str, e_ty_tup, e_ty_int, e_ty_bl, e_ty_non, atI0, atI1, atI2, atI3, atIL, ixN0, ixN1, cut_from1, e_ite_or, e_ite_and, zln, znl, zli, zil, zni, zin, sizeLine_eq, CMul, CDiv, cpow1018, true_or, or_true, kb_strstr, kb_tupstr, kb_tuptup, kb_strtup, kb_inttup, kb_bltup, kb_nontup, kb_strbl, kb_strint, kb_intbl, kb_intint, kb_blbl, kb_blint, kb_nonbl, kb_nonint, kb_nonstr, kb_intstr, kb_blstr, kb_tupbl, kb_tupint,   List.set_cons_zero, List.set_cons_succ, List.set_nil, List.getElem?_cons_zero, List.getElem?_cons_succ, List.getElem?_nil, List.length_cons, List.length_nil, List.length_map, List.length_append, e_lcN, e_lcC, e_forN, e_forC, List.getLast?_concat, List.dropLast_concat, List.nil_append, List.cons_append, List.append_nil, List.append_assoc, List.reverse_cons, List.reverse_nil, List.isEmpty_nil, List.isEmpty_cons, isEmpty_snoc, List.any_cons, List.any_nil, List.all_cons, List.all_nil, flatD, eqF, in_non, in_tup, in_str, in_int, in_bl, in_obj, in_fl, startA, List.map_cons, List.map_nil, List.replicate_succ, List.replicate_zero,   Nat.reduceAdd, Nat.reduceSub, Nat.reduceLeDiff, Nat.zero_add, Int.reduceLE, Int.reduceLT, Int.reduceToNat, Int.reducePow, Int.reduceNeg, Int.reduceAdd, Int.reduceSub,   Option.isSome_some, Option.isSome_none, Bool.not_true, Bool.not_false, Bool.not_eq_true', Bool.not_eq_eq_eq_not, Bool.not_eq_true, Bool.false_eq_true, Bool.true_eq_false, Bool.and_true, Bool.true_and, Bool.or_false, Bool.false_or, Bool.or_true, Bool.true_or, Bool.and_false, Bool.false_and, if_true, if_false, ite_true, ite_false, reduceIte, reduceCtorEq, decide_true, decide_false, decide_eq_true_eq, decide_eq_false_iff_not, true_and, and_true, eq_self, ne_eq, not_false_eq_true, not_true_eq_false, and_self, *])
    refine ⟨rfl, f, t, kvs, fun s => unlet ((valA kvs (.inr s)).getD (Fm.lt s).d), rfl, by omega, e2 _ _ bt.1.symm ht', fun s => ?_, fun M3 e3 => ?_⟩
    · show (valA kvs (.inr s)).getD (Fm.lt s).d = (unlet ((valA kvs (.inr s)).getD (Fm.lt s).d)).d
      cases hvs : valA kvs (.inr s) with
      | none => rfl
      | some dv =>
        obtain ⟨u, rfl⟩ := hv s dv hvs
        rfl
    · have lt1 : ∀ s, L8 s → ∃ u ∈ names6, unlet ((valA kvs (.inr s)).getD (Fm.lt s).d) = Fm.lt u := fun s h => by
        obtain ⟨u, hu, e⟩ := hs s (by rw [← he8]; exact L8_names h)
        exact ⟨u, hu, by rw [e]; rfl⟩
      refine q _ M3 (Fm.sub_all (P := L8) (fun s h => ?_) hf) ?_ (hb2.ext e3) (e'.trans (e2.trans e3.b))
      · obtain ⟨u, hu, e⟩ := lt1 s h
        rw [e]
        exact hu
      · rw [Fm.sub_sz (P := L8) (fun s h => ?_) hf]
        · exact hz
        · obtain ⟨u, hu, e⟩ := lt1 s h
          rw [e]
          rfl
  · rintro x r N env M' ⟨done, rest, x5, kvs, he8, hd, rfl, h6, ht', h8, hb', e', hl, hs, hv⟩ next
    cases rest with
    | nil => cases hd
    | cons s rest =>
      rw [List.map_cons] at hd
      injection hd with hd1 hd2
      subst hd1 hd2
      try (simp only [↓e_seq, ↓e_next, ↓e_break, ↓e_cont, ↓e_expr, ↓e_ret, ↓e_retN, ↓e_if, ↓e_never, ↓e_asg, ↓e_name, ↓e_agtup, ↓e_agcons, ↓e_agnil, ↓e_agsub, ↓e_aug, ↓e_dput, ↓e_var, ↓e_c, ↓e_op, ↓e_some, ↓e_none, ↓e_test, ↓e_and, ↓e_or, ↓e_not, ↓e_yes, ↓e_truth,   ↓e_tru_bl, ↓e_tru_int, ↓e_tru_non, ↓e_tru_str, ↓e_tru_tup, ↓e_tru_obj, ↓e_chain, ↓e_orV, ↓e_andV, ↓e_notV, ↓e_ifE, ↓e_neg, ↓e_nil, ↓e_cons, ↓e_tup, ↓e_lst, ↓e_dnew, ↓e_call, ↓e_cb, ↓e_isi, ↓e_sl, ↓e_onone, ↓e_osome, ↓e_rev, ↓e_lm, ↓e_append, ↓e_extend, ↓e_pop, ↓e_join, ↓e_dget2, ↓e_sortSet, ↓e_sortS, ↓e_setd, strsOf_map, ↓e_maxI, ↓e_disp, ↓e_pairN, ↓e_pairC, intsOf_map, ↓e_for, ↓e_ilist, ↓e_itup, ↓e_rng1, ↓e_rng2, ↓e_lc, ↓e_lc2, e_lc2N, ↓e_ienum, ↓e_izip, ↓e_anyB, ↓e_allB, ↓e_mulS, blsOf_map, ↓e_set0, ↓e_sadd, ↓e_sortTx, ↓e_sortD, ↓e_repr, ↓e_extT, ↓e_sc2, ↓e_sortZ, ↓e_tupVals, ↓e_wget, ↓e_wix, ↓e_listZip, zipD_nil, zipD_cons, ↓e_dgetF, ↓e_idif, ↓e_isB, ↓e_sortI, ↓e_sortSetI, ↓e_tailR, ↓e_divmod, ↓e_strI, ↓e_lenD, ↓e_fmt, ↓e_fs2,   ↓e_add_int, ↓e_add_str, ↓e_add_tup, ↓e_add_obj, ↓e_iadd_int, ↓e_iadd_str, ↓e_iadd_obj, ↓e_I, ↓e_I0, ↓e_IS_int, ↓e_IS_str, ↓e_eq_str, ↓e_ne_str, ↓e_eq_int, ↓e_ne_int, ↓e_eq_bl, ↓e_ne_bl, ↓e_isN, ↓e_notN, ↓e_ix_tup, ↓e_ix_fl, ↓e_ix_str, ↓e_ix_obj, ↓e_in_tup, ↓e_nin_tup, ↓e_len_tup, ↓e_len_fl, ↓e_len_str, ↓e_len_obj, ↓e_int_int, ↓e_tuple_tup, ↓e_tuple_obj, ↓e_list_tup, ↓e_list_obj, ↓e_dget, ↓e_din, ↓e_dnin, ↓e_lstAt, ↓e_dicAt,   e_key_int, e_key_str, e_up, e_ty_str, e_ty_tup, e_ty_int, e_ty_bl, e_ty_non, atI0, atI1, atI2, atI3, atIL, ixN0, ixN1, cut_from1, e_ite_or, e_ite_and, zln, znl, zli, zil, zni, zin, sizeLine_eq, CMul, CDiv, cpow1018, true_or, or_true, kb_strstr, kb_tupstr, kb_tuptup, kb_strtup, kb_inttup, kb_bltup, kb_nontup, kb_strbl, kb_strint, kb_intbl, kb_intint, kb_blbl, kb_blint, kb_nonbl, kb_nonint, kb_nonstr, kb_intstr, kb_blstr, kb_tupbl, kb_tupint,   List.set_cons_zero, List.set_cons_succ, List.set_nil, List.getElem?_cons_zero, List.getElem?_cons_succ, List.getElem?_nil, List.length_cons, List.length_nil, List.length_map, List.length_append, e_lcN, e_lcC, e_forN, e_forC, List.getLast?_concat, List.dropLast_concat, List.nil_append, List.cons_append, List.append_nil, List.append_assoc, List.reverse_cons, List.reverse_nil, List.isEmpty_nil, List.isEmpty_cons, isEmpty_snoc, List.any_cons, List.any_nil, List.all_cons, List.all_nil, flatD, eqF, in_non, in_tup, in_str, in_int, in_bl, in_obj, in_fl, startA, List.map_cons, List.map_nil, List.replicate_succ, List.replicate_zero,   Nat.reduceAdd, Nat.reduceSub, Nat.reduceLeDiff, Nat.zero_add, Int.reduceLE, Int.reduceLT, Int.reduceToNat, Int.reducePow, Int.reduceNeg, Int.reduceAdd, Int.reduceSub,   Option.isSome_some, Option.isSome_none, Bool.not_true, Bool.not_false, Bool.not_eq_true', Bool.not_eq_eq_eq_not, Bool.not_eq_true, Bool.false_eq_true, Bool.true_eq_false, Bool.and_true, Bool.true_and, Bool.or_false, Bool.false_or, Bool.or_true, Bool.true_or, Bool.and_false, Bool.false_and, if_true, if_false, ite_true, ite_false, reduceIte, reduceCtorEq, decide_true, decide_false, decide_eq_true_eq, decide_eq_false_iff_not, true_and, and_true, eq_self, ne_eq, not_false_eq_true, not_true_eq_false, and_self, *])
      refine ⟨rfl, b, d, 6, rfl, hb', by decide, fun v M2 hv0 hv1 hb2 e2 => ?_⟩
      have h62 := e2 _ _ bn.symm h6
      have ht2 := e2 _ _ bt.1.symm ht'
      have h82 := e2 _ _ bo.symm h8
      obtain ⟨u, hu, hat⟩ := at6 hv0 hv1
      try (simp only [↓e_seq, ↓e_next, ↓e_break, ↓e_cont, ↓e_expr, ↓e_ret, ↓e_retN, ↓e_if, ↓e_never, ↓e_asg, ↓e_name, ↓e_agtup, ↓e_agcons, ↓e_agnil, ↓e_agsub, ↓e_aug, ↓e_dput, ↓e_var, ↓e_c, ↓e_op, ↓e_some, ↓e_none, ↓e_test, ↓e_and, ↓e_or, ↓e_not, ↓e_yes, ↓e_truth,   ↓e_tru_bl, ↓e_tru_int, ↓e_tru_non, ↓e_tru_str, ↓e_tru_tup, ↓e_tru_obj, ↓e_chain, ↓e_orV, ↓e_andV, ↓e_notV, ↓e_ifE, ↓e_neg, ↓e_nil, ↓e_cons, ↓e_tup, ↓e_lst, ↓e_dnew, ↓e_call, ↓e_cb, ↓e_isi, ↓e_sl, ↓e_onone, ↓e_osome, ↓e_rev, ↓e_lm, ↓e_append, ↓e_extend, ↓e_pop, ↓e_join, ↓e_dget2, ↓e_sortSet, ↓e_sortS, ↓e_setd, strsOf_map, ↓e_maxI, ↓e_disp, ↓e_pairN, ↓e_pairC, intsOf_map, ↓e_for, ↓e_ilist, ↓e_itup, ↓e_rng1, ↓e_rng2, ↓e_lc, ↓e_lc2, e_lc2N, ↓e_ienum, ↓e_izip, ↓e_anyB, ↓e_allB, ↓e_mulS, blsOf_map, ↓e_set0, ↓e_sadd, ↓e_sortTx, ↓e_sortD, ↓e_repr, ↓e_extT, ↓e_sc2, ↓e_sortZ, ↓e_tupVals, ↓e_wget, ↓e_wix, ↓e_listZip, zipD_nil, zipD_cons, ↓e_dgetF, ↓e_idif, ↓e_isB, ↓e_sortI, ↓e_sortSetI, ↓e_tailR, ↓e_divmod, ↓e_strI, ↓e_lenD, ↓e_fmt, ↓e_fs2,   ↓e_add_int, ↓e_add_str, ↓e_add_tup, ↓e_add_obj, ↓e_iadd_int, ↓e_iadd_str, ↓e_iadd_obj, ↓e_I, ↓e_I0, ↓e_IS_int, ↓e_IS_str, ↓e_eq_str, ↓e_ne_str, ↓e_eq_int, ↓e_ne_int, ↓e_eq_bl, ↓e_ne_bl, ↓e_isN, ↓e_notN, ↓e_ix_tup, ↓e_ix_fl, ↓e_ix_str, ↓e_ix_obj, ↓e_in_tup, ↓e_nin_tup, ↓e_len_tup, ↓e_len_fl, ↓e_len_str, ↓e_len_obj, ↓e_int_int, ↓e_tuple_tup, ↓e_tuple_obj, ↓e_list_tup, ↓e_list_obj, ↓e_dget, ↓e_din, ↓e_dnin, ↓e_lstAt, ↓e_dicAt,   e_key_int, e_key_str, e_up, e_ty_str, e_ty_tup, e_ty_int, e_ty_bl, e_ty_non, atI0, atI1, atI2, atI3, atIL, ixN0, ixN1, cut_from1, e_ite_or, e_ite_and, zln, znl, zli, zil, zni, zin, sizeLine_eq, CMul, CDiv, cpow1018, true_or, or_true, kb_strstr, kb_tupstr, kb_tuptup, kb_strtup, kb_inttup, kb_bltup, kb_nontup, kb_strbl, kb_strint, kb_intbl, kb_intint, kb_blbl, kb_blint, kb_nonbl, kb_nonint, kb_nonstr, kb_intstr, kb_blstr, kb_tupbl, kb_tupint,   List.set_cons_zero, List.set_cons_succ, List.set_nil, List.getElem?_cons_zero, List.getElem?_cons_succ, List.getElem?_nil, List.length_cons, List.length_nil, List.length_map, List.length_append, e_lcN, e_lcC, e_forN, e_forC, List.getLast?_concat, List.dropLast_concat, List.nil_append, List.cons_append, List.append_nil, List.append_assoc, List.reverse_cons, List.reverse_nil, List.isEmpty_nil, List.isEmpty_cons, isEmpty_snoc, List.any_cons, List.any_nil, List.all_cons, List.all_nil, flatD, eqF, in_non, in_tup, in_str, in_int, in_bl, in_obj, in_fl, startA, List.map_cons, List.map_nil, List.replicate_succ, List.replicate_zero,   Nat.reduceAdd, Nat.reduceSub, Nat.reduceLeDiff, Nat.zero_add, Int.reduceLE, Int.reduceLT, Int.reduceToNat, Int.reducePow, Int.reduceNeg, Int.reduceAdd, Int.reduceSub,   Option.isSome_some, Option.isSome_none, Bool.not_true, Bool.not_false, Bool.not_eq_true', Bool.not_eq_eq_eq_not, Bool.not_eq_true, Bool.false_eq_true, Bool.true_eq_false, Bool.and_true, Bool.true_and, Bool.or_false, Bool.false_or, Bool.or_true, Bool.true_or, Bool.and_false, Bool.false_and, if_true, if_false, ite_true, ite_false, reduceIte, reduceCtorEq, decide_true, decide_false, decide_eq_true_eq, decide_eq_false_iff_not, true_and, and_true, eq_self, ne_eq, not_false_eq_true, not_true_eq_false, and_self, *])
      have hl8 : done.length ≤ 8 := by
        have z := congrArg List.length he8
        rw [List.length_append] at z
        have z8 : names8.length = 8 := rfl
        omega
      refine ⟨by omega, next _ _ ⟨done ++ [s], rest, _, _, by rw [he8, List.append_assoc]; rfl, rfl, rfl, by rw [up_ne nt]; exact h62, up_same, by rw [up_ne to.symm]; exact h82, hb2.upd bt.1 bt.2, (fun a mo na m => ?_), ?_, fun s' hs' => ?_, fun s' v' hv' => ?_⟩⟩
      · have ht0 : M t = none := by rw [up_ne nt.symm] at ht; exact ht
        rw [up_ne (fresh_ne ht0 m)]
        exact e2 _ _ na (e' _ _ na m)
      · have z := putA_length kvs (.inr s) (.tup [.str z_letter, .str u])
        rw [List.length_append, List.length_singleton]
        omega
      · rw [valA_put]
        by_cases hss : s' = s
        · subst hss
          rw [if_pos rfl]
          exact ⟨u, hu, rfl⟩
        · rw [if_neg (fun z => hss (Sum.inr.inj z))]
          rcases List.mem_append.mp hs' with h | h
          · exact hs s' h
          · exact absurd (List.mem_singleton.mp h) hss
      · rw [valA_put] at hv'
        by_cases hss : s' = s
        · subst hss
          rw [if_pos rfl] at hv'
          cases hv'
          exact ⟨u, rfl⟩
        · rw [if_neg (fun z => hss (Sum.inr.inj z))] at hv'
          exact hv s' v' hv'
  · rw [up_ne no, up_ne nt]
    exact hn6
  · rw [up_ne to]
    exact up_same

theorem atI_any {α : Type} {xs : List α} {i : Int} (h0 : 0 ≤ i) (h : i < (xs.length : Int)) : ∃ x, atI xs i = some x ∧ xs[i.toNat]? = some x := by
  have hk : i.toNat < xs.length := by omega
  have e : i = ((i.toNat : Nat) : Int) := by omega
  refine ⟨xs[i.toNat], ?_, List.getElem?_eq_getElem hk⟩
  have z : atI xs ((i.toNat : Nat) : Int) = xs[i.toNat]? := atIn
  rw [← e, List.getElem?_eq_getElem hk] at z
  exact z
/-! _law_same of a thing and itself -/
mutual
def D.dep : D → Nat
  | .tup ds => D.deps ds + 1
  | _ => 0
def D.deps : List D → Nat
  | [] => 0
  | d :: r => max d.dep (D.deps r)
end
mutual
def D.plain : D → Prop
  | .tup ds => ds.length ≤ 1000000 ∧ D.plains ds
  | .obj _ => False
  | .fl _ => False
  | _ => True
def D.plains : List D → Prop
  | [] => True
  | d :: r => d.plain ∧ D.plains r
end
theorem deps_mem : ∀ {ds : List D} {i : Nat} {d : D}, ds[i]? = some d → d.dep ≤ D.deps ds
  | [], _, _, e => by simp at e
  | d :: r, 0, _, e => by cases (Option.some.inj e); exact Nat.le_max_left _ _
  | d :: r, i + 1, _, e => Nat.le_trans (deps_mem (ds := r) (i := i) e) (Nat.le_max_right _ _)
theorem plains_mem : ∀ {ds : List D} {i : Nat} {d : D}, ds[i]? = some d → D.plains ds → d.plain
  | [], _, _, e, _ => by simp at e
  | d :: r, 0, _, e, h => by cases (Option.some.inj e); exact h.1
  | d :: r, i + 1, _, e, h => plains_mem (ds := r) (i := i) e h.2
theorem deps_le : ∀ {ds : List D} {n : Nat}, (∀ d ∈ ds, d.dep ≤ n) → D.deps ds ≤ n
  | [], _, _ => Nat.zero_le _
  | d :: r, n, h => Nat.max_le.mpr ⟨h d List.mem_cons_self, deps_le fun x hx => h x (List.mem_cons_of_mem _ hx)⟩
theorem plains_all : ∀ {ds : List D}, (∀ d ∈ ds, d.plain) → D.plains ds
  | [], _ => trivial
  | d :: r, h => ⟨h d List.mem_cons_self, plains_all fun x hx => h x (List.mem_cons_of_mem _ hx)⟩
theorem Fm.plain : ∀ f : Fm, f.d.plain
  | .lt _ => ⟨(by show 2 ≤ 1000000; omega), trivial, trivial, trivial⟩
  | .ng p => ⟨(by show 2 ≤ 1000000; omega), trivial, Fm.plain p, trivial⟩
  | .im p q => ⟨(by show 3 ≤ 1000000; omega), trivial, Fm.plain p, Fm.plain q, trivial⟩
theorem Fm.dep : ∀ f : Fm, f.d.dep ≤ f.sz
  | .lt _ => Nat.le_refl _
  | .ng p => by
    have h := Fm.dep p
    show max 0 (max p.d.dep 0) + 1 ≤ p.sz + 1
    omega
  | .im p q => by
    have h := Fm.dep p
    have h2 := Fm.dep q
    show max 0 (max p.d.dep (max q.d.dep 0)) + 1 ≤ p.sz + q.sz + 1
    omega
def A_same (L : Nat) : ASp := fun ds M Q _ => ∃ x, ds = [x, x] ∧ x.plain ∧ x.dep < L ∧ Q (.bl true) M
theorem p__law_same (L : Nat) (ds : List D) (M : Sto) (Q : D → Sto → Prop) (Xa) (hl : ds.length = 2) (h : A_same (L + 1) ds M Q Xa) : a__law_same (A_same L) ax0 (Done Q) (startA ["actual", "expected", "k"] ds) M := by
  obtain ⟨x, rfl, hp, hd, q⟩ := h
  unfold a__law_same
  cases x with
  | non => try (simp only [↓e_seq, ↓e_next, ↓e_break, ↓e_cont, ↓e_expr, ↓e_ret, ↓e_retN, ↓e_if, ↓e_never, ↓e_asg, ↓e_name, ↓e_agtup, ↓e_agcons, ↓e_agnil, ↓e_agsub, ↓e_aug, ↓e_dput, ↓e_var, ↓e_c, ↓e_op, ↓e_some, ↓e_none, ↓e_test, ↓e_and, ↓e_or, ↓e_not, ↓e_yes, ↓e_truth,   ↓e_tru_bl, ↓e_tru_int, ↓e_tru_non, ↓e_tru_str, ↓e_tru_tup, ↓e_tru_obj, ↓e_chain, ↓e_orV, ↓e_andV, ↓e_notV, ↓e_ifE, ↓e_neg, ↓e_nil, ↓e_cons, ↓e_tup, ↓e_lst, ↓e_dnew, ↓e_call, ↓e_cb, ↓e_isi, ↓e_sl, ↓e_onone, ↓e_osome, ↓e_rev, ↓e_lm, ↓e_append, ↓e_extend, ↓e_pop, ↓e_join, ↓e_dget2, ↓e_sortSet, ↓e_sortS, ↓e_setd, strsOf_map, ↓e_maxI, ↓e_disp, ↓e_pairN, ↓e_pairC, intsOf_map, ↓e_for, ↓e_ilist, ↓e_itup, ↓e_rng1, ↓e_rng2, ↓e_lc, ↓e_lc2, e_lc2N, ↓e_ienum, ↓e_izip, ↓e_anyB, ↓e_allB, ↓e_mulS, blsOf_map, ↓e_set0, ↓e_sadd, ↓e_sortTx, ↓e_sortD, ↓e_repr, ↓e_extT, ↓e_sc2, ↓e_sortZ, ↓e_tupVals, ↓e_wget, ↓e_wix, ↓e_listZip, zipD_nil, zipD_cons, ↓e_dgetF, ↓e_idif, ↓e_isB, ↓e_sortI, ↓e_sortSetI, ↓e_tailR, ↓e_divmod, ↓e_strI, ↓e_lenD, ↓e_fmt, ↓e_fs2,   ↓e_add_int, ↓e_add_str, ↓e_add_tup, ↓e_add_obj, ↓e_iadd_int, ↓e_iadd_str, ↓e_iadd_obj, ↓e_I, ↓e_I0, ↓e_IS_int, ↓e_IS_str, ↓e_eq_str, ↓e_ne_str, ↓e_eq_int, ↓e_ne_int, ↓e_eq_bl, ↓e_ne_bl, ↓e_isN, ↓e_notN, ↓e_ix_tup, ↓e_ix_fl, ↓e_ix_str, ↓e_ix_obj, ↓e_in_tup, ↓e_nin_tup, ↓e_len_tup, ↓e_len_fl, ↓e_len_str, ↓e_len_obj, ↓e_int_int, ↓e_tuple_tup, ↓e_tuple_obj, ↓e_list_tup, ↓e_list_obj, ↓e_dget, ↓e_din, ↓e_dnin, ↓e_lstAt, ↓e_dicAt,   e_key_int, e_key_str, e_up, e_ty_str, e_ty_tup, e_ty_int, e_ty_bl, e_ty_non, atI0, atI1, atI2, atI3, atIL, ixN0, ixN1, cut_from1, e_ite_or, e_ite_and, zln, znl, zli, zil, zni, zin, sizeLine_eq, CMul, CDiv, cpow1018, true_or, or_true, kb_strstr, kb_tupstr, kb_tuptup, kb_strtup, kb_inttup, kb_bltup, kb_nontup, kb_strbl, kb_strint, kb_intbl, kb_intint, kb_blbl, kb_blint, kb_nonbl, kb_nonint, kb_nonstr, kb_intstr, kb_blstr, kb_tupbl, kb_tupint,   List.set_cons_zero, List.set_cons_succ, List.set_nil, List.getElem?_cons_zero, List.getElem?_cons_succ, List.getElem?_nil, List.length_cons, List.length_nil, List.length_map, List.length_append, e_lcN, e_lcC, e_forN, e_forC, List.getLast?_concat, List.dropLast_concat, List.nil_append, List.cons_append, List.append_nil, List.append_assoc, List.reverse_cons, List.reverse_nil, List.isEmpty_nil, List.isEmpty_cons, isEmpty_snoc, List.any_cons, List.any_nil, List.all_cons, List.all_nil, flatD, eqF, in_non, in_tup, in_str, in_int, in_bl, in_obj, in_fl, startA, List.map_cons, List.map_nil, List.replicate_succ, List.replicate_zero,   Nat.reduceAdd, Nat.reduceSub, Nat.reduceLeDiff, Nat.zero_add, Int.reduceLE, Int.reduceLT, Int.reduceToNat, Int.reducePow, Int.reduceNeg, Int.reduceAdd, Int.reduceSub,   Option.isSome_some, Option.isSome_none, Bool.not_true, Bool.not_false, Bool.not_eq_true', Bool.not_eq_eq_eq_not, Bool.not_eq_true, Bool.false_eq_true, Bool.true_eq_false, Bool.and_true, Bool.true_and, Bool.or_false, Bool.false_or, Bool.or_true, Bool.true_or, Bool.and_false, Bool.false_and, if_true, if_false, ite_true, ite_false, reduceIte, reduceCtorEq, decide_true, decide_false, decide_eq_true_eq, decide_eq_false_iff_not, true_and, and_true, eq_self, ne_eq, not_false_eq_true, not_true_eq_false, and_self, *])
  | bl b => try (simp only [↓e_seq, ↓e_next, ↓e_break, ↓e_cont, ↓e_expr, ↓e_ret, ↓e_retN, ↓e_if, ↓e_never, ↓e_asg, ↓e_name, ↓e_agtup, ↓e_agcons, ↓e_agnil, ↓e_agsub, ↓e_aug, ↓e_dput, ↓e_var, ↓e_c, ↓e_op, ↓e_some, ↓e_none, ↓e_test, ↓e_and, ↓e_or, ↓e_not, ↓e_yes, ↓e_truth,   ↓e_tru_bl, ↓e_tru_int, ↓e_tru_non, ↓e_tru_str, ↓e_tru_tup, ↓e_tru_obj, ↓e_chain, ↓e_orV, ↓e_andV, ↓e_notV, ↓e_ifE, ↓e_neg, ↓e_nil, ↓e_cons, ↓e_tup, ↓e_lst, ↓e_dnew, ↓e_call, ↓e_cb, ↓e_isi, ↓e_sl, ↓e_onone, ↓e_osome, ↓e_rev, ↓e_lm, ↓e_append, ↓e_extend, ↓e_pop, ↓e_join, ↓e_dget2, ↓e_sortSet, ↓e_sortS, ↓e_setd, strsOf_map, ↓e_maxI, ↓e_disp, ↓e_pairN, ↓e_pairC, intsOf_map, ↓e_for, ↓e_ilist, ↓e_itup, ↓e_rng1, ↓e_rng2, ↓e_lc, ↓e_lc2, e_lc2N, ↓e_ienum, ↓e_izip, ↓e_anyB, ↓e_allB, ↓e_mulS, blsOf_map, ↓e_set0, ↓e_sadd, ↓e_sortTx, ↓e_sortD, ↓e_repr, ↓e_extT, ↓e_sc2, ↓e_sortZ, ↓e_tupVals, ↓e_wget, ↓e_wix, ↓e_listZip, zipD_nil, zipD_cons, ↓e_dgetF, ↓e_idif, ↓e_isB, ↓e_sortI, ↓e_sortSetI, ↓e_tailR, ↓e_divmod, ↓e_strI, ↓e_lenD, ↓e_fmt, ↓e_fs2,   ↓e_add_int, ↓e_add_str, ↓e_add_tup, ↓e_add_obj, ↓e_iadd_int, ↓e_iadd_str, ↓e_iadd_obj, ↓e_I, ↓e_I0, ↓e_IS_int, ↓e_IS_str, ↓e_eq_str, ↓e_ne_str, ↓e_eq_int, ↓e_ne_int, ↓e_eq_bl, ↓e_ne_bl, ↓e_isN, ↓e_notN, ↓e_ix_tup, ↓e_ix_fl, ↓e_ix_str, ↓e_ix_obj, ↓e_in_tup, ↓e_nin_tup, ↓e_len_tup, ↓e_len_fl, ↓e_len_str, ↓e_len_obj, ↓e_int_int, ↓e_tuple_tup, ↓e_tuple_obj, ↓e_list_tup, ↓e_list_obj, ↓e_dget, ↓e_din, ↓e_dnin, ↓e_lstAt, ↓e_dicAt,   e_key_int, e_key_str, e_up, e_ty_str, e_ty_tup, e_ty_int, e_ty_bl, e_ty_non, atI0, atI1, atI2, atI3, atIL, ixN0, ixN1, cut_from1, e_ite_or, e_ite_and, zln, znl, zli, zil, zni, zin, sizeLine_eq, CMul, CDiv, cpow1018, true_or, or_true, kb_strstr, kb_tupstr, kb_tuptup, kb_strtup, kb_inttup, kb_bltup, kb_nontup, kb_strbl, kb_strint, kb_intbl, kb_intint, kb_blbl, kb_blint, kb_nonbl, kb_nonint, kb_nonstr, kb_intstr, kb_blstr, kb_tupbl, kb_tupint,   List.set_cons_zero, List.set_cons_succ, List.set_nil, List.getElem?_cons_zero, List.getElem?_cons_succ, List.getElem?_nil, List.length_cons, List.length_nil, List.length_map, List.length_append, e_lcN, e_lcC, e_forN, e_forC, List.getLast?_concat, List.dropLast_concat, List.nil_append, List.cons_append, List.append_nil, List.append_assoc, List.reverse_cons, List.reverse_nil, List.isEmpty_nil, List.isEmpty_cons, isEmpty_snoc, List.any_cons, List.any_nil, List.all_cons, List.all_nil, flatD, eqF, in_non, in_tup, in_str, in_int, in_bl, in_obj, in_fl, startA, List.map_cons, List.map_nil, List.replicate_succ, List.replicate_zero,   Nat.reduceAdd, Nat.reduceSub, Nat.reduceLeDiff, Nat.zero_add, Int.reduceLE, Int.reduceLT, Int.reduceToNat, Int.reducePow, Int.reduceNeg, Int.reduceAdd, Int.reduceSub,   Option.isSome_some, Option.isSome_none, Bool.not_true, Bool.not_false, Bool.not_eq_true', Bool.not_eq_eq_eq_not, Bool.not_eq_true, Bool.false_eq_true, Bool.true_eq_false, Bool.and_true, Bool.true_and, Bool.or_false, Bool.false_or, Bool.or_true, Bool.true_or, Bool.and_false, Bool.false_and, if_true, if_false, ite_true, ite_false, reduceIte, reduceCtorEq, decide_true, decide_false, decide_eq_true_eq, decide_eq_false_iff_not, true_and, and_true, eq_self, ne_eq, not_false_eq_true, not_true_eq_false, and_self, *])
  | int i => try (simp only [↓e_seq, ↓e_next, ↓e_break, ↓e_cont, ↓e_expr, ↓e_ret, ↓e_retN, ↓e_if, ↓e_never, ↓e_asg, ↓e_name, ↓e_agtup, ↓e_agcons, ↓e_agnil, ↓e_agsub, ↓e_aug, ↓e_dput, ↓e_var, ↓e_c, ↓e_op, ↓e_some, ↓e_none, ↓e_test, ↓e_and, ↓e_or, ↓e_not, ↓e_yes, ↓e_truth,   ↓e_tru_bl, ↓e_tru_int, ↓e_tru_non, ↓e_tru_str, ↓e_tru_tup, ↓e_tru_obj, ↓e_chain, ↓e_orV, ↓e_andV, ↓e_notV, ↓e_ifE, ↓e_neg, ↓e_nil, ↓e_cons, ↓e_tup, ↓e_lst, ↓e_dnew, ↓e_call, ↓e_cb, ↓e_isi, ↓e_sl, ↓e_onone, ↓e_osome, ↓e_rev, ↓e_lm, ↓e_append, ↓e_extend, ↓e_pop, ↓e_join, ↓e_dget2, ↓e_sortSet, ↓e_sortS, ↓e_setd, strsOf_map, ↓e_maxI, ↓e_disp, ↓e_pairN, ↓e_pairC, intsOf_map, ↓e_for, ↓e_ilist, ↓e_itup, ↓e_rng1, ↓e_rng2, ↓e_lc, ↓e_lc2, e_lc2N, ↓e_ienum, ↓e_izip, ↓e_anyB, ↓e_allB, ↓e_mulS, blsOf_map, ↓e_set0, ↓e_sadd, ↓e_sortTx, ↓e_sortD, ↓e_repr, ↓e_extT, ↓e_sc2, ↓e_sortZ, ↓e_tupVals, ↓e_wget, ↓e_wix, ↓e_listZip, zipD_nil, zipD_cons, ↓e_dgetF, ↓e_idif, ↓e_isB, ↓e_sortI, ↓e_sortSetI, ↓e_tailR, ↓e_divmod, ↓e_strI, ↓e_lenD, ↓e_fmt, ↓e_fs2,   ↓e_add_int, ↓e_add_str, ↓e_add_tup, ↓e_add_obj, ↓e_iadd_int, ↓e_iadd_str, ↓e_iadd_obj, ↓e_I, ↓e_I0, ↓e_IS_int, ↓e_IS_str, ↓e_eq_str, ↓e_ne_str, ↓e_eq_int, ↓e_ne_int, ↓e_eq_bl, ↓e_ne_bl, ↓e_isN, ↓e_notN, ↓e_ix_tup, ↓e_ix_fl, ↓e_ix_str, ↓e_ix_obj, ↓e_in_tup, ↓e_nin_tup, ↓e_len_tup, ↓e_len_fl, ↓e_len_str, ↓e_len_obj, ↓e_int_int, ↓e_tuple_tup, ↓e_tuple_obj, ↓e_list_tup, ↓e_list_obj, ↓e_dget, ↓e_din, ↓e_dnin, ↓e_lstAt, ↓e_dicAt,   e_key_int, e_key_str, e_up, e_ty_str, e_ty_tup, e_ty_int, e_ty_bl, e_ty_non, atI0, atI1, atI2, atI3, atIL, ixN0, ixN1, cut_from1, e_ite_or, e_ite_and, zln, znl, zli, zil, zni, zin, sizeLine_eq, CMul, CDiv, cpow1018, true_or, or_true, kb_strstr, kb_tupstr, kb_tuptup, kb_strtup, kb_inttup, kb_bltup, kb_nontup, kb_strbl, kb_strint, kb_intbl, kb_intint, kb_blbl, kb_blint, kb_nonbl, kb_nonint, kb_nonstr, kb_intstr, kb_blstr, kb_tupbl, kb_tupint,   List.set_cons_zero, List.set_cons_succ, List.set_nil, List.getElem?_cons_zero, List.getElem?_cons_succ, List.getElem?_nil, List.length_cons, List.length_nil, List.length_map, List.length_append, e_lcN, e_lcC, e_forN, e_forC, List.getLast?_concat, List.dropLast_concat, List.nil_append, List.cons_append, List.append_nil, List.append_assoc, List.reverse_cons, List.reverse_nil, List.isEmpty_nil, List.isEmpty_cons, isEmpty_snoc, List.any_cons, List.any_nil, List.all_cons, List.all_nil, flatD, eqF, in_non, in_tup, in_str, in_int, in_bl, in_obj, in_fl, startA, List.map_cons, List.map_nil, List.replicate_succ, List.replicate_zero,   Nat.reduceAdd, Nat.reduceSub, Nat.reduceLeDiff, Nat.zero_add, Int.reduceLE, Int.reduceLT, Int.reduceToNat, Int.reducePow, Int.reduceNeg, Int.reduceAdd, Int.reduceSub,   Option.isSome_some, Option.isSome_none, Bool.not_true, Bool.not_false, Bool.not_eq_true', Bool.not_eq_eq_eq_not, Bool.not_eq_true, Bool.false_eq_true, Bool.true_eq_false, Bool.and_true, Bool.true_and, Bool.or_false, Bool.false_or, Bool.or_true, Bool.true_or, Bool.and_false, Bool.false_and, if_true, if_false, ite_true, ite_false, reduceIte, reduceCtorEq, decide_true, decide_false, decide_eq_true_eq, decide_eq_false_iff_not, true_and, and_true, eq_self, ne_eq, not_false_eq_true, not_true_eq_false, and_self, *])
  | str s => try (simp only [↓e_seq, ↓e_next, ↓e_break, ↓e_cont, ↓e_expr, ↓e_ret, ↓e_retN, ↓e_if, ↓e_never, ↓e_asg, ↓e_name, ↓e_agtup, ↓e_agcons, ↓e_agnil, ↓e_agsub, ↓e_aug, ↓e_dput, ↓e_var, ↓e_c, ↓e_op, ↓e_some, ↓e_none, ↓e_test, ↓e_and, ↓e_or, ↓e_not, ↓e_yes, ↓e_truth,   ↓e_tru_bl, ↓e_tru_int, ↓e_tru_non, ↓e_tru_str, ↓e_tru_tup, ↓e_tru_obj, ↓e_chain, ↓e_orV, ↓e_andV, ↓e_notV, ↓e_ifE, ↓e_neg, ↓e_nil, ↓e_cons, ↓e_tup, ↓e_lst, ↓e_dnew, ↓e_call, ↓e_cb, ↓e_isi, ↓e_sl, ↓e_onone, ↓e_osome, ↓e_rev, ↓e_lm, ↓e_append, ↓e_extend, ↓e_pop, ↓e_join, ↓e_dget2, ↓e_sortSet, ↓e_sortS, ↓e_setd, strsOf_map, ↓e_maxI, ↓e_disp, ↓e_pairN, ↓e_pairC, intsOf_map, ↓e_for, ↓e_ilist, ↓e_itup, ↓e_rng1, ↓e_rng2, ↓e_lc, ↓e_lc2, e_lc2N, ↓e_ienum, ↓e_izip, ↓e_anyB, ↓e_allB, ↓e_mulS, blsOf_map, ↓e_set0, ↓e_sadd, ↓e_sortTx, ↓e_sortD, ↓e_repr, ↓e_extT, ↓e_sc2, ↓e_sortZ, ↓e_tupVals, ↓e_wget, ↓e_wix, ↓e_listZip, zipD_nil, zipD_cons, ↓e_dgetF, ↓e_idif, ↓e_isB, ↓e_sortI, ↓e_sortSetI, ↓e_tailR, ↓e_divmod, ↓e_strI, ↓e_lenD, ↓e_fmt, ↓e_fs2,   ↓e_add_int, ↓e_add_str, ↓e_add_tup, ↓e_add_obj, ↓e_iadd_int, ↓e_iadd_str, ↓e_iadd_obj, ↓e_I, ↓e_I0, ↓e_IS_int, ↓e_IS_str, ↓e_eq_str, ↓e_ne_str, ↓e_eq_int, ↓e_ne_int, ↓e_eq_bl, ↓e_ne_bl, ↓e_isN, ↓e_notN, ↓e_ix_tup, ↓e_ix_fl, ↓e_ix_str, ↓e_ix_obj, ↓e_in_tup, ↓e_nin_tup, ↓e_len_tup, ↓e_len_fl, ↓e_len_str, ↓e_len_obj, ↓e_int_int, ↓e_tuple_tup, ↓e_tuple_obj, ↓e_list_tup, ↓e_list_obj, ↓e_dget, ↓e_din, ↓e_dnin, ↓e_lstAt, ↓e_dicAt,   e_key_int, e_key_str, e_up, e_ty_str, e_ty_tup, e_ty_int, e_ty_bl, e_ty_non, atI0, atI1, atI2, atI3, atIL, ixN0, ixN1, cut_from1, e_ite_or, e_ite_and, zln, znl, zli, zil, zni, zin, sizeLine_eq, CMul, CDiv, cpow1018, true_or, or_true, kb_strstr, kb_tupstr, kb_tuptup, kb_strtup, kb_inttup, kb_bltup, kb_nontup, kb_strbl, kb_strint, kb_intbl, kb_intint, kb_blbl, kb_blint, kb_nonbl, kb_nonint, kb_nonstr, kb_intstr, kb_blstr, kb_tupbl, kb_tupint,   List.set_cons_zero, List.set_cons_succ, List.set_nil, List.getElem?_cons_zero, List.getElem?_cons_succ, List.getElem?_nil, List.length_cons, List.length_nil, List.length_map, List.length_append, e_lcN, e_lcC, e_forN, e_forC, List.getLast?_concat, List.dropLast_concat, List.nil_append, List.cons_append, List.append_nil, List.append_assoc, List.reverse_cons, List.reverse_nil, List.isEmpty_nil, List.isEmpty_cons, isEmpty_snoc, List.any_cons, List.any_nil, List.all_cons, List.all_nil, flatD, eqF, in_non, in_tup, in_str, in_int, in_bl, in_obj, in_fl, startA, List.map_cons, List.map_nil, List.replicate_succ, List.replicate_zero,   Nat.reduceAdd, Nat.reduceSub, Nat.reduceLeDiff, Nat.zero_add, Int.reduceLE, Int.reduceLT, Int.reduceToNat, Int.reducePow, Int.reduceNeg, Int.reduceAdd, Int.reduceSub,   Option.isSome_some, Option.isSome_none, Bool.not_true, Bool.not_false, Bool.not_eq_true', Bool.not_eq_eq_eq_not, Bool.not_eq_true, Bool.false_eq_true, Bool.true_eq_false, Bool.and_true, Bool.true_and, Bool.or_false, Bool.false_or, Bool.or_true, Bool.true_or, Bool.and_false, Bool.false_and, if_true, if_false, ite_true, ite_false, reduceIte, reduceCtorEq, decide_true, decide_false, decide_eq_true_eq, decide_eq_false_iff_not, true_and, and_true, eq_self, ne_eq, not_false_eq_true, not_true_eq_false, and_self, *])
  | obj a => exact hp.elim
  | fl a => exact hp.elim
  | tup xs =>
    have hx := hp.1
    have hdd : D.deps xs + 1 < L + 1 := hd
    try (simp only [↓e_seq, ↓e_next, ↓e_break, ↓e_cont, ↓e_expr, ↓e_ret, ↓e_retN, ↓e_if, ↓e_never, ↓e_asg, ↓e_name, ↓e_agtup, ↓e_agcons, ↓e_agnil, ↓e_agsub, ↓e_aug, ↓e_dput, ↓e_var, ↓e_c, ↓e_op, ↓e_some, ↓e_none, ↓e_test, ↓e_and, ↓e_or, ↓e_not, ↓e_yes, ↓e_truth,   ↓e_tru_bl, ↓e_tru_int, ↓e_tru_non, ↓e_tru_str, ↓e_tru_tup, ↓e_tru_obj, ↓e_chain, ↓e_orV, ↓e_andV, ↓e_notV, ↓e_ifE, ↓e_neg, ↓e_nil, ↓e_cons, ↓e_tup, ↓e_lst, ↓e_dnew, ↓e_call, ↓e_cb, ↓e_isi, ↓e_sl, ↓e_onone, ↓e_osome, ↓e_rev, ↓e_lm, ↓e_append, ↓e_extend, ↓e_pop, ↓e_join, ↓e_dget2, ↓e_sortSet, ↓e_sortS, ↓e_setd, strsOf_map, ↓e_maxI, ↓e_disp, ↓e_pairN, ↓e_pairC, intsOf_map, ↓e_for, ↓e_ilist, ↓e_itup, ↓e_rng1, ↓e_rng2, ↓e_lc, ↓e_lc2, e_lc2N, ↓e_ienum, ↓e_izip, ↓e_anyB, ↓e_allB, ↓e_mulS, blsOf_map, ↓e_set0, ↓e_sadd, ↓e_sortTx, ↓e_sortD, ↓e_repr, ↓e_extT, ↓e_sc2, ↓e_sortZ, ↓e_tupVals, ↓e_wget, ↓e_wix, ↓e_listZip, zipD_nil, zipD_cons, ↓e_dgetF, ↓e_idif, ↓e_isB, ↓e_sortI, ↓e_sortSetI, ↓e_tailR, ↓e_divmod, ↓e_strI, ↓e_lenD, ↓e_fmt, ↓e_fs2,   ↓e_add_int, ↓e_add_str, ↓e_add_tup, ↓e_add_obj, ↓e_iadd_int, ↓e_iadd_str, ↓e_iadd_obj, ↓e_I, ↓e_I0, ↓e_IS_int, ↓e_IS_str, ↓e_eq_str, ↓e_ne_str, ↓e_eq_int, ↓e_ne_int, ↓e_eq_bl, ↓e_ne_bl, ↓e_isN, ↓e_notN, ↓e_ix_tup, ↓e_ix_fl, ↓e_ix_str, ↓e_ix_obj, ↓e_in_tup, ↓e_nin_tup, ↓e_len_tup, ↓e_len_fl, ↓e_len_str, ↓e_len_obj, ↓e_int_int, ↓e_tuple_tup, ↓e_tuple_obj, ↓e_list_tup, ↓e_list_obj, ↓e_dget, ↓e_din, ↓e_dnin, ↓e_lstAt, ↓e_dicAt,   e_key_int, e_key_str, e_up, e_ty_str, e_ty_tup, e_ty_int, e_ty_bl, e_ty_non, atI0, atI1, atI2, atI3, atIL, ixN0, ixN1, cut_from1, e_ite_or, e_ite_and, zln, znl, zli, zil, zni, zin, sizeLine_eq, CMul, CDiv, cpow1018, true_or, or_true, kb_strstr, kb_tupstr, kb_tuptup, kb_strtup, kb_inttup, kb_bltup, kb_nontup, kb_strbl, kb_strint, kb_intbl, kb_intint, kb_blbl, kb_blint, kb_nonbl, kb_nonint, kb_nonstr, kb_intstr, kb_blstr, kb_tupbl, kb_tupint,   List.set_cons_zero, List.set_cons_succ, List.set_nil, List.getElem?_cons_zero, List.getElem?_cons_succ, List.getElem?_nil, List.length_cons, List.length_nil, List.length_map, List.length_append, e_lcN, e_lcC, e_forN, e_forC, List.getLast?_concat, List.dropLast_concat, List.nil_append, List.cons_append, List.append_nil, List.append_assoc, List.reverse_cons, List.reverse_nil, List.isEmpty_nil, List.isEmpty_cons, isEmpty_snoc, List.any_cons, List.any_nil, List.all_cons, List.all_nil, flatD, eqF, in_non, in_tup, in_str, in_int, in_bl, in_obj, in_fl, startA, List.map_cons, List.map_nil, List.replicate_succ, List.replicate_zero,   Nat.reduceAdd, Nat.reduceSub, Nat.reduceLeDiff, Nat.zero_add, Int.reduceLE, Int.reduceLT, Int.reduceToNat, Int.reducePow, Int.reduceNeg, Int.reduceAdd, Int.reduceSub,   Option.isSome_some, Option.isSome_none, Bool.not_true, Bool.not_false, Bool.not_eq_true', Bool.not_eq_eq_eq_not, Bool.not_eq_true, Bool.false_eq_true, Bool.true_eq_false, Bool.and_true, Bool.true_and, Bool.or_false, Bool.false_or, Bool.or_true, Bool.true_or, Bool.and_false, Bool.false_and, if_true, if_false, ite_true, ite_false, reduceIte, reduceCtorEq, decide_true, decide_false, decide_eq_true_eq, decide_eq_false_iff_not, true_and, and_true, eq_self, ne_eq, not_false_eq_true, not_true_eq_false, and_self, *])
    refine ⟨by omega, by omega, ?_⟩
    refine for_run (fun ds env M' => ∃ lo m x2, ds = rngD lo m ∧ env = [some (.tup xs), some (.tup xs), x2] ∧ 0 ≤ lo ∧ lo + m = xs.length ∧ M' = M) (fun _ _ _ _ => trivial) ?_ ?_ ⟨0, _, none, rfl, rfl, by omega, by omega, rfl⟩
    · rintro env M' ⟨lo, m, x2, _, rfl, _, _, rfl⟩
      try (simp only [↓e_seq, ↓e_next, ↓e_break, ↓e_cont, ↓e_expr, ↓e_ret, ↓e_retN, ↓e_if, ↓e_never, ↓e_asg, ↓e_name, ↓e_agtup, ↓e_agcons, ↓e_agnil, ↓e_agsub, ↓e_aug, ↓e_dput, ↓e_var, ↓e_c, ↓e_op, ↓e_some, ↓e_none, ↓e_test, ↓e_and, ↓e_or, ↓e_not, ↓e_yes, ↓e_truth,   ↓e_tru_bl, ↓e_tru_int, ↓e_tru_non, ↓e_tru_str, ↓e_tru_tup, ↓e_tru_obj, ↓e_chain, ↓e_orV, ↓e_andV, ↓e_notV, ↓e_ifE, ↓e_neg, ↓e_nil, ↓e_cons, ↓e_tup, ↓e_lst, ↓e_dnew, ↓e_call, ↓e_cb, ↓e_isi, ↓e_sl, ↓e_onone, ↓e_osome, ↓e_rev, ↓e_lm, ↓e_append, ↓e_extend, ↓e_pop, ↓e_join, ↓e_dget2, ↓e_sortSet, ↓e_sortS, ↓e_setd, strsOf_map, ↓e_maxI, ↓e_disp, ↓e_pairN, ↓e_pairC, intsOf_map, ↓e_for, ↓e_ilist, ↓e_itup, ↓e_rng1, ↓e_rng2, ↓e_lc, ↓e_lc2, e_lc2N, ↓e_ienum, ↓e_izip, ↓e_anyB, ↓e_allB, ↓e_mulS, blsOf_map, ↓e_set0, ↓e_sadd, ↓e_sortTx, ↓e_sortD, ↓e_repr, ↓e_extT, ↓e_sc2, ↓e_sortZ, ↓e_tupVals, ↓e_wget, ↓e_wix, ↓e_listZip, zipD_nil, zipD_cons, ↓e_dgetF, ↓e_idif, ↓e_isB, ↓e_sortI, ↓e_sortSetI, ↓e_tailR, ↓e_divmod, ↓e_strI, ↓e_lenD, ↓e_fmt, ↓e_fs2,   ↓e_add_int, ↓e_add_str, ↓e_add_tup, ↓e_add_obj, ↓e_iadd_int, ↓e_iadd_str, ↓e_iadd_obj, ↓e_I, ↓e_I0, ↓e_IS_int, ↓e_IS_str, ↓e_eq_str, ↓e_ne_str, ↓e_eq_int, ↓e_ne_int, ↓e_eq_bl, ↓e_ne_bl, ↓e_isN, ↓e_notN, ↓e_ix_tup, ↓e_ix_fl, ↓e_ix_str, ↓e_ix_obj, ↓e_in_tup, ↓e_nin_tup, ↓e_len_tup, ↓e_len_fl, ↓e_len_str, ↓e_len_obj, ↓e_int_int, ↓e_tuple_tup, ↓e_tuple_obj, ↓e_list_tup, ↓e_list_obj, ↓e_dget, ↓e_din, ↓e_dnin, ↓e_lstAt, ↓e_dicAt,   e_key_int, e_key_str, e_up, e_ty_str, e_ty_tup, e_ty_int, e_ty_bl, e_ty_non, atI0, atI1, atI2, atI3, atIL, ixN0, ixN1, cut_from1, e_ite_or, e_ite_and, zln, znl, zli, zil, zni, zin, sizeLine_eq, CMul, CDiv, cpow1018, true_or, or_true, kb_strstr, kb_tupstr, kb_tuptup, kb_strtup, kb_inttup, kb_bltup, kb_nontup, kb_strbl, kb_strint, kb_intbl, kb_intint, kb_blbl, kb_blint, kb_nonbl, kb_nonint, kb_nonstr, kb_intstr, kb_blstr, kb_tupbl, kb_tupint,   List.set_cons_zero, List.set_cons_succ, List.set_nil, List.getElem?_cons_zero, List.getElem?_cons_succ, List.getElem?_nil, List.length_cons, List.length_nil, List.length_map, List.length_append, e_lcN, e_lcC, e_forN, e_forC, List.getLast?_concat, List.dropLast_concat, List.nil_append, List.cons_append, List.append_nil, List.append_assoc, List.reverse_cons, List.reverse_nil, List.isEmpty_nil, List.isEmpty_cons, isEmpty_snoc, List.any_cons, List.any_nil, List.all_cons, List.all_nil, flatD, eqF, in_non, in_tup, in_str, in_int, in_bl, in_obj, in_fl, startA, List.map_cons, List.map_nil, List.replicate_succ, List.replicate_zero,   Nat.reduceAdd, Nat.reduceSub, Nat.reduceLeDiff, Nat.zero_add, Int.reduceLE, Int.reduceLT, Int.reduceToNat, Int.reducePow, Int.reduceNeg, Int.reduceAdd, Int.reduceSub,   Option.isSome_some, Option.isSome_none, Bool.not_true, Bool.not_false, Bool.not_eq_true', Bool.not_eq_eq_eq_not, Bool.not_eq_true, Bool.false_eq_true, Bool.true_eq_false, Bool.and_true, Bool.true_and, Bool.or_false, Bool.false_or, Bool.or_true, Bool.true_or, Bool.and_false, Bool.false_and, if_true, if_false, ite_true, ite_false, reduceIte, reduceCtorEq, decide_true, decide_false, decide_eq_true_eq, decide_eq_false_iff_not, true_and, and_true, eq_self, ne_eq, not_false_eq_true, not_true_eq_false, and_self, *])
    · rintro d r N env M' ⟨lo, m, x2, hd2, rfl, hlo, hm, rfl⟩ next
      obtain ⟨m, rfl, rfl, rfl⟩ := rngD_cons hd2.symm
      obtain ⟨x, hat, hget⟩ := atI_any (xs := xs) hlo (by omega)
      try (simp only [↓e_seq, ↓e_next, ↓e_break, ↓e_cont, ↓e_expr, ↓e_ret, ↓e_retN, ↓e_if, ↓e_never, ↓e_asg, ↓e_name, ↓e_agtup, ↓e_agcons, ↓e_agnil, ↓e_agsub, ↓e_aug, ↓e_dput, ↓e_var, ↓e_c, ↓e_op, ↓e_some, ↓e_none, ↓e_test, ↓e_and, ↓e_or, ↓e_not, ↓e_yes, ↓e_truth,   ↓e_tru_bl, ↓e_tru_int, ↓e_tru_non, ↓e_tru_str, ↓e_tru_tup, ↓e_tru_obj, ↓e_chain, ↓e_orV, ↓e_andV, ↓e_notV, ↓e_ifE, ↓e_neg, ↓e_nil, ↓e_cons, ↓e_tup, ↓e_lst, ↓e_dnew, ↓e_call, ↓e_cb, ↓e_isi, ↓e_sl, ↓e_onone, ↓e_osome, ↓e_rev, ↓e_lm, ↓e_append, ↓e_extend, ↓e_pop, ↓e_join, ↓e_dget2, ↓e_sortSet, ↓e_sortS, ↓e_setd, strsOf_map, ↓e_maxI, ↓e_disp, ↓e_pairN, ↓e_pairC, intsOf_map, ↓e_for, ↓e_ilist, ↓e_itup, ↓e_rng1, ↓e_rng2, ↓e_lc, ↓e_lc2, e_lc2N, ↓e_ienum, ↓e_izip, ↓e_anyB, ↓e_allB, ↓e_mulS, blsOf_map, ↓e_set0, ↓e_sadd, ↓e_sortTx, ↓e_sortD, ↓e_repr, ↓e_extT, ↓e_sc2, ↓e_sortZ, ↓e_tupVals, ↓e_wget, ↓e_wix, ↓e_listZip, zipD_nil, zipD_cons, ↓e_dgetF, ↓e_idif, ↓e_isB, ↓e_sortI, ↓e_sortSetI, ↓e_tailR, ↓e_divmod, ↓e_strI, ↓e_lenD, ↓e_fmt, ↓e_fs2,   ↓e_add_int, ↓e_add_str, ↓e_add_tup, ↓e_add_obj, ↓e_iadd_int, ↓e_iadd_str, ↓e_iadd_obj, ↓e_I, ↓e_I0, ↓e_IS_int, ↓e_IS_str, ↓e_eq_str, ↓e_ne_str, ↓e_eq_int, ↓e_ne_int, ↓e_eq_bl, ↓e_ne_bl, ↓e_isN, ↓e_notN, ↓e_ix_tup, ↓e_ix_fl, ↓e_ix_str, ↓e_ix_obj, ↓e_in_tup, ↓e_nin_tup, ↓e_len_tup, ↓e_len_fl, ↓e_len_str, ↓e_len_obj, ↓e_int_int, ↓e_tuple_tup, ↓e_tuple_obj, ↓e_list_tup, ↓e_list_obj, ↓e_dget, ↓e_din, ↓e_dnin, ↓e_lstAt, ↓e_dicAt,   e_key_int, e_key_str, e_up, e_ty_str, e_ty_tup, e_ty_int, e_ty_bl, e_ty_non, atI0, atI1, atI2, atI3, atIL, ixN0, ixN1, cut_from1, e_ite_or, e_ite_and, zln, znl, zli, zil, zni, zin, sizeLine_eq, CMul, CDiv, cpow1018, true_or, or_true, kb_strstr, kb_tupstr, kb_tuptup, kb_strtup, kb_inttup, kb_bltup, kb_nontup, kb_strbl, kb_strint, kb_intbl, kb_intint, kb_blbl, kb_blint, kb_nonbl, kb_nonint, kb_nonstr, kb_intstr, kb_blstr, kb_tupbl, kb_tupint,   List.set_cons_zero, List.set_cons_succ, List.set_nil, List.getElem?_cons_zero, List.getElem?_cons_succ, List.getElem?_nil, List.length_cons, List.length_nil, List.length_map, List.length_append, e_lcN, e_lcC, e_forN, e_forC, List.getLast?_concat, List.dropLast_concat, List.nil_append, List.cons_append, List.append_nil, List.append_assoc, List.reverse_cons, List.reverse_nil, List.isEmpty_nil, List.isEmpty_cons, isEmpty_snoc, List.any_cons, List.any_nil, List.all_cons, List.all_nil, flatD, eqF, in_non, in_tup, in_str, in_int, in_bl, in_obj, in_fl, startA, List.map_cons, List.map_nil, List.replicate_succ, List.replicate_zero,   Nat.reduceAdd, Nat.reduceSub, Nat.reduceLeDiff, Nat.zero_add, Int.reduceLE, Int.reduceLT, Int.reduceToNat, Int.reducePow, Int.reduceNeg, Int.reduceAdd, Int.reduceSub,   Option.isSome_some, Option.isSome_none, Bool.not_true, Bool.not_false, Bool.not_eq_true', Bool.not_eq_eq_eq_not, Bool.not_eq_true, Bool.false_eq_true, Bool.true_eq_false, Bool.and_true, Bool.true_and, Bool.or_false, Bool.false_or, Bool.or_true, Bool.true_or, Bool.and_false, Bool.false_and, if_true, if_false, ite_true, ite_false, reduceIte, reduceCtorEq, decide_true, decide_false, decide_eq_true_eq, decide_eq_false_iff_not, true_and, and_true, eq_self, ne_eq, not_false_eq_true, not_true_eq_false, and_self, *])
      refine ⟨rfl, _, rfl, plains_mem hget hp.2, Nat.lt_of_le_of_lt (deps_mem hget) (by omega), ?_⟩
      try (simp only [↓e_seq, ↓e_next, ↓e_break, ↓e_cont, ↓e_expr, ↓e_ret, ↓e_retN, ↓e_if, ↓e_never, ↓e_asg, ↓e_name, ↓e_agtup, ↓e_agcons, ↓e_agnil, ↓e_agsub, ↓e_aug, ↓e_dput, ↓e_var, ↓e_c, ↓e_op, ↓e_some, ↓e_none, ↓e_test, ↓e_and, ↓e_or, ↓e_not, ↓e_yes, ↓e_truth,   ↓e_tru_bl, ↓e_tru_int, ↓e_tru_non, ↓e_tru_str, ↓e_tru_tup, ↓e_tru_obj, ↓e_chain, ↓e_orV, ↓e_andV, ↓e_notV, ↓e_ifE, ↓e_neg, ↓e_nil, ↓e_cons, ↓e_tup, ↓e_lst, ↓e_dnew, ↓e_call, ↓e_cb, ↓e_isi, ↓e_sl, ↓e_onone, ↓e_osome, ↓e_rev, ↓e_lm, ↓e_append, ↓e_extend, ↓e_pop, ↓e_join, ↓e_dget2, ↓e_sortSet, ↓e_sortS, ↓e_setd, strsOf_map, ↓e_maxI, ↓e_disp, ↓e_pairN, ↓e_pairC, intsOf_map, ↓e_for, ↓e_ilist, ↓e_itup, ↓e_rng1, ↓e_rng2, ↓e_lc, ↓e_lc2, e_lc2N, ↓e_ienum, ↓e_izip, ↓e_anyB, ↓e_allB, ↓e_mulS, blsOf_map, ↓e_set0, ↓e_sadd, ↓e_sortTx, ↓e_sortD, ↓e_repr, ↓e_extT, ↓e_sc2, ↓e_sortZ, ↓e_tupVals, ↓e_wget, ↓e_wix, ↓e_listZip, zipD_nil, zipD_cons, ↓e_dgetF, ↓e_idif, ↓e_isB, ↓e_sortI, ↓e_sortSetI, ↓e_tailR, ↓e_divmod, ↓e_strI, ↓e_lenD, ↓e_fmt, ↓e_fs2,   ↓e_add_int, ↓e_add_str, ↓e_add_tup, ↓e_add_obj, ↓e_iadd_int, ↓e_iadd_str, ↓e_iadd_obj, ↓e_I, ↓e_I0, ↓e_IS_int, ↓e_IS_str, ↓e_eq_str, ↓e_ne_str, ↓e_eq_int, ↓e_ne_int, ↓e_eq_bl, ↓e_ne_bl, ↓e_isN, ↓e_notN, ↓e_ix_tup, ↓e_ix_fl, ↓e_ix_str, ↓e_ix_obj, ↓e_in_tup, ↓e_nin_tup, ↓e_len_tup, ↓e_len_fl, ↓e_len_str, ↓e_len_obj, ↓e_int_int, ↓e_tuple_tup, ↓e_tuple_obj, ↓e_list_tup, ↓e_list_obj, ↓e_dget, ↓e_din, ↓e_dnin, ↓e_lstAt, ↓e_dicAt,   e_key_int, e_key_str, e_up, e_ty_str, e_ty_tup, e_ty_int, e_ty_bl, e_ty_non, atI0, atI1, atI2, atI3, atIL, ixN0, ixN1, cut_from1, e_ite_or, e_ite_and, zln, znl, zli, zil, zni, zin, sizeLine_eq, CMul, CDiv, cpow1018, true_or, or_true, kb_strstr, kb_tupstr, kb_tuptup, kb_strtup, kb_inttup, kb_bltup, kb_nontup, kb_strbl, kb_strint, kb_intbl, kb_intint, kb_blbl, kb_blint, kb_nonbl, kb_nonint, kb_nonstr, kb_intstr, kb_blstr, kb_tupbl, kb_tupint,   List.set_cons_zero, List.set_cons_succ, List.set_nil, List.getElem?_cons_zero, List.getElem?_cons_succ, List.getElem?_nil, List.length_cons, List.length_nil, List.length_map, List.length_append, e_lcN, e_lcC, e_forN, e_forC, List.getLast?_concat, List.dropLast_concat, List.nil_append, List.cons_append, List.append_nil, List.append_assoc, List.reverse_cons, List.reverse_nil, List.isEmpty_nil, List.isEmpty_cons, isEmpty_snoc, List.any_cons, List.any_nil, List.all_cons, List.all_nil, flatD, eqF, in_non, in_tup, in_str, in_int, in_bl, in_obj, in_fl, startA, List.map_cons, List.map_nil, List.replicate_succ, List.replicate_zero,   Nat.reduceAdd, Nat.reduceSub, Nat.reduceLeDiff, Nat.zero_add, Int.reduceLE, Int.reduceLT, Int.reduceToNat, Int.reducePow, Int.reduceNeg, Int.reduceAdd, Int.reduceSub,   Option.isSome_some, Option.isSome_none, Bool.not_true, Bool.not_false, Bool.not_eq_true', Bool.not_eq_eq_eq_not, Bool.not_eq_true, Bool.false_eq_true, Bool.true_eq_false, Bool.and_true, Bool.true_and, Bool.or_false, Bool.false_or, Bool.or_true, Bool.true_or, Bool.and_false, Bool.false_and, if_true, if_false, ite_true, ite_false, reduceIte, reduceCtorEq, decide_true, decide_false, decide_eq_true_eq, decide_eq_false_iff_not, true_and, and_true, eq_self, ne_eq, not_false_eq_true, not_true_eq_false, and_self, *])
      exact next _ _ ⟨lo + 1, m, _, rfl, rfl, by omega, by omega, rfl⟩

/-! == of a formula and itself -/
def Fm.py : Fm → PyData
  | .lt s => .tuple [.str z_letter, .str s]
  | .ng p => .tuple [.str z_not, p.py]
  | .im p q => .tuple [.str z_if, p.py, q.py]
theorem Fm.d_py : ∀ f : Fm, f.d.py = some f.py
  | .lt s => rfl
  | .ng p => by
    show (((some (PyData.str z_not)).bind fun a => ((p.d.py).bind fun b => (some []).map fun ps => b :: ps).map fun ps => a :: ps)).map PyData.tuple = _
    rw [Fm.d_py p]
    rfl
  | .im p q => by
    show (((some (PyData.str z_if)).bind fun a => ((p.d.py).bind fun b => (q.d.py.bind fun c => (some []).map fun ps => c :: ps).map fun ps => b :: ps).map fun ps => a :: ps)).map PyData.tuple = _
    rw [Fm.d_py p, Fm.d_py q]
    rfl
theorem zl_ok : PyData.strOk z_letter = true := by decide +kernel
theorem zn_ok : PyData.strOk z_not = true := by decide +kernel
theorem zi_ok : PyData.strOk z_if = true := by decide +kernel
theorem Fm.lay {P : Str → Prop} (hP : ∀ s, P s → PyData.strOk s = true) : ∀ f : Fm, f.All P → f.py.canLay0 = true
  | .lt s, h => by
    show (PyData.strOk z_letter && (PyData.strOk s && true)) = true
    rw [zl_ok, hP s h]
    rfl
  | .ng p, h => by
    show (PyData.strOk z_not && (p.py.canLay0 && true)) = true
    rw [zn_ok, Fm.lay hP p h]
    rfl
  | .im p q, h => by
    show (PyData.strOk z_if && (p.py.canLay0 && (q.py.canLay0 && true))) = true
    rw [zi_ok, Fm.lay hP p h.1, Fm.lay hP q h.2]
    rfl
theorem Fm.pdep : ∀ f : Fm, f.py.depth ≤ f.sz
  | .lt s => Nat.le_refl 1
  | .ng p => by
    have z := Fm.pdep p
    show max 0 (max p.py.depth 0) + 1 ≤ p.sz + 1
    omega
  | .im p q => by
    have z := Fm.pdep p
    have z2 := Fm.pdep q
    show max 0 (max p.py.depth (max q.py.depth 0)) + 1 ≤ p.sz + q.sz + 1
    omega
/-- formulas that == may compare -/
def Fm.Small (f : Fm) : Prop := f.py.depth ≤ 64 ∧ f.py.canLay0 = true
theorem tag_ne {a b : Str} (h : (a == b) = false) (xs ys : List PyData) : PyData.eqv (.tuple (.str a :: xs)) (.tuple (.str b :: ys)) = false := by
  show ((a == b) && PyData.eqvAll xs ys) = false
  rw [h]
  rfl
theorem Fm.eqv_py : ∀ f g : Fm, PyData.eqv f.py g.py = decide (f = g)
  | .lt s, .lt t => by
    show ((z_letter == z_letter) && ((s == t) && true)) = _
    by_cases h : s = t
    · subst h
      rw [decide_eq_true rfl, beq_self_eq_true, beq_self_eq_true]
      rfl
    · rw [decide_eq_false (fun z => h (by injection z)), show (s == t) = false from beq_eq_false_iff_ne.mpr h, Bool.false_and, Bool.and_false]
  | .ng p, .ng q => by
    show ((z_not == z_not) && (PyData.eqv p.py q.py && true)) = _
    rw [Fm.eqv_py p q, beq_self_eq_true, Bool.true_and, Bool.and_true]
    exact decide_eq_decide.mpr ⟨fun h => by rw [h], fun h => by injection h⟩
  | .im p q, .im p' q' => by
    show ((z_if == z_if) && (PyData.eqv p.py p'.py && (PyData.eqv q.py q'.py && true))) = _
    rw [Fm.eqv_py p p', Fm.eqv_py q q', beq_self_eq_true, Bool.true_and, Bool.and_true, ← Bool.decide_and]
    exact decide_eq_decide.mpr ⟨fun h => by rw [h.1, h.2], fun h => by injection h with h1 h2; exact ⟨h1, h2⟩⟩
  | .lt s, .ng q => by
    exact (tag_ne (a := z_letter) (b := z_not) (by decide +kernel) _ _).trans (decide_eq_false (fun z => by cases z)).symm
  | .lt s, .im p q => by
    exact (tag_ne (a := z_letter) (b := z_if) (by decide +kernel) _ _).trans (decide_eq_false (fun z => by cases z)).symm
  | .ng q, .lt s => by
    exact (tag_ne (a := z_not) (b := z_letter) (by decide +kernel) _ _).trans (decide_eq_false (fun z => by cases z)).symm
  | .ng q, .im p q' => by
    exact (tag_ne (a := z_not) (b := z_if) (by decide +kernel) _ _).trans (decide_eq_false (fun z => by cases z)).symm
  | .im p q, .lt s => by
    exact (tag_ne (a := z_if) (b := z_letter) (by decide +kernel) _ _).trans (decide_eq_false (fun z => by cases z)).symm
  | .im p q, .ng s => by
    exact (tag_ne (a := z_if) (b := z_not) (by decide +kernel) _ _).trans (decide_eq_false (fun z => by cases z)).symm
theorem Fm.d_pyM (M : Sto) (f : Fm) : pyM M f.d = some f.py := by
  have z := Fm.d_py f
  cases f <;> exact z
theorem Fm.Small.shaped {f : Fm} (h : f.Small) : SeqAt.shaped f.py = true := by
  show (f.py.canLay0 && decide (f.py.depth ≤ 64)) = true
  rw [h.2, decide_eq_true h.1]
  rfl
theorem e_eqF {n : Bool} {f g : Fm} {M : Sto} {Q : D → Sto → Prop} (hf : f.Small) (hg : g.Small) : ρEq n f.d g.d M Q = Q (.bl (if n then !decide (f = g) else decide (f = g))) M := by
  have e : ρEqv n f.d g.d M Q = Q (.bl (if n then !decide (f = g) else decide (f = g))) M := by
    refine propext ⟨fun ⟨p, q, e1, e2, _, _, z⟩ => ?_, fun z => ⟨f.py, g.py, Fm.d_pyM M f, Fm.d_pyM M g, hf.shaped, hg.shaped, by rw [Fm.eqv_py]; exact z⟩⟩
    rw [Fm.d_pyM] at e1 e2
    injection e1 with e1
    injection e2 with e2
    subst e1 e2
    rw [Fm.eqv_py] at z
    exact z
  cases f <;> cases g <;> exact e

def z_abcdefghijklmnopqrstuvwxyz : Str := "abcdefghijklmnopqrstuvwxyz"
def z_z9 : Str := "z9"
def z_zyxwvutsrqponmlkjihgfedcba : Str := "zyxwvutsrqponmlkjihgfedcba"
/- slots of put: 0 formula, 1 table -/
def a_put (A_put : ASp) : ATS :=
    (aSeq (aIf (aTest (aOp (ρEq false) (aOp ρIx (aVar 0) (aC (.int 0))) (aC (.str z_letter)))) (aRet (aDGet2 (aVar 1) (aOp ρIx (aVar 0) (aC (.int 1))) (aVar 0))) aNext)
    (aSeq (aIf (aTest (aOp (ρEq false) (aOp ρIx (aVar 0) (aC (.int 0))) (aC (.str z_not)))) (aRet (aTup (aCons (aC (.str z_not)) (aCons (aCall 2 A_put (aCons (aOp ρIx (aVar 0) (aC (.int 1))) (aCons (aVar 1) aNil))) aNil)))) aNext)
    (aRet (aTup (aCons (aC (.str z_if)) (aCons (aCall 2 A_put (aCons (aOp ρIx (aVar 0) (aC (.int 1))) (aCons (aVar 1) aNil))) (aCons (aCall 2 A_put (aCons (aOp ρIx (aVar 0) (aC (.int 2))) (aCons (aVar 1) aNil))) aNil)))))))
/- slots of renamed: 0 formula -/
def a_renamed (A_put : ASp) (A_naming : ASp) : ATS :=
    (aRet (aCall 2 A_put (aCons (aVar 0) (aCons (aCall 1 A_naming (aCons (aTup (aCons (aVar 0) aNil)) aNil)) aNil))))
/- slots of naming: 0 formulas, 1 table, 2 formula, 3 waiting, 4 part -/
def a_naming (A_name_at : ASp) : ATS :=
    (aSeq (aAsg aDNew (agName 1))
    (aSeq (aFor (aITup (aVar 0)) (agName 2) (aSeq (aAsg (aLst (aCons (aVar 2) aNil)) (agName 3))
    (aWhile (aTruth (aVar 3)) (aSeq (aAsg (aPop (aVar 3)) (agName 4))
    (aIf (aTest (aOp (ρEq true) (aOp ρIx (aVar 4) (aC (.int 0))) (aC (.str z_letter)))) (aExpr (aLm ρExtT (aVar 3) (aCons (aTailR (aVar 4)) aNil))) (aIf (aTest (aOp (ρDIn true) (aOp ρIx (aVar 4) (aC (.int 1))) (aVar 1))) (aDPut (aVar 1) (aOp ρIx (aVar 4) (aC (.int 1))) (aTup (aCons (aC (.str z_letter)) (aCons (aCall 1 A_name_at (aCons (aCB ρLenD (aCons (aVar 1) aNil)) aNil)) aNil)))) aNext))))))
    (aRet (aVar 1))))
/- slots of name_at: 0 place, 1 many, 2 at -/
def a_name_at  : ATS :=
    (aSeq (aAsg (aCB ρDivmod (aCons (aVar 0) (aCons (aCB ρLen (aCons (aC (.str z_abcdefghijklmnopqrstuvwxyz)) aNil)) aNil))) (agTup 2 (agCons (agName 1) (agCons (agName 2) agNil))))
    (aSeq (aIf (aTest (aOp (ρEq false) (aVar 1) (aC (.int 0)))) (aRet (aOp ρIx (aC (.str z_abcdefghijklmnopqrstuvwxyz)) (aVar 2))) aNext)
    (aRet (aFs2 (aFmt (aOp ρIx (aC (.str z_abcdefghijklmnopqrstuvwxyz)) (aVar 2))) (aFmt (aOp ρSub (aVar 1) (aC (.int 1))))))))
/- slots of _law_in_order: 0 formula, 1 found, 2 part, 3 name -/
def a__law_in_order (A__law_in_order : ASp) : ATS :=
    (aSeq (aIf (aTest (aOp (ρEq false) (aOp ρIx (aVar 0) (aC (.int 0))) (aC (.str z_letter)))) (aRet (aLst (aCons (aOp ρIx (aVar 0) (aC (.int 1))) aNil))) aNext)
    (aSeq (aAsg (aLst aNil) (agName 1))
    (aSeq (aFor (aITup (aSl (aVar 0) (aOSome (aC (.int 1))) aONone)) (agName 2) (aAsg (aOp ρAdd (aVar 1) (aLc (aIList (aCall 1 A__law_in_order (aCons (aVar 2) aNil))) 3 (aTest (aOp (ρIn true) (aVar 3) (aVar 1))) (aVar 3))) (agName 1)))
    (aRet (aVar 1)))))
/- slots of _law_renamed: 0 formula, 1 letters, 2 table, 3 old, 4 k, 5 name -/
def a__law_renamed (A__law_in_order : ASp) (A__law_put : ASp) : ATS :=
    (aSeq (aAsg (aC (.str z_abcdefghijklmnopqrstuvwxyz)) (agName 1))
    (aSeq (aAsg aDNew (agName 2))
    (aSeq (aAsg (aCall 1 A__law_in_order (aCons (aVar 0) aNil)) (agName 3))
    (aSeq (aFor (aIRng1 (aCons (aCB ρLen (aCons (aVar 3) aNil)) aNil)) (agName 4) (aSeq (aAsg (aOp ρIx (aVar 1) (aOp ρMod (aCB ρInt (aCons (aVar 4) aNil)) (aC (.int 26)))) (agName 5))
    (aSeq (aIf (aTest (aOp ρGt (aVar 4) (aC (.int 25)))) (aAsg (aOp ρAdd (aVar 5) (aCB ρStrI (aCons (aOp ρSub (aOp ρFdiv (aVar 4) (aC (.int 26))) (aC (.int 1))) aNil))) (agName 5)) aNext)
    (aDPut (aVar 2) (aOp ρIx (aVar 3) (aVar 4)) (aTup (aCons (aC (.str z_letter)) (aCons (aVar 5) aNil)))))))
    (aRet (aCall 2 A__law_put (aCons (aVar 0) (aCons (aVar 2) aNil))))))))
/- slots of law: 0 script, 1 box, 2 k, 3 formula, 4 wide, 5 letter -/
def a_law (A__law_box : ASp) (A__law_lettered : ASp) (A__law_same : ASp) (A_renamed : ASp) (A__law_renamed : ASp) (A__law_draw : ASp) : ATS :=
    (aSeq (aAsg (aCall 3 A__law_box (aCons (aVar 0) (aCons (aC (.int 0)) (aCons (aC (.int 63)) aNil)))) (agName 1))
    (aSeq (aFor (aIRng1 (aCons (aC (.int 4)) aNil)) (agName 2) (aSeq (aAsg (aCall 3 A__law_lettered (aCons (aVar 1) (aCons (aC (.int 40)) (aCons (aC (.int 8)) aNil)))) (agName 3))
    (aIf (aNot (aTruth (aCall 2 A__law_same (aCons (aCall 1 A_renamed (aCons (aVar 3) aNil)) (aCons (aCall 1 A__law_renamed (aCons (aVar 3) aNil)) aNil))))) (aRet (aC (.bl false))) aNext)))
    (aSeq (aAsg (aTup (aCons (aC (.str z_letter)) (aCons (aC (.str z_z9)) aNil))) (agName 4))
    (aSeq (aFor (aIRng1 (aCons (aCall 2 A__law_draw (aCons (aVar 1) (aCons (aC (.int 36)) aNil))) aNil)) (agName 2) (aSeq (aAsg (aOp ρIx (aC (.str z_zyxwvutsrqponmlkjihgfedcba)) (aOp ρMod (aCB ρInt (aCons (aVar 2) aNil)) (aC (.int 26)))) (agName 5))
    (aAsg (aTup (aCons (aC (.str z_if)) (aCons (aTup (aCons (aC (.str z_not)) (aCons (aTup (aCons (aC (.str z_letter)) (aCons (aOp ρAdd (aVar 5) (aCB ρStrI (aCons (aOp ρFdiv (aVar 2) (aC (.int 26))) aNil))) aNil))) aNil))) (aCons (aVar 4) aNil)))) (agName 4))))
    (aRet (aCall 2 A__law_same (aCons (aCall 1 A_renamed (aCons (aVar 4) aNil)) (aCons (aCall 1 A__law_renamed (aCons (aVar 4) aNil)) aNil))))))))

/-! letters in order -/
def Fm.sq : Fm → List Str
  | .lt s => [s]
  | .ng p => p.sq
  | .im p q => p.sq ++ q.sq
theorem Fm.sq_len : ∀ f : Fm, f.sq.length ≤ f.sz
  | .lt s => Nat.le_refl _
  | .ng p => by have := Fm.sq_len p; show p.sq.length ≤ p.sz + 1; omega
  | .im p q => by
    have := Fm.sq_len p
    have := Fm.sq_len q
    show (p.sq ++ q.sq).length ≤ p.sz + q.sz + 1
    rw [List.length_append]
    omega
def addS (acc : List Str) (s : Str) : List Str := if s ∈ acc then acc else acc ++ [s]
def ordF (acc l : List Str) : List Str := l.foldl addS acc
theorem ordF_nil (acc : List Str) : ordF acc [] = acc := rfl
theorem ordF_cons (acc l : List Str) (s : Str) : ordF acc (s :: l) = ordF (addS acc s) l := rfl
theorem ordF_app (acc l r : List Str) : ordF acc (l ++ r) = ordF (ordF acc l) r := List.foldl_append
theorem mem_addS {acc : List Str} {s t : Str} : t ∈ addS acc s ↔ t ∈ acc ∨ t = s := by
  unfold addS
  split
  · rename_i h
    exact ⟨.inl, fun z => z.elim id fun e => by rw [e]; exact h⟩
  · rw [List.mem_append, List.mem_singleton]
theorem mem_ordF {t : Str} : ∀ {l acc : List Str}, t ∈ ordF acc l ↔ t ∈ acc ∨ t ∈ l
  | [], acc => ⟨.inl, fun z => z.elim id fun z => nomatch z⟩
  | s :: l, acc => by
    rw [ordF_cons, mem_ordF, mem_addS, List.mem_cons, or_assoc]
theorem addS_nd {acc : List Str} {s : Str} (h : acc.Nodup) : (addS acc s).Nodup := by
  unfold addS
  split
  · exact h
  · rename_i n
    refine List.nodup_append.mpr ⟨h, List.pairwise_singleton _ s, fun a ha b hb e => ?_⟩
    rw [List.mem_singleton.mp hb] at e
    rw [e] at ha
    exact n ha
theorem ordF_nd : ∀ {l acc : List Str}, acc.Nodup → (ordF acc l).Nodup
  | [], _, h => h
  | s :: l, acc, h => ordF_nd (l := l) (acc := addS acc s) (addS_nd h)
theorem addS_len (acc : List Str) (s : Str) : (addS acc s).length ≤ acc.length + 1 := by
  unfold addS
  split
  · omega
  · rw [List.length_append, List.length_singleton]; omega
theorem ordF_len : ∀ (l acc : List Str), (ordF acc l).length ≤ acc.length + l.length
  | [], _ => Nat.le_refl _
  | s :: l, acc => by
    have := ordF_len l (addS acc s)
    have := addS_len acc s
    rw [ordF_cons, List.length_cons]
    omega
/-- what is left out of ys goes behind xs -/
theorem ordF_split : ∀ (l xs ys : List Str), ordF (xs ++ ys.filter fun s => !decide (s ∈ xs)) l = xs ++ (ordF ys l).filter fun s => !decide (s ∈ xs)
  | [], _, _ => rfl
  | s :: l, xs, ys => by
    rw [ordF_cons, ordF_cons, ← ordF_split l xs (addS ys s)]
    congr 1
    unfold addS
    by_cases h1 : s ∈ xs
    · rw [if_pos (List.mem_append.mpr (.inl h1))]
      split
      · rfl
      · rw [List.filter_append]
        have e : List.filter (fun s => !decide (s ∈ xs)) [s] = [] := by
          rw [List.filter_cons_of_neg (by simp [h1])]; rfl
        rw [e, List.append_nil]
    · by_cases h2 : s ∈ ys
      · rw [if_pos h2, if_pos (List.mem_append.mpr (.inr (List.mem_filter.mpr ⟨h2, by simp [h1]⟩)))]
      · rw [if_neg h2, if_neg (fun z => (List.mem_append.mp z).elim h1 fun z => h2 (List.mem_filter.mp z).1), List.filter_append]
        have e : List.filter (fun s => !decide (s ∈ xs)) [s] = [s] := by
          rw [List.filter_cons_of_pos (by simp [h1])]; rfl
        rw [e, List.append_assoc]
def Fm.ord (f : Fm) : List Str := ordF [] f.sq
theorem Fm.ord_len (f : Fm) : f.ord.length ≤ f.sz := by
  have := ordF_len f.sq []
  have := f.sq_len
  show (ordF [] f.sq).length ≤ _
  simp only [List.length_nil] at *
  omega
theorem Fm.ord_im (p q : Fm) : (Fm.im p q).ord = p.ord ++ q.ord.filter fun s => !decide (s ∈ p.ord) := by
  show ordF [] (p.sq ++ q.sq) = _
  rw [ordF_app]
  have z := ordF_split q.sq (ordF [] p.sq) []
  rw [List.filter_nil, List.append_nil] at z
  exact z
/-! names -/
def lets26 : List Nat := (List.range 26).map (97 + ·)
theorem z26 : z_abcdefghijklmnopqrstuvwxyz.cps.toList = lets26 := by decide +kernel
theorem z26l : z_abcdefghijklmnopqrstuvwxyz.length = 26 := by decide +kernel
def letA (k : Int) : Nat := 97 + (k % 26).toNat
theorem at26 {v : Int} (h0 : 0 ≤ v) (h : v < 26) : atI lets26 v = some (97 + v.toNat) := by
  have e : v = ((v.toNat : Nat) : Int) := by omega
  have hk : v.toNat < 26 := by omega
  rw [e, atIn]
  show ((List.range 26).map (97 + ·))[_]? = _
  rw [List.getElem?_map, List.getElem?_range (by omega)]
  rfl
theorem tos_short {k : Int} (h0 : 0 ≤ k) (h : k < 100) : ((toString k : String) : Str).length ≤ 10 := by
  have all : ∀ j : Fin 100, ((toString ((j.val : Nat) : Int) : String) : Str).length ≤ 10 := by decide +kernel
  have e : k = (((⟨k.toNat, by omega⟩ : Fin 100).val : Nat) : Int) := by show k = ((k.toNat : Nat) : Int); omega
  rw [e]
  exact all _
theorem log_short {k : Int} (h0 : 0 ≤ k) (h : k < 100) : k.natAbs.log2 < 1920 := by
  have z : k.natAbs.log2 ≤ k.natAbs := Nat.log2_le_self _
  omega
def nmI (k : Int) : Str := if k / 26 = 0 then ⟨#[letA k]⟩ else ⟨#[letA k]⟩ ++ ((toString (k / 26 - 1) : String) : Str)
def ltD (s : Str) : D := .tup [.str z_letter, .str s]
def A_name_at : ASp := fun ds M Q _ => ∃ k : Int, ds = [.int k] ∧ 0 ≤ k ∧ k ≤ 1000 ∧ Q (.str (nmI k)) M
theorem p_name_at (ds : List D) (M : Sto) (Q : D → Sto → Prop) (Xa) (hl : ds.length = 1) (h : A_name_at ds M Q Xa) : a_name_at ax0 (Done Q) (startA ["place", "many", "at"] ds) M := by
  obtain ⟨k, rfl, h0, h1, q⟩ := h
  unfold a_name_at
  have e26 := z26
  have l26 := z26l
  have hat : atI lets26 (k % 26) = some (letA k) := at26 (Int.emod_nonneg _ (by omega)) (Int.emod_lt_of_pos _ (by omega))
  have hd0 : 0 ≤ k / 26 := Int.ediv_nonneg h0 (by omega)
  have hd1 : k / 26 < 100 := by omega
  have hc : CDiv k 26 := ⟨by omega, by decide⟩
  have h26 : ((26 : Nat) : Int) = 26 := rfl
  unfold nmI at q
  try (simp only [↓e_seq, ↓e_next, ↓e_break, ↓e_cont, ↓e_expr, ↓e_ret, ↓e_retN, ↓e_if, ↓e_never, ↓e_asg, ↓e_name, ↓e_agtup, ↓e_agcons, ↓e_agnil, ↓e_agsub, ↓e_aug, ↓e_dput, ↓e_var, ↓e_c, ↓e_op, ↓e_some, ↓e_none, ↓e_test, ↓e_and, ↓e_or, ↓e_not, ↓e_yes, ↓e_truth,   ↓e_tru_bl, ↓e_tru_int, ↓e_tru_non, ↓e_tru_str, ↓e_tru_tup, ↓e_tru_obj, ↓e_chain, ↓e_orV, ↓e_andV, ↓e_notV, ↓e_ifE, ↓e_neg, ↓e_nil, ↓e_cons, ↓e_tup, ↓e_lst, ↓e_dnew, ↓e_call, ↓e_cb, ↓e_isi, ↓e_sl, ↓e_onone, ↓e_osome, ↓e_rev, ↓e_lm, ↓e_append, ↓e_extend, ↓e_pop, ↓e_join, ↓e_dget2, ↓e_sortSet, ↓e_sortS, ↓e_setd, strsOf_map, ↓e_maxI, ↓e_disp, ↓e_pairN, ↓e_pairC, intsOf_map, ↓e_for, ↓e_ilist, ↓e_itup, ↓e_rng1, ↓e_rng2, ↓e_lc, ↓e_lc2, e_lc2N, ↓e_ienum, ↓e_izip, ↓e_anyB, ↓e_allB, ↓e_mulS, blsOf_map, ↓e_set0, ↓e_sadd, ↓e_sortTx, ↓e_sortD, ↓e_repr, ↓e_extT, ↓e_sc2, ↓e_sortZ, ↓e_tupVals, ↓e_wget, ↓e_wix, ↓e_listZip, zipD_nil, zipD_cons, ↓e_dgetF, ↓e_idif, ↓e_isB, ↓e_sortI, ↓e_sortSetI, ↓e_tailR, ↓e_divmod, ↓e_strI, ↓e_lenD, ↓e_fmt, ↓e_fs2,   ↓e_add_int, ↓e_add_str, ↓e_add_tup, ↓e_add_obj, ↓e_iadd_int, ↓e_iadd_str, ↓e_iadd_obj, ↓e_I, ↓e_I0, ↓e_IS_int, ↓e_IS_str, ↓e_eq_str, ↓e_ne_str, ↓e_eq_int, ↓e_ne_int, ↓e_eq_bl, ↓e_ne_bl, ↓e_isN, ↓e_notN, ↓e_ix_tup, ↓e_ix_fl, ↓e_ix_str, ↓e_ix_obj, ↓e_in_tup, ↓e_nin_tup, ↓e_len_tup, ↓e_len_fl, ↓e_len_str, ↓e_len_obj, ↓e_int_int, ↓e_tuple_tup, ↓e_tuple_obj, ↓e_list_tup, ↓e_list_obj, ↓e_dget, ↓e_din, ↓e_dnin, ↓e_lstAt, ↓e_dicAt,   e_key_int, e_key_str, e_up, e_ty_str, e_ty_tup, e_ty_int, e_ty_bl, e_ty_non, atI0, atI1, atI2, atI3, atIL, ixN0, ixN1, cut_from1, e_ite_or, e_ite_and, zln, znl, zli, zil, zni, zin, sizeLine_eq, CMul, CDiv, cpow1018, true_or, or_true, kb_strstr, kb_tupstr, kb_tuptup, kb_strtup, kb_inttup, kb_bltup, kb_nontup, kb_strbl, kb_strint, kb_intbl, kb_intint, kb_blbl, kb_blint, kb_nonbl, kb_nonint, kb_nonstr, kb_intstr, kb_blstr, kb_tupbl, kb_tupint,   List.set_cons_zero, List.set_cons_succ, List.set_nil, List.getElem?_cons_zero, List.getElem?_cons_succ, List.getElem?_nil, List.length_cons, List.length_nil, List.length_map, List.length_append, e_lcN, e_lcC, e_forN, e_forC, List.getLast?_concat, List.dropLast_concat, List.nil_append, List.cons_append, List.append_nil, List.append_assoc, List.reverse_cons, List.reverse_nil, List.isEmpty_nil, List.isEmpty_cons, isEmpty_snoc, List.any_cons, List.any_nil, List.all_cons, List.all_nil, flatD, eqF, in_non, in_tup, in_str, in_int, in_bl, in_obj, in_fl, startA, List.map_cons, List.map_nil, List.replicate_succ, List.replicate_zero,   Nat.reduceAdd, Nat.reduceSub, Nat.reduceLeDiff, Nat.zero_add, Int.reduceLE, Int.reduceLT, Int.reduceToNat, Int.reducePow, Int.reduceNeg, Int.reduceAdd, Int.reduceSub,   Option.isSome_some, Option.isSome_none, Bool.not_true, Bool.not_false, Bool.not_eq_true', Bool.not_eq_eq_eq_not, Bool.not_eq_true, Bool.false_eq_true, Bool.true_eq_false, Bool.and_true, Bool.true_and, Bool.or_false, Bool.false_or, Bool.or_true, Bool.true_or, Bool.and_false, Bool.false_and, if_true, if_false, ite_true, ite_false, reduceIte, reduceCtorEq, decide_true, decide_false, decide_eq_true_eq, decide_eq_false_iff_not, true_and, and_true, eq_self, ne_eq, not_false_eq_true, not_true_eq_false, and_self, *])
  by_cases c : k / 26 = 0
  · rw [if_pos c] at q
    try (simp only [↓e_seq, ↓e_next, ↓e_break, ↓e_cont, ↓e_expr, ↓e_ret, ↓e_retN, ↓e_if, ↓e_never, ↓e_asg, ↓e_name, ↓e_agtup, ↓e_agcons, ↓e_agnil, ↓e_agsub, ↓e_aug, ↓e_dput, ↓e_var, ↓e_c, ↓e_op, ↓e_some, ↓e_none, ↓e_test, ↓e_and, ↓e_or, ↓e_not, ↓e_yes, ↓e_truth,   ↓e_tru_bl, ↓e_tru_int, ↓e_tru_non, ↓e_tru_str, ↓e_tru_tup, ↓e_tru_obj, ↓e_chain, ↓e_orV, ↓e_andV, ↓e_notV, ↓e_ifE, ↓e_neg, ↓e_nil, ↓e_cons, ↓e_tup, ↓e_lst, ↓e_dnew, ↓e_call, ↓e_cb, ↓e_isi, ↓e_sl, ↓e_onone, ↓e_osome, ↓e_rev, ↓e_lm, ↓e_append, ↓e_extend, ↓e_pop, ↓e_join, ↓e_dget2, ↓e_sortSet, ↓e_sortS, ↓e_setd, strsOf_map, ↓e_maxI, ↓e_disp, ↓e_pairN, ↓e_pairC, intsOf_map, ↓e_for, ↓e_ilist, ↓e_itup, ↓e_rng1, ↓e_rng2, ↓e_lc, ↓e_lc2, e_lc2N, ↓e_ienum, ↓e_izip, ↓e_anyB, ↓e_allB, ↓e_mulS, blsOf_map, ↓e_set0, ↓e_sadd, ↓e_sortTx, ↓e_sortD, ↓e_repr, ↓e_extT, ↓e_sc2, ↓e_sortZ, ↓e_tupVals, ↓e_wget, ↓e_wix, ↓e_listZip, zipD_nil, zipD_cons, ↓e_dgetF, ↓e_idif, ↓e_isB, ↓e_sortI, ↓e_sortSetI, ↓e_tailR, ↓e_divmod, ↓e_strI, ↓e_lenD, ↓e_fmt, ↓e_fs2,   ↓e_add_int, ↓e_add_str, ↓e_add_tup, ↓e_add_obj, ↓e_iadd_int, ↓e_iadd_str, ↓e_iadd_obj, ↓e_I, ↓e_I0, ↓e_IS_int, ↓e_IS_str, ↓e_eq_str, ↓e_ne_str, ↓e_eq_int, ↓e_ne_int, ↓e_eq_bl, ↓e_ne_bl, ↓e_isN, ↓e_notN, ↓e_ix_tup, ↓e_ix_fl, ↓e_ix_str, ↓e_ix_obj, ↓e_in_tup, ↓e_nin_tup, ↓e_len_tup, ↓e_len_fl, ↓e_len_str, ↓e_len_obj, ↓e_int_int, ↓e_tuple_tup, ↓e_tuple_obj, ↓e_list_tup, ↓e_list_obj, ↓e_dget, ↓e_din, ↓e_dnin, ↓e_lstAt, ↓e_dicAt,   e_key_int, e_key_str, e_up, e_ty_str, e_ty_tup, e_ty_int, e_ty_bl, e_ty_non, atI0, atI1, atI2, atI3, atIL, ixN0, ixN1, cut_from1, e_ite_or, e_ite_and, zln, znl, zli, zil, zni, zin, sizeLine_eq, CMul, CDiv, cpow1018, true_or, or_true, kb_strstr, kb_tupstr, kb_tuptup, kb_strtup, kb_inttup, kb_bltup, kb_nontup, kb_strbl, kb_strint, kb_intbl, kb_intint, kb_blbl, kb_blint, kb_nonbl, kb_nonint, kb_nonstr, kb_intstr, kb_blstr, kb_tupbl, kb_tupint,   List.set_cons_zero, List.set_cons_succ, List.set_nil, List.getElem?_cons_zero, List.getElem?_cons_succ, List.getElem?_nil, List.length_cons, List.length_nil, List.length_map, List.length_append, e_lcN, e_lcC, e_forN, e_forC, List.getLast?_concat, List.dropLast_concat, List.nil_append, List.cons_append, List.append_nil, List.append_assoc, List.reverse_cons, List.reverse_nil, List.isEmpty_nil, List.isEmpty_cons, isEmpty_snoc, List.any_cons, List.any_nil, List.all_cons, List.all_nil, flatD, eqF, in_non, in_tup, in_str, in_int, in_bl, in_obj, in_fl, startA, List.map_cons, List.map_nil, List.replicate_succ, List.replicate_zero,   Nat.reduceAdd, Nat.reduceSub, Nat.reduceLeDiff, Nat.zero_add, Int.reduceLE, Int.reduceLT, Int.reduceToNat, Int.reducePow, Int.reduceNeg, Int.reduceAdd, Int.reduceSub,   Option.isSome_some, Option.isSome_none, Bool.not_true, Bool.not_false, Bool.not_eq_true', Bool.not_eq_eq_eq_not, Bool.not_eq_true, Bool.false_eq_true, Bool.true_eq_false, Bool.and_true, Bool.true_and, Bool.or_false, Bool.false_or, Bool.or_true, Bool.true_or, Bool.and_false, Bool.false_and, if_true, if_false, ite_true, ite_false, reduceIte, reduceCtorEq, decide_true, decide_false, decide_eq_true_eq, decide_eq_false_iff_not, true_and, and_true, eq_self, ne_eq, not_false_eq_true, not_true_eq_false, and_self, *])
  · rw [if_neg c] at q
    have hs := tos_short (k := k / 26 - 1) (by omega) (by omega)
    have hg := log_short (k := k / 26 - 1) (by omega) (by omega)
    have hl1 : (⟨#[letA k]⟩ : Str).length = 1 := rfl
    have hla : ((⟨#[letA k]⟩ : Str) ++ ((toString (k / 26 - 1) : String) : Str)).length ≤ 16777216 := by rw [Str.length_append]; omega
    try (simp only [↓e_seq, ↓e_next, ↓e_break, ↓e_cont, ↓e_expr, ↓e_ret, ↓e_retN, ↓e_if, ↓e_never, ↓e_asg, ↓e_name, ↓e_agtup, ↓e_agcons, ↓e_agnil, ↓e_agsub, ↓e_aug, ↓e_dput, ↓e_var, ↓e_c, ↓e_op, ↓e_some, ↓e_none, ↓e_test, ↓e_and, ↓e_or, ↓e_not, ↓e_yes, ↓e_truth,   ↓e_tru_bl, ↓e_tru_int, ↓e_tru_non, ↓e_tru_str, ↓e_tru_tup, ↓e_tru_obj, ↓e_chain, ↓e_orV, ↓e_andV, ↓e_notV, ↓e_ifE, ↓e_neg, ↓e_nil, ↓e_cons, ↓e_tup, ↓e_lst, ↓e_dnew, ↓e_call, ↓e_cb, ↓e_isi, ↓e_sl, ↓e_onone, ↓e_osome, ↓e_rev, ↓e_lm, ↓e_append, ↓e_extend, ↓e_pop, ↓e_join, ↓e_dget2, ↓e_sortSet, ↓e_sortS, ↓e_setd, strsOf_map, ↓e_maxI, ↓e_disp, ↓e_pairN, ↓e_pairC, intsOf_map, ↓e_for, ↓e_ilist, ↓e_itup, ↓e_rng1, ↓e_rng2, ↓e_lc, ↓e_lc2, e_lc2N, ↓e_ienum, ↓e_izip, ↓e_anyB, ↓e_allB, ↓e_mulS, blsOf_map, ↓e_set0, ↓e_sadd, ↓e_sortTx, ↓e_sortD, ↓e_repr, ↓e_extT, ↓e_sc2, ↓e_sortZ, ↓e_tupVals, ↓e_wget, ↓e_wix, ↓e_listZip, zipD_nil, zipD_cons, ↓e_dgetF, ↓e_idif, ↓e_isB, ↓e_sortI, ↓e_sortSetI, ↓e_tailR, ↓e_divmod, ↓e_strI, ↓e_lenD, ↓e_fmt, ↓e_fs2,   ↓e_add_int, ↓e_add_str, ↓e_add_tup, ↓e_add_obj, ↓e_iadd_int, ↓e_iadd_str, ↓e_iadd_obj, ↓e_I, ↓e_I0, ↓e_IS_int, ↓e_IS_str, ↓e_eq_str, ↓e_ne_str, ↓e_eq_int, ↓e_ne_int, ↓e_eq_bl, ↓e_ne_bl, ↓e_isN, ↓e_notN, ↓e_ix_tup, ↓e_ix_fl, ↓e_ix_str, ↓e_ix_obj, ↓e_in_tup, ↓e_nin_tup, ↓e_len_tup, ↓e_len_fl, ↓e_len_str, ↓e_len_obj, ↓e_int_int, ↓e_tuple_tup, ↓e_tuple_obj, ↓e_list_tup, ↓e_list_obj, ↓e_dget, ↓e_din, ↓e_dnin, ↓e_lstAt, ↓e_dicAt,   e_key_int, e_key_str, e_up, e_ty_str, e_ty_tup, e_ty_int, e_ty_bl, e_ty_non, atI0, atI1, atI2, atI3, atIL, ixN0, ixN1, cut_from1, e_ite_or, e_ite_and, zln, znl, zli, zil, zni, zin, sizeLine_eq, CMul, CDiv, cpow1018, true_or, or_true, kb_strstr, kb_tupstr, kb_tuptup, kb_strtup, kb_inttup, kb_bltup, kb_nontup, kb_strbl, kb_strint, kb_intbl, kb_intint, kb_blbl, kb_blint, kb_nonbl, kb_nonint, kb_nonstr, kb_intstr, kb_blstr, kb_tupbl, kb_tupint,   List.set_cons_zero, List.set_cons_succ, List.set_nil, List.getElem?_cons_zero, List.getElem?_cons_succ, List.getElem?_nil, List.length_cons, List.length_nil, List.length_map, List.length_append, e_lcN, e_lcC, e_forN, e_forC, List.getLast?_concat, List.dropLast_concat, List.nil_append, List.cons_append, List.append_nil, List.append_assoc, List.reverse_cons, List.reverse_nil, List.isEmpty_nil, List.isEmpty_cons, isEmpty_snoc, List.any_cons, List.any_nil, List.all_cons, List.all_nil, flatD, eqF, in_non, in_tup, in_str, in_int, in_bl, in_obj, in_fl, startA, List.map_cons, List.map_nil, List.replicate_succ, List.replicate_zero,   Nat.reduceAdd, Nat.reduceSub, Nat.reduceLeDiff, Nat.zero_add, Int.reduceLE, Int.reduceLT, Int.reduceToNat, Int.reducePow, Int.reduceNeg, Int.reduceAdd, Int.reduceSub,   Option.isSome_some, Option.isSome_none, Bool.not_true, Bool.not_false, Bool.not_eq_true', Bool.not_eq_eq_eq_not, Bool.not_eq_true, Bool.false_eq_true, Bool.true_eq_false, Bool.and_true, Bool.true_and, Bool.or_false, Bool.false_or, Bool.or_true, Bool.true_or, Bool.and_false, Bool.false_and, if_true, if_false, ite_true, ite_false, reduceIte, reduceCtorEq, decide_true, decide_false, decide_eq_true_eq, decide_eq_false_iff_not, true_and, and_true, eq_self, ne_eq, not_false_eq_true, not_true_eq_false, and_self, *])

/-! the table of names -/
def Nmd (kvs : List (Key × D)) (os : List Str) : Prop := (∀ (i : Nat) s, os[i]? = some s → valA kvs (.inr s) = some (ltD (nmI (i : Int)))) ∧ ∀ s, s ∉ os → valA kvs (.inr s) = none
theorem put_new {kvs : List (Key × D)} {k : Key} {v : D} (h : valA kvs k = none) : (putA kvs k v).length = kvs.length + 1 := by
  unfold putA
  rw [valA_any, h, if_neg (by simp), List.length_append, List.length_singleton]
theorem Nmd.add {kvs : List (Key × D)} {os : List Str} {s : Str} (h : Nmd kvs os) (hs : s ∉ os) : Nmd (putA kvs (.inr s) (ltD (nmI (os.length : Int)))) (os ++ [s]) := by
  refine ⟨fun i t ht => ?_, fun t ht => ?_⟩
  · rw [valA_put]
    by_cases e : t = s
    · subst e
      rw [if_pos rfl]
      by_cases hi : i < os.length
      · rw [List.getElem?_append_left hi] at ht
        exact absurd (List.mem_of_getElem? ht) hs
      · have hi2 : i < (os ++ [t]).length := (List.getElem?_eq_some_iff.mp ht).1
        rw [List.length_append, List.length_singleton] at hi2
        have e2 : i = os.length := by omega
        rw [e2]
    · rw [if_neg fun z => e (Sum.inr.inj z)]
      by_cases hi : i < os.length
      · rw [List.getElem?_append_left hi] at ht
        exact h.1 i t ht
      · rw [List.getElem?_append_right (by omega)] at ht
        have z := List.mem_of_getElem? ht
        exact absurd (List.mem_singleton.mp z) e
  · rw [valA_put, if_neg fun z => ht (by rw [Sum.inr.inj z]; exact List.mem_append.mpr (.inr List.mem_cons_self))]
    exact h.2 t fun z => ht (List.mem_append.mpr (.inl z))
def pos (s : Str) : List Str → Nat
  | [] => 0
  | t :: r => if t = s then 0 else pos s r + 1
theorem pos_get {s : Str} : ∀ {os : List Str}, s ∈ os → os[pos s os]? = some s
  | t :: r, h => by
    unfold pos
    by_cases e : t = s
    · rw [if_pos e, List.getElem?_cons_zero, e]
    · rw [if_neg e, List.getElem?_cons_succ]
      exact pos_get ((List.mem_cons.mp h).elim (fun z => absurd z.symm e) id)
def nmS (os : List Str) (s : Str) : Fm := if s ∈ os then .lt (nmI ((pos s os : Nat) : Int)) else .lt s
theorem Nmd.get {kvs : List (Key × D)} {os : List Str} (h : Nmd kvs os) (s : Str) : (valA kvs (.inr s)).getD (Fm.lt s).d = (nmS os s).d := by
  unfold nmS
  by_cases e : s ∈ os
  · rw [if_pos e, h.1 _ s (pos_get e)]
    rfl
  · rw [if_neg e, h.2 s e]
    rfl
theorem nmS_sz (os : List Str) (s : Str) : (nmS os s).sz = 1 := by
  unfold nmS
  split <;> rfl
theorem Fm.all_true : ∀ f : Fm, f.All fun _ => True
  | .lt _ => trivial
  | .ng p => Fm.all_true p
  | .im p q => ⟨Fm.all_true p, Fm.all_true q⟩
def Fm.rn (f : Fm) : Fm := f.sub (nmS f.ord)
theorem Fm.rn_sz (f : Fm) : f.rn.sz = f.sz := Fm.sub_sz (P := fun _ => True) (fun s _ => nmS_sz _ s) f.all_true
/-! stacks -/
def szs (fs : List Fm) : Nat := (fs.map Fm.sz).sum
theorem szs_cons (g : Fm) (fs : List Fm) : szs (g :: fs) = g.sz + szs fs := by unfold szs; rw [List.map_cons, List.sum_cons]
theorem szs_len : ∀ fs : List Fm, fs.length ≤ szs fs
  | [] => Nat.zero_le _
  | g :: fs => by
    have := szs_len fs
    have := g.sz_pos
    rw [szs_cons, List.length_cons]
    omega
/-- a stack of formulas, the top is the last item -/
def stF (fs : List Fm) : List D := fs.reverse.map Fm.d
theorem stF_cons (g : Fm) (fs : List Fm) : stF (g :: fs) = stF fs ++ [g.d] := by unfold stF; rw [List.reverse_cons, List.map_append]; rfl
theorem stF_len (fs : List Fm) : (stF fs).length = fs.length := by unfold stF; rw [List.length_map, List.length_reverse]
theorem stF_nil : stF [] = [] := rfl
def sqs (fs : List Fm) : List Str := (fs.map Fm.sq).flatten
theorem sqs_cons (g : Fm) (fs : List Fm) : sqs (g :: fs) = g.sq ++ sqs fs := by unfold sqs; rw [List.map_cons, List.flatten_cons]
def A_naming : ASp := fun ds M Q _ => ∃ f : Fm, ds = [.tup [f.d]] ∧ f.sz ≤ 500 ∧ ∀ t kvs M', Ext M M' → M' t = some (.dic kvs) → Nmd kvs f.ord → Q (.obj t) M'
theorem drop1_2 {a b : D} : (List.drop 1 [a, b]).reverse = [b] := rfl
theorem drop1_3 {a b c : D} : (List.drop 1 [a, b, c]).reverse = [c, b] := rfl
theorem p_naming (ds : List D) (M : Sto) (Q : D → Sto → Prop) (Xa) (hl : ds.length = 1) (h : A_naming ds M Q Xa) : a_naming A_name_at ax0 (Done Q) (startA ["formulas", "table", "formula", "waiting", "part"] ds) M := by
  obtain ⟨f, rfl, hsz, q⟩ := h
  unfold a_naming
  try (simp only [↓e_seq, ↓e_next, ↓e_break, ↓e_cont, ↓e_expr, ↓e_ret, ↓e_retN, ↓e_if, ↓e_never, ↓e_asg, ↓e_name, ↓e_agtup, ↓e_agcons, ↓e_agnil, ↓e_agsub, ↓e_aug, ↓e_dput, ↓e_var, ↓e_c, ↓e_op, ↓e_some, ↓e_none, ↓e_test, ↓e_and, ↓e_or, ↓e_not, ↓e_yes, ↓e_truth,   ↓e_tru_bl, ↓e_tru_int, ↓e_tru_non, ↓e_tru_str, ↓e_tru_tup, ↓e_tru_obj, ↓e_chain, ↓e_orV, ↓e_andV, ↓e_notV, ↓e_ifE, ↓e_neg, ↓e_nil, ↓e_cons, ↓e_tup, ↓e_lst, ↓e_dnew, ↓e_call, ↓e_cb, ↓e_isi, ↓e_sl, ↓e_onone, ↓e_osome, ↓e_rev, ↓e_lm, ↓e_append, ↓e_extend, ↓e_pop, ↓e_join, ↓e_dget2, ↓e_sortSet, ↓e_sortS, ↓e_setd, strsOf_map, ↓e_maxI, ↓e_disp, ↓e_pairN, ↓e_pairC, intsOf_map, ↓e_for, ↓e_ilist, ↓e_itup, ↓e_rng1, ↓e_rng2, ↓e_lc, ↓e_lc2, e_lc2N, ↓e_ienum, ↓e_izip, ↓e_anyB, ↓e_allB, ↓e_mulS, blsOf_map, ↓e_set0, ↓e_sadd, ↓e_sortTx, ↓e_sortD, ↓e_repr, ↓e_extT, ↓e_sc2, ↓e_sortZ, ↓e_tupVals, ↓e_wget, ↓e_wix, ↓e_listZip, zipD_nil, zipD_cons, ↓e_dgetF, ↓e_idif, ↓e_isB, ↓e_sortI, ↓e_sortSetI, ↓e_tailR, ↓e_divmod, ↓e_strI, ↓e_lenD, ↓e_fmt, ↓e_fs2,   ↓e_add_int, ↓e_add_str, ↓e_add_tup, ↓e_add_obj, ↓e_iadd_int, ↓e_iadd_str, ↓e_iadd_obj, ↓e_I, ↓e_I0, ↓e_IS_int, ↓e_IS_str, ↓e_eq_str, ↓e_ne_str, ↓e_eq_int, ↓e_ne_int, ↓e_eq_bl, ↓e_ne_bl, ↓e_isN, ↓e_notN, ↓e_ix_tup, ↓e_ix_fl, ↓e_ix_str, ↓e_ix_obj, ↓e_in_tup, ↓e_nin_tup, ↓e_len_tup, ↓e_len_fl, ↓e_len_str, ↓e_len_obj, ↓e_int_int, ↓e_tuple_tup, ↓e_tuple_obj, ↓e_list_tup, ↓e_list_obj, ↓e_dget, ↓e_din, ↓e_dnin, ↓e_lstAt, ↓e_dicAt,   e_key_int, e_key_str, e_up, e_ty_str, e_ty_tup, e_ty_int, e_ty_bl, e_ty_non, atI0, atI1, atI2, atI3, atIL, ixN0, ixN1, cut_from1, e_ite_or, e_ite_and, zln, znl, zli, zil, zni, zin, sizeLine_eq, CMul, CDiv, cpow1018, true_or, or_true, kb_strstr, kb_tupstr, kb_tuptup, kb_strtup, kb_inttup, kb_bltup, kb_nontup, kb_strbl, kb_strint, kb_intbl, kb_intint, kb_blbl, kb_blint, kb_nonbl, kb_nonint, kb_nonstr, kb_intstr, kb_blstr, kb_tupbl, kb_tupint,   List.set_cons_zero, List.set_cons_succ, List.set_nil, List.getElem?_cons_zero, List.getElem?_cons_succ, List.getElem?_nil, List.length_cons, List.length_nil, List.length_map, List.length_append, e_lcN, e_lcC, e_forN, e_forC, List.getLast?_concat, List.dropLast_concat, List.nil_append, List.cons_append, List.append_nil, List.append_assoc, List.reverse_cons, List.reverse_nil, List.isEmpty_nil, List.isEmpty_cons, isEmpty_snoc, List.any_cons, List.any_nil, List.all_cons, List.all_nil, flatD, eqF, in_non, in_tup, in_str, in_int, in_bl, in_obj, in_fl, startA, List.map_cons, List.map_nil, List.replicate_succ, List.replicate_zero,   Nat.reduceAdd, Nat.reduceSub, Nat.reduceLeDiff, Nat.zero_add, Int.reduceLE, Int.reduceLT, Int.reduceToNat, Int.reducePow, Int.reduceNeg, Int.reduceAdd, Int.reduceSub,   Option.isSome_some, Option.isSome_none, Bool.not_true, Bool.not_false, Bool.not_eq_true', Bool.not_eq_eq_eq_not, Bool.not_eq_true, Bool.false_eq_true, Bool.true_eq_false, Bool.and_true, Bool.true_and, Bool.or_false, Bool.false_or, Bool.or_true, Bool.true_or, Bool.and_false, Bool.false_and, if_true, if_false, ite_true, ite_false, reduceIte, reduceCtorEq, decide_true, decide_false, decide_eq_true_eq, decide_eq_false_iff_not, true_and, and_true, eq_self, ne_eq, not_false_eq_true, not_true_eq_false, and_self, *])
  intro t nt
  try (simp only [↓e_seq, ↓e_next, ↓e_break, ↓e_cont, ↓e_expr, ↓e_ret, ↓e_retN, ↓e_if, ↓e_never, ↓e_asg, ↓e_name, ↓e_agtup, ↓e_agcons, ↓e_agnil, ↓e_agsub, ↓e_aug, ↓e_dput, ↓e_var, ↓e_c, ↓e_op, ↓e_some, ↓e_none, ↓e_test, ↓e_and, ↓e_or, ↓e_not, ↓e_yes, ↓e_truth,   ↓e_tru_bl, ↓e_tru_int, ↓e_tru_non, ↓e_tru_str, ↓e_tru_tup, ↓e_tru_obj, ↓e_chain, ↓e_orV, ↓e_andV, ↓e_notV, ↓e_ifE, ↓e_neg, ↓e_nil, ↓e_cons, ↓e_tup, ↓e_lst, ↓e_dnew, ↓e_call, ↓e_cb, ↓e_isi, ↓e_sl, ↓e_onone, ↓e_osome, ↓e_rev, ↓e_lm, ↓e_append, ↓e_extend, ↓e_pop, ↓e_join, ↓e_dget2, ↓e_sortSet, ↓e_sortS, ↓e_setd, strsOf_map, ↓e_maxI, ↓e_disp, ↓e_pairN, ↓e_pairC, intsOf_map, ↓e_for, ↓e_ilist, ↓e_itup, ↓e_rng1, ↓e_rng2, ↓e_lc, ↓e_lc2, e_lc2N, ↓e_ienum, ↓e_izip, ↓e_anyB, ↓e_allB, ↓e_mulS, blsOf_map, ↓e_set0, ↓e_sadd, ↓e_sortTx, ↓e_sortD, ↓e_repr, ↓e_extT, ↓e_sc2, ↓e_sortZ, ↓e_tupVals, ↓e_wget, ↓e_wix, ↓e_listZip, zipD_nil, zipD_cons, ↓e_dgetF, ↓e_idif, ↓e_isB, ↓e_sortI, ↓e_sortSetI, ↓e_tailR, ↓e_divmod, ↓e_strI, ↓e_lenD, ↓e_fmt, ↓e_fs2,   ↓e_add_int, ↓e_add_str, ↓e_add_tup, ↓e_add_obj, ↓e_iadd_int, ↓e_iadd_str, ↓e_iadd_obj, ↓e_I, ↓e_I0, ↓e_IS_int, ↓e_IS_str, ↓e_eq_str, ↓e_ne_str, ↓e_eq_int, ↓e_ne_int, ↓e_eq_bl, ↓e_ne_bl, ↓e_isN, ↓e_notN, ↓e_ix_tup, ↓e_ix_fl, ↓e_ix_str, ↓e_ix_obj, ↓e_in_tup, ↓e_nin_tup, ↓e_len_tup, ↓e_len_fl, ↓e_len_str, ↓e_len_obj, ↓e_int_int, ↓e_tuple_tup, ↓e_tuple_obj, ↓e_list_tup, ↓e_list_obj, ↓e_dget, ↓e_din, ↓e_dnin, ↓e_lstAt, ↓e_dicAt,   e_key_int, e_key_str, e_up, e_ty_str, e_ty_tup, e_ty_int, e_ty_bl, e_ty_non, atI0, atI1, atI2, atI3, atIL, ixN0, ixN1, cut_from1, e_ite_or, e_ite_and, zln, znl, zli, zil, zni, zin, sizeLine_eq, CMul, CDiv, cpow1018, true_or, or_true, kb_strstr, kb_tupstr, kb_tuptup, kb_strtup, kb_inttup, kb_bltup, kb_nontup, kb_strbl, kb_strint, kb_intbl, kb_intint, kb_blbl, kb_blint, kb_nonbl, kb_nonint, kb_nonstr, kb_intstr, kb_blstr, kb_tupbl, kb_tupint,   List.set_cons_zero, List.set_cons_succ, List.set_nil, List.getElem?_cons_zero, List.getElem?_cons_succ, List.getElem?_nil, List.length_cons, List.length_nil, List.length_map, List.length_append, e_lcN, e_lcC, e_forN, e_forC, List.getLast?_concat, List.dropLast_concat, List.nil_append, List.cons_append, List.append_nil, List.append_assoc, List.reverse_cons, List.reverse_nil, List.isEmpty_nil, List.isEmpty_cons, isEmpty_snoc, List.any_cons, List.any_nil, List.all_cons, List.all_nil, flatD, eqF, in_non, in_tup, in_str, in_int, in_bl, in_obj, in_fl, startA, List.map_cons, List.map_nil, List.replicate_succ, List.replicate_zero,   Nat.reduceAdd, Nat.reduceSub, Nat.reduceLeDiff, Nat.zero_add, Int.reduceLE, Int.reduceLT, Int.reduceToNat, Int.reducePow, Int.reduceNeg, Int.reduceAdd, Int.reduceSub,   Option.isSome_some, Option.isSome_none, Bool.not_true, Bool.not_false, Bool.not_eq_true', Bool.not_eq_eq_eq_not, Bool.not_eq_true, Bool.false_eq_true, Bool.true_eq_false, Bool.and_true, Bool.true_and, Bool.or_false, Bool.false_or, Bool.or_true, Bool.true_or, Bool.and_false, Bool.false_and, if_true, if_false, ite_true, ite_false, reduceIte, reduceCtorEq, decide_true, decide_false, decide_eq_true_eq, decide_eq_false_iff_not, true_and, and_true, eq_self, ne_eq, not_false_eq_true, not_true_eq_false, and_self, *])
  intro p np
  have npt : p ≠ t := fun z => by subst z; rw [up_same] at np; cases np
  have ntp : t ≠ p := npt.symm
  have np0 : M p = none := by rw [up_ne npt] at np; exact np
  have ht0 : (up (up M t (.dic [])) p (.lst [f.d])) t = some (.dic []) := by rw [up_ne npt.symm]; exact up_same
  have e0 : Ext M (up (up M t (.dic [])) p (.lst [f.d])) := (Ext.new nt).trans (Ext.new np)
  refine while_runN (fun n env M' => ∃ (fs : List Fm) (ks : List Str) (kvs : List (Key × D)) (x4 : Option D), env = [some (.tup [f.d]), some (.obj t), some f.d, some (.obj p), x4] ∧ M' p = some (.lst (stF fs)) ∧ M' t = some (.dic kvs) ∧ Nmd kvs ks ∧ kvs.length = ks.length ∧ Ext M M' ∧ ordF ks (sqs fs) = f.ord ∧ ks.length + szs fs ≤ f.sz ∧ n = szs fs) ?_ (n := f.sz)
    ⟨[f], [], [], none, rfl, up_same, ht0, ⟨fun i s h => by simp at h, fun s _ => rfl⟩, rfl, e0, by rw [sqs_cons]; show ordF [] (f.sq ++ []) = _; rw [List.append_nil]; rfl, by rw [szs_cons]; show 0 + (f.sz + 0) ≤ _; omega, by rw [szs_cons]; rfl⟩
  rintro n N env M' ⟨fs, ks, kvs, x4, rfl, h1, h2, hn, hlk, he, ho, hk, rfl⟩ next
  cases fs with
  | nil =>
    have e : ks = f.ord := ho
    have q1 := q t kvs M' he h2 (by rw [← e]; exact hn)
    rw [stF_nil] at h1
    clear next ho hn e0 ht0 q
    try (simp only [↓e_seq, ↓e_next, ↓e_break, ↓e_cont, ↓e_expr, ↓e_ret, ↓e_retN, ↓e_if, ↓e_never, ↓e_asg, ↓e_name, ↓e_agtup, ↓e_agcons, ↓e_agnil, ↓e_agsub, ↓e_aug, ↓e_dput, ↓e_var, ↓e_c, ↓e_op, ↓e_some, ↓e_none, ↓e_test, ↓e_and, ↓e_or, ↓e_not, ↓e_yes, ↓e_truth,   ↓e_tru_bl, ↓e_tru_int, ↓e_tru_non, ↓e_tru_str, ↓e_tru_tup, ↓e_tru_obj, ↓e_chain, ↓e_orV, ↓e_andV, ↓e_notV, ↓e_ifE, ↓e_neg, ↓e_nil, ↓e_cons, ↓e_tup, ↓e_lst, ↓e_dnew, ↓e_call, ↓e_cb, ↓e_isi, ↓e_sl, ↓e_onone, ↓e_osome, ↓e_rev, ↓e_lm, ↓e_append, ↓e_extend, ↓e_pop, ↓e_join, ↓e_dget2, ↓e_sortSet, ↓e_sortS, ↓e_setd, strsOf_map, ↓e_maxI, ↓e_disp, ↓e_pairN, ↓e_pairC, intsOf_map, ↓e_for, ↓e_ilist, ↓e_itup, ↓e_rng1, ↓e_rng2, ↓e_lc, ↓e_lc2, e_lc2N, ↓e_ienum, ↓e_izip, ↓e_anyB, ↓e_allB, ↓e_mulS, blsOf_map, ↓e_set0, ↓e_sadd, ↓e_sortTx, ↓e_sortD, ↓e_repr, ↓e_extT, ↓e_sc2, ↓e_sortZ, ↓e_tupVals, ↓e_wget, ↓e_wix, ↓e_listZip, zipD_nil, zipD_cons, ↓e_dgetF, ↓e_idif, ↓e_isB, ↓e_sortI, ↓e_sortSetI, ↓e_tailR, ↓e_divmod, ↓e_strI, ↓e_lenD, ↓e_fmt, ↓e_fs2,   ↓e_add_int, ↓e_add_str, ↓e_add_tup, ↓e_add_obj, ↓e_iadd_int, ↓e_iadd_str, ↓e_iadd_obj, ↓e_I, ↓e_I0, ↓e_IS_int, ↓e_IS_str, ↓e_eq_str, ↓e_ne_str, ↓e_eq_int, ↓e_ne_int, ↓e_eq_bl, ↓e_ne_bl, ↓e_isN, ↓e_notN, ↓e_ix_tup, ↓e_ix_fl, ↓e_ix_str, ↓e_ix_obj, ↓e_in_tup, ↓e_nin_tup, ↓e_len_tup, ↓e_len_fl, ↓e_len_str, ↓e_len_obj, ↓e_int_int, ↓e_tuple_tup, ↓e_tuple_obj, ↓e_list_tup, ↓e_list_obj, ↓e_dget, ↓e_din, ↓e_dnin, ↓e_lstAt, ↓e_dicAt,   e_key_int, e_key_str, e_up, e_ty_str, e_ty_tup, e_ty_int, e_ty_bl, e_ty_non, atI0, atI1, atI2, atI3, atIL, ixN0, ixN1, cut_from1, e_ite_or, e_ite_and, zln, znl, zli, zil, zni, zin, sizeLine_eq, CMul, CDiv, cpow1018, true_or, or_true, kb_strstr, kb_tupstr, kb_tuptup, kb_strtup, kb_inttup, kb_bltup, kb_nontup, kb_strbl, kb_strint, kb_intbl, kb_intint, kb_blbl, kb_blint, kb_nonbl, kb_nonint, kb_nonstr, kb_intstr, kb_blstr, kb_tupbl, kb_tupint,   List.set_cons_zero, List.set_cons_succ, List.set_nil, List.getElem?_cons_zero, List.getElem?_cons_succ, List.getElem?_nil, List.length_cons, List.length_nil, List.length_map, List.length_append, e_lcN, e_lcC, e_forN, e_forC, List.getLast?_concat, List.dropLast_concat, List.nil_append, List.cons_append, List.append_nil, List.append_assoc, List.reverse_cons, List.reverse_nil, List.isEmpty_nil, List.isEmpty_cons, isEmpty_snoc, List.any_cons, List.any_nil, List.all_cons, List.all_nil, flatD, eqF, in_non, in_tup, in_str, in_int, in_bl, in_obj, in_fl, startA, List.map_cons, List.map_nil, List.replicate_succ, List.replicate_zero,   Nat.reduceAdd, Nat.reduceSub, Nat.reduceLeDiff, Nat.zero_add, Int.reduceLE, Int.reduceLT, Int.reduceToNat, Int.reducePow, Int.reduceNeg, Int.reduceAdd, Int.reduceSub,   Option.isSome_some, Option.isSome_none, Bool.not_true, Bool.not_false, Bool.not_eq_true', Bool.not_eq_eq_eq_not, Bool.not_eq_true, Bool.false_eq_true, Bool.true_eq_false, Bool.and_true, Bool.true_and, Bool.or_false, Bool.false_or, Bool.or_true, Bool.true_or, Bool.and_false, Bool.false_and, if_true, if_false, ite_true, ite_false, reduceIte, reduceCtorEq, decide_true, decide_false, decide_eq_true_eq, decide_eq_false_iff_not, true_and, and_true, eq_self, ne_eq, not_false_eq_true, not_true_eq_false, and_self, *])
  | cons g fs =>
    rw [stF_cons] at h1
    rw [szs_cons] at hk next
    rw [sqs_cons] at ho
    have hz := g.sz_pos
    have hln := szs_len fs
    have hst := stF_len fs
    cases g with
    | lt s =>
      have z : (Fm.lt s).sz = 1 := rfl
      rw [Fm.d_lt] at h1
      have ho2 : ordF (addS ks s) (sqs fs) = f.ord := ho
      by_cases c : s ∈ ks
      · have e : addS ks s = ks := if_pos c
        rw [e] at ho2
        have hv := hn.1 _ s (pos_get c)
        have nx : ∀ x4, N [some (.tup [f.d]), some (.obj t), some f.d, some (.obj p), x4] (up M' p (.lst (stF fs))) := fun x4 => next _ _ _ (by omega) ⟨fs, ks, kvs, x4, rfl, up_same, by rw [up_ne npt.symm]; exact h2, hn, hlk, Ext.upd np0 he, ho2, by omega, rfl⟩
        clear next ho ho2 hn e0 ht0 q
        try (simp only [↓e_seq, ↓e_next, ↓e_break, ↓e_cont, ↓e_expr, ↓e_ret, ↓e_retN, ↓e_if, ↓e_never, ↓e_asg, ↓e_name, ↓e_agtup, ↓e_agcons, ↓e_agnil, ↓e_agsub, ↓e_aug, ↓e_dput, ↓e_var, ↓e_c, ↓e_op, ↓e_some, ↓e_none, ↓e_test, ↓e_and, ↓e_or, ↓e_not, ↓e_yes, ↓e_truth,   ↓e_tru_bl, ↓e_tru_int, ↓e_tru_non, ↓e_tru_str, ↓e_tru_tup, ↓e_tru_obj, ↓e_chain, ↓e_orV, ↓e_andV, ↓e_notV, ↓e_ifE, ↓e_neg, ↓e_nil, ↓e_cons, ↓e_tup, ↓e_lst, ↓e_dnew, ↓e_call, ↓e_cb, ↓e_isi, ↓e_sl, ↓e_onone, ↓e_osome, ↓e_rev, ↓e_lm, ↓e_append, ↓e_extend, ↓e_pop, ↓e_join, ↓e_dget2, ↓e_sortSet, ↓e_sortS, ↓e_setd, strsOf_map, ↓e_maxI, ↓e_disp, ↓e_pairN, ↓e_pairC, intsOf_map, ↓e_for, ↓e_ilist, ↓e_itup, ↓e_rng1, ↓e_rng2, ↓e_lc, ↓e_lc2, e_lc2N, ↓e_ienum, ↓e_izip, ↓e_anyB, ↓e_allB, ↓e_mulS, blsOf_map, ↓e_set0, ↓e_sadd, ↓e_sortTx, ↓e_sortD, ↓e_repr, ↓e_extT, ↓e_sc2, ↓e_sortZ, ↓e_tupVals, ↓e_wget, ↓e_wix, ↓e_listZip, zipD_nil, zipD_cons, ↓e_dgetF, ↓e_idif, ↓e_isB, ↓e_sortI, ↓e_sortSetI, ↓e_tailR, ↓e_divmod, ↓e_strI, ↓e_lenD, ↓e_fmt, ↓e_fs2,   ↓e_add_int, ↓e_add_str, ↓e_add_tup, ↓e_add_obj, ↓e_iadd_int, ↓e_iadd_str, ↓e_iadd_obj, ↓e_I, ↓e_I0, ↓e_IS_int, ↓e_IS_str, ↓e_eq_str, ↓e_ne_str, ↓e_eq_int, ↓e_ne_int, ↓e_eq_bl, ↓e_ne_bl, ↓e_isN, ↓e_notN, ↓e_ix_tup, ↓e_ix_fl, ↓e_ix_str, ↓e_ix_obj, ↓e_in_tup, ↓e_nin_tup, ↓e_len_tup, ↓e_len_fl, ↓e_len_str, ↓e_len_obj, ↓e_int_int, ↓e_tuple_tup, ↓e_tuple_obj, ↓e_list_tup, ↓e_list_obj, ↓e_dget, ↓e_din, ↓e_dnin, ↓e_lstAt, ↓e_dicAt,   e_key_int, e_key_str, e_up, e_ty_str, e_ty_tup, e_ty_int, e_ty_bl, e_ty_non, atI0, atI1, atI2, atI3, atIL, ixN0, ixN1, cut_from1, e_ite_or, e_ite_and, zln, znl, zli, zil, zni, zin, sizeLine_eq, CMul, CDiv, cpow1018, true_or, or_true, kb_strstr, kb_tupstr, kb_tuptup, kb_strtup, kb_inttup, kb_bltup, kb_nontup, kb_strbl, kb_strint, kb_intbl, kb_intint, kb_blbl, kb_blint, kb_nonbl, kb_nonint, kb_nonstr, kb_intstr, kb_blstr, kb_tupbl, kb_tupint,   List.set_cons_zero, List.set_cons_succ, List.set_nil, List.getElem?_cons_zero, List.getElem?_cons_succ, List.getElem?_nil, List.length_cons, List.length_nil, List.length_map, List.length_append, e_lcN, e_lcC, e_forN, e_forC, List.getLast?_concat, List.dropLast_concat, List.nil_append, List.cons_append, List.append_nil, List.append_assoc, List.reverse_cons, List.reverse_nil, List.isEmpty_nil, List.isEmpty_cons, isEmpty_snoc, List.any_cons, List.any_nil, List.all_cons, List.all_nil, flatD, eqF, in_non, in_tup, in_str, in_int, in_bl, in_obj, in_fl, startA, List.map_cons, List.map_nil, List.replicate_succ, List.replicate_zero,   Nat.reduceAdd, Nat.reduceSub, Nat.reduceLeDiff, Nat.zero_add, Int.reduceLE, Int.reduceLT, Int.reduceToNat, Int.reducePow, Int.reduceNeg, Int.reduceAdd, Int.reduceSub,   Option.isSome_some, Option.isSome_none, Bool.not_true, Bool.not_false, Bool.not_eq_true', Bool.not_eq_eq_eq_not, Bool.not_eq_true, Bool.false_eq_true, Bool.true_eq_false, Bool.and_true, Bool.true_and, Bool.or_false, Bool.false_or, Bool.or_true, Bool.true_or, Bool.and_false, Bool.false_and, if_true, if_false, ite_true, ite_false, reduceIte, reduceCtorEq, decide_true, decide_false, decide_eq_true_eq, decide_eq_false_iff_not, true_and, and_true, eq_self, ne_eq, not_false_eq_true, not_true_eq_false, and_self, *])
      · have e : addS ks s = ks ++ [s] := if_neg c
        rw [e] at ho2
        have hv := hn.2 s c
        have hadd := hn.add c
        have hput := put_new (v := ltD (nmI (ks.length : Int))) hv
        have nx : ∀ x4, N [some (.tup [f.d]), some (.obj t), some f.d, some (.obj p), x4] (up (up M' p (.lst (stF fs))) t (.dic (putA kvs (.inr s) (ltD (nmI (ks.length : Int)))))) := fun x4 => next _ _ _ (by omega) ⟨fs, ks ++ [s], _, x4, rfl, by rw [up_ne npt]; exact up_same, up_same, hadd, by rw [hput, List.length_append, List.length_singleton]; omega, Ext.upd nt (Ext.upd np0 he), ho2, by rw [List.length_append, List.length_singleton]; omega, rfl⟩
        clear next ho ho2 hn e0 ht0 q hadd hput
        have hl16 : ks.length < 16777216 := by omega
        try (simp only [↓e_seq, ↓e_next, ↓e_break, ↓e_cont, ↓e_expr, ↓e_ret, ↓e_retN, ↓e_if, ↓e_never, ↓e_asg, ↓e_name, ↓e_agtup, ↓e_agcons, ↓e_agnil, ↓e_agsub, ↓e_aug, ↓e_dput, ↓e_var, ↓e_c, ↓e_op, ↓e_some, ↓e_none, ↓e_test, ↓e_and, ↓e_or, ↓e_not, ↓e_yes, ↓e_truth,   ↓e_tru_bl, ↓e_tru_int, ↓e_tru_non, ↓e_tru_str, ↓e_tru_tup, ↓e_tru_obj, ↓e_chain, ↓e_orV, ↓e_andV, ↓e_notV, ↓e_ifE, ↓e_neg, ↓e_nil, ↓e_cons, ↓e_tup, ↓e_lst, ↓e_dnew, ↓e_call, ↓e_cb, ↓e_isi, ↓e_sl, ↓e_onone, ↓e_osome, ↓e_rev, ↓e_lm, ↓e_append, ↓e_extend, ↓e_pop, ↓e_join, ↓e_dget2, ↓e_sortSet, ↓e_sortS, ↓e_setd, strsOf_map, ↓e_maxI, ↓e_disp, ↓e_pairN, ↓e_pairC, intsOf_map, ↓e_for, ↓e_ilist, ↓e_itup, ↓e_rng1, ↓e_rng2, ↓e_lc, ↓e_lc2, e_lc2N, ↓e_ienum, ↓e_izip, ↓e_anyB, ↓e_allB, ↓e_mulS, blsOf_map, ↓e_set0, ↓e_sadd, ↓e_sortTx, ↓e_sortD, ↓e_repr, ↓e_extT, ↓e_sc2, ↓e_sortZ, ↓e_tupVals, ↓e_wget, ↓e_wix, ↓e_listZip, zipD_nil, zipD_cons, ↓e_dgetF, ↓e_idif, ↓e_isB, ↓e_sortI, ↓e_sortSetI, ↓e_tailR, ↓e_divmod, ↓e_strI, ↓e_lenD, ↓e_fmt, ↓e_fs2,   ↓e_add_int, ↓e_add_str, ↓e_add_tup, ↓e_add_obj, ↓e_iadd_int, ↓e_iadd_str, ↓e_iadd_obj, ↓e_I, ↓e_I0, ↓e_IS_int, ↓e_IS_str, ↓e_eq_str, ↓e_ne_str, ↓e_eq_int, ↓e_ne_int, ↓e_eq_bl, ↓e_ne_bl, ↓e_isN, ↓e_notN, ↓e_ix_tup, ↓e_ix_fl, ↓e_ix_str, ↓e_ix_obj, ↓e_in_tup, ↓e_nin_tup, ↓e_len_tup, ↓e_len_fl, ↓e_len_str, ↓e_len_obj, ↓e_int_int, ↓e_tuple_tup, ↓e_tuple_obj, ↓e_list_tup, ↓e_list_obj, ↓e_dget, ↓e_din, ↓e_dnin, ↓e_lstAt, ↓e_dicAt,   e_key_int, e_key_str, e_up, e_ty_str, e_ty_tup, e_ty_int, e_ty_bl, e_ty_non, atI0, atI1, atI2, atI3, atIL, ixN0, ixN1, cut_from1, e_ite_or, e_ite_and, zln, znl, zli, zil, zni, zin, sizeLine_eq, CMul, CDiv, cpow1018, true_or, or_true, kb_strstr, kb_tupstr, kb_tuptup, kb_strtup, kb_inttup, kb_bltup, kb_nontup, kb_strbl, kb_strint, kb_intbl, kb_intint, kb_blbl, kb_blint, kb_nonbl, kb_nonint, kb_nonstr, kb_intstr, kb_blstr, kb_tupbl, kb_tupint,   List.set_cons_zero, List.set_cons_succ, List.set_nil, List.getElem?_cons_zero, List.getElem?_cons_succ, List.getElem?_nil, List.length_cons, List.length_nil, List.length_map, List.length_append, e_lcN, e_lcC, e_forN, e_forC, List.getLast?_concat, List.dropLast_concat, List.nil_append, List.cons_append, List.append_nil, List.append_assoc, List.reverse_cons, List.reverse_nil, List.isEmpty_nil, List.isEmpty_cons, isEmpty_snoc, List.any_cons, List.any_nil, List.all_cons, List.all_nil, flatD, eqF, in_non, in_tup, in_str, in_int, in_bl, in_obj, in_fl, startA, List.map_cons, List.map_nil, List.replicate_succ, List.replicate_zero,   Nat.reduceAdd, Nat.reduceSub, Nat.reduceLeDiff, Nat.zero_add, Int.reduceLE, Int.reduceLT, Int.reduceToNat, Int.reducePow, Int.reduceNeg, Int.reduceAdd, Int.reduceSub,   Option.isSome_some, Option.isSome_none, Bool.not_true, Bool.not_false, Bool.not_eq_true', Bool.not_eq_eq_eq_not, Bool.not_eq_true, Bool.false_eq_true, Bool.true_eq_false, Bool.and_true, Bool.true_and, Bool.or_false, Bool.false_or, Bool.or_true, Bool.true_or, Bool.and_false, Bool.false_and, if_true, if_false, ite_true, ite_false, reduceIte, reduceCtorEq, decide_true, decide_false, decide_eq_true_eq, decide_eq_false_iff_not, true_and, and_true, eq_self, ne_eq, not_false_eq_true, not_true_eq_false, and_self, *])
        refine ⟨rfl, _, rfl, by omega, by omega, ?_⟩
        unfold ltD at nx
        try (simp only [↓e_seq, ↓e_next, ↓e_break, ↓e_cont, ↓e_expr, ↓e_ret, ↓e_retN, ↓e_if, ↓e_never, ↓e_asg, ↓e_name, ↓e_agtup, ↓e_agcons, ↓e_agnil, ↓e_agsub, ↓e_aug, ↓e_dput, ↓e_var, ↓e_c, ↓e_op, ↓e_some, ↓e_none, ↓e_test, ↓e_and, ↓e_or, ↓e_not, ↓e_yes, ↓e_truth,   ↓e_tru_bl, ↓e_tru_int, ↓e_tru_non, ↓e_tru_str, ↓e_tru_tup, ↓e_tru_obj, ↓e_chain, ↓e_orV, ↓e_andV, ↓e_notV, ↓e_ifE, ↓e_neg, ↓e_nil, ↓e_cons, ↓e_tup, ↓e_lst, ↓e_dnew, ↓e_call, ↓e_cb, ↓e_isi, ↓e_sl, ↓e_onone, ↓e_osome, ↓e_rev, ↓e_lm, ↓e_append, ↓e_extend, ↓e_pop, ↓e_join, ↓e_dget2, ↓e_sortSet, ↓e_sortS, ↓e_setd, strsOf_map, ↓e_maxI, ↓e_disp, ↓e_pairN, ↓e_pairC, intsOf_map, ↓e_for, ↓e_ilist, ↓e_itup, ↓e_rng1, ↓e_rng2, ↓e_lc, ↓e_lc2, e_lc2N, ↓e_ienum, ↓e_izip, ↓e_anyB, ↓e_allB, ↓e_mulS, blsOf_map, ↓e_set0, ↓e_sadd, ↓e_sortTx, ↓e_sortD, ↓e_repr, ↓e_extT, ↓e_sc2, ↓e_sortZ, ↓e_tupVals, ↓e_wget, ↓e_wix, ↓e_listZip, zipD_nil, zipD_cons, ↓e_dgetF, ↓e_idif, ↓e_isB, ↓e_sortI, ↓e_sortSetI, ↓e_tailR, ↓e_divmod, ↓e_strI, ↓e_lenD, ↓e_fmt, ↓e_fs2,   ↓e_add_int, ↓e_add_str, ↓e_add_tup, ↓e_add_obj, ↓e_iadd_int, ↓e_iadd_str, ↓e_iadd_obj, ↓e_I, ↓e_I0, ↓e_IS_int, ↓e_IS_str, ↓e_eq_str, ↓e_ne_str, ↓e_eq_int, ↓e_ne_int, ↓e_eq_bl, ↓e_ne_bl, ↓e_isN, ↓e_notN, ↓e_ix_tup, ↓e_ix_fl, ↓e_ix_str, ↓e_ix_obj, ↓e_in_tup, ↓e_nin_tup, ↓e_len_tup, ↓e_len_fl, ↓e_len_str, ↓e_len_obj, ↓e_int_int, ↓e_tuple_tup, ↓e_tuple_obj, ↓e_list_tup, ↓e_list_obj, ↓e_dget, ↓e_din, ↓e_dnin, ↓e_lstAt, ↓e_dicAt,   e_key_int, e_key_str, e_up, e_ty_str, e_ty_tup, e_ty_int, e_ty_bl, e_ty_non, atI0, atI1, atI2, atI3, atIL, ixN0, ixN1, cut_from1, e_ite_or, e_ite_and, zln, znl, zli, zil, zni, zin, sizeLine_eq, CMul, CDiv, cpow1018, true_or, or_true, kb_strstr, kb_tupstr, kb_tuptup, kb_strtup, kb_inttup, kb_bltup, kb_nontup, kb_strbl, kb_strint, kb_intbl, kb_intint, kb_blbl, kb_blint, kb_nonbl, kb_nonint, kb_nonstr, kb_intstr, kb_blstr, kb_tupbl, kb_tupint,   List.set_cons_zero, List.set_cons_succ, List.set_nil, List.getElem?_cons_zero, List.getElem?_cons_succ, List.getElem?_nil, List.length_cons, List.length_nil, List.length_map, List.length_append, e_lcN, e_lcC, e_forN, e_forC, List.getLast?_concat, List.dropLast_concat, List.nil_append, List.cons_append, List.append_nil, List.append_assoc, List.reverse_cons, List.reverse_nil, List.isEmpty_nil, List.isEmpty_cons, isEmpty_snoc, List.any_cons, List.any_nil, List.all_cons, List.all_nil, flatD, eqF, in_non, in_tup, in_str, in_int, in_bl, in_obj, in_fl, startA, List.map_cons, List.map_nil, List.replicate_succ, List.replicate_zero,   Nat.reduceAdd, Nat.reduceSub, Nat.reduceLeDiff, Nat.zero_add, Int.reduceLE, Int.reduceLT, Int.reduceToNat, Int.reducePow, Int.reduceNeg, Int.reduceAdd, Int.reduceSub,   Option.isSome_some, Option.isSome_none, Bool.not_true, Bool.not_false, Bool.not_eq_true', Bool.not_eq_eq_eq_not, Bool.not_eq_true, Bool.false_eq_true, Bool.true_eq_false, Bool.and_true, Bool.true_and, Bool.or_false, Bool.false_or, Bool.or_true, Bool.true_or, Bool.and_false, Bool.false_and, if_true, if_false, ite_true, ite_false, reduceIte, reduceCtorEq, decide_true, decide_false, decide_eq_true_eq, decide_eq_false_iff_not, true_and, and_true, eq_self, ne_eq, not_false_eq_true, not_true_eq_false, and_self, *])
    | ng a =>
      have z : (Fm.ng a).sz = a.sz + 1 := rfl
      rw [Fm.d_ng] at h1
      have za := a.sz_pos
      have ho2 : ordF ks (sqs (a :: fs)) = f.ord := by rw [sqs_cons]; exact ho
      have nx : ∀ x4, N [some (.tup [f.d]), some (.obj t), some f.d, some (.obj p), x4] (up (up M' p (.lst (stF fs))) p (.lst (stF fs ++ [a.d]))) := fun x4 => next (szs (a :: fs)) _ _ (by rw [szs_cons]; omega) ⟨a :: fs, ks, kvs, x4, rfl, by rw [up_same, stF_cons], by rw [up_ne npt.symm, up_ne npt.symm]; exact h2, hn, hlk, Ext.upd np0 (Ext.upd np0 he), ho2, by rw [szs_cons]; omega, rfl⟩
      clear next ho ho2 hn e0 ht0 q
      have d2 := @drop1_2 (.str z_not) a.d
      try (simp only [↓e_seq, ↓e_next, ↓e_break, ↓e_cont, ↓e_expr, ↓e_ret, ↓e_retN, ↓e_if, ↓e_never, ↓e_asg, ↓e_name, ↓e_agtup, ↓e_agcons, ↓e_agnil, ↓e_agsub, ↓e_aug, ↓e_dput, ↓e_var, ↓e_c, ↓e_op, ↓e_some, ↓e_none, ↓e_test, ↓e_and, ↓e_or, ↓e_not, ↓e_yes, ↓e_truth,   ↓e_tru_bl, ↓e_tru_int, ↓e_tru_non, ↓e_tru_str, ↓e_tru_tup, ↓e_tru_obj, ↓e_chain, ↓e_orV, ↓e_andV, ↓e_notV, ↓e_ifE, ↓e_neg, ↓e_nil, ↓e_cons, ↓e_tup, ↓e_lst, ↓e_dnew, ↓e_call, ↓e_cb, ↓e_isi, ↓e_sl, ↓e_onone, ↓e_osome, ↓e_rev, ↓e_lm, ↓e_append, ↓e_extend, ↓e_pop, ↓e_join, ↓e_dget2, ↓e_sortSet, ↓e_sortS, ↓e_setd, strsOf_map, ↓e_maxI, ↓e_disp, ↓e_pairN, ↓e_pairC, intsOf_map, ↓e_for, ↓e_ilist, ↓e_itup, ↓e_rng1, ↓e_rng2, ↓e_lc, ↓e_lc2, e_lc2N, ↓e_ienum, ↓e_izip, ↓e_anyB, ↓e_allB, ↓e_mulS, blsOf_map, ↓e_set0, ↓e_sadd, ↓e_sortTx, ↓e_sortD, ↓e_repr, ↓e_extT, ↓e_sc2, ↓e_sortZ, ↓e_tupVals, ↓e_wget, ↓e_wix, ↓e_listZip, zipD_nil, zipD_cons, ↓e_dgetF, ↓e_idif, ↓e_isB, ↓e_sortI, ↓e_sortSetI, ↓e_tailR, ↓e_divmod, ↓e_strI, ↓e_lenD, ↓e_fmt, ↓e_fs2,   ↓e_add_int, ↓e_add_str, ↓e_add_tup, ↓e_add_obj, ↓e_iadd_int, ↓e_iadd_str, ↓e_iadd_obj, ↓e_I, ↓e_I0, ↓e_IS_int, ↓e_IS_str, ↓e_eq_str, ↓e_ne_str, ↓e_eq_int, ↓e_ne_int, ↓e_eq_bl, ↓e_ne_bl, ↓e_isN, ↓e_notN, ↓e_ix_tup, ↓e_ix_fl, ↓e_ix_str, ↓e_ix_obj, ↓e_in_tup, ↓e_nin_tup, ↓e_len_tup, ↓e_len_fl, ↓e_len_str, ↓e_len_obj, ↓e_int_int, ↓e_tuple_tup, ↓e_tuple_obj, ↓e_list_tup, ↓e_list_obj, ↓e_dget, ↓e_din, ↓e_dnin, ↓e_lstAt, ↓e_dicAt,   e_key_int, e_key_str, e_up, e_ty_str, e_ty_tup, e_ty_int, e_ty_bl, e_ty_non, atI0, atI1, atI2, atI3, atIL, ixN0, ixN1, cut_from1, e_ite_or, e_ite_and, zln, znl, zli, zil, zni, zin, sizeLine_eq, CMul, CDiv, cpow1018, true_or, or_true, kb_strstr, kb_tupstr, kb_tuptup, kb_strtup, kb_inttup, kb_bltup, kb_nontup, kb_strbl, kb_strint, kb_intbl, kb_intint, kb_blbl, kb_blint, kb_nonbl, kb_nonint, kb_nonstr, kb_intstr, kb_blstr, kb_tupbl, kb_tupint,   List.set_cons_zero, List.set_cons_succ, List.set_nil, List.getElem?_cons_zero, List.getElem?_cons_succ, List.getElem?_nil, List.length_cons, List.length_nil, List.length_map, List.length_append, e_lcN, e_lcC, e_forN, e_forC, List.getLast?_concat, List.dropLast_concat, List.nil_append, List.cons_append, List.append_nil, List.append_assoc, List.reverse_cons, List.reverse_nil, List.isEmpty_nil, List.isEmpty_cons, isEmpty_snoc, List.any_cons, List.any_nil, List.all_cons, List.all_nil, flatD, eqF, in_non, in_tup, in_str, in_int, in_bl, in_obj, in_fl, startA, List.map_cons, List.map_nil, List.replicate_succ, List.replicate_zero,   Nat.reduceAdd, Nat.reduceSub, Nat.reduceLeDiff, Nat.zero_add, Int.reduceLE, Int.reduceLT, Int.reduceToNat, Int.reducePow, Int.reduceNeg, Int.reduceAdd, Int.reduceSub,   Option.isSome_some, Option.isSome_none, Bool.not_true, Bool.not_false, Bool.not_eq_true', Bool.not_eq_eq_eq_not, Bool.not_eq_true, Bool.false_eq_true, Bool.true_eq_false, Bool.and_true, Bool.true_and, Bool.or_false, Bool.false_or, Bool.or_true, Bool.true_or, Bool.and_false, Bool.false_and, if_true, if_false, ite_true, ite_false, reduceIte, reduceCtorEq, decide_true, decide_false, decide_eq_true_eq, decide_eq_false_iff_not, true_and, and_true, eq_self, ne_eq, not_false_eq_true, not_true_eq_false, and_self, *])
      all_goals omega
    | im a b =>
      have z : (Fm.im a b).sz = a.sz + b.sz + 1 := rfl
      rw [Fm.d_im] at h1
      have za := a.sz_pos
      have ho2 : ordF ks (sqs (a :: b :: fs)) = f.ord := by rw [sqs_cons, sqs_cons, ← List.append_assoc]; exact ho
      have nx : ∀ x4, N [some (.tup [f.d]), some (.obj t), some f.d, some (.obj p), x4] (up (up M' p (.lst (stF fs))) p (.lst (stF fs ++ [b.d, a.d]))) := fun x4 => next (szs (a :: b :: fs)) _ _ (by rw [szs_cons, szs_cons]; omega) ⟨a :: b :: fs, ks, kvs, x4, rfl, by rw [up_same, stF_cons, stF_cons, List.append_assoc]; rfl, by rw [up_ne npt.symm, up_ne npt.symm]; exact h2, hn, hlk, Ext.upd np0 (Ext.upd np0 he), ho2, by rw [szs_cons, szs_cons]; omega, rfl⟩
      clear next ho ho2 hn e0 ht0 q
      have d2 := @drop1_3 (.str z_if) a.d b.d
      try (simp only [↓e_seq, ↓e_next, ↓e_break, ↓e_cont, ↓e_expr, ↓e_ret, ↓e_retN, ↓e_if, ↓e_never, ↓e_asg, ↓e_name, ↓e_agtup, ↓e_agcons, ↓e_agnil, ↓e_agsub, ↓e_aug, ↓e_dput, ↓e_var, ↓e_c, ↓e_op, ↓e_some, ↓e_none, ↓e_test, ↓e_and, ↓e_or, ↓e_not, ↓e_yes, ↓e_truth,   ↓e_tru_bl, ↓e_tru_int, ↓e_tru_non, ↓e_tru_str, ↓e_tru_tup, ↓e_tru_obj, ↓e_chain, ↓e_orV, ↓e_andV, ↓e_notV, ↓e_ifE, ↓e_neg, ↓e_nil, ↓e_cons, ↓e_tup, ↓e_lst, ↓e_dnew, ↓e_call, ↓e_cb, ↓e_isi, ↓e_sl, ↓e_onone, ↓e_osome, ↓e_rev, ↓e_lm, ↓e_append, ↓e_extend, ↓e_pop, ↓e_join, ↓e_dget2, ↓e_sortSet, ↓e_sortS, ↓e_setd, strsOf_map, ↓e_maxI, ↓e_disp, ↓e_pairN, ↓e_pairC, intsOf_map, ↓e_for, ↓e_ilist, ↓e_itup, ↓e_rng1, ↓e_rng2, ↓e_lc, ↓e_lc2, e_lc2N, ↓e_ienum, ↓e_izip, ↓e_anyB, ↓e_allB, ↓e_mulS, blsOf_map, ↓e_set0, ↓e_sadd, ↓e_sortTx, ↓e_sortD, ↓e_repr, ↓e_extT, ↓e_sc2, ↓e_sortZ, ↓e_tupVals, ↓e_wget, ↓e_wix, ↓e_listZip, zipD_nil, zipD_cons, ↓e_dgetF, ↓e_idif, ↓e_isB, ↓e_sortI, ↓e_sortSetI, ↓e_tailR, ↓e_divmod, ↓e_strI, ↓e_lenD, ↓e_fmt, ↓e_fs2,   ↓e_add_int, ↓e_add_str, ↓e_add_tup, ↓e_add_obj, ↓e_iadd_int, ↓e_iadd_str, ↓e_iadd_obj, ↓e_I, ↓e_I0, ↓e_IS_int, ↓e_IS_str, ↓e_eq_str, ↓e_ne_str, ↓e_eq_int, ↓e_ne_int, ↓e_eq_bl, ↓e_ne_bl, ↓e_isN, ↓e_notN, ↓e_ix_tup, ↓e_ix_fl, ↓e_ix_str, ↓e_ix_obj, ↓e_in_tup, ↓e_nin_tup, ↓e_len_tup, ↓e_len_fl, ↓e_len_str, ↓e_len_obj, ↓e_int_int, ↓e_tuple_tup, ↓e_tuple_obj, ↓e_list_tup, ↓e_list_obj, ↓e_dget, ↓e_din, ↓e_dnin, ↓e_lstAt, ↓e_dicAt,   e_key_int, e_key_str, e_up, e_ty_str, e_ty_tup, e_ty_int, e_ty_bl, e_ty_non, atI0, atI1, atI2, atI3, atIL, ixN0, ixN1, cut_from1, e_ite_or, e_ite_and, zln, znl, zli, zil, zni, zin, sizeLine_eq, CMul, CDiv, cpow1018, true_or, or_true, kb_strstr, kb_tupstr, kb_tuptup, kb_strtup, kb_inttup, kb_bltup, kb_nontup, kb_strbl, kb_strint, kb_intbl, kb_intint, kb_blbl, kb_blint, kb_nonbl, kb_nonint, kb_nonstr, kb_intstr, kb_blstr, kb_tupbl, kb_tupint,   List.set_cons_zero, List.set_cons_succ, List.set_nil, List.getElem?_cons_zero, List.getElem?_cons_succ, List.getElem?_nil, List.length_cons, List.length_nil, List.length_map, List.length_append, e_lcN, e_lcC, e_forN, e_forC, List.getLast?_concat, List.dropLast_concat, List.nil_append, List.cons_append, List.append_nil, List.append_assoc, List.reverse_cons, List.reverse_nil, List.isEmpty_nil, List.isEmpty_cons, isEmpty_snoc, List.any_cons, List.any_nil, List.all_cons, List.all_nil, flatD, eqF, in_non, in_tup, in_str, in_int, in_bl, in_obj, in_fl, startA, List.map_cons, List.map_nil, List.replicate_succ, List.replicate_zero,   Nat.reduceAdd, Nat.reduceSub, Nat.reduceLeDiff, Nat.zero_add, Int.reduceLE, Int.reduceLT, Int.reduceToNat, Int.reducePow, Int.reduceNeg, Int.reduceAdd, Int.reduceSub,   Option.isSome_some, Option.isSome_none, Bool.not_true, Bool.not_false, Bool.not_eq_true', Bool.not_eq_eq_eq_not, Bool.not_eq_true, Bool.false_eq_true, Bool.true_eq_false, Bool.and_true, Bool.true_and, Bool.or_false, Bool.false_or, Bool.or_true, Bool.true_or, Bool.and_false, Bool.false_and, if_true, if_false, ite_true, ite_false, reduceIte, reduceCtorEq, decide_true, decide_false, decide_eq_true_eq, decide_eq_false_iff_not, true_and, and_true, eq_self, ne_eq, not_false_eq_true, not_true_eq_false, and_self, *])
      all_goals omega

/-! the law's order -/
theorem in_strs {n : Bool} {s : Str} {xs : List Str} {p : Addr} {M : Sto} {Q : D → Sto → Prop} (h : M p = some (.lst (xs.map D.str))) (q : Q (.bl (if n then !decide (s ∈ xs) else decide (s ∈ xs))) M) : ρIn n (.str s) (.obj p) M Q := by
  show lstAt M p fun ds => (flatD (.str s) = true ∧ ds.all flatD = true ∧ Q (.bl (if n then !(ds.any fun y => eqF y (.str s)) else ds.any fun y => eqF y (.str s))) M) ∨ _
  unfold lstAt
  rw [h]
  refine .inl ⟨rfl, ?_, ?_⟩
  · rw [List.all_eq_true]
    intro d hd
    obtain ⟨x, _, rfl⟩ := List.mem_map.mp hd
    rfl
  · have e : ((xs.map D.str).any fun y => eqF y (.str s)) = decide (s ∈ xs) := by
      rw [Bool.eq_iff_iff, List.any_eq_true, decide_eq_true_eq]
      constructor
      · rintro ⟨d, hd, e⟩
        obtain ⟨x, hx, rfl⟩ := List.mem_map.mp hd
        have e2 : x = s := of_decide_eq_true e
        rw [← e2]
        exact hx
      · exact fun h => ⟨.str s, List.mem_map.mpr ⟨s, h, rfl⟩, decide_eq_true rfl⟩
    rw [e]
    exact q
theorem order_lc {xs : List Str} {p a : Addr} {e0 e2 e3 : Option D} {M : Sto} {ys : List Str} {Q : List D → Sto → Prop} (hp : M p = some (.lst (xs.map D.str))) (ha : M a = some (.lst (ys.map D.str)))
    (q : Q ((ys.filter fun s => !decide (s ∈ xs)).map D.str) M) :
    aLcGo (fun M' => M' a = some (.lst (ys.map D.str))) 3 (aTest (aOp (ρIn true) (aVar 3) (aVar 1))) (aVar 3) ax0 [e0, some (.obj p), e2, e3] (ys.map D.str) [] M Q := by
  refine lc_run (fun ds acc M' => ∃ done rest : List Str, ys = done ++ rest ∧ ds = rest.map D.str ∧ acc = (done.filter fun s => !decide (s ∈ xs)).map D.str ∧ M' = M) ?_ ?_ ?_ ⟨[], ys, rfl, rfl, rfl, rfl⟩
  · rintro ds acc M' ⟨done, rest, _, _, _, rfl⟩
    exact ha
  · rintro acc M' ⟨done, rest, e, hd, rfl, rfl⟩
    have z := List.map_eq_nil_iff.mp hd.symm
    subst z
    rw [List.append_nil] at e
    rw [← e]
    exact q
  · rintro y r acc M' N ⟨done, rest, e, hd, rfl, rfl⟩ next
    cases rest with
    | nil => cases hd
    | cons s rest =>
      rw [List.map_cons] at hd
      injection hd with hd1 hd2
      subst hd1 hd2
      have nx1 : s ∉ xs → N ((done.filter fun s => !decide (s ∈ xs)).map D.str ++ [.str s]) M' := fun c => next _ _ ⟨done ++ [s], rest, by rw [e, List.append_assoc]; rfl, rfl, by rw [List.filter_append, List.filter_cons_of_pos (by simp [c]), List.map_append]; rfl, rfl⟩
      have nx2 : s ∈ xs → N ((done.filter fun s => !decide (s ∈ xs)).map D.str) M' := fun c => next _ _ ⟨done ++ [s], rest, by rw [e, List.append_assoc]; rfl, rfl, by rw [List.filter_append, List.filter_cons_of_neg (by simp [c]), List.filter_nil, List.append_nil], rfl⟩
      clear next e
      try (simp only [↓e_seq, ↓e_next, ↓e_break, ↓e_cont, ↓e_expr, ↓e_ret, ↓e_retN, ↓e_if, ↓e_never, ↓e_asg, ↓e_name, ↓e_agtup, ↓e_agcons, ↓e_agnil, ↓e_agsub, ↓e_aug, ↓e_dput, ↓e_var, ↓e_c, ↓e_op, ↓e_some, ↓e_none, ↓e_test, ↓e_and, ↓e_or, ↓e_not, ↓e_yes, ↓e_truth,   ↓e_tru_bl, ↓e_tru_int, ↓e_tru_non, ↓e_tru_str, ↓e_tru_tup, ↓e_tru_obj, ↓e_chain, ↓e_orV, ↓e_andV, ↓e_notV, ↓e_ifE, ↓e_neg, ↓e_nil, ↓e_cons, ↓e_tup, ↓e_lst, ↓e_dnew, ↓e_call, ↓e_cb, ↓e_isi, ↓e_sl, ↓e_onone, ↓e_osome, ↓e_rev, ↓e_lm, ↓e_append, ↓e_extend, ↓e_pop, ↓e_join, ↓e_dget2, ↓e_sortSet, ↓e_sortS, ↓e_setd, strsOf_map, ↓e_maxI, ↓e_disp, ↓e_pairN, ↓e_pairC, intsOf_map, ↓e_for, ↓e_ilist, ↓e_itup, ↓e_rng1, ↓e_rng2, ↓e_lc, ↓e_lc2, e_lc2N, ↓e_ienum, ↓e_izip, ↓e_anyB, ↓e_allB, ↓e_mulS, blsOf_map, ↓e_set0, ↓e_sadd, ↓e_sortTx, ↓e_sortD, ↓e_repr, ↓e_extT, ↓e_sc2, ↓e_sortZ, ↓e_tupVals, ↓e_wget, ↓e_wix, ↓e_listZip, zipD_nil, zipD_cons, ↓e_dgetF, ↓e_idif, ↓e_isB, ↓e_sortI, ↓e_sortSetI, ↓e_tailR, ↓e_divmod, ↓e_strI, ↓e_lenD, ↓e_fmt, ↓e_fs2,   ↓e_add_int, ↓e_add_str, ↓e_add_tup, ↓e_add_obj, ↓e_iadd_int, ↓e_iadd_str, ↓e_iadd_obj, ↓e_I, ↓e_I0, ↓e_IS_int, ↓e_IS_str, ↓e_eq_str, ↓e_ne_str, ↓e_eq_int, ↓e_ne_int, ↓e_eq_bl, ↓e_ne_bl, ↓e_isN, ↓e_notN, ↓e_ix_tup, ↓e_ix_fl, ↓e_ix_str, ↓e_ix_obj, ↓e_in_tup, ↓e_nin_tup, ↓e_len_tup, ↓e_len_fl, ↓e_len_str, ↓e_len_obj, ↓e_int_int, ↓e_tuple_tup, ↓e_tuple_obj, ↓e_list_tup, ↓e_list_obj, ↓e_dget, ↓e_din, ↓e_dnin, ↓e_lstAt, ↓e_dicAt,   e_key_int, e_key_str, e_up, e_ty_str, e_ty_tup, e_ty_int, e_ty_bl, e_ty_non, atI0, atI1, atI2, atI3, atIL, ixN0, ixN1, cut_from1, e_ite_or, e_ite_and, zln, znl, zli, zil, zni, zin, sizeLine_eq, CMul, CDiv, cpow1018, true_or, or_true, kb_strstr, kb_tupstr, kb_tuptup, kb_strtup, kb_inttup, kb_bltup, kb_nontup, kb_strbl, kb_strint, kb_intbl, kb_intint, kb_blbl, kb_blint, kb_nonbl, kb_nonint, kb_nonstr, kb_intstr, kb_blstr, kb_tupbl, kb_tupint,   List.set_cons_zero, List.set_cons_succ, List.set_nil, List.getElem?_cons_zero, List.getElem?_cons_succ, List.getElem?_nil, List.length_cons, List.length_nil, List.length_map, List.length_append, e_lcN, e_lcC, e_forN, e_forC, List.getLast?_concat, List.dropLast_concat, List.nil_append, List.cons_append, List.append_nil, List.append_assoc, List.reverse_cons, List.reverse_nil, List.isEmpty_nil, List.isEmpty_cons, isEmpty_snoc, List.any_cons, List.any_nil, List.all_cons, List.all_nil, flatD, eqF, in_non, in_tup, in_str, in_int, in_bl, in_obj, in_fl, startA, List.map_cons, List.map_nil, List.replicate_succ, List.replicate_zero,   Nat.reduceAdd, Nat.reduceSub, Nat.reduceLeDiff, Nat.zero_add, Int.reduceLE, Int.reduceLT, Int.reduceToNat, Int.reducePow, Int.reduceNeg, Int.reduceAdd, Int.reduceSub,   Option.isSome_some, Option.isSome_none, Bool.not_true, Bool.not_false, Bool.not_eq_true', Bool.not_eq_eq_eq_not, Bool.not_eq_true, Bool.false_eq_true, Bool.true_eq_false, Bool.and_true, Bool.true_and, Bool.or_false, Bool.false_or, Bool.or_true, Bool.true_or, Bool.and_false, Bool.false_and, if_true, if_false, ite_true, ite_false, reduceIte, reduceCtorEq, decide_true, decide_false, decide_eq_true_eq, decide_eq_false_iff_not, true_and, and_true, eq_self, ne_eq, not_false_eq_true, not_true_eq_false, and_self, *])
      refine in_strs hp ?_
      by_cases c : s ∈ xs
      · have z := nx2 c
        clear nx1 nx2
        try (simp only [↓e_seq, ↓e_next, ↓e_break, ↓e_cont, ↓e_expr, ↓e_ret, ↓e_retN, ↓e_if, ↓e_never, ↓e_asg, ↓e_name, ↓e_agtup, ↓e_agcons, ↓e_agnil, ↓e_agsub, ↓e_aug, ↓e_dput, ↓e_var, ↓e_c, ↓e_op, ↓e_some, ↓e_none, ↓e_test, ↓e_and, ↓e_or, ↓e_not, ↓e_yes, ↓e_truth,   ↓e_tru_bl, ↓e_tru_int, ↓e_tru_non, ↓e_tru_str, ↓e_tru_tup, ↓e_tru_obj, ↓e_chain, ↓e_orV, ↓e_andV, ↓e_notV, ↓e_ifE, ↓e_neg, ↓e_nil, ↓e_cons, ↓e_tup, ↓e_lst, ↓e_dnew, ↓e_call, ↓e_cb, ↓e_isi, ↓e_sl, ↓e_onone, ↓e_osome, ↓e_rev, ↓e_lm, ↓e_append, ↓e_extend, ↓e_pop, ↓e_join, ↓e_dget2, ↓e_sortSet, ↓e_sortS, ↓e_setd, strsOf_map, ↓e_maxI, ↓e_disp, ↓e_pairN, ↓e_pairC, intsOf_map, ↓e_for, ↓e_ilist, ↓e_itup, ↓e_rng1, ↓e_rng2, ↓e_lc, ↓e_lc2, e_lc2N, ↓e_ienum, ↓e_izip, ↓e_anyB, ↓e_allB, ↓e_mulS, blsOf_map, ↓e_set0, ↓e_sadd, ↓e_sortTx, ↓e_sortD, ↓e_repr, ↓e_extT, ↓e_sc2, ↓e_sortZ, ↓e_tupVals, ↓e_wget, ↓e_wix, ↓e_listZip, zipD_nil, zipD_cons, ↓e_dgetF, ↓e_idif, ↓e_isB, ↓e_sortI, ↓e_sortSetI, ↓e_tailR, ↓e_divmod, ↓e_strI, ↓e_lenD, ↓e_fmt, ↓e_fs2,   ↓e_add_int, ↓e_add_str, ↓e_add_tup, ↓e_add_obj, ↓e_iadd_int, ↓e_iadd_str, ↓e_iadd_obj, ↓e_I, ↓e_I0, ↓e_IS_int, ↓e_IS_str, ↓e_eq_str, ↓e_ne_str, ↓e_eq_int, ↓e_ne_int, ↓e_eq_bl, ↓e_ne_bl, ↓e_isN, ↓e_notN, ↓e_ix_tup, ↓e_ix_fl, ↓e_ix_str, ↓e_ix_obj, ↓e_in_tup, ↓e_nin_tup, ↓e_len_tup, ↓e_len_fl, ↓e_len_str, ↓e_len_obj, ↓e_int_int, ↓e_tuple_tup, ↓e_tuple_obj, ↓e_list_tup, ↓e_list_obj, ↓e_dget, ↓e_din, ↓e_dnin, ↓e_lstAt, ↓e_dicAt,   e_key_int, e_key_str, e_up, e_ty_str, e_ty_tup, e_ty_int, e_ty_bl, e_ty_non, atI0, atI1, atI2, atI3, atIL, ixN0, ixN1, cut_from1, e_ite_or, e_ite_and, zln, znl, zli, zil, zni, zin, sizeLine_eq, CMul, CDiv, cpow1018, true_or, or_true, kb_strstr, kb_tupstr, kb_tuptup, kb_strtup, kb_inttup, kb_bltup, kb_nontup, kb_strbl, kb_strint, kb_intbl, kb_intint, kb_blbl, kb_blint, kb_nonbl, kb_nonint, kb_nonstr, kb_intstr, kb_blstr, kb_tupbl, kb_tupint,   List.set_cons_zero, List.set_cons_succ, List.set_nil, List.getElem?_cons_zero, List.getElem?_cons_succ, List.getElem?_nil, List.length_cons, List.length_nil, List.length_map, List.length_append, e_lcN, e_lcC, e_forN, e_forC, List.getLast?_concat, List.dropLast_concat, List.nil_append, List.cons_append, List.append_nil, List.append_assoc, List.reverse_cons, List.reverse_nil, List.isEmpty_nil, List.isEmpty_cons, isEmpty_snoc, List.any_cons, List.any_nil, List.all_cons, List.all_nil, flatD, eqF, in_non, in_tup, in_str, in_int, in_bl, in_obj, in_fl, startA, List.map_cons, List.map_nil, List.replicate_succ, List.replicate_zero,   Nat.reduceAdd, Nat.reduceSub, Nat.reduceLeDiff, Nat.zero_add, Int.reduceLE, Int.reduceLT, Int.reduceToNat, Int.reducePow, Int.reduceNeg, Int.reduceAdd, Int.reduceSub,   Option.isSome_some, Option.isSome_none, Bool.not_true, Bool.not_false, Bool.not_eq_true', Bool.not_eq_eq_eq_not, Bool.not_eq_true, Bool.false_eq_true, Bool.true_eq_false, Bool.and_true, Bool.true_and, Bool.or_false, Bool.false_or, Bool.or_true, Bool.true_or, Bool.and_false, Bool.false_and, if_true, if_false, ite_true, ite_false, reduceIte, reduceCtorEq, decide_true, decide_false, decide_eq_true_eq, decide_eq_false_iff_not, true_and, and_true, eq_self, ne_eq, not_false_eq_true, not_true_eq_false, and_self, *])
      · have z := nx1 c
        clear nx1 nx2
        try (simp only [↓e_seq, ↓e_next, ↓e_break, ↓e_cont, ↓e_expr, ↓e_ret, ↓e_retN, ↓e_if, ↓e_never, ↓e_asg, ↓e_name, ↓e_agtup, ↓e_agcons, ↓e_agnil, ↓e_agsub, ↓e_aug, ↓e_dput, ↓e_var, ↓e_c, ↓e_op, ↓e_some, ↓e_none, ↓e_test, ↓e_and, ↓e_or, ↓e_not, ↓e_yes, ↓e_truth,   ↓e_tru_bl, ↓e_tru_int, ↓e_tru_non, ↓e_tru_str, ↓e_tru_tup, ↓e_tru_obj, ↓e_chain, ↓e_orV, ↓e_andV, ↓e_notV, ↓e_ifE, ↓e_neg, ↓e_nil, ↓e_cons, ↓e_tup, ↓e_lst, ↓e_dnew, ↓e_call, ↓e_cb, ↓e_isi, ↓e_sl, ↓e_onone, ↓e_osome, ↓e_rev, ↓e_lm, ↓e_append, ↓e_extend, ↓e_pop, ↓e_join, ↓e_dget2, ↓e_sortSet, ↓e_sortS, ↓e_setd, strsOf_map, ↓e_maxI, ↓e_disp, ↓e_pairN, ↓e_pairC, intsOf_map, ↓e_for, ↓e_ilist, ↓e_itup, ↓e_rng1, ↓e_rng2, ↓e_lc, ↓e_lc2, e_lc2N, ↓e_ienum, ↓e_izip, ↓e_anyB, ↓e_allB, ↓e_mulS, blsOf_map, ↓e_set0, ↓e_sadd, ↓e_sortTx, ↓e_sortD, ↓e_repr, ↓e_extT, ↓e_sc2, ↓e_sortZ, ↓e_tupVals, ↓e_wget, ↓e_wix, ↓e_listZip, zipD_nil, zipD_cons, ↓e_dgetF, ↓e_idif, ↓e_isB, ↓e_sortI, ↓e_sortSetI, ↓e_tailR, ↓e_divmod, ↓e_strI, ↓e_lenD, ↓e_fmt, ↓e_fs2,   ↓e_add_int, ↓e_add_str, ↓e_add_tup, ↓e_add_obj, ↓e_iadd_int, ↓e_iadd_str, ↓e_iadd_obj, ↓e_I, ↓e_I0, ↓e_IS_int, ↓e_IS_str, ↓e_eq_str, ↓e_ne_str, ↓e_eq_int, ↓e_ne_int, ↓e_eq_bl, ↓e_ne_bl, ↓e_isN, ↓e_notN, ↓e_ix_tup, ↓e_ix_fl, ↓e_ix_str, ↓e_ix_obj, ↓e_in_tup, ↓e_nin_tup, ↓e_len_tup, ↓e_len_fl, ↓e_len_str, ↓e_len_obj, ↓e_int_int, ↓e_tuple_tup, ↓e_tuple_obj, ↓e_list_tup, ↓e_list_obj, ↓e_dget, ↓e_din, ↓e_dnin, ↓e_lstAt, ↓e_dicAt,   e_key_int, e_key_str, e_up, e_ty_str, e_ty_tup, e_ty_int, e_ty_bl, e_ty_non, atI0, atI1, atI2, atI3, atIL, ixN0, ixN1, cut_from1, e_ite_or, e_ite_and, zln, znl, zli, zil, zni, zin, sizeLine_eq, CMul, CDiv, cpow1018, true_or, or_true, kb_strstr, kb_tupstr, kb_tuptup, kb_strtup, kb_inttup, kb_bltup, kb_nontup, kb_strbl, kb_strint, kb_intbl, kb_intint, kb_blbl, kb_blint, kb_nonbl, kb_nonint, kb_nonstr, kb_intstr, kb_blstr, kb_tupbl, kb_tupint,   List.set_cons_zero, List.set_cons_succ, List.set_nil, List.getElem?_cons_zero, List.getElem?_cons_succ, List.getElem?_nil, List.length_cons, List.length_nil, List.length_map, List.length_append, e_lcN, e_lcC, e_forN, e_forC, List.getLast?_concat, List.dropLast_concat, List.nil_append, List.cons_append, List.append_nil, List.append_assoc, List.reverse_cons, List.reverse_nil, List.isEmpty_nil, List.isEmpty_cons, isEmpty_snoc, List.any_cons, List.any_nil, List.all_cons, List.all_nil, flatD, eqF, in_non, in_tup, in_str, in_int, in_bl, in_obj, in_fl, startA, List.map_cons, List.map_nil, List.replicate_succ, List.replicate_zero,   Nat.reduceAdd, Nat.reduceSub, Nat.reduceLeDiff, Nat.zero_add, Int.reduceLE, Int.reduceLT, Int.reduceToNat, Int.reducePow, Int.reduceNeg, Int.reduceAdd, Int.reduceSub,   Option.isSome_some, Option.isSome_none, Bool.not_true, Bool.not_false, Bool.not_eq_true', Bool.not_eq_eq_eq_not, Bool.not_eq_true, Bool.false_eq_true, Bool.true_eq_false, Bool.and_true, Bool.true_and, Bool.or_false, Bool.false_or, Bool.or_true, Bool.true_or, Bool.and_false, Bool.false_and, if_true, if_false, ite_true, ite_false, reduceIte, reduceCtorEq, decide_true, decide_false, decide_eq_true_eq, decide_eq_false_iff_not, true_and, and_true, eq_self, ne_eq, not_false_eq_true, not_true_eq_false, and_self, *])
def A_order (L : Nat) : ASp := fun ds M Q _ => ∃ f : Fm, ds = [f.d] ∧ f.sz ≤ L ∧ f.sz ≤ 500 ∧ ∀ p M', M p = none → Ext M M' → M' p = some (.lst (f.ord.map D.str)) → Q (.obj p) M'
theorem filter_all (ys : List Str) : (ys.filter fun s => !decide (s ∈ ([] : List Str))) = ys := by
  refine List.filter_eq_self.mpr fun s _ => ?_
  simp
theorem p__law_in_order (L : Nat) (ds : List D) (M : Sto) (Q : D → Sto → Prop) (Xa) (hl : ds.length = 1) (h : A_order (L + 1) ds M Q Xa) : a__law_in_order (A_order L) ax0 (Done Q) (startA ["formula", "found", "part", "name"] ds) M := by
  obtain ⟨f, rfl, hL, hsz, q⟩ := h
  unfold a__law_in_order
  cases f with
  | lt s =>
    rw [Fm.d_lt]
    have q1 := fun p M' h1 h2 => q p M' h1 h2
    have e : (Fm.lt s).ord = [s] := by
      show addS [] s = [s]
      unfold addS
      rw [if_neg (fun z => nomatch z)]
      rfl
    rw [e] at q1
    clear q
    try (simp only [↓e_seq, ↓e_next, ↓e_break, ↓e_cont, ↓e_expr, ↓e_ret, ↓e_retN, ↓e_if, ↓e_never, ↓e_asg, ↓e_name, ↓e_agtup, ↓e_agcons, ↓e_agnil, ↓e_agsub, ↓e_aug, ↓e_dput, ↓e_var, ↓e_c, ↓e_op, ↓e_some, ↓e_none, ↓e_test, ↓e_and, ↓e_or, ↓e_not, ↓e_yes, ↓e_truth,   ↓e_tru_bl, ↓e_tru_int, ↓e_tru_non, ↓e_tru_str, ↓e_tru_tup, ↓e_tru_obj, ↓e_chain, ↓e_orV, ↓e_andV, ↓e_notV, ↓e_ifE, ↓e_neg, ↓e_nil, ↓e_cons, ↓e_tup, ↓e_lst, ↓e_dnew, ↓e_call, ↓e_cb, ↓e_isi, ↓e_sl, ↓e_onone, ↓e_osome, ↓e_rev, ↓e_lm, ↓e_append, ↓e_extend, ↓e_pop, ↓e_join, ↓e_dget2, ↓e_sortSet, ↓e_sortS, ↓e_setd, strsOf_map, ↓e_maxI, ↓e_disp, ↓e_pairN, ↓e_pairC, intsOf_map, ↓e_for, ↓e_ilist, ↓e_itup, ↓e_rng1, ↓e_rng2, ↓e_lc, ↓e_lc2, e_lc2N, ↓e_ienum, ↓e_izip, ↓e_anyB, ↓e_allB, ↓e_mulS, blsOf_map, ↓e_set0, ↓e_sadd, ↓e_sortTx, ↓e_sortD, ↓e_repr, ↓e_extT, ↓e_sc2, ↓e_sortZ, ↓e_tupVals, ↓e_wget, ↓e_wix, ↓e_listZip, zipD_nil, zipD_cons, ↓e_dgetF, ↓e_idif, ↓e_isB, ↓e_sortI, ↓e_sortSetI, ↓e_tailR, ↓e_divmod, ↓e_strI, ↓e_lenD, ↓e_fmt, ↓e_fs2,   ↓e_add_int, ↓e_add_str, ↓e_add_tup, ↓e_add_obj, ↓e_iadd_int, ↓e_iadd_str, ↓e_iadd_obj, ↓e_I, ↓e_I0, ↓e_IS_int, ↓e_IS_str, ↓e_eq_str, ↓e_ne_str, ↓e_eq_int, ↓e_ne_int, ↓e_eq_bl, ↓e_ne_bl, ↓e_isN, ↓e_notN, ↓e_ix_tup, ↓e_ix_fl, ↓e_ix_str, ↓e_ix_obj, ↓e_in_tup, ↓e_nin_tup, ↓e_len_tup, ↓e_len_fl, ↓e_len_str, ↓e_len_obj, ↓e_int_int, ↓e_tuple_tup, ↓e_tuple_obj, ↓e_list_tup, ↓e_list_obj, ↓e_dget, ↓e_din, ↓e_dnin, ↓e_lstAt, ↓e_dicAt,   e_key_int, e_key_str, e_up, e_ty_str, e_ty_tup, e_ty_int, e_ty_bl, e_ty_non, atI0, atI1, atI2, atI3, atIL, ixN0, ixN1, cut_from1, e_ite_or, e_ite_and, zln, znl, zli, zil, zni, zin, sizeLine_eq, CMul, CDiv, cpow1018, true_or, or_true, kb_strstr, kb_tupstr, kb_tuptup, kb_strtup, kb_inttup, kb_bltup, kb_nontup, kb_strbl, kb_strint, kb_intbl, kb_intint, kb_blbl, kb_blint, kb_nonbl, kb_nonint, kb_nonstr, kb_intstr, kb_blstr, kb_tupbl, kb_tupint,   List.set_cons_zero, List.set_cons_succ, List.set_nil, List.getElem?_cons_zero, List.getElem?_cons_succ, List.getElem?_nil, List.length_cons, List.length_nil, List.length_map, List.length_append, e_lcN, e_lcC, e_forN, e_forC, List.getLast?_concat, List.dropLast_concat, List.nil_append, List.cons_append, List.append_nil, List.append_assoc, List.reverse_cons, List.reverse_nil, List.isEmpty_nil, List.isEmpty_cons, isEmpty_snoc, List.any_cons, List.any_nil, List.all_cons, List.all_nil, flatD, eqF, in_non, in_tup, in_str, in_int, in_bl, in_obj, in_fl, startA, List.map_cons, List.map_nil, List.replicate_succ, List.replicate_zero,   Nat.reduceAdd, Nat.reduceSub, Nat.reduceLeDiff, Nat.zero_add, Int.reduceLE, Int.reduceLT, Int.reduceToNat, Int.reducePow, Int.reduceNeg, Int.reduceAdd, Int.reduceSub,   Option.isSome_some, Option.isSome_none, Bool.not_true, Bool.not_false, Bool.not_eq_true', Bool.not_eq_eq_eq_not, Bool.not_eq_true, Bool.false_eq_true, Bool.true_eq_false, Bool.and_true, Bool.true_and, Bool.or_false, Bool.false_or, Bool.or_true, Bool.true_or, Bool.and_false, Bool.false_and, if_true, if_false, ite_true, ite_false, reduceIte, reduceCtorEq, decide_true, decide_false, decide_eq_true_eq, decide_eq_false_iff_not, true_and, and_true, eq_self, ne_eq, not_false_eq_true, not_true_eq_false, and_self, *])
    intro p np
    exact q1 p _ np (Ext.new np) up_same
  | ng a =>
    have z : (Fm.ng a).sz = a.sz + 1 := rfl
    have ea : (Fm.ng a).ord = a.ord := rfl
    have hol := a.ord_len
    rw [ea] at q
    rw [Fm.d_ng]
    try (simp only [↓e_seq, ↓e_next, ↓e_break, ↓e_cont, ↓e_expr, ↓e_ret, ↓e_retN, ↓e_if, ↓e_never, ↓e_asg, ↓e_name, ↓e_agtup, ↓e_agcons, ↓e_agnil, ↓e_agsub, ↓e_aug, ↓e_dput, ↓e_var, ↓e_c, ↓e_op, ↓e_some, ↓e_none, ↓e_test, ↓e_and, ↓e_or, ↓e_not, ↓e_yes, ↓e_truth,   ↓e_tru_bl, ↓e_tru_int, ↓e_tru_non, ↓e_tru_str, ↓e_tru_tup, ↓e_tru_obj, ↓e_chain, ↓e_orV, ↓e_andV, ↓e_notV, ↓e_ifE, ↓e_neg, ↓e_nil, ↓e_cons, ↓e_tup, ↓e_lst, ↓e_dnew, ↓e_call, ↓e_cb, ↓e_isi, ↓e_sl, ↓e_onone, ↓e_osome, ↓e_rev, ↓e_lm, ↓e_append, ↓e_extend, ↓e_pop, ↓e_join, ↓e_dget2, ↓e_sortSet, ↓e_sortS, ↓e_setd, strsOf_map, ↓e_maxI, ↓e_disp, ↓e_pairN, ↓e_pairC, intsOf_map, ↓e_for, ↓e_ilist, ↓e_itup, ↓e_rng1, ↓e_rng2, ↓e_lc, ↓e_lc2, e_lc2N, ↓e_ienum, ↓e_izip, ↓e_anyB, ↓e_allB, ↓e_mulS, blsOf_map, ↓e_set0, ↓e_sadd, ↓e_sortTx, ↓e_sortD, ↓e_repr, ↓e_extT, ↓e_sc2, ↓e_sortZ, ↓e_tupVals, ↓e_wget, ↓e_wix, ↓e_listZip, zipD_nil, zipD_cons, ↓e_dgetF, ↓e_idif, ↓e_isB, ↓e_sortI, ↓e_sortSetI, ↓e_tailR, ↓e_divmod, ↓e_strI, ↓e_lenD, ↓e_fmt, ↓e_fs2,   ↓e_add_int, ↓e_add_str, ↓e_add_tup, ↓e_add_obj, ↓e_iadd_int, ↓e_iadd_str, ↓e_iadd_obj, ↓e_I, ↓e_I0, ↓e_IS_int, ↓e_IS_str, ↓e_eq_str, ↓e_ne_str, ↓e_eq_int, ↓e_ne_int, ↓e_eq_bl, ↓e_ne_bl, ↓e_isN, ↓e_notN, ↓e_ix_tup, ↓e_ix_fl, ↓e_ix_str, ↓e_ix_obj, ↓e_in_tup, ↓e_nin_tup, ↓e_len_tup, ↓e_len_fl, ↓e_len_str, ↓e_len_obj, ↓e_int_int, ↓e_tuple_tup, ↓e_tuple_obj, ↓e_list_tup, ↓e_list_obj, ↓e_dget, ↓e_din, ↓e_dnin, ↓e_lstAt, ↓e_dicAt,   e_key_int, e_key_str, e_up, e_ty_str, e_ty_tup, e_ty_int, e_ty_bl, e_ty_non, atI0, atI1, atI2, atI3, atIL, ixN0, ixN1, cut_from1, e_ite_or, e_ite_and, zln, znl, zli, zil, zni, zin, sizeLine_eq, CMul, CDiv, cpow1018, true_or, or_true, kb_strstr, kb_tupstr, kb_tuptup, kb_strtup, kb_inttup, kb_bltup, kb_nontup, kb_strbl, kb_strint, kb_intbl, kb_intint, kb_blbl, kb_blint, kb_nonbl, kb_nonint, kb_nonstr, kb_intstr, kb_blstr, kb_tupbl, kb_tupint,   List.set_cons_zero, List.set_cons_succ, List.set_nil, List.getElem?_cons_zero, List.getElem?_cons_succ, List.getElem?_nil, List.length_cons, List.length_nil, List.length_map, List.length_append, e_lcN, e_lcC, e_forN, e_forC, List.getLast?_concat, List.dropLast_concat, List.nil_append, List.cons_append, List.append_nil, List.append_assoc, List.reverse_cons, List.reverse_nil, List.isEmpty_nil, List.isEmpty_cons, isEmpty_snoc, List.any_cons, List.any_nil, List.all_cons, List.all_nil, flatD, eqF, in_non, in_tup, in_str, in_int, in_bl, in_obj, in_fl, startA, List.map_cons, List.map_nil, List.replicate_succ, List.replicate_zero,   Nat.reduceAdd, Nat.reduceSub, Nat.reduceLeDiff, Nat.zero_add, Int.reduceLE, Int.reduceLT, Int.reduceToNat, Int.reducePow, Int.reduceNeg, Int.reduceAdd, Int.reduceSub,   Option.isSome_some, Option.isSome_none, Bool.not_true, Bool.not_false, Bool.not_eq_true', Bool.not_eq_eq_eq_not, Bool.not_eq_true, Bool.false_eq_true, Bool.true_eq_false, Bool.and_true, Bool.true_and, Bool.or_false, Bool.false_or, Bool.or_true, Bool.true_or, Bool.and_false, Bool.false_and, if_true, if_false, ite_true, ite_false, reduceIte, reduceCtorEq, decide_true, decide_false, decide_eq_true_eq, decide_eq_false_iff_not, true_and, and_true, eq_self, ne_eq, not_false_eq_true, not_true_eq_false, and_self, *])
    intro p np
    have e1 := Ext.new (mo := .lst []) np
    have hp : up M p (.lst []) p = some (.lst (([] : List Str).map D.str)) := up_same
    generalize up M p (.lst []) = M1 at *
    try (simp only [↓e_seq, ↓e_next, ↓e_break, ↓e_cont, ↓e_expr, ↓e_ret, ↓e_retN, ↓e_if, ↓e_never, ↓e_asg, ↓e_name, ↓e_agtup, ↓e_agcons, ↓e_agnil, ↓e_agsub, ↓e_aug, ↓e_dput, ↓e_var, ↓e_c, ↓e_op, ↓e_some, ↓e_none, ↓e_test, ↓e_and, ↓e_or, ↓e_not, ↓e_yes, ↓e_truth,   ↓e_tru_bl, ↓e_tru_int, ↓e_tru_non, ↓e_tru_str, ↓e_tru_tup, ↓e_tru_obj, ↓e_chain, ↓e_orV, ↓e_andV, ↓e_notV, ↓e_ifE, ↓e_neg, ↓e_nil, ↓e_cons, ↓e_tup, ↓e_lst, ↓e_dnew, ↓e_call, ↓e_cb, ↓e_isi, ↓e_sl, ↓e_onone, ↓e_osome, ↓e_rev, ↓e_lm, ↓e_append, ↓e_extend, ↓e_pop, ↓e_join, ↓e_dget2, ↓e_sortSet, ↓e_sortS, ↓e_setd, strsOf_map, ↓e_maxI, ↓e_disp, ↓e_pairN, ↓e_pairC, intsOf_map, ↓e_for, ↓e_ilist, ↓e_itup, ↓e_rng1, ↓e_rng2, ↓e_lc, ↓e_lc2, e_lc2N, ↓e_ienum, ↓e_izip, ↓e_anyB, ↓e_allB, ↓e_mulS, blsOf_map, ↓e_set0, ↓e_sadd, ↓e_sortTx, ↓e_sortD, ↓e_repr, ↓e_extT, ↓e_sc2, ↓e_sortZ, ↓e_tupVals, ↓e_wget, ↓e_wix, ↓e_listZip, zipD_nil, zipD_cons, ↓e_dgetF, ↓e_idif, ↓e_isB, ↓e_sortI, ↓e_sortSetI, ↓e_tailR, ↓e_divmod, ↓e_strI, ↓e_lenD, ↓e_fmt, ↓e_fs2,   ↓e_add_int, ↓e_add_str, ↓e_add_tup, ↓e_add_obj, ↓e_iadd_int, ↓e_iadd_str, ↓e_iadd_obj, ↓e_I, ↓e_I0, ↓e_IS_int, ↓e_IS_str, ↓e_eq_str, ↓e_ne_str, ↓e_eq_int, ↓e_ne_int, ↓e_eq_bl, ↓e_ne_bl, ↓e_isN, ↓e_notN, ↓e_ix_tup, ↓e_ix_fl, ↓e_ix_str, ↓e_ix_obj, ↓e_in_tup, ↓e_nin_tup, ↓e_len_tup, ↓e_len_fl, ↓e_len_str, ↓e_len_obj, ↓e_int_int, ↓e_tuple_tup, ↓e_tuple_obj, ↓e_list_tup, ↓e_list_obj, ↓e_dget, ↓e_din, ↓e_dnin, ↓e_lstAt, ↓e_dicAt,   e_key_int, e_key_str, e_up, e_ty_str, e_ty_tup, e_ty_int, e_ty_bl, e_ty_non, atI0, atI1, atI2, atI3, atIL, ixN0, ixN1, cut_from1, e_ite_or, e_ite_and, zln, znl, zli, zil, zni, zin, sizeLine_eq, CMul, CDiv, cpow1018, true_or, or_true, kb_strstr, kb_tupstr, kb_tuptup, kb_strtup, kb_inttup, kb_bltup, kb_nontup, kb_strbl, kb_strint, kb_intbl, kb_intint, kb_blbl, kb_blint, kb_nonbl, kb_nonint, kb_nonstr, kb_intstr, kb_blstr, kb_tupbl, kb_tupint,   List.set_cons_zero, List.set_cons_succ, List.set_nil, List.getElem?_cons_zero, List.getElem?_cons_succ, List.getElem?_nil, List.length_cons, List.length_nil, List.length_map, List.length_append, e_lcN, e_lcC, e_forN, e_forC, List.getLast?_concat, List.dropLast_concat, List.nil_append, List.cons_append, List.append_nil, List.append_assoc, List.reverse_cons, List.reverse_nil, List.isEmpty_nil, List.isEmpty_cons, isEmpty_snoc, List.any_cons, List.any_nil, List.all_cons, List.all_nil, flatD, eqF, in_non, in_tup, in_str, in_int, in_bl, in_obj, in_fl, startA, List.map_cons, List.map_nil, List.replicate_succ, List.replicate_zero,   Nat.reduceAdd, Nat.reduceSub, Nat.reduceLeDiff, Nat.zero_add, Int.reduceLE, Int.reduceLT, Int.reduceToNat, Int.reducePow, Int.reduceNeg, Int.reduceAdd, Int.reduceSub,   Option.isSome_some, Option.isSome_none, Bool.not_true, Bool.not_false, Bool.not_eq_true', Bool.not_eq_eq_eq_not, Bool.not_eq_true, Bool.false_eq_true, Bool.true_eq_false, Bool.and_true, Bool.true_and, Bool.or_false, Bool.false_or, Bool.or_true, Bool.true_or, Bool.and_false, Bool.false_and, if_true, if_false, ite_true, ite_false, reduceIte, reduceCtorEq, decide_true, decide_false, decide_eq_true_eq, decide_eq_false_iff_not, true_and, and_true, eq_self, ne_eq, not_false_eq_true, not_true_eq_false, and_self, *])
    refine ⟨rfl, a, rfl, by omega, by omega, fun r M2 nr e2 hr => ?_⟩
    have hp2 := e2 _ _ hp
    try (simp only [↓e_seq, ↓e_next, ↓e_break, ↓e_cont, ↓e_expr, ↓e_ret, ↓e_retN, ↓e_if, ↓e_never, ↓e_asg, ↓e_name, ↓e_agtup, ↓e_agcons, ↓e_agnil, ↓e_agsub, ↓e_aug, ↓e_dput, ↓e_var, ↓e_c, ↓e_op, ↓e_some, ↓e_none, ↓e_test, ↓e_and, ↓e_or, ↓e_not, ↓e_yes, ↓e_truth,   ↓e_tru_bl, ↓e_tru_int, ↓e_tru_non, ↓e_tru_str, ↓e_tru_tup, ↓e_tru_obj, ↓e_chain, ↓e_orV, ↓e_andV, ↓e_notV, ↓e_ifE, ↓e_neg, ↓e_nil, ↓e_cons, ↓e_tup, ↓e_lst, ↓e_dnew, ↓e_call, ↓e_cb, ↓e_isi, ↓e_sl, ↓e_onone, ↓e_osome, ↓e_rev, ↓e_lm, ↓e_append, ↓e_extend, ↓e_pop, ↓e_join, ↓e_dget2, ↓e_sortSet, ↓e_sortS, ↓e_setd, strsOf_map, ↓e_maxI, ↓e_disp, ↓e_pairN, ↓e_pairC, intsOf_map, ↓e_for, ↓e_ilist, ↓e_itup, ↓e_rng1, ↓e_rng2, ↓e_lc, ↓e_lc2, e_lc2N, ↓e_ienum, ↓e_izip, ↓e_anyB, ↓e_allB, ↓e_mulS, blsOf_map, ↓e_set0, ↓e_sadd, ↓e_sortTx, ↓e_sortD, ↓e_repr, ↓e_extT, ↓e_sc2, ↓e_sortZ, ↓e_tupVals, ↓e_wget, ↓e_wix, ↓e_listZip, zipD_nil, zipD_cons, ↓e_dgetF, ↓e_idif, ↓e_isB, ↓e_sortI, ↓e_sortSetI, ↓e_tailR, ↓e_divmod, ↓e_strI, ↓e_lenD, ↓e_fmt, ↓e_fs2,   ↓e_add_int, ↓e_add_str, ↓e_add_tup, ↓e_add_obj, ↓e_iadd_int, ↓e_iadd_str, ↓e_iadd_obj, ↓e_I, ↓e_I0, ↓e_IS_int, ↓e_IS_str, ↓e_eq_str, ↓e_ne_str, ↓e_eq_int, ↓e_ne_int, ↓e_eq_bl, ↓e_ne_bl, ↓e_isN, ↓e_notN, ↓e_ix_tup, ↓e_ix_fl, ↓e_ix_str, ↓e_ix_obj, ↓e_in_tup, ↓e_nin_tup, ↓e_len_tup, ↓e_len_fl, ↓e_len_str, ↓e_len_obj, ↓e_int_int, ↓e_tuple_tup, ↓e_tuple_obj, ↓e_list_tup, ↓e_list_obj, ↓e_dget, ↓e_din, ↓e_dnin, ↓e_lstAt, ↓e_dicAt,   e_key_int, e_key_str, e_up, e_ty_str, e_ty_tup, e_ty_int, e_ty_bl, e_ty_non, atI0, atI1, atI2, atI3, atIL, ixN0, ixN1, cut_from1, e_ite_or, e_ite_and, zln, znl, zli, zil, zni, zin, sizeLine_eq, CMul, CDiv, cpow1018, true_or, or_true, kb_strstr, kb_tupstr, kb_tuptup, kb_strtup, kb_inttup, kb_bltup, kb_nontup, kb_strbl, kb_strint, kb_intbl, kb_intint, kb_blbl, kb_blint, kb_nonbl, kb_nonint, kb_nonstr, kb_intstr, kb_blstr, kb_tupbl, kb_tupint,   List.set_cons_zero, List.set_cons_succ, List.set_nil, List.getElem?_cons_zero, List.getElem?_cons_succ, List.getElem?_nil, List.length_cons, List.length_nil, List.length_map, List.length_append, e_lcN, e_lcC, e_forN, e_forC, List.getLast?_concat, List.dropLast_concat, List.nil_append, List.cons_append, List.append_nil, List.append_assoc, List.reverse_cons, List.reverse_nil, List.isEmpty_nil, List.isEmpty_cons, isEmpty_snoc, List.any_cons, List.any_nil, List.all_cons, List.all_nil, flatD, eqF, in_non, in_tup, in_str, in_int, in_bl, in_obj, in_fl, startA, List.map_cons, List.map_nil, List.replicate_succ, List.replicate_zero,   Nat.reduceAdd, Nat.reduceSub, Nat.reduceLeDiff, Nat.zero_add, Int.reduceLE, Int.reduceLT, Int.reduceToNat, Int.reducePow, Int.reduceNeg, Int.reduceAdd, Int.reduceSub,   Option.isSome_some, Option.isSome_none, Bool.not_true, Bool.not_false, Bool.not_eq_true', Bool.not_eq_eq_eq_not, Bool.not_eq_true, Bool.false_eq_true, Bool.true_eq_false, Bool.and_true, Bool.true_and, Bool.or_false, Bool.false_or, Bool.or_true, Bool.true_or, Bool.and_false, Bool.false_and, if_true, if_false, ite_true, ite_false, reduceIte, reduceCtorEq, decide_true, decide_false, decide_eq_true_eq, decide_eq_false_iff_not, true_and, and_true, eq_self, ne_eq, not_false_eq_true, not_true_eq_false, and_self, *])
    refine ⟨by omega, ?_⟩
    refine order_lc hp2 hr ?_
    rw [filter_all]
    intro x nx
    have nxp := fresh_ne nx hp2
    have e3 := Ext.new (mo := .lst (a.ord.map D.str)) nx
    have hp3 := e3 _ _ hp2
    have hx : up M2 x (.lst (a.ord.map D.str)) x = some (.lst (a.ord.map D.str)) := up_same
    generalize up M2 x (.lst (a.ord.map D.str)) = M3 at *
    try (simp only [↓e_seq, ↓e_next, ↓e_break, ↓e_cont, ↓e_expr, ↓e_ret, ↓e_retN, ↓e_if, ↓e_never, ↓e_asg, ↓e_name, ↓e_agtup, ↓e_agcons, ↓e_agnil, ↓e_agsub, ↓e_aug, ↓e_dput, ↓e_var, ↓e_c, ↓e_op, ↓e_some, ↓e_none, ↓e_test, ↓e_and, ↓e_or, ↓e_not, ↓e_yes, ↓e_truth,   ↓e_tru_bl, ↓e_tru_int, ↓e_tru_non, ↓e_tru_str, ↓e_tru_tup, ↓e_tru_obj, ↓e_chain, ↓e_orV, ↓e_andV, ↓e_notV, ↓e_ifE, ↓e_neg, ↓e_nil, ↓e_cons, ↓e_tup, ↓e_lst, ↓e_dnew, ↓e_call, ↓e_cb, ↓e_isi, ↓e_sl, ↓e_onone, ↓e_osome, ↓e_rev, ↓e_lm, ↓e_append, ↓e_extend, ↓e_pop, ↓e_join, ↓e_dget2, ↓e_sortSet, ↓e_sortS, ↓e_setd, strsOf_map, ↓e_maxI, ↓e_disp, ↓e_pairN, ↓e_pairC, intsOf_map, ↓e_for, ↓e_ilist, ↓e_itup, ↓e_rng1, ↓e_rng2, ↓e_lc, ↓e_lc2, e_lc2N, ↓e_ienum, ↓e_izip, ↓e_anyB, ↓e_allB, ↓e_mulS, blsOf_map, ↓e_set0, ↓e_sadd, ↓e_sortTx, ↓e_sortD, ↓e_repr, ↓e_extT, ↓e_sc2, ↓e_sortZ, ↓e_tupVals, ↓e_wget, ↓e_wix, ↓e_listZip, zipD_nil, zipD_cons, ↓e_dgetF, ↓e_idif, ↓e_isB, ↓e_sortI, ↓e_sortSetI, ↓e_tailR, ↓e_divmod, ↓e_strI, ↓e_lenD, ↓e_fmt, ↓e_fs2,   ↓e_add_int, ↓e_add_str, ↓e_add_tup, ↓e_add_obj, ↓e_iadd_int, ↓e_iadd_str, ↓e_iadd_obj, ↓e_I, ↓e_I0, ↓e_IS_int, ↓e_IS_str, ↓e_eq_str, ↓e_ne_str, ↓e_eq_int, ↓e_ne_int, ↓e_eq_bl, ↓e_ne_bl, ↓e_isN, ↓e_notN, ↓e_ix_tup, ↓e_ix_fl, ↓e_ix_str, ↓e_ix_obj, ↓e_in_tup, ↓e_nin_tup, ↓e_len_tup, ↓e_len_fl, ↓e_len_str, ↓e_len_obj, ↓e_int_int, ↓e_tuple_tup, ↓e_tuple_obj, ↓e_list_tup, ↓e_list_obj, ↓e_dget, ↓e_din, ↓e_dnin, ↓e_lstAt, ↓e_dicAt,   e_key_int, e_key_str, e_up, e_ty_str, e_ty_tup, e_ty_int, e_ty_bl, e_ty_non, atI0, atI1, atI2, atI3, atIL, ixN0, ixN1, cut_from1, e_ite_or, e_ite_and, zln, znl, zli, zil, zni, zin, sizeLine_eq, CMul, CDiv, cpow1018, true_or, or_true, kb_strstr, kb_tupstr, kb_tuptup, kb_strtup, kb_inttup, kb_bltup, kb_nontup, kb_strbl, kb_strint, kb_intbl, kb_intint, kb_blbl, kb_blint, kb_nonbl, kb_nonint, kb_nonstr, kb_intstr, kb_blstr, kb_tupbl, kb_tupint,   List.set_cons_zero, List.set_cons_succ, List.set_nil, List.getElem?_cons_zero, List.getElem?_cons_succ, List.getElem?_nil, List.length_cons, List.length_nil, List.length_map, List.length_append, e_lcN, e_lcC, e_forN, e_forC, List.getLast?_concat, List.dropLast_concat, List.nil_append, List.cons_append, List.append_nil, List.append_assoc, List.reverse_cons, List.reverse_nil, List.isEmpty_nil, List.isEmpty_cons, isEmpty_snoc, List.any_cons, List.any_nil, List.all_cons, List.all_nil, flatD, eqF, in_non, in_tup, in_str, in_int, in_bl, in_obj, in_fl, startA, List.map_cons, List.map_nil, List.replicate_succ, List.replicate_zero,   Nat.reduceAdd, Nat.reduceSub, Nat.reduceLeDiff, Nat.zero_add, Int.reduceLE, Int.reduceLT, Int.reduceToNat, Int.reducePow, Int.reduceNeg, Int.reduceAdd, Int.reduceSub,   Option.isSome_some, Option.isSome_none, Bool.not_true, Bool.not_false, Bool.not_eq_true', Bool.not_eq_eq_eq_not, Bool.not_eq_true, Bool.false_eq_true, Bool.true_eq_false, Bool.and_true, Bool.true_and, Bool.or_false, Bool.false_or, Bool.or_true, Bool.true_or, Bool.and_false, Bool.false_and, if_true, if_false, ite_true, ite_false, reduceIte, reduceCtorEq, decide_true, decide_false, decide_eq_true_eq, decide_eq_false_iff_not, true_and, and_true, eq_self, ne_eq, not_false_eq_true, not_true_eq_false, and_self, *])
    refine ⟨by omega, ?_⟩
    intro y ny
    have e4 := Ext.new (mo := .lst (a.ord.map D.str)) ny
    have hy : up M3 y (.lst (a.ord.map D.str)) y = some (.lst (a.ord.map D.str)) := up_same
    generalize up M3 y (.lst (a.ord.map D.str)) = M4 at *
    have n0 : M y = none := (((e1.trans e2).trans e3)).none ny
    have q1 := q y M4 n0 (((e1.trans e2).trans e3).trans e4) hy
    try (simp only [↓e_seq, ↓e_next, ↓e_break, ↓e_cont, ↓e_expr, ↓e_ret, ↓e_retN, ↓e_if, ↓e_never, ↓e_asg, ↓e_name, ↓e_agtup, ↓e_agcons, ↓e_agnil, ↓e_agsub, ↓e_aug, ↓e_dput, ↓e_var, ↓e_c, ↓e_op, ↓e_some, ↓e_none, ↓e_test, ↓e_and, ↓e_or, ↓e_not, ↓e_yes, ↓e_truth,   ↓e_tru_bl, ↓e_tru_int, ↓e_tru_non, ↓e_tru_str, ↓e_tru_tup, ↓e_tru_obj, ↓e_chain, ↓e_orV, ↓e_andV, ↓e_notV, ↓e_ifE, ↓e_neg, ↓e_nil, ↓e_cons, ↓e_tup, ↓e_lst, ↓e_dnew, ↓e_call, ↓e_cb, ↓e_isi, ↓e_sl, ↓e_onone, ↓e_osome, ↓e_rev, ↓e_lm, ↓e_append, ↓e_extend, ↓e_pop, ↓e_join, ↓e_dget2, ↓e_sortSet, ↓e_sortS, ↓e_setd, strsOf_map, ↓e_maxI, ↓e_disp, ↓e_pairN, ↓e_pairC, intsOf_map, ↓e_for, ↓e_ilist, ↓e_itup, ↓e_rng1, ↓e_rng2, ↓e_lc, ↓e_lc2, e_lc2N, ↓e_ienum, ↓e_izip, ↓e_anyB, ↓e_allB, ↓e_mulS, blsOf_map, ↓e_set0, ↓e_sadd, ↓e_sortTx, ↓e_sortD, ↓e_repr, ↓e_extT, ↓e_sc2, ↓e_sortZ, ↓e_tupVals, ↓e_wget, ↓e_wix, ↓e_listZip, zipD_nil, zipD_cons, ↓e_dgetF, ↓e_idif, ↓e_isB, ↓e_sortI, ↓e_sortSetI, ↓e_tailR, ↓e_divmod, ↓e_strI, ↓e_lenD, ↓e_fmt, ↓e_fs2,   ↓e_add_int, ↓e_add_str, ↓e_add_tup, ↓e_add_obj, ↓e_iadd_int, ↓e_iadd_str, ↓e_iadd_obj, ↓e_I, ↓e_I0, ↓e_IS_int, ↓e_IS_str, ↓e_eq_str, ↓e_ne_str, ↓e_eq_int, ↓e_ne_int, ↓e_eq_bl, ↓e_ne_bl, ↓e_isN, ↓e_notN, ↓e_ix_tup, ↓e_ix_fl, ↓e_ix_str, ↓e_ix_obj, ↓e_in_tup, ↓e_nin_tup, ↓e_len_tup, ↓e_len_fl, ↓e_len_str, ↓e_len_obj, ↓e_int_int, ↓e_tuple_tup, ↓e_tuple_obj, ↓e_list_tup, ↓e_list_obj, ↓e_dget, ↓e_din, ↓e_dnin, ↓e_lstAt, ↓e_dicAt,   e_key_int, e_key_str, e_up, e_ty_str, e_ty_tup, e_ty_int, e_ty_bl, e_ty_non, atI0, atI1, atI2, atI3, atIL, ixN0, ixN1, cut_from1, e_ite_or, e_ite_and, zln, znl, zli, zil, zni, zin, sizeLine_eq, CMul, CDiv, cpow1018, true_or, or_true, kb_strstr, kb_tupstr, kb_tuptup, kb_strtup, kb_inttup, kb_bltup, kb_nontup, kb_strbl, kb_strint, kb_intbl, kb_intint, kb_blbl, kb_blint, kb_nonbl, kb_nonint, kb_nonstr, kb_intstr, kb_blstr, kb_tupbl, kb_tupint,   List.set_cons_zero, List.set_cons_succ, List.set_nil, List.getElem?_cons_zero, List.getElem?_cons_succ, List.getElem?_nil, List.length_cons, List.length_nil, List.length_map, List.length_append, e_lcN, e_lcC, e_forN, e_forC, List.getLast?_concat, List.dropLast_concat, List.nil_append, List.cons_append, List.append_nil, List.append_assoc, List.reverse_cons, List.reverse_nil, List.isEmpty_nil, List.isEmpty_cons, isEmpty_snoc, List.any_cons, List.any_nil, List.all_cons, List.all_nil, flatD, eqF, in_non, in_tup, in_str, in_int, in_bl, in_obj, in_fl, startA, List.map_cons, List.map_nil, List.replicate_succ, List.replicate_zero,   Nat.reduceAdd, Nat.reduceSub, Nat.reduceLeDiff, Nat.zero_add, Int.reduceLE, Int.reduceLT, Int.reduceToNat, Int.reducePow, Int.reduceNeg, Int.reduceAdd, Int.reduceSub,   Option.isSome_some, Option.isSome_none, Bool.not_true, Bool.not_false, Bool.not_eq_true', Bool.not_eq_eq_eq_not, Bool.not_eq_true, Bool.false_eq_true, Bool.true_eq_false, Bool.and_true, Bool.true_and, Bool.or_false, Bool.false_or, Bool.or_true, Bool.true_or, Bool.and_false, Bool.false_and, if_true, if_false, ite_true, ite_false, reduceIte, reduceCtorEq, decide_true, decide_false, decide_eq_true_eq, decide_eq_false_iff_not, true_and, and_true, eq_self, ne_eq, not_false_eq_true, not_true_eq_false, and_self, *])
  | im a b =>
    have z : (Fm.im a b).sz = a.sz + b.sz + 1 := rfl
    have ea := Fm.ord_im a b
    have hol := a.ord_len
    have hob := b.ord_len
    have hfl := List.length_filter_le (fun s => !decide (s ∈ a.ord)) b.ord
    rw [ea, List.map_append] at q
    rw [Fm.d_im]
    try (simp only [↓e_seq, ↓e_next, ↓e_break, ↓e_cont, ↓e_expr, ↓e_ret, ↓e_retN, ↓e_if, ↓e_never, ↓e_asg, ↓e_name, ↓e_agtup, ↓e_agcons, ↓e_agnil, ↓e_agsub, ↓e_aug, ↓e_dput, ↓e_var, ↓e_c, ↓e_op, ↓e_some, ↓e_none, ↓e_test, ↓e_and, ↓e_or, ↓e_not, ↓e_yes, ↓e_truth,   ↓e_tru_bl, ↓e_tru_int, ↓e_tru_non, ↓e_tru_str, ↓e_tru_tup, ↓e_tru_obj, ↓e_chain, ↓e_orV, ↓e_andV, ↓e_notV, ↓e_ifE, ↓e_neg, ↓e_nil, ↓e_cons, ↓e_tup, ↓e_lst, ↓e_dnew, ↓e_call, ↓e_cb, ↓e_isi, ↓e_sl, ↓e_onone, ↓e_osome, ↓e_rev, ↓e_lm, ↓e_append, ↓e_extend, ↓e_pop, ↓e_join, ↓e_dget2, ↓e_sortSet, ↓e_sortS, ↓e_setd, strsOf_map, ↓e_maxI, ↓e_disp, ↓e_pairN, ↓e_pairC, intsOf_map, ↓e_for, ↓e_ilist, ↓e_itup, ↓e_rng1, ↓e_rng2, ↓e_lc, ↓e_lc2, e_lc2N, ↓e_ienum, ↓e_izip, ↓e_anyB, ↓e_allB, ↓e_mulS, blsOf_map, ↓e_set0, ↓e_sadd, ↓e_sortTx, ↓e_sortD, ↓e_repr, ↓e_extT, ↓e_sc2, ↓e_sortZ, ↓e_tupVals, ↓e_wget, ↓e_wix, ↓e_listZip, zipD_nil, zipD_cons, ↓e_dgetF, ↓e_idif, ↓e_isB, ↓e_sortI, ↓e_sortSetI, ↓e_tailR, ↓e_divmod, ↓e_strI, ↓e_lenD, ↓e_fmt, ↓e_fs2,   ↓e_add_int, ↓e_add_str, ↓e_add_tup, ↓e_add_obj, ↓e_iadd_int, ↓e_iadd_str, ↓e_iadd_obj, ↓e_I, ↓e_I0, ↓e_IS_int, ↓e_IS_str, ↓e_eq_str, ↓e_ne_str, ↓e_eq_int, ↓e_ne_int, ↓e_eq_bl, ↓e_ne_bl, ↓e_isN, ↓e_notN, ↓e_ix_tup, ↓e_ix_fl, ↓e_ix_str, ↓e_ix_obj, ↓e_in_tup, ↓e_nin_tup, ↓e_len_tup, ↓e_len_fl, ↓e_len_str, ↓e_len_obj, ↓e_int_int, ↓e_tuple_tup, ↓e_tuple_obj, ↓e_list_tup, ↓e_list_obj, ↓e_dget, ↓e_din, ↓e_dnin, ↓e_lstAt, ↓e_dicAt,   e_key_int, e_key_str, e_up, e_ty_str, e_ty_tup, e_ty_int, e_ty_bl, e_ty_non, atI0, atI1, atI2, atI3, atIL, ixN0, ixN1, cut_from1, e_ite_or, e_ite_and, zln, znl, zli, zil, zni, zin, sizeLine_eq, CMul, CDiv, cpow1018, true_or, or_true, kb_strstr, kb_tupstr, kb_tuptup, kb_strtup, kb_inttup, kb_bltup, kb_nontup, kb_strbl, kb_strint, kb_intbl, kb_intint, kb_blbl, kb_blint, kb_nonbl, kb_nonint, kb_nonstr, kb_intstr, kb_blstr, kb_tupbl, kb_tupint,   List.set_cons_zero, List.set_cons_succ, List.set_nil, List.getElem?_cons_zero, List.getElem?_cons_succ, List.getElem?_nil, List.length_cons, List.length_nil, List.length_map, List.length_append, e_lcN, e_lcC, e_forN, e_forC, List.getLast?_concat, List.dropLast_concat, List.nil_append, List.cons_append, List.append_nil, List.append_assoc, List.reverse_cons, List.reverse_nil, List.isEmpty_nil, List.isEmpty_cons, isEmpty_snoc, List.any_cons, List.any_nil, List.all_cons, List.all_nil, flatD, eqF, in_non, in_tup, in_str, in_int, in_bl, in_obj, in_fl, startA, List.map_cons, List.map_nil, List.replicate_succ, List.replicate_zero,   Nat.reduceAdd, Nat.reduceSub, Nat.reduceLeDiff, Nat.zero_add, Int.reduceLE, Int.reduceLT, Int.reduceToNat, Int.reducePow, Int.reduceNeg, Int.reduceAdd, Int.reduceSub,   Option.isSome_some, Option.isSome_none, Bool.not_true, Bool.not_false, Bool.not_eq_true', Bool.not_eq_eq_eq_not, Bool.not_eq_true, Bool.false_eq_true, Bool.true_eq_false, Bool.and_true, Bool.true_and, Bool.or_false, Bool.false_or, Bool.or_true, Bool.true_or, Bool.and_false, Bool.false_and, if_true, if_false, ite_true, ite_false, reduceIte, reduceCtorEq, decide_true, decide_false, decide_eq_true_eq, decide_eq_false_iff_not, true_and, and_true, eq_self, ne_eq, not_false_eq_true, not_true_eq_false, and_self, *])
    intro p np
    have e1 := Ext.new (mo := .lst []) np
    have hp : up M p (.lst []) p = some (.lst (([] : List Str).map D.str)) := up_same
    generalize up M p (.lst []) = M1 at *
    try (simp only [↓e_seq, ↓e_next, ↓e_break, ↓e_cont, ↓e_expr, ↓e_ret, ↓e_retN, ↓e_if, ↓e_never, ↓e_asg, ↓e_name, ↓e_agtup, ↓e_agcons, ↓e_agnil, ↓e_agsub, ↓e_aug, ↓e_dput, ↓e_var, ↓e_c, ↓e_op, ↓e_some, ↓e_none, ↓e_test, ↓e_and, ↓e_or, ↓e_not, ↓e_yes, ↓e_truth,   ↓e_tru_bl, ↓e_tru_int, ↓e_tru_non, ↓e_tru_str, ↓e_tru_tup, ↓e_tru_obj, ↓e_chain, ↓e_orV, ↓e_andV, ↓e_notV, ↓e_ifE, ↓e_neg, ↓e_nil, ↓e_cons, ↓e_tup, ↓e_lst, ↓e_dnew, ↓e_call, ↓e_cb, ↓e_isi, ↓e_sl, ↓e_onone, ↓e_osome, ↓e_rev, ↓e_lm, ↓e_append, ↓e_extend, ↓e_pop, ↓e_join, ↓e_dget2, ↓e_sortSet, ↓e_sortS, ↓e_setd, strsOf_map, ↓e_maxI, ↓e_disp, ↓e_pairN, ↓e_pairC, intsOf_map, ↓e_for, ↓e_ilist, ↓e_itup, ↓e_rng1, ↓e_rng2, ↓e_lc, ↓e_lc2, e_lc2N, ↓e_ienum, ↓e_izip, ↓e_anyB, ↓e_allB, ↓e_mulS, blsOf_map, ↓e_set0, ↓e_sadd, ↓e_sortTx, ↓e_sortD, ↓e_repr, ↓e_extT, ↓e_sc2, ↓e_sortZ, ↓e_tupVals, ↓e_wget, ↓e_wix, ↓e_listZip, zipD_nil, zipD_cons, ↓e_dgetF, ↓e_idif, ↓e_isB, ↓e_sortI, ↓e_sortSetI, ↓e_tailR, ↓e_divmod, ↓e_strI, ↓e_lenD, ↓e_fmt, ↓e_fs2,   ↓e_add_int, ↓e_add_str, ↓e_add_tup, ↓e_add_obj, ↓e_iadd_int, ↓e_iadd_str, ↓e_iadd_obj, ↓e_I, ↓e_I0, ↓e_IS_int, ↓e_IS_str, ↓e_eq_str, ↓e_ne_str, ↓e_eq_int, ↓e_ne_int, ↓e_eq_bl, ↓e_ne_bl, ↓e_isN, ↓e_notN, ↓e_ix_tup, ↓e_ix_fl, ↓e_ix_str, ↓e_ix_obj, ↓e_in_tup, ↓e_nin_tup, ↓e_len_tup, ↓e_len_fl, ↓e_len_str, ↓e_len_obj, ↓e_int_int, ↓e_tuple_tup, ↓e_tuple_obj, ↓e_list_tup, ↓e_list_obj, ↓e_dget, ↓e_din, ↓e_dnin, ↓e_lstAt, ↓e_dicAt,   e_key_int, e_key_str, e_up, e_ty_str, e_ty_tup, e_ty_int, e_ty_bl, e_ty_non, atI0, atI1, atI2, atI3, atIL, ixN0, ixN1, cut_from1, e_ite_or, e_ite_and, zln, znl, zli, zil, zni, zin, sizeLine_eq, CMul, CDiv, cpow1018, true_or, or_true, kb_strstr, kb_tupstr, kb_tuptup, kb_strtup, kb_inttup, kb_bltup, kb_nontup, kb_strbl, kb_strint, kb_intbl, kb_intint, kb_blbl, kb_blint, kb_nonbl, kb_nonint, kb_nonstr, kb_intstr, kb_blstr, kb_tupbl, kb_tupint,   List.set_cons_zero, List.set_cons_succ, List.set_nil, List.getElem?_cons_zero, List.getElem?_cons_succ, List.getElem?_nil, List.length_cons, List.length_nil, List.length_map, List.length_append, e_lcN, e_lcC, e_forN, e_forC, List.getLast?_concat, List.dropLast_concat, List.nil_append, List.cons_append, List.append_nil, List.append_assoc, List.reverse_cons, List.reverse_nil, List.isEmpty_nil, List.isEmpty_cons, isEmpty_snoc, List.any_cons, List.any_nil, List.all_cons, List.all_nil, flatD, eqF, in_non, in_tup, in_str, in_int, in_bl, in_obj, in_fl, startA, List.map_cons, List.map_nil, List.replicate_succ, List.replicate_zero,   Nat.reduceAdd, Nat.reduceSub, Nat.reduceLeDiff, Nat.zero_add, Int.reduceLE, Int.reduceLT, Int.reduceToNat, Int.reducePow, Int.reduceNeg, Int.reduceAdd, Int.reduceSub,   Option.isSome_some, Option.isSome_none, Bool.not_true, Bool.not_false, Bool.not_eq_true', Bool.not_eq_eq_eq_not, Bool.not_eq_true, Bool.false_eq_true, Bool.true_eq_false, Bool.and_true, Bool.true_and, Bool.or_false, Bool.false_or, Bool.or_true, Bool.true_or, Bool.and_false, Bool.false_and, if_true, if_false, ite_true, ite_false, reduceIte, reduceCtorEq, decide_true, decide_false, decide_eq_true_eq, decide_eq_false_iff_not, true_and, and_true, eq_self, ne_eq, not_false_eq_true, not_true_eq_false, and_self, *])
    refine ⟨rfl, a, rfl, by omega, by omega, fun r M2 nr e2 hr => ?_⟩
    have hp2 := e2 _ _ hp
    try (simp only [↓e_seq, ↓e_next, ↓e_break, ↓e_cont, ↓e_expr, ↓e_ret, ↓e_retN, ↓e_if, ↓e_never, ↓e_asg, ↓e_name, ↓e_agtup, ↓e_agcons, ↓e_agnil, ↓e_agsub, ↓e_aug, ↓e_dput, ↓e_var, ↓e_c, ↓e_op, ↓e_some, ↓e_none, ↓e_test, ↓e_and, ↓e_or, ↓e_not, ↓e_yes, ↓e_truth,   ↓e_tru_bl, ↓e_tru_int, ↓e_tru_non, ↓e_tru_str, ↓e_tru_tup, ↓e_tru_obj, ↓e_chain, ↓e_orV, ↓e_andV, ↓e_notV, ↓e_ifE, ↓e_neg, ↓e_nil, ↓e_cons, ↓e_tup, ↓e_lst, ↓e_dnew, ↓e_call, ↓e_cb, ↓e_isi, ↓e_sl, ↓e_onone, ↓e_osome, ↓e_rev, ↓e_lm, ↓e_append, ↓e_extend, ↓e_pop, ↓e_join, ↓e_dget2, ↓e_sortSet, ↓e_sortS, ↓e_setd, strsOf_map, ↓e_maxI, ↓e_disp, ↓e_pairN, ↓e_pairC, intsOf_map, ↓e_for, ↓e_ilist, ↓e_itup, ↓e_rng1, ↓e_rng2, ↓e_lc, ↓e_lc2, e_lc2N, ↓e_ienum, ↓e_izip, ↓e_anyB, ↓e_allB, ↓e_mulS, blsOf_map, ↓e_set0, ↓e_sadd, ↓e_sortTx, ↓e_sortD, ↓e_repr, ↓e_extT, ↓e_sc2, ↓e_sortZ, ↓e_tupVals, ↓e_wget, ↓e_wix, ↓e_listZip, zipD_nil, zipD_cons, ↓e_dgetF, ↓e_idif, ↓e_isB, ↓e_sortI, ↓e_sortSetI, ↓e_tailR, ↓e_divmod, ↓e_strI, ↓e_lenD, ↓e_fmt, ↓e_fs2,   ↓e_add_int, ↓e_add_str, ↓e_add_tup, ↓e_add_obj, ↓e_iadd_int, ↓e_iadd_str, ↓e_iadd_obj, ↓e_I, ↓e_I0, ↓e_IS_int, ↓e_IS_str, ↓e_eq_str, ↓e_ne_str, ↓e_eq_int, ↓e_ne_int, ↓e_eq_bl, ↓e_ne_bl, ↓e_isN, ↓e_notN, ↓e_ix_tup, ↓e_ix_fl, ↓e_ix_str, ↓e_ix_obj, ↓e_in_tup, ↓e_nin_tup, ↓e_len_tup, ↓e_len_fl, ↓e_len_str, ↓e_len_obj, ↓e_int_int, ↓e_tuple_tup, ↓e_tuple_obj, ↓e_list_tup, ↓e_list_obj, ↓e_dget, ↓e_din, ↓e_dnin, ↓e_lstAt, ↓e_dicAt,   e_key_int, e_key_str, e_up, e_ty_str, e_ty_tup, e_ty_int, e_ty_bl, e_ty_non, atI0, atI1, atI2, atI3, atIL, ixN0, ixN1, cut_from1, e_ite_or, e_ite_and, zln, znl, zli, zil, zni, zin, sizeLine_eq, CMul, CDiv, cpow1018, true_or, or_true, kb_strstr, kb_tupstr, kb_tuptup, kb_strtup, kb_inttup, kb_bltup, kb_nontup, kb_strbl, kb_strint, kb_intbl, kb_intint, kb_blbl, kb_blint, kb_nonbl, kb_nonint, kb_nonstr, kb_intstr, kb_blstr, kb_tupbl, kb_tupint,   List.set_cons_zero, List.set_cons_succ, List.set_nil, List.getElem?_cons_zero, List.getElem?_cons_succ, List.getElem?_nil, List.length_cons, List.length_nil, List.length_map, List.length_append, e_lcN, e_lcC, e_forN, e_forC, List.getLast?_concat, List.dropLast_concat, List.nil_append, List.cons_append, List.append_nil, List.append_assoc, List.reverse_cons, List.reverse_nil, List.isEmpty_nil, List.isEmpty_cons, isEmpty_snoc, List.any_cons, List.any_nil, List.all_cons, List.all_nil, flatD, eqF, in_non, in_tup, in_str, in_int, in_bl, in_obj, in_fl, startA, List.map_cons, List.map_nil, List.replicate_succ, List.replicate_zero,   Nat.reduceAdd, Nat.reduceSub, Nat.reduceLeDiff, Nat.zero_add, Int.reduceLE, Int.reduceLT, Int.reduceToNat, Int.reducePow, Int.reduceNeg, Int.reduceAdd, Int.reduceSub,   Option.isSome_some, Option.isSome_none, Bool.not_true, Bool.not_false, Bool.not_eq_true', Bool.not_eq_eq_eq_not, Bool.not_eq_true, Bool.false_eq_true, Bool.true_eq_false, Bool.and_true, Bool.true_and, Bool.or_false, Bool.false_or, Bool.or_true, Bool.true_or, Bool.and_false, Bool.false_and, if_true, if_false, ite_true, ite_false, reduceIte, reduceCtorEq, decide_true, decide_false, decide_eq_true_eq, decide_eq_false_iff_not, true_and, and_true, eq_self, ne_eq, not_false_eq_true, not_true_eq_false, and_self, *])
    refine ⟨by omega, ?_⟩
    refine order_lc hp2 hr ?_
    rw [filter_all]
    intro x nx
    have e3 := Ext.new (mo := .lst (a.ord.map D.str)) nx
    have hp3 := e3 _ _ hp2
    have hx : up M2 x (.lst (a.ord.map D.str)) x = some (.lst (a.ord.map D.str)) := up_same
    generalize up M2 x (.lst (a.ord.map D.str)) = M3 at *
    try (simp only [↓e_seq, ↓e_next, ↓e_break, ↓e_cont, ↓e_expr, ↓e_ret, ↓e_retN, ↓e_if, ↓e_never, ↓e_asg, ↓e_name, ↓e_agtup, ↓e_agcons, ↓e_agnil, ↓e_agsub, ↓e_aug, ↓e_dput, ↓e_var, ↓e_c, ↓e_op, ↓e_some, ↓e_none, ↓e_test, ↓e_and, ↓e_or, ↓e_not, ↓e_yes, ↓e_truth,   ↓e_tru_bl, ↓e_tru_int, ↓e_tru_non, ↓e_tru_str, ↓e_tru_tup, ↓e_tru_obj, ↓e_chain, ↓e_orV, ↓e_andV, ↓e_notV, ↓e_ifE, ↓e_neg, ↓e_nil, ↓e_cons, ↓e_tup, ↓e_lst, ↓e_dnew, ↓e_call, ↓e_cb, ↓e_isi, ↓e_sl, ↓e_onone, ↓e_osome, ↓e_rev, ↓e_lm, ↓e_append, ↓e_extend, ↓e_pop, ↓e_join, ↓e_dget2, ↓e_sortSet, ↓e_sortS, ↓e_setd, strsOf_map, ↓e_maxI, ↓e_disp, ↓e_pairN, ↓e_pairC, intsOf_map, ↓e_for, ↓e_ilist, ↓e_itup, ↓e_rng1, ↓e_rng2, ↓e_lc, ↓e_lc2, e_lc2N, ↓e_ienum, ↓e_izip, ↓e_anyB, ↓e_allB, ↓e_mulS, blsOf_map, ↓e_set0, ↓e_sadd, ↓e_sortTx, ↓e_sortD, ↓e_repr, ↓e_extT, ↓e_sc2, ↓e_sortZ, ↓e_tupVals, ↓e_wget, ↓e_wix, ↓e_listZip, zipD_nil, zipD_cons, ↓e_dgetF, ↓e_idif, ↓e_isB, ↓e_sortI, ↓e_sortSetI, ↓e_tailR, ↓e_divmod, ↓e_strI, ↓e_lenD, ↓e_fmt, ↓e_fs2,   ↓e_add_int, ↓e_add_str, ↓e_add_tup, ↓e_add_obj, ↓e_iadd_int, ↓e_iadd_str, ↓e_iadd_obj, ↓e_I, ↓e_I0, ↓e_IS_int, ↓e_IS_str, ↓e_eq_str, ↓e_ne_str, ↓e_eq_int, ↓e_ne_int, ↓e_eq_bl, ↓e_ne_bl, ↓e_isN, ↓e_notN, ↓e_ix_tup, ↓e_ix_fl, ↓e_ix_str, ↓e_ix_obj, ↓e_in_tup, ↓e_nin_tup, ↓e_len_tup, ↓e_len_fl, ↓e_len_str, ↓e_len_obj, ↓e_int_int, ↓e_tuple_tup, ↓e_tuple_obj, ↓e_list_tup, ↓e_list_obj, ↓e_dget, ↓e_din, ↓e_dnin, ↓e_lstAt, ↓e_dicAt,   e_key_int, e_key_str, e_up, e_ty_str, e_ty_tup, e_ty_int, e_ty_bl, e_ty_non, atI0, atI1, atI2, atI3, atIL, ixN0, ixN1, cut_from1, e_ite_or, e_ite_and, zln, znl, zli, zil, zni, zin, sizeLine_eq, CMul, CDiv, cpow1018, true_or, or_true, kb_strstr, kb_tupstr, kb_tuptup, kb_strtup, kb_inttup, kb_bltup, kb_nontup, kb_strbl, kb_strint, kb_intbl, kb_intint, kb_blbl, kb_blint, kb_nonbl, kb_nonint, kb_nonstr, kb_intstr, kb_blstr, kb_tupbl, kb_tupint,   List.set_cons_zero, List.set_cons_succ, List.set_nil, List.getElem?_cons_zero, List.getElem?_cons_succ, List.getElem?_nil, List.length_cons, List.length_nil, List.length_map, List.length_append, e_lcN, e_lcC, e_forN, e_forC, List.getLast?_concat, List.dropLast_concat, List.nil_append, List.cons_append, List.append_nil, List.append_assoc, List.reverse_cons, List.reverse_nil, List.isEmpty_nil, List.isEmpty_cons, isEmpty_snoc, List.any_cons, List.any_nil, List.all_cons, List.all_nil, flatD, eqF, in_non, in_tup, in_str, in_int, in_bl, in_obj, in_fl, startA, List.map_cons, List.map_nil, List.replicate_succ, List.replicate_zero,   Nat.reduceAdd, Nat.reduceSub, Nat.reduceLeDiff, Nat.zero_add, Int.reduceLE, Int.reduceLT, Int.reduceToNat, Int.reducePow, Int.reduceNeg, Int.reduceAdd, Int.reduceSub,   Option.isSome_some, Option.isSome_none, Bool.not_true, Bool.not_false, Bool.not_eq_true', Bool.not_eq_eq_eq_not, Bool.not_eq_true, Bool.false_eq_true, Bool.true_eq_false, Bool.and_true, Bool.true_and, Bool.or_false, Bool.false_or, Bool.or_true, Bool.true_or, Bool.and_false, Bool.false_and, if_true, if_false, ite_true, ite_false, reduceIte, reduceCtorEq, decide_true, decide_false, decide_eq_true_eq, decide_eq_false_iff_not, true_and, and_true, eq_self, ne_eq, not_false_eq_true, not_true_eq_false, and_self, *])
    refine ⟨by omega, ?_⟩
    intro y ny
    have e4 := Ext.new (mo := .lst (a.ord.map D.str)) ny
    have hy : up M3 y (.lst (a.ord.map D.str)) y = some (.lst (a.ord.map D.str)) := up_same
    generalize up M3 y (.lst (a.ord.map D.str)) = M4 at *
    have e14 := ((e1.trans e2).trans e3).trans e4
    clear hp hp2 hp3 hx hr e1 e2 e3 e4 nx ny
    try (simp only [↓e_seq, ↓e_next, ↓e_break, ↓e_cont, ↓e_expr, ↓e_ret, ↓e_retN, ↓e_if, ↓e_never, ↓e_asg, ↓e_name, ↓e_agtup, ↓e_agcons, ↓e_agnil, ↓e_agsub, ↓e_aug, ↓e_dput, ↓e_var, ↓e_c, ↓e_op, ↓e_some, ↓e_none, ↓e_test, ↓e_and, ↓e_or, ↓e_not, ↓e_yes, ↓e_truth,   ↓e_tru_bl, ↓e_tru_int, ↓e_tru_non, ↓e_tru_str, ↓e_tru_tup, ↓e_tru_obj, ↓e_chain, ↓e_orV, ↓e_andV, ↓e_notV, ↓e_ifE, ↓e_neg, ↓e_nil, ↓e_cons, ↓e_tup, ↓e_lst, ↓e_dnew, ↓e_call, ↓e_cb, ↓e_isi, ↓e_sl, ↓e_onone, ↓e_osome, ↓e_rev, ↓e_lm, ↓e_append, ↓e_extend, ↓e_pop, ↓e_join, ↓e_dget2, ↓e_sortSet, ↓e_sortS, ↓e_setd, strsOf_map, ↓e_maxI, ↓e_disp, ↓e_pairN, ↓e_pairC, intsOf_map, ↓e_for, ↓e_ilist, ↓e_itup, ↓e_rng1, ↓e_rng2, ↓e_lc, ↓e_lc2, e_lc2N, ↓e_ienum, ↓e_izip, ↓e_anyB, ↓e_allB, ↓e_mulS, blsOf_map, ↓e_set0, ↓e_sadd, ↓e_sortTx, ↓e_sortD, ↓e_repr, ↓e_extT, ↓e_sc2, ↓e_sortZ, ↓e_tupVals, ↓e_wget, ↓e_wix, ↓e_listZip, zipD_nil, zipD_cons, ↓e_dgetF, ↓e_idif, ↓e_isB, ↓e_sortI, ↓e_sortSetI, ↓e_tailR, ↓e_divmod, ↓e_strI, ↓e_lenD, ↓e_fmt, ↓e_fs2,   ↓e_add_int, ↓e_add_str, ↓e_add_tup, ↓e_add_obj, ↓e_iadd_int, ↓e_iadd_str, ↓e_iadd_obj, ↓e_I, ↓e_I0, ↓e_IS_int, ↓e_IS_str, ↓e_eq_str, ↓e_ne_str, ↓e_eq_int, ↓e_ne_int, ↓e_eq_bl, ↓e_ne_bl, ↓e_isN, ↓e_notN, ↓e_ix_tup, ↓e_ix_fl, ↓e_ix_str, ↓e_ix_obj, ↓e_in_tup, ↓e_nin_tup, ↓e_len_tup, ↓e_len_fl, ↓e_len_str, ↓e_len_obj, ↓e_int_int, ↓e_tuple_tup, ↓e_tuple_obj, ↓e_list_tup, ↓e_list_obj, ↓e_dget, ↓e_din, ↓e_dnin, ↓e_lstAt, ↓e_dicAt,   e_key_int, e_key_str, e_up, e_ty_str, e_ty_tup, e_ty_int, e_ty_bl, e_ty_non, atI0, atI1, atI2, atI3, atIL, ixN0, ixN1, cut_from1, e_ite_or, e_ite_and, zln, znl, zli, zil, zni, zin, sizeLine_eq, CMul, CDiv, cpow1018, true_or, or_true, kb_strstr, kb_tupstr, kb_tuptup, kb_strtup, kb_inttup, kb_bltup, kb_nontup, kb_strbl, kb_strint, kb_intbl, kb_intint, kb_blbl, kb_blint, kb_nonbl, kb_nonint, kb_nonstr, kb_intstr, kb_blstr, kb_tupbl, kb_tupint,   List.set_cons_zero, List.set_cons_succ, List.set_nil, List.getElem?_cons_zero, List.getElem?_cons_succ, List.getElem?_nil, List.length_cons, List.length_nil, List.length_map, List.length_append, e_lcN, e_lcC, e_forN, e_forC, List.getLast?_concat, List.dropLast_concat, List.nil_append, List.cons_append, List.append_nil, List.append_assoc, List.reverse_cons, List.reverse_nil, List.isEmpty_nil, List.isEmpty_cons, isEmpty_snoc, List.any_cons, List.any_nil, List.all_cons, List.all_nil, flatD, eqF, in_non, in_tup, in_str, in_int, in_bl, in_obj, in_fl, startA, List.map_cons, List.map_nil, List.replicate_succ, List.replicate_zero,   Nat.reduceAdd, Nat.reduceSub, Nat.reduceLeDiff, Nat.zero_add, Int.reduceLE, Int.reduceLT, Int.reduceToNat, Int.reducePow, Int.reduceNeg, Int.reduceAdd, Int.reduceSub,   Option.isSome_some, Option.isSome_none, Bool.not_true, Bool.not_false, Bool.not_eq_true', Bool.not_eq_eq_eq_not, Bool.not_eq_true, Bool.false_eq_true, Bool.true_eq_false, Bool.and_true, Bool.true_and, Bool.or_false, Bool.false_or, Bool.or_true, Bool.true_or, Bool.and_false, Bool.false_and, if_true, if_false, ite_true, ite_false, reduceIte, reduceCtorEq, decide_true, decide_false, decide_eq_true_eq, decide_eq_false_iff_not, true_and, and_true, eq_self, ne_eq, not_false_eq_true, not_true_eq_false, and_self, *])
    refine ⟨rfl, b, rfl, by omega, by omega, fun r2 M5 nr2 e5 hr2 => ?_⟩
    have hy5 := e5 _ _ hy
    clear hy
    try (simp only [↓e_seq, ↓e_next, ↓e_break, ↓e_cont, ↓e_expr, ↓e_ret, ↓e_retN, ↓e_if, ↓e_never, ↓e_asg, ↓e_name, ↓e_agtup, ↓e_agcons, ↓e_agnil, ↓e_agsub, ↓e_aug, ↓e_dput, ↓e_var, ↓e_c, ↓e_op, ↓e_some, ↓e_none, ↓e_test, ↓e_and, ↓e_or, ↓e_not, ↓e_yes, ↓e_truth,   ↓e_tru_bl, ↓e_tru_int, ↓e_tru_non, ↓e_tru_str, ↓e_tru_tup, ↓e_tru_obj, ↓e_chain, ↓e_orV, ↓e_andV, ↓e_notV, ↓e_ifE, ↓e_neg, ↓e_nil, ↓e_cons, ↓e_tup, ↓e_lst, ↓e_dnew, ↓e_call, ↓e_cb, ↓e_isi, ↓e_sl, ↓e_onone, ↓e_osome, ↓e_rev, ↓e_lm, ↓e_append, ↓e_extend, ↓e_pop, ↓e_join, ↓e_dget2, ↓e_sortSet, ↓e_sortS, ↓e_setd, strsOf_map, ↓e_maxI, ↓e_disp, ↓e_pairN, ↓e_pairC, intsOf_map, ↓e_for, ↓e_ilist, ↓e_itup, ↓e_rng1, ↓e_rng2, ↓e_lc, ↓e_lc2, e_lc2N, ↓e_ienum, ↓e_izip, ↓e_anyB, ↓e_allB, ↓e_mulS, blsOf_map, ↓e_set0, ↓e_sadd, ↓e_sortTx, ↓e_sortD, ↓e_repr, ↓e_extT, ↓e_sc2, ↓e_sortZ, ↓e_tupVals, ↓e_wget, ↓e_wix, ↓e_listZip, zipD_nil, zipD_cons, ↓e_dgetF, ↓e_idif, ↓e_isB, ↓e_sortI, ↓e_sortSetI, ↓e_tailR, ↓e_divmod, ↓e_strI, ↓e_lenD, ↓e_fmt, ↓e_fs2,   ↓e_add_int, ↓e_add_str, ↓e_add_tup, ↓e_add_obj, ↓e_iadd_int, ↓e_iadd_str, ↓e_iadd_obj, ↓e_I, ↓e_I0, ↓e_IS_int, ↓e_IS_str, ↓e_eq_str, ↓e_ne_str, ↓e_eq_int, ↓e_ne_int, ↓e_eq_bl, ↓e_ne_bl, ↓e_isN, ↓e_notN, ↓e_ix_tup, ↓e_ix_fl, ↓e_ix_str, ↓e_ix_obj, ↓e_in_tup, ↓e_nin_tup, ↓e_len_tup, ↓e_len_fl, ↓e_len_str, ↓e_len_obj, ↓e_int_int, ↓e_tuple_tup, ↓e_tuple_obj, ↓e_list_tup, ↓e_list_obj, ↓e_dget, ↓e_din, ↓e_dnin, ↓e_lstAt, ↓e_dicAt,   e_key_int, e_key_str, e_up, e_ty_str, e_ty_tup, e_ty_int, e_ty_bl, e_ty_non, atI0, atI1, atI2, atI3, atIL, ixN0, ixN1, cut_from1, e_ite_or, e_ite_and, zln, znl, zli, zil, zni, zin, sizeLine_eq, CMul, CDiv, cpow1018, true_or, or_true, kb_strstr, kb_tupstr, kb_tuptup, kb_strtup, kb_inttup, kb_bltup, kb_nontup, kb_strbl, kb_strint, kb_intbl, kb_intint, kb_blbl, kb_blint, kb_nonbl, kb_nonint, kb_nonstr, kb_intstr, kb_blstr, kb_tupbl, kb_tupint,   List.set_cons_zero, List.set_cons_succ, List.set_nil, List.getElem?_cons_zero, List.getElem?_cons_succ, List.getElem?_nil, List.length_cons, List.length_nil, List.length_map, List.length_append, e_lcN, e_lcC, e_forN, e_forC, List.getLast?_concat, List.dropLast_concat, List.nil_append, List.cons_append, List.append_nil, List.append_assoc, List.reverse_cons, List.reverse_nil, List.isEmpty_nil, List.isEmpty_cons, isEmpty_snoc, List.any_cons, List.any_nil, List.all_cons, List.all_nil, flatD, eqF, in_non, in_tup, in_str, in_int, in_bl, in_obj, in_fl, startA, List.map_cons, List.map_nil, List.replicate_succ, List.replicate_zero,   Nat.reduceAdd, Nat.reduceSub, Nat.reduceLeDiff, Nat.zero_add, Int.reduceLE, Int.reduceLT, Int.reduceToNat, Int.reducePow, Int.reduceNeg, Int.reduceAdd, Int.reduceSub,   Option.isSome_some, Option.isSome_none, Bool.not_true, Bool.not_false, Bool.not_eq_true', Bool.not_eq_eq_eq_not, Bool.not_eq_true, Bool.false_eq_true, Bool.true_eq_false, Bool.and_true, Bool.true_and, Bool.or_false, Bool.false_or, Bool.or_true, Bool.true_or, Bool.and_false, Bool.false_and, if_true, if_false, ite_true, ite_false, reduceIte, reduceCtorEq, decide_true, decide_false, decide_eq_true_eq, decide_eq_false_iff_not, true_and, and_true, eq_self, ne_eq, not_false_eq_true, not_true_eq_false, and_self, *])
    refine ⟨by omega, ?_⟩
    refine order_lc hy5 hr2 ?_
    intro x2 nx2
    have e6 := Ext.new (mo := .lst ((b.ord.filter fun s => !decide (s ∈ a.ord)).map D.str)) nx2
    have hx2 : up M5 x2 (.lst ((b.ord.filter fun s => !decide (s ∈ a.ord)).map D.str)) x2 = some (.lst ((b.ord.filter fun s => !decide (s ∈ a.ord)).map D.str)) := up_same
    have hy6 := e6 _ _ hy5
    generalize up M5 x2 (.lst ((b.ord.filter fun s => !decide (s ∈ a.ord)).map D.str)) = M6 at *
    clear hr2 hy5
    have n6 := fun y (h : M6 y = none) => ((e14.trans e5).trans e6).none h
    generalize hF : (b.ord.filter fun s => !decide (s ∈ a.ord)) = F at *
    have fin : ∀ y2, M6 y2 = none → Q (.obj y2) (up M6 y2 (.lst (a.ord.map D.str ++ F.map D.str))) := fun y2 ny2 => q y2 _ (n6 y2 ny2) (((e14.trans e5).trans e6).trans (Ext.new ny2)) up_same
    clear n6 q
    try (simp only [↓e_seq, ↓e_next, ↓e_break, ↓e_cont, ↓e_expr, ↓e_ret, ↓e_retN, ↓e_if, ↓e_never, ↓e_asg, ↓e_name, ↓e_agtup, ↓e_agcons, ↓e_agnil, ↓e_agsub, ↓e_aug, ↓e_dput, ↓e_var, ↓e_c, ↓e_op, ↓e_some, ↓e_none, ↓e_test, ↓e_and, ↓e_or, ↓e_not, ↓e_yes, ↓e_truth,   ↓e_tru_bl, ↓e_tru_int, ↓e_tru_non, ↓e_tru_str, ↓e_tru_tup, ↓e_tru_obj, ↓e_chain, ↓e_orV, ↓e_andV, ↓e_notV, ↓e_ifE, ↓e_neg, ↓e_nil, ↓e_cons, ↓e_tup, ↓e_lst, ↓e_dnew, ↓e_call, ↓e_cb, ↓e_isi, ↓e_sl, ↓e_onone, ↓e_osome, ↓e_rev, ↓e_lm, ↓e_append, ↓e_extend, ↓e_pop, ↓e_join, ↓e_dget2, ↓e_sortSet, ↓e_sortS, ↓e_setd, strsOf_map, ↓e_maxI, ↓e_disp, ↓e_pairN, ↓e_pairC, intsOf_map, ↓e_for, ↓e_ilist, ↓e_itup, ↓e_rng1, ↓e_rng2, ↓e_lc, ↓e_lc2, e_lc2N, ↓e_ienum, ↓e_izip, ↓e_anyB, ↓e_allB, ↓e_mulS, blsOf_map, ↓e_set0, ↓e_sadd, ↓e_sortTx, ↓e_sortD, ↓e_repr, ↓e_extT, ↓e_sc2, ↓e_sortZ, ↓e_tupVals, ↓e_wget, ↓e_wix, ↓e_listZip, zipD_nil, zipD_cons, ↓e_dgetF, ↓e_idif, ↓e_isB, ↓e_sortI, ↓e_sortSetI, ↓e_tailR, ↓e_divmod, ↓e_strI, ↓e_lenD, ↓e_fmt, ↓e_fs2,   ↓e_add_int, ↓e_add_str, ↓e_add_tup, ↓e_add_obj, ↓e_iadd_int, ↓e_iadd_str, ↓e_iadd_obj, ↓e_I, ↓e_I0, ↓e_IS_int, ↓e_IS_str, ↓e_eq_str, ↓e_ne_str, ↓e_eq_int, ↓e_ne_int, ↓e_eq_bl, ↓e_ne_bl, ↓e_isN, ↓e_notN, ↓e_ix_tup, ↓e_ix_fl, ↓e_ix_str, ↓e_ix_obj, ↓e_in_tup, ↓e_nin_tup, ↓e_len_tup, ↓e_len_fl, ↓e_len_str, ↓e_len_obj, ↓e_int_int, ↓e_tuple_tup, ↓e_tuple_obj, ↓e_list_tup, ↓e_list_obj, ↓e_dget, ↓e_din, ↓e_dnin, ↓e_lstAt, ↓e_dicAt,   e_key_int, e_key_str, e_up, e_ty_str, e_ty_tup, e_ty_int, e_ty_bl, e_ty_non, atI0, atI1, atI2, atI3, atIL, ixN0, ixN1, cut_from1, e_ite_or, e_ite_and, zln, znl, zli, zil, zni, zin, sizeLine_eq, CMul, CDiv, cpow1018, true_or, or_true, kb_strstr, kb_tupstr, kb_tuptup, kb_strtup, kb_inttup, kb_bltup, kb_nontup, kb_strbl, kb_strint, kb_intbl, kb_intint, kb_blbl, kb_blint, kb_nonbl, kb_nonint, kb_nonstr, kb_intstr, kb_blstr, kb_tupbl, kb_tupint,   List.set_cons_zero, List.set_cons_succ, List.set_nil, List.getElem?_cons_zero, List.getElem?_cons_succ, List.getElem?_nil, List.length_cons, List.length_nil, List.length_map, List.length_append, e_lcN, e_lcC, e_forN, e_forC, List.getLast?_concat, List.dropLast_concat, List.nil_append, List.cons_append, List.append_nil, List.append_assoc, List.reverse_cons, List.reverse_nil, List.isEmpty_nil, List.isEmpty_cons, isEmpty_snoc, List.any_cons, List.any_nil, List.all_cons, List.all_nil, flatD, eqF, in_non, in_tup, in_str, in_int, in_bl, in_obj, in_fl, startA, List.map_cons, List.map_nil, List.replicate_succ, List.replicate_zero,   Nat.reduceAdd, Nat.reduceSub, Nat.reduceLeDiff, Nat.zero_add, Int.reduceLE, Int.reduceLT, Int.reduceToNat, Int.reducePow, Int.reduceNeg, Int.reduceAdd, Int.reduceSub,   Option.isSome_some, Option.isSome_none, Bool.not_true, Bool.not_false, Bool.not_eq_true', Bool.not_eq_eq_eq_not, Bool.not_eq_true, Bool.false_eq_true, Bool.true_eq_false, Bool.and_true, Bool.true_and, Bool.or_false, Bool.false_or, Bool.or_true, Bool.true_or, Bool.and_false, Bool.false_and, if_true, if_false, ite_true, ite_false, reduceIte, reduceCtorEq, decide_true, decide_false, decide_eq_true_eq, decide_eq_false_iff_not, true_and, and_true, eq_self, ne_eq, not_false_eq_true, not_true_eq_false, and_self, *])
    refine ⟨by omega, ?_⟩
    intro y2 ny2
    have g := fin y2 ny2
    try (simp only [↓e_seq, ↓e_next, ↓e_break, ↓e_cont, ↓e_expr, ↓e_ret, ↓e_retN, ↓e_if, ↓e_never, ↓e_asg, ↓e_name, ↓e_agtup, ↓e_agcons, ↓e_agnil, ↓e_agsub, ↓e_aug, ↓e_dput, ↓e_var, ↓e_c, ↓e_op, ↓e_some, ↓e_none, ↓e_test, ↓e_and, ↓e_or, ↓e_not, ↓e_yes, ↓e_truth,   ↓e_tru_bl, ↓e_tru_int, ↓e_tru_non, ↓e_tru_str, ↓e_tru_tup, ↓e_tru_obj, ↓e_chain, ↓e_orV, ↓e_andV, ↓e_notV, ↓e_ifE, ↓e_neg, ↓e_nil, ↓e_cons, ↓e_tup, ↓e_lst, ↓e_dnew, ↓e_call, ↓e_cb, ↓e_isi, ↓e_sl, ↓e_onone, ↓e_osome, ↓e_rev, ↓e_lm, ↓e_append, ↓e_extend, ↓e_pop, ↓e_join, ↓e_dget2, ↓e_sortSet, ↓e_sortS, ↓e_setd, strsOf_map, ↓e_maxI, ↓e_disp, ↓e_pairN, ↓e_pairC, intsOf_map, ↓e_for, ↓e_ilist, ↓e_itup, ↓e_rng1, ↓e_rng2, ↓e_lc, ↓e_lc2, e_lc2N, ↓e_ienum, ↓e_izip, ↓e_anyB, ↓e_allB, ↓e_mulS, blsOf_map, ↓e_set0, ↓e_sadd, ↓e_sortTx, ↓e_sortD, ↓e_repr, ↓e_extT, ↓e_sc2, ↓e_sortZ, ↓e_tupVals, ↓e_wget, ↓e_wix, ↓e_listZip, zipD_nil, zipD_cons, ↓e_dgetF, ↓e_idif, ↓e_isB, ↓e_sortI, ↓e_sortSetI, ↓e_tailR, ↓e_divmod, ↓e_strI, ↓e_lenD, ↓e_fmt, ↓e_fs2,   ↓e_add_int, ↓e_add_str, ↓e_add_tup, ↓e_add_obj, ↓e_iadd_int, ↓e_iadd_str, ↓e_iadd_obj, ↓e_I, ↓e_I0, ↓e_IS_int, ↓e_IS_str, ↓e_eq_str, ↓e_ne_str, ↓e_eq_int, ↓e_ne_int, ↓e_eq_bl, ↓e_ne_bl, ↓e_isN, ↓e_notN, ↓e_ix_tup, ↓e_ix_fl, ↓e_ix_str, ↓e_ix_obj, ↓e_in_tup, ↓e_nin_tup, ↓e_len_tup, ↓e_len_fl, ↓e_len_str, ↓e_len_obj, ↓e_int_int, ↓e_tuple_tup, ↓e_tuple_obj, ↓e_list_tup, ↓e_list_obj, ↓e_dget, ↓e_din, ↓e_dnin, ↓e_lstAt, ↓e_dicAt,   e_key_int, e_key_str, e_up, e_ty_str, e_ty_tup, e_ty_int, e_ty_bl, e_ty_non, atI0, atI1, atI2, atI3, atIL, ixN0, ixN1, cut_from1, e_ite_or, e_ite_and, zln, znl, zli, zil, zni, zin, sizeLine_eq, CMul, CDiv, cpow1018, true_or, or_true, kb_strstr, kb_tupstr, kb_tuptup, kb_strtup, kb_inttup, kb_bltup, kb_nontup, kb_strbl, kb_strint, kb_intbl, kb_intint, kb_blbl, kb_blint, kb_nonbl, kb_nonint, kb_nonstr, kb_intstr, kb_blstr, kb_tupbl, kb_tupint,   List.set_cons_zero, List.set_cons_succ, List.set_nil, List.getElem?_cons_zero, List.getElem?_cons_succ, List.getElem?_nil, List.length_cons, List.length_nil, List.length_map, List.length_append, e_lcN, e_lcC, e_forN, e_forC, List.getLast?_concat, List.dropLast_concat, List.nil_append, List.cons_append, List.append_nil, List.append_assoc, List.reverse_cons, List.reverse_nil, List.isEmpty_nil, List.isEmpty_cons, isEmpty_snoc, List.any_cons, List.any_nil, List.all_cons, List.all_nil, flatD, eqF, in_non, in_tup, in_str, in_int, in_bl, in_obj, in_fl, startA, List.map_cons, List.map_nil, List.replicate_succ, List.replicate_zero,   Nat.reduceAdd, Nat.reduceSub, Nat.reduceLeDiff, Nat.zero_add, Int.reduceLE, Int.reduceLT, Int.reduceToNat, Int.reducePow, Int.reduceNeg, Int.reduceAdd, Int.reduceSub,   Option.isSome_some, Option.isSome_none, Bool.not_true, Bool.not_false, Bool.not_eq_true', Bool.not_eq_eq_eq_not, Bool.not_eq_true, Bool.false_eq_true, Bool.true_eq_false, Bool.and_true, Bool.true_and, Bool.or_false, Bool.false_or, Bool.or_true, Bool.true_or, Bool.and_false, Bool.false_and, if_true, if_false, ite_true, ite_false, reduceIte, reduceCtorEq, decide_true, decide_false, decide_eq_true_eq, decide_eq_false_iff_not, true_and, and_true, eq_self, ne_eq, not_false_eq_true, not_true_eq_false, and_self, *])

def A_law : ASp := fun ds M Q _ => ∃ ns : List Int, ds = [.fl (ns.map D.int)] ∧ ∀ M', Q (.bl true) M'
theorem repL_ints {K : PySem.W.Frag} {H : Hp} : ∀ ns : List Int, RepL K H (ns.map D.int) (ns.map V.int)
  | [] => rfl
  | x :: r => ⟨_, _, rfl, rfl, repL_ints r⟩
/-- the head of a law over a script -/
theorem law_start {K : PySem.W.Frag} {H : Hp} {a : Addr} {ns : List Int} {A : ASp} (ho : Only H) (hs : SqL K H a (ns.map V.int)) (hA : ∀ Q : D → Sto → Prop, (∀ M, Q (.bl true) M) → A [.fl (ns.map D.int)] (fun _ => none) Q xa0) : conc K 1 A [.ref a] H (fun v _ => v = .bl true) (fun _ _ _ => False) := by
  have hf : SqF K H a (ns.map V.int) := by
    rcases hs with (h | ⟨o, h⟩) | h
    · rcases ho a with z | ⟨o, xs, z⟩
      · rw [z] at h; cases h
      · rw [z] at h; cases h
    · exact .inl ⟨o, h⟩
    · exact .inr h
  refine ⟨[.fl (ns.map D.int)], fun _ => none, fun d _ => d = .bl true, xa0, rfl, ⟨_, _, rfl, ⟨a, _, rfl, hf, repL_ints ns⟩, rfl⟩, (fun a mo h => nomatch h), hA _ fun M => rfl, fun v H' d M' t r q => ?_, fun cls d H' M' fs t r q => q⟩
  subst q
  exact r

/-! renamed -/
def A_renamed (L : Nat) : ASp := fun ds M Q _ => ∃ f : Fm, ds = [f.d] ∧ f.sz ≤ L ∧ f.sz ≤ 500 ∧ ∀ M', Ext M M' → Q f.rn.d M'
theorem p_renamed (L : Nat) (ds : List D) (M : Sto) (Q : D → Sto → Prop) (Xa) (hl : ds.length = 1) (h : A_renamed L ds M Q Xa) : a_renamed (A_put L) A_naming ax0 (Done Q) (startA ["formula"] ds) M := by
  obtain ⟨f, rfl, hL, hsz, q⟩ := h
  unfold a_renamed
  try (simp only [↓e_seq, ↓e_next, ↓e_break, ↓e_cont, ↓e_expr, ↓e_ret, ↓e_retN, ↓e_if, ↓e_never, ↓e_asg, ↓e_name, ↓e_agtup, ↓e_agcons, ↓e_agnil, ↓e_agsub, ↓e_aug, ↓e_dput, ↓e_var, ↓e_c, ↓e_op, ↓e_some, ↓e_none, ↓e_test, ↓e_and, ↓e_or, ↓e_not, ↓e_yes, ↓e_truth,   ↓e_tru_bl, ↓e_tru_int, ↓e_tru_non, ↓e_tru_str, ↓e_tru_tup, ↓e_tru_obj, ↓e_chain, ↓e_orV, ↓e_andV, ↓e_notV, ↓e_ifE, ↓e_neg, ↓e_nil, ↓e_cons, ↓e_tup, ↓e_lst, ↓e_dnew, ↓e_call, ↓e_cb, ↓e_isi, ↓e_sl, ↓e_onone, ↓e_osome, ↓e_rev, ↓e_lm, ↓e_append, ↓e_extend, ↓e_pop, ↓e_join, ↓e_dget2, ↓e_sortSet, ↓e_sortS, ↓e_setd, strsOf_map, ↓e_maxI, ↓e_disp, ↓e_pairN, ↓e_pairC, intsOf_map, ↓e_for, ↓e_ilist, ↓e_itup, ↓e_rng1, ↓e_rng2, ↓e_lc, ↓e_lc2, e_lc2N, ↓e_ienum, ↓e_izip, ↓e_anyB, ↓e_allB, ↓e_mulS, blsOf_map, ↓e_set0, ↓e_sadd, ↓e_sortTx, ↓e_sortD, ↓e_repr, ↓e_extT, ↓e_sc2, ↓e_sortZ, ↓e_tupVals, ↓e_wget, ↓e_wix, ↓e_listZip, zipD_nil, zipD_cons, ↓e_dgetF, ↓e_idif, ↓e_isB, ↓e_sortI, ↓e_sortSetI, ↓e_tailR, ↓e_divmod, ↓e_strI, ↓e_lenD, ↓e_fmt, ↓e_fs2,   ↓e_add_int, ↓e_add_str, ↓e_add_tup, ↓e_add_obj, ↓e_iadd_int, ↓e_iadd_str, ↓e_iadd_obj, ↓e_I, ↓e_I0, ↓e_IS_int, ↓e_IS_str, ↓e_eq_str, ↓e_ne_str, ↓e_eq_int, ↓e_ne_int, ↓e_eq_bl, ↓e_ne_bl, ↓e_isN, ↓e_notN, ↓e_ix_tup, ↓e_ix_fl, ↓e_ix_str, ↓e_ix_obj, ↓e_in_tup, ↓e_nin_tup, ↓e_len_tup, ↓e_len_fl, ↓e_len_str, ↓e_len_obj, ↓e_int_int, ↓e_tuple_tup, ↓e_tuple_obj, ↓e_list_tup, ↓e_list_obj, ↓e_dget, ↓e_din, ↓e_dnin, ↓e_lstAt, ↓e_dicAt,   e_key_int, e_key_str, e_up, e_ty_str, e_ty_tup, e_ty_int, e_ty_bl, e_ty_non, atI0, atI1, atI2, atI3, atIL, ixN0, ixN1, cut_from1, e_ite_or, e_ite_and, zln, znl, zli, zil, zni, zin, sizeLine_eq, CMul, CDiv, cpow1018, true_or, or_true, kb_strstr, kb_tupstr, kb_tuptup, kb_strtup, kb_inttup, kb_bltup, kb_nontup, kb_strbl, kb_strint, kb_intbl, kb_intint, kb_blbl, kb_blint, kb_nonbl, kb_nonint, kb_nonstr, kb_intstr, kb_blstr, kb_tupbl, kb_tupint,   List.set_cons_zero, List.set_cons_succ, List.set_nil, List.getElem?_cons_zero, List.getElem?_cons_succ, List.getElem?_nil, List.length_cons, List.length_nil, List.length_map, List.length_append, e_lcN, e_lcC, e_forN, e_forC, List.getLast?_concat, List.dropLast_concat, List.nil_append, List.cons_append, List.append_nil, List.append_assoc, List.reverse_cons, List.reverse_nil, List.isEmpty_nil, List.isEmpty_cons, isEmpty_snoc, List.any_cons, List.any_nil, List.all_cons, List.all_nil, flatD, eqF, in_non, in_tup, in_str, in_int, in_bl, in_obj, in_fl, startA, List.map_cons, List.map_nil, List.replicate_succ, List.replicate_zero,   Nat.reduceAdd, Nat.reduceSub, Nat.reduceLeDiff, Nat.zero_add, Int.reduceLE, Int.reduceLT, Int.reduceToNat, Int.reducePow, Int.reduceNeg, Int.reduceAdd, Int.reduceSub,   Option.isSome_some, Option.isSome_none, Bool.not_true, Bool.not_false, Bool.not_eq_true', Bool.not_eq_eq_eq_not, Bool.not_eq_true, Bool.false_eq_true, Bool.true_eq_false, Bool.and_true, Bool.true_and, Bool.or_false, Bool.false_or, Bool.or_true, Bool.true_or, Bool.and_false, Bool.false_and, if_true, if_false, ite_true, ite_false, reduceIte, reduceCtorEq, decide_true, decide_false, decide_eq_true_eq, decide_eq_false_iff_not, true_and, and_true, eq_self, ne_eq, not_false_eq_true, not_true_eq_false, and_self, *])
  refine ⟨rfl, f, rfl, hsz, fun t kvs M1 e1 h1 hn => ?_⟩
  try (simp only [↓e_seq, ↓e_next, ↓e_break, ↓e_cont, ↓e_expr, ↓e_ret, ↓e_retN, ↓e_if, ↓e_never, ↓e_asg, ↓e_name, ↓e_agtup, ↓e_agcons, ↓e_agnil, ↓e_agsub, ↓e_aug, ↓e_dput, ↓e_var, ↓e_c, ↓e_op, ↓e_some, ↓e_none, ↓e_test, ↓e_and, ↓e_or, ↓e_not, ↓e_yes, ↓e_truth,   ↓e_tru_bl, ↓e_tru_int, ↓e_tru_non, ↓e_tru_str, ↓e_tru_tup, ↓e_tru_obj, ↓e_chain, ↓e_orV, ↓e_andV, ↓e_notV, ↓e_ifE, ↓e_neg, ↓e_nil, ↓e_cons, ↓e_tup, ↓e_lst, ↓e_dnew, ↓e_call, ↓e_cb, ↓e_isi, ↓e_sl, ↓e_onone, ↓e_osome, ↓e_rev, ↓e_lm, ↓e_append, ↓e_extend, ↓e_pop, ↓e_join, ↓e_dget2, ↓e_sortSet, ↓e_sortS, ↓e_setd, strsOf_map, ↓e_maxI, ↓e_disp, ↓e_pairN, ↓e_pairC, intsOf_map, ↓e_for, ↓e_ilist, ↓e_itup, ↓e_rng1, ↓e_rng2, ↓e_lc, ↓e_lc2, e_lc2N, ↓e_ienum, ↓e_izip, ↓e_anyB, ↓e_allB, ↓e_mulS, blsOf_map, ↓e_set0, ↓e_sadd, ↓e_sortTx, ↓e_sortD, ↓e_repr, ↓e_extT, ↓e_sc2, ↓e_sortZ, ↓e_tupVals, ↓e_wget, ↓e_wix, ↓e_listZip, zipD_nil, zipD_cons, ↓e_dgetF, ↓e_idif, ↓e_isB, ↓e_sortI, ↓e_sortSetI, ↓e_tailR, ↓e_divmod, ↓e_strI, ↓e_lenD, ↓e_fmt, ↓e_fs2,   ↓e_add_int, ↓e_add_str, ↓e_add_tup, ↓e_add_obj, ↓e_iadd_int, ↓e_iadd_str, ↓e_iadd_obj, ↓e_I, ↓e_I0, ↓e_IS_int, ↓e_IS_str, ↓e_eq_str, ↓e_ne_str, ↓e_eq_int, ↓e_ne_int, ↓e_eq_bl, ↓e_ne_bl, ↓e_isN, ↓e_notN, ↓e_ix_tup, ↓e_ix_fl, ↓e_ix_str, ↓e_ix_obj, ↓e_in_tup, ↓e_nin_tup, ↓e_len_tup, ↓e_len_fl, ↓e_len_str, ↓e_len_obj, ↓e_int_int, ↓e_tuple_tup, ↓e_tuple_obj, ↓e_list_tup, ↓e_list_obj, ↓e_dget, ↓e_din, ↓e_dnin, ↓e_lstAt, ↓e_dicAt,   e_key_int, e_key_str, e_up, e_ty_str, e_ty_tup, e_ty_int, e_ty_bl, e_ty_non, atI0, atI1, atI2, atI3, atIL, ixN0, ixN1, cut_from1, e_ite_or, e_ite_and, zln, znl, zli, zil, zni, zin, sizeLine_eq, CMul, CDiv, cpow1018, true_or, or_true, kb_strstr, kb_tupstr, kb_tuptup, kb_strtup, kb_inttup, kb_bltup, kb_nontup, kb_strbl, kb_strint, kb_intbl, kb_intint, kb_blbl, kb_blint, kb_nonbl, kb_nonint, kb_nonstr, kb_intstr, kb_blstr, kb_tupbl, kb_tupint,   List.set_cons_zero, List.set_cons_succ, List.set_nil, List.getElem?_cons_zero, List.getElem?_cons_succ, List.getElem?_nil, List.length_cons, List.length_nil, List.length_map, List.length_append, e_lcN, e_lcC, e_forN, e_forC, List.getLast?_concat, List.dropLast_concat, List.nil_append, List.cons_append, List.append_nil, List.append_assoc, List.reverse_cons, List.reverse_nil, List.isEmpty_nil, List.isEmpty_cons, isEmpty_snoc, List.any_cons, List.any_nil, List.all_cons, List.all_nil, flatD, eqF, in_non, in_tup, in_str, in_int, in_bl, in_obj, in_fl, startA, List.map_cons, List.map_nil, List.replicate_succ, List.replicate_zero,   Nat.reduceAdd, Nat.reduceSub, Nat.reduceLeDiff, Nat.zero_add, Int.reduceLE, Int.reduceLT, Int.reduceToNat, Int.reducePow, Int.reduceNeg, Int.reduceAdd, Int.reduceSub,   Option.isSome_some, Option.isSome_none, Bool.not_true, Bool.not_false, Bool.not_eq_true', Bool.not_eq_eq_eq_not, Bool.not_eq_true, Bool.false_eq_true, Bool.true_eq_false, Bool.and_true, Bool.true_and, Bool.or_false, Bool.false_or, Bool.or_true, Bool.true_or, Bool.and_false, Bool.false_and, if_true, if_false, ite_true, ite_false, reduceIte, reduceCtorEq, decide_true, decide_false, decide_eq_true_eq, decide_eq_false_iff_not, true_and, and_true, eq_self, ne_eq, not_false_eq_true, not_true_eq_false, and_self, *])
  exact ⟨rfl, f, t, kvs, nmS f.ord, rfl, hL, h1, hn.get, fun M2 e2 => q M2 (e1.trans e2)⟩
theorem p__law_renamed (L : Nat) (ds : List D) (M : Sto) (Q : D → Sto → Prop) (Xa) (hl : ds.length = 1) (h : A_renamed L ds M Q Xa) : a__law_renamed (A_order L) (A_put L) ax0 (Done Q) (startA ["formula", "letters", "table", "old", "k", "name"] ds) M := by
  obtain ⟨f, rfl, hL, hsz, q⟩ := h
  unfold a__law_renamed
  try (simp only [↓e_seq, ↓e_next, ↓e_break, ↓e_cont, ↓e_expr, ↓e_ret, ↓e_retN, ↓e_if, ↓e_never, ↓e_asg, ↓e_name, ↓e_agtup, ↓e_agcons, ↓e_agnil, ↓e_agsub, ↓e_aug, ↓e_dput, ↓e_var, ↓e_c, ↓e_op, ↓e_some, ↓e_none, ↓e_test, ↓e_and, ↓e_or, ↓e_not, ↓e_yes, ↓e_truth,   ↓e_tru_bl, ↓e_tru_int, ↓e_tru_non, ↓e_tru_str, ↓e_tru_tup, ↓e_tru_obj, ↓e_chain, ↓e_orV, ↓e_andV, ↓e_notV, ↓e_ifE, ↓e_neg, ↓e_nil, ↓e_cons, ↓e_tup, ↓e_lst, ↓e_dnew, ↓e_call, ↓e_cb, ↓e_isi, ↓e_sl, ↓e_onone, ↓e_osome, ↓e_rev, ↓e_lm, ↓e_append, ↓e_extend, ↓e_pop, ↓e_join, ↓e_dget2, ↓e_sortSet, ↓e_sortS, ↓e_setd, strsOf_map, ↓e_maxI, ↓e_disp, ↓e_pairN, ↓e_pairC, intsOf_map, ↓e_for, ↓e_ilist, ↓e_itup, ↓e_rng1, ↓e_rng2, ↓e_lc, ↓e_lc2, e_lc2N, ↓e_ienum, ↓e_izip, ↓e_anyB, ↓e_allB, ↓e_mulS, blsOf_map, ↓e_set0, ↓e_sadd, ↓e_sortTx, ↓e_sortD, ↓e_repr, ↓e_extT, ↓e_sc2, ↓e_sortZ, ↓e_tupVals, ↓e_wget, ↓e_wix, ↓e_listZip, zipD_nil, zipD_cons, ↓e_dgetF, ↓e_idif, ↓e_isB, ↓e_sortI, ↓e_sortSetI, ↓e_tailR, ↓e_divmod, ↓e_strI, ↓e_lenD, ↓e_fmt, ↓e_fs2,   ↓e_add_int, ↓e_add_str, ↓e_add_tup, ↓e_add_obj, ↓e_iadd_int, ↓e_iadd_str, ↓e_iadd_obj, ↓e_I, ↓e_I0, ↓e_IS_int, ↓e_IS_str, ↓e_eq_str, ↓e_ne_str, ↓e_eq_int, ↓e_ne_int, ↓e_eq_bl, ↓e_ne_bl, ↓e_isN, ↓e_notN, ↓e_ix_tup, ↓e_ix_fl, ↓e_ix_str, ↓e_ix_obj, ↓e_in_tup, ↓e_nin_tup, ↓e_len_tup, ↓e_len_fl, ↓e_len_str, ↓e_len_obj, ↓e_int_int, ↓e_tuple_tup, ↓e_tuple_obj, ↓e_list_tup, ↓e_list_obj, ↓e_dget, ↓e_din, ↓e_dnin, ↓e_lstAt, ↓e_dicAt,   e_key_int, e_key_str, e_up, e_ty_str, e_ty_tup, e_ty_int, e_ty_bl, e_ty_non, atI0, atI1, atI2, atI3, atIL, ixN0, ixN1, cut_from1, e_ite_or, e_ite_and, zln, znl, zli, zil, zni, zin, sizeLine_eq, CMul, CDiv, cpow1018, true_or, or_true, kb_strstr, kb_tupstr, kb_tuptup, kb_strtup, kb_inttup, kb_bltup, kb_nontup, kb_strbl, kb_strint, kb_intbl, kb_intint, kb_blbl, kb_blint, kb_nonbl, kb_nonint, kb_nonstr, kb_intstr, kb_blstr, kb_tupbl, kb_tupint,   List.set_cons_zero, List.set_cons_succ, List.set_nil, List.getElem?_cons_zero, List.getElem?_cons_succ, List.getElem?_nil, List.length_cons, List.length_nil, List.length_map, List.length_append, e_lcN, e_lcC, e_forN, e_forC, List.getLast?_concat, List.dropLast_concat, List.nil_append, List.cons_append, List.append_nil, List.append_assoc, List.reverse_cons, List.reverse_nil, List.isEmpty_nil, List.isEmpty_cons, isEmpty_snoc, List.any_cons, List.any_nil, List.all_cons, List.all_nil, flatD, eqF, in_non, in_tup, in_str, in_int, in_bl, in_obj, in_fl, startA, List.map_cons, List.map_nil, List.replicate_succ, List.replicate_zero,   Nat.reduceAdd, Nat.reduceSub, Nat.reduceLeDiff, Nat.zero_add, Int.reduceLE, Int.reduceLT, Int.reduceToNat, Int.reducePow, Int.reduceNeg, Int.reduceAdd, Int.reduceSub,   Option.isSome_some, Option.isSome_none, Bool.not_true, Bool.not_false, Bool.not_eq_true', Bool.not_eq_eq_eq_not, Bool.not_eq_true, Bool.false_eq_true, Bool.true_eq_false, Bool.and_true, Bool.true_and, Bool.or_false, Bool.false_or, Bool.or_true, Bool.true_or, Bool.and_false, Bool.false_and, if_true, if_false, ite_true, ite_false, reduceIte, reduceCtorEq, decide_true, decide_false, decide_eq_true_eq, decide_eq_false_iff_not, true_and, and_true, eq_self, ne_eq, not_false_eq_true, not_true_eq_false, and_self, *])
  intro t nt
  have e1 := Ext.new (mo := .dic []) nt
  have ht : up M t (.dic []) t = some (.dic []) := up_same
  generalize up M t (.dic []) = M1 at *
  try (simp only [↓e_seq, ↓e_next, ↓e_break, ↓e_cont, ↓e_expr, ↓e_ret, ↓e_retN, ↓e_if, ↓e_never, ↓e_asg, ↓e_name, ↓e_agtup, ↓e_agcons, ↓e_agnil, ↓e_agsub, ↓e_aug, ↓e_dput, ↓e_var, ↓e_c, ↓e_op, ↓e_some, ↓e_none, ↓e_test, ↓e_and, ↓e_or, ↓e_not, ↓e_yes, ↓e_truth,   ↓e_tru_bl, ↓e_tru_int, ↓e_tru_non, ↓e_tru_str, ↓e_tru_tup, ↓e_tru_obj, ↓e_chain, ↓e_orV, ↓e_andV, ↓e_notV, ↓e_ifE, ↓e_neg, ↓e_nil, ↓e_cons, ↓e_tup, ↓e_lst, ↓e_dnew, ↓e_call, ↓e_cb, ↓e_isi, ↓e_sl, ↓e_onone, ↓e_osome, ↓e_rev, ↓e_lm, ↓e_append, ↓e_extend, ↓e_pop, ↓e_join, ↓e_dget2, ↓e_sortSet, ↓e_sortS, ↓e_setd, strsOf_map, ↓e_maxI, ↓e_disp, ↓e_pairN, ↓e_pairC, intsOf_map, ↓e_for, ↓e_ilist, ↓e_itup, ↓e_rng1, ↓e_rng2, ↓e_lc, ↓e_lc2, e_lc2N, ↓e_ienum, ↓e_izip, ↓e_anyB, ↓e_allB, ↓e_mulS, blsOf_map, ↓e_set0, ↓e_sadd, ↓e_sortTx, ↓e_sortD, ↓e_repr, ↓e_extT, ↓e_sc2, ↓e_sortZ, ↓e_tupVals, ↓e_wget, ↓e_wix, ↓e_listZip, zipD_nil, zipD_cons, ↓e_dgetF, ↓e_idif, ↓e_isB, ↓e_sortI, ↓e_sortSetI, ↓e_tailR, ↓e_divmod, ↓e_strI, ↓e_lenD, ↓e_fmt, ↓e_fs2,   ↓e_add_int, ↓e_add_str, ↓e_add_tup, ↓e_add_obj, ↓e_iadd_int, ↓e_iadd_str, ↓e_iadd_obj, ↓e_I, ↓e_I0, ↓e_IS_int, ↓e_IS_str, ↓e_eq_str, ↓e_ne_str, ↓e_eq_int, ↓e_ne_int, ↓e_eq_bl, ↓e_ne_bl, ↓e_isN, ↓e_notN, ↓e_ix_tup, ↓e_ix_fl, ↓e_ix_str, ↓e_ix_obj, ↓e_in_tup, ↓e_nin_tup, ↓e_len_tup, ↓e_len_fl, ↓e_len_str, ↓e_len_obj, ↓e_int_int, ↓e_tuple_tup, ↓e_tuple_obj, ↓e_list_tup, ↓e_list_obj, ↓e_dget, ↓e_din, ↓e_dnin, ↓e_lstAt, ↓e_dicAt,   e_key_int, e_key_str, e_up, e_ty_str, e_ty_tup, e_ty_int, e_ty_bl, e_ty_non, atI0, atI1, atI2, atI3, atIL, ixN0, ixN1, cut_from1, e_ite_or, e_ite_and, zln, znl, zli, zil, zni, zin, sizeLine_eq, CMul, CDiv, cpow1018, true_or, or_true, kb_strstr, kb_tupstr, kb_tuptup, kb_strtup, kb_inttup, kb_bltup, kb_nontup, kb_strbl, kb_strint, kb_intbl, kb_intint, kb_blbl, kb_blint, kb_nonbl, kb_nonint, kb_nonstr, kb_intstr, kb_blstr, kb_tupbl, kb_tupint,   List.set_cons_zero, List.set_cons_succ, List.set_nil, List.getElem?_cons_zero, List.getElem?_cons_succ, List.getElem?_nil, List.length_cons, List.length_nil, List.length_map, List.length_append, e_lcN, e_lcC, e_forN, e_forC, List.getLast?_concat, List.dropLast_concat, List.nil_append, List.cons_append, List.append_nil, List.append_assoc, List.reverse_cons, List.reverse_nil, List.isEmpty_nil, List.isEmpty_cons, isEmpty_snoc, List.any_cons, List.any_nil, List.all_cons, List.all_nil, flatD, eqF, in_non, in_tup, in_str, in_int, in_bl, in_obj, in_fl, startA, List.map_cons, List.map_nil, List.replicate_succ, List.replicate_zero,   Nat.reduceAdd, Nat.reduceSub, Nat.reduceLeDiff, Nat.zero_add, Int.reduceLE, Int.reduceLT, Int.reduceToNat, Int.reducePow, Int.reduceNeg, Int.reduceAdd, Int.reduceSub,   Option.isSome_some, Option.isSome_none, Bool.not_true, Bool.not_false, Bool.not_eq_true', Bool.not_eq_eq_eq_not, Bool.not_eq_true, Bool.false_eq_true, Bool.true_eq_false, Bool.and_true, Bool.true_and, Bool.or_false, Bool.false_or, Bool.or_true, Bool.true_or, Bool.and_false, Bool.false_and, if_true, if_false, ite_true, ite_false, reduceIte, reduceCtorEq, decide_true, decide_false, decide_eq_true_eq, decide_eq_false_iff_not, true_and, and_true, eq_self, ne_eq, not_false_eq_true, not_true_eq_false, and_self, *])
  refine ⟨rfl, f, rfl, hL, hsz, fun p M2 np e2 hp => ?_⟩
  have ht2 := e2 _ _ ht
  have npt : p ≠ t := (fresh_ne np ht).symm
  have hlo := f.ord_len
  generalize hO : f.ord = os at *
  have hnd : os.Nodup := by rw [← hO]; exact ordF_nd (acc := []) List.nodup_nil
  try (simp only [↓e_seq, ↓e_next, ↓e_break, ↓e_cont, ↓e_expr, ↓e_ret, ↓e_retN, ↓e_if, ↓e_never, ↓e_asg, ↓e_name, ↓e_agtup, ↓e_agcons, ↓e_agnil, ↓e_agsub, ↓e_aug, ↓e_dput, ↓e_var, ↓e_c, ↓e_op, ↓e_some, ↓e_none, ↓e_test, ↓e_and, ↓e_or, ↓e_not, ↓e_yes, ↓e_truth,   ↓e_tru_bl, ↓e_tru_int, ↓e_tru_non, ↓e_tru_str, ↓e_tru_tup, ↓e_tru_obj, ↓e_chain, ↓e_orV, ↓e_andV, ↓e_notV, ↓e_ifE, ↓e_neg, ↓e_nil, ↓e_cons, ↓e_tup, ↓e_lst, ↓e_dnew, ↓e_call, ↓e_cb, ↓e_isi, ↓e_sl, ↓e_onone, ↓e_osome, ↓e_rev, ↓e_lm, ↓e_append, ↓e_extend, ↓e_pop, ↓e_join, ↓e_dget2, ↓e_sortSet, ↓e_sortS, ↓e_setd, strsOf_map, ↓e_maxI, ↓e_disp, ↓e_pairN, ↓e_pairC, intsOf_map, ↓e_for, ↓e_ilist, ↓e_itup, ↓e_rng1, ↓e_rng2, ↓e_lc, ↓e_lc2, e_lc2N, ↓e_ienum, ↓e_izip, ↓e_anyB, ↓e_allB, ↓e_mulS, blsOf_map, ↓e_set0, ↓e_sadd, ↓e_sortTx, ↓e_sortD, ↓e_repr, ↓e_extT, ↓e_sc2, ↓e_sortZ, ↓e_tupVals, ↓e_wget, ↓e_wix, ↓e_listZip, zipD_nil, zipD_cons, ↓e_dgetF, ↓e_idif, ↓e_isB, ↓e_sortI, ↓e_sortSetI, ↓e_tailR, ↓e_divmod, ↓e_strI, ↓e_lenD, ↓e_fmt, ↓e_fs2,   ↓e_add_int, ↓e_add_str, ↓e_add_tup, ↓e_add_obj, ↓e_iadd_int, ↓e_iadd_str, ↓e_iadd_obj, ↓e_I, ↓e_I0, ↓e_IS_int, ↓e_IS_str, ↓e_eq_str, ↓e_ne_str, ↓e_eq_int, ↓e_ne_int, ↓e_eq_bl, ↓e_ne_bl, ↓e_isN, ↓e_notN, ↓e_ix_tup, ↓e_ix_fl, ↓e_ix_str, ↓e_ix_obj, ↓e_in_tup, ↓e_nin_tup, ↓e_len_tup, ↓e_len_fl, ↓e_len_str, ↓e_len_obj, ↓e_int_int, ↓e_tuple_tup, ↓e_tuple_obj, ↓e_list_tup, ↓e_list_obj, ↓e_dget, ↓e_din, ↓e_dnin, ↓e_lstAt, ↓e_dicAt,   e_key_int, e_key_str, e_up, e_ty_str, e_ty_tup, e_ty_int, e_ty_bl, e_ty_non, atI0, atI1, atI2, atI3, atIL, ixN0, ixN1, cut_from1, e_ite_or, e_ite_and, zln, znl, zli, zil, zni, zin, sizeLine_eq, CMul, CDiv, cpow1018, true_or, or_true, kb_strstr, kb_tupstr, kb_tuptup, kb_strtup, kb_inttup, kb_bltup, kb_nontup, kb_strbl, kb_strint, kb_intbl, kb_intint, kb_blbl, kb_blint, kb_nonbl, kb_nonint, kb_nonstr, kb_intstr, kb_blstr, kb_tupbl, kb_tupint,   List.set_cons_zero, List.set_cons_succ, List.set_nil, List.getElem?_cons_zero, List.getElem?_cons_succ, List.getElem?_nil, List.length_cons, List.length_nil, List.length_map, List.length_append, e_lcN, e_lcC, e_forN, e_forC, List.getLast?_concat, List.dropLast_concat, List.nil_append, List.cons_append, List.append_nil, List.append_assoc, List.reverse_cons, List.reverse_nil, List.isEmpty_nil, List.isEmpty_cons, isEmpty_snoc, List.any_cons, List.any_nil, List.all_cons, List.all_nil, flatD, eqF, in_non, in_tup, in_str, in_int, in_bl, in_obj, in_fl, startA, List.map_cons, List.map_nil, List.replicate_succ, List.replicate_zero,   Nat.reduceAdd, Nat.reduceSub, Nat.reduceLeDiff, Nat.zero_add, Int.reduceLE, Int.reduceLT, Int.reduceToNat, Int.reducePow, Int.reduceNeg, Int.reduceAdd, Int.reduceSub,   Option.isSome_some, Option.isSome_none, Bool.not_true, Bool.not_false, Bool.not_eq_true', Bool.not_eq_eq_eq_not, Bool.not_eq_true, Bool.false_eq_true, Bool.true_eq_false, Bool.and_true, Bool.true_and, Bool.or_false, Bool.false_or, Bool.or_true, Bool.true_or, Bool.and_false, Bool.false_and, if_true, if_false, ite_true, ite_false, reduceIte, reduceCtorEq, decide_true, decide_false, decide_eq_true_eq, decide_eq_false_iff_not, true_and, and_true, eq_self, ne_eq, not_false_eq_true, not_true_eq_false, and_self, *])
  refine ⟨by omega, by omega, ?_⟩
  refine for_run (fun ds env M' => ∃ (k m : Nat) (kvs : List (Key × D)) (x4 x5 : Option D), ds = rngD (k : Int) m ∧ k + m = os.length ∧ env = [some f.d, some (.str z_abcdefghijklmnopqrstuvwxyz), some (.obj t), some (.obj p), x4, x5] ∧ M' t = some (.dic kvs) ∧ M' p = some (.lst (os.map D.str)) ∧ kvs.length = k ∧ Nmd kvs (os.take k) ∧ Ext M M') (fun _ _ _ _ => trivial) ?_ ?_ ⟨0, os.length, [], none, none, rfl, by omega, rfl, ht2, hp, rfl, ⟨fun i s h => by simp at h, fun s _ => rfl⟩, e1.trans e2⟩
  · rintro env M' ⟨k, m, kvs, x4, x5, hd, hk, rfl, h1, h2, hlk, hn, he⟩
    have z := rngD_nil hd.symm
    subst z
    rw [List.take_of_length_le (by omega)] at hn
    clear hd
    try (simp only [↓e_seq, ↓e_next, ↓e_break, ↓e_cont, ↓e_expr, ↓e_ret, ↓e_retN, ↓e_if, ↓e_never, ↓e_asg, ↓e_name, ↓e_agtup, ↓e_agcons, ↓e_agnil, ↓e_agsub, ↓e_aug, ↓e_dput, ↓e_var, ↓e_c, ↓e_op, ↓e_some, ↓e_none, ↓e_test, ↓e_and, ↓e_or, ↓e_not, ↓e_yes, ↓e_truth,   ↓e_tru_bl, ↓e_tru_int, ↓e_tru_non, ↓e_tru_str, ↓e_tru_tup, ↓e_tru_obj, ↓e_chain, ↓e_orV, ↓e_andV, ↓e_notV, ↓e_ifE, ↓e_neg, ↓e_nil, ↓e_cons, ↓e_tup, ↓e_lst, ↓e_dnew, ↓e_call, ↓e_cb, ↓e_isi, ↓e_sl, ↓e_onone, ↓e_osome, ↓e_rev, ↓e_lm, ↓e_append, ↓e_extend, ↓e_pop, ↓e_join, ↓e_dget2, ↓e_sortSet, ↓e_sortS, ↓e_setd, strsOf_map, ↓e_maxI, ↓e_disp, ↓e_pairN, ↓e_pairC, intsOf_map, ↓e_for, ↓e_ilist, ↓e_itup, ↓e_rng1, ↓e_rng2, ↓e_lc, ↓e_lc2, e_lc2N, ↓e_ienum, ↓e_izip, ↓e_anyB, ↓e_allB, ↓e_mulS, blsOf_map, ↓e_set0, ↓e_sadd, ↓e_sortTx, ↓e_sortD, ↓e_repr, ↓e_extT, ↓e_sc2, ↓e_sortZ, ↓e_tupVals, ↓e_wget, ↓e_wix, ↓e_listZip, zipD_nil, zipD_cons, ↓e_dgetF, ↓e_idif, ↓e_isB, ↓e_sortI, ↓e_sortSetI, ↓e_tailR, ↓e_divmod, ↓e_strI, ↓e_lenD, ↓e_fmt, ↓e_fs2,   ↓e_add_int, ↓e_add_str, ↓e_add_tup, ↓e_add_obj, ↓e_iadd_int, ↓e_iadd_str, ↓e_iadd_obj, ↓e_I, ↓e_I0, ↓e_IS_int, ↓e_IS_str, ↓e_eq_str, ↓e_ne_str, ↓e_eq_int, ↓e_ne_int, ↓e_eq_bl, ↓e_ne_bl, ↓e_isN, ↓e_notN, ↓e_ix_tup, ↓e_ix_fl, ↓e_ix_str, ↓e_ix_obj, ↓e_in_tup, ↓e_nin_tup, ↓e_len_tup, ↓e_len_fl, ↓e_len_str, ↓e_len_obj, ↓e_int_int, ↓e_tuple_tup, ↓e_tuple_obj, ↓e_list_tup, ↓e_list_obj, ↓e_dget, ↓e_din, ↓e_dnin, ↓e_lstAt, ↓e_dicAt,   e_key_int, e_key_str, e_up, e_ty_str, e_ty_tup, e_ty_int, e_ty_bl, e_ty_non, atI0, atI1, atI2, atI3, atIL, ixN0, ixN1, cut_from1, e_ite_or, e_ite_and, zln, znl, zli, zil, zni, zin, sizeLine_eq, CMul, CDiv, cpow1018, true_or, or_true, kb_strstr, kb_tupstr, kb_tuptup, kb_strtup, kb_inttup, kb_bltup, kb_nontup, kb_strbl, kb_strint, kb_intbl, kb_intint, kb_blbl, kb_blint, kb_nonbl, kb_nonint, kb_nonstr, kb_intstr, kb_blstr, kb_tupbl, kb_tupint,   List.set_cons_zero, List.set_cons_succ, List.set_nil, List.getElem?_cons_zero, List.getElem?_cons_succ, List.getElem?_nil, List.length_cons, List.length_nil, List.length_map, List.length_append, e_lcN, e_lcC, e_forN, e_forC, List.getLast?_concat, List.dropLast_concat, List.nil_append, List.cons_append, List.append_nil, List.append_assoc, List.reverse_cons, List.reverse_nil, List.isEmpty_nil, List.isEmpty_cons, isEmpty_snoc, List.any_cons, List.any_nil, List.all_cons, List.all_nil, flatD, eqF, in_non, in_tup, in_str, in_int, in_bl, in_obj, in_fl, startA, List.map_cons, List.map_nil, List.replicate_succ, List.replicate_zero,   Nat.reduceAdd, Nat.reduceSub, Nat.reduceLeDiff, Nat.zero_add, Int.reduceLE, Int.reduceLT, Int.reduceToNat, Int.reducePow, Int.reduceNeg, Int.reduceAdd, Int.reduceSub,   Option.isSome_some, Option.isSome_none, Bool.not_true, Bool.not_false, Bool.not_eq_true', Bool.not_eq_eq_eq_not, Bool.not_eq_true, Bool.false_eq_true, Bool.true_eq_false, Bool.and_true, Bool.true_and, Bool.or_false, Bool.false_or, Bool.or_true, Bool.true_or, Bool.and_false, Bool.false_and, if_true, if_false, ite_true, ite_false, reduceIte, reduceCtorEq, decide_true, decide_false, decide_eq_true_eq, decide_eq_false_iff_not, true_and, and_true, eq_self, ne_eq, not_false_eq_true, not_true_eq_false, and_self, *])
    refine ⟨rfl, f, t, kvs, nmS os, rfl, hL, h1, hn.get, fun M3 e3 => ?_⟩
    have z := q M3 (he.trans e3)
    unfold Fm.rn at z
    rw [hO] at z
    exact z
  · rintro d r N env M' ⟨k, m, kvs, x4, x5, hd, hk, rfl, h1, h2, hlk, hn, he⟩ next
    obtain ⟨m, rfl, rfl, rfl⟩ := rngD_cons hd.symm
    have e26 := z26
    have l26 := z26l
    have hat : atI lets26 ((k : Int) % 26) = some (letA k) := at26 (Int.emod_nonneg _ (by omega)) (Int.emod_lt_of_pos _ (by omega))
    have hki : k < os.length := by omega
    have hat2 : atI (os.map D.str) (k : Int) = some (.str os[k]) := by
      rw [atIn, List.getElem?_map, List.getElem?_eq_getElem hki]
      rfl
    have hnew : os[k] ∉ os.take k := fun z => by
      obtain ⟨j, hj, e⟩ := List.getElem_of_mem z
      rw [List.length_take] at hj
      rw [List.getElem_take] at e
      exact List.pairwise_iff_getElem.mp hnd j k (by omega) hki (by omega) e
    have htk : os.take k ++ [os[k]] = os.take (k + 1) := List.take_append_getElem hki
    have hlt : (os.take k).length = k := by rw [List.length_take]; omega
    have hadd := hn.add hnew
    rw [htk, hlt] at hadd
    have hput := put_new (v := ltD (nmI (k : Int))) (hn.2 _ hnew)
    have nx : ∀ x4 x5, N [some f.d, some (.str z_abcdefghijklmnopqrstuvwxyz), some (.obj t), some (.obj p), x4, x5] (up M' t (.dic (putA kvs (.inr os[k]) (ltD (nmI (k : Int)))))) := fun x4 x5 => next _ _ ⟨k + 1, m, _, x4, x5, by rw [show ((k + 1 : Nat) : Int) = (k : Int) + 1 by omega], by omega, rfl, up_same, by rw [up_ne npt]; exact h2, by rw [hput]; omega, hadd, Ext.upd nt he⟩
    clear next hadd hput hnew hn q hd
    have hc : CDiv (k : Int) 26 := ⟨by omega, by decide⟩
    have hd0 : 0 ≤ (k : Int) / 26 := Int.ediv_nonneg (by omega) (by omega)
    have hkl : kvs.length < 16777216 := by omega
    unfold ltD nmI at nx
    try (simp only [↓e_seq, ↓e_next, ↓e_break, ↓e_cont, ↓e_expr, ↓e_ret, ↓e_retN, ↓e_if, ↓e_never, ↓e_asg, ↓e_name, ↓e_agtup, ↓e_agcons, ↓e_agnil, ↓e_agsub, ↓e_aug, ↓e_dput, ↓e_var, ↓e_c, ↓e_op, ↓e_some, ↓e_none, ↓e_test, ↓e_and, ↓e_or, ↓e_not, ↓e_yes, ↓e_truth,   ↓e_tru_bl, ↓e_tru_int, ↓e_tru_non, ↓e_tru_str, ↓e_tru_tup, ↓e_tru_obj, ↓e_chain, ↓e_orV, ↓e_andV, ↓e_notV, ↓e_ifE, ↓e_neg, ↓e_nil, ↓e_cons, ↓e_tup, ↓e_lst, ↓e_dnew, ↓e_call, ↓e_cb, ↓e_isi, ↓e_sl, ↓e_onone, ↓e_osome, ↓e_rev, ↓e_lm, ↓e_append, ↓e_extend, ↓e_pop, ↓e_join, ↓e_dget2, ↓e_sortSet, ↓e_sortS, ↓e_setd, strsOf_map, ↓e_maxI, ↓e_disp, ↓e_pairN, ↓e_pairC, intsOf_map, ↓e_for, ↓e_ilist, ↓e_itup, ↓e_rng1, ↓e_rng2, ↓e_lc, ↓e_lc2, e_lc2N, ↓e_ienum, ↓e_izip, ↓e_anyB, ↓e_allB, ↓e_mulS, blsOf_map, ↓e_set0, ↓e_sadd, ↓e_sortTx, ↓e_sortD, ↓e_repr, ↓e_extT, ↓e_sc2, ↓e_sortZ, ↓e_tupVals, ↓e_wget, ↓e_wix, ↓e_listZip, zipD_nil, zipD_cons, ↓e_dgetF, ↓e_idif, ↓e_isB, ↓e_sortI, ↓e_sortSetI, ↓e_tailR, ↓e_divmod, ↓e_strI, ↓e_lenD, ↓e_fmt, ↓e_fs2,   ↓e_add_int, ↓e_add_str, ↓e_add_tup, ↓e_add_obj, ↓e_iadd_int, ↓e_iadd_str, ↓e_iadd_obj, ↓e_I, ↓e_I0, ↓e_IS_int, ↓e_IS_str, ↓e_eq_str, ↓e_ne_str, ↓e_eq_int, ↓e_ne_int, ↓e_eq_bl, ↓e_ne_bl, ↓e_isN, ↓e_notN, ↓e_ix_tup, ↓e_ix_fl, ↓e_ix_str, ↓e_ix_obj, ↓e_in_tup, ↓e_nin_tup, ↓e_len_tup, ↓e_len_fl, ↓e_len_str, ↓e_len_obj, ↓e_int_int, ↓e_tuple_tup, ↓e_tuple_obj, ↓e_list_tup, ↓e_list_obj, ↓e_dget, ↓e_din, ↓e_dnin, ↓e_lstAt, ↓e_dicAt,   e_key_int, e_key_str, e_up, e_ty_str, e_ty_tup, e_ty_int, e_ty_bl, e_ty_non, atI0, atI1, atI2, atI3, atIL, ixN0, ixN1, cut_from1, e_ite_or, e_ite_and, zln, znl, zli, zil, zni, zin, sizeLine_eq, CMul, CDiv, cpow1018, true_or, or_true, kb_strstr, kb_tupstr, kb_tuptup, kb_strtup, kb_inttup, kb_bltup, kb_nontup, kb_strbl, kb_strint, kb_intbl, kb_intint, kb_blbl, kb_blint, kb_nonbl, kb_nonint, kb_nonstr, kb_intstr, kb_blstr, kb_tupbl, kb_tupint,   List.set_cons_zero, List.set_cons_succ, List.set_nil, List.getElem?_cons_zero, List.getElem?_cons_succ, List.getElem?_nil, List.length_cons, List.length_nil, List.length_map, List.length_append, e_lcN, e_lcC, e_forN, e_forC, List.getLast?_concat, List.dropLast_concat, List.nil_append, List.cons_append, List.append_nil, List.append_assoc, List.reverse_cons, List.reverse_nil, List.isEmpty_nil, List.isEmpty_cons, isEmpty_snoc, List.any_cons, List.any_nil, List.all_cons, List.all_nil, flatD, eqF, in_non, in_tup, in_str, in_int, in_bl, in_obj, in_fl, startA, List.map_cons, List.map_nil, List.replicate_succ, List.replicate_zero,   Nat.reduceAdd, Nat.reduceSub, Nat.reduceLeDiff, Nat.zero_add, Int.reduceLE, Int.reduceLT, Int.reduceToNat, Int.reducePow, Int.reduceNeg, Int.reduceAdd, Int.reduceSub,   Option.isSome_some, Option.isSome_none, Bool.not_true, Bool.not_false, Bool.not_eq_true', Bool.not_eq_eq_eq_not, Bool.not_eq_true, Bool.false_eq_true, Bool.true_eq_false, Bool.and_true, Bool.true_and, Bool.or_false, Bool.false_or, Bool.or_true, Bool.true_or, Bool.and_false, Bool.false_and, if_true, if_false, ite_true, ite_false, reduceIte, reduceCtorEq, decide_true, decide_false, decide_eq_true_eq, decide_eq_false_iff_not, true_and, and_true, eq_self, ne_eq, not_false_eq_true, not_true_eq_false, and_self, *])
    by_cases c : 25 < (k : Int)
    · have c2 : ¬ ((k : Int) / 26 = 0) := by omega
      have hs := tos_short (k := (k : Int) / 26 - 1) (by omega) (by omega)
      have hg := log_short (k := (k : Int) / 26 - 1) (by omega) (by omega)
      have hl1 : (⟨#[letA k]⟩ : Str).length = 1 := rfl
      have hla : (⟨#[letA k]⟩ : Str).length + ((toString ((k : Int) / 26 - 1) : String) : Str).length ≤ 16777216 := by omega
      simp only [if_neg c2] at nx
      try (simp only [↓e_seq, ↓e_next, ↓e_break, ↓e_cont, ↓e_expr, ↓e_ret, ↓e_retN, ↓e_if, ↓e_never, ↓e_asg, ↓e_name, ↓e_agtup, ↓e_agcons, ↓e_agnil, ↓e_agsub, ↓e_aug, ↓e_dput, ↓e_var, ↓e_c, ↓e_op, ↓e_some, ↓e_none, ↓e_test, ↓e_and, ↓e_or, ↓e_not, ↓e_yes, ↓e_truth,   ↓e_tru_bl, ↓e_tru_int, ↓e_tru_non, ↓e_tru_str, ↓e_tru_tup, ↓e_tru_obj, ↓e_chain, ↓e_orV, ↓e_andV, ↓e_notV, ↓e_ifE, ↓e_neg, ↓e_nil, ↓e_cons, ↓e_tup, ↓e_lst, ↓e_dnew, ↓e_call, ↓e_cb, ↓e_isi, ↓e_sl, ↓e_onone, ↓e_osome, ↓e_rev, ↓e_lm, ↓e_append, ↓e_extend, ↓e_pop, ↓e_join, ↓e_dget2, ↓e_sortSet, ↓e_sortS, ↓e_setd, strsOf_map, ↓e_maxI, ↓e_disp, ↓e_pairN, ↓e_pairC, intsOf_map, ↓e_for, ↓e_ilist, ↓e_itup, ↓e_rng1, ↓e_rng2, ↓e_lc, ↓e_lc2, e_lc2N, ↓e_ienum, ↓e_izip, ↓e_anyB, ↓e_allB, ↓e_mulS, blsOf_map, ↓e_set0, ↓e_sadd, ↓e_sortTx, ↓e_sortD, ↓e_repr, ↓e_extT, ↓e_sc2, ↓e_sortZ, ↓e_tupVals, ↓e_wget, ↓e_wix, ↓e_listZip, zipD_nil, zipD_cons, ↓e_dgetF, ↓e_idif, ↓e_isB, ↓e_sortI, ↓e_sortSetI, ↓e_tailR, ↓e_divmod, ↓e_strI, ↓e_lenD, ↓e_fmt, ↓e_fs2,   ↓e_add_int, ↓e_add_str, ↓e_add_tup, ↓e_add_obj, ↓e_iadd_int, ↓e_iadd_str, ↓e_iadd_obj, ↓e_I, ↓e_I0, ↓e_IS_int, ↓e_IS_str, ↓e_eq_str, ↓e_ne_str, ↓e_eq_int, ↓e_ne_int, ↓e_eq_bl, ↓e_ne_bl, ↓e_isN, ↓e_notN, ↓e_ix_tup, ↓e_ix_fl, ↓e_ix_str, ↓e_ix_obj, ↓e_in_tup, ↓e_nin_tup, ↓e_len_tup, ↓e_len_fl, ↓e_len_str, ↓e_len_obj, ↓e_int_int, ↓e_tuple_tup, ↓e_tuple_obj, ↓e_list_tup, ↓e_list_obj, ↓e_dget, ↓e_din, ↓e_dnin, ↓e_lstAt, ↓e_dicAt,   e_key_int, e_key_str, e_up, e_ty_str, e_ty_tup, e_ty_int, e_ty_bl, e_ty_non, atI0, atI1, atI2, atI3, atIL, ixN0, ixN1, cut_from1, e_ite_or, e_ite_and, zln, znl, zli, zil, zni, zin, sizeLine_eq, CMul, CDiv, cpow1018, true_or, or_true, kb_strstr, kb_tupstr, kb_tuptup, kb_strtup, kb_inttup, kb_bltup, kb_nontup, kb_strbl, kb_strint, kb_intbl, kb_intint, kb_blbl, kb_blint, kb_nonbl, kb_nonint, kb_nonstr, kb_intstr, kb_blstr, kb_tupbl, kb_tupint,   List.set_cons_zero, List.set_cons_succ, List.set_nil, List.getElem?_cons_zero, List.getElem?_cons_succ, List.getElem?_nil, List.length_cons, List.length_nil, List.length_map, List.length_append, e_lcN, e_lcC, e_forN, e_forC, List.getLast?_concat, List.dropLast_concat, List.nil_append, List.cons_append, List.append_nil, List.append_assoc, List.reverse_cons, List.reverse_nil, List.isEmpty_nil, List.isEmpty_cons, isEmpty_snoc, List.any_cons, List.any_nil, List.all_cons, List.all_nil, flatD, eqF, in_non, in_tup, in_str, in_int, in_bl, in_obj, in_fl, startA, List.map_cons, List.map_nil, List.replicate_succ, List.replicate_zero,   Nat.reduceAdd, Nat.reduceSub, Nat.reduceLeDiff, Nat.zero_add, Int.reduceLE, Int.reduceLT, Int.reduceToNat, Int.reducePow, Int.reduceNeg, Int.reduceAdd, Int.reduceSub,   Option.isSome_some, Option.isSome_none, Bool.not_true, Bool.not_false, Bool.not_eq_true', Bool.not_eq_eq_eq_not, Bool.not_eq_true, Bool.false_eq_true, Bool.true_eq_false, Bool.and_true, Bool.true_and, Bool.or_false, Bool.false_or, Bool.or_true, Bool.true_or, Bool.and_false, Bool.false_and, if_true, if_false, ite_true, ite_false, reduceIte, reduceCtorEq, decide_true, decide_false, decide_eq_true_eq, decide_eq_false_iff_not, true_and, and_true, eq_self, ne_eq, not_false_eq_true, not_true_eq_false, and_self, *])
      all_goals omega
    · have c2 : ((k : Int) / 26 = 0) := by omega
      simp only [if_pos c2] at nx
      try (simp only [↓e_seq, ↓e_next, ↓e_break, ↓e_cont, ↓e_expr, ↓e_ret, ↓e_retN, ↓e_if, ↓e_never, ↓e_asg, ↓e_name, ↓e_agtup, ↓e_agcons, ↓e_agnil, ↓e_agsub, ↓e_aug, ↓e_dput, ↓e_var, ↓e_c, ↓e_op, ↓e_some, ↓e_none, ↓e_test, ↓e_and, ↓e_or, ↓e_not, ↓e_yes, ↓e_truth,   ↓e_tru_bl, ↓e_tru_int, ↓e_tru_non, ↓e_tru_str, ↓e_tru_tup, ↓e_tru_obj, ↓e_chain, ↓e_orV, ↓e_andV, ↓e_notV, ↓e_ifE, ↓e_neg, ↓e_nil, ↓e_cons, ↓e_tup, ↓e_lst, ↓e_dnew, ↓e_call, ↓e_cb, ↓e_isi, ↓e_sl, ↓e_onone, ↓e_osome, ↓e_rev, ↓e_lm, ↓e_append, ↓e_extend, ↓e_pop, ↓e_join, ↓e_dget2, ↓e_sortSet, ↓e_sortS, ↓e_setd, strsOf_map, ↓e_maxI, ↓e_disp, ↓e_pairN, ↓e_pairC, intsOf_map, ↓e_for, ↓e_ilist, ↓e_itup, ↓e_rng1, ↓e_rng2, ↓e_lc, ↓e_lc2, e_lc2N, ↓e_ienum, ↓e_izip, ↓e_anyB, ↓e_allB, ↓e_mulS, blsOf_map, ↓e_set0, ↓e_sadd, ↓e_sortTx, ↓e_sortD, ↓e_repr, ↓e_extT, ↓e_sc2, ↓e_sortZ, ↓e_tupVals, ↓e_wget, ↓e_wix, ↓e_listZip, zipD_nil, zipD_cons, ↓e_dgetF, ↓e_idif, ↓e_isB, ↓e_sortI, ↓e_sortSetI, ↓e_tailR, ↓e_divmod, ↓e_strI, ↓e_lenD, ↓e_fmt, ↓e_fs2,   ↓e_add_int, ↓e_add_str, ↓e_add_tup, ↓e_add_obj, ↓e_iadd_int, ↓e_iadd_str, ↓e_iadd_obj, ↓e_I, ↓e_I0, ↓e_IS_int, ↓e_IS_str, ↓e_eq_str, ↓e_ne_str, ↓e_eq_int, ↓e_ne_int, ↓e_eq_bl, ↓e_ne_bl, ↓e_isN, ↓e_notN, ↓e_ix_tup, ↓e_ix_fl, ↓e_ix_str, ↓e_ix_obj, ↓e_in_tup, ↓e_nin_tup, ↓e_len_tup, ↓e_len_fl, ↓e_len_str, ↓e_len_obj, ↓e_int_int, ↓e_tuple_tup, ↓e_tuple_obj, ↓e_list_tup, ↓e_list_obj, ↓e_dget, ↓e_din, ↓e_dnin, ↓e_lstAt, ↓e_dicAt,   e_key_int, e_key_str, e_up, e_ty_str, e_ty_tup, e_ty_int, e_ty_bl, e_ty_non, atI0, atI1, atI2, atI3, atIL, ixN0, ixN1, cut_from1, e_ite_or, e_ite_and, zln, znl, zli, zil, zni, zin, sizeLine_eq, CMul, CDiv, cpow1018, true_or, or_true, kb_strstr, kb_tupstr, kb_tuptup, kb_strtup, kb_inttup, kb_bltup, kb_nontup, kb_strbl, kb_strint, kb_intbl, kb_intint, kb_blbl, kb_blint, kb_nonbl, kb_nonint, kb_nonstr, kb_intstr, kb_blstr, kb_tupbl, kb_tupint,   List.set_cons_zero, List.set_cons_succ, List.set_nil, List.getElem?_cons_zero, List.getElem?_cons_succ, List.getElem?_nil, List.length_cons, List.length_nil, List.length_map, List.length_append, e_lcN, e_lcC, e_forN, e_forC, List.getLast?_concat, List.dropLast_concat, List.nil_append, List.cons_append, List.append_nil, List.append_assoc, List.reverse_cons, List.reverse_nil, List.isEmpty_nil, List.isEmpty_cons, isEmpty_snoc, List.any_cons, List.any_nil, List.all_cons, List.all_nil, flatD, eqF, in_non, in_tup, in_str, in_int, in_bl, in_obj, in_fl, startA, List.map_cons, List.map_nil, List.replicate_succ, List.replicate_zero,   Nat.reduceAdd, Nat.reduceSub, Nat.reduceLeDiff, Nat.zero_add, Int.reduceLE, Int.reduceLT, Int.reduceToNat, Int.reducePow, Int.reduceNeg, Int.reduceAdd, Int.reduceSub,   Option.isSome_some, Option.isSome_none, Bool.not_true, Bool.not_false, Bool.not_eq_true', Bool.not_eq_eq_eq_not, Bool.not_eq_true, Bool.false_eq_true, Bool.true_eq_false, Bool.and_true, Bool.true_and, Bool.or_false, Bool.false_or, Bool.or_true, Bool.true_or, Bool.and_false, Bool.false_and, if_true, if_false, ite_true, ite_false, reduceIte, reduceCtorEq, decide_true, decide_false, decide_eq_true_eq, decide_eq_false_iff_not, true_and, and_true, eq_self, ne_eq, not_false_eq_true, not_true_eq_false, and_self, *])
      all_goals omega
theorem zz26 : z_zyxwvutsrqponmlkjihgfedcba.cps.toList.length = 26 ∧ z_zyxwvutsrqponmlkjihgfedcba.length = 26 := by decide +kernel
theorem p_law (ds : List D) (M : Sto) (Q : D → Sto → Prop) (Xa) (hl : ds.length = 1) (h : A_law ds M Q Xa) : a_law A_box (A_lettered 40) (A_same 200) (A_renamed 120) (A_renamed 120) A_draw ax0 (Done Q) (startA ["script", "box", "k", "formula", "wide", "letter"] ds) M := by
  obtain ⟨ns, rfl, q⟩ := h
  unfold a_law
  try (simp only [↓e_seq, ↓e_next, ↓e_break, ↓e_cont, ↓e_expr, ↓e_ret, ↓e_retN, ↓e_if, ↓e_never, ↓e_asg, ↓e_name, ↓e_agtup, ↓e_agcons, ↓e_agnil, ↓e_agsub, ↓e_aug, ↓e_dput, ↓e_var, ↓e_c, ↓e_op, ↓e_some, ↓e_none, ↓e_test, ↓e_and, ↓e_or, ↓e_not, ↓e_yes, ↓e_truth,   ↓e_tru_bl, ↓e_tru_int, ↓e_tru_non, ↓e_tru_str, ↓e_tru_tup, ↓e_tru_obj, ↓e_chain, ↓e_orV, ↓e_andV, ↓e_notV, ↓e_ifE, ↓e_neg, ↓e_nil, ↓e_cons, ↓e_tup, ↓e_lst, ↓e_dnew, ↓e_call, ↓e_cb, ↓e_isi, ↓e_sl, ↓e_onone, ↓e_osome, ↓e_rev, ↓e_lm, ↓e_append, ↓e_extend, ↓e_pop, ↓e_join, ↓e_dget2, ↓e_sortSet, ↓e_sortS, ↓e_setd, strsOf_map, ↓e_maxI, ↓e_disp, ↓e_pairN, ↓e_pairC, intsOf_map, ↓e_for, ↓e_ilist, ↓e_itup, ↓e_rng1, ↓e_rng2, ↓e_lc, ↓e_lc2, e_lc2N, ↓e_ienum, ↓e_izip, ↓e_anyB, ↓e_allB, ↓e_mulS, blsOf_map, ↓e_set0, ↓e_sadd, ↓e_sortTx, ↓e_sortD, ↓e_repr, ↓e_extT, ↓e_sc2, ↓e_sortZ, ↓e_tupVals, ↓e_wget, ↓e_wix, ↓e_listZip, zipD_nil, zipD_cons, ↓e_dgetF, ↓e_idif, ↓e_isB, ↓e_sortI, ↓e_sortSetI, ↓e_tailR, ↓e_divmod, ↓e_strI, ↓e_lenD, ↓e_fmt, ↓e_fs2,   ↓e_add_int, ↓e_add_str, ↓e_add_tup, ↓e_add_obj, ↓e_iadd_int, ↓e_iadd_str, ↓e_iadd_obj, ↓e_I, ↓e_I0, ↓e_IS_int, ↓e_IS_str, ↓e_eq_str, ↓e_ne_str, ↓e_eq_int, ↓e_ne_int, ↓e_eq_bl, ↓e_ne_bl, ↓e_isN, ↓e_notN, ↓e_ix_tup, ↓e_ix_fl, ↓e_ix_str, ↓e_ix_obj, ↓e_in_tup, ↓e_nin_tup, ↓e_len_tup, ↓e_len_fl, ↓e_len_str, ↓e_len_obj, ↓e_int_int, ↓e_tuple_tup, ↓e_tuple_obj, ↓e_list_tup, ↓e_list_obj, ↓e_dget, ↓e_din, ↓e_dnin, ↓e_lstAt, ↓e_dicAt,   e_key_int, e_key_str, e_up, e_ty_str, e_ty_tup, e_ty_int, e_ty_bl, e_ty_non, atI0, atI1, atI2, atI3, atIL, ixN0, ixN1, cut_from1, e_ite_or, e_ite_and, zln, znl, zli, zil, zni, zin, sizeLine_eq, CMul, CDiv, cpow1018, true_or, or_true, kb_strstr, kb_tupstr, kb_tuptup, kb_strtup, kb_inttup, kb_bltup, kb_nontup, kb_strbl, kb_strint, kb_intbl, kb_intint, kb_blbl, kb_blint, kb_nonbl, kb_nonint, kb_nonstr, kb_intstr, kb_blstr, kb_tupbl, kb_tupint,   List.set_cons_zero, List.set_cons_succ, List.set_nil, List.getElem?_cons_zero, List.getElem?_cons_succ, List.getElem?_nil, List.length_cons, List.length_nil, List.length_map, List.length_append, e_lcN, e_lcC, e_forN, e_forC, List.getLast?_concat, List.dropLast_concat, List.nil_append, List.cons_append, List.append_nil, List.append_assoc, List.reverse_cons, List.reverse_nil, List.isEmpty_nil, List.isEmpty_cons, isEmpty_snoc, List.any_cons, List.any_nil, List.all_cons, List.all_nil, flatD, eqF, in_non, in_tup, in_str, in_int, in_bl, in_obj, in_fl, startA, List.map_cons, List.map_nil, List.replicate_succ, List.replicate_zero,   Nat.reduceAdd, Nat.reduceSub, Nat.reduceLeDiff, Nat.zero_add, Int.reduceLE, Int.reduceLT, Int.reduceToNat, Int.reducePow, Int.reduceNeg, Int.reduceAdd, Int.reduceSub,   Option.isSome_some, Option.isSome_none, Bool.not_true, Bool.not_false, Bool.not_eq_true', Bool.not_eq_eq_eq_not, Bool.not_eq_true, Bool.false_eq_true, Bool.true_eq_false, Bool.and_true, Bool.true_and, Bool.or_false, Bool.false_or, Bool.or_true, Bool.true_or, Bool.and_false, Bool.false_and, if_true, if_false, ite_true, ite_false, reduceIte, reduceCtorEq, decide_true, decide_false, decide_eq_true_eq, decide_eq_false_iff_not, true_and, and_true, eq_self, ne_eq, not_false_eq_true, not_true_eq_false, and_self, *])
  refine ⟨rfl, ns, 63, rfl, by omega, by omega, fun b d M1 hb0 hd0 e1 hb => ?_⟩
  clear hb0 hd0 e1
  try (simp only [↓e_seq, ↓e_next, ↓e_break, ↓e_cont, ↓e_expr, ↓e_ret, ↓e_retN, ↓e_if, ↓e_never, ↓e_asg, ↓e_name, ↓e_agtup, ↓e_agcons, ↓e_agnil, ↓e_agsub, ↓e_aug, ↓e_dput, ↓e_var, ↓e_c, ↓e_op, ↓e_some, ↓e_none, ↓e_test, ↓e_and, ↓e_or, ↓e_not, ↓e_yes, ↓e_truth,   ↓e_tru_bl, ↓e_tru_int, ↓e_tru_non, ↓e_tru_str, ↓e_tru_tup, ↓e_tru_obj, ↓e_chain, ↓e_orV, ↓e_andV, ↓e_notV, ↓e_ifE, ↓e_neg, ↓e_nil, ↓e_cons, ↓e_tup, ↓e_lst, ↓e_dnew, ↓e_call, ↓e_cb, ↓e_isi, ↓e_sl, ↓e_onone, ↓e_osome, ↓e_rev, ↓e_lm, ↓e_append, ↓e_extend, ↓e_pop, ↓e_join, ↓e_dget2, ↓e_sortSet, ↓e_sortS, ↓e_setd, strsOf_map, ↓e_maxI, ↓e_disp, ↓e_pairN, ↓e_pairC, intsOf_map, ↓e_for, ↓e_ilist, ↓e_itup, ↓e_rng1, ↓e_rng2, ↓e_lc, ↓e_lc2, e_lc2N, ↓e_ienum, ↓e_izip, ↓e_anyB, ↓e_allB, ↓e_mulS, blsOf_map, ↓e_set0, ↓e_sadd, ↓e_sortTx, ↓e_sortD, ↓e_repr, ↓e_extT, ↓e_sc2, ↓e_sortZ, ↓e_tupVals, ↓e_wget, ↓e_wix, ↓e_listZip, zipD_nil, zipD_cons, ↓e_dgetF, ↓e_idif, ↓e_isB, ↓e_sortI, ↓e_sortSetI, ↓e_tailR, ↓e_divmod, ↓e_strI, ↓e_lenD, ↓e_fmt, ↓e_fs2,   ↓e_add_int, ↓e_add_str, ↓e_add_tup, ↓e_add_obj, ↓e_iadd_int, ↓e_iadd_str, ↓e_iadd_obj, ↓e_I, ↓e_I0, ↓e_IS_int, ↓e_IS_str, ↓e_eq_str, ↓e_ne_str, ↓e_eq_int, ↓e_ne_int, ↓e_eq_bl, ↓e_ne_bl, ↓e_isN, ↓e_notN, ↓e_ix_tup, ↓e_ix_fl, ↓e_ix_str, ↓e_ix_obj, ↓e_in_tup, ↓e_nin_tup, ↓e_len_tup, ↓e_len_fl, ↓e_len_str, ↓e_len_obj, ↓e_int_int, ↓e_tuple_tup, ↓e_tuple_obj, ↓e_list_tup, ↓e_list_obj, ↓e_dget, ↓e_din, ↓e_dnin, ↓e_lstAt, ↓e_dicAt,   e_key_int, e_key_str, e_up, e_ty_str, e_ty_tup, e_ty_int, e_ty_bl, e_ty_non, atI0, atI1, atI2, atI3, atIL, ixN0, ixN1, cut_from1, e_ite_or, e_ite_and, zln, znl, zli, zil, zni, zin, sizeLine_eq, CMul, CDiv, cpow1018, true_or, or_true, kb_strstr, kb_tupstr, kb_tuptup, kb_strtup, kb_inttup, kb_bltup, kb_nontup, kb_strbl, kb_strint, kb_intbl, kb_intint, kb_blbl, kb_blint, kb_nonbl, kb_nonint, kb_nonstr, kb_intstr, kb_blstr, kb_tupbl, kb_tupint,   List.set_cons_zero, List.set_cons_succ, List.set_nil, List.getElem?_cons_zero, List.getElem?_cons_succ, List.getElem?_nil, List.length_cons, List.length_nil, List.length_map, List.length_append, e_lcN, e_lcC, e_forN, e_forC, List.getLast?_concat, List.dropLast_concat, List.nil_append, List.cons_append, List.append_nil, List.append_assoc, List.reverse_cons, List.reverse_nil, List.isEmpty_nil, List.isEmpty_cons, isEmpty_snoc, List.any_cons, List.any_nil, List.all_cons, List.all_nil, flatD, eqF, in_non, in_tup, in_str, in_int, in_bl, in_obj, in_fl, startA, List.map_cons, List.map_nil, List.replicate_succ, List.replicate_zero,   Nat.reduceAdd, Nat.reduceSub, Nat.reduceLeDiff, Nat.zero_add, Int.reduceLE, Int.reduceLT, Int.reduceToNat, Int.reducePow, Int.reduceNeg, Int.reduceAdd, Int.reduceSub,   Option.isSome_some, Option.isSome_none, Bool.not_true, Bool.not_false, Bool.not_eq_true', Bool.not_eq_eq_eq_not, Bool.not_eq_true, Bool.false_eq_true, Bool.true_eq_false, Bool.and_true, Bool.true_and, Bool.or_false, Bool.false_or, Bool.or_true, Bool.true_or, Bool.and_false, Bool.false_and, if_true, if_false, ite_true, ite_false, reduceIte, reduceCtorEq, decide_true, decide_false, decide_eq_true_eq, decide_eq_false_iff_not, true_and, and_true, eq_self, ne_eq, not_false_eq_true, not_true_eq_false, and_self, *])
  refine for_run (fun ds env M' => ∃ (k : Int) (m : Nat) (x2 x3 : Option D), ds = rngD k m ∧ env = [some (.fl (ns.map D.int)), some (.obj b), x2, x3, none, none] ∧ BoxAt M' b d) (fun _ _ _ _ => trivial) ?_ ?_ ⟨0, 4, none, none, rfl, rfl, hb⟩
  · rintro env M2 ⟨k, m, x2, x3, hd, rfl, hb2⟩
    clear hd
    try (simp only [↓e_seq, ↓e_next, ↓e_break, ↓e_cont, ↓e_expr, ↓e_ret, ↓e_retN, ↓e_if, ↓e_never, ↓e_asg, ↓e_name, ↓e_agtup, ↓e_agcons, ↓e_agnil, ↓e_agsub, ↓e_aug, ↓e_dput, ↓e_var, ↓e_c, ↓e_op, ↓e_some, ↓e_none, ↓e_test, ↓e_and, ↓e_or, ↓e_not, ↓e_yes, ↓e_truth,   ↓e_tru_bl, ↓e_tru_int, ↓e_tru_non, ↓e_tru_str, ↓e_tru_tup, ↓e_tru_obj, ↓e_chain, ↓e_orV, ↓e_andV, ↓e_notV, ↓e_ifE, ↓e_neg, ↓e_nil, ↓e_cons, ↓e_tup, ↓e_lst, ↓e_dnew, ↓e_call, ↓e_cb, ↓e_isi, ↓e_sl, ↓e_onone, ↓e_osome, ↓e_rev, ↓e_lm, ↓e_append, ↓e_extend, ↓e_pop, ↓e_join, ↓e_dget2, ↓e_sortSet, ↓e_sortS, ↓e_setd, strsOf_map, ↓e_maxI, ↓e_disp, ↓e_pairN, ↓e_pairC, intsOf_map, ↓e_for, ↓e_ilist, ↓e_itup, ↓e_rng1, ↓e_rng2, ↓e_lc, ↓e_lc2, e_lc2N, ↓e_ienum, ↓e_izip, ↓e_anyB, ↓e_allB, ↓e_mulS, blsOf_map, ↓e_set0, ↓e_sadd, ↓e_sortTx, ↓e_sortD, ↓e_repr, ↓e_extT, ↓e_sc2, ↓e_sortZ, ↓e_tupVals, ↓e_wget, ↓e_wix, ↓e_listZip, zipD_nil, zipD_cons, ↓e_dgetF, ↓e_idif, ↓e_isB, ↓e_sortI, ↓e_sortSetI, ↓e_tailR, ↓e_divmod, ↓e_strI, ↓e_lenD, ↓e_fmt, ↓e_fs2,   ↓e_add_int, ↓e_add_str, ↓e_add_tup, ↓e_add_obj, ↓e_iadd_int, ↓e_iadd_str, ↓e_iadd_obj, ↓e_I, ↓e_I0, ↓e_IS_int, ↓e_IS_str, ↓e_eq_str, ↓e_ne_str, ↓e_eq_int, ↓e_ne_int, ↓e_eq_bl, ↓e_ne_bl, ↓e_isN, ↓e_notN, ↓e_ix_tup, ↓e_ix_fl, ↓e_ix_str, ↓e_ix_obj, ↓e_in_tup, ↓e_nin_tup, ↓e_len_tup, ↓e_len_fl, ↓e_len_str, ↓e_len_obj, ↓e_int_int, ↓e_tuple_tup, ↓e_tuple_obj, ↓e_list_tup, ↓e_list_obj, ↓e_dget, ↓e_din, ↓e_dnin, ↓e_lstAt, ↓e_dicAt,   e_key_int, e_key_str, e_up, e_ty_str, e_ty_tup, e_ty_int, e_ty_bl, e_ty_non, atI0, atI1, atI2, atI3, atIL, ixN0, ixN1, cut_from1, e_ite_or, e_ite_and, zln, znl, zli, zil, zni, zin, sizeLine_eq, CMul, CDiv, cpow1018, true_or, or_true, kb_strstr, kb_tupstr, kb_tuptup, kb_strtup, kb_inttup, kb_bltup, kb_nontup, kb_strbl, kb_strint, kb_intbl, kb_intint, kb_blbl, kb_blint, kb_nonbl, kb_nonint, kb_nonstr, kb_intstr, kb_blstr, kb_tupbl, kb_tupint,   List.set_cons_zero, List.set_cons_succ, List.set_nil, List.getElem?_cons_zero, List.getElem?_cons_succ, List.getElem?_nil, List.length_cons, List.length_nil, List.length_map, List.length_append, e_lcN, e_lcC, e_forN, e_forC, List.getLast?_concat, List.dropLast_concat, List.nil_append, List.cons_append, List.append_nil, List.append_assoc, List.reverse_cons, List.reverse_nil, List.isEmpty_nil, List.isEmpty_cons, isEmpty_snoc, List.any_cons, List.any_nil, List.all_cons, List.all_nil, flatD, eqF, in_non, in_tup, in_str, in_int, in_bl, in_obj, in_fl, startA, List.map_cons, List.map_nil, List.replicate_succ, List.replicate_zero,   Nat.reduceAdd, Nat.reduceSub, Nat.reduceLeDiff, Nat.zero_add, Int.reduceLE, Int.reduceLT, Int.reduceToNat, Int.reducePow, Int.reduceNeg, Int.reduceAdd, Int.reduceSub,   Option.isSome_some, Option.isSome_none, Bool.not_true, Bool.not_false, Bool.not_eq_true', Bool.not_eq_eq_eq_not, Bool.not_eq_true, Bool.false_eq_true, Bool.true_eq_false, Bool.and_true, Bool.true_and, Bool.or_false, Bool.false_or, Bool.or_true, Bool.true_or, Bool.and_false, Bool.false_and, if_true, if_false, ite_true, ite_false, reduceIte, reduceCtorEq, decide_true, decide_false, decide_eq_true_eq, decide_eq_false_iff_not, true_and, and_true, eq_self, ne_eq, not_false_eq_true, not_true_eq_false, and_self, *])
    refine ⟨rfl, b, d, 36, rfl, hb2, by decide, fun v M3 hv0 hv1 hb3 e3 => ?_⟩
    try (simp only [↓e_seq, ↓e_next, ↓e_break, ↓e_cont, ↓e_expr, ↓e_ret, ↓e_retN, ↓e_if, ↓e_never, ↓e_asg, ↓e_name, ↓e_agtup, ↓e_agcons, ↓e_agnil, ↓e_agsub, ↓e_aug, ↓e_dput, ↓e_var, ↓e_c, ↓e_op, ↓e_some, ↓e_none, ↓e_test, ↓e_and, ↓e_or, ↓e_not, ↓e_yes, ↓e_truth,   ↓e_tru_bl, ↓e_tru_int, ↓e_tru_non, ↓e_tru_str, ↓e_tru_tup, ↓e_tru_obj, ↓e_chain, ↓e_orV, ↓e_andV, ↓e_notV, ↓e_ifE, ↓e_neg, ↓e_nil, ↓e_cons, ↓e_tup, ↓e_lst, ↓e_dnew, ↓e_call, ↓e_cb, ↓e_isi, ↓e_sl, ↓e_onone, ↓e_osome, ↓e_rev, ↓e_lm, ↓e_append, ↓e_extend, ↓e_pop, ↓e_join, ↓e_dget2, ↓e_sortSet, ↓e_sortS, ↓e_setd, strsOf_map, ↓e_maxI, ↓e_disp, ↓e_pairN, ↓e_pairC, intsOf_map, ↓e_for, ↓e_ilist, ↓e_itup, ↓e_rng1, ↓e_rng2, ↓e_lc, ↓e_lc2, e_lc2N, ↓e_ienum, ↓e_izip, ↓e_anyB, ↓e_allB, ↓e_mulS, blsOf_map, ↓e_set0, ↓e_sadd, ↓e_sortTx, ↓e_sortD, ↓e_repr, ↓e_extT, ↓e_sc2, ↓e_sortZ, ↓e_tupVals, ↓e_wget, ↓e_wix, ↓e_listZip, zipD_nil, zipD_cons, ↓e_dgetF, ↓e_idif, ↓e_isB, ↓e_sortI, ↓e_sortSetI, ↓e_tailR, ↓e_divmod, ↓e_strI, ↓e_lenD, ↓e_fmt, ↓e_fs2,   ↓e_add_int, ↓e_add_str, ↓e_add_tup, ↓e_add_obj, ↓e_iadd_int, ↓e_iadd_str, ↓e_iadd_obj, ↓e_I, ↓e_I0, ↓e_IS_int, ↓e_IS_str, ↓e_eq_str, ↓e_ne_str, ↓e_eq_int, ↓e_ne_int, ↓e_eq_bl, ↓e_ne_bl, ↓e_isN, ↓e_notN, ↓e_ix_tup, ↓e_ix_fl, ↓e_ix_str, ↓e_ix_obj, ↓e_in_tup, ↓e_nin_tup, ↓e_len_tup, ↓e_len_fl, ↓e_len_str, ↓e_len_obj, ↓e_int_int, ↓e_tuple_tup, ↓e_tuple_obj, ↓e_list_tup, ↓e_list_obj, ↓e_dget, ↓e_din, ↓e_dnin, ↓e_lstAt, ↓e_dicAt,   e_key_int, e_key_str, e_up, e_ty_str, e_ty_tup, e_ty_int, e_ty_bl, e_ty_non, atI0, atI1, atI2, atI3, atIL, ixN0, ixN1, cut_from1, e_ite_or, e_ite_and, zln, znl, zli, zil, zni, zin, sizeLine_eq, CMul, CDiv, cpow1018, true_or, or_true, kb_strstr, kb_tupstr, kb_tuptup, kb_strtup, kb_inttup, kb_bltup, kb_nontup, kb_strbl, kb_strint, kb_intbl, kb_intint, kb_blbl, kb_blint, kb_nonbl, kb_nonint, kb_nonstr, kb_intstr, kb_blstr, kb_tupbl, kb_tupint,   List.set_cons_zero, List.set_cons_succ, List.set_nil, List.getElem?_cons_zero, List.getElem?_cons_succ, List.getElem?_nil, List.length_cons, List.length_nil, List.length_map, List.length_append, e_lcN, e_lcC, e_forN, e_forC, List.getLast?_concat, List.dropLast_concat, List.nil_append, List.cons_append, List.append_nil, List.append_assoc, List.reverse_cons, List.reverse_nil, List.isEmpty_nil, List.isEmpty_cons, isEmpty_snoc, List.any_cons, List.any_nil, List.all_cons, List.all_nil, flatD, eqF, in_non, in_tup, in_str, in_int, in_bl, in_obj, in_fl, startA, List.map_cons, List.map_nil, List.replicate_succ, List.replicate_zero,   Nat.reduceAdd, Nat.reduceSub, Nat.reduceLeDiff, Nat.zero_add, Int.reduceLE, Int.reduceLT, Int.reduceToNat, Int.reducePow, Int.reduceNeg, Int.reduceAdd, Int.reduceSub,   Option.isSome_some, Option.isSome_none, Bool.not_true, Bool.not_false, Bool.not_eq_true', Bool.not_eq_eq_eq_not, Bool.not_eq_true, Bool.false_eq_true, Bool.true_eq_false, Bool.and_true, Bool.true_and, Bool.or_false, Bool.false_or, Bool.or_true, Bool.true_or, Bool.and_false, Bool.false_and, if_true, if_false, ite_true, ite_false, reduceIte, reduceCtorEq, decide_true, decide_false, decide_eq_true_eq, decide_eq_false_iff_not, true_and, and_true, eq_self, ne_eq, not_false_eq_true, not_true_eq_false, and_self, *])
    refine ⟨by omega, by omega, ?_⟩
    refine for_run (fun ds env M' => ∃ (k m : Nat) (g : Fm) (x2 x5 : Option D), ds = rngD (k : Int) m ∧ ((k + m : Nat) : Int) = v ∧ env = [some (.fl (ns.map D.int)), some (.obj b), x2, x3, some g.d, x5] ∧ g.sz ≤ 1 + 3 * k) (fun _ _ _ _ => trivial) ?_ ?_ ⟨0, v.toNat, .lt z_z9, x2, none, rfl, by omega, rfl, Nat.le_refl _⟩
    · rintro env M4 ⟨k, m, g, x2, x5, hd, hk, rfl, hg⟩
      have z := rngD_nil hd.symm
      subst z
      clear hd
      try (simp only [↓e_seq, ↓e_next, ↓e_break, ↓e_cont, ↓e_expr, ↓e_ret, ↓e_retN, ↓e_if, ↓e_never, ↓e_asg, ↓e_name, ↓e_agtup, ↓e_agcons, ↓e_agnil, ↓e_agsub, ↓e_aug, ↓e_dput, ↓e_var, ↓e_c, ↓e_op, ↓e_some, ↓e_none, ↓e_test, ↓e_and, ↓e_or, ↓e_not, ↓e_yes, ↓e_truth,   ↓e_tru_bl, ↓e_tru_int, ↓e_tru_non, ↓e_tru_str, ↓e_tru_tup, ↓e_tru_obj, ↓e_chain, ↓e_orV, ↓e_andV, ↓e_notV, ↓e_ifE, ↓e_neg, ↓e_nil, ↓e_cons, ↓e_tup, ↓e_lst, ↓e_dnew, ↓e_call, ↓e_cb, ↓e_isi, ↓e_sl, ↓e_onone, ↓e_osome, ↓e_rev, ↓e_lm, ↓e_append, ↓e_extend, ↓e_pop, ↓e_join, ↓e_dget2, ↓e_sortSet, ↓e_sortS, ↓e_setd, strsOf_map, ↓e_maxI, ↓e_disp, ↓e_pairN, ↓e_pairC, intsOf_map, ↓e_for, ↓e_ilist, ↓e_itup, ↓e_rng1, ↓e_rng2, ↓e_lc, ↓e_lc2, e_lc2N, ↓e_ienum, ↓e_izip, ↓e_anyB, ↓e_allB, ↓e_mulS, blsOf_map, ↓e_set0, ↓e_sadd, ↓e_sortTx, ↓e_sortD, ↓e_repr, ↓e_extT, ↓e_sc2, ↓e_sortZ, ↓e_tupVals, ↓e_wget, ↓e_wix, ↓e_listZip, zipD_nil, zipD_cons, ↓e_dgetF, ↓e_idif, ↓e_isB, ↓e_sortI, ↓e_sortSetI, ↓e_tailR, ↓e_divmod, ↓e_strI, ↓e_lenD, ↓e_fmt, ↓e_fs2,   ↓e_add_int, ↓e_add_str, ↓e_add_tup, ↓e_add_obj, ↓e_iadd_int, ↓e_iadd_str, ↓e_iadd_obj, ↓e_I, ↓e_I0, ↓e_IS_int, ↓e_IS_str, ↓e_eq_str, ↓e_ne_str, ↓e_eq_int, ↓e_ne_int, ↓e_eq_bl, ↓e_ne_bl, ↓e_isN, ↓e_notN, ↓e_ix_tup, ↓e_ix_fl, ↓e_ix_str, ↓e_ix_obj, ↓e_in_tup, ↓e_nin_tup, ↓e_len_tup, ↓e_len_fl, ↓e_len_str, ↓e_len_obj, ↓e_int_int, ↓e_tuple_tup, ↓e_tuple_obj, ↓e_list_tup, ↓e_list_obj, ↓e_dget, ↓e_din, ↓e_dnin, ↓e_lstAt, ↓e_dicAt,   e_key_int, e_key_str, e_up, e_ty_str, e_ty_tup, e_ty_int, e_ty_bl, e_ty_non, atI0, atI1, atI2, atI3, atIL, ixN0, ixN1, cut_from1, e_ite_or, e_ite_and, zln, znl, zli, zil, zni, zin, sizeLine_eq, CMul, CDiv, cpow1018, true_or, or_true, kb_strstr, kb_tupstr, kb_tuptup, kb_strtup, kb_inttup, kb_bltup, kb_nontup, kb_strbl, kb_strint, kb_intbl, kb_intint, kb_blbl, kb_blint, kb_nonbl, kb_nonint, kb_nonstr, kb_intstr, kb_blstr, kb_tupbl, kb_tupint,   List.set_cons_zero, List.set_cons_succ, List.set_nil, List.getElem?_cons_zero, List.getElem?_cons_succ, List.getElem?_nil, List.length_cons, List.length_nil, List.length_map, List.length_append, e_lcN, e_lcC, e_forN, e_forC, List.getLast?_concat, List.dropLast_concat, List.nil_append, List.cons_append, List.append_nil, List.append_assoc, List.reverse_cons, List.reverse_nil, List.isEmpty_nil, List.isEmpty_cons, isEmpty_snoc, List.any_cons, List.any_nil, List.all_cons, List.all_nil, flatD, eqF, in_non, in_tup, in_str, in_int, in_bl, in_obj, in_fl, startA, List.map_cons, List.map_nil, List.replicate_succ, List.replicate_zero,   Nat.reduceAdd, Nat.reduceSub, Nat.reduceLeDiff, Nat.zero_add, Int.reduceLE, Int.reduceLT, Int.reduceToNat, Int.reducePow, Int.reduceNeg, Int.reduceAdd, Int.reduceSub,   Option.isSome_some, Option.isSome_none, Bool.not_true, Bool.not_false, Bool.not_eq_true', Bool.not_eq_eq_eq_not, Bool.not_eq_true, Bool.false_eq_true, Bool.true_eq_false, Bool.and_true, Bool.true_and, Bool.or_false, Bool.false_or, Bool.or_true, Bool.true_or, Bool.and_false, Bool.false_and, if_true, if_false, ite_true, ite_false, reduceIte, reduceCtorEq, decide_true, decide_false, decide_eq_true_eq, decide_eq_false_iff_not, true_and, and_true, eq_self, ne_eq, not_false_eq_true, not_true_eq_false, and_self, *])
      refine ⟨rfl, g, rfl, by omega, by omega, fun M5 e5 => ?_⟩
      try (simp only [↓e_seq, ↓e_next, ↓e_break, ↓e_cont, ↓e_expr, ↓e_ret, ↓e_retN, ↓e_if, ↓e_never, ↓e_asg, ↓e_name, ↓e_agtup, ↓e_agcons, ↓e_agnil, ↓e_agsub, ↓e_aug, ↓e_dput, ↓e_var, ↓e_c, ↓e_op, ↓e_some, ↓e_none, ↓e_test, ↓e_and, ↓e_or, ↓e_not, ↓e_yes, ↓e_truth,   ↓e_tru_bl, ↓e_tru_int, ↓e_tru_non, ↓e_tru_str, ↓e_tru_tup, ↓e_tru_obj, ↓e_chain, ↓e_orV, ↓e_andV, ↓e_notV, ↓e_ifE, ↓e_neg, ↓e_nil, ↓e_cons, ↓e_tup, ↓e_lst, ↓e_dnew, ↓e_call, ↓e_cb, ↓e_isi, ↓e_sl, ↓e_onone, ↓e_osome, ↓e_rev, ↓e_lm, ↓e_append, ↓e_extend, ↓e_pop, ↓e_join, ↓e_dget2, ↓e_sortSet, ↓e_sortS, ↓e_setd, strsOf_map, ↓e_maxI, ↓e_disp, ↓e_pairN, ↓e_pairC, intsOf_map, ↓e_for, ↓e_ilist, ↓e_itup, ↓e_rng1, ↓e_rng2, ↓e_lc, ↓e_lc2, e_lc2N, ↓e_ienum, ↓e_izip, ↓e_anyB, ↓e_allB, ↓e_mulS, blsOf_map, ↓e_set0, ↓e_sadd, ↓e_sortTx, ↓e_sortD, ↓e_repr, ↓e_extT, ↓e_sc2, ↓e_sortZ, ↓e_tupVals, ↓e_wget, ↓e_wix, ↓e_listZip, zipD_nil, zipD_cons, ↓e_dgetF, ↓e_idif, ↓e_isB, ↓e_sortI, ↓e_sortSetI, ↓e_tailR, ↓e_divmod, ↓e_strI, ↓e_lenD, ↓e_fmt, ↓e_fs2,   ↓e_add_int, ↓e_add_str, ↓e_add_tup, ↓e_add_obj, ↓e_iadd_int, ↓e_iadd_str, ↓e_iadd_obj, ↓e_I, ↓e_I0, ↓e_IS_int, ↓e_IS_str, ↓e_eq_str, ↓e_ne_str, ↓e_eq_int, ↓e_ne_int, ↓e_eq_bl, ↓e_ne_bl, ↓e_isN, ↓e_notN, ↓e_ix_tup, ↓e_ix_fl, ↓e_ix_str, ↓e_ix_obj, ↓e_in_tup, ↓e_nin_tup, ↓e_len_tup, ↓e_len_fl, ↓e_len_str, ↓e_len_obj, ↓e_int_int, ↓e_tuple_tup, ↓e_tuple_obj, ↓e_list_tup, ↓e_list_obj, ↓e_dget, ↓e_din, ↓e_dnin, ↓e_lstAt, ↓e_dicAt,   e_key_int, e_key_str, e_up, e_ty_str, e_ty_tup, e_ty_int, e_ty_bl, e_ty_non, atI0, atI1, atI2, atI3, atIL, ixN0, ixN1, cut_from1, e_ite_or, e_ite_and, zln, znl, zli, zil, zni, zin, sizeLine_eq, CMul, CDiv, cpow1018, true_or, or_true, kb_strstr, kb_tupstr, kb_tuptup, kb_strtup, kb_inttup, kb_bltup, kb_nontup, kb_strbl, kb_strint, kb_intbl, kb_intint, kb_blbl, kb_blint, kb_nonbl, kb_nonint, kb_nonstr, kb_intstr, kb_blstr, kb_tupbl, kb_tupint,   List.set_cons_zero, List.set_cons_succ, List.set_nil, List.getElem?_cons_zero, List.getElem?_cons_succ, List.getElem?_nil, List.length_cons, List.length_nil, List.length_map, List.length_append, e_lcN, e_lcC, e_forN, e_forC, List.getLast?_concat, List.dropLast_concat, List.nil_append, List.cons_append, List.append_nil, List.append_assoc, List.reverse_cons, List.reverse_nil, List.isEmpty_nil, List.isEmpty_cons, isEmpty_snoc, List.any_cons, List.any_nil, List.all_cons, List.all_nil, flatD, eqF, in_non, in_tup, in_str, in_int, in_bl, in_obj, in_fl, startA, List.map_cons, List.map_nil, List.replicate_succ, List.replicate_zero,   Nat.reduceAdd, Nat.reduceSub, Nat.reduceLeDiff, Nat.zero_add, Int.reduceLE, Int.reduceLT, Int.reduceToNat, Int.reducePow, Int.reduceNeg, Int.reduceAdd, Int.reduceSub,   Option.isSome_some, Option.isSome_none, Bool.not_true, Bool.not_false, Bool.not_eq_true', Bool.not_eq_eq_eq_not, Bool.not_eq_true, Bool.false_eq_true, Bool.true_eq_false, Bool.and_true, Bool.true_and, Bool.or_false, Bool.false_or, Bool.or_true, Bool.true_or, Bool.and_false, Bool.false_and, if_true, if_false, ite_true, ite_false, reduceIte, reduceCtorEq, decide_true, decide_false, decide_eq_true_eq, decide_eq_false_iff_not, true_and, and_true, eq_self, ne_eq, not_false_eq_true, not_true_eq_false, and_self, *])
      refine ⟨rfl, g, rfl, by omega, by omega, fun M6 e6 => ?_⟩
      try (simp only [↓e_seq, ↓e_next, ↓e_break, ↓e_cont, ↓e_expr, ↓e_ret, ↓e_retN, ↓e_if, ↓e_never, ↓e_asg, ↓e_name, ↓e_agtup, ↓e_agcons, ↓e_agnil, ↓e_agsub, ↓e_aug, ↓e_dput, ↓e_var, ↓e_c, ↓e_op, ↓e_some, ↓e_none, ↓e_test, ↓e_and, ↓e_or, ↓e_not, ↓e_yes, ↓e_truth,   ↓e_tru_bl, ↓e_tru_int, ↓e_tru_non, ↓e_tru_str, ↓e_tru_tup, ↓e_tru_obj, ↓e_chain, ↓e_orV, ↓e_andV, ↓e_notV, ↓e_ifE, ↓e_neg, ↓e_nil, ↓e_cons, ↓e_tup, ↓e_lst, ↓e_dnew, ↓e_call, ↓e_cb, ↓e_isi, ↓e_sl, ↓e_onone, ↓e_osome, ↓e_rev, ↓e_lm, ↓e_append, ↓e_extend, ↓e_pop, ↓e_join, ↓e_dget2, ↓e_sortSet, ↓e_sortS, ↓e_setd, strsOf_map, ↓e_maxI, ↓e_disp, ↓e_pairN, ↓e_pairC, intsOf_map, ↓e_for, ↓e_ilist, ↓e_itup, ↓e_rng1, ↓e_rng2, ↓e_lc, ↓e_lc2, e_lc2N, ↓e_ienum, ↓e_izip, ↓e_anyB, ↓e_allB, ↓e_mulS, blsOf_map, ↓e_set0, ↓e_sadd, ↓e_sortTx, ↓e_sortD, ↓e_repr, ↓e_extT, ↓e_sc2, ↓e_sortZ, ↓e_tupVals, ↓e_wget, ↓e_wix, ↓e_listZip, zipD_nil, zipD_cons, ↓e_dgetF, ↓e_idif, ↓e_isB, ↓e_sortI, ↓e_sortSetI, ↓e_tailR, ↓e_divmod, ↓e_strI, ↓e_lenD, ↓e_fmt, ↓e_fs2,   ↓e_add_int, ↓e_add_str, ↓e_add_tup, ↓e_add_obj, ↓e_iadd_int, ↓e_iadd_str, ↓e_iadd_obj, ↓e_I, ↓e_I0, ↓e_IS_int, ↓e_IS_str, ↓e_eq_str, ↓e_ne_str, ↓e_eq_int, ↓e_ne_int, ↓e_eq_bl, ↓e_ne_bl, ↓e_isN, ↓e_notN, ↓e_ix_tup, ↓e_ix_fl, ↓e_ix_str, ↓e_ix_obj, ↓e_in_tup, ↓e_nin_tup, ↓e_len_tup, ↓e_len_fl, ↓e_len_str, ↓e_len_obj, ↓e_int_int, ↓e_tuple_tup, ↓e_tuple_obj, ↓e_list_tup, ↓e_list_obj, ↓e_dget, ↓e_din, ↓e_dnin, ↓e_lstAt, ↓e_dicAt,   e_key_int, e_key_str, e_up, e_ty_str, e_ty_tup, e_ty_int, e_ty_bl, e_ty_non, atI0, atI1, atI2, atI3, atIL, ixN0, ixN1, cut_from1, e_ite_or, e_ite_and, zln, znl, zli, zil, zni, zin, sizeLine_eq, CMul, CDiv, cpow1018, true_or, or_true, kb_strstr, kb_tupstr, kb_tuptup, kb_strtup, kb_inttup, kb_bltup, kb_nontup, kb_strbl, kb_strint, kb_intbl, kb_intint, kb_blbl, kb_blint, kb_nonbl, kb_nonint, kb_nonstr, kb_intstr, kb_blstr, kb_tupbl, kb_tupint,   List.set_cons_zero, List.set_cons_succ, List.set_nil, List.getElem?_cons_zero, List.getElem?_cons_succ, List.getElem?_nil, List.length_cons, List.length_nil, List.length_map, List.length_append, e_lcN, e_lcC, e_forN, e_forC, List.getLast?_concat, List.dropLast_concat, List.nil_append, List.cons_append, List.append_nil, List.append_assoc, List.reverse_cons, List.reverse_nil, List.isEmpty_nil, List.isEmpty_cons, isEmpty_snoc, List.any_cons, List.any_nil, List.all_cons, List.all_nil, flatD, eqF, in_non, in_tup, in_str, in_int, in_bl, in_obj, in_fl, startA, List.map_cons, List.map_nil, List.replicate_succ, List.replicate_zero,   Nat.reduceAdd, Nat.reduceSub, Nat.reduceLeDiff, Nat.zero_add, Int.reduceLE, Int.reduceLT, Int.reduceToNat, Int.reducePow, Int.reduceNeg, Int.reduceAdd, Int.reduceSub,   Option.isSome_some, Option.isSome_none, Bool.not_true, Bool.not_false, Bool.not_eq_true', Bool.not_eq_eq_eq_not, Bool.not_eq_true, Bool.false_eq_true, Bool.true_eq_false, Bool.and_true, Bool.true_and, Bool.or_false, Bool.false_or, Bool.or_true, Bool.true_or, Bool.and_false, Bool.false_and, if_true, if_false, ite_true, ite_false, reduceIte, reduceCtorEq, decide_true, decide_false, decide_eq_true_eq, decide_eq_false_iff_not, true_and, and_true, eq_self, ne_eq, not_false_eq_true, not_true_eq_false, and_self, *])
      refine ⟨rfl, g.rn.d, rfl, Fm.plain _, ?_, ?_⟩
      · have z1 := Fm.dep g.rn
        rw [Fm.rn_sz] at z1
        omega
      · exact q _
    · rintro y r N env M4 ⟨k, m, g, x2, x5, hd, hk, rfl, hg⟩ next
      obtain ⟨m, rfl, rfl, rfl⟩ := rngD_cons hd.symm
      obtain ⟨zl, zl2⟩ := zz26
      obtain ⟨c, hat, _⟩ := atI_any (xs := z_zyxwvutsrqponmlkjihgfedcba.cps.toList) (i := (k : Int) % 26) (Int.emod_nonneg _ (by omega)) (by rw [zl]; exact Int.emod_lt_of_pos _ (by omega))
      have hc : CDiv (k : Int) 26 := ⟨by omega, by decide⟩
      have hs := tos_short (k := (k : Int) / 26) (by omega) (by omega)
      have hg2 := log_short (k := (k : Int) / 26) (by omega) (by omega)
      have hl1 : (⟨#[c]⟩ : Str).length = 1 := rfl
      have hla : (⟨#[c]⟩ : Str).length + ((toString ((k : Int) / 26) : String) : Str).length ≤ 16777216 := by omega
      have nx : ∀ x2 x5 M', N [some (.fl (ns.map D.int)), some (.obj b), x2, x3, some (Fm.im (.ng (.lt (⟨#[c]⟩ ++ ((toString ((k : Int) / 26) : String) : Str)))) g).d, x5] M' := fun x2 x5 M' => next _ _ ⟨k + 1, m, _, x2, x5, by rw [show ((k + 1 : Nat) : Int) = (k : Int) + 1 by omega], by omega, rfl, by show 1 + 1 + g.sz + 1 ≤ _; omega⟩
      clear next hd q
      simp only [Fm.d_im, Fm.d_ng, Fm.d_lt] at nx
      try (simp only [↓e_seq, ↓e_next, ↓e_break, ↓e_cont, ↓e_expr, ↓e_ret, ↓e_retN, ↓e_if, ↓e_never, ↓e_asg, ↓e_name, ↓e_agtup, ↓e_agcons, ↓e_agnil, ↓e_agsub, ↓e_aug, ↓e_dput, ↓e_var, ↓e_c, ↓e_op, ↓e_some, ↓e_none, ↓e_test, ↓e_and, ↓e_or, ↓e_not, ↓e_yes, ↓e_truth,   ↓e_tru_bl, ↓e_tru_int, ↓e_tru_non, ↓e_tru_str, ↓e_tru_tup, ↓e_tru_obj, ↓e_chain, ↓e_orV, ↓e_andV, ↓e_notV, ↓e_ifE, ↓e_neg, ↓e_nil, ↓e_cons, ↓e_tup, ↓e_lst, ↓e_dnew, ↓e_call, ↓e_cb, ↓e_isi, ↓e_sl, ↓e_onone, ↓e_osome, ↓e_rev, ↓e_lm, ↓e_append, ↓e_extend, ↓e_pop, ↓e_join, ↓e_dget2, ↓e_sortSet, ↓e_sortS, ↓e_setd, strsOf_map, ↓e_maxI, ↓e_disp, ↓e_pairN, ↓e_pairC, intsOf_map, ↓e_for, ↓e_ilist, ↓e_itup, ↓e_rng1, ↓e_rng2, ↓e_lc, ↓e_lc2, e_lc2N, ↓e_ienum, ↓e_izip, ↓e_anyB, ↓e_allB, ↓e_mulS, blsOf_map, ↓e_set0, ↓e_sadd, ↓e_sortTx, ↓e_sortD, ↓e_repr, ↓e_extT, ↓e_sc2, ↓e_sortZ, ↓e_tupVals, ↓e_wget, ↓e_wix, ↓e_listZip, zipD_nil, zipD_cons, ↓e_dgetF, ↓e_idif, ↓e_isB, ↓e_sortI, ↓e_sortSetI, ↓e_tailR, ↓e_divmod, ↓e_strI, ↓e_lenD, ↓e_fmt, ↓e_fs2,   ↓e_add_int, ↓e_add_str, ↓e_add_tup, ↓e_add_obj, ↓e_iadd_int, ↓e_iadd_str, ↓e_iadd_obj, ↓e_I, ↓e_I0, ↓e_IS_int, ↓e_IS_str, ↓e_eq_str, ↓e_ne_str, ↓e_eq_int, ↓e_ne_int, ↓e_eq_bl, ↓e_ne_bl, ↓e_isN, ↓e_notN, ↓e_ix_tup, ↓e_ix_fl, ↓e_ix_str, ↓e_ix_obj, ↓e_in_tup, ↓e_nin_tup, ↓e_len_tup, ↓e_len_fl, ↓e_len_str, ↓e_len_obj, ↓e_int_int, ↓e_tuple_tup, ↓e_tuple_obj, ↓e_list_tup, ↓e_list_obj, ↓e_dget, ↓e_din, ↓e_dnin, ↓e_lstAt, ↓e_dicAt,   e_key_int, e_key_str, e_up, e_ty_str, e_ty_tup, e_ty_int, e_ty_bl, e_ty_non, atI0, atI1, atI2, atI3, atIL, ixN0, ixN1, cut_from1, e_ite_or, e_ite_and, zln, znl, zli, zil, zni, zin, sizeLine_eq, CMul, CDiv, cpow1018, true_or, or_true, kb_strstr, kb_tupstr, kb_tuptup, kb_strtup, kb_inttup, kb_bltup, kb_nontup, kb_strbl, kb_strint, kb_intbl, kb_intint, kb_blbl, kb_blint, kb_nonbl, kb_nonint, kb_nonstr, kb_intstr, kb_blstr, kb_tupbl, kb_tupint,   List.set_cons_zero, List.set_cons_succ, List.set_nil, List.getElem?_cons_zero, List.getElem?_cons_succ, List.getElem?_nil, List.length_cons, List.length_nil, List.length_map, List.length_append, e_lcN, e_lcC, e_forN, e_forC, List.getLast?_concat, List.dropLast_concat, List.nil_append, List.cons_append, List.append_nil, List.append_assoc, List.reverse_cons, List.reverse_nil, List.isEmpty_nil, List.isEmpty_cons, isEmpty_snoc, List.any_cons, List.any_nil, List.all_cons, List.all_nil, flatD, eqF, in_non, in_tup, in_str, in_int, in_bl, in_obj, in_fl, startA, List.map_cons, List.map_nil, List.replicate_succ, List.replicate_zero,   Nat.reduceAdd, Nat.reduceSub, Nat.reduceLeDiff, Nat.zero_add, Int.reduceLE, Int.reduceLT, Int.reduceToNat, Int.reducePow, Int.reduceNeg, Int.reduceAdd, Int.reduceSub,   Option.isSome_some, Option.isSome_none, Bool.not_true, Bool.not_false, Bool.not_eq_true', Bool.not_eq_eq_eq_not, Bool.not_eq_true, Bool.false_eq_true, Bool.true_eq_false, Bool.and_true, Bool.true_and, Bool.or_false, Bool.false_or, Bool.or_true, Bool.true_or, Bool.and_false, Bool.false_and, if_true, if_false, ite_true, ite_false, reduceIte, reduceCtorEq, decide_true, decide_false, decide_eq_true_eq, decide_eq_false_iff_not, true_and, and_true, eq_self, ne_eq, not_false_eq_true, not_true_eq_false, and_self, *])
      all_goals omega
  · rintro y r N env M2 ⟨k, m, x2, x3, hd, rfl, hb2⟩ next
    obtain ⟨m, rfl, rfl, rfl⟩ := rngD_cons hd.symm
    try (simp only [↓e_seq, ↓e_next, ↓e_break, ↓e_cont, ↓e_expr, ↓e_ret, ↓e_retN, ↓e_if, ↓e_never, ↓e_asg, ↓e_name, ↓e_agtup, ↓e_agcons, ↓e_agnil, ↓e_agsub, ↓e_aug, ↓e_dput, ↓e_var, ↓e_c, ↓e_op, ↓e_some, ↓e_none, ↓e_test, ↓e_and, ↓e_or, ↓e_not, ↓e_yes, ↓e_truth,   ↓e_tru_bl, ↓e_tru_int, ↓e_tru_non, ↓e_tru_str, ↓e_tru_tup, ↓e_tru_obj, ↓e_chain, ↓e_orV, ↓e_andV, ↓e_notV, ↓e_ifE, ↓e_neg, ↓e_nil, ↓e_cons, ↓e_tup, ↓e_lst, ↓e_dnew, ↓e_call, ↓e_cb, ↓e_isi, ↓e_sl, ↓e_onone, ↓e_osome, ↓e_rev, ↓e_lm, ↓e_append, ↓e_extend, ↓e_pop, ↓e_join, ↓e_dget2, ↓e_sortSet, ↓e_sortS, ↓e_setd, strsOf_map, ↓e_maxI, ↓e_disp, ↓e_pairN, ↓e_pairC, intsOf_map, ↓e_for, ↓e_ilist, ↓e_itup, ↓e_rng1, ↓e_rng2, ↓e_lc, ↓e_lc2, e_lc2N, ↓e_ienum, ↓e_izip, ↓e_anyB, ↓e_allB, ↓e_mulS, blsOf_map, ↓e_set0, ↓e_sadd, ↓e_sortTx, ↓e_sortD, ↓e_repr, ↓e_extT, ↓e_sc2, ↓e_sortZ, ↓e_tupVals, ↓e_wget, ↓e_wix, ↓e_listZip, zipD_nil, zipD_cons, ↓e_dgetF, ↓e_idif, ↓e_isB, ↓e_sortI, ↓e_sortSetI, ↓e_tailR, ↓e_divmod, ↓e_strI, ↓e_lenD, ↓e_fmt, ↓e_fs2,   ↓e_add_int, ↓e_add_str, ↓e_add_tup, ↓e_add_obj, ↓e_iadd_int, ↓e_iadd_str, ↓e_iadd_obj, ↓e_I, ↓e_I0, ↓e_IS_int, ↓e_IS_str, ↓e_eq_str, ↓e_ne_str, ↓e_eq_int, ↓e_ne_int, ↓e_eq_bl, ↓e_ne_bl, ↓e_isN, ↓e_notN, ↓e_ix_tup, ↓e_ix_fl, ↓e_ix_str, ↓e_ix_obj, ↓e_in_tup, ↓e_nin_tup, ↓e_len_tup, ↓e_len_fl, ↓e_len_str, ↓e_len_obj, ↓e_int_int, ↓e_tuple_tup, ↓e_tuple_obj, ↓e_list_tup, ↓e_list_obj, ↓e_dget, ↓e_din, ↓e_dnin, ↓e_lstAt, ↓e_dicAt,   e_key_int, e_key_str, e_up, e_ty_str, e_ty_tup, e_ty_int, e_ty_bl, e_ty_non, atI0, atI1, atI2, atI3, atIL, ixN0, ixN1, cut_from1, e_ite_or, e_ite_and, zln, znl, zli, zil, zni, zin, sizeLine_eq, CMul, CDiv, cpow1018, true_or, or_true, kb_strstr, kb_tupstr, kb_tuptup, kb_strtup, kb_inttup, kb_bltup, kb_nontup, kb_strbl, kb_strint, kb_intbl, kb_intint, kb_blbl, kb_blint, kb_nonbl, kb_nonint, kb_nonstr, kb_intstr, kb_blstr, kb_tupbl, kb_tupint,   List.set_cons_zero, List.set_cons_succ, List.set_nil, List.getElem?_cons_zero, List.getElem?_cons_succ, List.getElem?_nil, List.length_cons, List.length_nil, List.length_map, List.length_append, e_lcN, e_lcC, e_forN, e_forC, List.getLast?_concat, List.dropLast_concat, List.nil_append, List.cons_append, List.append_nil, List.append_assoc, List.reverse_cons, List.reverse_nil, List.isEmpty_nil, List.isEmpty_cons, isEmpty_snoc, List.any_cons, List.any_nil, List.all_cons, List.all_nil, flatD, eqF, in_non, in_tup, in_str, in_int, in_bl, in_obj, in_fl, startA, List.map_cons, List.map_nil, List.replicate_succ, List.replicate_zero,   Nat.reduceAdd, Nat.reduceSub, Nat.reduceLeDiff, Nat.zero_add, Int.reduceLE, Int.reduceLT, Int.reduceToNat, Int.reducePow, Int.reduceNeg, Int.reduceAdd, Int.reduceSub,   Option.isSome_some, Option.isSome_none, Bool.not_true, Bool.not_false, Bool.not_eq_true', Bool.not_eq_eq_eq_not, Bool.not_eq_true, Bool.false_eq_true, Bool.true_eq_false, Bool.and_true, Bool.true_and, Bool.or_false, Bool.false_or, Bool.or_true, Bool.true_or, Bool.and_false, Bool.false_and, if_true, if_false, ite_true, ite_false, reduceIte, reduceCtorEq, decide_true, decide_false, decide_eq_true_eq, decide_eq_false_iff_not, true_and, and_true, eq_self, ne_eq, not_false_eq_true, not_true_eq_false, and_self, *])
    refine ⟨rfl, b, d, 40, 8, rfl, hb2, by omega, by omega, by omega, by omega, fun g M3 hg1 hg2 hb3 e3 => ?_⟩
    try (simp only [↓e_seq, ↓e_next, ↓e_break, ↓e_cont, ↓e_expr, ↓e_ret, ↓e_retN, ↓e_if, ↓e_never, ↓e_asg, ↓e_name, ↓e_agtup, ↓e_agcons, ↓e_agnil, ↓e_agsub, ↓e_aug, ↓e_dput, ↓e_var, ↓e_c, ↓e_op, ↓e_some, ↓e_none, ↓e_test, ↓e_and, ↓e_or, ↓e_not, ↓e_yes, ↓e_truth,   ↓e_tru_bl, ↓e_tru_int, ↓e_tru_non, ↓e_tru_str, ↓e_tru_tup, ↓e_tru_obj, ↓e_chain, ↓e_orV, ↓e_andV, ↓e_notV, ↓e_ifE, ↓e_neg, ↓e_nil, ↓e_cons, ↓e_tup, ↓e_lst, ↓e_dnew, ↓e_call, ↓e_cb, ↓e_isi, ↓e_sl, ↓e_onone, ↓e_osome, ↓e_rev, ↓e_lm, ↓e_append, ↓e_extend, ↓e_pop, ↓e_join, ↓e_dget2, ↓e_sortSet, ↓e_sortS, ↓e_setd, strsOf_map, ↓e_maxI, ↓e_disp, ↓e_pairN, ↓e_pairC, intsOf_map, ↓e_for, ↓e_ilist, ↓e_itup, ↓e_rng1, ↓e_rng2, ↓e_lc, ↓e_lc2, e_lc2N, ↓e_ienum, ↓e_izip, ↓e_anyB, ↓e_allB, ↓e_mulS, blsOf_map, ↓e_set0, ↓e_sadd, ↓e_sortTx, ↓e_sortD, ↓e_repr, ↓e_extT, ↓e_sc2, ↓e_sortZ, ↓e_tupVals, ↓e_wget, ↓e_wix, ↓e_listZip, zipD_nil, zipD_cons, ↓e_dgetF, ↓e_idif, ↓e_isB, ↓e_sortI, ↓e_sortSetI, ↓e_tailR, ↓e_divmod, ↓e_strI, ↓e_lenD, ↓e_fmt, ↓e_fs2,   ↓e_add_int, ↓e_add_str, ↓e_add_tup, ↓e_add_obj, ↓e_iadd_int, ↓e_iadd_str, ↓e_iadd_obj, ↓e_I, ↓e_I0, ↓e_IS_int, ↓e_IS_str, ↓e_eq_str, ↓e_ne_str, ↓e_eq_int, ↓e_ne_int, ↓e_eq_bl, ↓e_ne_bl, ↓e_isN, ↓e_notN, ↓e_ix_tup, ↓e_ix_fl, ↓e_ix_str, ↓e_ix_obj, ↓e_in_tup, ↓e_nin_tup, ↓e_len_tup, ↓e_len_fl, ↓e_len_str, ↓e_len_obj, ↓e_int_int, ↓e_tuple_tup, ↓e_tuple_obj, ↓e_list_tup, ↓e_list_obj, ↓e_dget, ↓e_din, ↓e_dnin, ↓e_lstAt, ↓e_dicAt,   e_key_int, e_key_str, e_up, e_ty_str, e_ty_tup, e_ty_int, e_ty_bl, e_ty_non, atI0, atI1, atI2, atI3, atIL, ixN0, ixN1, cut_from1, e_ite_or, e_ite_and, zln, znl, zli, zil, zni, zin, sizeLine_eq, CMul, CDiv, cpow1018, true_or, or_true, kb_strstr, kb_tupstr, kb_tuptup, kb_strtup, kb_inttup, kb_bltup, kb_nontup, kb_strbl, kb_strint, kb_intbl, kb_intint, kb_blbl, kb_blint, kb_nonbl, kb_nonint, kb_nonstr, kb_intstr, kb_blstr, kb_tupbl, kb_tupint,   List.set_cons_zero, List.set_cons_succ, List.set_nil, List.getElem?_cons_zero, List.getElem?_cons_succ, List.getElem?_nil, List.length_cons, List.length_nil, List.length_map, List.length_append, e_lcN, e_lcC, e_forN, e_forC, List.getLast?_concat, List.dropLast_concat, List.nil_append, List.cons_append, List.append_nil, List.append_assoc, List.reverse_cons, List.reverse_nil, List.isEmpty_nil, List.isEmpty_cons, isEmpty_snoc, List.any_cons, List.any_nil, List.all_cons, List.all_nil, flatD, eqF, in_non, in_tup, in_str, in_int, in_bl, in_obj, in_fl, startA, List.map_cons, List.map_nil, List.replicate_succ, List.replicate_zero,   Nat.reduceAdd, Nat.reduceSub, Nat.reduceLeDiff, Nat.zero_add, Int.reduceLE, Int.reduceLT, Int.reduceToNat, Int.reducePow, Int.reduceNeg, Int.reduceAdd, Int.reduceSub,   Option.isSome_some, Option.isSome_none, Bool.not_true, Bool.not_false, Bool.not_eq_true', Bool.not_eq_eq_eq_not, Bool.not_eq_true, Bool.false_eq_true, Bool.true_eq_false, Bool.and_true, Bool.true_and, Bool.or_false, Bool.false_or, Bool.or_true, Bool.true_or, Bool.and_false, Bool.false_and, if_true, if_false, ite_true, ite_false, reduceIte, reduceCtorEq, decide_true, decide_false, decide_eq_true_eq, decide_eq_false_iff_not, true_and, and_true, eq_self, ne_eq, not_false_eq_true, not_true_eq_false, and_self, *])
    refine ⟨rfl, g, rfl, by omega, by omega, fun M4 e4 => ?_⟩
    try (simp only [↓e_seq, ↓e_next, ↓e_break, ↓e_cont, ↓e_expr, ↓e_ret, ↓e_retN, ↓e_if, ↓e_never, ↓e_asg, ↓e_name, ↓e_agtup, ↓e_agcons, ↓e_agnil, ↓e_agsub, ↓e_aug, ↓e_dput, ↓e_var, ↓e_c, ↓e_op, ↓e_some, ↓e_none, ↓e_test, ↓e_and, ↓e_or, ↓e_not, ↓e_yes, ↓e_truth,   ↓e_tru_bl, ↓e_tru_int, ↓e_tru_non, ↓e_tru_str, ↓e_tru_tup, ↓e_tru_obj, ↓e_chain, ↓e_orV, ↓e_andV, ↓e_notV, ↓e_ifE, ↓e_neg, ↓e_nil, ↓e_cons, ↓e_tup, ↓e_lst, ↓e_dnew, ↓e_call, ↓e_cb, ↓e_isi, ↓e_sl, ↓e_onone, ↓e_osome, ↓e_rev, ↓e_lm, ↓e_append, ↓e_extend, ↓e_pop, ↓e_join, ↓e_dget2, ↓e_sortSet, ↓e_sortS, ↓e_setd, strsOf_map, ↓e_maxI, ↓e_disp, ↓e_pairN, ↓e_pairC, intsOf_map, ↓e_for, ↓e_ilist, ↓e_itup, ↓e_rng1, ↓e_rng2, ↓e_lc, ↓e_lc2, e_lc2N, ↓e_ienum, ↓e_izip, ↓e_anyB, ↓e_allB, ↓e_mulS, blsOf_map, ↓e_set0, ↓e_sadd, ↓e_sortTx, ↓e_sortD, ↓e_repr, ↓e_extT, ↓e_sc2, ↓e_sortZ, ↓e_tupVals, ↓e_wget, ↓e_wix, ↓e_listZip, zipD_nil, zipD_cons, ↓e_dgetF, ↓e_idif, ↓e_isB, ↓e_sortI, ↓e_sortSetI, ↓e_tailR, ↓e_divmod, ↓e_strI, ↓e_lenD, ↓e_fmt, ↓e_fs2,   ↓e_add_int, ↓e_add_str, ↓e_add_tup, ↓e_add_obj, ↓e_iadd_int, ↓e_iadd_str, ↓e_iadd_obj, ↓e_I, ↓e_I0, ↓e_IS_int, ↓e_IS_str, ↓e_eq_str, ↓e_ne_str, ↓e_eq_int, ↓e_ne_int, ↓e_eq_bl, ↓e_ne_bl, ↓e_isN, ↓e_notN, ↓e_ix_tup, ↓e_ix_fl, ↓e_ix_str, ↓e_ix_obj, ↓e_in_tup, ↓e_nin_tup, ↓e_len_tup, ↓e_len_fl, ↓e_len_str, ↓e_len_obj, ↓e_int_int, ↓e_tuple_tup, ↓e_tuple_obj, ↓e_list_tup, ↓e_list_obj, ↓e_dget, ↓e_din, ↓e_dnin, ↓e_lstAt, ↓e_dicAt,   e_key_int, e_key_str, e_up, e_ty_str, e_ty_tup, e_ty_int, e_ty_bl, e_ty_non, atI0, atI1, atI2, atI3, atIL, ixN0, ixN1, cut_from1, e_ite_or, e_ite_and, zln, znl, zli, zil, zni, zin, sizeLine_eq, CMul, CDiv, cpow1018, true_or, or_true, kb_strstr, kb_tupstr, kb_tuptup, kb_strtup, kb_inttup, kb_bltup, kb_nontup, kb_strbl, kb_strint, kb_intbl, kb_intint, kb_blbl, kb_blint, kb_nonbl, kb_nonint, kb_nonstr, kb_intstr, kb_blstr, kb_tupbl, kb_tupint,   List.set_cons_zero, List.set_cons_succ, List.set_nil, List.getElem?_cons_zero, List.getElem?_cons_succ, List.getElem?_nil, List.length_cons, List.length_nil, List.length_map, List.length_append, e_lcN, e_lcC, e_forN, e_forC, List.getLast?_concat, List.dropLast_concat, List.nil_append, List.cons_append, List.append_nil, List.append_assoc, List.reverse_cons, List.reverse_nil, List.isEmpty_nil, List.isEmpty_cons, isEmpty_snoc, List.any_cons, List.any_nil, List.all_cons, List.all_nil, flatD, eqF, in_non, in_tup, in_str, in_int, in_bl, in_obj, in_fl, startA, List.map_cons, List.map_nil, List.replicate_succ, List.replicate_zero,   Nat.reduceAdd, Nat.reduceSub, Nat.reduceLeDiff, Nat.zero_add, Int.reduceLE, Int.reduceLT, Int.reduceToNat, Int.reducePow, Int.reduceNeg, Int.reduceAdd, Int.reduceSub,   Option.isSome_some, Option.isSome_none, Bool.not_true, Bool.not_false, Bool.not_eq_true', Bool.not_eq_eq_eq_not, Bool.not_eq_true, Bool.false_eq_true, Bool.true_eq_false, Bool.and_true, Bool.true_and, Bool.or_false, Bool.false_or, Bool.or_true, Bool.true_or, Bool.and_false, Bool.false_and, if_true, if_false, ite_true, ite_false, reduceIte, reduceCtorEq, decide_true, decide_false, decide_eq_true_eq, decide_eq_false_iff_not, true_and, and_true, eq_self, ne_eq, not_false_eq_true, not_true_eq_false, and_self, *])
    refine ⟨rfl, g, rfl, by omega, by omega, fun M5 e5 => ?_⟩
    try (simp only [↓e_seq, ↓e_next, ↓e_break, ↓e_cont, ↓e_expr, ↓e_ret, ↓e_retN, ↓e_if, ↓e_never, ↓e_asg, ↓e_name, ↓e_agtup, ↓e_agcons, ↓e_agnil, ↓e_agsub, ↓e_aug, ↓e_dput, ↓e_var, ↓e_c, ↓e_op, ↓e_some, ↓e_none, ↓e_test, ↓e_and, ↓e_or, ↓e_not, ↓e_yes, ↓e_truth,   ↓e_tru_bl, ↓e_tru_int, ↓e_tru_non, ↓e_tru_str, ↓e_tru_tup, ↓e_tru_obj, ↓e_chain, ↓e_orV, ↓e_andV, ↓e_notV, ↓e_ifE, ↓e_neg, ↓e_nil, ↓e_cons, ↓e_tup, ↓e_lst, ↓e_dnew, ↓e_call, ↓e_cb, ↓e_isi, ↓e_sl, ↓e_onone, ↓e_osome, ↓e_rev, ↓e_lm, ↓e_append, ↓e_extend, ↓e_pop, ↓e_join, ↓e_dget2, ↓e_sortSet, ↓e_sortS, ↓e_setd, strsOf_map, ↓e_maxI, ↓e_disp, ↓e_pairN, ↓e_pairC, intsOf_map, ↓e_for, ↓e_ilist, ↓e_itup, ↓e_rng1, ↓e_rng2, ↓e_lc, ↓e_lc2, e_lc2N, ↓e_ienum, ↓e_izip, ↓e_anyB, ↓e_allB, ↓e_mulS, blsOf_map, ↓e_set0, ↓e_sadd, ↓e_sortTx, ↓e_sortD, ↓e_repr, ↓e_extT, ↓e_sc2, ↓e_sortZ, ↓e_tupVals, ↓e_wget, ↓e_wix, ↓e_listZip, zipD_nil, zipD_cons, ↓e_dgetF, ↓e_idif, ↓e_isB, ↓e_sortI, ↓e_sortSetI, ↓e_tailR, ↓e_divmod, ↓e_strI, ↓e_lenD, ↓e_fmt, ↓e_fs2,   ↓e_add_int, ↓e_add_str, ↓e_add_tup, ↓e_add_obj, ↓e_iadd_int, ↓e_iadd_str, ↓e_iadd_obj, ↓e_I, ↓e_I0, ↓e_IS_int, ↓e_IS_str, ↓e_eq_str, ↓e_ne_str, ↓e_eq_int, ↓e_ne_int, ↓e_eq_bl, ↓e_ne_bl, ↓e_isN, ↓e_notN, ↓e_ix_tup, ↓e_ix_fl, ↓e_ix_str, ↓e_ix_obj, ↓e_in_tup, ↓e_nin_tup, ↓e_len_tup, ↓e_len_fl, ↓e_len_str, ↓e_len_obj, ↓e_int_int, ↓e_tuple_tup, ↓e_tuple_obj, ↓e_list_tup, ↓e_list_obj, ↓e_dget, ↓e_din, ↓e_dnin, ↓e_lstAt, ↓e_dicAt,   e_key_int, e_key_str, e_up, e_ty_str, e_ty_tup, e_ty_int, e_ty_bl, e_ty_non, atI0, atI1, atI2, atI3, atIL, ixN0, ixN1, cut_from1, e_ite_or, e_ite_and, zln, znl, zli, zil, zni, zin, sizeLine_eq, CMul, CDiv, cpow1018, true_or, or_true, kb_strstr, kb_tupstr, kb_tuptup, kb_strtup, kb_inttup, kb_bltup, kb_nontup, kb_strbl, kb_strint, kb_intbl, kb_intint, kb_blbl, kb_blint, kb_nonbl, kb_nonint, kb_nonstr, kb_intstr, kb_blstr, kb_tupbl, kb_tupint,   List.set_cons_zero, List.set_cons_succ, List.set_nil, List.getElem?_cons_zero, List.getElem?_cons_succ, List.getElem?_nil, List.length_cons, List.length_nil, List.length_map, List.length_append, e_lcN, e_lcC, e_forN, e_forC, List.getLast?_concat, List.dropLast_concat, List.nil_append, List.cons_append, List.append_nil, List.append_assoc, List.reverse_cons, List.reverse_nil, List.isEmpty_nil, List.isEmpty_cons, isEmpty_snoc, List.any_cons, List.any_nil, List.all_cons, List.all_nil, flatD, eqF, in_non, in_tup, in_str, in_int, in_bl, in_obj, in_fl, startA, List.map_cons, List.map_nil, List.replicate_succ, List.replicate_zero,   Nat.reduceAdd, Nat.reduceSub, Nat.reduceLeDiff, Nat.zero_add, Int.reduceLE, Int.reduceLT, Int.reduceToNat, Int.reducePow, Int.reduceNeg, Int.reduceAdd, Int.reduceSub,   Option.isSome_some, Option.isSome_none, Bool.not_true, Bool.not_false, Bool.not_eq_true', Bool.not_eq_eq_eq_not, Bool.not_eq_true, Bool.false_eq_true, Bool.true_eq_false, Bool.and_true, Bool.true_and, Bool.or_false, Bool.false_or, Bool.or_true, Bool.true_or, Bool.and_false, Bool.false_and, if_true, if_false, ite_true, ite_false, reduceIte, reduceCtorEq, decide_true, decide_false, decide_eq_true_eq, decide_eq_false_iff_not, true_and, and_true, eq_self, ne_eq, not_false_eq_true, not_true_eq_false, and_self, *])
    refine ⟨rfl, g.rn.d, rfl, Fm.plain _, ?_, ?_⟩
    · have z1 := Fm.dep g.rn
      rw [Fm.rn_sz] at z1
      omega
    · try (simp only [↓e_seq, ↓e_next, ↓e_break, ↓e_cont, ↓e_expr, ↓e_ret, ↓e_retN, ↓e_if, ↓e_never, ↓e_asg, ↓e_name, ↓e_agtup, ↓e_agcons, ↓e_agnil, ↓e_agsub, ↓e_aug, ↓e_dput, ↓e_var, ↓e_c, ↓e_op, ↓e_some, ↓e_none, ↓e_test, ↓e_and, ↓e_or, ↓e_not, ↓e_yes, ↓e_truth,   ↓e_tru_bl, ↓e_tru_int, ↓e_tru_non, ↓e_tru_str, ↓e_tru_tup, ↓e_tru_obj, ↓e_chain, ↓e_orV, ↓e_andV, ↓e_notV, ↓e_ifE, ↓e_neg, ↓e_nil, ↓e_cons, ↓e_tup, ↓e_lst, ↓e_dnew, ↓e_call, ↓e_cb, ↓e_isi, ↓e_sl, ↓e_onone, ↓e_osome, ↓e_rev, ↓e_lm, ↓e_append, ↓e_extend, ↓e_pop, ↓e_join, ↓e_dget2, ↓e_sortSet, ↓e_sortS, ↓e_setd, strsOf_map, ↓e_maxI, ↓e_disp, ↓e_pairN, ↓e_pairC, intsOf_map, ↓e_for, ↓e_ilist, ↓e_itup, ↓e_rng1, ↓e_rng2, ↓e_lc, ↓e_lc2, e_lc2N, ↓e_ienum, ↓e_izip, ↓e_anyB, ↓e_allB, ↓e_mulS, blsOf_map, ↓e_set0, ↓e_sadd, ↓e_sortTx, ↓e_sortD, ↓e_repr, ↓e_extT, ↓e_sc2, ↓e_sortZ, ↓e_tupVals, ↓e_wget, ↓e_wix, ↓e_listZip, zipD_nil, zipD_cons, ↓e_dgetF, ↓e_idif, ↓e_isB, ↓e_sortI, ↓e_sortSetI, ↓e_tailR, ↓e_divmod, ↓e_strI, ↓e_lenD, ↓e_fmt, ↓e_fs2,   ↓e_add_int, ↓e_add_str, ↓e_add_tup, ↓e_add_obj, ↓e_iadd_int, ↓e_iadd_str, ↓e_iadd_obj, ↓e_I, ↓e_I0, ↓e_IS_int, ↓e_IS_str, ↓e_eq_str, ↓e_ne_str, ↓e_eq_int, ↓e_ne_int, ↓e_eq_bl, ↓e_ne_bl, ↓e_isN, ↓e_notN, ↓e_ix_tup, ↓e_ix_fl, ↓e_ix_str, ↓e_ix_obj, ↓e_in_tup, ↓e_nin_tup, ↓e_len_tup, ↓e_len_fl, ↓e_len_str, ↓e_len_obj, ↓e_int_int, ↓e_tuple_tup, ↓e_tuple_obj, ↓e_list_tup, ↓e_list_obj, ↓e_dget, ↓e_din, ↓e_dnin, ↓e_lstAt, ↓e_dicAt,   e_key_int, e_key_str, e_up, e_ty_str, e_ty_tup, e_ty_int, e_ty_bl, e_ty_non, atI0, atI1, atI2, atI3, atIL, ixN0, ixN1, cut_from1, e_ite_or, e_ite_and, zln, znl, zli, zil, zni, zin, sizeLine_eq, CMul, CDiv, cpow1018, true_or, or_true, kb_strstr, kb_tupstr, kb_tuptup, kb_strtup, kb_inttup, kb_bltup, kb_nontup, kb_strbl, kb_strint, kb_intbl, kb_intint, kb_blbl, kb_blint, kb_nonbl, kb_nonint, kb_nonstr, kb_intstr, kb_blstr, kb_tupbl, kb_tupint,   List.set_cons_zero, List.set_cons_succ, List.set_nil, List.getElem?_cons_zero, List.getElem?_cons_succ, List.getElem?_nil, List.length_cons, List.length_nil, List.length_map, List.length_append, e_lcN, e_lcC, e_forN, e_forC, List.getLast?_concat, List.dropLast_concat, List.nil_append, List.cons_append, List.append_nil, List.append_assoc, List.reverse_cons, List.reverse_nil, List.isEmpty_nil, List.isEmpty_cons, isEmpty_snoc, List.any_cons, List.any_nil, List.all_cons, List.all_nil, flatD, eqF, in_non, in_tup, in_str, in_int, in_bl, in_obj, in_fl, startA, List.map_cons, List.map_nil, List.replicate_succ, List.replicate_zero,   Nat.reduceAdd, Nat.reduceSub, Nat.reduceLeDiff, Nat.zero_add, Int.reduceLE, Int.reduceLT, Int.reduceToNat, Int.reducePow, Int.reduceNeg, Int.reduceAdd, Int.reduceSub,   Option.isSome_some, Option.isSome_none, Bool.not_true, Bool.not_false, Bool.not_eq_true', Bool.not_eq_eq_eq_not, Bool.not_eq_true, Bool.false_eq_true, Bool.true_eq_false, Bool.and_true, Bool.true_and, Bool.or_false, Bool.false_or, Bool.or_true, Bool.true_or, Bool.and_false, Bool.false_and, if_true, if_false, ite_true, ite_false, reduceIte, reduceCtorEq, decide_true, decide_false, decide_eq_true_eq, decide_eq_false_iff_not, true_and, and_true, eq_self, ne_eq, not_false_eq_true, not_true_eq_false, and_self, *])
      exact next _ _ ⟨k + 1, m, _, _, rfl, rfl, (hb3.ext e4).ext e5⟩

theorem p_put (L : Nat) (ds : List D) (M : Sto) (Q : D → Sto → Prop) (Xa) (hl : ds.length = 2) (h : A_put (L + 1) ds M Q Xa) : a_put (A_put L) ax0 (Done Q) (startA ["formula", "table"] ds) M := by
  obtain ⟨f, t, kvs, σ, rfl, hL, ht, hσ, q⟩ := h
  unfold a_put
  cases f with
  | lt s =>
    rw [Fm.d_lt]
    have e := hσ s
    rw [Fm.d_lt] at e
    have q1 := q M (Ext.refl M)
    have e2 : ((Fm.lt s).sub σ) = σ s := rfl
    rw [e2] at q1
    try (simp only [↓e_seq, ↓e_next, ↓e_break, ↓e_cont, ↓e_expr, ↓e_ret, ↓e_retN, ↓e_if, ↓e_never, ↓e_asg, ↓e_name, ↓e_agtup, ↓e_agcons, ↓e_agnil, ↓e_agsub, ↓e_aug, ↓e_dput, ↓e_var, ↓e_c, ↓e_op, ↓e_some, ↓e_none, ↓e_test, ↓e_and, ↓e_or, ↓e_not, ↓e_yes, ↓e_truth,   ↓e_tru_bl, ↓e_tru_int, ↓e_tru_non, ↓e_tru_str, ↓e_tru_tup, ↓e_tru_obj, ↓e_chain, ↓e_orV, ↓e_andV, ↓e_notV, ↓e_ifE, ↓e_neg, ↓e_nil, ↓e_cons, ↓e_tup, ↓e_lst, ↓e_dnew, ↓e_call, ↓e_cb, ↓e_isi, ↓e_sl, ↓e_onone, ↓e_osome, ↓e_rev, ↓e_lm, ↓e_append, ↓e_extend, ↓e_pop, ↓e_join, ↓e_dget2, ↓e_sortSet, ↓e_sortS, ↓e_setd, strsOf_map, ↓e_maxI, ↓e_disp, ↓e_pairN, ↓e_pairC, intsOf_map, ↓e_for, ↓e_ilist, ↓e_itup, ↓e_rng1, ↓e_rng2, ↓e_lc, ↓e_lc2, e_lc2N, ↓e_ienum, ↓e_izip, ↓e_anyB, ↓e_allB, ↓e_mulS, blsOf_map, ↓e_set0, ↓e_sadd, ↓e_sortTx, ↓e_sortD, ↓e_repr, ↓e_extT, ↓e_sc2, ↓e_sortZ, ↓e_tupVals, ↓e_wget, ↓e_wix, ↓e_listZip, zipD_nil, zipD_cons, ↓e_dgetF, ↓e_idif, ↓e_isB, ↓e_sortI, ↓e_sortSetI, ↓e_tailR, ↓e_divmod, ↓e_strI, ↓e_lenD, ↓e_fmt, ↓e_fs2,   ↓e_add_int, ↓e_add_str, ↓e_add_tup, ↓e_add_obj, ↓e_iadd_int, ↓e_iadd_str, ↓e_iadd_obj, ↓e_I, ↓e_I0, ↓e_IS_int, ↓e_IS_str, ↓e_eq_str, ↓e_ne_str, ↓e_eq_int, ↓e_ne_int, ↓e_eq_bl, ↓e_ne_bl, ↓e_isN, ↓e_notN, ↓e_ix_tup, ↓e_ix_fl, ↓e_ix_str, ↓e_ix_obj, ↓e_in_tup, ↓e_nin_tup, ↓e_len_tup, ↓e_len_fl, ↓e_len_str, ↓e_len_obj, ↓e_int_int, ↓e_tuple_tup, ↓e_tuple_obj, ↓e_list_tup, ↓e_list_obj, ↓e_dget, ↓e_din, ↓e_dnin, ↓e_lstAt, ↓e_dicAt,   e_key_int, e_key_str, e_up, e_ty_str, e_ty_tup, e_ty_int, e_ty_bl, e_ty_non, atI0, atI1, atI2, atI3, atIL, ixN0, ixN1, cut_from1, e_ite_or, e_ite_and, zln, znl, zli, zil, zni, zin, sizeLine_eq, CMul, CDiv, cpow1018, true_or, or_true, kb_strstr, kb_tupstr, kb_tuptup, kb_strtup, kb_inttup, kb_bltup, kb_nontup, kb_strbl, kb_strint, kb_intbl, kb_intint, kb_blbl, kb_blint, kb_nonbl, kb_nonint, kb_nonstr, kb_intstr, kb_blstr, kb_tupbl, kb_tupint,   List.set_cons_zero, List.set_cons_succ, List.set_nil, List.getElem?_cons_zero, List.getElem?_cons_succ, List.getElem?_nil, List.length_cons, List.length_nil, List.length_map, List.length_append, e_lcN, e_lcC, e_forN, e_forC, List.getLast?_concat, List.dropLast_concat, List.nil_append, List.cons_append, List.append_nil, List.append_assoc, List.reverse_cons, List.reverse_nil, List.isEmpty_nil, List.isEmpty_cons, isEmpty_snoc, List.any_cons, List.any_nil, List.all_cons, List.all_nil, flatD, eqF, in_non, in_tup, in_str, in_int, in_bl, in_obj, in_fl, startA, List.map_cons, List.map_nil, List.replicate_succ, List.replicate_zero,   Nat.reduceAdd, Nat.reduceSub, Nat.reduceLeDiff, Nat.zero_add, Int.reduceLE, Int.reduceLT, Int.reduceToNat, Int.reducePow, Int.reduceNeg, Int.reduceAdd, Int.reduceSub,   Option.isSome_some, Option.isSome_none, Bool.not_true, Bool.not_false, Bool.not_eq_true', Bool.not_eq_eq_eq_not, Bool.not_eq_true, Bool.false_eq_true, Bool.true_eq_false, Bool.and_true, Bool.true_and, Bool.or_false, Bool.false_or, Bool.or_true, Bool.true_or, Bool.and_false, Bool.false_and, if_true, if_false, ite_true, ite_false, reduceIte, reduceCtorEq, decide_true, decide_false, decide_eq_true_eq, decide_eq_false_iff_not, true_and, and_true, eq_self, ne_eq, not_false_eq_true, not_true_eq_false, and_self, *])
  | ng p =>
    have z : (Fm.ng p).sz = p.sz + 1 := rfl
    rw [Fm.d_ng]
    try (simp only [↓e_seq, ↓e_next, ↓e_break, ↓e_cont, ↓e_expr, ↓e_ret, ↓e_retN, ↓e_if, ↓e_never, ↓e_asg, ↓e_name, ↓e_agtup, ↓e_agcons, ↓e_agnil, ↓e_agsub, ↓e_aug, ↓e_dput, ↓e_var, ↓e_c, ↓e_op, ↓e_some, ↓e_none, ↓e_test, ↓e_and, ↓e_or, ↓e_not, ↓e_yes, ↓e_truth,   ↓e_tru_bl, ↓e_tru_int, ↓e_tru_non, ↓e_tru_str, ↓e_tru_tup, ↓e_tru_obj, ↓e_chain, ↓e_orV, ↓e_andV, ↓e_notV, ↓e_ifE, ↓e_neg, ↓e_nil, ↓e_cons, ↓e_tup, ↓e_lst, ↓e_dnew, ↓e_call, ↓e_cb, ↓e_isi, ↓e_sl, ↓e_onone, ↓e_osome, ↓e_rev, ↓e_lm, ↓e_append, ↓e_extend, ↓e_pop, ↓e_join, ↓e_dget2, ↓e_sortSet, ↓e_sortS, ↓e_setd, strsOf_map, ↓e_maxI, ↓e_disp, ↓e_pairN, ↓e_pairC, intsOf_map, ↓e_for, ↓e_ilist, ↓e_itup, ↓e_rng1, ↓e_rng2, ↓e_lc, ↓e_lc2, e_lc2N, ↓e_ienum, ↓e_izip, ↓e_anyB, ↓e_allB, ↓e_mulS, blsOf_map, ↓e_set0, ↓e_sadd, ↓e_sortTx, ↓e_sortD, ↓e_repr, ↓e_extT, ↓e_sc2, ↓e_sortZ, ↓e_tupVals, ↓e_wget, ↓e_wix, ↓e_listZip, zipD_nil, zipD_cons, ↓e_dgetF, ↓e_idif, ↓e_isB, ↓e_sortI, ↓e_sortSetI, ↓e_tailR, ↓e_divmod, ↓e_strI, ↓e_lenD, ↓e_fmt, ↓e_fs2,   ↓e_add_int, ↓e_add_str, ↓e_add_tup, ↓e_add_obj, ↓e_iadd_int, ↓e_iadd_str, ↓e_iadd_obj, ↓e_I, ↓e_I0, ↓e_IS_int, ↓e_IS_str, ↓e_eq_str, ↓e_ne_str, ↓e_eq_int, ↓e_ne_int, ↓e_eq_bl, ↓e_ne_bl, ↓e_isN, ↓e_notN, ↓e_ix_tup, ↓e_ix_fl, ↓e_ix_str, ↓e_ix_obj, ↓e_in_tup, ↓e_nin_tup, ↓e_len_tup, ↓e_len_fl, ↓e_len_str, ↓e_len_obj, ↓e_int_int, ↓e_tuple_tup, ↓e_tuple_obj, ↓e_list_tup, ↓e_list_obj, ↓e_dget, ↓e_din, ↓e_dnin, ↓e_lstAt, ↓e_dicAt,   e_key_int, e_key_str, e_up, e_ty_str, e_ty_tup, e_ty_int, e_ty_bl, e_ty_non, atI0, atI1, atI2, atI3, atIL, ixN0, ixN1, cut_from1, e_ite_or, e_ite_and, zln, znl, zli, zil, zni, zin, sizeLine_eq, CMul, CDiv, cpow1018, true_or, or_true, kb_strstr, kb_tupstr, kb_tuptup, kb_strtup, kb_inttup, kb_bltup, kb_nontup, kb_strbl, kb_strint, kb_intbl, kb_intint, kb_blbl, kb_blint, kb_nonbl, kb_nonint, kb_nonstr, kb_intstr, kb_blstr, kb_tupbl, kb_tupint,   List.set_cons_zero, List.set_cons_succ, List.set_nil, List.getElem?_cons_zero, List.getElem?_cons_succ, List.getElem?_nil, List.length_cons, List.length_nil, List.length_map, List.length_append, e_lcN, e_lcC, e_forN, e_forC, List.getLast?_concat, List.dropLast_concat, List.nil_append, List.cons_append, List.append_nil, List.append_assoc, List.reverse_cons, List.reverse_nil, List.isEmpty_nil, List.isEmpty_cons, isEmpty_snoc, List.any_cons, List.any_nil, List.all_cons, List.all_nil, flatD, eqF, in_non, in_tup, in_str, in_int, in_bl, in_obj, in_fl, startA, List.map_cons, List.map_nil, List.replicate_succ, List.replicate_zero,   Nat.reduceAdd, Nat.reduceSub, Nat.reduceLeDiff, Nat.zero_add, Int.reduceLE, Int.reduceLT, Int.reduceToNat, Int.reducePow, Int.reduceNeg, Int.reduceAdd, Int.reduceSub,   Option.isSome_some, Option.isSome_none, Bool.not_true, Bool.not_false, Bool.not_eq_true', Bool.not_eq_eq_eq_not, Bool.not_eq_true, Bool.false_eq_true, Bool.true_eq_false, Bool.and_true, Bool.true_and, Bool.or_false, Bool.false_or, Bool.or_true, Bool.true_or, Bool.and_false, Bool.false_and, if_true, if_false, ite_true, ite_false, reduceIte, reduceCtorEq, decide_true, decide_false, decide_eq_true_eq, decide_eq_false_iff_not, true_and, and_true, eq_self, ne_eq, not_false_eq_true, not_true_eq_false, and_self, *])
    refine ⟨rfl, p, t, kvs, σ, rfl, by omega, ht, hσ, fun M1 e1 => ?_⟩
    have q1 := q M1 e1
    have e2 : ((Fm.ng p).sub σ).d = .tup [.str z_not, (p.sub σ).d] := rfl
    rw [e2] at q1
    try (simp only [↓e_seq, ↓e_next, ↓e_break, ↓e_cont, ↓e_expr, ↓e_ret, ↓e_retN, ↓e_if, ↓e_never, ↓e_asg, ↓e_name, ↓e_agtup, ↓e_agcons, ↓e_agnil, ↓e_agsub, ↓e_aug, ↓e_dput, ↓e_var, ↓e_c, ↓e_op, ↓e_some, ↓e_none, ↓e_test, ↓e_and, ↓e_or, ↓e_not, ↓e_yes, ↓e_truth,   ↓e_tru_bl, ↓e_tru_int, ↓e_tru_non, ↓e_tru_str, ↓e_tru_tup, ↓e_tru_obj, ↓e_chain, ↓e_orV, ↓e_andV, ↓e_notV, ↓e_ifE, ↓e_neg, ↓e_nil, ↓e_cons, ↓e_tup, ↓e_lst, ↓e_dnew, ↓e_call, ↓e_cb, ↓e_isi, ↓e_sl, ↓e_onone, ↓e_osome, ↓e_rev, ↓e_lm, ↓e_append, ↓e_extend, ↓e_pop, ↓e_join, ↓e_dget2, ↓e_sortSet, ↓e_sortS, ↓e_setd, strsOf_map, ↓e_maxI, ↓e_disp, ↓e_pairN, ↓e_pairC, intsOf_map, ↓e_for, ↓e_ilist, ↓e_itup, ↓e_rng1, ↓e_rng2, ↓e_lc, ↓e_lc2, e_lc2N, ↓e_ienum, ↓e_izip, ↓e_anyB, ↓e_allB, ↓e_mulS, blsOf_map, ↓e_set0, ↓e_sadd, ↓e_sortTx, ↓e_sortD, ↓e_repr, ↓e_extT, ↓e_sc2, ↓e_sortZ, ↓e_tupVals, ↓e_wget, ↓e_wix, ↓e_listZip, zipD_nil, zipD_cons, ↓e_dgetF, ↓e_idif, ↓e_isB, ↓e_sortI, ↓e_sortSetI, ↓e_tailR, ↓e_divmod, ↓e_strI, ↓e_lenD, ↓e_fmt, ↓e_fs2,   ↓e_add_int, ↓e_add_str, ↓e_add_tup, ↓e_add_obj, ↓e_iadd_int, ↓e_iadd_str, ↓e_iadd_obj, ↓e_I, ↓e_I0, ↓e_IS_int, ↓e_IS_str, ↓e_eq_str, ↓e_ne_str, ↓e_eq_int, ↓e_ne_int, ↓e_eq_bl, ↓e_ne_bl, ↓e_isN, ↓e_notN, ↓e_ix_tup, ↓e_ix_fl, ↓e_ix_str, ↓e_ix_obj, ↓e_in_tup, ↓e_nin_tup, ↓e_len_tup, ↓e_len_fl, ↓e_len_str, ↓e_len_obj, ↓e_int_int, ↓e_tuple_tup, ↓e_tuple_obj, ↓e_list_tup, ↓e_list_obj, ↓e_dget, ↓e_din, ↓e_dnin, ↓e_lstAt, ↓e_dicAt,   e_key_int, e_key_str, e_up, e_ty_str, e_ty_tup, e_ty_int, e_ty_bl, e_ty_non, atI0, atI1, atI2, atI3, atIL, ixN0, ixN1, cut_from1, e_ite_or, e_ite_and, zln, znl, zli, zil, zni, zin, sizeLine_eq, CMul, CDiv, cpow1018, true_or, or_true, kb_strstr, kb_tupstr, kb_tuptup, kb_strtup, kb_inttup, kb_bltup, kb_nontup, kb_strbl, kb_strint, kb_intbl, kb_intint, kb_blbl, kb_blint, kb_nonbl, kb_nonint, kb_nonstr, kb_intstr, kb_blstr, kb_tupbl, kb_tupint,   List.set_cons_zero, List.set_cons_succ, List.set_nil, List.getElem?_cons_zero, List.getElem?_cons_succ, List.getElem?_nil, List.length_cons, List.length_nil, List.length_map, List.length_append, e_lcN, e_lcC, e_forN, e_forC, List.getLast?_concat, List.dropLast_concat, List.nil_append, List.cons_append, List.append_nil, List.append_assoc, List.reverse_cons, List.reverse_nil, List.isEmpty_nil, List.isEmpty_cons, isEmpty_snoc, List.any_cons, List.any_nil, List.all_cons, List.all_nil, flatD, eqF, in_non, in_tup, in_str, in_int, in_bl, in_obj, in_fl, startA, List.map_cons, List.map_nil, List.replicate_succ, List.replicate_zero,   Nat.reduceAdd, Nat.reduceSub, Nat.reduceLeDiff, Nat.zero_add, Int.reduceLE, Int.reduceLT, Int.reduceToNat, Int.reducePow, Int.reduceNeg, Int.reduceAdd, Int.reduceSub,   Option.isSome_some, Option.isSome_none, Bool.not_true, Bool.not_false, Bool.not_eq_true', Bool.not_eq_eq_eq_not, Bool.not_eq_true, Bool.false_eq_true, Bool.true_eq_false, Bool.and_true, Bool.true_and, Bool.or_false, Bool.false_or, Bool.or_true, Bool.true_or, Bool.and_false, Bool.false_and, if_true, if_false, ite_true, ite_false, reduceIte, reduceCtorEq, decide_true, decide_false, decide_eq_true_eq, decide_eq_false_iff_not, true_and, and_true, eq_self, ne_eq, not_false_eq_true, not_true_eq_false, and_self, *])
  | im p r =>
    have z : (Fm.im p r).sz = p.sz + r.sz + 1 := rfl
    rw [Fm.d_im]
    try (simp only [↓e_seq, ↓e_next, ↓e_break, ↓e_cont, ↓e_expr, ↓e_ret, ↓e_retN, ↓e_if, ↓e_never, ↓e_asg, ↓e_name, ↓e_agtup, ↓e_agcons, ↓e_agnil, ↓e_agsub, ↓e_aug, ↓e_dput, ↓e_var, ↓e_c, ↓e_op, ↓e_some, ↓e_none, ↓e_test, ↓e_and, ↓e_or, ↓e_not, ↓e_yes, ↓e_truth,   ↓e_tru_bl, ↓e_tru_int, ↓e_tru_non, ↓e_tru_str, ↓e_tru_tup, ↓e_tru_obj, ↓e_chain, ↓e_orV, ↓e_andV, ↓e_notV, ↓e_ifE, ↓e_neg, ↓e_nil, ↓e_cons, ↓e_tup, ↓e_lst, ↓e_dnew, ↓e_call, ↓e_cb, ↓e_isi, ↓e_sl, ↓e_onone, ↓e_osome, ↓e_rev, ↓e_lm, ↓e_append, ↓e_extend, ↓e_pop, ↓e_join, ↓e_dget2, ↓e_sortSet, ↓e_sortS, ↓e_setd, strsOf_map, ↓e_maxI, ↓e_disp, ↓e_pairN, ↓e_pairC, intsOf_map, ↓e_for, ↓e_ilist, ↓e_itup, ↓e_rng1, ↓e_rng2, ↓e_lc, ↓e_lc2, e_lc2N, ↓e_ienum, ↓e_izip, ↓e_anyB, ↓e_allB, ↓e_mulS, blsOf_map, ↓e_set0, ↓e_sadd, ↓e_sortTx, ↓e_sortD, ↓e_repr, ↓e_extT, ↓e_sc2, ↓e_sortZ, ↓e_tupVals, ↓e_wget, ↓e_wix, ↓e_listZip, zipD_nil, zipD_cons, ↓e_dgetF, ↓e_idif, ↓e_isB, ↓e_sortI, ↓e_sortSetI, ↓e_tailR, ↓e_divmod, ↓e_strI, ↓e_lenD, ↓e_fmt, ↓e_fs2,   ↓e_add_int, ↓e_add_str, ↓e_add_tup, ↓e_add_obj, ↓e_iadd_int, ↓e_iadd_str, ↓e_iadd_obj, ↓e_I, ↓e_I0, ↓e_IS_int, ↓e_IS_str, ↓e_eq_str, ↓e_ne_str, ↓e_eq_int, ↓e_ne_int, ↓e_eq_bl, ↓e_ne_bl, ↓e_isN, ↓e_notN, ↓e_ix_tup, ↓e_ix_fl, ↓e_ix_str, ↓e_ix_obj, ↓e_in_tup, ↓e_nin_tup, ↓e_len_tup, ↓e_len_fl, ↓e_len_str, ↓e_len_obj, ↓e_int_int, ↓e_tuple_tup, ↓e_tuple_obj, ↓e_list_tup, ↓e_list_obj, ↓e_dget, ↓e_din, ↓e_dnin, ↓e_lstAt, ↓e_dicAt,   e_key_int, e_key_str, e_up, e_ty_str, e_ty_tup, e_ty_int, e_ty_bl, e_ty_non, atI0, atI1, atI2, atI3, atIL, ixN0, ixN1, cut_from1, e_ite_or, e_ite_and, zln, znl, zli, zil, zni, zin, sizeLine_eq, CMul, CDiv, cpow1018, true_or, or_true, kb_strstr, kb_tupstr, kb_tuptup, kb_strtup, kb_inttup, kb_bltup, kb_nontup, kb_strbl, kb_strint, kb_intbl, kb_intint, kb_blbl, kb_blint, kb_nonbl, kb_nonint, kb_nonstr, kb_intstr, kb_blstr, kb_tupbl, kb_tupint,   List.set_cons_zero, List.set_cons_succ, List.set_nil, List.getElem?_cons_zero, List.getElem?_cons_succ, List.getElem?_nil, List.length_cons, List.length_nil, List.length_map, List.length_append, e_lcN, e_lcC, e_forN, e_forC, List.getLast?_concat, List.dropLast_concat, List.nil_append, List.cons_append, List.append_nil, List.append_assoc, List.reverse_cons, List.reverse_nil, List.isEmpty_nil, List.isEmpty_cons, isEmpty_snoc, List.any_cons, List.any_nil, List.all_cons, List.all_nil, flatD, eqF, in_non, in_tup, in_str, in_int, in_bl, in_obj, in_fl, startA, List.map_cons, List.map_nil, List.replicate_succ, List.replicate_zero,   Nat.reduceAdd, Nat.reduceSub, Nat.reduceLeDiff, Nat.zero_add, Int.reduceLE, Int.reduceLT, Int.reduceToNat, Int.reducePow, Int.reduceNeg, Int.reduceAdd, Int.reduceSub,   Option.isSome_some, Option.isSome_none, Bool.not_true, Bool.not_false, Bool.not_eq_true', Bool.not_eq_eq_eq_not, Bool.not_eq_true, Bool.false_eq_true, Bool.true_eq_false, Bool.and_true, Bool.true_and, Bool.or_false, Bool.false_or, Bool.or_true, Bool.true_or, Bool.and_false, Bool.false_and, if_true, if_false, ite_true, ite_false, reduceIte, reduceCtorEq, decide_true, decide_false, decide_eq_true_eq, decide_eq_false_iff_not, true_and, and_true, eq_self, ne_eq, not_false_eq_true, not_true_eq_false, and_self, *])
    refine ⟨rfl, p, t, kvs, σ, rfl, by omega, ht, hσ, fun M1 e1 => ?_⟩
    try (simp only [↓e_seq, ↓e_next, ↓e_break, ↓e_cont, ↓e_expr, ↓e_ret, ↓e_retN, ↓e_if, ↓e_never, ↓e_asg, ↓e_name, ↓e_agtup, ↓e_agcons, ↓e_agnil, ↓e_agsub, ↓e_aug, ↓e_dput, ↓e_var, ↓e_c, ↓e_op, ↓e_some, ↓e_none, ↓e_test, ↓e_and, ↓e_or, ↓e_not, ↓e_yes, ↓e_truth,   ↓e_tru_bl, ↓e_tru_int, ↓e_tru_non, ↓e_tru_str, ↓e_tru_tup, ↓e_tru_obj, ↓e_chain, ↓e_orV, ↓e_andV, ↓e_notV, ↓e_ifE, ↓e_neg, ↓e_nil, ↓e_cons, ↓e_tup, ↓e_lst, ↓e_dnew, ↓e_call, ↓e_cb, ↓e_isi, ↓e_sl, ↓e_onone, ↓e_osome, ↓e_rev, ↓e_lm, ↓e_append, ↓e_extend, ↓e_pop, ↓e_join, ↓e_dget2, ↓e_sortSet, ↓e_sortS, ↓e_setd, strsOf_map, ↓e_maxI, ↓e_disp, ↓e_pairN, ↓e_pairC, intsOf_map, ↓e_for, ↓e_ilist, ↓e_itup, ↓e_rng1, ↓e_rng2, ↓e_lc, ↓e_lc2, e_lc2N, ↓e_ienum, ↓e_izip, ↓e_anyB, ↓e_allB, ↓e_mulS, blsOf_map, ↓e_set0, ↓e_sadd, ↓e_sortTx, ↓e_sortD, ↓e_repr, ↓e_extT, ↓e_sc2, ↓e_sortZ, ↓e_tupVals, ↓e_wget, ↓e_wix, ↓e_listZip, zipD_nil, zipD_cons, ↓e_dgetF, ↓e_idif, ↓e_isB, ↓e_sortI, ↓e_sortSetI, ↓e_tailR, ↓e_divmod, ↓e_strI, ↓e_lenD, ↓e_fmt, ↓e_fs2,   ↓e_add_int, ↓e_add_str, ↓e_add_tup, ↓e_add_obj, ↓e_iadd_int, ↓e_iadd_str, ↓e_iadd_obj, ↓e_I, ↓e_I0, ↓e_IS_int, ↓e_IS_str, ↓e_eq_str, ↓e_ne_str, ↓e_eq_int, ↓e_ne_int, ↓e_eq_bl, ↓e_ne_bl, ↓e_isN, ↓e_notN, ↓e_ix_tup, ↓e_ix_fl, ↓e_ix_str, ↓e_ix_obj, ↓e_in_tup, ↓e_nin_tup, ↓e_len_tup, ↓e_len_fl, ↓e_len_str, ↓e_len_obj, ↓e_int_int, ↓e_tuple_tup, ↓e_tuple_obj, ↓e_list_tup, ↓e_list_obj, ↓e_dget, ↓e_din, ↓e_dnin, ↓e_lstAt, ↓e_dicAt,   e_key_int, e_key_str, e_up, e_ty_str, e_ty_tup, e_ty_int, e_ty_bl, e_ty_non, atI0, atI1, atI2, atI3, atIL, ixN0, ixN1, cut_from1, e_ite_or, e_ite_and, zln, znl, zli, zil, zni, zin, sizeLine_eq, CMul, CDiv, cpow1018, true_or, or_true, kb_strstr, kb_tupstr, kb_tuptup, kb_strtup, kb_inttup, kb_bltup, kb_nontup, kb_strbl, kb_strint, kb_intbl, kb_intint, kb_blbl, kb_blint, kb_nonbl, kb_nonint, kb_nonstr, kb_intstr, kb_blstr, kb_tupbl, kb_tupint,   List.set_cons_zero, List.set_cons_succ, List.set_nil, List.getElem?_cons_zero, List.getElem?_cons_succ, List.getElem?_nil, List.length_cons, List.length_nil, List.length_map, List.length_append, e_lcN, e_lcC, e_forN, e_forC, List.getLast?_concat, List.dropLast_concat, List.nil_append, List.cons_append, List.append_nil, List.append_assoc, List.reverse_cons, List.reverse_nil, List.isEmpty_nil, List.isEmpty_cons, isEmpty_snoc, List.any_cons, List.any_nil, List.all_cons, List.all_nil, flatD, eqF, in_non, in_tup, in_str, in_int, in_bl, in_obj, in_fl, startA, List.map_cons, List.map_nil, List.replicate_succ, List.replicate_zero,   Nat.reduceAdd, Nat.reduceSub, Nat.reduceLeDiff, Nat.zero_add, Int.reduceLE, Int.reduceLT, Int.reduceToNat, Int.reducePow, Int.reduceNeg, Int.reduceAdd, Int.reduceSub,   Option.isSome_some, Option.isSome_none, Bool.not_true, Bool.not_false, Bool.not_eq_true', Bool.not_eq_eq_eq_not, Bool.not_eq_true, Bool.false_eq_true, Bool.true_eq_false, Bool.and_true, Bool.true_and, Bool.or_false, Bool.false_or, Bool.or_true, Bool.true_or, Bool.and_false, Bool.false_and, if_true, if_false, ite_true, ite_false, reduceIte, reduceCtorEq, decide_true, decide_false, decide_eq_true_eq, decide_eq_false_iff_not, true_and, and_true, eq_self, ne_eq, not_false_eq_true, not_true_eq_false, and_self, *])
    refine ⟨rfl, r, t, kvs, σ, rfl, by omega, e1 _ _ ht, hσ, fun M2 e2 => ?_⟩
    have q1 := q M2 (e1.trans e2)
    have e2 : ((Fm.im p r).sub σ).d = .tup [.str z_if, (p.sub σ).d, (r.sub σ).d] := rfl
    rw [e2] at q1
    try (simp only [↓e_seq, ↓e_next, ↓e_break, ↓e_cont, ↓e_expr, ↓e_ret, ↓e_retN, ↓e_if, ↓e_never, ↓e_asg, ↓e_name, ↓e_agtup, ↓e_agcons, ↓e_agnil, ↓e_agsub, ↓e_aug, ↓e_dput, ↓e_var, ↓e_c, ↓e_op, ↓e_some, ↓e_none, ↓e_test, ↓e_and, ↓e_or, ↓e_not, ↓e_yes, ↓e_truth,   ↓e_tru_bl, ↓e_tru_int, ↓e_tru_non, ↓e_tru_str, ↓e_tru_tup, ↓e_tru_obj, ↓e_chain, ↓e_orV, ↓e_andV, ↓e_notV, ↓e_ifE, ↓e_neg, ↓e_nil, ↓e_cons, ↓e_tup, ↓e_lst, ↓e_dnew, ↓e_call, ↓e_cb, ↓e_isi, ↓e_sl, ↓e_onone, ↓e_osome, ↓e_rev, ↓e_lm, ↓e_append, ↓e_extend, ↓e_pop, ↓e_join, ↓e_dget2, ↓e_sortSet, ↓e_sortS, ↓e_setd, strsOf_map, ↓e_maxI, ↓e_disp, ↓e_pairN, ↓e_pairC, intsOf_map, ↓e_for, ↓e_ilist, ↓e_itup, ↓e_rng1, ↓e_rng2, ↓e_lc, ↓e_lc2, e_lc2N, ↓e_ienum, ↓e_izip, ↓e_anyB, ↓e_allB, ↓e_mulS, blsOf_map, ↓e_set0, ↓e_sadd, ↓e_sortTx, ↓e_sortD, ↓e_repr, ↓e_extT, ↓e_sc2, ↓e_sortZ, ↓e_tupVals, ↓e_wget, ↓e_wix, ↓e_listZip, zipD_nil, zipD_cons, ↓e_dgetF, ↓e_idif, ↓e_isB, ↓e_sortI, ↓e_sortSetI, ↓e_tailR, ↓e_divmod, ↓e_strI, ↓e_lenD, ↓e_fmt, ↓e_fs2,   ↓e_add_int, ↓e_add_str, ↓e_add_tup, ↓e_add_obj, ↓e_iadd_int, ↓e_iadd_str, ↓e_iadd_obj, ↓e_I, ↓e_I0, ↓e_IS_int, ↓e_IS_str, ↓e_eq_str, ↓e_ne_str, ↓e_eq_int, ↓e_ne_int, ↓e_eq_bl, ↓e_ne_bl, ↓e_isN, ↓e_notN, ↓e_ix_tup, ↓e_ix_fl, ↓e_ix_str, ↓e_ix_obj, ↓e_in_tup, ↓e_nin_tup, ↓e_len_tup, ↓e_len_fl, ↓e_len_str, ↓e_len_obj, ↓e_int_int, ↓e_tuple_tup, ↓e_tuple_obj, ↓e_list_tup, ↓e_list_obj, ↓e_dget, ↓e_din, ↓e_dnin, ↓e_lstAt, ↓e_dicAt,   e_key_int, e_key_str, e_up, e_ty_str, e_ty_tup, e_ty_int, e_ty_bl, e_ty_non, atI0, atI1, atI2, atI3, atIL, ixN0, ixN1, cut_from1, e_ite_or, e_ite_and, zln, znl, zli, zil, zni, zin, sizeLine_eq, CMul, CDiv, cpow1018, true_or, or_true, kb_strstr, kb_tupstr, kb_tuptup, kb_strtup, kb_inttup, kb_bltup, kb_nontup, kb_strbl, kb_strint, kb_intbl, kb_intint, kb_blbl, kb_blint, kb_nonbl, kb_nonint, kb_nonstr, kb_intstr, kb_blstr, kb_tupbl, kb_tupint,   List.set_cons_zero, List.set_cons_succ, List.set_nil, List.getElem?_cons_zero, List.getElem?_cons_succ, List.getElem?_nil, List.length_cons, List.length_nil, List.length_map, List.length_append, e_lcN, e_lcC, e_forN, e_forC, List.getLast?_concat, List.dropLast_concat, List.nil_append, List.cons_append, List.append_nil, List.append_assoc, List.reverse_cons, List.reverse_nil, List.isEmpty_nil, List.isEmpty_cons, isEmpty_snoc, List.any_cons, List.any_nil, List.all_cons, List.all_nil, flatD, eqF, in_non, in_tup, in_str, in_int, in_bl, in_obj, in_fl, startA, List.map_cons, List.map_nil, List.replicate_succ, List.replicate_zero,   Nat.reduceAdd, Nat.reduceSub, Nat.reduceLeDiff, Nat.zero_add, Int.reduceLE, Int.reduceLT, Int.reduceToNat, Int.reducePow, Int.reduceNeg, Int.reduceAdd, Int.reduceSub,   Option.isSome_some, Option.isSome_none, Bool.not_true, Bool.not_false, Bool.not_eq_true', Bool.not_eq_eq_eq_not, Bool.not_eq_true, Bool.false_eq_true, Bool.true_eq_false, Bool.and_true, Bool.true_and, Bool.or_false, Bool.false_or, Bool.or_true, Bool.true_or, Bool.and_false, Bool.false_and, if_true, if_false, ite_true, ite_false, reduceIte, reduceCtorEq, decide_true, decide_false, decide_eq_true_eq, decide_eq_false_iff_not, true_and, and_true, eq_self, ne_eq, not_false_eq_true, not_true_eq_false, and_self, *])

def topS (i : Nat) : Stmt := PySem.Challenge.pw_conceptscript_k81_letters_in_order.main.body.getD i (.Pass ⟨0, 0, 0, 0⟩)
abbrev s_put : Stmt := topS 1
theorem sc_put : FnScope ["formula", "table"] ["formula", "table"] (defScope s_put) := ⟨rfl, rfl, rfl, by decide +kernel, rfl, by decide +kernel, by decide +kernel⟩
abbrev s_renamed : Stmt := topS 4
theorem sc_renamed : FnScope ["formula"] ["formula"] (defScope s_renamed) := ⟨rfl, rfl, rfl, by decide +kernel, rfl, by decide +kernel, by decide +kernel⟩
abbrev s_naming : Stmt := topS 5
theorem sc_naming : FnScope ["formulas", "table", "formula", "waiting", "part"] ["formulas"] (defScope s_naming) := ⟨rfl, rfl, rfl, by decide +kernel, rfl, by decide +kernel, by decide +kernel⟩
abbrev s_name_at : Stmt := topS 6
theorem sc_name_at : FnScope ["place", "many", "at"] ["place"] (defScope s_name_at) := ⟨rfl, rfl, rfl, by decide +kernel, rfl, by decide +kernel, by decide +kernel⟩
abbrev s__law_cell : Stmt := topS 8
theorem sc__law_cell : FnScope ["script", "k"] ["script", "k"] (defScope s__law_cell) := ⟨rfl, rfl, rfl, by decide +kernel, rfl, by decide +kernel, by decide +kernel⟩
abbrev s__law_digits : Stmt := topS 9
theorem sc__law_digits : FnScope ["script", "first", "last", "digits", "k", "cell", "turn", "seed"] ["script", "first", "last"] (defScope s__law_digits) := ⟨rfl, rfl, rfl, by decide +kernel, rfl, by decide +kernel, by decide +kernel⟩
abbrev s__law_box : Stmt := topS 10
theorem sc__law_box : FnScope ["script", "first", "last"] ["script", "first", "last"] (defScope s__law_box) := ⟨rfl, rfl, rfl, by decide +kernel, rfl, by decide +kernel, by decide +kernel⟩
abbrev s__law_draw : Stmt := topS 11
theorem sc__law_draw : FnScope ["box", "many", "at"] ["box", "many"] (defScope s__law_draw) := ⟨rfl, rfl, rfl, by decide +kernel, rfl, by decide +kernel, by decide +kernel⟩
abbrev s__law_put : Stmt := topS 12
theorem sc__law_put : FnScope ["formula", "table", "part"] ["formula", "table"] (defScope s__law_put) := ⟨rfl, rfl, rfl, by decide +kernel, rfl, by decide +kernel, by decide +kernel⟩
abbrev s__law_any : Stmt := topS 13
theorem sc__law_any : FnScope ["box", "room", "many", "kind", "left", "first"] ["box", "room", "many"] (defScope s__law_any) := ⟨rfl, rfl, rfl, by decide +kernel, rfl, by decide +kernel, by decide +kernel⟩
abbrev s__law_lettered : Stmt := topS 14
theorem sc__law_lettered : FnScope ["box", "room", "many", "names", "table", "name"] ["box", "room", "many"] (defScope s__law_lettered) := ⟨rfl, rfl, rfl, by decide +kernel, rfl, by decide +kernel, by decide +kernel⟩
abbrev s__law_same : Stmt := topS 15
theorem sc__law_same : FnScope ["actual", "expected", "k"] ["actual", "expected"] (defScope s__law_same) := ⟨rfl, rfl, rfl, by decide +kernel, rfl, by decide +kernel, by decide +kernel⟩
abbrev s__law_in_order : Stmt := topS 16
theorem sc__law_in_order : FnScope ["formula", "found", "part", "name"] ["formula"] (defScope s__law_in_order) := ⟨rfl, rfl, rfl, by decide +kernel, rfl, by decide +kernel, by decide +kernel⟩
abbrev s__law_renamed : Stmt := topS 17
theorem sc__law_renamed : FnScope ["formula", "letters", "table", "old", "k", "name"] ["formula"] (defScope s__law_renamed) := ⟨rfl, rfl, rfl, by decide +kernel, rfl, by decide +kernel, by decide +kernel⟩
abbrev s_law : Stmt := topS 18
theorem sc_law : FnScope ["script", "box", "k", "formula", "wide", "letter"] ["script"] (defScope s_law) := ⟨rfl, rfl, rfl, by decide +kernel, rfl, by decide +kernel, by decide +kernel⟩
structure Txt (K : PySem.W.Frag) (mg : Str → Option Value) where
  f_put : Addr
  fd_put : FuncData
  F_put : Fun K "put" "put" s_put f_put fd_put
  m_put : mg "put" = some (.ref f_put)
  b_put : Binds K fd_put ["formula", "table"] []
  f_renamed : Addr
  fd_renamed : FuncData
  F_renamed : Fun K "renamed" "renamed" s_renamed f_renamed fd_renamed
  m_renamed : mg "renamed" = some (.ref f_renamed)
  b_renamed : Binds K fd_renamed ["formula"] []
  f_naming : Addr
  fd_naming : FuncData
  F_naming : Fun K "naming" "naming" s_naming f_naming fd_naming
  m_naming : mg "naming" = some (.ref f_naming)
  b_naming : Binds K fd_naming ["formulas"] []
  f_name_at : Addr
  fd_name_at : FuncData
  F_name_at : Fun K "name_at" "name_at" s_name_at f_name_at fd_name_at
  m_name_at : mg "name_at" = some (.ref f_name_at)
  b_name_at : Binds K fd_name_at ["place"] []
  f__law_cell : Addr
  fd__law_cell : FuncData
  F__law_cell : Fun K "_law_cell" "_law_cell" s__law_cell f__law_cell fd__law_cell
  m__law_cell : mg "_law_cell" = some (.ref f__law_cell)
  b__law_cell : Binds K fd__law_cell ["script", "k"] []
  f__law_digits : Addr
  fd__law_digits : FuncData
  F__law_digits : Fun K "_law_digits" "_law_digits" s__law_digits f__law_digits fd__law_digits
  m__law_digits : mg "_law_digits" = some (.ref f__law_digits)
  b__law_digits : Binds K fd__law_digits ["script", "first", "last"] []
  f__law_box : Addr
  fd__law_box : FuncData
  F__law_box : Fun K "_law_box" "_law_box" s__law_box f__law_box fd__law_box
  m__law_box : mg "_law_box" = some (.ref f__law_box)
  b__law_box : Binds K fd__law_box ["script", "first", "last"] []
  f__law_draw : Addr
  fd__law_draw : FuncData
  F__law_draw : Fun K "_law_draw" "_law_draw" s__law_draw f__law_draw fd__law_draw
  m__law_draw : mg "_law_draw" = some (.ref f__law_draw)
  b__law_draw : Binds K fd__law_draw ["box", "many"] []
  f__law_put : Addr
  fd__law_put : FuncData
  F__law_put : Fun K "_law_put" "_law_put" s__law_put f__law_put fd__law_put
  m__law_put : mg "_law_put" = some (.ref f__law_put)
  b__law_put : Binds K fd__law_put ["formula", "table"] []
  f__law_any : Addr
  fd__law_any : FuncData
  F__law_any : Fun K "_law_any" "_law_any" s__law_any f__law_any fd__law_any
  m__law_any : mg "_law_any" = some (.ref f__law_any)
  b__law_any : Binds K fd__law_any ["box", "room", "many"] []
  f__law_lettered : Addr
  fd__law_lettered : FuncData
  F__law_lettered : Fun K "_law_lettered" "_law_lettered" s__law_lettered f__law_lettered fd__law_lettered
  m__law_lettered : mg "_law_lettered" = some (.ref f__law_lettered)
  b__law_lettered : Binds K fd__law_lettered ["box", "room", "many"] []
  f__law_same : Addr
  fd__law_same : FuncData
  F__law_same : Fun K "_law_same" "_law_same" s__law_same f__law_same fd__law_same
  m__law_same : mg "_law_same" = some (.ref f__law_same)
  b__law_same : Binds K fd__law_same ["actual", "expected"] []
  f__law_in_order : Addr
  fd__law_in_order : FuncData
  F__law_in_order : Fun K "_law_in_order" "_law_in_order" s__law_in_order f__law_in_order fd__law_in_order
  m__law_in_order : mg "_law_in_order" = some (.ref f__law_in_order)
  b__law_in_order : Binds K fd__law_in_order ["formula"] []
  f__law_renamed : Addr
  fd__law_renamed : FuncData
  F__law_renamed : Fun K "_law_renamed" "_law_renamed" s__law_renamed f__law_renamed fd__law_renamed
  m__law_renamed : mg "_law_renamed" = some (.ref f__law_renamed)
  b__law_renamed : Binds K fd__law_renamed ["formula"] []
  f_law : Addr
  fd_law : FuncData
  F_law : Fun K "law" "law" s_law f_law fd_law
  m_law : mg "law" = some (.ref f_law)
  b_law : Binds K fd_law ["script"] []
  n_len : mg "len" = none
  n_divmod : mg "divmod" = none
  n_range : mg "range" = none
  n_int : mg "int" = none
  n_tuple : mg "tuple" = none
  n_isinstance : mg "isinstance" = none
  n_bool : mg "bool" = none
  n_str : mg "str" = none
  t_SMALL : Tok
  x_SMALL : mg "SMALL" = some (.str z_abcdefghijklmnopqrstuvwxyz t_SMALL)
section
variable {P : Program} {w : World} {K : PySem.W.Frag} {mg : Str → Option Value} {base : Heap} {k : Nat}
set_option maxHeartbeats 4000000 in
theorem ok_put (T : Txt K mg) {A_put : ASp} (G_put : FnOk P w K mg base CX0 k T.f_put T.fd_put ["formula", "table"] (conc K 2 A_put)) {A : ASp}
    (hp : ∀ ds M Q Xa, ds.length = 2 → A ds M Q Xa → a_put A_put ax0 ⟨fun _ M => Q .non M, Q, fun _ _ => False, fun _ _ => False⟩ (startA ["formula", "table"] ds) M) :
    FnOk P w K mg base CX0 (k + 1) T.f_put T.fd_put ["formula", "table"] (conc K 2 A) := by
  refine fn_abs T.F_put sc_put rfl (fun cdv Ar outer s H E hr => ?_) hp
  have hpo : PassesOwn (model P w) (Ar.deeper (PyProof.Rows.envOfC "put" (defScope s_put) s.heap.objs.size T.f_put cdv)) (PyProof.Rows.envOfC "put" (defScope s_put) s.heap.objs.size T.f_put cdv) (fun _ _ => False) := PassesOwn.never
  exact (as_cons (as_if (at_cmpR (op_eqA (hu64 hr)) sim_eqA (ae_ix (ae_var 0) ae_int (fun _ _ => rfl)) ae_str (nomark _)) (as_one (as_ret (ae_dget2 (hu1 hr) (ae_var 1) (ae_ix (ae_var 0) ae_int (fun _ _ => rfl)) (ae_var 0) ⟨rfl, rfl, rfl, rfl⟩))) as_nil)
    (as_cons (as_if (at_cmpR (op_eqA (hu64 hr)) sim_eqA (ae_ix (ae_var 0) ae_int (fun _ _ => rfl)) ae_str (nomark _)) (as_one (as_ret (ae_tup (aa_cons ae_str (aa_cons (ae_call G_put hr (by rfl) T.m_put T.F_put.kp T.b_put (aa_cons (ae_ix (ae_var 0) ae_int (fun _ _ => rfl)) (aa_cons (ae_var 1) aa_nil))) aa_nil))))) as_nil)
    (as_one (as_ret (ae_tup (aa_cons ae_str (aa_cons (ae_call G_put hr (by rfl) T.m_put T.F_put.kp T.b_put (aa_cons (ae_ix (ae_var 0) ae_int (fun _ _ => rfl)) (aa_cons (ae_var 1) aa_nil))) (aa_cons (ae_call G_put hr (by rfl) T.m_put T.F_put.kp T.b_put (aa_cons (ae_ix (ae_var 0) ae_int (fun _ _ => rfl)) (aa_cons (ae_var 1) aa_nil))) aa_nil))))))))
set_option maxHeartbeats 4000000 in
theorem ok_renamed (T : Txt K mg) {A_put : ASp} (G_put : FnOk P w K mg base CX0 k T.f_put T.fd_put ["formula", "table"] (conc K 2 A_put)) {A_naming : ASp} (G_naming : FnOk P w K mg base CX0 k T.f_naming T.fd_naming ["formulas"] (conc K 1 A_naming)) {A : ASp}
    (hp : ∀ ds M Q Xa, ds.length = 1 → A ds M Q Xa → a_renamed A_put A_naming ax0 ⟨fun _ M => Q .non M, Q, fun _ _ => False, fun _ _ => False⟩ (startA ["formula"] ds) M) :
    FnOk P w K mg base CX0 (k + 1) T.f_renamed T.fd_renamed ["formula"] (conc K 1 A) := by
  refine fn_abs T.F_renamed sc_renamed rfl (fun cdv Ar outer s H E hr => ?_) hp
  have hpo : PassesOwn (model P w) (Ar.deeper (PyProof.Rows.envOfC "renamed" (defScope s_renamed) s.heap.objs.size T.f_renamed cdv)) (PyProof.Rows.envOfC "renamed" (defScope s_renamed) s.heap.objs.size T.f_renamed cdv) (fun _ _ => False) := PassesOwn.never
  exact (as_one (as_ret (ae_call G_put hr (by rfl) T.m_put T.F_put.kp T.b_put (aa_cons (ae_var 0) (aa_cons (ae_call G_naming hr (by rfl) T.m_naming T.F_naming.kp T.b_naming (aa_cons (ae_tup (aa_cons (ae_var 0) aa_nil)) aa_nil)) aa_nil)))))
set_option maxHeartbeats 4000000 in
theorem ok_naming (T : Txt K mg) {A_name_at : ASp} (G_name_at : FnOk P w K mg base CX0 k T.f_name_at T.fd_name_at ["place"] (conc K 1 A_name_at)) {A : ASp}
    (hp : ∀ ds M Q Xa, ds.length = 1 → A ds M Q Xa → a_naming A_name_at ax0 ⟨fun _ M => Q .non M, Q, fun _ _ => False, fun _ _ => False⟩ (startA ["formulas", "table", "formula", "waiting", "part"] ds) M) :
    FnOk P w K mg base CX0 (k + 1) T.f_naming T.fd_naming ["formulas"] (conc K 1 A) := by
  refine fn_abs T.F_naming sc_naming rfl (fun cdv Ar outer s H E hr => ?_) hp
  have hpo : PassesOwn (model P w) (Ar.deeper (PyProof.Rows.envOfC "naming" (defScope s_naming) s.heap.objs.size T.f_naming cdv)) (PyProof.Rows.envOfC "naming" (defScope s_naming) s.heap.objs.size T.f_naming cdv) (fun _ _ => False) := PassesOwn.never
  exact (as_cons (as_set 1 sc_naming.nd ae_dnew)
    (as_cons (as_for hpo rfl (ai_tup (ae_var 0)) (ag_name 2 sc_naming.nd) (as_cons (as_set 3 sc_naming.nd (ae_lst (aa_cons (ae_var 2) aa_nil)))
    (as_one (as_while hpo (at_truth (ae_var 3)) (as_cons (as_set 4 sc_naming.nd (ae_pop (ae_var 3)))
    (as_one (as_if (at_cmpR (op_neA (hu64 hr)) sim_eqA (ae_ix (ae_var 4) ae_int (fun _ _ => rfl)) ae_str (nomark _)) (as_one (as_expr (ae_extT (ae_var 3) (aa_cons (ae_tailR (ae_var 4)) aa_nil)))) (as_one (as_if (at_dnotin (hu1 hr) (ae_ix (ae_var 4) ae_int (fun _ _ => rfl)) (ae_var 1)) (as_one (as_dput (hu1 hr) (ae_var 1) (ae_ix (ae_var 4) ae_int (fun _ _ => rfl)) (ae_tup (aa_cons ae_str (aa_cons (ae_call G_name_at hr (by rfl) T.m_name_at T.F_name_at.kp T.b_name_at (aa_cons (ae_callB call_lenD sim_lenD (by rfl) T.n_len (by decide +kernel) (aa_cons (ae_var 1) aa_nil)) aa_nil)) aa_nil))))) as_nil)))))))))
    (as_one (as_ret (ae_var 1)))))
set_option maxHeartbeats 4000000 in
theorem ok_name_at (T : Txt K mg)  {A : ASp}
    (hp : ∀ ds M Q Xa, ds.length = 1 → A ds M Q Xa → a_name_at  ax0 ⟨fun _ M => Q .non M, Q, fun _ _ => False, fun _ _ => False⟩ (startA ["place", "many", "at"] ds) M) :
    FnOk P w K mg base CX0 (k + 1) T.f_name_at T.fd_name_at ["place"] (conc K 1 A) := by
  refine fn_abs T.F_name_at sc_name_at rfl (fun cdv Ar outer s H E hr => ?_) hp
  have hpo : PassesOwn (model P w) (Ar.deeper (PyProof.Rows.envOfC "name_at" (defScope s_name_at) s.heap.objs.size T.f_name_at cdv)) (PyProof.Rows.envOfC "name_at" (defScope s_name_at) s.heap.objs.size T.f_name_at cdv) (fun _ _ => False) := PassesOwn.never
  exact (as_cons (as_asg (ae_callB call_divmod sim_divmod (by rfl) T.n_divmod (by decide +kernel) (aa_cons (ae_var 0) (aa_cons (ae_callB call_lenA sim_len (by rfl) T.n_len (by decide +kernel) (aa_cons (ae_gstr (by rfl) T.x_SMALL) aa_nil)) aa_nil))) (ag_tup rfl (ags_cons (ag_name 1 sc_name_at.nd) (ags_cons (ag_name 2 sc_name_at.nd) ags_nil))))
    (as_cons (as_if (at_cmpR (op_eqA (hu64 hr)) sim_eqA (ae_var 1) ae_int (nomark _)) (as_one (as_ret (ae_ix (ae_gstr (by rfl) T.x_SMALL) (ae_var 2) (fun _ _ => rfl)))) as_nil)
    (as_one (as_ret (ae_fs2 (ae_fmt (ae_ix (ae_gstr (by rfl) T.x_SMALL) (ae_var 2) (fun _ _ => rfl))) (ae_fmt (ae_op op_sub sim_sub (ae_var 1) ae_int)))))))
set_option maxHeartbeats 4000000 in
theorem ok__law_cell (T : Txt K mg)  {A : ASp}
    (hp : ∀ ds M Q Xa, ds.length = 2 → A ds M Q Xa → a__law_cell  ax0 ⟨fun _ M => Q .non M, Q, fun _ _ => False, fun _ _ => False⟩ (startA ["script", "k"] ds) M) :
    FnOk P w K mg base CX0 (k + 1) T.f__law_cell T.fd__law_cell ["script", "k"] (conc K 2 A) := by
  refine fn_abs T.F__law_cell sc__law_cell rfl (fun cdv Ar outer s H E hr => ?_) hp
  have hpo : PassesOwn (model P w) (Ar.deeper (PyProof.Rows.envOfC "_law_cell" (defScope s__law_cell) s.heap.objs.size T.f__law_cell cdv)) (PyProof.Rows.envOfC "_law_cell" (defScope s__law_cell) s.heap.objs.size T.f__law_cell cdv) (fun _ _ => False) := PassesOwn.never
  exact (as_cons (as_if (at_cmpR op_ltA sim_lt (ae_var 1) (ae_callB call_lenA sim_len (by rfl) T.n_len (by decide +kernel) (aa_cons (ae_var 0) aa_nil)) (nomark _)) (as_one (as_ret (ae_ix (ae_var 0) (ae_var 1) (fun _ _ => rfl)))) as_nil)
    (as_one (as_ret ae_int)))
set_option maxHeartbeats 4000000 in
theorem ok__law_digits (T : Txt K mg) {A__law_cell : ASp} (G__law_cell : FnOk P w K mg base CX0 k T.f__law_cell T.fd__law_cell ["script", "k"] (conc K 2 A__law_cell)) {A : ASp}
    (hp : ∀ ds M Q Xa, ds.length = 3 → A ds M Q Xa → a__law_digits A__law_cell ax0 ⟨fun _ M => Q .non M, Q, fun _ _ => False, fun _ _ => False⟩ (startA ["script", "first", "last", "digits", "k", "cell", "turn", "seed"] ds) M) :
    FnOk P w K mg base CX0 (k + 1) T.f__law_digits T.fd__law_digits ["script", "first", "last"] (conc K 3 A) := by
  refine fn_abs T.F__law_digits sc__law_digits rfl (fun cdv Ar outer s H E hr => ?_) hp
  have hpo : PassesOwn (model P w) (Ar.deeper (PyProof.Rows.envOfC "_law_digits" (defScope s__law_digits) s.heap.objs.size T.f__law_digits cdv)) (PyProof.Rows.envOfC "_law_digits" (defScope s__law_digits) s.heap.objs.size T.f__law_digits cdv) (fun _ _ => False) := PassesOwn.never
  exact (as_cons (as_set 3 sc__law_digits.nd (ae_lst aa_nil))
    (as_cons (as_for hpo rfl (ai_rng2 (by rfl) T.n_range (aa_cons (ae_var 1) (aa_cons (ae_var 2) aa_nil))) (ag_name 4 sc__law_digits.nd) (as_cons (as_set 5 sc__law_digits.nd (ae_call G__law_cell hr (by rfl) T.m__law_cell T.F__law_cell.kp T.b__law_cell (aa_cons (ae_var 0) (aa_cons (ae_var 4) aa_nil))))
    (as_cons (as_if (at_cmpR op_ltA sim_lt (ae_var 5) ae_int (nomark _)) (as_one (as_set 5 sc__law_digits.nd (ae_op op_sub sim_sub ae_int (ae_op op_mul sim_mul ae_int (ae_var 5))))) as_nil)
    (as_one (as_if (at_cmpR op_ge sim_ge (ae_var 5) (ae_op op_pow sim_pow ae_int ae_int) (nomark _)) (as_one (as_for hpo rfl (ai_rng1 (by rfl) T.n_range (aa_cons ae_int aa_nil)) (ag_name 6 sc__law_digits.nd) (as_one (as_if (at_cmpR op_gt sim_gt (ae_var 5) ae_int (nomark _)) (as_cons (as_expr (ae_append (ae_var 3) (aa_cons (ae_op op_mod sim_mod (ae_callTy call_int1 sim_int (by rfl) T.n_int (by decide +kernel) (aa_cons (ae_var 5) aa_nil)) ae_int) aa_nil)))
    (as_one (as_set 5 sc__law_digits.nd (ae_op op_fdiv sim_fdiv (ae_var 5) ae_int)))) as_nil)))) (as_cons (as_set 7 sc__law_digits.nd (ae_op op_mod sim_mod (ae_callTy call_int1 sim_int (by rfl) T.n_int (by decide +kernel) (aa_cons (ae_op op_plus sim_add (ae_op op_plus sim_add (ae_op op_mul sim_mul (ae_var 5) ae_int) (ae_op op_mul sim_mul (ae_var 4) ae_int)) ae_int) aa_nil)) ae_int))
    (as_one (as_for hpo rfl (ai_rng1 (by rfl) T.n_range (aa_cons ae_int aa_nil)) (ag_name 6 sc__law_digits.nd) (as_cons (as_set 7 sc__law_digits.nd (ae_op op_mod sim_mod (ae_callTy call_int1 sim_int (by rfl) T.n_int (by decide +kernel) (aa_cons (ae_op op_plus sim_add (ae_op op_plus sim_add (ae_op op_mul sim_mul (ae_var 7) ae_int) (ae_op op_mul sim_mul ae_int (ae_var 6))) ae_int) aa_nil)) ae_int))
    (as_one (as_expr (ae_append (ae_var 3) (aa_cons (ae_op op_mod sim_mod (ae_callTy call_int1 sim_int (by rfl) T.n_int (by decide +kernel) (aa_cons (ae_op op_fdiv sim_fdiv (ae_var 7) ae_int) aa_nil)) ae_int) aa_nil)))))))))))))
    (as_one (as_ret (ae_var 3)))))
set_option maxHeartbeats 4000000 in
theorem ok__law_box (T : Txt K mg) {A__law_digits : ASp} (G__law_digits : FnOk P w K mg base CX0 k T.f__law_digits T.fd__law_digits ["script", "first", "last"] (conc K 3 A__law_digits)) {A : ASp}
    (hp : ∀ ds M Q Xa, ds.length = 3 → A ds M Q Xa → a__law_box A__law_digits ax0 ⟨fun _ M => Q .non M, Q, fun _ _ => False, fun _ _ => False⟩ (startA ["script", "first", "last"] ds) M) :
    FnOk P w K mg base CX0 (k + 1) T.f__law_box T.fd__law_box ["script", "first", "last"] (conc K 3 A) := by
  refine fn_abs T.F__law_box sc__law_box rfl (fun cdv Ar outer s H E hr => ?_) hp
  have hpo : PassesOwn (model P w) (Ar.deeper (PyProof.Rows.envOfC "_law_box" (defScope s__law_box) s.heap.objs.size T.f__law_box cdv)) (PyProof.Rows.envOfC "_law_box" (defScope s__law_box) s.heap.objs.size T.f__law_box cdv) (fun _ _ => False) := PassesOwn.never
  exact (as_one (as_ret (ae_lst (aa_cons (ae_call G__law_digits hr (by rfl) T.m__law_digits T.F__law_digits.kp T.b__law_digits (aa_cons (ae_var 0) (aa_cons (ae_var 1) (aa_cons (ae_var 2) aa_nil)))) (aa_cons ae_int aa_nil)))))
set_option maxHeartbeats 4000000 in
theorem ok__law_draw (T : Txt K mg)  {A : ASp}
    (hp : ∀ ds M Q Xa, ds.length = 2 → A ds M Q Xa → a__law_draw  ax0 ⟨fun _ M => Q .non M, Q, fun _ _ => False, fun _ _ => False⟩ (startA ["box", "many", "at"] ds) M) :
    FnOk P w K mg base CX0 (k + 1) T.f__law_draw T.fd__law_draw ["box", "many"] (conc K 2 A) := by
  refine fn_abs T.F__law_draw sc__law_draw rfl (fun cdv Ar outer s H E hr => ?_) hp
  have hpo : PassesOwn (model P w) (Ar.deeper (PyProof.Rows.envOfC "_law_draw" (defScope s__law_draw) s.heap.objs.size T.f__law_draw cdv)) (PyProof.Rows.envOfC "_law_draw" (defScope s__law_draw) s.heap.objs.size T.f__law_draw cdv) (fun _ _ => False) := PassesOwn.never
  exact (as_cons (as_set 2 sc__law_draw.nd (ae_ix (ae_var 0) ae_int (fun _ _ => rfl)))
    (as_cons (as_asg (ae_op op_plus sim_add (ae_var 2) ae_int) (ag_sub (ae_var 0) ae_int))
    (as_cons (as_if (at_cmpR op_ltA sim_lt (ae_var 2) (ae_callB call_lenA sim_len (by rfl) T.n_len (by decide +kernel) (aa_cons (ae_ix (ae_var 0) ae_int (fun _ _ => rfl)) aa_nil)) (nomark _)) (as_one (as_ret (ae_op op_mod sim_mod (ae_callTy call_int1 sim_int (by rfl) T.n_int (by decide +kernel) (aa_cons (ae_ix (ae_ix (ae_var 0) ae_int (fun _ _ => rfl)) (ae_var 2) (fun _ _ => rfl)) aa_nil)) (ae_var 1)))) as_nil)
    (as_one (as_ret ae_int)))))
set_option maxHeartbeats 4000000 in
theorem ok__law_put (T : Txt K mg) {A__law_put : ASp} (G__law_put : FnOk P w K mg base CX0 k T.f__law_put T.fd__law_put ["formula", "table"] (conc K 2 A__law_put)) {A : ASp}
    (hp : ∀ ds M Q Xa, ds.length = 2 → A ds M Q Xa → a__law_put A__law_put ax0 ⟨fun _ M => Q .non M, Q, fun _ _ => False, fun _ _ => False⟩ (startA ["formula", "table", "part"] ds) M) :
    FnOk P w K mg base CX0 (k + 1) T.f__law_put T.fd__law_put ["formula", "table"] (conc K 2 A) := by
  refine fn_abs T.F__law_put sc__law_put rfl (fun cdv Ar outer s H E hr => ?_) hp
  have hpo : PassesOwn (model P w) (Ar.deeper (PyProof.Rows.envOfC "_law_put" (defScope s__law_put) s.heap.objs.size T.f__law_put cdv)) (PyProof.Rows.envOfC "_law_put" (defScope s__law_put) s.heap.objs.size T.f__law_put cdv) (fun _ _ => False) := PassesOwn.never
  exact (as_cons (as_if (at_cmpR (op_eqA (hu64 hr)) sim_eqA (ae_ix (ae_var 0) ae_int (fun _ _ => rfl)) ae_str (nomark _)) (as_one (as_ret (ae_dget2 (hu1 hr) (ae_var 1) (ae_ix (ae_var 0) ae_int (fun _ _ => rfl)) (ae_var 0) ⟨rfl, rfl, rfl, rfl⟩))) as_nil)
    (as_one (as_ret (ae_op op_plus sim_add (ae_tup (aa_cons (ae_ix (ae_var 0) ae_int (fun _ _ => rfl)) aa_nil)) (ae_callTy call_tuple_of sim_tuple (by rfl) T.n_tuple (by decide +kernel) (aa_cons (ae_lc 2 rfl sc__law_put.nd (ai_tup (ae_sl (ae_var 0) (ao_some ae_int) ao_none)) (blkOk_by (N := ["formula", "table", "part"]) (sc := defScope s__law_put) (by decide +kernel)) (fun _ _ _ _ _ => pg_name (i := 2) sc__law_put.nd rfl (Or.inl rfl)) (fun _ _ _ _ _ => ats_nil) (fun _ _ _ _ _ => (ae_call G__law_put hr (by rfl) T.m__law_put T.F__law_put.kp T.b__law_put (aa_cons (ae_var 2) (aa_cons (ae_var 1) aa_nil))))) aa_nil))))))
set_option maxHeartbeats 4000000 in
theorem ok__law_any (T : Txt K mg) {A__law_draw : ASp} (G__law_draw : FnOk P w K mg base CX0 k T.f__law_draw T.fd__law_draw ["box", "many"] (conc K 2 A__law_draw)) {A__law_any : ASp} (G__law_any : FnOk P w K mg base CX0 k T.f__law_any T.fd__law_any ["box", "room", "many"] (conc K 3 A__law_any)) {A : ASp}
    (hp : ∀ ds M Q Xa, ds.length = 3 → A ds M Q Xa → a__law_any A__law_draw A__law_any ax0 ⟨fun _ M => Q .non M, Q, fun _ _ => False, fun _ _ => False⟩ (startA ["box", "room", "many", "kind", "left", "first"] ds) M) :
    FnOk P w K mg base CX0 (k + 1) T.f__law_any T.fd__law_any ["box", "room", "many"] (conc K 3 A) := by
  refine fn_abs T.F__law_any sc__law_any rfl (fun cdv Ar outer s H E hr => ?_) hp
  have hpo : PassesOwn (model P w) (Ar.deeper (PyProof.Rows.envOfC "_law_any" (defScope s__law_any) s.heap.objs.size T.f__law_any cdv)) (PyProof.Rows.envOfC "_law_any" (defScope s__law_any) s.heap.objs.size T.f__law_any cdv) (fun _ _ => False) := PassesOwn.never
  exact (as_cons (as_set 3 sc__law_any.nd (ae_call G__law_draw hr (by rfl) T.m__law_draw T.F__law_draw.kp T.b__law_draw (aa_cons (ae_var 0) (aa_cons ae_int aa_nil))))
    (as_cons (as_if (at_w (aw_or (at_cmpR op_ltA sim_lt (ae_var 1) ae_int (nomark _)) (aw_or1 (at_cmpR op_ltA sim_lt (ae_var 3) ae_int (nomark _))))) (as_one (as_ret (ae_tup (aa_cons ae_str (aa_cons (ae_ix ae_str (ae_call G__law_draw hr (by rfl) T.m__law_draw T.F__law_draw.kp T.b__law_draw (aa_cons (ae_var 0) (aa_cons (ae_var 2) aa_nil))) (fun _ _ => rfl)) aa_nil))))) as_nil)
    (as_cons (as_if (at_w (aw_or (at_cmpR op_ltA sim_lt (ae_var 1) ae_int (nomark _)) (aw_or1 (at_cmpR op_ltA sim_lt (ae_var 3) ae_int (nomark _))))) (as_one (as_ret (ae_tup (aa_cons ae_str (aa_cons (ae_call G__law_any hr (by rfl) T.m__law_any T.F__law_any.kp T.b__law_any (aa_cons (ae_var 0) (aa_cons (ae_op op_sub sim_sub (ae_var 1) ae_int) (aa_cons (ae_var 2) aa_nil)))) aa_nil))))) as_nil)
    (as_cons (as_set 4 sc__law_any.nd (ae_op op_plus sim_add ae_int (ae_call G__law_draw hr (by rfl) T.m__law_draw T.F__law_draw.kp T.b__law_draw (aa_cons (ae_var 0) (aa_cons (ae_op op_sub sim_sub (ae_var 1) ae_int) aa_nil)))))
    (as_cons (as_set 5 sc__law_any.nd (ae_call G__law_any hr (by rfl) T.m__law_any T.F__law_any.kp T.b__law_any (aa_cons (ae_var 0) (aa_cons (ae_var 4) (aa_cons (ae_var 2) aa_nil)))))
    (as_one (as_ret (ae_tup (aa_cons ae_str (aa_cons (ae_var 5) (aa_cons (ae_call G__law_any hr (by rfl) T.m__law_any T.F__law_any.kp T.b__law_any (aa_cons (ae_var 0) (aa_cons (ae_op op_sub sim_sub (ae_op op_sub sim_sub (ae_var 1) ae_int) (ae_var 4)) (aa_cons (ae_var 2) aa_nil)))) aa_nil)))))))))))
set_option maxHeartbeats 4000000 in
theorem ok__law_lettered (T : Txt K mg) {A__law_draw : ASp} (G__law_draw : FnOk P w K mg base CX0 k T.f__law_draw T.fd__law_draw ["box", "many"] (conc K 2 A__law_draw)) {A__law_put : ASp} (G__law_put : FnOk P w K mg base CX0 k T.f__law_put T.fd__law_put ["formula", "table"] (conc K 2 A__law_put)) {A__law_any : ASp} (G__law_any : FnOk P w K mg base CX0 k T.f__law_any T.fd__law_any ["box", "room", "many"] (conc K 3 A__law_any)) {A : ASp}
    (hp : ∀ ds M Q Xa, ds.length = 3 → A ds M Q Xa → a__law_lettered A__law_draw A__law_put A__law_any ax0 ⟨fun _ M => Q .non M, Q, fun _ _ => False, fun _ _ => False⟩ (startA ["box", "room", "many", "names", "table", "name"] ds) M) :
    FnOk P w K mg base CX0 (k + 1) T.f__law_lettered T.fd__law_lettered ["box", "room", "many"] (conc K 3 A) := by
  refine fn_abs T.F__law_lettered sc__law_lettered rfl (fun cdv Ar outer s H E hr => ?_) hp
  have hpo : PassesOwn (model P w) (Ar.deeper (PyProof.Rows.envOfC "_law_lettered" (defScope s__law_lettered) s.heap.objs.size T.f__law_lettered cdv)) (PyProof.Rows.envOfC "_law_lettered" (defScope s__law_lettered) s.heap.objs.size T.f__law_lettered cdv) (fun _ _ => False) := PassesOwn.never
  exact (as_cons (as_set 3 sc__law_lettered.nd (ae_lst (aa_cons ae_str (aa_cons ae_str (aa_cons ae_str (aa_cons ae_str (aa_cons ae_str (aa_cons ae_str aa_nil))))))))
    (as_cons (as_set 4 sc__law_lettered.nd ae_dnew)
    (as_cons (as_for hpo rfl (ai_list (ae_lst (aa_cons ae_str (aa_cons ae_str (aa_cons ae_str (aa_cons ae_str (aa_cons ae_str (aa_cons ae_str (aa_cons ae_str (aa_cons ae_str aa_nil)))))))))) (ag_name 5 sc__law_lettered.nd) (as_one (as_dput (hu1 hr) (ae_var 4) (ae_var 5) (ae_tup (aa_cons ae_str (aa_cons (ae_ix (ae_var 3) (ae_call G__law_draw hr (by rfl) T.m__law_draw T.F__law_draw.kp T.b__law_draw (aa_cons (ae_var 0) (aa_cons ae_int aa_nil))) (fun _ _ => rfl)) aa_nil))))))
    (as_one (as_ret (ae_call G__law_put hr (by rfl) T.m__law_put T.F__law_put.kp T.b__law_put (aa_cons (ae_call G__law_any hr (by rfl) T.m__law_any T.F__law_any.kp T.b__law_any (aa_cons (ae_var 0) (aa_cons (ae_var 1) (aa_cons (ae_var 2) aa_nil)))) (aa_cons (ae_var 4) aa_nil))))))))
set_option maxHeartbeats 4000000 in
theorem ok__law_same (T : Txt K mg) {A__law_same : ASp} (G__law_same : FnOk P w K mg base CX0 k T.f__law_same T.fd__law_same ["actual", "expected"] (conc K 2 A__law_same)) {A : ASp}
    (hp : ∀ ds M Q Xa, ds.length = 2 → A ds M Q Xa → a__law_same A__law_same ax0 ⟨fun _ M => Q .non M, Q, fun _ _ => False, fun _ _ => False⟩ (startA ["actual", "expected", "k"] ds) M) :
    FnOk P w K mg base CX0 (k + 1) T.f__law_same T.fd__law_same ["actual", "expected"] (conc K 2 A) := by
  refine fn_abs T.F__law_same sc__law_same rfl (fun cdv Ar outer s H E hr => ?_) hp
  have hpo : PassesOwn (model P w) (Ar.deeper (PyProof.Rows.envOfC "_law_same" (defScope s__law_same) s.heap.objs.size T.f__law_same cdv)) (PyProof.Rows.envOfC "_law_same" (defScope s__law_same) s.heap.objs.size T.f__law_same cdv) (fun _ _ => False) := PassesOwn.never
  exact (as_cons (as_if (at_truth (ae_isi (by rfl) T.n_isinstance (by decide +kernel) (ae_var 1) (by rfl) T.n_tuple (by decide +kernel) (by decide +kernel))) (as_cons (as_if (at_w (aw_or (at_not (at_truth (ae_isi (by rfl) T.n_isinstance (by decide +kernel) (ae_var 0) (by rfl) T.n_tuple (by decide +kernel) (by decide +kernel)))) (aw_or1 (at_cmpR (op_neA (hu64 hr)) sim_eqA (ae_callB call_lenA sim_len (by rfl) T.n_len (by decide +kernel) (aa_cons (ae_var 0) aa_nil)) (ae_callB call_lenA sim_len (by rfl) T.n_len (by decide +kernel) (aa_cons (ae_var 1) aa_nil)) (nomark _))))) (as_one (as_ret ae_bl)) as_nil)
    (as_cons (as_for hpo rfl (ai_rng1 (by rfl) T.n_range (aa_cons (ae_callB call_lenA sim_len (by rfl) T.n_len (by decide +kernel) (aa_cons (ae_var 1) aa_nil)) aa_nil)) (ag_name 2 sc__law_same.nd) (as_one (as_if (at_not (at_truth (ae_call G__law_same hr (by rfl) T.m__law_same T.F__law_same.kp T.b__law_same (aa_cons (ae_ix (ae_var 0) (ae_var 2) (fun _ _ => rfl)) (aa_cons (ae_ix (ae_var 1) (ae_var 2) (fun _ _ => rfl)) aa_nil))))) (as_one (as_ret ae_bl)) as_nil)))
    (as_one (as_ret ae_bl)))) as_nil)
    (as_cons (as_if (at_cmpR op_isN sim_isN (ae_var 1) ae_non (nomark _)) (as_one (as_ret (ae_cmpR op_isN sim_isN (ae_var 0) ae_non (nomark _)))) as_nil)
    (as_cons (as_if (at_truth (ae_isi (by rfl) T.n_isinstance (by decide +kernel) (ae_var 1) (by rfl) T.n_bool (by decide +kernel) (by decide +kernel))) (as_one (as_ret (ae_and (ae_isi (by rfl) T.n_isinstance (by decide +kernel) (ae_var 0) (by rfl) T.n_bool (by decide +kernel) (by decide +kernel)) (ae_one (ae_cmpR (op_eqA (hu64 hr)) sim_eqA (ae_var 0) (ae_var 1) (nomark _)))))) as_nil)
    (as_cons (as_if (at_truth (ae_isi (by rfl) T.n_isinstance (by decide +kernel) (ae_var 1) (by rfl) T.n_int (by decide +kernel) (by decide +kernel))) (as_one (as_ret (ae_and (ae_isi (by rfl) T.n_isinstance (by decide +kernel) (ae_var 0) (by rfl) T.n_int (by decide +kernel) (by decide +kernel)) (ae_and (ae_not (ae_isi (by rfl) T.n_isinstance (by decide +kernel) (ae_var 0) (by rfl) T.n_bool (by decide +kernel) (by decide +kernel))) (ae_one (ae_cmpR (op_eqA (hu64 hr)) sim_eqA (ae_var 0) (ae_var 1) (nomark _))))))) as_nil)
    (as_one (as_ret (ae_and (ae_isi (by rfl) T.n_isinstance (by decide +kernel) (ae_var 0) (by rfl) T.n_str (by decide +kernel) (by decide +kernel)) (ae_one (ae_cmpR (op_eqA (hu64 hr)) sim_eqA (ae_var 0) (ae_var 1) (nomark _))))))))))
set_option maxHeartbeats 4000000 in
theorem ok__law_in_order (T : Txt K mg) {A__law_in_order : ASp} (G__law_in_order : FnOk P w K mg base CX0 k T.f__law_in_order T.fd__law_in_order ["formula"] (conc K 1 A__law_in_order)) {A : ASp}
    (hp : ∀ ds M Q Xa, ds.length = 1 → A ds M Q Xa → a__law_in_order A__law_in_order ax0 ⟨fun _ M => Q .non M, Q, fun _ _ => False, fun _ _ => False⟩ (startA ["formula", "found", "part", "name"] ds) M) :
    FnOk P w K mg base CX0 (k + 1) T.f__law_in_order T.fd__law_in_order ["formula"] (conc K 1 A) := by
  refine fn_abs T.F__law_in_order sc__law_in_order rfl (fun cdv Ar outer s H E hr => ?_) hp
  have hpo : PassesOwn (model P w) (Ar.deeper (PyProof.Rows.envOfC "_law_in_order" (defScope s__law_in_order) s.heap.objs.size T.f__law_in_order cdv)) (PyProof.Rows.envOfC "_law_in_order" (defScope s__law_in_order) s.heap.objs.size T.f__law_in_order cdv) (fun _ _ => False) := PassesOwn.never
  exact (as_cons (as_if (at_cmpR (op_eqA (hu64 hr)) sim_eqA (ae_ix (ae_var 0) ae_int (fun _ _ => rfl)) ae_str (nomark _)) (as_one (as_ret (ae_lst (aa_cons (ae_ix (ae_var 0) ae_int (fun _ _ => rfl)) aa_nil)))) as_nil)
    (as_cons (as_set 1 sc__law_in_order.nd (ae_lst aa_nil))
    (as_cons (as_for hpo rfl (ai_tup (ae_sl (ae_var 0) (ao_some ae_int) ao_none)) (ag_name 2 sc__law_in_order.nd) (as_one (as_set 1 sc__law_in_order.nd (ae_op op_plus sim_add (ae_var 1) (ae_lc 3 rfl sc__law_in_order.nd (ai_list (ae_call G__law_in_order hr (by rfl) T.m__law_in_order T.F__law_in_order.kp T.b__law_in_order (aa_cons (ae_var 2) aa_nil))) (blkOk_by (N := ["formula", "found", "part", "name"]) (sc := defScope s__law_in_order) (by decide +kernel)) (fun _ _ _ _ _ => pg_name (i := 3) sc__law_in_order.nd rfl (Or.inl rfl)) (fun _ _ _ _ _ => (ats_one (at_cmpR (op_notInA (hu65 hr)) sim_in (ae_var 3) (ae_var 1) (by rfl)))) (fun _ _ _ _ _ => (ae_var 3)))))))
    (as_one (as_ret (ae_var 1))))))
set_option maxHeartbeats 4000000 in
theorem ok__law_renamed (T : Txt K mg) {A__law_in_order : ASp} (G__law_in_order : FnOk P w K mg base CX0 k T.f__law_in_order T.fd__law_in_order ["formula"] (conc K 1 A__law_in_order)) {A__law_put : ASp} (G__law_put : FnOk P w K mg base CX0 k T.f__law_put T.fd__law_put ["formula", "table"] (conc K 2 A__law_put)) {A : ASp}
    (hp : ∀ ds M Q Xa, ds.length = 1 → A ds M Q Xa → a__law_renamed A__law_in_order A__law_put ax0 ⟨fun _ M => Q .non M, Q, fun _ _ => False, fun _ _ => False⟩ (startA ["formula", "letters", "table", "old", "k", "name"] ds) M) :
    FnOk P w K mg base CX0 (k + 1) T.f__law_renamed T.fd__law_renamed ["formula"] (conc K 1 A) := by
  refine fn_abs T.F__law_renamed sc__law_renamed rfl (fun cdv Ar outer s H E hr => ?_) hp
  have hpo : PassesOwn (model P w) (Ar.deeper (PyProof.Rows.envOfC "_law_renamed" (defScope s__law_renamed) s.heap.objs.size T.f__law_renamed cdv)) (PyProof.Rows.envOfC "_law_renamed" (defScope s__law_renamed) s.heap.objs.size T.f__law_renamed cdv) (fun _ _ => False) := PassesOwn.never
  exact (as_cons (as_set 1 sc__law_renamed.nd ae_str)
    (as_cons (as_set 2 sc__law_renamed.nd ae_dnew)
    (as_cons (as_set 3 sc__law_renamed.nd (ae_call G__law_in_order hr (by rfl) T.m__law_in_order T.F__law_in_order.kp T.b__law_in_order (aa_cons (ae_var 0) aa_nil)))
    (as_cons (as_for hpo rfl (ai_rng1 (by rfl) T.n_range (aa_cons (ae_callB call_lenA sim_len (by rfl) T.n_len (by decide +kernel) (aa_cons (ae_var 3) aa_nil)) aa_nil)) (ag_name 4 sc__law_renamed.nd) (as_cons (as_set 5 sc__law_renamed.nd (ae_ix (ae_var 1) (ae_op op_mod sim_mod (ae_callTy call_int1 sim_int (by rfl) T.n_int (by decide +kernel) (aa_cons (ae_var 4) aa_nil)) ae_int) (fun _ _ => rfl)))
    (as_cons (as_if (at_cmpR op_gt sim_gt (ae_var 4) ae_int (nomark _)) (as_one (as_set 5 sc__law_renamed.nd (ae_op op_plus sim_add (ae_var 5) (ae_callTy call_str_int sim_strI (by rfl) T.n_str (by decide +kernel) (aa_cons (ae_op op_sub sim_sub (ae_op op_fdiv sim_fdiv (ae_var 4) ae_int) ae_int) aa_nil))))) as_nil)
    (as_one (as_dput (hu1 hr) (ae_var 2) (ae_ix (ae_var 3) (ae_var 4) (fun _ _ => rfl)) (ae_tup (aa_cons ae_str (aa_cons (ae_var 5) aa_nil))))))))
    (as_one (as_ret (ae_call G__law_put hr (by rfl) T.m__law_put T.F__law_put.kp T.b__law_put (aa_cons (ae_var 0) (aa_cons (ae_var 2) aa_nil)))))))))
set_option maxHeartbeats 4000000 in
theorem ok_law (T : Txt K mg) {A__law_box : ASp} (G__law_box : FnOk P w K mg base CX0 k T.f__law_box T.fd__law_box ["script", "first", "last"] (conc K 3 A__law_box)) {A__law_lettered : ASp} (G__law_lettered : FnOk P w K mg base CX0 k T.f__law_lettered T.fd__law_lettered ["box", "room", "many"] (conc K 3 A__law_lettered)) {A__law_same : ASp} (G__law_same : FnOk P w K mg base CX0 k T.f__law_same T.fd__law_same ["actual", "expected"] (conc K 2 A__law_same)) {A_renamed : ASp} (G_renamed : FnOk P w K mg base CX0 k T.f_renamed T.fd_renamed ["formula"] (conc K 1 A_renamed)) {A__law_renamed : ASp} (G__law_renamed : FnOk P w K mg base CX0 k T.f__law_renamed T.fd__law_renamed ["formula"] (conc K 1 A__law_renamed)) {A__law_draw : ASp} (G__law_draw : FnOk P w K mg base CX0 k T.f__law_draw T.fd__law_draw ["box", "many"] (conc K 2 A__law_draw)) {A : ASp}
    (hp : ∀ ds M Q Xa, ds.length = 1 → A ds M Q Xa → a_law A__law_box A__law_lettered A__law_same A_renamed A__law_renamed A__law_draw ax0 ⟨fun _ M => Q .non M, Q, fun _ _ => False, fun _ _ => False⟩ (startA ["script", "box", "k", "formula", "wide", "letter"] ds) M) :
    FnOk P w K mg base CX0 (k + 1) T.f_law T.fd_law ["script"] (conc K 1 A) := by
  refine fn_abs T.F_law sc_law rfl (fun cdv Ar outer s H E hr => ?_) hp
  have hpo : PassesOwn (model P w) (Ar.deeper (PyProof.Rows.envOfC "law" (defScope s_law) s.heap.objs.size T.f_law cdv)) (PyProof.Rows.envOfC "law" (defScope s_law) s.heap.objs.size T.f_law cdv) (fun _ _ => False) := PassesOwn.never
  exact (as_cons (as_set 1 sc_law.nd (ae_call G__law_box hr (by rfl) T.m__law_box T.F__law_box.kp T.b__law_box (aa_cons (ae_var 0) (aa_cons ae_int (aa_cons ae_int aa_nil)))))
    (as_cons (as_for hpo rfl (ai_rng1 (by rfl) T.n_range (aa_cons ae_int aa_nil)) (ag_name 2 sc_law.nd) (as_cons (as_set 3 sc_law.nd (ae_call G__law_lettered hr (by rfl) T.m__law_lettered T.F__law_lettered.kp T.b__law_lettered (aa_cons (ae_var 1) (aa_cons ae_int (aa_cons ae_int aa_nil)))))
    (as_one (as_if (at_not (at_truth (ae_call G__law_same hr (by rfl) T.m__law_same T.F__law_same.kp T.b__law_same (aa_cons (ae_call G_renamed hr (by rfl) T.m_renamed T.F_renamed.kp T.b_renamed (aa_cons (ae_var 3) aa_nil)) (aa_cons (ae_call G__law_renamed hr (by rfl) T.m__law_renamed T.F__law_renamed.kp T.b__law_renamed (aa_cons (ae_var 3) aa_nil)) aa_nil))))) (as_one (as_ret ae_bl)) as_nil))))
    (as_cons (as_set 4 sc_law.nd (ae_tup (aa_cons ae_str (aa_cons ae_str aa_nil))))
    (as_cons (as_for hpo rfl (ai_rng1 (by rfl) T.n_range (aa_cons (ae_call G__law_draw hr (by rfl) T.m__law_draw T.F__law_draw.kp T.b__law_draw (aa_cons (ae_var 1) (aa_cons ae_int aa_nil))) aa_nil)) (ag_name 2 sc_law.nd) (as_cons (as_set 5 sc_law.nd (ae_ix ae_str (ae_op op_mod sim_mod (ae_callTy call_int1 sim_int (by rfl) T.n_int (by decide +kernel) (aa_cons (ae_var 2) aa_nil)) ae_int) (fun _ _ => rfl)))
    (as_one (as_set 4 sc_law.nd (ae_tup (aa_cons ae_str (aa_cons (ae_tup (aa_cons ae_str (aa_cons (ae_tup (aa_cons ae_str (aa_cons (ae_op op_plus sim_add (ae_var 5) (ae_callTy call_str_int sim_strI (by rfl) T.n_str (by decide +kernel) (aa_cons (ae_op op_fdiv sim_fdiv (ae_var 2) ae_int) aa_nil))) aa_nil))) aa_nil))) (aa_cons (ae_var 4) aa_nil))))))))
    (as_one (as_ret (ae_call G__law_same hr (by rfl) T.m__law_same T.F__law_same.kp T.b__law_same (aa_cons (ae_call G_renamed hr (by rfl) T.m_renamed T.F_renamed.kp T.b_renamed (aa_cons (ae_var 4) aa_nil)) (aa_cons (ae_call G__law_renamed hr (by rfl) T.m__law_renamed T.F__law_renamed.kp T.b__law_renamed (aa_cons (ae_var 4) aa_nil)) aa_nil)))))))))
end
theorem txt_mk {K : PySem.W.Frag} {h : Heap} {mg : Str → Option Value} (X : K.In h) (G : h.Ns mainGlobals mg)
    {f0 : Addr} {od0 an0 : Option Addr} {sl0 : Array (Option Value)} {oc0 kV0 dc0 pm0 cd0 ct0 : Value}
    (a0 : PySem.W.nsIn K mainGlobals "put" = some (some (.ref f0))) (l0 : K.lookup f0 = some ⟨oc0, od0, .func (PySem.W.fnOf "put" "put" (defArgs s_put) (defBody s_put) (defScope s_put) .none kV0 dc0 pm0 an0 cd0 ct0), sl0⟩) (c0 : PySem.W.codeIn K cd0 "put" = true) (k0 : PySem.W.keepIn K (.ref f0) = true)
    {f1 : Addr} {od1 an1 : Option Addr} {sl1 : Array (Option Value)} {oc1 kV1 dc1 pm1 cd1 ct1 : Value}
    (a1 : PySem.W.nsIn K mainGlobals "renamed" = some (some (.ref f1))) (l1 : K.lookup f1 = some ⟨oc1, od1, .func (PySem.W.fnOf "renamed" "renamed" (defArgs s_renamed) (defBody s_renamed) (defScope s_renamed) .none kV1 dc1 pm1 an1 cd1 ct1), sl1⟩) (c1 : PySem.W.codeIn K cd1 "renamed" = true) (k1 : PySem.W.keepIn K (.ref f1) = true)
    {f2 : Addr} {od2 an2 : Option Addr} {sl2 : Array (Option Value)} {oc2 kV2 dc2 pm2 cd2 ct2 : Value}
    (a2 : PySem.W.nsIn K mainGlobals "naming" = some (some (.ref f2))) (l2 : K.lookup f2 = some ⟨oc2, od2, .func (PySem.W.fnOf "naming" "naming" (defArgs s_naming) (defBody s_naming) (defScope s_naming) .none kV2 dc2 pm2 an2 cd2 ct2), sl2⟩) (c2 : PySem.W.codeIn K cd2 "naming" = true) (k2 : PySem.W.keepIn K (.ref f2) = true)
    {f3 : Addr} {od3 an3 : Option Addr} {sl3 : Array (Option Value)} {oc3 kV3 dc3 pm3 cd3 ct3 : Value}
    (a3 : PySem.W.nsIn K mainGlobals "name_at" = some (some (.ref f3))) (l3 : K.lookup f3 = some ⟨oc3, od3, .func (PySem.W.fnOf "name_at" "name_at" (defArgs s_name_at) (defBody s_name_at) (defScope s_name_at) .none kV3 dc3 pm3 an3 cd3 ct3), sl3⟩) (c3 : PySem.W.codeIn K cd3 "name_at" = true) (k3 : PySem.W.keepIn K (.ref f3) = true)
    {f4 : Addr} {od4 an4 : Option Addr} {sl4 : Array (Option Value)} {oc4 kV4 dc4 pm4 cd4 ct4 : Value}
    (a4 : PySem.W.nsIn K mainGlobals "_law_cell" = some (some (.ref f4))) (l4 : K.lookup f4 = some ⟨oc4, od4, .func (PySem.W.fnOf "_law_cell" "_law_cell" (defArgs s__law_cell) (defBody s__law_cell) (defScope s__law_cell) .none kV4 dc4 pm4 an4 cd4 ct4), sl4⟩) (c4 : PySem.W.codeIn K cd4 "_law_cell" = true) (k4 : PySem.W.keepIn K (.ref f4) = true)
    {f5 : Addr} {od5 an5 : Option Addr} {sl5 : Array (Option Value)} {oc5 kV5 dc5 pm5 cd5 ct5 : Value}
    (a5 : PySem.W.nsIn K mainGlobals "_law_digits" = some (some (.ref f5))) (l5 : K.lookup f5 = some ⟨oc5, od5, .func (PySem.W.fnOf "_law_digits" "_law_digits" (defArgs s__law_digits) (defBody s__law_digits) (defScope s__law_digits) .none kV5 dc5 pm5 an5 cd5 ct5), sl5⟩) (c5 : PySem.W.codeIn K cd5 "_law_digits" = true) (k5 : PySem.W.keepIn K (.ref f5) = true)
    {f6 : Addr} {od6 an6 : Option Addr} {sl6 : Array (Option Value)} {oc6 kV6 dc6 pm6 cd6 ct6 : Value}
    (a6 : PySem.W.nsIn K mainGlobals "_law_box" = some (some (.ref f6))) (l6 : K.lookup f6 = some ⟨oc6, od6, .func (PySem.W.fnOf "_law_box" "_law_box" (defArgs s__law_box) (defBody s__law_box) (defScope s__law_box) .none kV6 dc6 pm6 an6 cd6 ct6), sl6⟩) (c6 : PySem.W.codeIn K cd6 "_law_box" = true) (k6 : PySem.W.keepIn K (.ref f6) = true)
    {f7 : Addr} {od7 an7 : Option Addr} {sl7 : Array (Option Value)} {oc7 kV7 dc7 pm7 cd7 ct7 : Value}
    (a7 : PySem.W.nsIn K mainGlobals "_law_draw" = some (some (.ref f7))) (l7 : K.lookup f7 = some ⟨oc7, od7, .func (PySem.W.fnOf "_law_draw" "_law_draw" (defArgs s__law_draw) (defBody s__law_draw) (defScope s__law_draw) .none kV7 dc7 pm7 an7 cd7 ct7), sl7⟩) (c7 : PySem.W.codeIn K cd7 "_law_draw" = true) (k7 : PySem.W.keepIn K (.ref f7) = true)
    {f8 : Addr} {od8 an8 : Option Addr} {sl8 : Array (Option Value)} {oc8 kV8 dc8 pm8 cd8 ct8 : Value}
    (a8 : PySem.W.nsIn K mainGlobals "_law_put" = some (some (.ref f8))) (l8 : K.lookup f8 = some ⟨oc8, od8, .func (PySem.W.fnOf "_law_put" "_law_put" (defArgs s__law_put) (defBody s__law_put) (defScope s__law_put) .none kV8 dc8 pm8 an8 cd8 ct8), sl8⟩) (c8 : PySem.W.codeIn K cd8 "_law_put" = true) (k8 : PySem.W.keepIn K (.ref f8) = true)
    {f9 : Addr} {od9 an9 : Option Addr} {sl9 : Array (Option Value)} {oc9 kV9 dc9 pm9 cd9 ct9 : Value}
    (a9 : PySem.W.nsIn K mainGlobals "_law_any" = some (some (.ref f9))) (l9 : K.lookup f9 = some ⟨oc9, od9, .func (PySem.W.fnOf "_law_any" "_law_any" (defArgs s__law_any) (defBody s__law_any) (defScope s__law_any) .none kV9 dc9 pm9 an9 cd9 ct9), sl9⟩) (c9 : PySem.W.codeIn K cd9 "_law_any" = true) (k9 : PySem.W.keepIn K (.ref f9) = true)
    {f10 : Addr} {od10 an10 : Option Addr} {sl10 : Array (Option Value)} {oc10 kV10 dc10 pm10 cd10 ct10 : Value}
    (a10 : PySem.W.nsIn K mainGlobals "_law_lettered" = some (some (.ref f10))) (l10 : K.lookup f10 = some ⟨oc10, od10, .func (PySem.W.fnOf "_law_lettered" "_law_lettered" (defArgs s__law_lettered) (defBody s__law_lettered) (defScope s__law_lettered) .none kV10 dc10 pm10 an10 cd10 ct10), sl10⟩) (c10 : PySem.W.codeIn K cd10 "_law_lettered" = true) (k10 : PySem.W.keepIn K (.ref f10) = true)
    {f11 : Addr} {od11 an11 : Option Addr} {sl11 : Array (Option Value)} {oc11 kV11 dc11 pm11 cd11 ct11 : Value}
    (a11 : PySem.W.nsIn K mainGlobals "_law_same" = some (some (.ref f11))) (l11 : K.lookup f11 = some ⟨oc11, od11, .func (PySem.W.fnOf "_law_same" "_law_same" (defArgs s__law_same) (defBody s__law_same) (defScope s__law_same) .none kV11 dc11 pm11 an11 cd11 ct11), sl11⟩) (c11 : PySem.W.codeIn K cd11 "_law_same" = true) (k11 : PySem.W.keepIn K (.ref f11) = true)
    {f12 : Addr} {od12 an12 : Option Addr} {sl12 : Array (Option Value)} {oc12 kV12 dc12 pm12 cd12 ct12 : Value}
    (a12 : PySem.W.nsIn K mainGlobals "_law_in_order" = some (some (.ref f12))) (l12 : K.lookup f12 = some ⟨oc12, od12, .func (PySem.W.fnOf "_law_in_order" "_law_in_order" (defArgs s__law_in_order) (defBody s__law_in_order) (defScope s__law_in_order) .none kV12 dc12 pm12 an12 cd12 ct12), sl12⟩) (c12 : PySem.W.codeIn K cd12 "_law_in_order" = true) (k12 : PySem.W.keepIn K (.ref f12) = true)
    {f13 : Addr} {od13 an13 : Option Addr} {sl13 : Array (Option Value)} {oc13 kV13 dc13 pm13 cd13 ct13 : Value}
    (a13 : PySem.W.nsIn K mainGlobals "_law_renamed" = some (some (.ref f13))) (l13 : K.lookup f13 = some ⟨oc13, od13, .func (PySem.W.fnOf "_law_renamed" "_law_renamed" (defArgs s__law_renamed) (defBody s__law_renamed) (defScope s__law_renamed) .none kV13 dc13 pm13 an13 cd13 ct13), sl13⟩) (c13 : PySem.W.codeIn K cd13 "_law_renamed" = true) (k13 : PySem.W.keepIn K (.ref f13) = true)
    {f14 : Addr} {od14 an14 : Option Addr} {sl14 : Array (Option Value)} {oc14 kV14 dc14 pm14 cd14 ct14 : Value}
    (a14 : PySem.W.nsIn K mainGlobals "law" = some (some (.ref f14))) (l14 : K.lookup f14 = some ⟨oc14, od14, .func (PySem.W.fnOf "law" "law" (defArgs s_law) (defBody s_law) (defScope s_law) .none kV14 dc14 pm14 an14 cd14 ct14), sl14⟩) (c14 : PySem.W.codeIn K cd14 "law" = true) (k14 : PySem.W.keepIn K (.ref f14) = true)
    (z0 : PySem.W.nsIn K mainGlobals "len" = some none)
    (z1 : PySem.W.nsIn K mainGlobals "divmod" = some none)
    (z2 : PySem.W.nsIn K mainGlobals "range" = some none)
    (z3 : PySem.W.nsIn K mainGlobals "int" = some none)
    (z4 : PySem.W.nsIn K mainGlobals "tuple" = some none)
    (z5 : PySem.W.nsIn K mainGlobals "isinstance" = some none)
    (z6 : PySem.W.nsIn K mainGlobals "bool" = some none)
    (z7 : PySem.W.nsIn K mainGlobals "str" = some none)
    {tt0 : Tok} (xc0 : PySem.W.nsIn K mainGlobals "SMALL" = some (some (.str z_abcdefghijklmnopqrstuvwxyz tt0)))
    : ∃ T : Txt K mg, T.f_law = f14 ∧ ∀ (s : Shared) (v : Value), BindsTo s T.fd_law ⟨[v], []⟩ [("script", v)] := by
  have F0 := fun_mk (st := s_put) l0 c0 k0
  have b0 := F0.binds (ps := ["formula", "table"]) fun _ _ _ _ _ _ us hl => match us, hl with | [_, _], _ => rfl
  have F1 := fun_mk (st := s_renamed) l1 c1 k1
  have b1 := F1.binds (ps := ["formula"]) fun _ _ _ _ _ _ us hl => match us, hl with | [_], _ => rfl
  have F2 := fun_mk (st := s_naming) l2 c2 k2
  have b2 := F2.binds (ps := ["formulas"]) fun _ _ _ _ _ _ us hl => match us, hl with | [_], _ => rfl
  have F3 := fun_mk (st := s_name_at) l3 c3 k3
  have b3 := F3.binds (ps := ["place"]) fun _ _ _ _ _ _ us hl => match us, hl with | [_], _ => rfl
  have F4 := fun_mk (st := s__law_cell) l4 c4 k4
  have b4 := F4.binds (ps := ["script", "k"]) fun _ _ _ _ _ _ us hl => match us, hl with | [_, _], _ => rfl
  have F5 := fun_mk (st := s__law_digits) l5 c5 k5
  have b5 := F5.binds (ps := ["script", "first", "last"]) fun _ _ _ _ _ _ us hl => match us, hl with | [_, _, _], _ => rfl
  have F6 := fun_mk (st := s__law_box) l6 c6 k6
  have b6 := F6.binds (ps := ["script", "first", "last"]) fun _ _ _ _ _ _ us hl => match us, hl with | [_, _, _], _ => rfl
  have F7 := fun_mk (st := s__law_draw) l7 c7 k7
  have b7 := F7.binds (ps := ["box", "many"]) fun _ _ _ _ _ _ us hl => match us, hl with | [_, _], _ => rfl
  have F8 := fun_mk (st := s__law_put) l8 c8 k8
  have b8 := F8.binds (ps := ["formula", "table"]) fun _ _ _ _ _ _ us hl => match us, hl with | [_, _], _ => rfl
  have F9 := fun_mk (st := s__law_any) l9 c9 k9
  have b9 := F9.binds (ps := ["box", "room", "many"]) fun _ _ _ _ _ _ us hl => match us, hl with | [_, _, _], _ => rfl
  have F10 := fun_mk (st := s__law_lettered) l10 c10 k10
  have b10 := F10.binds (ps := ["box", "room", "many"]) fun _ _ _ _ _ _ us hl => match us, hl with | [_, _, _], _ => rfl
  have F11 := fun_mk (st := s__law_same) l11 c11 k11
  have b11 := F11.binds (ps := ["actual", "expected"]) fun _ _ _ _ _ _ us hl => match us, hl with | [_, _], _ => rfl
  have F12 := fun_mk (st := s__law_in_order) l12 c12 k12
  have b12 := F12.binds (ps := ["formula"]) fun _ _ _ _ _ _ us hl => match us, hl with | [_], _ => rfl
  have F13 := fun_mk (st := s__law_renamed) l13 c13 k13
  have b13 := F13.binds (ps := ["formula"]) fun _ _ _ _ _ _ us hl => match us, hl with | [_], _ => rfl
  have F14 := fun_mk (st := s_law) l14 c14 k14
  have b14 := F14.binds (ps := ["script"]) fun _ _ _ _ _ _ us hl => match us, hl with | [_], _ => rfl
  exact ⟨⟨f0, _, F0, PySem.W.mg_of X G a0, b0, f1, _, F1, PySem.W.mg_of X G a1, b1, f2, _, F2, PySem.W.mg_of X G a2, b2, f3, _, F3, PySem.W.mg_of X G a3, b3, f4, _, F4, PySem.W.mg_of X G a4, b4, f5, _, F5, PySem.W.mg_of X G a5, b5, f6, _, F6, PySem.W.mg_of X G a6, b6, f7, _, F7, PySem.W.mg_of X G a7, b7, f8, _, F8, PySem.W.mg_of X G a8, b8, f9, _, F9, PySem.W.mg_of X G a9, b9, f10, _, F10, PySem.W.mg_of X G a10, b10, f11, _, F11, PySem.W.mg_of X G a11, b11, f12, _, F12, PySem.W.mg_of X G a12, b12, f13, _, F13, PySem.W.mg_of X G a13, b13, f14, _, F14, PySem.W.mg_of X G a14, b14, PySem.W.mg_none_of X G z0, PySem.W.mg_none_of X G z1, PySem.W.mg_none_of X G z2, PySem.W.mg_none_of X G z3, PySem.W.mg_none_of X G z4, PySem.W.mg_none_of X G z5, PySem.W.mg_none_of X G z6, PySem.W.mg_none_of X G z7, tt0, PySem.W.mg_of X G xc0⟩, rfl, fun s v => .of_eq rfl⟩
/- cases: ?a0 ?l0 ?c0 ?k0 ?a1 ?l1 ?c1 ?k1 ?a2 ?l2 ?c2 ?k2 ?a3 ?l3 ?c3 ?k3 ?a4 ?l4 ?c4 ?k4 ?a5 ?l5 ?c5 ?k5 ?a6 ?l6 ?c6 ?k6 ?a7 ?l7 ?c7 ?k7 ?a8 ?l8 ?c8 ?k8 ?a9 ?l9 ?c9 ?k9 ?a10 ?l10 ?c10 ?k10 ?a11 ?l11 ?c11 ?k11 ?a12 ?l12 ?c12 ?k12 ?a13 ?l13 ?c13 ?k13 ?a14 ?l14 ?c14 ?k14 ?z0 ?z1 ?z2 ?z3 ?z4 ?z5 ?z6 ?z7 ?xc0 -/

section
variable {P : Program} {w : World} {K : PySem.W.Frag} {mg : Str → Option Value} {base : Heap}
theorem lev_draw (T : Txt K mg) : FnOk P w K mg base CX0 1 T.f__law_draw T.fd__law_draw ["box", "many"] (conc K 2 A_draw) := ok__law_draw T p__law_draw
theorem lev_any (T : Txt K mg) : ∀ L, FnOk P w K mg base CX0 (L + 1) T.f__law_any T.fd__law_any ["box", "room", "many"] (conc K 3 (A_any L))
  | 0 => fn_none fun ds M Q Xa h => by
    obtain ⟨b, d, room, many, _, _, h1, h2, _⟩ := h
    omega
  | L + 1 => ok__law_any T ((lev_draw T).mono (by omega)) (lev_any T L) (p__law_any L)
theorem lev_put (T : Txt K mg) : ∀ L, FnOk P w K mg base CX0 (L + 1) T.f__law_put T.fd__law_put ["formula", "table"] (conc K 2 (A_put L))
  | 0 => fn_none fun ds M Q Xa h => by
    obtain ⟨f, t, kvs, σ, _, h1, _⟩ := h
    have z := f.sz_pos
    omega
  | L + 1 => ok__law_put T (lev_put T L) (p__law_put L)
theorem lev_same (T : Txt K mg) : ∀ L, FnOk P w K mg base CX0 (L + 1) T.f__law_same T.fd__law_same ["actual", "expected"] (conc K 2 (A_same L))
  | 0 => fn_none fun ds M Q Xa h => by
    obtain ⟨x, _, _, h1, _⟩ := h
    exact absurd h1 (Nat.not_lt_zero _)
  | L + 1 => ok__law_same T (lev_same T L) (p__law_same L)
theorem lev_lettered (T : Txt K mg) (L : Nat) : FnOk P w K mg base CX0 (L + 2) T.f__law_lettered T.fd__law_lettered ["box", "room", "many"] (conc K 3 (A_lettered L)) :=
  ok__law_lettered T ((lev_draw T).mono (by omega)) (lev_put T L) (lev_any T L) (p__law_lettered L)
theorem lev_box (T : Txt K mg) : FnOk P w K mg base CX0 3 T.f__law_box T.fd__law_box ["script", "first", "last"] (conc K 3 A_box) := ok__law_box T (ok__law_digits T (ok__law_cell T p__law_cell) p__law_digits) p__law_box
end

section
variable {P : Program} {w : World} {K : PySem.W.Frag} {mg : Str → Option Value} {base : Heap}
theorem lev_pput (T : Txt K mg) : ∀ L, FnOk P w K mg base CX0 (L + 1) T.f_put T.fd_put ["formula", "table"] (conc K 2 (A_put L))
  | 0 => fn_none fun ds M Q Xa h => by
    obtain ⟨f, t, kvs, σ, _, h1, _⟩ := h
    have z := f.sz_pos
    omega
  | L + 1 => ok_put T (lev_pput T L) (p_put L)
theorem lev_order (T : Txt K mg) : ∀ L, FnOk P w K mg base CX0 (L + 1) T.f__law_in_order T.fd__law_in_order ["formula"] (conc K 1 (A_order L))
  | 0 => fn_none fun ds M Q Xa h => by
    obtain ⟨f, _, h1, _⟩ := h
    have z := f.sz_pos
    omega
  | L + 1 => ok__law_in_order T (lev_order T L) (p__law_in_order L)
theorem lev_name_at (T : Txt K mg) : FnOk P w K mg base CX0 1 T.f_name_at T.fd_name_at ["place"] (conc K 1 A_name_at) := ok_name_at T p_name_at
theorem lev_naming (T : Txt K mg) : FnOk P w K mg base CX0 2 T.f_naming T.fd_naming ["formulas"] (conc K 1 A_naming) := ok_naming T (lev_name_at T) p_naming
theorem lev_renamed (T : Txt K mg) : FnOk P w K mg base CX0 122 T.f_renamed T.fd_renamed ["formula"] (conc K 1 (A_renamed 120)) := ok_renamed T (lev_pput T 120) ((lev_naming T).mono (by omega)) (p_renamed 120)
theorem lev_lrenamed (T : Txt K mg) : FnOk P w K mg base CX0 122 T.f__law_renamed T.fd__law_renamed ["formula"] (conc K 1 (A_renamed 120)) := ok__law_renamed T (lev_order T 120) (lev_put T 120) (p__law_renamed 120)
theorem lev_law (T : Txt K mg) : FnOk P w K mg base CX0 202 T.f_law T.fd_law ["script"] (conc K 1 A_law) :=
  ok_law T ((lev_box T).mono (by omega)) ((lev_lettered T 40).mono (by omega)) (lev_same T 200) ((lev_renamed T).mono (by omega)) ((lev_lrenamed T).mono (by omega)) ((lev_draw T).mono (by omega)) p_law
end

theorem all_mk {l : PySem.W.OpenLaw} {w : World} {fa : Addr} {K : PySem.W.Frag} {h : Heap} {mg : Str → Option Value} (X : K.In h) (G : h.Ns mainGlobals mg) (hfa : mg "law" = some (.ref fa))
    {f0 : Addr} {od0 an0 : Option Addr} {sl0 : Array (Option Value)} {oc0 kV0 dc0 pm0 cd0 ct0 : Value}
    (a0 : PySem.W.nsIn K mainGlobals "put" = some (some (.ref f0))) (l0 : K.lookup f0 = some ⟨oc0, od0, .func (PySem.W.fnOf "put" "put" (defArgs s_put) (defBody s_put) (defScope s_put) .none kV0 dc0 pm0 an0 cd0 ct0), sl0⟩) (c0 : PySem.W.codeIn K cd0 "put" = true) (k0 : PySem.W.keepIn K (.ref f0) = true)
    {f1 : Addr} {od1 an1 : Option Addr} {sl1 : Array (Option Value)} {oc1 kV1 dc1 pm1 cd1 ct1 : Value}
    (a1 : PySem.W.nsIn K mainGlobals "renamed" = some (some (.ref f1))) (l1 : K.lookup f1 = some ⟨oc1, od1, .func (PySem.W.fnOf "renamed" "renamed" (defArgs s_renamed) (defBody s_renamed) (defScope s_renamed) .none kV1 dc1 pm1 an1 cd1 ct1), sl1⟩) (c1 : PySem.W.codeIn K cd1 "renamed" = true) (k1 : PySem.W.keepIn K (.ref f1) = true)
    {f2 : Addr} {od2 an2 : Option Addr} {sl2 : Array (Option Value)} {oc2 kV2 dc2 pm2 cd2 ct2 : Value}
    (a2 : PySem.W.nsIn K mainGlobals "naming" = some (some (.ref f2))) (l2 : K.lookup f2 = some ⟨oc2, od2, .func (PySem.W.fnOf "naming" "naming" (defArgs s_naming) (defBody s_naming) (defScope s_naming) .none kV2 dc2 pm2 an2 cd2 ct2), sl2⟩) (c2 : PySem.W.codeIn K cd2 "naming" = true) (k2 : PySem.W.keepIn K (.ref f2) = true)
    {f3 : Addr} {od3 an3 : Option Addr} {sl3 : Array (Option Value)} {oc3 kV3 dc3 pm3 cd3 ct3 : Value}
    (a3 : PySem.W.nsIn K mainGlobals "name_at" = some (some (.ref f3))) (l3 : K.lookup f3 = some ⟨oc3, od3, .func (PySem.W.fnOf "name_at" "name_at" (defArgs s_name_at) (defBody s_name_at) (defScope s_name_at) .none kV3 dc3 pm3 an3 cd3 ct3), sl3⟩) (c3 : PySem.W.codeIn K cd3 "name_at" = true) (k3 : PySem.W.keepIn K (.ref f3) = true)
    {f4 : Addr} {od4 an4 : Option Addr} {sl4 : Array (Option Value)} {oc4 kV4 dc4 pm4 cd4 ct4 : Value}
    (a4 : PySem.W.nsIn K mainGlobals "_law_cell" = some (some (.ref f4))) (l4 : K.lookup f4 = some ⟨oc4, od4, .func (PySem.W.fnOf "_law_cell" "_law_cell" (defArgs s__law_cell) (defBody s__law_cell) (defScope s__law_cell) .none kV4 dc4 pm4 an4 cd4 ct4), sl4⟩) (c4 : PySem.W.codeIn K cd4 "_law_cell" = true) (k4 : PySem.W.keepIn K (.ref f4) = true)
    {f5 : Addr} {od5 an5 : Option Addr} {sl5 : Array (Option Value)} {oc5 kV5 dc5 pm5 cd5 ct5 : Value}
    (a5 : PySem.W.nsIn K mainGlobals "_law_digits" = some (some (.ref f5))) (l5 : K.lookup f5 = some ⟨oc5, od5, .func (PySem.W.fnOf "_law_digits" "_law_digits" (defArgs s__law_digits) (defBody s__law_digits) (defScope s__law_digits) .none kV5 dc5 pm5 an5 cd5 ct5), sl5⟩) (c5 : PySem.W.codeIn K cd5 "_law_digits" = true) (k5 : PySem.W.keepIn K (.ref f5) = true)
    {f6 : Addr} {od6 an6 : Option Addr} {sl6 : Array (Option Value)} {oc6 kV6 dc6 pm6 cd6 ct6 : Value}
    (a6 : PySem.W.nsIn K mainGlobals "_law_box" = some (some (.ref f6))) (l6 : K.lookup f6 = some ⟨oc6, od6, .func (PySem.W.fnOf "_law_box" "_law_box" (defArgs s__law_box) (defBody s__law_box) (defScope s__law_box) .none kV6 dc6 pm6 an6 cd6 ct6), sl6⟩) (c6 : PySem.W.codeIn K cd6 "_law_box" = true) (k6 : PySem.W.keepIn K (.ref f6) = true)
    {f7 : Addr} {od7 an7 : Option Addr} {sl7 : Array (Option Value)} {oc7 kV7 dc7 pm7 cd7 ct7 : Value}
    (a7 : PySem.W.nsIn K mainGlobals "_law_draw" = some (some (.ref f7))) (l7 : K.lookup f7 = some ⟨oc7, od7, .func (PySem.W.fnOf "_law_draw" "_law_draw" (defArgs s__law_draw) (defBody s__law_draw) (defScope s__law_draw) .none kV7 dc7 pm7 an7 cd7 ct7), sl7⟩) (c7 : PySem.W.codeIn K cd7 "_law_draw" = true) (k7 : PySem.W.keepIn K (.ref f7) = true)
    {f8 : Addr} {od8 an8 : Option Addr} {sl8 : Array (Option Value)} {oc8 kV8 dc8 pm8 cd8 ct8 : Value}
    (a8 : PySem.W.nsIn K mainGlobals "_law_put" = some (some (.ref f8))) (l8 : K.lookup f8 = some ⟨oc8, od8, .func (PySem.W.fnOf "_law_put" "_law_put" (defArgs s__law_put) (defBody s__law_put) (defScope s__law_put) .none kV8 dc8 pm8 an8 cd8 ct8), sl8⟩) (c8 : PySem.W.codeIn K cd8 "_law_put" = true) (k8 : PySem.W.keepIn K (.ref f8) = true)
    {f9 : Addr} {od9 an9 : Option Addr} {sl9 : Array (Option Value)} {oc9 kV9 dc9 pm9 cd9 ct9 : Value}
    (a9 : PySem.W.nsIn K mainGlobals "_law_any" = some (some (.ref f9))) (l9 : K.lookup f9 = some ⟨oc9, od9, .func (PySem.W.fnOf "_law_any" "_law_any" (defArgs s__law_any) (defBody s__law_any) (defScope s__law_any) .none kV9 dc9 pm9 an9 cd9 ct9), sl9⟩) (c9 : PySem.W.codeIn K cd9 "_law_any" = true) (k9 : PySem.W.keepIn K (.ref f9) = true)
    {f10 : Addr} {od10 an10 : Option Addr} {sl10 : Array (Option Value)} {oc10 kV10 dc10 pm10 cd10 ct10 : Value}
    (a10 : PySem.W.nsIn K mainGlobals "_law_lettered" = some (some (.ref f10))) (l10 : K.lookup f10 = some ⟨oc10, od10, .func (PySem.W.fnOf "_law_lettered" "_law_lettered" (defArgs s__law_lettered) (defBody s__law_lettered) (defScope s__law_lettered) .none kV10 dc10 pm10 an10 cd10 ct10), sl10⟩) (c10 : PySem.W.codeIn K cd10 "_law_lettered" = true) (k10 : PySem.W.keepIn K (.ref f10) = true)
    {f11 : Addr} {od11 an11 : Option Addr} {sl11 : Array (Option Value)} {oc11 kV11 dc11 pm11 cd11 ct11 : Value}
    (a11 : PySem.W.nsIn K mainGlobals "_law_same" = some (some (.ref f11))) (l11 : K.lookup f11 = some ⟨oc11, od11, .func (PySem.W.fnOf "_law_same" "_law_same" (defArgs s__law_same) (defBody s__law_same) (defScope s__law_same) .none kV11 dc11 pm11 an11 cd11 ct11), sl11⟩) (c11 : PySem.W.codeIn K cd11 "_law_same" = true) (k11 : PySem.W.keepIn K (.ref f11) = true)
    {f12 : Addr} {od12 an12 : Option Addr} {sl12 : Array (Option Value)} {oc12 kV12 dc12 pm12 cd12 ct12 : Value}
    (a12 : PySem.W.nsIn K mainGlobals "_law_in_order" = some (some (.ref f12))) (l12 : K.lookup f12 = some ⟨oc12, od12, .func (PySem.W.fnOf "_law_in_order" "_law_in_order" (defArgs s__law_in_order) (defBody s__law_in_order) (defScope s__law_in_order) .none kV12 dc12 pm12 an12 cd12 ct12), sl12⟩) (c12 : PySem.W.codeIn K cd12 "_law_in_order" = true) (k12 : PySem.W.keepIn K (.ref f12) = true)
    {f13 : Addr} {od13 an13 : Option Addr} {sl13 : Array (Option Value)} {oc13 kV13 dc13 pm13 cd13 ct13 : Value}
    (a13 : PySem.W.nsIn K mainGlobals "_law_renamed" = some (some (.ref f13))) (l13 : K.lookup f13 = some ⟨oc13, od13, .func (PySem.W.fnOf "_law_renamed" "_law_renamed" (defArgs s__law_renamed) (defBody s__law_renamed) (defScope s__law_renamed) .none kV13 dc13 pm13 an13 cd13 ct13), sl13⟩) (c13 : PySem.W.codeIn K cd13 "_law_renamed" = true) (k13 : PySem.W.keepIn K (.ref f13) = true)
    {f14 : Addr} {od14 an14 : Option Addr} {sl14 : Array (Option Value)} {oc14 kV14 dc14 pm14 cd14 ct14 : Value}
    (a14 : PySem.W.nsIn K mainGlobals "law" = some (some (.ref f14))) (l14 : K.lookup f14 = some ⟨oc14, od14, .func (PySem.W.fnOf "law" "law" (defArgs s_law) (defBody s_law) (defScope s_law) .none kV14 dc14 pm14 an14 cd14 ct14), sl14⟩) (c14 : PySem.W.codeIn K cd14 "law" = true) (k14 : PySem.W.keepIn K (.ref f14) = true)
    (z0 : PySem.W.nsIn K mainGlobals "len" = some none)
    (z1 : PySem.W.nsIn K mainGlobals "divmod" = some none)
    (z2 : PySem.W.nsIn K mainGlobals "range" = some none)
    (z3 : PySem.W.nsIn K mainGlobals "int" = some none)
    (z4 : PySem.W.nsIn K mainGlobals "tuple" = some none)
    (z5 : PySem.W.nsIn K mainGlobals "isinstance" = some none)
    (z6 : PySem.W.nsIn K mainGlobals "bool" = some none)
    (z7 : PySem.W.nsIn K mainGlobals "str" = some none)
    {tt0 : Tok} (xc0 : PySem.W.nsIn K mainGlobals "SMALL" = some (some (.str z_abcdefghijklmnopqrstuvwxyz tt0)))
    : ∃ fd : FuncData, (∀ (s : Shared) (v : Value), BindsTo s fd ⟨[v], []⟩ [("script", v)]) ∧ ∀ base : Heap, K.In base → base.Ns mainGlobals mg → FnOk l.prog w K mg base CX0 202 fa fd ["script"] (conc K 1 A_law) := by
  obtain ⟨T, eT, bT⟩ := txt_mk X G a0 l0 c0 k0 a1 l1 c1 k1 a2 l2 c2 k2 a3 l3 c3 k3 a4 l4 c4 k4 a5 l5 c5 k5 a6 l6 c6 k6 a7 l7 c7 k7 a8 l8 c8 k8 a9 l9 c9 k9 a10 l10 c10 k10 a11 l11 c11 k11 a12 l12 c12 k12 a13 l13 c13 k13 a14 l14 c14 k14 z0 z1 z2 z3 z4 z5 z6 z7 xc0
  cases hfa.symm.trans T.m_law
  exact ⟨T.fd_law, bT, fun base _ _ => lev_law T⟩
end AL
open PySem PySem.W PyProof.Rows
set_option maxHeartbeats 0 in
theorem PySem.Challenge.cw_conceptscript_k81_letters_in_order_holds : PySem.Challenge.rw_conceptscript_k81_letters_in_order.Holds := by
  w_on; o_law; k_head; (case hw => w_witness2)
  k_fill
  refine L2.walk_of (l := PySem.Challenge.rw_conceptscript_k81_letters_in_order) (n := 63) (k := 202) (x := "script") (CX := fun _ => L2.CX0) (sp := fun w => AL.conc _ 1 AL.A_law) rfl (by decide) rfl ⟨rfl, by decide, by decide⟩ (fun w h Y => PySem.W.kIn_of Y) ?F (fun _ _ a ns hl ho hS => AL.law_start ho hS fun Q q => ⟨ns, rfl, q⟩) (fun _ _ _ _ _ h => h)
  case F =>
    intro w mg fa h KX G hmg
    refine' AL.all_mk KX G hmg ?a0 ?l0 ?c0 ?k0 ?a1 ?l1 ?c1 ?k1 ?a2 ?l2 ?c2 ?k2 ?a3 ?l3 ?c3 ?k3 ?a4 ?l4 ?c4 ?k4 ?a5 ?l5 ?c5 ?k5 ?a6 ?l6 ?c6 ?k6 ?a7 ?l7 ?c7 ?k7 ?a8 ?l8 ?c8 ?k8 ?a9 ?l9 ?c9 ?k9 ?a10 ?l10 ?c10 ?k10 ?a11 ?l11 ?c11 ?k11 ?a12 ?l12 ?c12 ?k12 ?a13 ?l13 ?c13 ?k13 ?a14 ?l14 ?c14 ?k14 ?z0 ?z1 ?z2 ?z3 ?z4 ?z5 ?z6 ?z7 ?xc0
    (case a0 => k_is)
    (case l0 => k_is)
    (case c0 => k_is)
    (case k0 => k_is)
    (case a1 => k_is)
    (case l1 => k_is)
    (case c1 => k_is)
    (case k1 => k_is)
    (case a2 => k_is)
    (case l2 => k_is)
    (case c2 => k_is)
    (case k2 => k_is)
    (case a3 => k_is)
    (case l3 => k_is)
    (case c3 => k_is)
    (case k3 => k_is)
    (case a4 => k_is)
    (case l4 => k_is)
    (case c4 => k_is)
    (case k4 => k_is)
    (case a5 => k_is)
    (case l5 => k_is)
    (case c5 => k_is)
    (case k5 => k_is)
    (case a6 => k_is)
    (case l6 => k_is)
    (case c6 => k_is)
    (case k6 => k_is)
    (case a7 => k_is)
    (case l7 => k_is)
    (case c7 => k_is)
    (case k7 => k_is)
    (case a8 => k_is)
    (case l8 => k_is)
    (case c8 => k_is)
    (case k8 => k_is)
    (case a9 => k_is)
    (case l9 => k_is)
    (case c9 => k_is)
    (case k9 => k_is)
    (case a10 => k_is)
    (case l10 => k_is)
    (case c10 => k_is)
    (case k10 => k_is)
    (case a11 => k_is)
    (case l11 => k_is)
    (case c11 => k_is)
    (case k11 => k_is)
    (case a12 => k_is)
    (case l12 => k_is)
    (case c12 => k_is)
    (case k12 => k_is)
    (case a13 => k_is)
    (case l13 => k_is)
    (case c13 => k_is)
    (case k13 => k_is)
    (case a14 => k_is)
    (case l14 => k_is)
    (case c14 => k_is)
    (case k14 => k_is)
    (case z0 => k_is)
    (case z1 => k_is)
    (case z2 => k_is)
    (case z3 => k_is)
    (case z4 => k_is)
    (case z5 => k_is)
    (case z6 => k_is)
    (case z7 => k_is)
    (case xc0 => k_is)
