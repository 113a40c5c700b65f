import PyProof.Rows.All
import Wide.All
import OpenK.AllK
import Wide.FinOn
import HandS.ForMost
import HandS.Iter
import HandS.Zip0
import HandS.Zip
import PyProof.Draws
import PyProof.StrOps2
import PyProof.ReprRoads
import PyProof.ReprLen
import PyProof.AutoSeq1
import HandS.FStrTup
import PyProof.StrLawsRepr
import HandS.IsInst
import HandS.TupAny
import HandS.SortInts
import HandS.SetFor
import PyProof.Rows.DictTally
import HandS.FStr
import HandS.WordsDict
import HandS.SetBool
import HandS.SetIn
import KE.KDictSum
import KE.KDictKeyed
import PyProof.Rows.SeqRoads
import PyProof.TupleOfGen
import HandS.Style
import HandS.Flow
import HandS.Exc
import HandS.WordsExc
import HandS.Deep
import HandS.AnyAll
import HandS.Comp
import HandS.GenOver
import HandS.GenBody
import HandS.EndTab
import KE.KNestM
import HandS.SetKeys
import HandS.Set
import HandS.Strs
import HandS.List
import HandS.More
import PyProof.Rows.SortShellAny
import PyProof.Rows.SortStr
import HandS.SortRule
import HandS.Star
import PyProof.Rows.StrMeet
import HandS.DictTup
import HandS.Rev
import HandS.RevRange
import HandS.DictComp
import PyProof.GenArm
import PyProof.GenQ
import PyProof.GenRules
import PyProof.Rows.RegStrFacts
import HandS.Conv
import HandS.ExcInit
import HandS.ExcInitHot
import HandS.ExcField
import HandS.ExcIs
import HandS.ExcOwn
import HandS.ExcCtx
import HandS.HotCalls
import KE.KExcIs
import PySem.Challenge.RW_conceptscript_k83_steps_of_proofs
set_option Elab.async false
set_option linter.all false
set_option maxRecDepth 100000

namespace AS
open PySem PySem.Spec PyProof.Rows L2
def tx (e : Int × Value) : Str := match e.2 with
  | .str k _ => k
  | _ => Str.empty
def IsTx (w : World) (e : Int × Value) : Prop := ∃ u, e = (hashStr w (tx e), .str (tx e) u)
structure Tab (w : World) (es : Array (Int × Value)) (t : SetTable) (ks : List Str) : Prop where
  all : ∀ e ∈ es.toList, IsTx w e
  mem : (es.toList.map tx).Perm ks
  nd : ks.Nodup
  few : es.size < scanBound
  fit : t.fits es.size = true
  ris : Ris t.place.toList
  led : w.params.followText "set-order" = true ∨ t.led = true
def SetS (w : World) (h : Heap) (a : Addr) (ks : List Str) : Prop := ∃ o es ep t, h.get? a = some o ∧ o.ExactSet ∧ o.data = .set es ep t ∧ Tab w es t ks
section
variable {P : Program} {w : World} {h h' : Heap} {a : Addr} {ks : List Str} {es : Array (Int × Value)} {t : SetTable}
theorem SetS.keep (R : SetS w h a ks) (k : ∀ o, h.get? a = some o → h'.get? a = some o) : SetS w h' a ks := by
  obtain ⟨o, es, ep, t, ho, z⟩ := R
  exact ⟨o, es, ep, t, k o ho, z⟩
theorem Tab.size (T : Tab w es t ks) : es.size = ks.length := by
  have z := T.mem.length_eq
  rw [List.length_map, Array.length_toList] at z
  exact z
theorem Tab.els (T : Tab w es t ks) : ElemsOf (PySem.strKind P w) es.toList := fun e he => by
  obtain ⟨u, z⟩ := T.all e he
  rw [z]
  exact ⟨⟨tx e, strKind_is _ _ _ _, rfl⟩, rfl⟩
theorem is_tx {e : Int × Value} (g : IsTx w e) (k : Str) : (PySem.strKind P w).is k e.2 = decide (tx e = k) := by
  obtain ⟨u, z⟩ := g
  rw [z, KeyKind.is_eq_decide (strKind_is P w (tx e) u) k]
  show decide (k = tx e) = decide (tx e = k)
  exact decide_eq_decide.mpr eq_comm
end
section
variable {P : Program} {w : World} {A : Around} {E : Value → Shared → Prop} {s : Shared} {a : Addr} {ks : List Str}
theorem tail {g : Bool → Sem Unit} (hg : ∀ (b : Bool) (z : Shared) (q : Unit → Shared → Prop), q () z → wpAny (model P w) A (g b) q E z) {o : Obj} {es es1 : Array (Int × Value)} {ep : Nat} {t t2 : SetTable}
    (ho : s.heap.get? a = some o) (hex : o.ExactSet) (hd : o.data = .set es ep t) (T : Tab w es1 t2 ks) {dm : Bool} {R : Option Bool → Shared → Prop}
    (fin : ∀ h2, Heap.SameBut a s.heap h2 → SetS w h2 a ks → R (some true) { s with heap := h2 }) :
    wpAny (model P w) A (do storeSet a es1 t2; if (!dm && t2.tooFull) = true then (do g (relayAll t2 es1 (SetTable.grown es1.size)).2.2; storeSet a (relayAll t2 es1 (SetTable.grown es1.size)).1 (relayAll t2 es1 (SetTable.grown es1.size)).2.1; pure (some true)) else pure (some true)) R E s := by
  have n1 := store_at (es' := es1) (t' := t2) ho hd
  have b1 := Heap.SameBut.update s.heap a (Obj.putSet es1 t2)
  refine wpAny_bind (wpAny_storeSet_of ho hd ?_ (fits_of_scanBound T.few))
  by_cases c : (!dm && t2.tooFull) = true
  · rw [if_pos c]
    have p1 := relayAll_perm t2 es1 (SetTable.grown es1.size)
    have p2 := relayAll_fits t2 es1 (SetTable.grown es1.size)
    have p3 := relayAll_ris t2 es1 (SetTable.grown es1.size)
    have p4 := relayAll_led t2 es1 (SetTable.grown es1.size)
    revert p1 p2 p3 p4
    generalize relayAll t2 es1 (SetTable.grown es1.size) = Z
    obtain ⟨e2, t3, gv⟩ := Z
    intro p1 p2 p3 p4
    dsimp only at p1 p2 p3 p4 ⊢
    have same : e2.size = es1.size := by
      have z := p1.length_eq
      rw [Array.length_toList, Array.length_toList] at z
      exact z
    have T2 : Tab w e2 t3 ks := ⟨fun e he => T.all e (p1.mem_iff.mp he), (p1.map tx).trans T.mem, T.nd, by rw [same]; exact T.few, p2, p3, T.led.imp (fun z => z) fun z => by rw [p4]; exact z⟩
    refine wpAny_bind (hg _ _ _ (wpAny_bind (wpAny_storeSet_of n1 rfl ?_ (fits_of_scanBound T2.few))))
    exact wpAny_pure (fin _ (b1.trans (Heap.SameBut.update _ a _)) ⟨_, e2, _, t3, store_at (es' := e2) (t' := t3) n1 rfl, hex, rfl, T2⟩)
  · rw [if_neg c]
    exact wpAny_pure (fin _ b1 ⟨_, es1, _, t2, n1, hex, rfl, T⟩)
theorem put {k : Str} {u : Tok} {Q : Bool → Shared → Prop} (R : SetS w s.heap a ks) (room : ks.length + 1 < scanBound) (hQ : ∀ b h2, Heap.SameBut a s.heap h2 → SetS w h2 a (if k ∈ ks then ks else k :: ks) → Q b { s with heap := h2 }) :
    wpAny (model P w) A (setAddHashed a (.str k u) (hashStr w k)) Q E s := by
  obtain ⟨o, es, ep, t, ho, hex, hd, T⟩ := R
  have scn : (Value.str k u).scannable = true := rfl
  have els := T.els (P := P)
  unfold setAddHashed setAddHashedIn
  refine wpAny_holding (wpAny_bind (wpAny_setState_of ho hd T.fit ?_))
  dsimp only
  rw [byScan_of scn T.few els]
  simp only [↓reduceIte]
  unfold setAddByScan
  refine wpAny_bind (wpAny_bind (wpAny_rule (wpAny_bind (wpAny_setScan_of (strKind_is P w k u) ho hd T.fit els ?_))))
  cases hf : List.findIdx? (fun e => (PySem.strKind P w).is k e.2) es.toList with
  | some j =>
    dsimp only
    obtain ⟨hj, pj, _⟩ := List.findIdx?_eq_some_iff_getElem.mp hf
    rw [is_tx (T.all _ (List.getElem_mem hj)), decide_eq_true_eq] at pj
    have inn : k ∈ ks := T.mem.mem_iff.mp (List.mem_map.mpr ⟨_, List.getElem_mem hj, pj⟩)
    have q := fun b => hQ b s.heap (Heap.SameBut.refl a s.heap)
    rw [if_pos inn] at q
    exact wpAny_pure (wpAny_pure (q _ ⟨o, es, ep, t, ho, hex, hd, T⟩))
  | none =>
    dsimp only
    have out : k ∉ ks := fun z => by
      obtain ⟨e, he, q⟩ := List.mem_map.mp (T.mem.mem_iff.mpr z)
      have c := List.findIdx?_eq_none_iff.mp hf e he
      rw [is_tx (T.all e he), decide_eq_false_iff_not] at c
      exact c q
    have q := hQ
    rw [if_neg out] at q
    have way : ∀ (b : Bool) {z : Shared} {r : Unit → Shared → Prop}, r () z → wpAny (model P w) A (match b with | true => rule "set.scan.the-table-gave-way" | false => pure ()) r E z := fun b z r y => by
      cases b
      · exact wpAny_pure y
      · exact wpAny_rule y
    have l1 := layNew_perm t es (hashStr w k) (.str k u)
    have l2 := layNew_fits t es (hashStr w k) (.str k u)
    have l3 := layNew_ris t es (hashStr w k) (.str k u) T.ris
    have l4 := layNew_led t es (hashStr w k) (.str k u)
    revert l1 l2 l3 l4
    generalize layNew t es (hashStr w k) (.str k u) = Z
    obtain ⟨e1, t1, dm, gv⟩ := Z
    intro l1 l2 l3 l4
    dsimp only at l1 l2 l3 l4 ⊢
    rw [Array.toList_push] at l1
    have l5 : e1.toList.Perm ((hashStr w k, .str k u) :: es.toList) := l1.trans (List.perm_append_singleton _ _)
    have l6 : (e1.toList.map tx).Perm (k :: ks) := (l5.map tx).trans (List.Perm.cons k T.mem)
    have T1 : Tab w e1 t1 (k :: ks) := by
      refine ⟨fun e he => ?_, l6, List.nodup_cons.mpr ⟨out, T.nd⟩, ?_, l2, l3, T.led.imp (fun z => z) fun z => by rw [l4]; exact z⟩
      · rcases List.mem_cons.mp (l5.mem_iff.mp he) with z | z
        · rw [z]
          exact ⟨u, rfl⟩
        · exact T.all e z
      · have z := l6.length_eq
        rw [List.length_map, Array.length_toList, List.length_cons] at z
        rw [z]
        exact room
    refine wpAny_bind (way _ ?_)
    rw [hashByValue_scannable 8 scn]
    have done : ∀ h2, Heap.SameBut a s.heap h2 → SetS w h2 a (k :: ks) → wpAny (model P w) A (pure true) Q E { s with heap := h2 } := fun h2 z1 z2 => wpAny_pure (q true h2 z1 z2)
    have T0 : Tab w e1 { t1 with plain := false } (k :: ks) := ⟨T1.all, T1.mem, T1.nd, T1.few, SetTable.fits_plain_off T1.fit, T1.ris, T1.led⟩
    generalize plainKind (Value.str k u) = pb
    have go : ∀ (b : Bool) (z : Shared) (r : Unit → Shared → Prop), r () z → wpAny (model P w) A (match b with | true => rule "set.scan.the-table-gave-way" | false => pure ()) r E z := fun b z r y => way b y
    split
    · refine wpAny_bind (wpAny_pure ?_)
      cases pb with
      | true =>
        simp only [↓reduceIte]
        exact tail go ho hex hd T1 done
      | false =>
        simp only [↓reduceIte, Bool.false_eq_true]
        exact tail go ho hex hd T0 done
    · refine wpAny_bind (wpAny_pure ?_)
      simp only [↓reduceIte]
      exact tail go ho hex hd T1 done
end
section
variable {P : Program} {w : World} {A : Around} {R : Result → Shared → Prop} {I : Addr} {fp wr : List Addr} {G : Array GenState → Array GenState → Prop} {n : Nat} {Pv : Nat → Value → Prop} {St : Nat → Shared → Prop}
structure Met (xs : List Str) (i : Nat) (ks : List Str) : Prop where
  sub : ∀ k ∈ ks, k ∈ xs
  has : ∀ k ∈ xs.take i, k ∈ ks
  len : ks.length ≤ i
theorem Met.step {xs ks : List Str} {i : Nat} {k : Str} (m : Met xs i ks) (hk : xs[i]? = some k) : Met xs (i + 1) (if k ∈ ks then ks else k :: ks) := by
  have tk : ∀ y, y ∈ xs.take (i + 1) → y ∈ xs.take i ∨ y = k := fun y hy => by
    rw [List.take_add_one, hk] at hy
    rcases List.mem_append.mp hy with z | z
    · exact .inl z
    · exact .inr (List.mem_singleton.mp z)
  by_cases c : k ∈ ks
  · rw [if_pos c]
    refine ⟨m.sub, fun y hy => ?_, Nat.le_succ_of_le m.len⟩
    rcases tk y hy with z | z
    · exact m.has y z
    · rw [z]; exact c
  · rw [if_neg c]
    refine ⟨fun y hy => ?_, fun y hy => ?_, Nat.succ_le_succ m.len⟩
    · rcases List.mem_cons.mp hy with z | z
      · rw [z]; exact List.mem_of_getElem? hk
      · exact m.sub y z
    · rcases tk y hy with z | z
      · exact List.mem_cons_of_mem _ (m.has y z)
      · rw [z]; exact List.mem_cons_self
end
section
variable {P : Program} {w : World} {A : Around} {E : Value → Shared → Prop} {s : Shared}
def bare (w : World) : Obj := { cls := .type "set", dict := none, data := .set #[] 0 (.fresh 0 0 (!w.params.followText "set-order")) }
theorem bare_tab (w : World) : Tab w #[] (.fresh 0 0 (!w.params.followText "set-order")) [] := ⟨fun e z => by simp at z, List.Perm.refl _, List.nodup_nil, (by decide), rfl, List.Pairwise.nil, by
  show _ ∨ (!w.params.followText "set-order") = true
  cases w.params.followText "set-order" with
  | true => exact .inl rfl
  | false => exact .inr rfl⟩
theorem bare_at {h : Heap} {a : Addr} (e : h.get? a = some (bare w)) : SetS w h a [] := ⟨_, #[], 0, _, e, ⟨rfl, rfl, rfl⟩, rfl, bare_tab w⟩
end
end AS

namespace AS
open PySem PySem.Spec PyProof.Rows L2
section
variable {P : Program} {w : World} {A : Around} {E : Value → Shared → Prop} {s : Shared} {a : Addr} {ks : List Str}
theorem call_sorted {Q : Value → Shared → Prop} (R : SetS w s.heap a ks) (hh : A.handled = none)
    (fin : ∀ (z : Shared) (p : Addr) (out : Array Value) (c : Nat) (ys : List Str), (∀ b o, s.heap.get? b = some o → z.heap.get? b = some o) → z.gens = s.gens → z.os = s.os → s.heap.objs.size ≤ p →
      z.heap.get? p = some (seqObj "list" out c) → StrsAre out.toList ys → ys.Perm ks → sortedS ys = true → Q (.ref p) z) : wpAny (model P w) A (call (.builtin "sorted") [.ref a]) Q E s := by
  obtain ⟨o, es, ep, t, ho, hex, hd, T⟩ := R
  refine Calls.call_function_entry kind_sorted plain_sorted entry_sorted (args_sorted1 _) ?_
  unfold Builtin.«sorted»
  refine wpAny_bind (m := checkCount "sorted" 1 1 _) (wpAny_pure (wpAny_bind (collect_set (A := A.in1) hh ⟨o, ho, hex.1, hd⟩ T.fit T.few T.ris T.led fun z vs k1 hz g1 o1 pm => ?_)))
  have txs : ∀ v, v ∈ vs → ∃ x u, v = Value.str x u := fun v hv => by
    obtain ⟨e, he, q⟩ := List.mem_map.mp (pm.mem_iff.mp hv)
    obtain ⟨u, e2⟩ := T.all e he
    exact ⟨tx e, u, by rw [← q]; exact congrArg (·.2) e2⟩
  have S0 : StrsAre vs (vs.map PyProof.Rows.strOf) := strsAre_map vs txs
  have perm : (vs.map PyProof.Rows.strOf).Perm ks := by
    refine (pm.map PyProof.Rows.strOf).trans ?_
    rw [List.map_map]
    refine List.Perm.trans (List.Perm.of_eq (List.map_congr_left fun e he => ?_)) T.mem
    obtain ⟨u, e2⟩ := T.all e he
    show PyProof.Rows.strOf e.2 = tx e
    rw [e2]
    rfl
  have few : vs.length ≤ sizeLine := by
    rw [pm.length_eq, List.length_map, Array.length_toList]
    exact fits_of_scanBound T.few
  refine wpAny_bind (wpAny_newList ?_ few)
  have oL : (z.heap.push (seqObj "list" vs.toArray 0)).get? z.heap.objs.size = some (seqObj "list" vs.toArray 0) := Heap.get?_push_size _ rfl
  refine wpAny_bind (wpAny_holding (wpAny_call_entry slot_list_sort ⟨_, oL, rfl⟩ entry_list_sort (list_sort_treeKAny strKind_oneLt oL S0.keysOf (fun v₁ v₂ rest e => keyKind_strs (by rw [← e]; exact S0)) few fun st a1 a2 => ⟨_, rfl, ?_⟩) (args_list_sort _)))
  obtain ⟨ys, b1, b2, b3⟩ := sorted_out_str S0 a1 a2
  obtain ⟨c, hc⟩ := sortedHeap_at (vs := vs) (out := (arrOf st).map (·.2)) oL
  refine wpAny_pure ⟨_, rfl, fin _ z.heap.objs.size _ c ys (fun b u e => ?_) g1 o1 hz hc b1 (b2.trans perm) b3⟩
  have e1 := k1 b u e
  have lt := Heap.lt_size e1
  show (sortedHeap (z.heap.push (seqObj "list" vs.toArray 0)) z.heap.objs.size vs _).get? b = some u
  rw [sortedHeap_old (Nat.ne_of_lt lt) (by rw [size_push']; exact Nat.lt_succ_of_lt lt)]
  exact Heap.get?_push_of_some _ e1
end
end AS
namespace L2
open PySem PySem.Spec PyProof.Rows
def SetTx (w : World) (a : Addr) (ks : List Str) : HO := .ext fun h => AS.SetS w h a ks
theorem setTx_ok {P : Program} {w : World} {H : Hp} {h : Heap} {a : Addr} {ks : List Str} (R : AS.SetS w h a ks) : ObjOk P w H h a (SetTx w a ks) := by
  refine ⟨R, ?_, fun h1 h2 z k => ?_⟩
  · obtain ⟨o, es, ep, t, ho, z⟩ := R
    exact ⟨o, ho⟩
  · exact AS.SetS.keep z k
section
variable {X : Cx}
def rSortTx (w : World) : List V → Hp → VK → Prop := fun vs H Q => ∃ (a : Addr) (ks : List Str), vs = [V.ref a] ∧ H a = some (SetTx w a ks) ∧
  ∀ (ys : List Str) (p : Addr), ys.Perm ks → sortedS ys = true → H p = none → Q (.ref p) (upd H p (.lst (ys.map V.str)))
theorem cr_sortTx (hc : X.calm = true) : CallR X (.builtin "sorted") (rSortTx X.w) := by
  intro pins s σ H vs us Q I r h
  obtain ⟨a, ks, rfl, ha, q⟩ := h
  have R : AS.SetS X.w s.heap a ks := (I.hok a _ ha).1
  rw [Vals.ref1 r]
  refine AS.call_sorted R (I.ok.hd hc) fun z p out c ys k g o hp hg st pm so => ?_
  have len : (ys.map V.str).length ≤ sizeLine := by
    obtain ⟨o, es, ep, t, ho, hex, hd, T⟩ := R
    rw [List.length_map, pm.length_eq, ← T.size]
    exact fits_of_scanBound T.few
  have hn : H p = none := I.hok.fresh hp
  have J : Inv X pins σ (upd H p (.lst (ys.map V.str))) { s with heap := z.heap, gens := z.gens, drawn := z.drawn, toks := z.toks } :=
    I.call (ch := []) (Un.laid k hp hn) (I.hok.laid k hp ⟨len, out.toList, c, vals_of_strs st, hg⟩) (by rw [g]; exact I.bare) (fun _ z => nomatch z)
  have e : z = { s with heap := z.heap, gens := z.gens, drawn := z.drawn, toks := z.toks } := by
    obtain ⟨z1, z2, z3, z4, z5⟩ := z
    dsimp only at o ⊢
    rw [o]
  rw [e]
  exact ⟨.ref p, _, J, rfl, q ys p pm so hn⟩
end
end L2

namespace AS
open PySem PySem.Spec PyProof.Rows L2
section
variable {P : Program} {w : World} {A : Around} {E : Value → Shared → Prop} {s : Shared} {a : Addr} {ks : List Str}
theorem SetS.gen (R : SetS w s.heap a ks) : s.heap.SetOf (PySem.strKind P w) a (fun k => decide (k ∈ ks)) ks.length := by
  obtain ⟨o, es, ep, t, ho, hex, hd, T⟩ := R
  refine ⟨o, es, ep, t, ho, hex, hd, T.els, fun k => ?_, T.few, T.fit, T.size⟩
  rw [decide_eq_true_eq, ← T.mem.mem_iff, List.mem_map]
  constructor
  · rintro ⟨e, he, q⟩
    exact ⟨e, he, by rw [is_tx (T.all e he), decide_eq_true_eq]; exact q⟩
  · rintro ⟨e, he, q⟩
    exact ⟨e, he, by rw [is_tx (T.all e he), decide_eq_true_eq] at q; exact q⟩
theorem one_more {k : Str} {u : Tok} {Q : Value → Shared → Prop} (R : SetS w s.heap a ks) (room : ks.length + 1 < scanBound)
    (fin : ∀ h2 tk, Heap.SameBut a s.heap h2 → SetS w h2 a (if k ∈ ks then ks else k :: ks) → Q .none { s with heap := h2, toks := tk }) : wpAny (model P w) A (call (.builtin "set.add") [.ref a, .str k u]) Q E s := by
  refine wpAny_call_entry F.slot_set_add (R.gen (P := P)).typeIs F.entry_set_add ?_ (F.args_set_add_2 _ _)
  unfold Builtin.«set.add» Builtin.Frozenset.oneOther Builtin.Frozenset.addrOf setAdd
  simp only [List.isEmpty_nil, bind_assoc]
  refine wpAny_bind (wpAny_pure ?_)
  refine wpAny_bind (wpAny_pure (wpAny_bind (wpAny_holding (wpAny_bind ((PySem.strKind P w).pyHash (k := k) (strKind_is _ _ _ _) (put (s := { s with toks := s.toks + 1 }) R room fun b h2 sb r => ?_))))))
  exact wpAny_pure ⟨_, rfl, fin h2 _ sb r⟩
end
end AS
namespace L2
open PySem PySem.Spec PyProof.Rows
section
variable {X : Cx} {o e : Expr} {es : List Expr} {to : TE} {t : TA} {apos cpos : Pos}
theorem cr_set0Tx : CallR X (.type "set") (fun xs H Q => xs = [] ∧ ∀ p, H p = none → Q (.ref p) (upd H p (SetTx X.w p []))) := by
  intro pins s σ H xs us Q I r h
  obtain ⟨rfl, q⟩ := h
  cases r
  refine setR_new fun _ => ?_
  exact ⟨.ref _, upd H s.heap.objs.size (SetTx X.w s.heap.objs.size []), I.laid (t' := s.toks) (fun b u e => Heap.get?_push_of_some _ e) (Nat.le_refl _) (setTx_ok (AS.bare_at (Heap.get?_push_size _ rfl))), rfl, q _ (I.hok.fresh (Nat.le_refl _))⟩
def tSAddTx (w : World) (to : TE) (t : TA) : TE := fun σ H Q => to σ H fun x H1 => (∃ a ks, x = V.ref a ∧ H1 a = some (SetTx w a ks)) ∧ t σ H1 fun xs H2 => ∃ (a : Addr) (k : Str) (ks : List Str), x = V.ref a ∧ xs = [.str k] ∧ H2 a = some (SetTx w a ks) ∧ ks.length + 1 < scanBound ∧
  Q .non (upd H2 a (SetTx w a (if k ∈ ks then ks else k :: ks)))
theorem pe_saddTx (ho : PE X o to) (ha : PA X (e :: es) t) (hbase : attributeBase o "add" X.env (eval o X.env) = eval o X.env := by rfl)
    (hfew : ((backTo cpos (starEach (e :: es) X.env)).all (fun x => !x.1) && (backToKw cpos (keywordEach [] X.env)).all (fun x => x.1.isSome)
      && decide ((e :: es).length + ([] : List Keyword).length + (if ([] : List Keyword).isEmpty then 0 else 1) < 30)) = true := by rfl)
    (hline : (apos.endLine == cpos.line) = true := by rfl) (hs : starEach (e :: es) X.env = (false, eval e X.env) :: starEach es X.env := by rfl) (hplain : (backTo cpos (starEach es X.env)).any (·.1) = false := by rfl) :
    PE X (.Call (.Attribute o "add" apos) (e :: es) [] cpos) (tSAddTx X.w to t) := ⟨fun pins s σ H Q I h => by
  refine wpAny_Call_method_late hbase hfew hline rfl (thn (ho.run pins s σ H _ I h) fun v s1 got => ?_)
  obtain ⟨x, H1, I1, r1, ⟨a, ks, rfl, hka⟩, q1⟩ := got
  cases (show v = Value.ref a from r1)
  have R1 : AS.SetS X.w s1.heap a ks := (I1.hok a _ hka).1
  have so := R1.gen (P := X.prog)
  refine ⟨"set", "set.add", F.plainAttrs_set, F.slot_set_add, F.type_set_add, so.typeIs, so.noDict, ?_⟩
  have args := ha.run cpos pins s1 σ H1 _ I1 q1
  rw [hs] at args ⊢
  refine Calls.callWith_builtin ((Bool.false_or _).trans hplain) (Calls.evalArgs_plain (thn args fun us s2 got => ?_))
  obtain ⟨vs, H2, I2, r2, a', k, ks2, ea, rfl, at2, room, q2⟩ := got
  cases ea
  obtain ⟨u, rfl, t, rfl⟩ := vals1 r2
  have R2 : AS.SetS X.w s2.heap a ks2 := (I2.hok a _ at2).1
  refine AS.one_more R2 room fun h2 tk sb new => ?_
  have there : ∃ u, h2.get? a = some u := by
    obtain ⟨o, _, _, _, ho, _⟩ := new
    exact ⟨o, ho⟩
  exact ⟨.non, _, I2.write (e := a) (t' := tk) (by rw [at2]; trivial) (.inl rfl) (fun b u hb hu => (sb.2 b hb).trans hu) there (setTx_ok new), rfl, q2⟩⟩
end
end L2

namespace L2
open PySem PySem.Spec PyProof.Rows
set_option maxHeartbeats 1000000 in
theorem ext_tup (l : Addr) (its : Array Value) (n : Nat) (b : Addr) (more : Array Value) (m : Nat) (dc : Option Addr) (sl : Array (Option Value)) (c0 : ¬(!its.isEmpty && Builtin.List.listTooLong (its.size + more.size)) = true) (c1 : its.size ≤ sizeLine) (c2 : its.size + more.size ≤ sizeLine + 1) :
    Meets (Builtin.«list.extend» ⟨[.ref l, .ref b], []⟩) (fun _ R sh => sh.heap.get? l = some { cls := .type "list", dict := none, data := .seq its n, slots := #[] } ∧ sh.heap.get? b = some { cls := .type "tuple", dict := dc, data := .seq more m, slots := sl } ∧
      R (.ok (.ret Value.none)) { sh with heap := sh.heap.update l (Obj.mapSeq fun x => x ++ more), toks := sh.toks }) :=
  .of_wp fun prog w A R sh got => by
    obtain ⟨hp, gg, dd, tt, oo⟩ := sh
    obtain ⟨at1, at2, got⟩ := got
    have g1 := AutoSeq1.idx_int; have g2 := AutoSeq1.sub_tuple_tuple; have g3 := AutoSeq1.sub_list_list; have g4 := AutoSeq1.sub_tuple_list; have g5 := AutoSeq1.sub_list_tuple
    have c3 : (its ++ more).size ≤ sizeLine + 1 := by rw [Array.size_append]; exact c2
    wp_walk using (wpAny_updateSeq at1 rfl (hz := c1) (_hz' := c3)), AutoSeq1.wpAny_loadPart' at1, AutoSeq1.wpAny_loadPart' at2
    exact ⟨_, rfl, got⟩
section
variable {X : Cx}
def rExtT (K : PySem.W.Frag) : V → List V → Hp → VK → Prop := fun x vs H Q => ∃ l b xs zs, x = .ref l ∧ vs = [.ref b] ∧ H l = some (.lst xs) ∧ SqT K H b zs ∧ xs.length + zs.length ≤ sizeLine ∧ Q .non (upd H l (.lst (xs ++ zs)))
theorem mt_extT : MtM X "list.extend" (rExtT X.K) := by
  intro pins s σ H x vs v us Q I rx rv h
  obtain ⟨l, b, xs, zs, rfl, rfl, at1, at2, small, q⟩ := h
  cases rx
  obtain ⟨u, rfl, ru⟩ := rv.one
  cases ru
  obtain ⟨z, its, n, r, hl, e⟩ := I.lstM at1
  obtain ⟨more, r2, ⟨⟨cc, dc, dt, sl⟩, e2, c2, m, d2⟩, _⟩ := I.tuple at2
  cases (show cc = .type "tuple" from c2)
  cases (show dt = .seq more.toArray m from d2)
  have nl := r2.length
  have sum : its.toArray.size + more.toArray.size ≤ sizeLine := by rw [List.size_toArray, List.size_toArray]; omega
  have long : ¬ (!its.toArray.isEmpty && Builtin.List.listTooLong (its.toArray.size + more.toArray.size)) = true := by rw [notLongL sum, Bool.and_false]; exact Bool.false_ne_true
  refine call_meets F.slot_list_extend ⟨_, e, rfl⟩ F.entry_list_extend (F.args_list_extend_2 _ _) (ext_tup l its.toArray n b more.toArray m dc sl long (by rw [List.size_toArray]; omega) (by omega)) ⟨e, e2, ?_⟩
  exact ⟨.non, _, I.lset (its' := its ++ more) at1 e (by simp) (r.append r2) (by rw [List.length_append]; omega), rfl, q⟩
end
end L2

namespace L2
open PySem PySem.Spec PyProof.Rows
section
variable {prog : Program} {w : World} {A : Around} {E : Value → Shared → Prop} {s : Shared} {r d : Addr} {n : Nat} {P : Nat → Value → Prop} {OK : Heap → Prop}
end
section
variable {X : Cx} {e : Expr} {te : TE} {p apos cpos pos : Pos}
end
end L2

set_option maxHeartbeats 2000000
namespace L2
open PySem PySem.Spec PyProof.Rows PpSet
abbrev bareSet (w : World) : Obj := { cls := .type "set", dict := none, data := .set #[] 0 (.fresh 0 0 (!w.params.followText "set-order")) }
structure Members (P : Program) (w : World) (Z : Type) where
  ob : Addr → Z → HO
  nil : Z
  pick : V → Z → Option Z
  born : ∀ (H : Hp) (h : Heap), ObjOk P w H (h.push (bareSet w)) h.objs.size (ob h.objs.size nil)
  more : ∀ (Y : Cx), Y.prog = P → Y.w = w → ∀ (pins : List (Addr × Obj)) (sh : Shared) (τ : St) (H : Hp) (ER : Value → Shared → Prop) (D : Addr) (z z' : Z) (y : V) (v : Value) (R : Value → Shared → Prop), Inv Y pins τ H sh → H D = some (ob D z) → pick y z = some z' → RelV y v →
    (∀ sh', Inv Y pins τ (upd H D (ob D z')) sh' → R .none sh') → wpAny (model Y.prog Y.w) Y.A (call (.builtin "set.add") [.ref D, v]) R ER sh
section
variable {X : Cx} {Z : Type}
variable {elt tg iter : Expr} {ifs : List Expr} {scope : Scope} {own : List (PySem.Str × Nat)} {pos : Pos} {wi : TI} {g : TG} {tt : TT} {te : TE}
end
end L2

set_option maxHeartbeats 2000000
namespace L2
open PySem PySem.Spec PyProof.Rows PpSet
section
variable {prog : Program} {w : World} {A : Around} {R : Result → Shared → Prop} {s : Shared} {elt a0 e0 a1 e1 : Expr} {c0 c1 : List Expr} {scope : Scope} {pos : Pos} {it acc : Value} {env : Env}
end
section
variable {X : Cx} {Z : Type}
variable {elt tg iter tj' jter : Expr} {ifs jfs : List Expr} {scope : Scope} {own : List (PySem.Str × Nat)} {vj : List Nat} {pos : Pos} {wi wj : TI} {g gj : TG} {tt tj : TT} {te : TE}
end
end L2

set_option maxHeartbeats 2000000
namespace L2
open PySem PySem.Spec PyProof.Rows
section
variable {X : Cx}
end
end L2

set_option maxHeartbeats 2000000
namespace L2
open PySem PySem.Spec PyProof.Rows
section
variable (elt a0 e0 a1 e1 a2 e2 : Expr) (scope : Scope) (pos : Pos) (it acc : Value) (env : Env)
end
section
variable {prog : Program} {w : World} {A : Around} {R : Result → Shared → Prop} {s : Shared} {elt a0 e0 a1 e1 a2 e2 a en : Expr} {scope : Scope} {pos : Pos} {k k' : Nat} {p0 : Pos} {it acc : Value} {env : Env}
end
section
variable {prog : Program} {w : World} {A : Around} {R : Result → Shared → Prop} {s : Shared} {elt a0 e0 a1 e1 a2 e2 : Expr} {scope : Scope} {pos : Pos} {it acc : Value} {env : Env}
end
section
variable {Y : Cx} {elt a0 e0 a1 e1 a2 e2 : Expr} {scope : Scope} {pos : Pos} {D : Addr}
end
section
variable {X : Cx} {elt a0 e0 a1 e1 a2 e2 : Expr} {scope : Scope} {own : List (PySem.Str × Nat)} {vj vk : List Nat} {pos : Pos} {wi wj wk : TI} {g gj gk : TG} {te : TE}
end
end L2

namespace AS
open PySem PySem.Spec PyProof.Rows L2
section
variable {P : Program} {w : World} {A : Around} {E : Value → Shared → Prop} {s : Shared}
end
end AS
namespace L2
open PySem PySem.Spec PyProof.Rows
end L2

set_option maxHeartbeats 2000000
namespace HT
open PySem PySem.Spec PyProof.Rows
theorem fm_congr {α β : Type} {f g : α → Option β} : ∀ {l : List α}, (∀ a ∈ l, f a = g a) → l.filterMap f = l.filterMap g
  | [], _ => rfl
  | a :: l, h => by
    rw [List.filterMap_cons, List.filterMap_cons, h a List.mem_cons_self, fm_congr fun b hb => h b (List.mem_cons_of_mem _ hb)]
section
variable {prog : Program} {w : World} {A : Around} {E : Value → Shared → Prop} {s : Shared}
theorem adjust_tail (n : Nat) : Builtin.Slice.sliceAdjust none (some 0) (-1) (n : Int) = ((n : Int) - 1, min 0 ((n : Int) - 1)) := by
  unfold Builtin.Slice.sliceAdjust
  have h1 : ((-1 : Int) < 0) := by decide
  have h2 : ¬ ((0 : Int) < 0) := by decide
  simp only [h1, h2, if_true, if_false]
theorem places_tail (n : Nat) : Builtin.Slice.slicePlaces ((n : Int) - 1) (min 0 ((n : Int) - 1)) (-1) = n - 1 := by
  unfold Builtin.Slice.slicePlaces
  have h1 : ¬ ((-1 : Int) > 0) := by decide
  have h2 : (- -1 : Int) = 1 := by decide
  simp only [h1, h2, if_false, Int.ediv_one]
  split <;> omega
theorem sliceApplied_tail {sl : Addr} {vl vu vs : Value} {n : Nat} {Q : Int × Int × Nat → Shared → Prop} (hs : s.heap.IsSliceOf sl vl vu vs) (pl : IsPart vl none) (pu : IsPart vu (some 0)) (ps : IsPart vs (some (-1)))
    (h : Q ((n : Int) - 1, -1, n - 1) s) : wpAny (model prog w) A (Builtin.Slice.sliceApplied (.ref sl) (pure (n : Int))) Q E s := by
  obtain ⟨os, hos, hcs, hds⟩ := id hs
  unfold Builtin.Slice.sliceApplied Builtin.Slice.sliceFields
  refine wpAny_bind (wpAny_bind (wpAny_field hos hds (x := vl) rfl (wpAny_bind (wpAny_field hos hds (x := vu) rfl (wpAny_bind (wpAny_field hos hds (x := vs) rfl (wpAny_pure ?_)))))))
  refine wpAny_bind (slicePart_ ps ?_)
  show wpAny _ _ (if ((-1 : Int) == 0) = true then _ else _) _ _ s
  rw [if_neg (by decide)]
  refine wpAny_bind (slicePart_ pl (wpAny_bind (slicePart_ pu (wpAny_bind (wpAny_pure ?_)))))
  show wpAny _ _ (match Builtin.Slice.sliceAdjust none (some 0) (-1) (n : Int) with | (lo, hi) => pure (lo, (-1 : Int), Builtin.Slice.slicePlaces lo hi (-1))) _ _ s
  rw [adjust_tail n]
  show wpAny _ _ (pure ((n : Int) - 1, (-1 : Int), Builtin.Slice.slicePlaces ((n : Int) - 1) (min 0 ((n : Int) - 1)) (-1))) _ _ s
  rw [places_tail]
  exact wpAny_pure h
theorem pick_tail (xs : List Value) : ((List.range (xs.length - 1)).filterMap fun (m : Nat) => xs.toArray[(((xs.length : Nat) : Int) - 1 + (m : Int) * (-1)).toNat]?) = (xs.drop 1).reverse := by
  have e : (fun (m : Nat) => xs.toArray[(((xs.length : Nat) : Int) - 1 + (m : Int) * (-1)).toNat]?) = fun m => xs[xs.length - 1 - m]? := by
    funext m
    have : (((xs.length : Nat) : Int) - 1 + (m : Int) * (-1)).toNat = xs.length - 1 - m := by omega
    rw [this, List.getElem?_toArray]
  rw [e]
  have g : ∀ ys : List Value, ((List.range ys.length).filterMap fun m => ys[m]?) = ys := by
    intro ys
    have h := pick_run ys.toArray 0 ys.length
    rw [List.filterMap_map, List.drop_zero, List.take_of_length_le (Nat.le_refl _)] at h
    refine Eq.trans (fm_congr fun m _ => ?_) h
    show ys[m]? = ys.toArray[0 + m]?
    rw [Nat.zero_add, List.getElem?_toArray]
  have z := g (xs.drop 1).reverse
  rw [List.length_reverse, List.length_drop] at z
  refine Eq.trans (fm_congr fun m hm => ?_) z
  have hm := List.mem_range.mp hm
  rw [List.getElem?_reverse (by rw [List.length_drop]; exact hm), List.length_drop, List.getElem?_drop]
  congr 1
  omega
theorem getItem_tuple_tail {t sl : Addr} {items : List Value} {vl vu vs : Value} {Q : Value → Shared → Prop} (ht : IsTup s.heap t items.toArray) (hs : s.heap.IsSliceOf sl vl vu vs) (pl : IsPart vl none) (pu : IsPart vu (some 0)) (ps : IsPart vs (some (-1)))
    (h : Q (.ref s.heap.objs.size) { s with heap := s.heap.push { cls := .type "tuple", data := .seq (items.drop 1).reverse.toArray } })
    (hsz : items.length ≤ sizeLine) : wpAny (model prog w) A (getItem (.ref t) (.ref sl)) Q E s := by
  have htake : sizeOk (.seq (items.drop 1).reverse.toArray) := by
    show (items.drop 1).reverse.toArray.size ≤ sizeLine
    rw [List.size_toArray, List.length_reverse, List.length_drop]
    omega
  obtain ⟨os, hos, hcs, hds⟩ := id hs
  have hTs : s.TypeIs (.ref sl) "slice" := ⟨os, hos, hcs⟩
  unfold getItem
  try with_reducible refine wpAny_holding ?_
  first | refine wpAny_bind (wpAny_pure ?_) | skip
  refine wpAny_bind (wpAny_sequenceKey ht.typeIs (by decide) ?_)
  refine wpAny_bind (wpAny_callSpecial?_slot (name := Str.ofString "__getitem__") ht.typeIs PyProof.Rows.slot_tuple_getitem
    (wpAny_call_entry PyProof.Rows.slot_tuple_getitem ht.typeIs entry_tuple_getitem ?_ (args_tuple_getitem _ _)))
  show wpAny _ _ (Builtin.Tuple.tupleItemsOf (.ref t) >>= _) _ _ s
  refine wpAny_bind (tupleItemsOf_ ht ?_)
  refine wpAny_bind (wpAny_typeOf hTs ?_)
  rw [if_pos (by decide)]
  refine wpAny_bind ?_
  have e1 : ((items.toArray.size : Nat) : Int) = ((items.length : Nat) : Int) := by rw [List.size_toArray]
  rw [e1]
  refine sliceApplied_tail hs pl pu ps ?_
  have hno : ¬ (((((items.length : Nat) : Int) - 1) == 0 && (-1 : Int) == 1 && (items.length - 1) == items.toArray.size) = true) := by
    intro q
    rw [Bool.and_eq_true, Bool.and_eq_true] at q
    exact absurd q.1.2 (by decide)
  show wpAny _ _ (if ((((items.length : Nat) : Int) - 1) == 0 && (-1 : Int) == 1 && (items.length - 1) == items.toArray.size) = true then _ else _) _ _ s
  rw [if_neg hno, pick_tail]
  first
    | exact wpAny_bind (m := Builtin.Tuple.tupleExact _) (wpAny_newObj_type (wpAny_pure ⟨_, rfl, wpAny_pure h⟩) htake)
    | exact wpAny_bind (m := Builtin.Tuple.tupleExact _) (wpAny_newObj_type (wpAny_bind (wpAny_pure (wpAny_pure ⟨_, rfl, wpAny_pure h⟩))) htake)
    | exact wpAny_bind (wpAny_bind (m := Builtin.Tuple.tupleExact _) (wpAny_newObj_type (wpAny_pure (wpAny_pure ⟨_, rfl, wpAny_pure h⟩)) htake))
    | exact wpAny_bind (wpAny_bind (m := Builtin.Tuple.tupleExact _) (wpAny_newObj_type (wpAny_pure ⟨_, rfl, wpAny_pure h⟩) htake))
end
end HT
namespace L2
open PySem PySem.Spec PyProof.Rows
def tTailR (K : PySem.W.Frag) (te : TE) : TE := fun σ H Q => te σ H fun x H1 => ∃ a xs, x = .ref a ∧ SqT K H1 a xs ∧ ∀ p, H1 p = none → Q (.ref p) (upd H1 p (.tup (xs.drop 1).reverse))
theorem pe_tailR {X : Cx} {e : Expr} {te : TE} {k j : Nat} {p0 p1 p2 p3 pos : Pos} (he : PE X e te) : PE X (.Subscript e (.Slice none (some (.Constant (.int 0) j p0)) (some (.UnaryOp .USub (.Constant (.int 1) k p1) p2)) p3) pos) (tTailR X.K te) := by
  refine ⟨fun pins s σ H Q I h => ?_⟩
  refine Subscript_ (thn (he.run pins s σ H _ I h) fun v s1 ⟨x, H1, I1, r1, q1⟩ => ?_)
  obtain ⟨a, xs, ex, hx, q⟩ := q1
  subst ex
  cases r1
  have hst : PO X (some (.UnaryOp .USub (.Constant (.int 1) k p1) p2)) (tPart (tUn (rU fun i => .int (-i)) (tC (.int 1)))) := po_some (pe_un un_neg pe_int)
  have hsu : PO X (some (.Constant (.int 0) j p0)) (tPart (tC (.int 0))) := po_some pe_int
  refine wpAny_Slice (thn (po_none.run pins s1 σ H1 (fun o H2 => o = none ∧ H2 = H1) I1 ⟨rfl, rfl⟩) fun vl s2 ⟨l, H2, I2, pl, el, e2⟩ => ?_)
  subst el e2
  refine thn (hsu.run pins s2 σ H2 (fun o H3 => o = some 0 ∧ H3 = H2) I2 ⟨0, rfl, rfl, rfl⟩) fun vu s3 ⟨u, H3, I3, pu, eu, e3⟩ => ?_
  subst eu e3
  refine thn (hst.run pins s3 σ H3 (fun o H4 => o = some (-1) ∧ H4 = H3) I3 ⟨1, rfl, -1, rfl, rfl, rfl⟩) fun vs s4 ⟨o, H4, I4, ps, eo, e4⟩ => ?_
  subst eo e4
  have I5 : Inv X pins σ H4 { s4 with heap := s4.heap.push { cls := .type "slice", data := .fields #[vl, vu, vs] } } := I4.kept (t' := s4.toks) fun b ob q => Heap.get?_push_of_some _ q
  obtain ⟨its, r, ht, hz⟩ := I5.tuple hx
  have hlen := r.length
  show wpAny (model X.prog X.w) X.A (subscriptTail e (.Slice none (some (.Constant (.int 0) j p0)) (some (.UnaryOp .USub (.Constant (.int 1) k p1) p2)) p3) (.ref a) (.ref s4.heap.objs.size)) (EP X pins σ Q) X.xe { s4 with heap := s4.heap.push { cls := .type "slice", data := .fields #[vl, vu, vs] } }
  refine tail_any (ops := [.ref a, .ref s4.heap.objs.size]) ht.typeIs (PyProof.Rows.slot_tuple_getitem.lookup) ?_ (by with_unfolding_all rfl)
  refine HT.getItem_tuple_tail ht (Heap.IsSliceOf.new _ vl vu vs) pl pu ps ?_ (by omega)
  refine ⟨.ref _, _, I5.laid (t' := s4.toks) (o := .tup (xs.drop 1).reverse) (fun b ob q => Heap.get?_push_of_some _ q) (Nat.le_refl _) ?_, rfl, q _ (I5.hok.fresh (Nat.le_refl _))⟩
  exact ⟨by rw [List.length_reverse, List.length_drop]; omega, _, (r.drop 1).reverse, IsTup.new _ _⟩
end L2

set_option maxHeartbeats 2000000
namespace SR
open PySem PySem.Spec PyProof.Rows PySem.W
section
open PySem.SeqAt
open PySem.AutoSeq1 (wpAny_loadPart')
open PySem.MeetsSeq PySem.MeetsSeq2 PySem.MeetsSeq3
end
section
variable {prog : Program} {w : World} {A : Around} {E : Value → Shared → Prop} {s : Shared}
def IsRow (h : Heap) (v : Value) (ys : List Str) : Prop := ∃ (a : Addr) (items : Array Value), v = .ref a ∧ IsTup h a items ∧ StrsAre items.toList ys
def txOf : Value → Str
  | .str x _ => x
  | _ => ⟨#[]⟩
def rowAt (h : Heap) (v : Value) : List Str := match v with
  | .ref a => (match h.get? a with
    | some o => (match o.data with
      | .seq xs _ => xs.toList.map txOf
      | _ => [])
    | none => [])
  | _ => []
theorem strs_tx {vs : List Value} {ys : List Str} (h : StrsAre vs ys) : vs.map txOf = ys := by
  induction h with
  | nil => rfl
  | cons y t _ ih => rw [List.map_cons, ih]; rfl
theorem IsRow.at {h : Heap} {v : Value} {ys : List Str} (x : IsRow h v ys) : rowAt h v = ys := by
  obtain ⟨a, items, rfl, ⟨o, ho, hc, n, hd⟩, hs⟩ := x
  unfold rowAt
  simp only [ho, hd]
  exact strs_tx hs
end
end SR

set_option maxHeartbeats 2000000
namespace SRI
open PySem PySem.Spec PyProof.Rows PySem.W
section
variable {prog : Program} {w : World} {A : Around} {E : Value → Shared → Prop} {s : Shared}
def IsRow (h : Heap) (v : Value) (ys : List Int) : Prop := ∃ (a : Addr) (items : Array Value), v = .ref a ∧ IsTup h a items ∧ IntsAre items.toList ys
def ntOf : Value → Int
  | .int x _ => x
  | _ => 0
def rowAt (h : Heap) (v : Value) : List Int := match v with
  | .ref a => (match h.get? a with
    | some o => (match o.data with
      | .seq xs _ => xs.toList.map ntOf
      | _ => [])
    | none => [])
  | _ => []
theorem ints_nt {vs : List Value} {ys : List Int} (h : IntsAre vs ys) : vs.map ntOf = ys := by
  induction h with
  | nil => rfl
  | cons y t _ ih => rw [List.map_cons, ih]; rfl
theorem IsRow.at {h : Heap} {v : Value} {ys : List Int} (x : IsRow h v ys) : rowAt h v = ys := by
  obtain ⟨a, items, rfl, ⟨o, ho, hc, n, hd⟩, hs⟩ := x
  unfold rowAt
  simp only [ho, hd]
  exact ints_nt hs
end
end SRI

set_option maxHeartbeats 2000000
namespace HT
open PySem PySem.Spec PyProof.Rows
section
variable {prog : Program} {w : World} {A : Around} {E : Value → Shared → Prop} {s : Shared}
end
end HT
namespace L2
open PySem PySem.Spec PyProof.Rows
end L2
namespace L2
open PySem PySem.Spec PyProof.Rows
end L2

namespace L2
open PySem PySem.Spec PyProof.Rows
variable {X : Cx}
def gL (K : PySem.W.Frag) : V → V → Hp → VK → Prop := fun o i H Q => ∃ p xs n v, o = .ref p ∧ i = .int n ∧ SqL K H p xs ∧ atI xs n = some v ∧ Q v H
theorem get_listP : PGet X (gL X.K) := by
  intro pins s σ H x y v u Q I rx ry h
  obtain ⟨p, xs, i, z, rfl, rfl, hq, he, q⟩ := h
  cases rx
  obtain ⟨t, rfl⟩ := ry
  obtain ⟨its, r, pl, hz⟩ := I.list hq
  obtain ⟨j, h1, h2, h3, h4, h5⟩ := atI_get he
  obtain ⟨w, ew, rw'⟩ := r.get h2
  have hl := r.length
  have hn := line63
  have fin : EP X pins σ Q w s := ⟨z, H, I, rw', q⟩
  by_cases h0 : 0 ≤ i
  · have hj : i.toNat = j := by
      rw [seqIndex_of h0 h5] at h1
      exact Option.some.inj h1
    exact wpAny_getItem_list pl.isList h0 (by omega) (by rw [hj]; simpa using ew) fin
  · have hj : (i + (its.toArray.size : Int)).toNat = j := by
      rw [seqIndex_neg (by omega) h4] at h1
      rw [List.size_toArray, ← hl]
      exact Option.some.inj h1
    exact wpAny_getItem_list_neg pl.isList (by omega) (by rw [List.size_toArray] <;> omega) (by omega) (by rw [hj]; simpa using ew) fin
end L2

namespace EN
open PySem PySem.Spec PyProof.Rows L2
theorem src_tup {prog : Program} {w : World} {A : Around} (nh : A.handled = none) (it t : Addr) (ne : t ≠ it) (vs : Array Value) :
    Draws prog w A it [it, t] vs.size (fun k v => vs[k]? = some v) (fun k hp => hp.IsTupleIter it t k ∧ hp.IsTuple t vs) := by
  refine ⟨fun _ _ u => ?_, fun _ _ _ u stay => ?_, fun k sh R ER lt u go => ?_, fun sh R ER u go => ?_⟩
  · obtain ⟨⟨ob, e, _⟩, _⟩ := u; exact ⟨ob, e⟩
  · exact ⟨u.1.at (stay it List.mem_cons_self), u.2.at (stay t (by simp))⟩
  · have here : vs[k]? = some vs[k] := Array.getElem?_eq_getElem lt
    exact RZ.nextOf_tuple_item u.1 u.2 here fun hp' n1 n2 => go vs[k] hp' sh.toks here ⟨n1, u.2.extBut n2.extBut ne⟩ n2
  · exact RZ.nextOf_tuple_end nh u.1 u.2 (Array.getElem?_eq_none (Nat.le_refl _)) go
set_option maxHeartbeats 1000000 in
theorem new_enumT (t : Addr) (vs : Array Value) : Meets (Builtin.«enumerate.__new__» ⟨[.type "enumerate", .ref t], []⟩) (fun _ R sh => sh.heap.IsTuple t vs ∧
    R (.ok (.ret (.ref (sh.heap.push { cls := .type "tuple_iterator", data := .fields #[.ref t, .int 0 0] }).objs.size))) { sh with heap := (sh.heap.push { cls := .type "tuple_iterator", data := .fields #[.ref t, .int 0 0] }).push { cls := .type "enumerate", data := .fields #[.none, .bool false, .ref sh.heap.objs.size, rawInt 0, .none, .none] } }) :=
  .of_wp fun prog w A R sh u => by
    obtain ⟨hp, gg, dd, tt, oo⟩ := sh
    obtain ⟨isT, u⟩ := u
    have isT' : Heap.IsTuple (Shared.heap ⟨hp, gg, dd, tt, oo⟩) t vs := isT
    obtain ⟨ob, e1, e2, n, e3⟩ := id isT
    have sub := sub_enumerate
    wp_walk using AutoSeq1.wpAny_loadPart' e1
    refine wpAny_stack_any fun st => wpAny_pure ?_
    split
    · rename_i c _ _ _ _ _
      cases c == Value.type "enumerate"
      all_goals (wp_walk using AutoSeq1.wpAny_loadPart' e1, wpAny_pyIter_tuple isT')
      all_goals exact ⟨_, rfl, u⟩
    · wp_walk using AutoSeq1.wpAny_loadPart' e1, wpAny_pyIter_tuple isT'
      exact ⟨_, rfl, u⟩
theorem make_enumT {prog : Program} {w : World} {A : Around} {ER : Value → Shared → Prop} {sh : Shared} {t : Addr} {vs : Array Value} {R : Value → Shared → Prop} (isT : sh.heap.IsTuple t vs)
    (go : ∀ hp', IsEnum hp' (sh.heap.objs.size + 1) sh.heap.objs.size 0 .none → hp'.IsTupleIter sh.heap.objs.size t 0 → (∀ c ob, sh.heap.get? c = some ob → hp'.get? c = some ob) → R (.ref (sh.heap.objs.size + 1)) { sh with heap := hp' }) :
    wpAny (model prog w) A (call (.type "enumerate") [.ref t]) R ER sh := by
  refine callType_new F.called_enumerate (by decide) (F.typeCall_enumerate_1 _) (F.newCall_enumerate_1 _) (fun ob => F.args_object_init_2 ob _) F.entry_enumerate_new (new_enumT t vs) ⟨isT, ?_⟩
  have z : (sh.heap.push { cls := .type "tuple_iterator", data := .fields #[.ref t, .int 0 0] }).objs.size = sh.heap.objs.size + 1 := Heap.size_push ..
  have z2 := Heap.get?_push_size (sh.heap.push { cls := .type "tuple_iterator", data := .fields #[.ref t, .int 0 0] }) (o := { cls := .type "enumerate", data := .fields #[.none, .bool false, .ref sh.heap.objs.size, rawInt 0, .none, .none] }) rfl
  rw [z] at z2
  show _ ∧ _
  rw [z]
  exact ⟨⟨_, z2, rfl⟩, go _ z2 ⟨_, Heap.get?_push_of_some _ (Heap.get?_push_size _ rfl), rfl, rfl⟩ fun c ob q => Heap.get?_push_of_some _ (Heap.get?_push_of_some _ q)⟩
def ItEn (K : PySem.W.Frag) (a : Addr) : It :=
  ⟨fun k H => ∃ (vs : List V) (v : V), SqT K H a vs ∧ vs[k]? = some v, fun k H u H' => ∃ T v, u = .ref T ∧ H T = none ∧ H' = upd H T (.tup [.int (k : Nat), v]) ∧ ∀ vs, SqT K H a vs → vs[k]? = some v, fun k H => ∃ vs : List V, SqT K H a vs ∧ vs.length ≤ k⟩
theorem apart {hp : Heap} {x y : Addr} {ob : Obj} {n m : String} (e : hp.get? x = some ob) (c : ob.cls = .type n) (u : ∃ ob2, hp.get? y = some ob2 ∧ ob2.cls = .type m) (d : n ≠ m) : x ≠ y := by
  rintro rfl
  obtain ⟨ob2, e2, c2⟩ := u
  rw [e] at e2
  cases e2
  rw [c] at c2
  exact d (Value.type.inj c2)
theorem turn_en {P : Program} {w : World} {K : PySem.W.Frag} {es : List Expr} {kk : Nat} {tp : Pos} (a e it : Addr) :
    Turn P w K (.Tuple es kk tp) (ItEn K a) [e, it] e (fun k hp => (∃ old, IsEnum hp e it ((k : Nat) : Int) old) ∧ hp.IsTupleIter it a k) where
  mem := List.mem_cons_self
  obj := fun k hp u b hb => by
    obtain ⟨⟨old, h1⟩, ob, h2, h3, h4⟩ := u
    rcases List.mem_cons.mp hb with q | q
    · subst q; exact ⟨_, h1, fun v z => nomatch z⟩
    · cases List.mem_singleton.mp q; exact ⟨ob, h2, fun v z => by rw [h4] at z; cases z⟩
  keep := fun k hp hp' u stay => ⟨u.1.imp fun old q => stay e List.mem_cons_self _ q, u.2.at (stay it (by simp))⟩
  self := fun A k sh R ER u go => wpAny_pyIter_enum u.1.choose_spec go
  item := by
    intro X hP hw hK hc k pins sh σ H ER I free u g
    subst hP hw hK
    obtain ⟨⟨old, h1⟩, h2⟩ := u
    obtain ⟨vs, v, q, hv⟩ := g
    obtain ⟨its, rv, isT, _⟩ := I.tuple q
    obtain ⟨o2, e2, c2, d2⟩ := id h2
    obtain ⟨o3, e3, c3, n3, d3⟩ := id isT
    have n1 : e ≠ it := apart h1 rfl ⟨o2, e2, c2⟩ (by decide)
    have n2 : e ≠ a := apart h1 rfl ⟨o3, e3, c3⟩ (by decide)
    have n4 : a ≠ it := apart e3 c3 ⟨o2, e2, c2⟩ (by decide)
    obtain ⟨u, hu, ru⟩ := rv.get hv
    have hk : k < its.toArray.size := by rw [List.size_toArray]; exact (List.getElem?_eq_some_iff.mp hu).1
    have l1 : e < sh.heap.objs.size := Heap.lt_size h1
    have l2 : it < sh.heap.objs.size := Heap.lt_size e2
    refine wpAny_pyNext_enum_itemD (src_tup (A := X.A.in1) (I.ok.hd hc) it a n4 its.toArray) h1 ⟨h2, isT⟩ hk n1 (by simp [n1, n2]) fun u' h' tk hu' out st' hT _ stay => ?_
    have eu : u' = u := by
      have z : its.toArray[k]? = some u := by simpa using hu
      exact Option.some.inj (hu'.symm.trans z)
    subst eu
    refine ⟨_, rfl, wpAny_letOwnedTupleGo_enum (s := { sh with heap := h', toks := tk + 1 }) out fun h'' back sb => ?_⟩
    have hT2 := (sb.2 _ (Nat.ne_of_gt l1)).trans hT
    have new : ObjOk X.prog X.w (upd H sh.heap.objs.size (.tup [.int (k : Nat), v])) h'' sh.heap.objs.size (.tup [.int (k : Nat), v]) := ⟨by show 2 ≤ sizeLine; decide, [.int k tk, u'], .cons ⟨_, rfl⟩ (.cons ru .nil), ⟨_, hT2, rfl, _, rfl⟩⟩
    have J : Inv X pins σ (upd H sh.heap.objs.size (.tup [.int (k : Nat), v])) { sh with heap := h'', toks := tk + 1 } := I.turnedNew (ch := [e, it]) (fun b ob nb z => by
      have w1 : b ≠ e := fun z => nb (z ▸ List.mem_cons_self)
      have w2 : b ≠ it := fun z => nb (by simp [z])
      exact (sb.2 b w1).trans (stay b ob w1 w2 z)) free (Nat.le_refl _) new
    refine ⟨.ref sh.heap.objs.size, _, J, rfl, ⟨_, v, rfl, I.hok.fresh (Nat.le_refl _), rfl, fun ys z => by rw [I.tuple_inj z q]; exact hv⟩, ⟨⟨u', ?_⟩, st'.1.at fun ob z => (sb.2 it n1.symm).trans z⟩, fun b hb => ?_⟩
    · rw [show ((k + 1 : Nat) : Int) = (k : Int) + 1 by omega]; exact back
    · have lb : b < sh.heap.objs.size := by
        rcases List.mem_cons.mp hb with z | z
        · rw [z]; exact l1
        · rw [List.mem_singleton.mp z]; exact l2
      rw [upd_ne (Nat.ne_of_lt lb)]
      exact (free b hb).1
  done := by
    intro X hP hw hK hc k pins sh σ H ER I free u g
    subst hP hw hK
    obtain ⟨⟨old, h1⟩, h2⟩ := u
    obtain ⟨vs, q, hv⟩ := g
    obtain ⟨its, rv, isT, _⟩ := I.tuple q
    obtain ⟨o2, e2, c2, d2⟩ := id h2
    obtain ⟨o3, e3, c3, n3, d3⟩ := id isT
    have n4 : a ≠ it := apart e3 c3 ⟨o2, e2, c2⟩ (by decide)
    have l1 := rv.length
    have hx : its.toArray[k]? = none := by simp; omega
    obtain ⟨f0, f1, f2, f3, f4, f5⟩ := free it (by simp)
    have D : Draws X.prog X.w X.A.in1 it [it, a] 0 (fun _ _ => False) (fun _ hp => hp.IsTupleIter it a k ∧ hp.IsTuple a its.toArray) :=
      ⟨fun _ _ u => ⟨_, u.1.choose_spec.1⟩, fun _ _ _ u stay => ⟨u.1.at (stay it List.mem_cons_self), u.2.at (stay a (by simp))⟩, fun i _ _ _ lt => absurd lt (Nat.not_lt_zero i), fun _ _ _ u go => RZ.nextOf_tuple_end (I.ok.hd hc) u.1 u.2 hx go⟩
    exact wpAny_pyNext_enum_endD D h1 ⟨h2, isT⟩ fun h' eb => ⟨rfl, I.turned (t' := sh.toks) (fun b ob nb z => eb b ob nb z) f0 f1 f3 f4 f5⟩
theorem fresh2 {X : Cx} {pins : List (Addr × Obj)} {σ : L2.St} {H : Hp} {sh : Shared} (I : Inv X pins σ H sh) : ∀ b ∈ [sh.heap.objs.size + 1, sh.heap.objs.size], FpOk X pins H b := fun b hb => by
  have le : sh.heap.objs.size ≤ b := by
    rcases List.mem_cons.mp hb with z | z
    · rw [z]; exact Nat.le_add_right _ _
    · rw [List.mem_singleton.mp z]; exact Nat.le_refl _
  exact I.fpOk le (I.hok.fresh le)
def iEnA (K : PySem.W.Frag) (ta : TA) : TI := fun σ H R => ta σ H fun vs H1 => ∃ a xs, vs = [.ref a] ∧ ((SqL K H1 a xs ∧ R (Ite K a) H1) ∨ (SqT K H1 a xs ∧ R (ItEn K a) H1))
theorem pi_enA {X : Cx} {e : Expr} {ta : TA} {p pos tp : Pos} {es : List Expr} {kk : Nat} (hg : Gl X "enumerate") (hm : X.mg "enumerate" = none) (ha : PA X [e] ta) (hs : starEach [e] X.env = [(false, eval e X.env)] := by rfl) :
    PI X (.Tuple es kk tp) (.Call (.Name "enumerate" p) [e] [] pos) (iEnA X.K ta) := ⟨fun pins sh σ H R I h => by
  refine Call_ (ld_blt I hg hm boot_enumerate (PyProof.Rows.callWith_type1 (thn (ha.run pos pins sh σ H _ I h) fun us s1 got => ?_) hs rfl))
  obtain ⟨vs, H1, I1, r1, a, xs, rfl, q⟩ := got
  have eu : us = [Value.ref a] := by
    cases r1 with
    | cons r rr => cases rr; cases r; rfl
  subst eu
  rcases q with ⟨q, go⟩ | ⟨q, go⟩
  · obtain ⟨its, rv, isL, _⟩ := I1.list q
    refine call_enumerate_list isL.isList fun h' c1 c2 _ stay => wpAny_pyIter_enum c1 ?_
    have J : Inv X pins σ H1 { s1 with heap := h' } := I1.kept (t' := s1.toks) stay
    exact ⟨_, _, _, _, H1, rfl, J, turn_enum a (s1.heap.objs.size + 1) s1.heap.objs.size, ⟨⟨.none, c1⟩, c2, Nat.succ_ne_self _⟩, fresh2 I1, go⟩
  · obtain ⟨its, rv, isT, _⟩ := I1.tuple q
    refine make_enumT (show s1.heap.IsTuple a its.toArray from isT) fun h' c1 c2 stay => wpAny_pyIter_enum c1 ?_
    have J : Inv X pins σ H1 { s1 with heap := h' } := I1.kept (t' := s1.toks) stay
    exact ⟨_, _, _, _, H1, rfl, J, turn_en a (s1.heap.objs.size + 1) s1.heap.objs.size, ⟨⟨.none, c1⟩, c2⟩, fresh2 I1, go⟩⟩
def reps (z : Str) (n : Nat) : Str := ⟨(List.replicate n z.cps).foldl (· ++ ·) #[]⟩
theorem fits {a b : Nat} (h1 : a ≤ 1000) (h2 : b ≤ 1000) : a * b ≤ 1000000 := Nat.mul_le_mul h1 h2
end EN

namespace GU
open PySem PySem.Spec PyProof.Rows L2
abbrev NoG (A : Around) : Prop := A.guards = some []
structure FnG (P : Program) (w : World) (K : PySem.W.Frag) (mg : Str → Option Value) (base : Heap) (k : Nat) (f : Addr) (fd : FuncData) (ps : List Str) (sp : Sp) : Prop where
  arity : ∀ xs H Q E, sp xs H Q E → xs.length = ps.length
  go : ∀ (A : Around) (out : List Env) (sh : Shared) (H : Hp) (ar : Args) (us : List Value) (xs : List V) (Q : VK) (E : XK), Room k A → NoG A → Env0 P w K mg base A out sh H → BindsTo sh fd ar (ps.zip us) → Vals xs us → sp xs H Q E →
    codeAny (model P w) A (.call (.ref f) ar) (CR CX0 out P w H sh Q E) sh
section
variable {P : Program} {w : World} {K : PySem.W.Frag} {mg : Str → Option Value} {base : Heap} {j k : Nat} {f : Addr} {fd : FuncData} {ps : List Str} {sp : Sp}
theorem FnG.of (F : FnOk P w K mg base CX0 k f fd ps sp) : FnG P w K mg base k f fd ps sp := ⟨F.len, fun A out sh H ar us xs Q E hr _ e b r z => F.run A out sh H ar us xs Q E hr e b r z⟩
theorem FnG.up (F : FnG P w K mg base j f fd ps sp) (h : j ≤ k) : FnG P w K mg base k f fd ps sp := ⟨F.arity, fun A out sh H ar us xs Q E hr => F.go A out sh H ar us xs Q E (hr.mono h)⟩
end
section
variable {X : Cx} {k : Nat} {f : Addr} {fd : FuncData} {ps : List Str} {sp : Sp} {x : Str} {p pos : Pos} {e : Expr} {es : List Expr} {t : TA}
end
end GU

namespace L2
open PySem PySem.Spec PyProof.Rows PpSet
section
variable {X : Cx} {e : Expr} {te : TE}
structure ClsFn (K : PySem.W.Frag) (C : Addr) (mc : Value) (m : Str) (f : Addr) : Prop where
  ty : PySem.W.typeIn K (.ref C) = some mc
  rd : PySem.W.readsIn K C mc = true
  ga : PySem.W.specialIn K (.ref C) "__getattribute__" = some (some (.builtin "type.__getattribute__"))
  has : PySem.W.findCls K (.ref C) mc m = some (.val (.ref f))
  kp : PySem.W.keepIn K (.ref f) = true
section
variable {k : Nat} {f C : Addr} {fd : FuncData} {ps : List Str} {sp : Sp} {m : Str} {pos apos : Pos} {o : Expr} {es : List Expr} {ta : TE} {t : TA}
end
end
end L2

set_option maxHeartbeats 2000000
namespace GE
open PySem PySem.Spec PyProof.Rows L2 GenW GxR
abbrev gcx (X : Cx) (A : Around) (s : Shared) (H : Hp) (cenv : Env) (fp : List Addr) (pn : List (Addr × Obj)) : Cx :=
  { X with A := A, s_0 := s, H_0 := H, env := cenv, outer := X.stack, stack := cenv :: X.stack, ex := fp, fn := fun x => cenv.scope.names.lookup x == some .cell, pn := pn, xe := fun _ _ => False }
theorem allBare_set {s : Shared} {g : Nat} {x : GenState} (h : AllBare s.gens) (hx : x.bare = true) : AllBare (s.setGen g x).gens := fun y hy => by
  obtain ⟨i, hi, e⟩ := Array.mem_iff_getElem.mp hy
  have hi' : i < s.gens.size := by
    have q : (s.setGen g x).gens.size = s.gens.size := setGen_size s g x
    rw [q] at hi; exact hi
  by_cases z : i = g
  · subst z
    have q : (s.setGen i x).gens[i]? = some x := by
      show (s.gens.setIfInBounds i x)[i]? = some x
      simp [hi']
    have q2 : (s.setGen i x).gens[i]? = some y := by rw [Array.getElem?_eq_getElem hi, e]
    rw [q] at q2; cases q2; exact hx
  · have q : (s.setGen g x).gens[i]? = s.gens[i]? := by
      show (s.gens.setIfInBounds g x)[i]? = _
      rw [Array.getElem?_setIfInBounds_ne (Ne.symm z)]
    have q2 : s.gens[i]? = some y := by rw [← q, Array.getElem?_eq_getElem hi, e]
    exact h y (Array.mem_of_getElem? q2)
section
variable {X : Cx} {pins : List (Addr × Obj)} {σ : L2.St} {H : Hp} {s : Shared}
end

section
variable {X : Cx} {ζ : Type} {tn : Nat → Heap → Prop} {fp : List Addr} {σ : L2.St} {vs : List Nat} {pz : ζ → List (Addr × Obj)} {Zi : ζ → Prop} {W : Nat → Nat → ζ → Hp → Prop} {Fin : ζ → Hp → Prop} {Cons : Nat → Nat → ζ → V → Hp → Prop}
  {J : It} {it : Addr} {tg elt iter : Expr} {ifs : List Expr} {scope : Scope} {pos : Pos} {g : TG} {tt : TT} {te : TE} {B : Around}
end
end GE

set_option maxHeartbeats 2000000
namespace GE
open PySem PySem.Spec PyProof.Rows L2 GenW GxR
structure GMk (X : Cx) (pins : List (Addr × Obj)) (σ : L2.St) (tg elt iter : Expr) (ifs : List Expr) (scope : Scope) (pos : Pos) (own : List (Str × Nat)) (J : It) (H : Hp) (a : Addr) (s5 : Shared) : Prop where
  ex : ∃ (s3 : Shared) (fp : List Addr) (it : Addr) (tn : Nat → Heap → Prop) (code : Value) (go : Obj) (g : Nat), Inv X pins σ H s3 ∧ Turn X.prog X.w X.K tg J fp it tn ∧ (∀ b ∈ fp, FpOk X pins H b ∧ b < s3.heap.objs.size) ∧ tn 0 s5.heap ∧ (∀ h : Heap, h.get? a = some go → h.IsGen a g) ∧ s5.heap.get? a = some go ∧
    s5.gens[g]? = some (.fresh (.compStart (.GeneratorExp elt [⟨tg, iter, ifs, 0⟩] scope pos) 0 (.ref it) .none (genEnv scope (cloFrom X.env.cells scope.names []) s3.heap.objs.size code builtinsNs X.env))) ∧ s3.heap.objs.size < a ∧ s5.heap.objs.size = a + 1 ∧
    ∀ A' : Around, (X.calm = true → A'.handled = none) → A'.frames = some (genEnv scope (cloFrom X.env.cells scope.names []) s3.heap.objs.size code builtinsNs X.env :: X.stack) → Inv (gcx X A' s3 H (genEnv scope (cloFrom X.env.cells scope.names []) s3.heap.objs.size code builtinsNs X.env) fp [(a, go)]) [] (wipe σ (own.map (·.2))) H s5
section
variable {X : Cx} {pins : List (Addr × Obj)} {σ : L2.St} {H : Hp} {s : Shared} {c P : Addr} {elt tg iter : Expr} {ifs : List Expr} {scope : Scope} {own : List (Str × Nat)} {gpos : Pos} {wi : TI} {k : Nat}
end

section
variable {X : Cx} {tn : Nat → Heap → Prop} {fp : List Addr} {σw : L2.St} {W : Nat → Nat → Unit → Hp → Prop} {Fin : Unit → Hp → Prop} {Cons : Nat → Nat → Unit → V → Hp → Prop} {Hit : Hp → Prop} {A : Around} {R : Result → Shared → Prop} {a : Addr} {go : Obj} {g : Nat}
end
end GE

set_option maxHeartbeats 2000000
namespace GE
open PySem PySem.Spec PyProof.Rows L2 GenW GxR
section
variable {X : Cx} {c P : Addr} {elt tg iter : Expr} {ifs : List Expr} {scope : Scope} {own : List (Str × Nat)} {p pos gpos : Pos} {wi : TI} {g : TG} {tt : TT} {te : TE} {k : Nat}
end
end GE

set_option maxHeartbeats 2000000
namespace GE
open PySem PySem.Spec PyProof.Rows L2 GenW GxR
abbrev Z3 := List V × Array Value × Nat
abbrev pz3 (S : Addr) : Z3 → List (Addr × Obj) := fun z => [(S, lstObj z.2.1 z.2.2)]
abbrev F3 (F : List V → Hp → Prop) : Z3 → Hp → Prop := fun z H => F z.1 H
section
variable {X : Cx} {tn : Nat → Heap → Prop} {fp : List Addr} {σw : L2.St} {W : Nat → Nat → List V → Hp → Prop} {Fi : List V → Hp → Prop} {A : Around} {R : Result → Shared → Prop} {a S : Addr} {go : Obj} {g : Nat} {res : Value}
end
end GE

set_option maxHeartbeats 2000000
namespace GE
open PySem PySem.Spec PyProof.Rows L2 GenW GxR
section
variable {X : Cx} {A : Around} {a : Addr} {go : Obj} {g : Nat} {E : Value → Shared → Prop} {s : Shared}
end
section
variable {X : Cx} {c P : Addr} {elt tg iter : Expr} {ifs : List Expr} {scope : Scope} {own : List (Str × Nat)} {p pos gpos : Pos} {wi : TI} {g : TG} {tt : TT} {te : TE} {k : Nat}
end
end GE

set_option maxHeartbeats 2000000
namespace GE
open PySem PySem.Spec PyProof.Rows L2 GenW GxR
structure GMk2 (X : Cx) (pins : List (Addr × Obj)) (σ : L2.St) (tg elt iter : Expr) (ifs : List Expr) (more : List Comprehension) (scope : Scope) (pos : Pos) (own : List (Str × Nat)) (J : It) (H : Hp) (a : Addr) (s5 : Shared) : Prop where
  ex : ∃ (s3 : Shared) (fp : List Addr) (it : Addr) (tn : Nat → Heap → Prop) (code : Value) (go : Obj) (g : Nat), Inv X pins σ H s3 ∧ Turn X.prog X.w X.K tg J fp it tn ∧ (∀ b ∈ fp, FpOk X pins H b ∧ b < s3.heap.objs.size) ∧ tn 0 s5.heap ∧ (∀ h : Heap, h.get? a = some go → h.IsGen a g) ∧ s5.heap.get? a = some go ∧
    s5.gens[g]? = some (.fresh (.compStart (.GeneratorExp elt (⟨tg, iter, ifs, 0⟩ :: more) scope pos) 0 (.ref it) .none (genEnv scope (cloFrom X.env.cells scope.names []) s3.heap.objs.size code builtinsNs X.env))) ∧ s3.heap.objs.size < a ∧ s5.heap.objs.size = a + 1 ∧
    ∀ A' : Around, (X.calm = true → A'.handled = none) → A'.frames = some (genEnv scope (cloFrom X.env.cells scope.names []) s3.heap.objs.size code builtinsNs X.env :: X.stack) → Inv (gcx X A' s3 H (genEnv scope (cloFrom X.env.cells scope.names []) s3.heap.objs.size code builtinsNs X.env) fp [(a, go)]) [] (wipe σ (own.map (·.2))) H s5
section
variable {X : Cx} {pins : List (Addr × Obj)} {σ : L2.St} {H : Hp} {s : Shared} {c P : Addr} {elt tg iter : Expr} {ifs : List Expr} {scope : Scope} {own : List (Str × Nat)} {gpos : Pos} {wi : TI} {k : Nat}
end
end GE

set_option maxHeartbeats 2000000
namespace GE
open PySem PySem.Spec PyProof.Rows L2 GenW GxR
def Woke (s s' : Shared) : Prop := ∃ G, s' = { s with gens := G } ∧ AllBare s'.gens
theorem Woke.heap {s s' : Shared} (k : Woke s s') : s'.heap = s.heap := by
  obtain ⟨G, rfl, b⟩ := k
  rfl
theorem Woke.self {s : Shared} (h : AllBare s.gens) : Woke s s := ⟨s.gens, rfl, h⟩
theorem Woke.set {s : Shared} (h : AllBare s.gens) {g : Nat} {x : GenState} (hx : x.bare = true) : Woke s (s.setGen g x) := ⟨_, rfl, allBare_set h hx⟩
theorem Woke.trans {s s1 s2 : Shared} (a : Woke s s1) (b : Woke s1 s2) : Woke s s2 := by
  obtain ⟨G, rfl, _⟩ := a
  obtain ⟨G2, rfl, h⟩ := b
  exact ⟨G2, rfl, h⟩
def HFact (a : Addr) (go : Obj) (s : Shared) : Prop := s.heap.NoLimit ∧ s.heap.get? a = some go ∧ AllBare s.gens
theorem HFact.set {a : Addr} {go : Obj} {s : Shared} (h : HFact a go s) {g : Nat} {x : GenState} (hx : x.bare = true) : HFact a go (s.setGen g x) := ⟨h.1, h.2.1, allBare_set h.2.2 hx⟩
section
variable {X : Cx} {A : Around} {R : Result → Shared → Prop} {a : Addr} {go : Obj} {g : Nat} {Hit End : Shared → Prop}
end

section
variable {X : Cx} {tn : Nat → Heap → Prop} {fp : List Addr} {σ : L2.St} {vs vj : List Nat} {J : It} {it : Addr} {tg elt iter tj jter : Expr} {ifs jfs : List Expr} {scope : Scope} {pos : Pos} {g gj : TG} {tt tjj : TT} {te : TE} {wj : TI} {B : Around} {a : Addr} {go : Obj} {b0 : Bool}
end
end GE

set_option maxHeartbeats 4000000
namespace GE
open PySem PySem.Spec PyProof.Rows L2 GenW GxR
section
variable {X : Cx} {tn : Nat → Heap → Prop} {fp : List Addr} {σ : L2.St} {vs vj : List Nat} {J : It} {it : Addr} {tg elt iter tj jter : Expr} {ifs jfs : List Expr} {scope : Scope} {pos : Pos} {g gj : TG} {tt tjj : TT} {te : TE} {wj : TI} {B : Around} {a : Addr} {go : Obj} {b0 : Bool} {W : Nat → Nat → Hp → Prop} {Fin HitP : Hp → Prop}
end
end GE

set_option maxHeartbeats 4000000
namespace GE
open PySem PySem.Spec PyProof.Rows L2 GenW GxR
section
variable {X : Cx} {tn : Nat → Heap → Prop} {fp : List Addr} {σ : L2.St} {vs vj : List Nat} {J : It} {it : Addr} {tg elt iter tj jter : Expr} {ifs jfs : List Expr} {scope : Scope} {pos : Pos} {g gj : TG} {tt tjj : TT} {te : TE} {wj : TI} {B : Around} {a : Addr} {go : Obj} {b0 : Bool} {W : Nat → Nat → Hp → Prop} {Fin HitP : Hp → Prop}
end
section
variable {X : Cx} {c P : Addr} {elt tg iter tj jter : Expr} {ifs jfs : List Expr} {scope : Scope} {own : List (Str × Nat)} {vj : List Nat} {p pos gpos : Pos} {wi wj : TI} {g gj : TG} {tt tjj : TT} {te : TE} {k : Nat}
end
end GE

set_option maxHeartbeats 2000000
namespace GT
open PySem PySem.Spec PyProof.Rows L2 GxR
end GT

set_option maxHeartbeats 2000000
namespace L2N
open PySem PySem.Spec PyProof.Rows L2
section
variable {X : Cx} {e : Expr} {es : List Expr} {ta : TA} {p pos : Pos}
end
end L2N

namespace AL
open PySem PySem.Spec L2

inductive D where
  | non | bl (b : Bool) | int (i : Int) | str (x : Str) | tup (xs : List D) | obj (a : Addr) | fl (xs : List D) | key (ks : List Key)
inductive MO where
  | lst (xs : List D)
  | dic (kvs : List (Key × D))
  | raw (o : HO)
  | dif (od : Obj) (ws : List (Key × V)) (kvs : List (Key × D))
  | dtt (kvs : List (List Key × D))
abbrev Sto := Addr → Option MO
def up (M : Sto) (a : Addr) (o : MO) : Sto := fun b => if b = a then some o else M b
theorem up_same {M : Sto} {a : Addr} {o : MO} : up M a o a = some o := by unfold up; rw [if_pos rfl]
theorem up_ne {M : Sto} {a b : Addr} {o : MO} (h : b ≠ a) : up M a o b = M b := by unfold up; rw [if_neg h]
def lstAt (M : Sto) (p : Addr) (k : List D → Prop) : Prop := match M p with
  | some (.lst ds) => k ds
  | _ => False
def dicAt (M : Sto) (p : Addr) (k : List (Key × D) → Prop) : Prop := match M p with
  | some (.dic ds) => k ds
  | _ => False
def optAt {α : Type} (o : Option α) (k : α → Prop) : Prop := match o with
  | some x => k x
  | none => False
theorem lstAt_ex {M : Sto} {p : Addr} {k : List D → Prop} (h : lstAt M p k) : ∃ ds, M p = some (.lst ds) ∧ k ds := by
  unfold lstAt at h
  split at h
  · exact ⟨_, by assumption, h⟩
  · exact h.elim
theorem dicAt_ex {M : Sto} {p : Addr} {k : List (Key × D) → Prop} (h : dicAt M p k) : ∃ ds, M p = some (.dic ds) ∧ k ds := by
  unfold dicAt at h
  split at h
  · exact ⟨_, by assumption, h⟩
  · exact h.elim
theorem optAt_ex {α : Type} {o : Option α} {k : α → Prop} (h : optAt o k) : ∃ x, o = some x ∧ k x := by
  cases o with
  | none => exact h.elim
  | some x => exact ⟨x, rfl, h⟩
def New (mo : MO) (M : Sto) (Q : D → Sto → Prop) : Prop := ∀ p, M p = none → Q (.obj p) (up M p mo)
def SqF (K : PySem.W.Frag) (H : Hp) (a : Addr) (xs : List V) : Prop :=
  (∃ o, H a = some (.frz o (.lst xs))) ∨
    ∃ (o : Obj) (its : Array Value) (n : Nat), K.lookup a = some o ∧ o.cls = .type "list" ∧ o.dict = none ∧ o.data = .seq its n ∧ its.size ≤ sizeLine ∧ Vals xs its.toList
theorem SqF.l {K : PySem.W.Frag} {H : Hp} {a : Addr} {xs : List V} (h : SqF K H a xs) : SqL K H a xs := by
  rcases h with ⟨o, h⟩ | h
  · exact .inl (.inr ⟨o, h⟩)
  · exact .inr h
def Fz : HO → Prop
  | .tup _ => True
  | .frz _ (.dK _) => False
  | .frz _ _ => True
  | _ => False
def Kp (H H' : Hp) : Prop := ∀ a o, Fz o → H a = some o → H' a = some o
theorem Kp.sqT {K : PySem.W.Frag} {H H' : Hp} (k : Kp H H') {a : Addr} {vs : List V} (e : SqT K H a vs) : SqT K H' a vs := by
  rcases e with (e | ⟨u, e⟩) | e
  · exact .inl (.inl (k a _ trivial e))
  · exact .inl (.inr ⟨u, k a _ trivial e⟩)
  · exact .inr e
theorem Kp.sqF {K : PySem.W.Frag} {H H' : Hp} (k : Kp H H') {a : Addr} {vs : List V} (e : SqF K H a vs) : SqF K H' a vs := by
  rcases e with ⟨u, e⟩ | e
  · exact .inl ⟨u, k a _ trivial e⟩
  · exact .inr e
mutual
def Rep (K : PySem.W.Frag) (H : Hp) : D → V → Prop
  | .non, v => v = .non
  | .bl b, v => v = .bl b
  | .int i, v => v = .int i
  | .str x, v => v = .str x
  | .tup ds, v => ∃ a vs, v = .ref a ∧ SqT K H a vs ∧ RepL K H ds vs
  | .obj a, v => v = .ref a
  | .fl ds, v => ∃ a vs, v = .ref a ∧ SqF K H a vs ∧ RepL K H ds vs
  | .key ks, v => ∃ a, v = .ref a ∧ H a = some (.tup (ks.map kV))
def RepL (K : PySem.W.Frag) (H : Hp) : List D → List V → Prop
  | [], vs => vs = []
  | d :: ds, vs => ∃ v r, vs = v :: r ∧ Rep K H d v ∧ RepL K H ds r
end
mutual
theorem Rep.mono {K : PySem.W.Frag} {H H' : Hp} (hT : Kp H H') : ∀ (d : D) (v : V), Rep K H d v → Rep K H' d v
  | .non, _, h => h
  | .bl _, _, h => h
  | .int _, _, h => h
  | .str _, _, h => h
  | .obj _, _, h => h
  | .tup ds, v, h => by
    obtain ⟨a, vs, e, t, r⟩ := h
    exact ⟨a, vs, e, hT.sqT t, RepL.mono hT ds vs r⟩
  | .fl ds, v, h => by
    obtain ⟨a, vs, e, t, r⟩ := h
    exact ⟨a, vs, e, hT.sqF t, RepL.mono hT ds vs r⟩
  | .key ks, v, h => by
    obtain ⟨a, e, t⟩ := h
    exact ⟨a, e, hT a _ trivial t⟩
theorem RepL.mono {K : PySem.W.Frag} {H H' : Hp} (hT : Kp H H') : ∀ (ds : List D) (vs : List V), RepL K H ds vs → RepL K H' ds vs
  | [], _, h => h
  | d :: ds, vs, h => by
    obtain ⟨v, r, e, h1, h2⟩ := h
    exact ⟨v, r, e, Rep.mono hT d v h1, RepL.mono hT ds r h2⟩
end
section
variable {K : PySem.W.Frag} {H H' : Hp}
theorem RepL.length : ∀ {ds : List D} {vs : List V}, RepL K H ds vs → ds.length = vs.length
  | [], _, h => by cases (show _ = [] from h); rfl
  | d :: ds, _, h => by
    obtain ⟨v, r, rfl, _, h2⟩ := h
    rw [List.length_cons, List.length_cons, RepL.length h2]
theorem RepL.get : ∀ {ds : List D} {vs : List V} {i : Nat} {d : D}, RepL K H ds vs → ds[i]? = some d → ∃ v, vs[i]? = some v ∧ Rep K H d v
  | [], _, _, _, _, e => by simp at e
  | d :: ds, _, 0, _, h, e => by
    obtain ⟨v, r, rfl, h1, _⟩ := h
    cases (Option.some.inj e)
    exact ⟨v, rfl, h1⟩
  | d :: ds, _, i + 1, _, h, e => by
    obtain ⟨v, r, rfl, _, h2⟩ := h
    exact RepL.get (i := i) h2 e
theorem RepL.set : ∀ {ds : List D} {vs : List V} (i : Nat) {d : D} {v : V}, RepL K H ds vs → Rep K H d v → RepL K H (ds.set i d) (vs.set i v)
  | [], _, _, _, _, h, _ => by cases (show _ = [] from h); rfl
  | d :: ds, _, 0, _, _, h, q => by
    obtain ⟨v, r, rfl, _, h2⟩ := h
    exact ⟨_, r, rfl, q, h2⟩
  | d :: ds, _, i + 1, _, _, h, q => by
    obtain ⟨v, r, rfl, h1, h2⟩ := h
    exact ⟨v, _, rfl, h1, RepL.set i h2 q⟩
theorem RepL.append : ∀ {ds es : List D} {vs ws : List V}, RepL K H ds vs → RepL K H es ws → RepL K H (ds ++ es) (vs ++ ws)
  | [], _, _, _, h, q => by cases (show _ = [] from h); exact q
  | d :: ds, _, _, _, h, q => by
    obtain ⟨v, r, rfl, h1, h2⟩ := h
    exact ⟨v, _, rfl, h1, RepL.append h2 q⟩
theorem RepL.one {d : D} {v : V} (h : Rep K H d v) : RepL K H [d] [v] := ⟨v, [], rfl, h, rfl⟩
theorem RepL.take : ∀ {ds : List D} {vs : List V} (n : Nat), RepL K H ds vs → RepL K H (ds.take n) (vs.take n)
  | [], _, n, h => by cases (show _ = [] from h); rw [List.take_nil, List.take_nil]; rfl
  | d :: ds, _, 0, h => by rw [List.take_zero, List.take_zero]; rfl
  | d :: ds, _, n + 1, h => by
    obtain ⟨v, r, rfl, h1, h2⟩ := h
    exact ⟨v, _, rfl, h1, RepL.take n h2⟩
theorem RepL.drop : ∀ {ds : List D} {vs : List V} (n : Nat), RepL K H ds vs → RepL K H (ds.drop n) (vs.drop n)
  | [], _, n, h => by cases (show _ = [] from h); rw [List.drop_nil, List.drop_nil]; rfl
  | d :: ds, _, 0, h => h
  | d :: ds, _, n + 1, h => by
    obtain ⟨v, r, rfl, h1, h2⟩ := h
    exact RepL.drop n h2
theorem RepL.reverse : ∀ {ds : List D} {vs : List V}, RepL K H ds vs → RepL K H ds.reverse vs.reverse
  | [], _, h => by cases (show _ = [] from h); rfl
  | d :: ds, _, h => by
    obtain ⟨v, r, rfl, h1, h2⟩ := h
    rw [List.reverse_cons, List.reverse_cons]
    exact RepL.append (RepL.reverse h2) (RepL.one h1)
theorem RepL.dropLast {ds : List D} {vs : List V} (h : RepL K H ds vs) : RepL K H ds.dropLast vs.dropLast := by
  rw [List.dropLast_eq_take, List.dropLast_eq_take, h.length]
  exact h.take _
end
abbrev RepK (K : PySem.W.Frag) (H : Hp) : List (Key × D) → List (Key × V) → Prop := Paired fun p q => p.1 = q.1 ∧ Rep K H p.2 q.2
abbrev RepT (K : PySem.W.Frag) (H : Hp) : List (List Key × D) → List (List Key × V) → Prop := Paired fun p q => p.1 = q.1 ∧ Rep K H p.2 q.2
def MOk (K : PySem.W.Frag) (H : Hp) (a : Addr) : MO → Prop
  | .lst ds => ∃ vs, H a = some (.lst vs) ∧ RepL K H ds vs
  | .dic kvs => ∃ ws, H a = some (.dK ws) ∧ RepK K H kvs ws
  | .raw o => H a = some o ∧ ¬ Fz o
  | .dif od ws kvs => H a = some (.frz od (.dK ws)) ∧ RepK K H kvs ws
  | .dtt kvs => ∃ ws, H a = some (.dT ws) ∧ RepT K H kvs ws
def Abs (K : PySem.W.Frag) (M : Sto) (H : Hp) : Prop := ∀ a mo, M a = some mo → MOk K H a mo
abbrev AEnv := List (Option D)
def RepS (K : PySem.W.Frag) (H : Hp) (env : AEnv) (σ : L2.St) : Prop := env.length = σ.length ∧ ∀ (i : Nat) (d : D), env[i]? = some (some d) → ∃ v, σ[i]? = some (some v) ∧ Rep K H d v
def Grw (o o' : HO) : Prop := o' = o ∨ ∃ ps qs : Array Value, o = .tbl ps ∧ o' = .tbl qs ∧ TriplesOk qs.toList
theorem Grw.refl {o : HO} : Grw o o := .inl rfl
theorem Grw.trans {o p q : HO} (a : Grw o p) (b : Grw p q) : Grw o q := by
  rcases a with rfl | ⟨ps, m1, rfl, rfl, t1⟩
  · exact b
  · rcases b with rfl | ⟨ps2, m2, e, rfl, t2⟩
    · exact .inr ⟨ps, m1, rfl, rfl, t1⟩
    · exact .inr ⟨ps, m2, rfl, rfl, t2⟩
structure Tr (K : PySem.W.Frag) (M : Sto) (H : Hp) (M' : Sto) (H' : Hp) : Prop where
  abs : Abs K M' H'
  kee : ∀ b o, H b = some o → M b = none → ∃ o', H' b = some o' ∧ Grw o o' ∧ M' b = none
theorem Tr.keep {K : PySem.W.Frag} {M M' : Sto} {H H' : Hp} (t : Tr K M H M' H') (b : Addr) (o : HO) (h : H b = some o) (n : M b = none) (nt : ∀ ps, o ≠ .tbl ps := by intro _ z; cases z) : H' b = some o ∧ M' b = none := by
  obtain ⟨o', e, g, n'⟩ := t.kee b o h n
  rcases g with rfl | ⟨ps, _, z, _⟩
  · exact ⟨e, n'⟩
  · exact absurd z (nt ps)
def tabs : List Addr := []
def Tabs (M : Sto) (H : Hp) : Prop := ∀ P ∈ tabs, M P = none ∧ GxR.TabG H P
theorem Tabs.next {K : PySem.W.Frag} {M M' : Sto} {H H' : Hp} (x : Tabs M H) (t : Tr K M H M' H') : Tabs M' H' := fun P hP => by
  obtain ⟨n, ps, e, ok⟩ := x P hP
  obtain ⟨o', e', g, n'⟩ := t.kee P _ e n
  rcases g with rfl | ⟨ps2, more, z, rfl, k⟩
  · exact ⟨n', ps, e', ok⟩
  · exact ⟨n', _, e', k⟩
section
variable {K : PySem.W.Frag} {M M1 M2 : Sto} {H H1 H2 : Hp}
theorem Tr.refl (h : Abs K M H) : Tr K M H M H := ⟨h, fun _ o h1 h2 => ⟨o, h1, .refl, h2⟩⟩
theorem Tr.trans (a : Tr K M H M1 H1) (b : Tr K M1 H1 M2 H2) : Tr K M H M2 H2 := ⟨b.abs, fun c o h1 h2 => let ⟨o1, h3, g1, h4⟩ := a.kee c o h1 h2; let ⟨o2, h5, g2, h6⟩ := b.kee c o1 h3 h4; ⟨o2, h5, g1.trans g2, h6⟩⟩
theorem Abs.fzFree (h : Abs K M H) {a : Addr} {o : HO} (f : Fz o) (e : H a = some o) : M a = none := by
  cases q : M a with
  | none => rfl
  | some mo =>
    have z := h a mo q
    cases mo with
    | lst ds => obtain ⟨ws, z, _⟩ := z; rw [z] at e; cases e; exact f.elim
    | dic ds => obtain ⟨ws, z, _⟩ := z; rw [z] at e; cases e; exact f.elim
    | raw o => rw [z.1] at e; cases e; exact absurd f z.2
    | dif od ws ds => obtain ⟨z, _⟩ := z; rw [z] at e; cases e; exact f.elim
    | dtt ds => obtain ⟨ws, z, _⟩ := z; rw [z] at e; cases e; exact f.elim
theorem Tr.kp (t : Tr K M H M1 H1) (h : Abs K M H) : Kp H H1 := fun a o f e => (t.keep a o e (h.fzFree f e) (fun ps z => by subst z; exact f)).1
theorem Tr.sqT (t : Tr K M H M1 H1) (h : Abs K M H) {a : Addr} {vs : List V} (e : SqT K H a vs) : SqT K H1 a vs := (t.kp h).sqT e
theorem Tr.rep (t : Tr K M H M1 H1) (h : Abs K M H) {d : D} {v : V} (r : Rep K H d v) : Rep K H1 d v := Rep.mono (t.kp h) d v r
theorem Tr.repL (t : Tr K M H M1 H1) (h : Abs K M H) {d : List D} {v : List V} (r : RepL K H d v) : RepL K H1 d v := RepL.mono (t.kp h) d v r
theorem Tr.repS (t : Tr K M H M1 H1) (h : Abs K M H) {env : AEnv} {σ : L2.St} (r : RepS K H env σ) : RepS K H1 env σ :=
  ⟨r.1, fun i d e => let ⟨v, h1, h2⟩ := r.2 i d e; ⟨v, h1, t.rep h h2⟩⟩
theorem Abs.fresh (h : Abs K M H) {p : Addr} (hp : H p = none) : M p = none := by
  cases q : M p with
  | none => rfl
  | some mo =>
    have z := h p mo q
    cases mo with
    | lst ds => obtain ⟨ws, z, _⟩ := z; rw [hp] at z; cases z
    | dic ds => obtain ⟨ws, z, _⟩ := z; rw [hp] at z; cases z
    | raw o => have z1 := z.1; rw [hp] at z1; cases z1
    | dif od ws ds => obtain ⟨z, _⟩ := z; rw [hp] at z; cases z
    | dtt ds => obtain ⟨ws, z, _⟩ := z; rw [hp] at z; cases z
theorem Kp.new {p : Addr} {o : HO} (hp : H p = none) : Kp H (upd H p o) := fun a u _ e => by rw [upd_ne (ne_of_none e hp)]; exact e
theorem Kp.write (h : Abs K M H) {p : Addr} {o : HO} {m0 : MO} (hp : M p = some m0) : Kp H (upd H p o) := fun a u f e => by
  have n : a ≠ p := fun z => by
    subst z
    rw [h.fzFree f e] at hp
    cases hp
  rw [upd_ne n]
  exact e
theorem Kp.updL {p : Addr} {vs ws : List V} (hp : H p = some (.lst vs)) : Kp H (upd H p (.lst ws)) := fun a u f e => by
  have n : a ≠ p := fun z => by
    subst z
    rw [hp] at e
    cases e
    exact f.elim
  rw [upd_ne n]
  exact e
theorem MOk.mono {H' : Hp} {a : Addr} (ha : ∀ o, H a = some o → H' a = some o) (hT : Kp H H') : ∀ {mo : MO}, MOk K H a mo → MOk K H' a mo
  | .lst ds, ⟨vs, e, r⟩ => ⟨vs, ha _ e, RepL.mono hT ds vs r⟩
  | .dic kvs, ⟨ws, e, r⟩ => ⟨ws, ha _ e, Paired.mapP r fun p q z => ⟨z.1, Rep.mono hT _ _ z.2⟩⟩
  | .raw o, ⟨e, n⟩ => ⟨ha _ e, n⟩
  | .dif od ws kvs, ⟨e, r⟩ => ⟨ha _ e, Paired.mapP r fun p q z => ⟨z.1, Rep.mono hT _ _ z.2⟩⟩
  | .dtt kvs, ⟨ws, e, r⟩ => ⟨ws, ha _ e, Paired.mapP r fun p q z => ⟨z.1, Rep.mono hT _ _ z.2⟩⟩
theorem Tr.newT (h : Abs K M H) {p : Addr} {o : HO} (hp : H p = none) : Tr K M H M (upd H p o) := by
  refine ⟨fun a mo e => ?_, fun b u e n => ⟨u, by rw [upd_ne (ne_of_none e hp)]; exact e, .refl, n⟩⟩
  exact (h a mo e).mono (fun u q => by rw [upd_ne (ne_of_none q hp)]; exact q) (Kp.new hp)
theorem Tr.newM (h : Abs K M H) {p : Addr} {o : HO} {mo : MO} (hp : H p = none) (hm : MOk K (upd H p o) p mo) : Tr K M H (up M p mo) (upd H p o) := by
  refine ⟨fun a m e => ?_, fun b u e n => ?_⟩
  · by_cases ha : a = p
    · subst ha
      rw [up_same] at e
      cases e
      exact hm
    · rw [up_ne ha] at e
      exact (h a m e).mono (fun u q => by rw [upd_ne (ne_of_none q hp)]; exact q) (Kp.new hp)
  · have nb := ne_of_none e hp
    exact ⟨u, by rw [upd_ne nb]; exact e, .refl, by rw [up_ne nb]; exact n⟩
theorem Tr.write (h : Abs K M H) {p : Addr} {o : HO} {mo m0 : MO} (hp : M p = some m0) (hm : MOk K (upd H p o) p mo) : Tr K M H (up M p mo) (upd H p o) := by
  have hT : Kp H (upd H p o) := Kp.write h hp
  refine ⟨fun a m e => ?_, fun b u e n => ?_⟩
  · by_cases ha : a = p
    · subst ha
      rw [up_same] at e
      cases e
      exact hm
    · rw [up_ne ha] at e
      exact (h a m e).mono (fun u q => by rw [upd_ne ha]; exact q) hT
  · have nb : b ≠ p := fun z => by subst z; rw [hp] at n; cases n
    exact ⟨u, by rw [upd_ne nb]; exact e, .refl, by rw [up_ne nb]; exact n⟩
theorem rep_write (h : Abs K M H) {p : Addr} {o : HO} {m0 : MO} (hp : M p = some m0) {d : D} {v : V} (r : Rep K H d v) : Rep K (upd H p o) d v := Rep.mono (Kp.write h hp) d v r
theorem repL_write (h : Abs K M H) {p : Addr} {o : HO} {m0 : MO} (hp : M p = some m0) {d : List D} {v : List V} (r : RepL K H d v) : RepL K (upd H p o) d v := RepL.mono (Kp.write h hp) d v r
theorem repL_new {p : Addr} {o : HO} (hp : H p = none) {d : List D} {v : List V} (r : RepL K H d v) : RepL K (upd H p o) d v := RepL.mono (Kp.new hp) d v r
theorem rep_newT {p : Addr} {ds : List D} {vs : List V} (hp : H p = none) (r : RepL K H ds vs) : Rep K (upd H p (.tup vs)) (.tup ds) (.ref p) := ⟨p, vs, rfl, .inl (.inl upd_same), repL_new hp r⟩
theorem RepS.get {env : AEnv} {σ : L2.St} (h : RepS K H env σ) {i : Nat} {d : D} (e : env[i]? = some (some d)) : ∃ v, σ[i]? = some (some v) ∧ Rep K H d v := h.2 i d e
theorem RepS.set {env : AEnv} {σ : L2.St} (h : RepS K H env σ) {i : Nat} {d : D} {v : V} (r : Rep K H d v) : RepS K H (env.set i (some d)) (σ.set i (some v)) := by
  refine ⟨by rw [List.length_set, List.length_set, h.1], fun j d' e => ?_⟩
  by_cases hj : i = j
  · subst hj
    by_cases hl : i < env.length
    · rw [List.getElem?_set_self hl] at e
      cases e
      exact ⟨v, by rw [List.getElem?_set_self (by rw [← h.1]; exact hl)], r⟩
    · rw [List.getElem?_eq_none (by rw [List.length_set]; omega)] at e
      cases e
  · rw [List.getElem?_set_ne hj] at e
    obtain ⟨v', q1, q2⟩ := h.2 j d' e
    exact ⟨v', by rw [List.getElem?_set_ne hj]; exact q1, q2⟩
end

abbrev AX := Value → List (Str × D) → AEnv → Sto → Prop
def RepX (K : PySem.W.Frag) (H : Hp) : Option Addr → List (Str × D) → Prop
  | none, fs => fs = []
  | some a, fs => ∃ ws : List (Str × V), H a = some (.xd ws) ∧ Paired (fun (p : Str × D) (q : Str × V) => p.1 = q.1 ∧ Rep K H p.2 q.2) fs ws
def XC (K : PySem.W.Frag) (W : WX) (ax : AX) (M : Sto) (H : Hp) : Prop := ∀ σ' env' H' M' cls d fs, Tr K M H M' H' → RepS K H' env' σ' → RepX K H' d fs → ax cls fs env' M' → W cls d σ' H'
theorem XC.next {K : PySem.W.Frag} {W : WX} {ax : AX} {M M1 : Sto} {H H1 : Hp} (x : XC K W ax M H) (t : Tr K M H M1 H1) : XC K W ax M1 H1 :=
  fun σ' env' H' M' cls d fs t' r x' a => x σ' env' H' M' cls d fs (t.trans t') r x' a
def ax0 : AX := fun _ _ _ _ => False
theorem XC.no {K : PySem.W.Frag} {W : WX} {M : Sto} {H : Hp} : XC K W ax0 M H := fun _ _ _ _ _ _ _ _ _ _ z => z.elim
structure Stt (K : PySem.W.Frag) (W : WX) (ax : AX) (env : AEnv) (M : Sto) (σ : L2.St) (H : Hp) : Prop where
  rs : RepS K H env σ
  abs : Abs K M H
  xc : XC K W ax M H
  tb : Tabs M H
section
variable {K : PySem.W.Frag} {W : WX} {ax : AX} {env env' : AEnv} {M M1 : Sto} {σ σ' : L2.St} {H H1 : Hp}
theorem Stt.next (s : Stt K W ax env M σ H) (t : Tr K M H M1 H1) : Stt K W ax env M1 σ H1 := ⟨t.repS s.abs s.rs, t.abs, s.xc.next t, s.tb.next t⟩
theorem Stt.at_ (s : Stt K W ax env M σ H) (t : Tr K M H M1 H1) (r : RepS K H1 env' σ') : Stt K W ax env' M1 σ' H1 := ⟨r, t.abs, s.xc.next t, s.tb.next t⟩
end

abbrev ATE := AX → AEnv → Sto → (D → Sto → Prop) → Prop
abbrev ATT := AX → AEnv → Sto → (Bool → Sto → Prop) → Prop
abbrev ATA := AX → AEnv → Sto → (List D → Sto → Prop) → Prop
structure AEnds where
  nx : AEnv → Sto → Prop
  rt : D → Sto → Prop
  bk : AEnv → Sto → Prop := fun _ _ => False
  ct : AEnv → Sto → Prop := fun _ _ => False
abbrev ATS := AX → AEnds → AEnv → Sto → Prop
abbrev ATG := D → AX → AEnv → Sto → (AEnv → Sto → Prop) → Prop
abbrev ATI := AX → AEnv → Sto → (List D → (Sto → Prop) → Sto → Prop) → Prop
section
variable (K : PySem.W.Frag) (W : WX)
def cE (a : ATE) : TE := fun σ H Q => ∃ ax env M Qa, Stt K W ax env M σ H ∧ a ax env M Qa ∧ ∀ v H' d M', Tr K M H M' H' → Rep K H' d v → Qa d M' → Q v H'
def cT (a : ATT) : TT := fun σ H Q => ∃ ax env M Qa, Stt K W ax env M σ H ∧ a ax env M Qa ∧ ∀ b H' M', Tr K M H M' H' → Qa b M' → Q b H'
def cA (a : ATA) : TA := fun σ H Q => ∃ ax env M Qa, Stt K W ax env M σ H ∧ a ax env M Qa ∧ ∀ vs H' ds M', Tr K M H M' H' → RepL K H' ds vs → Qa ds M' → Q vs H'
structure EndsOk (M : Sto) (H : Hp) (D : AEnds) (Dc : Ends) : Prop where
  nx : ∀ σ' H' env' M', Tr K M H M' H' → RepS K H' env' σ' → D.nx env' M' → Dc.nx σ' H'
  bk : ∀ σ' H' env' M', Tr K M H M' H' → RepS K H' env' σ' → D.bk env' M' → Dc.bk σ' H'
  ct : ∀ σ' H' env' M', Tr K M H M' H' → RepS K H' env' σ' → D.ct env' M' → Dc.ct σ' H'
  rt : ∀ v H' d M', Tr K M H M' H' → Rep K H' d v → D.rt d M' → Dc.rt v H'
def cS (a : ATS) : TS := fun Dc σ H => ∃ ax env M D, Stt K W ax env M σ H ∧ a ax D env M ∧ EndsOk K M H D Dc
def cG (g : ATG) : TG := fun v σ H Q => ∃ d ax env M Qa, Stt K W ax env M σ H ∧ Rep K H d v ∧ g d ax env M Qa ∧ ∀ σ' H' env' M', Tr K M H M' H' → RepS K H' env' σ' → Qa env' M' → Q σ' H'
def ItSim (J : It) (items : List D) (chk : Sto → Prop) (M1 : Sto) (H1 : Hp) : Prop := ∀ i M H, Tr K M1 H1 M H → chk M →
  (∀ d, items[i]? = some d → J.go i H ∧ ∀ x H', J.yld i H x H' → Tr K M H M H' ∧ Rep K H' d x) ∧ (items[i]? = none → J.stop i H)
def cI (a : ATI) : TI := fun σ H R => ∃ ax env M Ra, Stt K W ax env M σ H ∧ a ax env M Ra ∧ ∀ J items chk M' H', Tr K M H M' H' → ItSim K J items chk M' H' → Ra items chk M' → R J H'
end
theorem EndsOk.next {K : PySem.W.Frag} {M M1 : Sto} {H H1 : Hp} {D : AEnds} {Dc : Ends} (e : EndsOk K M H D Dc) (t : Tr K M H M1 H1) : EndsOk K M1 H1 D Dc :=
  ⟨fun σ' H' env' M' t' => e.nx σ' H' env' M' (t.trans t'), fun σ' H' env' M' t' => e.bk σ' H' env' M' (t.trans t'), fun σ' H' env' M' t' => e.ct σ' H' env' M' (t.trans t'), fun v H' d M' t' => e.rt v H' d M' (t.trans t')⟩

theorem PE.imp {X : Cx} {e : Expr} {t u : TE} (h : PE X e t) (k : ∀ σ H Q, u σ H Q → t σ H Q) : PE X e u := ⟨fun pins s σ H Q I q => h.run pins s σ H Q I (k σ H Q q)⟩
theorem PT.imp {X : Cx} {e : Expr} {t u : TT} (h : PT X e t) (k : ∀ σ H Q, u σ H Q → t σ H Q) : PT X e u := ⟨fun pins s σ H Q I q => h.run pins s σ H Q I (k σ H Q q)⟩
theorem PW.imp {X : Cx} {e : Expr} {t u : TT} (h : PW X e t) (k : ∀ σ H Q, u σ H Q → t σ H Q) : PW X e u := ⟨fun wh pins s σ H Q I q => h.run wh pins s σ H Q I (k σ H Q q)⟩
theorem PA.imp {X : Cx} {e : List Expr} {t u : TA} (h : PA X e t) (k : ∀ σ H Q, u σ H Q → t σ H Q) : PA X e u := ⟨fun pos pins s σ H Q I q => h.run pos pins s σ H Q I (k σ H Q q)⟩
theorem PS.imp {X : Cx} {e : Stmt} {t u : TS} (h : PS X e t) (k : ∀ D σ H, u D σ H → t D σ H) : PS X e u := ⟨fun pins s σ H D I q => h.run pins s σ H D I (k D σ H q)⟩
theorem PSs.imp {X : Cx} {e : List Stmt} {t u : TS} (h : PSs X e t) (k : ∀ D σ H, u D σ H → t D σ H) : PSs X e u := ⟨fun pins s σ H D I q => h.run pins s σ H D I (k D σ H q)⟩
theorem PG.imp {X : Cx} {e : Expr} {t u : TG} (h : PG X e t) (k : ∀ v σ H Q, u v σ H Q → t v σ H Q) : PG X e u := ⟨fun pins s σ H v w Q I r q => h.run pins s σ H v w Q I r (k v σ H Q q)⟩
theorem PI.imp {X : Cx} {g e : Expr} {t u : TI} (h : PI X g e t) (k : ∀ σ H Q, u σ H Q → t σ H Q) : PI X g e u := ⟨fun pins s σ H Q I q => h.run pins s σ H Q I (k σ H Q q)⟩

section
variable {K : PySem.W.Frag} {W : WX}
def aVar (i : Nat) : ATE := fun _ env M Q => optAt env[i]? fun o => optAt o fun d => Q d M
def aC (d : D) : ATE := fun _ _ M Q => Q d M
abbrev AR2 := D → D → Sto → (D → Sto → Prop) → Prop
abbrev ARs := List D → Sto → (D → Sto → Prop) → Prop
def SimR (K : PySem.W.Frag) (r : R2) (ρ : AR2) : Prop := ∀ x y dx dy H M (Q : D → Sto → Prop) (Qc : VK), Abs K M H → Rep K H dx x → Rep K H dy y → ρ dx dy M Q →
  (∀ v H' d M', Tr K M H M' H' → Rep K H' d v → Q d M' → Qc v H') → r x y H Qc
def SimC (K : PySem.W.Frag) (r : List V → Hp → VK → Prop) (ρ : ARs) : Prop := ∀ xs ds H M (Q : D → Sto → Prop) (Qc : VK), Abs K M H → RepL K H ds xs → ρ ds M Q →
  (∀ v H' d M', Tr K M H M' H' → Rep K H' d v → Q d M' → Qc v H') → r xs H Qc
def aOp (ρ : AR2) (a b : ATE) : ATE := fun ax env M Q => a ax env M fun x M1 => b ax env M1 fun y M2 => ρ x y M2 Q
theorem s_var {i : Nat} {σ : L2.St} {H : Hp} {Q : VK} (h : cE K W (aVar i) σ H Q) : tVar i σ H Q := by
  obtain ⟨ax, env, M, Qa, S, q, k⟩ := h
  obtain ⟨o, e, q⟩ := optAt_ex q
  obtain ⟨d, rfl, q⟩ := optAt_ex q
  obtain ⟨v, e', r⟩ := S.rs.get e
  exact ⟨v, e', k v H d M (Tr.refl S.abs) r q⟩
theorem s_c {d : D} {v : V} (hr : ∀ H, Rep K H d v) {σ : L2.St} {H : Hp} {Q : VK} (h : cE K W (aC d) σ H Q) : tC v σ H Q := by
  obtain ⟨ax, env, M, Qa, S, q, k⟩ := h
  exact k v H d M (Tr.refl S.abs) (hr H) q
theorem s_op {r : R2} {ρ : AR2} (hr : SimR K r ρ) {a b : ATE} {σ : L2.St} {H : Hp} {Q : VK} (h : cE K W (aOp ρ a b) σ H Q) : tOp r (cE K W a) (cE K W b) σ H Q := by
  obtain ⟨ax, env, M, Qa, S, q, k⟩ := h
  refine ⟨ax, env, M, _, S, q, fun x H1 dx M1 t1 r1 q1 => ?_⟩
  refine ⟨ax, env, M1, _, S.next t1, q1, fun y H2 dy M2 t2 r2 q2 => ?_⟩
  exact hr x y dx dy H2 M2 Qa _ t2.abs (t2.rep t1.abs r1) r2 q2 fun v H' d M' t3 r3 q3 => k v H' d M' ((t1.trans t2).trans t3) r3 q3
variable {X : Cx} {a b : Expr} {α β : ATE} {pos : Pos}
abbrev AE (X : Cx) (W : WX) (e : Expr) (a : ATE) : Prop := PE X e (cE X.K W a)
abbrev AT (X : Cx) (W : WX) (e : Expr) (a : ATT) : Prop := PT X e (cT X.K W a)
abbrev AW (X : Cx) (W : WX) (e : Expr) (a : ATT) : Prop := PW X e (cT X.K W a)
abbrev AA (X : Cx) (W : WX) (e : List Expr) (a : ATA) : Prop := PA X e (cA X.K W a)
abbrev AS (X : Cx) (W : WX) (e : Stmt) (a : ATS) : Prop := PS X e (cS X.K W a)
abbrev ASs (X : Cx) (W : WX) (e : List Stmt) (a : ATS) : Prop := PSs X e (cS X.K W a)
abbrev AG (X : Cx) (W : WX) (e : Expr) (a : ATG) : Prop := PG X e (cG X.K W a)
abbrev AI (X : Cx) (W : WX) (g e : Expr) (a : ATI) : Prop := PI X g e (cI X.K W a)
theorem ae_var (i : Nat) {x : Str} {pos : Pos} (hN : X.N[i]? = some x := by rfl) (hv : Vis X.env.scope x := by first | exact Or.inl rfl | exact Or.inr (Or.inl rfl) | exact Or.inr (Or.inr rfl)) (hd : (x == ("__debug__" : Str)) = false := by decide)
    (hcd : (x == ("__classdict__" : Str)) = false := by decide) : AE X W (.Name x pos) (aVar i) := PE.imp (pe_var hN hv hd hcd) fun _ _ _ => s_var
theorem ae_int {i j pos} : AE X W (.Constant (.int i) j pos) (aC (.int i)) := PE.imp pe_int fun _ _ _ h => s_c (d := .int i) (v := .int i) (fun _ => rfl) h
theorem ae_bl {i j pos} : AE X W (.Constant (.bool i) j pos) (aC (.bl i)) := PE.imp pe_bl fun _ _ _ h => s_c (d := .bl i) (v := .bl i) (fun _ => rfl) h
theorem ae_non {j pos} : AE X W (.Constant .none j pos) (aC .non) := PE.imp pe_non fun _ _ _ h => s_c (d := .non) (v := .non) (fun _ => rfl) h
theorem ae_str {x j pos} : AE X W (.Constant (.str x) j pos) (aC (.str x)) := PE.imp pe_str fun _ _ _ h => s_c (d := .str x) (v := .str x) (fun _ => rfl) h
theorem ae_glob {x : Str} {d : D} {v : V} {u : Value} {pos : Pos} (hg : Gl X x) (hm : X.mg x = some u) (r : RelV v u) (hr : ∀ H, Rep X.K H d v) (hd : (x == ("__debug__" : Str)) = false := by decide) : AE X W (.Name x pos) (aC d) :=
  PE.imp (pe_glob hg hm r hd) fun _ _ _ => s_c hr
theorem ae_op {op : Operator} {r : R2} {ρ : AR2} (ho : OpR X (binaryOp op) r) (hr : SimR X.K r ρ) (ha : AE X W a α) (hb : AE X W b β) : AE X W (.BinOp a op b pos) (aOp ρ α β) := PE.imp (pe_op ho ha hb) fun _ _ _ => s_op hr
theorem ae_cmpR {op : CmpOp} {r : R2} {ρ : AR2} (ho : OpR X (compareOp op) r) (hr : SimR X.K r ρ) (ha : AE X W a α) (hb : AE X W b β) (hm : behindInMarks op b = false) : AE X W (.Compare a [op] [b] pos) (aOp ρ α β) := PE.imp (pe_cmpR ho ha hb hm) fun _ _ _ => s_op hr
end

section
variable {K : PySem.W.Frag} {X : Cx}
def rPlus (K : PySem.W.Frag) : R2 := fun x y H Q => (rI0 fun i j => .int (i + j)) x y H Q ∨ (∃ i j, x = .str i ∧ y = .str j ∧ i.length + j.length ≤ sizeLine ∧ Q (.str (i ++ j)) H) ∨ rCat x y H Q ∨ rCatA K x y H Q
theorem op_plus : OpR X (binaryOp .Add) (rPlus X.K) := op_add.or (op_add_str.or (op_cat.or op_catA))
def ρAdd : AR2 := fun x y M Q => match x, y with
  | .int i, .int j => Q (.int (i + j)) M
  | .str i, .str j => i.length + j.length ≤ sizeLine ∧ Q (.str (i ++ j)) M
  | .tup ds, .tup es => ds.length + es.length ≤ sizeLine ∧ Q (.tup (ds ++ es)) M
  | .obj p, .obj q => lstAt M p fun ds => lstAt M q fun es => ds.length + es.length ≤ sizeLine ∧ New (.lst (ds ++ es)) M Q
  | _, _ => False
theorem sim_add : SimR K (rPlus K) ρAdd := by
  intro x y dx dy H M Q Qc ab rx ry q k
  cases dx with
  | int i =>
    cases dy with
    | int j =>
      cases (show x = V.int i from rx)
      cases (show y = V.int j from ry)
      exact .inl ⟨i, j, rfl, rfl, k _ H (.int (i + j)) M (Tr.refl ab) rfl q⟩
    | _ => exact False.elim q
  | str i =>
    cases dy with
    | str j =>
      cases (show x = V.str i from rx)
      cases (show y = V.str j from ry)
      obtain ⟨z, q⟩ := q
      exact .inr (.inl ⟨i, j, rfl, rfl, z, k _ H (.str (i ++ j)) M (Tr.refl ab) rfl q⟩)
    | _ => exact False.elim q
  | tup ds =>
    cases dy with
    | tup es =>
      obtain ⟨z, q⟩ := q
      obtain ⟨p, vs, rfl, hp, hv⟩ := rx
      obtain ⟨p', ws, rfl, hp', hw⟩ := ry
      have l1 := hv.length
      have l2 := hw.length
      refine .inr (.inr (.inr ⟨p, p', vs, ws, rfl, rfl, hp, hp', by omega, fun e => ?_, fun _ e => ?_, fun _ _ o ho => ?_⟩))
      · subst e
        have e0 : ds = [] := List.eq_nil_of_length_eq_zero l1
        subst e0
        exact k _ H (.tup ([] ++ es)) M (Tr.refl ab) ⟨p', ws, rfl, hp', hw⟩ q
      · subst e
        have e0 : es = [] := List.eq_nil_of_length_eq_zero l2
        subst e0
        exact k _ H (.tup (ds ++ [])) M (Tr.refl ab) ⟨p, vs, rfl, hp, by rw [List.append_nil]; exact hv⟩ q
      · exact k _ _ (.tup (ds ++ es)) M (Tr.newT ab ho) (rep_newT ho (hv.append hw)) q
    | _ => exact False.elim q
  | obj p =>
    cases dy with
    | obj p' =>
      obtain ⟨ds, m1, q⟩ := lstAt_ex q
      obtain ⟨es, m2, z, q⟩ := lstAt_ex q
      cases (show x = V.ref p from rx)
      cases (show y = V.ref p' from ry)
      obtain ⟨vs, h1, r1⟩ := ab p _ m1
      obtain ⟨ws, h2, r2⟩ := ab p' _ m2
      have l1 := r1.length
      have l2 := r2.length
      refine .inr (.inr (.inl ⟨p, p', vs, ws, rfl, rfl, h1, h2, by omega, fun o ho => ?_⟩))
      exact k _ _ (.obj o) _ (Tr.newM (mo := .lst (ds ++ es)) ab ho ⟨_, upd_same, repL_new ho (r1.append r2)⟩) rfl (q o (ab.fresh ho))
    | _ => exact False.elim q
  | _ => exact False.elim q
def ρI (C : Int → Int → Prop) (g : Int → Int → D) : AR2 := fun x y M Q => match x, y with
  | .int i, .int j => C i j ∧ Q (g i j) M
  | _, _ => False
def ρI0 (g : Int → Int → D) : AR2 := fun x y M Q => match x, y with
  | .int i, .int j => Q (g i j) M
  | _, _ => False
theorem sim_I {C : Int → Int → Prop} {g : Int → Int → D} {gv : Int → Int → V} (hg : ∀ H i j, Rep K H (g i j) (gv i j)) : SimR K (rI C gv) (ρI C g) := by
  intro x y dx dy H M Q Qc ab rx ry q k
  cases dx with
  | int i =>
    cases dy with
    | int j =>
      cases (show x = V.int i from rx)
      cases (show y = V.int j from ry)
      exact ⟨i, j, rfl, rfl, q.1, k _ H _ M (Tr.refl ab) (hg H i j) q.2⟩
    | _ => exact False.elim q
  | _ => exact False.elim q
theorem sim_I0 {g : Int → Int → D} {gv : Int → Int → V} (hg : ∀ H i j, Rep K H (g i j) (gv i j)) : SimR K (rI0 gv) (ρI0 g) := by
  intro x y dx dy H M Q Qc ab rx ry q k
  cases dx with
  | int i =>
    cases dy with
    | int j =>
      cases (show x = V.int i from rx)
      cases (show y = V.int j from ry)
      exact ⟨i, j, rfl, rfl, k _ H _ M (Tr.refl ab) (hg H i j) q⟩
    | _ => exact False.elim q
  | _ => exact False.elim q
abbrev ρSub : AR2 := ρI0 fun i j => .int (i - j)
abbrev ρMul : AR2 := ρI CMul fun i j => .int (i * j)
abbrev ρMod : AR2 := ρI (fun _ j => 0 < j) fun i j => .int (i % j)
abbrev ρFdiv : AR2 := ρI CDiv fun i j => .int (i / j)
abbrev ρPow : AR2 := ρI CPow fun i j => .int (i ^ j.toNat)
theorem sim_sub : SimR K (rI0 fun i j => .int (i - j)) ρSub := sim_I0 fun _ _ _ => rfl
theorem sim_mul : SimR K (rI CMul fun i j => .int (i * j)) ρMul := sim_I fun _ _ _ => rfl
theorem sim_mod : SimR K (rI (fun _ j => 0 < j) fun i j => .int (i % j)) ρMod := sim_I fun _ _ _ => rfl
theorem sim_fdiv : SimR K (rI CDiv fun i j => .int (i / j)) ρFdiv := sim_I fun _ _ _ => rfl
theorem sim_pow : SimR K (rI CPow fun i j => .int (i ^ j.toNat)) ρPow := sim_I fun _ _ _ => rfl
def rLtA : R2 := fun x y H Q => (rI0 fun i j => .bl (decide (i < j))) x y H Q ∨ ∃ i j, x = .str i ∧ y = .str j ∧ Q (.bl (decide (i.cps.toList < j.cps.toList))) H
theorem op_ltA : OpR X (compareOp .Lt) rLtA := op_lt.or op_lt_str
def ρIS (g : Int → Int → Bool) (f : Str → Str → Bool) : AR2 := fun x y M Q => match x, y with
  | .int i, .int j => Q (.bl (g i j)) M
  | .str i, .str j => Q (.bl (f i j)) M
  | _, _ => False
abbrev ρLt : AR2 := ρIS (fun i j => decide (i < j)) (fun i j => decide (i.cps.toList < j.cps.toList))
abbrev ρGt : AR2 := ρI0 fun i j => .bl (decide (j < i))
abbrev ρGe : AR2 := ρI0 fun i j => .bl (decide (j ≤ i))
theorem sim_IS {g : Int → Int → Bool} {f : Str → Str → Bool} : SimR K (fun x y H Q => (rI0 fun i j => .bl (g i j)) x y H Q ∨ ∃ i j, x = .str i ∧ y = .str j ∧ Q (.bl (f i j)) H) (ρIS g f) := by
  intro x y dx dy H M Q Qc ab rx ry q k
  cases dx with
  | int i =>
    cases dy with
    | int j =>
      cases (show x = V.int i from rx)
      cases (show y = V.int j from ry)
      exact .inl ⟨i, j, rfl, rfl, k _ H (.bl _) M (Tr.refl ab) rfl q⟩
    | _ => exact False.elim q
  | str i =>
    cases dy with
    | str j =>
      cases (show x = V.str i from rx)
      cases (show y = V.str j from ry)
      exact .inr ⟨i, j, rfl, rfl, k _ H (.bl _) M (Tr.refl ab) rfl q⟩
    | _ => exact False.elim q
  | _ => exact False.elim q
theorem sim_lt : SimR K rLtA ρLt := sim_IS
theorem sim_gt : SimR K (rI0 fun i j => .bl (decide (j < i))) ρGt := sim_I0 fun _ _ _ => rfl
theorem sim_ge : SimR K (rI0 fun i j => .bl (decide (j ≤ i))) ρGe := sim_I0 fun _ _ _ => rfl
mutual
def D.py : D → Option PyData
  | .non => some .none
  | .bl b => some (.bool b)
  | .int i => some (.int i)
  | .str x => some (.str x)
  | .tup ds => (D.pys ds).map .tuple
  | .obj _ => none
  | .fl _ => none
  | .key _ => none
def D.pys : List D → Option (List PyData)
  | [] => some []
  | d :: ds => d.py.bind fun p => (D.pys ds).map fun ps => p :: ps
end
mutual
theorem Rep.dp {H : Hp} : ∀ (d : D) (v : V) (p : PyData), Rep K H d v → d.py = some p → Dp K H v p
  | .non, v, p, h, e => by cases (Option.some.inj e); cases (show v = V.non from h); exact .non
  | .bl b, v, p, h, e => by cases (Option.some.inj e); cases (show v = V.bl b from h); exact .bl b
  | .int i, v, p, h, e => by cases (Option.some.inj e); cases (show v = V.int i from h); exact .int i
  | .str i, v, p, h, e => by cases (Option.some.inj e); cases (show v = V.str i from h); exact .str i
  | .obj _, v, p, h, e => by cases e
  | .fl _, v, p, h, e => by cases e
  | .key _, v, p, h, e => by cases e
  | .tup ds, v, p, h, e => by
    obtain ⟨a, vs, rfl, hT, hl⟩ := h
    rw [D.py, Option.map_eq_some_iff] at e
    obtain ⟨ps, e, rfl⟩ := e
    exact .tup hT (RepL.dp ds vs ps hl e)
theorem RepL.dp {H : Hp} : ∀ (ds : List D) (vs : List V) (ps : List PyData), RepL K H ds vs → D.pys ds = some ps → DpAll K H vs ps
  | [], vs, ps, h, e => by cases (show vs = [] from h); cases (Option.some.inj e); exact .nil
  | d :: ds, vs, ps, h, e => by
    obtain ⟨v, r, rfl, h1, h2⟩ := h
    rw [D.pys, Option.bind_eq_some_iff] at e
    obtain ⟨p, e1, e⟩ := e
    rw [Option.map_eq_some_iff] at e
    obtain ⟨ps', e2, rfl⟩ := e
    exact .cons (Rep.dp d v p h1 e1) (RepL.dp ds r ps' h2 e2)
end
def pyM (M : Sto) : D → Option PyData
  | .obj a => match M a with
    | some (.lst ds) => (D.pys ds).map .list
    | _ => none
  | d => d.py
theorem Rep.dpM {H : Hp} {M : Sto} (ab : Abs K M H) {d : D} {v : V} {p : PyData} (h : Rep K H d v) (e : pyM M d = some p) : Dp K H v p := by
  cases d with
  | obj a =>
    cases (show v = V.ref a from h)
    have e' : (match M a with | some (.lst ds) => (D.pys ds).map PyData.list | _ => none) = some p := e
    cases m : M a with
    | none => rw [m] at e'; cases e'
    | some mo =>
      cases mo with
      | dic kvs => rw [m] at e'; cases e'
      | raw o => rw [m] at e'; cases e'
      | dif od ws kvs => rw [m] at e'; cases e'
      | dtt kvs => rw [m] at e'; cases e'
      | lst ds =>
        rw [m] at e'
        obtain ⟨ps, e2, rfl⟩ := Option.map_eq_some_iff.mp (show (D.pys ds).map PyData.list = some p from e')
        obtain ⟨vs, h1, r1⟩ := ab a _ m
        exact .lst (SqL.of h1) (RepL.dp ds vs ps r1 e2)
  | non => exact Rep.dp _ v p h e
  | bl b => exact Rep.dp _ v p h e
  | int b => exact Rep.dp _ v p h e
  | str b => exact Rep.dp _ v p h e
  | tup b => exact Rep.dp _ v p h e
  | fl b => cases e
  | key b => cases e
def ρEqv (neg : Bool) : AR2 := fun x y M Q => ∃ p q, pyM M x = some p ∧ pyM M y = some q ∧ SeqAt.shaped p = true ∧ SeqAt.shaped q = true ∧ Q (.bl (if neg then !PyData.eqv p q else PyData.eqv p q)) M
def ρEq (neg : Bool) : AR2 := fun x y M Q => match x, y with
  | .str a, .str b => Q (.bl (if neg then !decide (a = b) else decide (a = b))) M
  | .int a, .int b => Q (.bl (if neg then !decide (a = b) else decide (a = b))) M
  | .bl a, .bl b => Q (.bl (if neg then !decide (a = b) else decide (a = b))) M
  | x, y => ρEqv neg x y M Q
def rEqA (K : PySem.W.Frag) (neg : Bool) : R2 := fun x y H Q => (if neg then rNe x y H Q else rEq x y H Q) ∨ (if neg then rNeD K x y H Q else rEqD K x y H Q)
theorem op_eqA (hu : X.A.units + 64 < cLine) : OpR X (compareOp .Eq) (rEqA X.K false) := op_eq.or (op_eqD hu)
theorem op_neA (hu : X.A.units + 64 < cLine) : OpR X (compareOp .NotEq) (rEqA X.K true) := op_ne.or (op_neD hu)
theorem sim_eqA {neg : Bool} : SimR K (rEqA K neg) (ρEq neg) := by
  intro x y dx dy H M Q Qc ab rx ry q k
  unfold ρEq at q
  split at q
  · rename_i a b
    cases (show x = V.str a from rx)
    cases (show y = V.str b from ry)
    refine .inl ?_
    cases neg with
    | true => exact ⟨rfl, k _ H (.bl _) M (Tr.refl ab) rfl (by rw [dec_str, Bool.beq_eq_decide_eq]; exact q)⟩
    | false => exact ⟨rfl, k _ H (.bl _) M (Tr.refl ab) rfl (by rw [dec_str, Bool.beq_eq_decide_eq]; exact q)⟩
  · rename_i a b
    cases (show x = V.int a from rx)
    cases (show y = V.int b from ry)
    refine .inl ?_
    cases neg with
    | true => exact ⟨rfl, k _ H (.bl _) M (Tr.refl ab) rfl (by rw [dec_int, Bool.beq_eq_decide_eq]; exact q)⟩
    | false => exact ⟨rfl, k _ H (.bl _) M (Tr.refl ab) rfl (by rw [dec_int, Bool.beq_eq_decide_eq]; exact q)⟩
  · rename_i a b
    cases (show x = V.bl a from rx)
    cases (show y = V.bl b from ry)
    refine .inl ?_
    cases neg with
    | true => exact ⟨rfl, k _ H (.bl _) M (Tr.refl ab) rfl (by rw [dec_bl, Bool.beq_eq_decide_eq]; exact q)⟩
    | false => exact ⟨rfl, k _ H (.bl _) M (Tr.refl ab) rfl (by rw [dec_bl, Bool.beq_eq_decide_eq]; exact q)⟩
  · obtain ⟨p, p', e1, e2, s1, s2, q⟩ := q
    refine .inr ?_
    cases neg with
    | true => exact ⟨p, p', rx.dpM ab e1, ry.dpM ab e2, s1, s2, k _ H (.bl _) M (Tr.refl ab) rfl q⟩
    | false => exact ⟨p, p', rx.dpM ab e1, ry.dpM ab e2, s1, s2, k _ H (.bl _) M (Tr.refl ab) rfl q⟩
def isNon : D → Bool
  | .non => true | .bl _ => false | .int _ => false | .str _ => false | .tup _ => false | .obj _ => false | .fl _ => false | .key _ => false
def ρIsN (neg : Bool) : AR2 := fun x y M Q => isNon y = true ∧ Q (.bl (if neg then !isNon x else isNon x)) M
theorem rep_non {H : Hp} {d : D} {v : V} (h : Rep K H d v) : decide (v = V.non) = isNon d := by
  cases d with
  | non => cases (show v = V.non from h); rfl
  | bl b => cases (show v = V.bl b from h); rfl
  | int b => cases (show v = V.int b from h); rfl
  | str b => cases (show v = V.str b from h); rfl
  | obj b => cases (show v = V.ref b from h); rfl
  | tup ds => obtain ⟨a, vs, rfl, _⟩ := h; rfl
  | fl ds => obtain ⟨a, vs, rfl, _⟩ := h; rfl
  | key ds => obtain ⟨a, rfl, _⟩ := h; rfl
theorem rep_isNon {H : Hp} {d : D} {v : V} (h : Rep K H d v) (e : isNon d = true) : v = V.non := by
  cases d with
  | non => exact h
  | _ => cases e
theorem sim_isN : SimR K (fun x y H Q => y = .non ∧ Q (.bl (decide (x = .non))) H) (ρIsN false) := by
  intro x y dx dy H M Q Qc ab rx ry q k
  refine ⟨rep_isNon ry q.1, k _ H (.bl (decide (x = .non))) M (Tr.refl ab) rfl ?_⟩
  rw [rep_non rx]
  exact q.2
def flatD : D → Bool
  | .non => true | .bl _ => true | .int _ => true | .str _ => true | _ => false
def eqF : D → D → Bool
  | .non, .non => true
  | .bl a, .bl b => a == b
  | .bl a, .int b => (if a then 1 else 0) == b
  | .int a, .bl b => a == (if b then 1 else 0)
  | .int a, .int b => a == b
  | .str a, .str b => decide (a = b)
  | _, _ => false
def ρIn (neg : Bool) : AR2 := fun x y M Q => match y with
  | .tup ds => flatD x = true ∧ ds.all flatD = true ∧ Q (.bl (if neg then !(ds.any fun y => eqF y x) else ds.any fun y => eqF y x)) M
  | .obj a => lstAt M a fun ds => ((flatD x = true ∧ ds.all flatD = true ∧ Q (.bl (if neg then !(ds.any fun y => eqF y x) else ds.any fun y => eqF y x)) M) ∨
      ∃ p ps, x.py = some p ∧ D.pys ds = some ps ∧ SeqAt.shaped p = true ∧ SeqAt.shaped (.list ps) = true ∧ Q (.bl (if neg then !(ps.any fun z => PyData.eqv z p) else ps.any fun z => PyData.eqv z p)) M)
  | .str z => ∃ c : Nat, x = .str ⟨#[c]⟩ ∧ Q (.bl (if neg then !decide (c ∈ z.cps.toList) else decide (c ∈ z.cps.toList))) M
  | _ => False
def ρIx : AR2 := fun x y M Q => match x, y with
  | .tup ds, .int i => optAt (atI ds i) fun d => Q d M
  | .str z, .int i => z.length ≤ sizeLine ∧ optAt (atI z.cps.toList i) fun c => Q (.str ⟨#[c]⟩) M
  | .obj a, .int i => lstAt M a fun ds => optAt (atI ds i) fun d => Q d M
  | .fl ds, .int i => optAt (atI ds i) fun d => Q d M
  | _, _ => False
theorem rep_at {H : Hp} {ds : List D} {vs : List V} {i : Int} {d : D} (h : RepL K H ds vs) (e : atI ds i = some d) : ∃ v, atI vs i = some v ∧ Rep K H d v := by
  unfold atI at e ⊢
  rw [Option.bind_eq_some_iff] at e
  obtain ⟨j, e1, e2⟩ := e
  obtain ⟨v, e3, r⟩ := h.get e2
  exact ⟨v, by rw [← h.length, e1]; exact e3, r⟩
theorem sim_ix : SimR K (rIx K) ρIx := by
  intro x y dx dy H M Q Qc ab rx ry q k
  cases dx with
  | tup ds =>
    cases dy with
    | int i =>
      obtain ⟨d, e, q⟩ := optAt_ex q
      obtain ⟨p, vs, rfl, hp, hv⟩ := rx
      cases (show y = V.int i from ry)
      obtain ⟨v, e', r⟩ := rep_at hv e
      exact .inr (.inl ⟨p, vs, i, v, rfl, rfl, hp, e', k v H d M (Tr.refl ab) r q⟩)
    | _ => exact False.elim q
  | str z =>
    cases dy with
    | int i =>
      obtain ⟨l, q⟩ := q
      obtain ⟨c, e, q⟩ := optAt_ex q
      cases (show x = V.str z from rx)
      cases (show y = V.int i from ry)
      exact .inr (.inr ⟨z, i, c, rfl, rfl, l, e, k _ H (.str _) M (Tr.refl ab) rfl q⟩)
    | _ => exact False.elim q
  | obj a =>
    cases dy with
    | int i =>
      obtain ⟨ds, m, q⟩ := lstAt_ex q
      obtain ⟨d, e, q⟩ := optAt_ex q
      cases (show x = V.ref a from rx)
      cases (show y = V.int i from ry)
      obtain ⟨vs, h1, hv⟩ := ab a _ m
      obtain ⟨v, e', r⟩ := rep_at hv e
      exact .inl ⟨a, vs, i, v, rfl, rfl, SqL.of h1, e', k v H d M (Tr.refl ab) r q⟩
    | _ => exact False.elim q
  | fl ds =>
    cases dy with
    | int i =>
      obtain ⟨d, e, q⟩ := optAt_ex q
      obtain ⟨p, vs, rfl, hp, hv⟩ := rx
      cases (show y = V.int i from ry)
      obtain ⟨v, e', r⟩ := rep_at hv e
      exact .inl ⟨p, vs, i, v, rfl, rfl, hp.l, e', k v H d M (Tr.refl ab) r q⟩
    | _ => exact False.elim q
  | _ => exact False.elim q
theorem ae_ix {W : WX} {a b : Expr} {α β : ATE} {pos : Pos} (ha : AE X W a α) (hb : AE X W b β) (hs : PlainIx b) : AE X W (.Subscript a b pos) (aOp ρIx α β) := PE.imp (pe_ix ix_seq ha hb hs) fun _ _ _ => s_op sim_ix
end

section
variable {W : WX} {X : Cx} {a b c : Expr} {α β γ : ATE} {A B : ATT} {rest : List Expr} {pos : Pos}
def aTest (a : ATE) : ATT := fun ax env M Q => a ax env M fun x M1 => match x with
  | .bl b => Q b M1
  | _ => False
theorem at_cmpR {op : CmpOp} {r : R2} {ρ : AR2} (ho : OpR X (compareOp op) r) (hr : SimR X.K r ρ) (ha : AE X W a α) (hb : AE X W b β) (hm : behindInMarks op b = false) : AT X W (.Compare a [op] [b] pos) (aTest (aOp ρ α β)) :=
  PT.imp (pt_cmpR ho ha hb hm) fun σ H Q h => by
    obtain ⟨ax, env, M, Qa, S, q, k⟩ := h
    refine s_op hr (ρ := ρ) ⟨ax, env, M, _, S, q, fun v H' d M' t r q => ?_⟩
    cases d with
    | bl b => cases (show v = V.bl b from r); exact ⟨b, rfl, k b H' M' t q⟩
    | _ => exact False.elim q
def aTruth (a : ATE) : ATT := fun ax env M Q => a ax env M fun x M1 => match x with
  | .non => Q false M1
  | .bl b => Q b M1
  | .int i => Q (i != 0) M1
  | .str z => z.length ≤ sizeLine ∧ Q ((z.length : Int) != 0) M1
  | .tup ds => Q (!ds.isEmpty) M1
  | .obj p => match M1 p with
    | some (.lst ds) => Q (!ds.isEmpty) M1
    | some (.dic kvs) => Q (!kvs.isEmpty) M1
    | _ => False
  | .fl _ => False
  | .key _ => False
theorem isEmpty_rep {K : PySem.W.Frag} {H : Hp} {ds : List D} {vs : List V} (h : RepL K H ds vs) : vs.isEmpty = ds.isEmpty := by
  cases ds with
  | nil => cases (show vs = [] from h); rfl
  | cons d ds => obtain ⟨v, r, rfl, _⟩ := h; rfl
theorem isEmpty_repK {K : PySem.W.Frag} {H : Hp} {ds : List (Key × D)} {vs : List (Key × V)} (h : RepK K H ds vs) : vs.isEmpty = ds.isEmpty := by
  cases h <;> rfl
theorem at_truth (ha : AE X W a α) (he : ∀ whole, isTrue a X.env whole = (do let v ← whole; standAt a.pos; holding [v] (truthy v)) := by intro _; rfl) : AT X W a (aTruth α) :=
  PT.imp (pt_truth ha he) fun σ H Q h => by
    obtain ⟨ax, env, M, Qa, S, q, k⟩ := h
    refine ⟨ax, env, M, _, S, q, fun v H' d M' t r q => ?_⟩
    cases d with
    | non => cases (show v = V.non from r); exact ⟨false, rfl, k _ H' M' t q⟩
    | bl b => cases (show v = V.bl b from r); exact ⟨b, rfl, k _ H' M' t q⟩
    | int i => cases (show v = V.int i from r); exact ⟨_, rfl, k _ H' M' t q⟩
    | str z => cases (show v = V.str z from r); exact ⟨_, ⟨q.1, rfl⟩, k _ H' M' t q.2⟩
    | tup ds =>
      obtain ⟨p, vs, rfl, hp, hv⟩ := r
      exact ⟨_, .inr (.inl ⟨vs, hp, by rw [isEmpty_rep hv]⟩), k _ H' M' t q⟩
    | obj p =>
      cases (show v = V.ref p from r)
      have q' : (match M' p with | some (.lst ds) => Qa (!ds.isEmpty) M' | some (.dic kvs) => Qa (!kvs.isEmpty) M' | _ => False) := q
      split at q'
      · rename_i m
        obtain ⟨vs, h1, hv⟩ := t.abs p _ m
        exact ⟨_, .inl ⟨vs, SqL.of h1, by rw [isEmpty_rep hv]⟩, k _ H' M' t q'⟩
      · rename_i m
        obtain ⟨vs, h1, hv⟩ := t.abs p _ m
        exact ⟨_, .inr (.inr ⟨vs, h1, by rw [isEmpty_repK hv]⟩), k _ H' M' t q'⟩
      · exact q'.elim
    | fl ds => exact False.elim q
    | key ds => exact False.elim q
def aAnd (A B : ATT) : ATT := fun ax env M Q => A ax env M fun c M1 => if c = true then B ax env M1 Q else Q false M1
def aOr (A B : ATT) : ATT := fun ax env M Q => A ax env M fun c M1 => if c = true then Q true M1 else B ax env M1 Q
def aNot (A : ATT) : ATT := fun ax env M Q => A ax env M fun c M1 => Q (!c) M1
theorem aw_and1 (ha : AT X W a A) : AW X W (.BoolOp .And [a] pos) A := pw_and1 ha
theorem aw_or1 (ha : AT X W a A) : AW X W (.BoolOp .Or [a] pos) A := pw_or1 ha
theorem aw_and (ha : AT X W a A) (hb : AW X W (.BoolOp .And (b :: rest) pos) B) : AW X W (.BoolOp .And (a :: b :: rest) pos) (aAnd A B) := PW.imp (pw_and ha hb) fun σ H Q h => by
  obtain ⟨ax, env, M, Qa, S, q, k⟩ := h
  refine ⟨ax, env, M, _, S, q, fun c H1 M1 t q => ?_⟩
  cases c with
  | true => exact ⟨ax, env, M1, Qa, S.next t, q, fun b H' M' t' q => k b H' M' (t.trans t') q⟩
  | false => exact k false H1 M1 t q
theorem aw_or (ha : AT X W a A) (hb : AW X W (.BoolOp .Or (b :: rest) pos) B) : AW X W (.BoolOp .Or (a :: b :: rest) pos) (aOr A B) := PW.imp (pw_or ha hb) fun σ H Q h => by
  obtain ⟨ax, env, M, Qa, S, q, k⟩ := h
  refine ⟨ax, env, M, _, S, q, fun c H1 M1 t q => ?_⟩
  cases c with
  | false => exact ⟨ax, env, M1, Qa, S.next t, q, fun b H' M' t' q => k b H' M' (t.trans t') q⟩
  | true => exact k true H1 M1 t q
theorem at_w (h : AW X W a A) : AT X W a A := PW.pt h
theorem at_not (ha : AT X W a A) : AT X W (.UnaryOp .Not a pos) (aNot A) := PT.imp (pt_not ha) fun σ H Q h => by
  obtain ⟨ax, env, M, Qa, S, q, k⟩ := h
  exact ⟨ax, env, M, _, S, q, fun c H1 M1 t q => k _ H1 M1 t q⟩
def aChain (ρ ρ' : AR2) (a b c : ATE) : ATE := fun ax env M Q => a ax env M fun x M1 => b ax env M1 fun y M2 => ρ x y M2 fun z M3 => match z with
  | .bl k => if k = true then c ax env M3 fun w M4 => ρ' y w M4 Q else Q (.bl false) M3
  | _ => False
def aTru1 (d : D) (M : Sto) (Q : Bool → Prop) : Prop := match d with
  | .non => Q false
  | .bl b => Q b
  | .int i => Q (i != 0)
  | .str z => z.length ≤ sizeLine ∧ Q ((z.length : Int) != 0)
  | .tup ds => Q (!ds.isEmpty)
  | .obj p => match M p with
    | some (.lst ds) => Q (!ds.isEmpty)
    | some (.dic kvs) => Q (!kvs.isEmpty)
    | _ => False
  | .fl _ => False
  | .key _ => False
theorem tru1_rep {K : PySem.W.Frag} {M : Sto} {H : Hp} (ab : Abs K M H) {d : D} {v : V} (r : Rep K H d v) {Q : Bool → Prop} (q : aTru1 d M Q) : ∃ k, TruV K v H k ∧ Q k := by
  cases d with
  | non => cases (show v = V.non from r); exact ⟨false, rfl, q⟩
  | bl b => cases (show v = V.bl b from r); exact ⟨b, rfl, q⟩
  | int i => cases (show v = V.int i from r); exact ⟨_, rfl, q⟩
  | str z => cases (show v = V.str z from r); exact ⟨_, ⟨q.1, rfl⟩, q.2⟩
  | tup ds =>
    obtain ⟨p, vs, rfl, hp, hv⟩ := r
    exact ⟨_, .inr (.inl ⟨vs, hp, by rw [isEmpty_rep hv]⟩), q⟩
  | obj p =>
    cases (show v = V.ref p from r)
    have q' : (match M p with | some (.lst ds) => Q (!ds.isEmpty) | some (.dic kvs) => Q (!kvs.isEmpty) | _ => False) := q
    split at q'
    · rename_i m
      obtain ⟨vs, h1, hv⟩ := ab p _ m
      exact ⟨_, .inl ⟨vs, SqL.of h1, by rw [isEmpty_rep hv]⟩, q'⟩
    · rename_i m
      obtain ⟨vs, h1, hv⟩ := ab p _ m
      exact ⟨_, .inr (.inr ⟨vs, h1, by rw [isEmpty_repK hv]⟩), q'⟩
    · exact q'.elim
  | fl ds => exact False.elim q
  | key ds => exact False.elim q
def aOrV (a b : ATE) : ATE := fun ax env M Q => a ax env M fun x M1 => aTru1 x M1 fun k => if k = true then Q x M1 else b ax env M1 Q
def aAndV (a b : ATE) : ATE := fun ax env M Q => a ax env M fun x M1 => aTru1 x M1 fun k => if k = true then b ax env M1 Q else Q x M1
def aNotV (a : ATE) : ATE := fun ax env M Q => a ax env M fun x M1 => aTru1 x M1 fun k => Q (.bl (!k)) M1
theorem ae_one {op} (h : AE X W a α) : AE X W (.BoolOp op [a] pos) α := pe_one h
theorem ae_and (ha : AE X W a α) (hb : AE X W (.BoolOp .And (b :: rest) pos) β) : AE X W (.BoolOp .And (a :: b :: rest) pos) (aAndV α β) := PE.imp (pe_andT ha hb) fun σ H Q h => by
  obtain ⟨ax, env, M, Qa, S, q, k⟩ := h
  refine ⟨ax, env, M, _, S, q, fun x H1 dx M1 t r q => ?_⟩
  obtain ⟨b, tv, q⟩ := tru1_rep t.abs r q
  refine ⟨b, tv, ?_⟩
  cases b with
  | false => exact k x H1 dx M1 t r q
  | true => exact ⟨ax, env, M1, Qa, S.next t, q, fun v H' d M' t' r' q => k v H' d M' (t.trans t') r' q⟩
theorem ae_not (ha : AE X W a α) : AE X W (.UnaryOp .Not a pos) (aNotV α) := PE.imp (pe_notT ha) fun σ H Q h => by
  obtain ⟨ax, env, M, Qa, S, q, k⟩ := h
  refine ⟨ax, env, M, _, S, q, fun x H1 dx M1 t r q => ?_⟩
  obtain ⟨b, tv, q⟩ := tru1_rep t.abs r q
  exact ⟨b, tv, k _ H1 (.bl (!b)) M1 t rfl q⟩
def aIfE (A : ATT) (a b : ATE) : ATE := fun ax env M Q => A ax env M fun c M1 => if c = true then a ax env M1 Q else b ax env M1 Q
theorem ae_ifExp (hc : AT X W c A) (ha : AE X W a α) (hb : AE X W b β) : AE X W (.IfExp c a b pos) (aIfE A α β) := PE.imp (pe_ifExp hc ha hb) fun σ H Q h => by
  obtain ⟨ax, env, M, Qa, S, q, k⟩ := h
  refine ⟨ax, env, M, _, S, q, fun c H1 M1 t q => ?_⟩
  cases c with
  | true => exact ⟨ax, env, M1, Qa, S.next t, q, fun v H' d M' t' r q => k v H' d M' (t.trans t') r q⟩
  | false => exact ⟨ax, env, M1, Qa, S.next t, q, fun v H' d M' t' r q => k v H' d M' (t.trans t') r q⟩
def aNeg (a : ATE) : ATE := fun ax env M Q => a ax env M fun x M1 => match x with
  | .int i => Q (.int (-i)) M1
  | _ => False
theorem ae_neg (ha : AE X W a α) : AE X W (.UnaryOp .USub a pos) (aNeg α) := PE.imp (pe_un un_neg ha) fun σ H Q h => by
  obtain ⟨ax, env, M, Qa, S, q, k⟩ := h
  refine ⟨ax, env, M, _, S, q, fun x H1 dx M1 t r q => ?_⟩
  cases dx with
  | int i => cases (show x = V.int i from r); exact ⟨i, rfl, k _ H1 (.int (-i)) M1 t rfl q⟩
  | _ => exact False.elim q
end

section
variable {W : WX} {X : Cx} {e : Expr} {es : List Expr} {α β : ATE} {τ : ATA} {pos : Pos} {x : Str} {p : Pos}
def aNil : ATA := fun _ _ M Q => Q [] M
def aCons (a : ATE) (r : ATA) : ATA := fun ax env M Q => a ax env M fun x M1 => r ax env M1 fun xs M2 => Q (x :: xs) M2
theorem aa_nil : AA X W [] aNil := PA.imp pa_nil fun σ H Q h => by
  obtain ⟨ax, env, M, Qa, S, q, k⟩ := h
  exact k [] H [] M (Tr.refl S.abs) rfl q
theorem aa_cons (ha : AE X W e α) (hr : AA X W es τ) (hs : starEach (e :: es) X.env = (false, eval e X.env) :: starEach es X.env := by rfl) : AA X W (e :: es) (aCons α τ) := PA.imp (pa_cons ha hr hs) fun σ H Q h => by
  obtain ⟨ax, env, M, Qa, S, q, k⟩ := h
  refine ⟨ax, env, M, _, S, q, fun v H1 d M1 t r q => ?_⟩
  exact ⟨ax, env, M1, _, S.next t, q, fun vs H2 ds M2 t2 r2 q2 => k (v :: vs) H2 (d :: ds) M2 (t.trans t2) ⟨v, vs, rfl, t2.rep t.abs r, r2⟩ q2⟩
def aTup (τ : ATA) : ATE := fun ax env M Q => τ ax env M fun ds M1 => ds.length ≤ sizeLine ∧ Q (.tup ds) M1
def aLst (τ : ATA) : ATE := fun ax env M Q => τ ax env M fun ds M1 => ds.length ≤ sizeLine ∧ New (.lst ds) M1 Q
theorem ae_tup {x1} (h : AA X W es τ) : AE X W (.Tuple es x1 pos) (aTup τ) := PE.imp (pe_tup h) fun σ H Q h => by
  obtain ⟨ax, env, M, Qa, S, q, k⟩ := h
  refine ⟨ax, env, M, _, S, q, fun vs H1 ds M1 t r q => ?_⟩
  refine ⟨by rw [← r.length]; exact q.1, fun p hp => ?_⟩
  exact k _ _ (.tup ds) M1 (t.trans (Tr.newT t.abs hp)) (rep_newT hp r) q.2
theorem ae_lst (h : AA X W es τ) : AE X W (.List es pos) (aLst τ) := PE.imp (pe_lst h) fun σ H Q h => by
  obtain ⟨ax, env, M, Qa, S, q, k⟩ := h
  refine ⟨ax, env, M, _, S, q, fun vs H1 ds M1 t r q => ?_⟩
  refine ⟨by rw [← r.length]; exact q.1, fun p hp => ?_⟩
  exact k _ _ (.obj p) _ (t.trans (Tr.newM (mo := .lst ds) t.abs hp ⟨vs, upd_same, repL_new hp r⟩)) rfl (q.2 p (t.abs.fresh hp))
def aDNew : ATE := fun _ _ M Q => New (.dic []) M Q
theorem ae_dnew : AE X W (.Dict [] [] pos) aDNew := PE.imp pe_dnewK fun σ H Q h => by
  obtain ⟨ax, env, M, Qa, S, q, k⟩ := h
  intro p hp
  exact k _ _ (.obj p) _ (Tr.newM (mo := .dic []) S.abs hp ⟨[], upd_same, .nil⟩) rfl (q p (S.abs.fresh hp))
abbrev ASp := List D → Sto → (D → Sto → Prop) → (Value → List (Str × D) → Sto → Prop) → Prop
def conc (K : PySem.W.Frag) (n : Nat) (A : ASp) : Sp := fun vs H Q E => ∃ ds M Qa Xa, vs.length = n ∧ RepL K H ds vs ∧ Abs K M H ∧ Tabs M H ∧ A ds M Qa Xa ∧ (∀ v H' d M', Tr K M H M' H' → Rep K H' d v → Qa d M' → Q v H') ∧
  ∀ cls d H' M' fs, Tr K M H M' H' → RepX K H' d fs → Xa cls fs M' → E cls d H'
def xa0 : Value → List (Str × D) → Sto → Prop := fun _ _ _ => False
def Wait (n : Nat) (A : ASp) (ds : List D) (M : Sto) (Q : D → Sto → Prop) : Prop := ds.length = n ∧ A ds M Q xa0
def aCall (n : Nat) (A : ASp) (τ : ATA) : ATE := fun ax env M Q => τ ax env M fun ds M1 => Wait n A ds M1 Q
variable {CX : CXT} {k : Nat} {f : Addr} {fd : FuncData} {ps : List Str} {A : ASp} {n : Nat}
theorem s_call {K : PySem.W.Frag} {σ : L2.St} {H : Hp} {Q : VK} (h : cE K W (aCall n A τ) σ H Q) : tCall (conc K n A) [] E0 (cA K W τ) σ H Q := by
  obtain ⟨ax, env, M, Qa, S, q, k⟩ := h
  refine ⟨ax, env, M, _, S, q, fun vs H1 ds M1 t r q => ?_⟩
  show conc K n A (vs ++ []) H1 Q E0
  rw [List.append_nil]
  exact ⟨ds, M1, Qa, xa0, by rw [← r.length]; exact q.1, r, t.abs, (S.next t).tb, q.2, fun v H' d M' t' r' q' => k v H' d M' (t.trans t') r' q', fun cls d H' M' fs t' rx q' => q'.elim⟩
theorem ae_call (F : FnOk X.prog X.w X.K X.mg X.base CX0 k f fd ps (conc X.K n A)) (hr : Room k X.A) (hg : Gl X x) (hm : X.mg x = some (.ref f)) (hk : PySem.W.keepIn X.K (.ref f) = true) (hb : Binds X.K fd ps [])
    (ha : AA X W (e :: es) τ) (hdb : (x == ("__debug__" : Str)) = false := by decide) (he : starEach (e :: es) X.env = (false, eval e X.env) :: starEach es X.env := by rfl) (hpl : (backTo pos (starEach es X.env)).any (·.1) = false := by rfl) :
    AE X W (.Call (.Name x p) (e :: es) [] pos) (aCall n A τ) :=
  PE.imp (pe_call F hr hg hm hk hb .nil pass0 ha hdb he hpl) fun _ _ _ => s_call
def aCB (ρ : ARs) (τ : ATA) : ATE := fun ax env M Q => τ ax env M fun ds M1 => ρ ds M1 Q
theorem s_cb {K : PySem.W.Frag} {r : List V → Hp → VK → Prop} {ρ : ARs} (hr : SimC K r ρ) {σ : L2.St} {H : Hp} {Q : VK} (h : cE K W (aCB ρ τ) σ H Q) : tCB r (cA K W τ) σ H Q := by
  obtain ⟨ax, env, M, Qa, S, q, k⟩ := h
  refine ⟨ax, env, M, _, S, q, fun vs H1 ds M1 t r' q => ?_⟩
  exact hr vs ds H1 M1 Qa _ t.abs r' q fun v H' d M' t' r2 q' => k v H' d M' (t.trans t') r2 q'
variable {id T : String} {r : List V → Hp → VK → Prop} {ρ : ARs}
theorem ae_callB (hc : CallR X (.builtin id) r) (hs : SimC X.K r ρ) (hg : Gl X x) (hm : X.mg x = none) (hv : bootBuiltins x = some (.builtin id)) (ha : AA X W (e :: es) τ) (hn : x ≠ "__name__" := by decide) (hdb : (x == ("__debug__" : Str)) = false := by decide)
    (he : starEach (e :: es) X.env = (false, eval e X.env) :: starEach es X.env := by rfl) (hpl : (backTo pos (starEach es X.env)).any (·.1) = false := by rfl) : AE X W (.Call (.Name x p) (e :: es) [] pos) (aCB ρ τ) :=
  PE.imp (pe_callB hc hg hm hv ha hn hdb he hpl) fun _ _ _ => s_cb hs
theorem ae_callTy (hc : CallR X (.type T) r) (hs : SimC X.K r ρ) (hg : Gl X x) (hm : X.mg x = none) (hv : bootBuiltins x = some (.type T)) (ha : AA X W (e :: es) τ) (hn : x ≠ "__name__" := by decide) (hdb : (x == ("__debug__" : Str)) = false := by decide)
    (he : starEach (e :: es) X.env = (false, eval e X.env) :: starEach es X.env := by rfl) (hpl : (backTo pos (starEach es X.env)).any (·.1) = false := by rfl) : AE X W (.Call (.Name x p) (e :: es) [] pos) (aCB ρ τ) :=
  PE.imp (pe_callTy hc hg hm hv ha hn hdb he hpl) fun _ _ _ => s_cb hs
variable {K : PySem.W.Frag}
def rLenA (K : PySem.W.Frag) : List V → Hp → VK → Prop := fun xs H Q => (∃ p ys, xs = [.ref p] ∧ (SqL K H p ys ∨ SqT K H p ys) ∧ Q (.int ys.length) H) ∨ (∃ z, xs = [.str z] ∧ z.length ≤ sizeLine ∧ Q (.int z.length) H)
theorem call_lenA : CallR X (.builtin "len") (rLenA X.K) := call_len_seq.or call_len_str
def ρLen : ARs := fun ds M Q => match ds with
  | [.tup ds] => Q (.int ds.length) M
  | [.str z] => z.length ≤ sizeLine ∧ Q (.int z.length) M
  | [.fl ds] => Q (.int ds.length) M
  | [.obj p] => lstAt M p fun ds => Q (.int ds.length) M
  | _ => False
theorem repL1 {H : Hp} {d : D} {xs : List V} (h : RepL K H [d] xs) : ∃ v, xs = [v] ∧ Rep K H d v := by
  obtain ⟨v, r, rfl, h1, h2⟩ := h
  cases (show r = [] from h2)
  exact ⟨v, rfl, h1⟩
theorem repL2 {H : Hp} {d e : D} {xs : List V} (h : RepL K H [d, e] xs) : ∃ v w, xs = [v, w] ∧ Rep K H d v ∧ Rep K H e w := by
  obtain ⟨v, r, rfl, h1, h2⟩ := h
  obtain ⟨w, rfl, h3⟩ := repL1 h2
  exact ⟨v, w, rfl, h1, h3⟩
theorem sim_len : SimC K (rLenA K) ρLen := by
  intro xs ds H M Q Qc ab rx q k
  unfold ρLen at q
  split at q
  · obtain ⟨v, rfl, r1⟩ := repL1 rx
    obtain ⟨p, vs, rfl, hp, hv⟩ := r1
    exact .inl ⟨p, vs, rfl, .inr hp, k _ H (.int _) M (Tr.refl ab) rfl (by rw [← hv.length]; exact q)⟩
  · obtain ⟨v, rfl, r1⟩ := repL1 rx
    cases (show v = V.str _ from r1)
    exact .inr ⟨_, rfl, q.1, k _ H (.int _) M (Tr.refl ab) rfl q.2⟩
  · obtain ⟨v, rfl, r1⟩ := repL1 rx
    obtain ⟨p, vs, rfl, hp, hv⟩ := r1
    exact .inl ⟨p, vs, rfl, .inl hp.l, k _ H (.int _) M (Tr.refl ab) rfl (by rw [← hv.length]; exact q)⟩
  · obtain ⟨v, rfl, r1⟩ := repL1 rx
    cases (show v = V.ref _ from r1)
    obtain ⟨ds, m, q⟩ := lstAt_ex q
    obtain ⟨vs, h1, hv⟩ := ab _ _ m
    exact .inl ⟨_, vs, rfl, .inl (SqL.of h1), k _ H (.int _) M (Tr.refl ab) rfl (by rw [← hv.length]; exact q)⟩
  · exact q.elim
def ρInt : ARs := fun ds M Q => match ds with
  | [.int i] => Q (.int i) M
  | [.bl b] => Q (.int (if b then 1 else 0)) M
  | _ => False
theorem sim_int : SimC K (fun xs H Q => (∃ i, xs = [.int i] ∧ Q (.int i) H) ∨ ∃ k, xs = [.bl k] ∧ Q (.int (if k then 1 else 0)) H) ρInt := by
  intro xs ds H M Q Qc ab rx q k
  unfold ρInt at q
  split at q
  · obtain ⟨v, rfl, r1⟩ := repL1 rx
    cases (show v = V.int _ from r1)
    exact .inl ⟨_, rfl, k _ H (.int _) M (Tr.refl ab) rfl q⟩
  · obtain ⟨v, rfl, r1⟩ := repL1 rx
    cases (show v = V.bl _ from r1)
    exact .inr ⟨_, rfl, k _ H (.int _) M (Tr.refl ab) rfl q⟩
  · exact q.elim
def ρTuple : ARs := fun ds M Q => match ds with
  | [.tup ds] => Q (.tup ds) M
  | [.obj p] => lstAt M p fun ds => Q (.tup ds) M
  | _ => False
theorem sim_tuple : SimC K (fun xs H Q => ∃ p ys, xs = [.ref p] ∧ ((SqL K H p ys ∧ ∀ l, H l = none → Q (.ref l) (upd H l (.tup ys))) ∨ (SqT K H p ys ∧ Q (.ref p) H))) ρTuple := by
  intro xs ds H M Q Qc ab rx q k
  unfold ρTuple at q
  split at q
  · obtain ⟨v, rfl, r1⟩ := repL1 rx
    obtain ⟨p, vs, rfl, hp, hv⟩ := r1
    exact ⟨p, vs, rfl, .inr ⟨hp, k _ H (.tup _) M (Tr.refl ab) ⟨p, vs, rfl, hp, hv⟩ q⟩⟩
  · obtain ⟨v, rfl, r1⟩ := repL1 rx
    cases (show v = V.ref _ from r1)
    obtain ⟨ds, m, q⟩ := lstAt_ex q
    obtain ⟨vs, h1, hv⟩ := ab _ _ m
    exact ⟨_, vs, rfl, .inl ⟨SqL.of h1, fun l hl => k _ _ (.tup ds) M (Tr.newT ab hl) (rep_newT hl hv) q⟩⟩
  · exact q.elim
def ρList : ARs := fun ds M Q => match ds with
  | [.tup ds] => New (.lst ds) M Q
  | [.obj p] => lstAt M p fun ds => New (.lst ds) M Q
  | _ => False
theorem sim_list : SimC K (fun xs H Q => ∃ p ys, xs = [.ref p] ∧ (SqL K H p ys ∨ SqT K H p ys) ∧ ∀ l, H l = none → Q (.ref l) (upd H l (.lst ys))) ρList := by
  intro xs ds H M Q Qc ab rx q k
  unfold ρList at q
  split at q
  · rename_i ds
    obtain ⟨v, rfl, r1⟩ := repL1 rx
    obtain ⟨p, vs, rfl, hp, hv⟩ := r1
    exact ⟨p, vs, rfl, .inr hp, fun l hl => k _ _ (.obj l) _ (Tr.newM (mo := .lst ds) ab hl ⟨vs, upd_same, repL_new hl hv⟩) rfl (q l (ab.fresh hl))⟩
  · obtain ⟨v, rfl, r1⟩ := repL1 rx
    cases (show v = V.ref _ from r1)
    obtain ⟨ds, m, q⟩ := lstAt_ex q
    obtain ⟨vs, h1, hv⟩ := ab _ _ m
    exact ⟨_, vs, rfl, .inl (SqL.of h1), fun l hl => k _ _ (.obj l) _ (Tr.newM (mo := .lst ds) ab hl ⟨vs, upd_same, repL_new hl hv⟩) rfl (q l (ab.fresh hl))⟩
  · exact q.elim
def tyN (M : Sto) : D → String
  | .non => "NoneType" | .bl _ => "bool" | .int _ => "int" | .str _ => "str" | .tup _ => "tuple"
  | .obj p => match M p with
    | some (.lst _) => "list"
    | some (.dic _) => "dict"
    | _ => ""
  | .fl _ => ""
  | .key _ => ""
def aIsi (T : String) (a : ATE) : ATE := fun ax env M Q => a ax env M fun x M1 => optAt (kitB (tyN M1 x) T) fun b => Q (.bl b) M1
theorem rep_ty {M : Sto} {H : Hp} (ab : Abs K M H) {d : D} {v : V} (h : Rep K H d v) (hne : tyN M d ≠ "") : TyX K H v (.type (tyN M d)) := by
  cases d with
  | non => cases (show v = V.non from h); exact .base .non
  | bl b => cases (show v = V.bl b from h); exact .base (.bl b)
  | int b => cases (show v = V.int b from h); exact .base (.int b)
  | str b => cases (show v = V.str b from h); exact .base (.str b)
  | tup ds =>
    obtain ⟨a, vs, rfl, hT, _⟩ := h
    rcases hT with (hT | ⟨o, hT⟩) | ⟨o, its, n, hk, hc, _⟩
    · exact .base (.tup hT)
    · exact .fTuple hT
    · exact .kTuple hk hc
  | obj p =>
    cases (show v = V.ref p from h)
    cases m : M p with
    | none =>
      refine absurd ?_ hne
      show (match M p with | some (.lst _) => "list" | some (.dic _) => "dict" | _ => "") = ""
      rw [m]
    | some mo =>
      have z := ab p mo m
      cases mo with
      | lst ds =>
        obtain ⟨vs, h1, _⟩ := z
        have e : tyN M (.obj p) = "list" := by
          show (match M p with | some (.lst _) => "list" | some (.dic _) => "dict" | _ => "") = "list"
          rw [m]
        rw [e]
        exact .base (.lst h1)
      | dic ds =>
        obtain ⟨vs, h1, _⟩ := z
        have e : tyN M (.obj p) = "dict" := by
          show (match M p with | some (.lst _) => "list" | some (.dic _) => "dict" | _ => "") = "dict"
          rw [m]
        rw [e]
        exact .base (.dK h1)
      | raw o =>
        refine absurd ?_ hne
        show (match M p with | some (.lst _) => "list" | some (.dic _) => "dict" | _ => "") = ""
        rw [m]
      | dif od ws kvs =>
        refine absurd ?_ hne
        show (match M p with | some (.lst _) => "list" | some (.dic _) => "dict" | _ => "") = ""
        rw [m]
      | dtt kvs =>
        refine absurd ?_ hne
        show (match M p with | some (.lst _) => "list" | some (.dic _) => "dict" | _ => "") = ""
        rw [m]
  | fl ds => exact absurd rfl hne
  | key ds => exact absurd rfl hne
theorem ae_isi {y : Str} {py : Pos} {α : ATE} (hg : Gl X x) (hm : X.mg x = none) (hv : bootBuiltins x = some (.builtin "isinstance")) (ha : AE X W e α) (gy : Gl X y) (my : X.mg y = none) (vy : bootBuiltins y = some (.type T)) (hT : ∀ b, kitB "" T ≠ some b)
    (ny : y ≠ "__name__" := by decide) (dy : (y == ("__debug__" : Str)) = false := by decide) (hn : x ≠ "__name__" := by decide) (hdb : (x == ("__debug__" : Str)) = false := by decide)
    (h1 : starEach [e, .Name y py] X.env = (false, eval e X.env) :: starEach [.Name y py] X.env := by rfl) (h2 : starEach [.Name y py] X.env = (false, eval (.Name y py) X.env) :: starEach [] X.env := by rfl) (hpl : (backTo pos (starEach [.Name y py] X.env)).any (·.1) = false := by rfl) :
    AE X W (.Call (.Name x p) [e, .Name y py] [] pos) (aIsi T α) :=
  PE.imp (pe_callB call_isi hg hm hv (pa_cons ha (pa_cons (pe_bltn (v := .ty T) gy my vy rfl ny dy) pa_nil h2) h1) hn hdb h1 hpl) fun σ H Q h => by
    obtain ⟨ax, env, M, Qa, S, q, k⟩ := h
    refine ⟨ax, env, M, _, S, q, fun v H1 d M1 t r q => ?_⟩
    obtain ⟨b, e, q⟩ := optAt_ex q
    refine ⟨v, .ty T, .type (tyN M1 d), .type T, b, rfl, .ty T, rep_ty t.abs r fun z => ?_, kit_ty e, k _ H1 (.bl b) M1 t rfl q⟩
    rw [z] at e
    exact hT b e
end

section
variable {W : WX} {X : Cx} {e : Expr} {α β : ATE} {pos : Pos} {K : PySem.W.Frag}
abbrev ATO := AX → AEnv → Sto → (Option Int → Sto → Prop) → Prop
def cO (K : PySem.W.Frag) (W : WX) (a : ATO) : TO := fun σ H Q => ∃ ax env M Qa, Stt K W ax env M σ H ∧ a ax env M Qa ∧ ∀ o H' M', Tr K M H M' H' → Qa o M' → Q o H'
abbrev AO (X : Cx) (W : WX) (e : Option Expr) (a : ATO) : Prop := PO X e (cO X.K W a)
theorem PO.imp {X : Cx} {e : Option Expr} {t u : TO} (h : PO X e t) (k : ∀ σ H Q, u σ H Q → t σ H Q) : PO X e u := ⟨fun pins s σ H Q I q => h.run pins s σ H Q I (k σ H Q q)⟩
def aONone : ATO := fun _ _ M Q => Q none M
def aOSome (a : ATE) : ATO := fun ax env M Q => a ax env M fun x M1 => match x with
  | .int i => Q (some i) M1
  | _ => False
theorem ao_none : AO X W none aONone := PO.imp po_none fun σ H Q h => by
  obtain ⟨ax, env, M, Qa, S, q, k⟩ := h
  exact k none H M (Tr.refl S.abs) q
theorem ao_some (ha : AE X W e α) : AO X W (some e) (aOSome α) := PO.imp (po_some ha) fun σ H Q h => by
  obtain ⟨ax, env, M, Qa, S, q, k⟩ := h
  refine ⟨ax, env, M, _, S, q, fun x H1 dx M1 t r q => ?_⟩
  cases dx with
  | int i => cases (show x = V.int i from r); exact ⟨i, rfl, k _ H1 M1 t q⟩
  | _ => exact False.elim q
def cutL {α : Type} (xs : List α) (lo hi : Option Int) : List α := (xs.drop (HT.sIx xs.length 0 lo)).take (HT.sIx xs.length xs.length hi - HT.sIx xs.length 0 lo)
theorem rep_cut {H : Hp} {ds : List D} {vs : List V} (h : RepL K H ds vs) (lo hi : Option Int) : RepL K H (cutL ds lo hi) (cutV vs lo hi) := by
  unfold cutL cutV
  rw [h.length]
  exact (h.drop _).take _
theorem cutV_whole {vs : List V} {lo hi : Option Int} (h : HT.sIx vs.length 0 lo = 0 ∧ HT.sIx vs.length vs.length hi = vs.length) : cutV vs lo hi = vs := by
  unfold cutV
  rw [h.1, h.2, List.drop_zero, Nat.sub_zero, List.take_length]
def rSlAny (K : PySem.W.Frag) : V → Option Int → Option Int → Hp → VK → Prop := fun x lo hi H Q => rSlL K x lo hi H Q ∨ rSlA K x lo hi H Q ∨ rSlS x lo hi H Q
theorem sl_any : SlR X (rSlAny X.K) := sl_list.or (sl_tupA.or sl_str)
def aSl (a : ATE) (l h : ATO) : ATE := fun ax env M Q => a ax env M fun x M1 => l ax env M1 fun lo M2 => h ax env M2 fun hi M3 => match x with
  | .tup ds => Q (.tup (cutL ds lo hi)) M3
  | .str z => z.length ≤ sizeLine ∧ Q (.str (cutS z lo hi)) M3
  | .obj p => lstAt M3 p fun ds => New (.lst (cutL ds lo hi)) M3 Q
  | _ => False
theorem ae_sl {lo hi : Option Expr} {l h : ATO} {p2 : Pos} (ha : AE X W e α) (hl : AO X W lo l) (hh : AO X W hi h) : AE X W (.Subscript e (.Slice lo hi none p2) pos) (aSl α l h) := PE.imp (pe_slice sl_any ha hl hh) fun σ H Q h => by
  obtain ⟨ax, env, M, Qa, S, q, k⟩ := h
  refine ⟨ax, env, M, _, S, q, fun x H1 dx M1 t1 r q => ?_⟩
  refine ⟨ax, env, M1, _, S.next t1, q, fun lo H2 M2 t2 q => ?_⟩
  refine ⟨ax, env, M2, _, (S.next t1).next t2, q, fun hi H3 M3 t3 q => ?_⟩
  have t := (t1.trans t2).trans t3
  have r' := t3.rep t2.abs (t2.rep t1.abs r)
  cases dx with
  | tup ds =>
    obtain ⟨p, vs, rfl, hp, hv⟩ := r'
    refine .inr (.inl ⟨p, vs, rfl, hp, fun w => ?_, fun w o ho => ?_⟩)
    · refine k _ H3 (.tup (cutL ds lo hi)) M3 t ⟨p, vs, rfl, hp, ?_⟩ q
      have z := rep_cut hv lo hi
      rw [cutV_whole w] at z
      exact z
    · exact k _ _ (.tup (cutL ds lo hi)) M3 (t.trans (Tr.newT t3.abs ho)) (rep_newT ho (rep_cut hv lo hi)) q
  | str z =>
    cases (show x = V.str z from r')
    exact .inr (.inr ⟨z, rfl, q.1, k _ H3 (.str _) M3 t rfl q.2⟩)
  | obj p =>
    cases (show x = V.ref p from r')
    obtain ⟨ds, m, q⟩ := lstAt_ex q
    obtain ⟨vs, h1, hv⟩ := t3.abs p _ m
    exact .inl ⟨p, vs, rfl, SqL.of h1, fun o ho => k _ _ (.obj o) _ (t.trans (Tr.newM (mo := .lst (cutL ds lo hi)) t3.abs ho ⟨_, upd_same, repL_new ho (rep_cut hv lo hi)⟩)) rfl (q o (t3.abs.fresh ho))⟩
  | _ => exact False.elim q
def aRev (a : ATE) : ATE := fun ax env M Q => a ax env M fun x M1 => match x with
  | .obj p => lstAt M1 p fun ds => New (.lst ds.reverse) M1 Q
  | _ => False
end

section
variable {W : WX} {X : Cx} {e : Expr} {es : List Expr} {o : Expr} {α β : ATE} {τ : ATA} {pos apos cpos : Pos} {name : Str} {K : PySem.W.Frag}
def aLm (ρ : Addr → List D → List D → Sto → (D → Sto → Prop) → Prop) (a : ATE) (τ : ATA) : ATE := fun ax env M Q => a ax env M fun x M1 => match x with
  | .obj p => lstAt M1 p fun _ => τ ax env M1 fun xs M2 => lstAt M2 p fun ds => ρ p ds xs M2 Q
  | _ => False
def SimM (K : PySem.W.Frag) (r : V → List V → Hp → VK → Prop) (ρ : Addr → List D → List D → Sto → (D → Sto → Prop) → Prop) : Prop := ∀ p ds xs vs H M (Q : D → Sto → Prop) (Qc : VK), Abs K M H → M p = some (.lst ds) → RepL K H xs vs → ρ p ds xs M Q →
  (∀ v H' d M', Tr K M H M' H' → Rep K H' d v → Q d M' → Qc v H') → r (.ref p) vs H Qc
theorem s_lm {r : V → List V → Hp → VK → Prop} {ρ : Addr → List D → List D → Sto → (D → Sto → Prop) → Prop} (hr : SimM K r ρ) {σ : L2.St} {H : Hp} {Q : VK} (h : cE K W (aLm ρ α τ) σ H Q) : tBM K "list" r (cE K W α) (cA K W τ) σ H Q := by
  obtain ⟨ax, env, M, Qa, S, q, k⟩ := h
  refine ⟨ax, env, M, _, S, q, fun x H1 dx M1 t r q => ?_⟩
  cases dx with
  | obj p =>
    cases (show x = V.ref p from r)
    obtain ⟨ds, m, q⟩ := lstAt_ex q
    obtain ⟨vs, h1, hv⟩ := t.abs p _ m
    refine ⟨.inl ⟨rfl, _, SqL.of h1⟩, ax, env, M1, _, S.next t, q, fun vs H2 xs M2 t2 r2 q2 => ?_⟩
    obtain ⟨ds, m, q2⟩ := lstAt_ex q2
    exact hr p ds xs vs H2 M2 Qa _ t2.abs m r2 q2 fun v H' d M' t' r' q' => k v H' d M' ((t.trans t2).trans t') r' q'
  | _ => exact False.elim q
def ρAppend : Addr → List D → List D → Sto → (D → Sto → Prop) → Prop := fun p ds xs M Q => match xs with
  | [x] => ds.length < sizeLine ∧ Q .non (up M p (.lst (ds ++ [x])))
  | _ => False
theorem sim_append : SimM K rAppend ρAppend := by
  intro p ds xs vs H M Q Qc ab m rx q k
  unfold ρAppend at q
  split at q
  · rename_i x
    obtain ⟨v, rfl, r1⟩ := repL1 rx
    obtain ⟨ws, h1, hv⟩ := ab p _ m
    exact ⟨p, ws, v, rfl, rfl, h1, by rw [← hv.length]; exact q.1, k _ _ .non _ (Tr.write (mo := .lst (ds ++ [x])) ab m ⟨_, upd_same, repL_write ab m (hv.append (RepL.one r1))⟩) rfl q.2⟩
  · exact q.elim
def ρExtend : Addr → List D → List D → Sto → (D → Sto → Prop) → Prop := fun p ds xs M Q => match xs with
  | [.obj q] => lstAt M q fun es => ds.length + es.length ≤ sizeLine ∧ Q .non (up M p (.lst (ds ++ es)))
  | _ => False
theorem sim_extend : SimM K rExtend ρExtend := by
  intro p ds xs vs H M Q Qc ab m rx q k
  unfold ρExtend at q
  split at q
  · rename_i o
    obtain ⟨v, rfl, r1⟩ := repL1 rx
    cases (show v = V.ref o from r1)
    obtain ⟨es, m2, z, q⟩ := lstAt_ex q
    obtain ⟨ws, h1, hv⟩ := ab p _ m
    obtain ⟨us, h2, hw⟩ := ab o _ m2
    exact ⟨p, o, ws, us, rfl, rfl, h1, h2, by rw [← hv.length, ← hw.length]; exact z, k _ _ .non _ (Tr.write (mo := .lst (ds ++ es)) ab m ⟨_, upd_same, repL_write ab m (hv.append hw)⟩) rfl q⟩
  · exact q.elim
theorem ae_append (ha : AE X W o α) (hb : AA X W (e :: es) τ) (hbase : attributeBase o "append" X.env (eval o X.env) = eval o X.env := by rfl)
    (hfew : ((backTo cpos (starEach (e :: es) X.env)).all (fun x => !x.1) && (backToKw cpos (keywordEach [] X.env)).all (fun x => x.1.isSome)
      && decide ((e :: es).length + ([] : List Keyword).length + (if ([] : List Keyword).isEmpty then 0 else 1) < 30)) = true := by rfl)
    (hline : (apos.endLine == cpos.line) = true := by rfl) (hs : starEach (e :: es) X.env = (false, eval e X.env) :: starEach es X.env := by rfl) (hplain : (backTo cpos (starEach es X.env)).any (·.1) = false := by rfl) :
    AE X W (.Call (.Attribute o "append" apos) (e :: es) [] cpos) (aLm ρAppend α τ) :=
  PE.imp (pe_bm PySem.F.plainAttrs_list PySem.F.slot_list_append PySem.F.type_list_append mt_append ha hb hbase hfew hline hs hplain) fun _ _ _ => s_lm sim_append
theorem ae_extend (ha : AE X W o α) (hb : AA X W (e :: es) τ) (hbase : attributeBase o "extend" X.env (eval o X.env) = eval o X.env := by rfl)
    (hfew : ((backTo cpos (starEach (e :: es) X.env)).all (fun x => !x.1) && (backToKw cpos (keywordEach [] X.env)).all (fun x => x.1.isSome)
      && decide ((e :: es).length + ([] : List Keyword).length + (if ([] : List Keyword).isEmpty then 0 else 1) < 30)) = true := by rfl)
    (hline : (apos.endLine == cpos.line) = true := by rfl) (hs : starEach (e :: es) X.env = (false, eval e X.env) :: starEach es X.env := by rfl) (hplain : (backTo cpos (starEach es X.env)).any (·.1) = false := by rfl) :
    AE X W (.Call (.Attribute o "extend" apos) (e :: es) [] cpos) (aLm ρExtend α τ) :=
  PE.imp (pe_bm PySem.F.plainAttrs_list PySem.F.slot_list_extend PySem.F.type_list_extend mt_extend ha hb hbase hfew hline hs hplain) fun _ _ _ => s_lm sim_extend
def aPop (a : ATE) : ATE := fun ax env M Q => a ax env M fun x M1 => match x with
  | .obj p => lstAt M1 p fun ds => optAt ds.getLast? fun d => Q d (up M1 p (.lst ds.dropLast))
  | _ => False
theorem ae_pop (ha : AE X W o α) (hbase : attributeBase o "pop" X.env (eval o X.env) = eval o X.env := by rfl) (hline : (apos.endLine == cpos.line) = true := by rfl) : AE X W (.Call (.Attribute o "pop" apos) [] [] cpos) (aPop α) :=
  PE.imp (pe_bm0 PySem.F.plainAttrs_list PySem.F.slot_list_pop PySem.F.type_list_pop mt_pop ha hbase hline) fun σ H Q h => by
    obtain ⟨ax, env, M, Qa, S, q, k⟩ := h
    refine ⟨ax, env, M, _, S, q, fun x H1 dx M1 t r q => ?_⟩
    cases dx with
    | obj p =>
      cases (show x = V.ref p from r)
      obtain ⟨ds, m, q⟩ := lstAt_ex q
      obtain ⟨d, e, q⟩ := optAt_ex q
      rw [List.getLast?_eq_getElem?] at e
      obtain ⟨vs, h1, hv⟩ := t.abs p _ m
      obtain ⟨v, e', r1⟩ := hv.get e
      refine ⟨.inl ⟨rfl, _, SqL.of h1⟩, p, vs, v, rfl, rfl, h1, by rw [← hv.length]; exact e', ?_⟩
      exact k v _ d _ (t.trans (Tr.write (mo := .lst ds.dropLast) t.abs m ⟨_, upd_same, repL_write t.abs m hv.dropLast⟩)) (rep_write t.abs m r1) q
    | _ => exact False.elim q
def strsOf : List D → Option (List Str)
  | [] => some []
  | .str x :: r => (strsOf r).map fun xs => x :: xs
  | _ :: _ => none
def strsM (M : Sto) : D → Option (List Str)
  | .tup ds => strsOf ds
  | .obj p => match M p with
    | some (.lst ds) => strsOf ds
    | _ => none
  | _ => none
theorem jCv : ∀ (xs : List Str), strsOf (xs.map D.str) = some xs
  | [] => rfl
  | x :: xs => by show (strsOf (xs.map D.str)).map (fun ys => x :: ys) = _; rw [jCv xs]; rfl
def aJoin (a b : ATE) : ATE := fun ax env M Q => a ax env M fun x M1 => match x with
  | .str z => b ax env M1 fun y M2 => optAt (strsM M2 y) fun xs => (xs.map (·.length)).sum + xs.length * z.length ≤ 16777216 ∧ Q (.str (Txt.join z xs)) M2
  | _ => False
end

section
variable {W : WX} {X : Cx} {o i value : Expr} {α β γ : ATE} {pos pos' apos cpos : Pos} {K : PySem.W.Frag}
def keyD : D → Option Key
  | .int i => some (.inl i)
  | .str x => some (.inr x)
  | _ => none
theorem key_rep {H : Hp} {d : D} {v : V} {k : Key} (h : Rep K H d v) (e : keyD d = some k) : v = kV k := by
  cases d with
  | int i => cases (Option.some.inj e); exact h
  | str x => cases (Option.some.inj e); exact h
  | _ => cases e
def valA (kvs : List (Key × D)) (k : Key) : Option D := (kvs.find? fun kv => decide (kv.1 = k)).map (·.2)
def putA (kvs : List (Key × D)) (k : Key) (v : D) : List (Key × D) :=
  if (kvs.any fun kv => decide (kv.1 = k)) = true then kvs.map (fun kv => if kv.1 = k then (kv.1, v) else kv) else kvs ++ [(k, v)]
theorem valA_rep {H : Hp} : ∀ {kvs : List (Key × D)} {ws : List (Key × V)} (k : Key), RepK K H kvs ws → (∀ d, valA kvs k = some d → ∃ v, valV ws k = some v ∧ Rep K H d v) ∧ (valA kvs k = none → valV ws k = none)
  | [], _, k, .nil => ⟨fun d e => (by cases e), fun _ => rfl⟩
  | (k', d') :: kvs, (k2, v2) :: ws, k, .cons ⟨e, r⟩ h => by
    cases (show k' = k2 from e)
    obtain ⟨i1, i2⟩ := valA_rep k h
    by_cases hk : k' = k
    · subst hk
      have e1 : valA ((k', d') :: kvs) k' = some d' := by unfold valA; rw [List.find?_cons_of_pos (by simp)]; rfl
      have e2 : valV ((k', v2) :: ws) k' = some v2 := valV_pos (p := (k', v2)) rfl
      refine ⟨fun d e => ?_, fun e => ?_⟩
      · rw [e1] at e; cases e; exact ⟨v2, e2, r⟩
      · rw [e1] at e; cases e
    · have e1 : valA ((k', d') :: kvs) k = valA kvs k := by unfold valA; rw [List.find?_cons_of_neg (by simpa using hk)]
      have e2 : valV ((k', v2) :: ws) k = valV ws k := valV_neg (p := (k', v2)) hk
      rw [e1, e2]
      exact ⟨i1, i2⟩
theorem any_rep {H : Hp} {k : Key} : ∀ {kvs : List (Key × D)} {ws : List (Key × V)}, RepK K H kvs ws → (ws.any fun kv => decide (kv.1 = k)) = (kvs.any fun kv => decide (kv.1 = k))
  | [], _, .nil => rfl
  | (k', d') :: kvs, (k2, v2) :: ws, .cons ⟨e, r⟩ h => by
    cases (show k' = k2 from e)
    rw [List.any_cons, List.any_cons, any_rep h]
theorem mapPut_rep {H : Hp} {k : Key} {d : D} {v : V} (r : Rep K H d v) : ∀ {kvs : List (Key × D)} {ws : List (Key × V)}, RepK K H kvs ws → RepK K H (kvs.map fun kv => if kv.1 = k then (kv.1, d) else kv) (ws.map fun kv => if kv.1 = k then (kv.1, v) else kv)
  | [], _, .nil => .nil
  | (k', d') :: kvs, (k2, v2) :: ws, .cons ⟨e, r'⟩ h => by
    cases (show k' = k2 from e)
    refine .cons ?_ (mapPut_rep r h)
    by_cases hk : k' = k
    · show (if k' = k then (k', d) else (k', d')).1 = (if k' = k then (k', v) else (k', v2)).1 ∧ Rep K H (if k' = k then (k', d) else (k', d')).2 (if k' = k then (k', v) else (k', v2)).2
      rw [if_pos hk, if_pos hk]; exact ⟨rfl, r⟩
    · show (if k' = k then (k', d) else (k', d')).1 = (if k' = k then (k', v) else (k', v2)).1 ∧ Rep K H (if k' = k then (k', d) else (k', d')).2 (if k' = k then (k', v) else (k', v2)).2
      rw [if_neg hk, if_neg hk]; exact ⟨rfl, r'⟩
theorem snoc_rep {H : Hp} {k : Key} {d : D} {v : V} (r : Rep K H d v) : ∀ {kvs : List (Key × D)} {ws : List (Key × V)}, RepK K H kvs ws → RepK K H (kvs ++ [(k, d)]) (ws ++ [(k, v)])
  | [], _, .nil => .cons ⟨rfl, r⟩ .nil
  | _ :: _, _ :: _, .cons q h => .cons q (snoc_rep r h)
theorem put_rep {H : Hp} {k : Key} {d : D} {v : V} (r : Rep K H d v) {kvs : List (Key × D)} {ws : List (Key × V)} (h : RepK K H kvs ws) : RepK K H (putA kvs k d) (putK ws k v) := by
  unfold putA putK
  rw [any_rep h]
  split
  · exact mapPut_rep r h
  · exact snoc_rep r h
theorem lenK {H : Hp} {kvs : List (Key × D)} {ws : List (Key × V)} (h : RepK K H kvs ws) : kvs.length = ws.length := Paired.length h
theorem repK_write {M : Sto} {H : Hp} (ab : Abs K M H) {p : Addr} {ob : HO} {m0 : MO} (hp : M p = some m0) {d : List (Key × D)} {v : List (Key × V)} (r : RepK K H d v) : RepK K (upd H p ob) d v := Paired.mapP r fun a b z => ⟨z.1, rep_write ab hp z.2⟩
def ρDGet : AR2 := fun x y M Q => match x with
  | .obj a => dicAt M a fun kvs => optAt (keyD y) fun k => optAt (valA kvs k) fun d => Q d M
  | _ => False
theorem ae_dget (hu : X.A.units + 1 < cLine) (ho : AE X W o α) (hi : AE X W i β) (hs : NoSl i) : AE X W (.Subscript o i pos) (aOp ρDGet α β) := PE.imp (pe_dget hu ho hi hs) fun σ H Q h => by
  refine s_op (r := fun x y H Q => ∃ a v, x = .ref a ∧ DGet H a y (some v) ∧ Q v H) (ρ := ρDGet) (fun x y dx dy H M Q Qc ab rx ry q k => ?_) h
  cases dx with
  | obj a =>
    obtain ⟨kvs, m, q⟩ := dicAt_ex q
    obtain ⟨key, e, q⟩ := optAt_ex q
    obtain ⟨d, g, q⟩ := optAt_ex q
    cases (show x = V.ref a from rx)
    obtain ⟨ws, h1, hv⟩ := ab a _ m
    obtain ⟨v, e2, r⟩ := (valA_rep key hv).1 d g
    refine ⟨a, v, rfl, ?_, k v H d M (Tr.refl ab) r q⟩
    rw [key_rep ry e, ← e2]
    exact DGet.k h1
  | _ => exact False.elim q
def ρDIn (neg : Bool) : AR2 := fun y x M Q => match x with
  | .obj a => dicAt M a fun kvs => optAt (keyD y) fun k => Q (.bl (if neg then !(valA kvs k).isSome else (valA kvs k).isSome)) M
  | _ => False
theorem val_some {H : Hp} {kvs : List (Key × D)} {ws : List (Key × V)} {k : Key} (h : RepK K H kvs ws) : (valV ws k).isSome = (valA kvs k).isSome := by
  obtain ⟨h1, h2⟩ := valA_rep k h
  cases q : valA kvs k with
  | none => rw [h2 q]; rfl
  | some d => obtain ⟨v, e, _⟩ := h1 d q; rw [e]; rfl
theorem sim_din {neg : Bool} : SimR K (fun y x H Q => ∃ a o, x = .ref a ∧ DGet H a y o ∧ Q (.bl (if neg then !o.isSome else o.isSome)) H) (ρDIn neg) := by
  intro y x dy dx H M Q Qc ab ry rx q k
  cases dx with
  | obj a =>
    obtain ⟨kvs, m, q⟩ := dicAt_ex q
    obtain ⟨key, e, q⟩ := optAt_ex q
    cases (show x = V.ref a from rx)
    obtain ⟨ws, h1, hv⟩ := ab a _ m
    refine ⟨a, valV ws key, rfl, ?_, k _ H (.bl _) M (Tr.refl ab) rfl ?_⟩
    · rw [key_rep ry e]
      exact DGet.k h1
    · rw [val_some hv]
      exact q
  | _ => exact False.elim q
theorem at_dnotin (hu : X.A.units + 1 < cLine) (hi : AE X W i β) (ho : AE X W o α) (h1 : behindInMarks .NotIn o = false := by rfl) : AT X W (.Compare i [.NotIn] [o] pos) (aTest (aOp (ρDIn true) β α)) := PT.imp (pt_cmp (pc_dnotin hu hi ho) h1) fun σ H Q h => by
  obtain ⟨ax, env, M, Qa, S, q, k⟩ := h
  show tOp (fun y x H Q => ∃ a o, x = .ref a ∧ DGet H a y o ∧ Q (.bl (if true then !o.isSome else o.isSome)) H) _ _ σ H (fun x H1 => ∃ c, x = V.bl c ∧ Q c H1)
  refine s_op (ρ := ρDIn true) sim_din ⟨ax, env, M, _, S, q, fun v H' d M' t r q => ?_⟩
  cases d with
  | bl b => cases (show v = V.bl b from r); exact ⟨b, rfl, k b H' M' t q⟩
  | _ => exact False.elim q
def aDGet2 (a b c : ATE) : ATE := fun ax env M Q => a ax env M fun x M1 => match x with
  | .obj p => dicAt M1 p fun _ => b ax env M1 fun y M2 => c ax env M2 fun z M3 => dicAt M3 p fun kvs => optAt (keyD y) fun k => Q ((valA kvs k).getD z) M3
  | _ => False
theorem ae_dget2 {e f : Expr} (hu : X.A.units + 1 < cLine) (ho : AE X W o α) (he : AE X W e β) (hf : AE X W f γ) (m : M2 X o "get" apos e f cpos) : AE X W (.Call (.Attribute o "get" apos) [e, f] [] cpos) (aDGet2 α β γ) :=
  PE.imp (pe_dget2 hu ho he hf m) fun σ H Q h => by
    obtain ⟨ax, env, M, Qa, S, q, k⟩ := h
    refine ⟨ax, env, M, _, S, q, fun x H1 dx M1 t1 r q => ?_⟩
    cases dx with
    | obj p =>
      cases (show x = V.ref p from r)
      obtain ⟨kvs, m, q⟩ := dicAt_ex q
      obtain ⟨ws, h1, hv⟩ := t1.abs p _ m
      refine ⟨p, rfl, .inl ⟨ws, .inl h1⟩, ax, env, M1, _, S.next t1, q, fun y H2 dy M2 t2 ry q => ?_⟩
      refine ⟨ax, env, M2, _, (S.next t1).next t2, q, fun z H3 dz M3 t3 rz q => ?_⟩
      obtain ⟨kvs, m, q⟩ := dicAt_ex q
      obtain ⟨key, e, q⟩ := optAt_ex q
      obtain ⟨ws, h1, hv⟩ := t3.abs p _ m
      refine ⟨valV ws key, by rw [key_rep (t3.rep t2.abs ry) e]; exact DGet.k h1, ?_⟩
      obtain ⟨i1, i2⟩ := valA_rep key hv
      cases g : valA kvs key with
      | none =>
        rw [i2 g]
        rw [g] at q
        exact k _ H3 dz M3 ((t1.trans t2).trans t3) rz q
      | some d =>
        obtain ⟨v, e2, r2⟩ := i1 d g
        rw [e2]
        rw [g] at q
        exact k _ H3 d M3 ((t1.trans t2).trans t3) r2 q
    | _ => exact False.elim q
end

section
variable {W : WX} {X : Cx} {st : Stmt} {rest body orelse : List Stmt} {e tg : Expr} {α β : ATE} {A : ATT} {t u : ATS} {g : ATG} {pos pos' : Pos}
def aNext : ATS := fun _ D env M => D.nx env M
def aSeq (t u : ATS) : ATS := fun ax D env M => t ax { D with nx := u ax D } env M
theorem as_nil : ASs X W [] aNext := PSs.imp pss_nil fun D σ H h => by
  obtain ⟨ax, env, M, Da, S, q, k⟩ := h
  exact k.nx σ H env M (Tr.refl S.abs) S.rs q
theorem as_cons (h1 : AS X W st t) (h2 : ASs X W rest u) : ASs X W (st :: rest) (aSeq t u) := PSs.imp (pss_cons h1 h2) fun D σ H h => by
  obtain ⟨ax, env, M, Da, S, q, k⟩ := h
  refine ⟨ax, env, M, _, S, q, ⟨fun σ' H' env' M' tr rs q => ?_, k.bk, k.ct, k.rt⟩⟩
  exact ⟨ax, env', M', Da, S.at_ tr rs, q, k.next tr⟩
theorem as_one (h1 : AS X W st t) : ASs X W [st] t := pss_one h1
def aBreak : ATS := fun _ D env M => D.bk env M
def aCont : ATS := fun _ D env M => D.ct env M
theorem as_continue : AS X W (.Continue pos) aCont := PS.imp ps_continue fun D σ H h => by
  obtain ⟨ax, env, M, Da, S, q, k⟩ := h
  exact k.ct σ H env M (Tr.refl S.abs) S.rs q
def aExpr (a : ATE) : ATS := fun ax D env M => a ax env M fun _ M1 => D.nx env M1
theorem as_expr (he : AE X W e α) (hs : swapsWith e none pos.line X.env = pure false := by rfl) : AS X W (.Expr e pos) (aExpr α) := PS.imp (ps_expr he hs) fun D σ H h => by
  obtain ⟨ax, env, M, Da, S, q, k⟩ := h
  exact ⟨ax, env, M, _, S, q, fun v H' d M' t r q => k.nx σ H' env M' t (S.next t).rs q⟩
def aRet (a : ATE) : ATS := fun ax D env M => a ax env M D.rt
theorem as_ret (he : AE X W e α) : AS X W (.Return (some e) pos) (aRet α) := PS.imp (ps_ret he) fun D σ H h => by
  obtain ⟨ax, env, M, Da, S, q, k⟩ := h
  exact ⟨ax, env, M, _, S, q, k.rt⟩
def aRetN : ATS := fun _ D _ M => D.rt .non M
def aIf (A : ATT) (t u : ATS) : ATS := fun ax D env M => A ax env M fun b M1 => if b = true then t ax D env M1 else u ax D env M1
theorem as_if {c : Expr} {a b : List Stmt} (hc : AT X W c A) (ha : ASs X W a t) (hb : ASs X W b u) : AS X W (.If c a b pos) (aIf A t u) := PS.imp (ps_if hc ha hb) fun D σ H h => by
  obtain ⟨ax, env, M, Da, S, q, k⟩ := h
  refine ⟨ax, env, M, _, S, q, fun b H1 M1 tr q => ?_⟩
  cases b with
  | true => exact ⟨ax, env, M1, Da, S.next tr, q, k.next tr⟩
  | false => exact ⟨ax, env, M1, Da, S.next tr, q, k.next tr⟩
def aNever : ATS := fun _ _ _ _ => False
def agName (i : Nat) : ATG := fun d _ env M Q => Q (env.set i (some d)) M
theorem ag_name (i : Nat) {x : Str} (hN : X.N.Nodup) (hi : X.N[i]? = some x := by rfl) (hx : Loc X.env.scope x := by first | exact .inl rfl | exact .inr rfl) (hf : X.fn x = true ∨ X.env.scope.names.lookup x = some .local := by first | exact .inl rfl | exact .inr rfl | assumption) : AG X W (.Name x pos) (agName i) :=
  PG.imp (pg_name hN hi hx hf) fun v σ H Q h => by
    obtain ⟨d, ax, env, M, Qa, S, r, q, k⟩ := h
    exact k _ H _ M (Tr.refl S.abs) (S.rs.set r) q
abbrev ATGs := List D → AX → AEnv → Sto → (AEnv → Sto → Prop) → Prop
def cGs (K : PySem.W.Frag) (W : WX) (g : ATGs) : TGs := fun vs σ H Q => ∃ ds ax env M Qa, Stt K W ax env M σ H ∧ RepL K H ds vs ∧ g ds ax env M Qa ∧ ∀ σ' H' env' M', Tr K M H M' H' → RepS K H' env' σ' → Qa env' M' → Q σ' H'
abbrev AGs (X : Cx) (W : WX) (ts : List Expr) (g : ATGs) : Prop := PGs X ts (cGs X.K W g)
theorem PGs.imp {X : Cx} {e : List Expr} {t u : TGs} (h : PGs X e t) (k : ∀ v σ H Q, u v σ H Q → t v σ H Q) : PGs X e u := ⟨fun pins s σ H v w Q I r q => h.run pins s σ H v w Q I r (k v σ H Q q)⟩
def agNil : ATGs := fun ds _ env M Q => match ds with
  | [] => Q env M
  | _ => False
def agCons (g : ATG) (r : ATGs) : ATGs := fun ds ax env M Q => match ds with
  | d :: ds => g d ax env M fun env1 M1 => r ds ax env1 M1 Q
  | _ => False
theorem ags_nil : AGs X W [] agNil := PGs.imp pgs_nil fun v σ H Q h => by
  obtain ⟨ds, ax, env, M, Qa, S, r, q, k⟩ := h
  cases ds with
  | nil => exact ⟨r, k σ H env M (Tr.refl S.abs) S.rs q⟩
  | cons d ds => exact q.elim
theorem ags_cons {es : List Expr} {r : ATGs} (h1 : AG X W e g) (h2 : AGs X W es r) (hs : (assignEach (e :: es) X.env).map (·.2) = assign e X.env :: (assignEach es X.env).map (·.2) := by rfl) : AGs X W (e :: es) (agCons g r) := PGs.imp (pgs_cons h1 h2 hs) fun v σ H Q h => by
  obtain ⟨ds, ax, env, M, Qa, S, r, q, k⟩ := h
  cases ds with
  | nil => exact q.elim
  | cons d ds =>
    obtain ⟨v, vs, rfl, r1, r2⟩ := r
    refine ⟨v, vs, rfl, d, ax, env, M, _, S, r1, q, fun σ1 H1 env1 M1 t rs q => ?_⟩
    exact ⟨ds, ax, env1, M1, Qa, S.at_ t rs, t.repL S.abs r2, q, fun σ' H' env' M' t' => k σ' H' env' M' (t.trans t')⟩
def agTup (n : Nat) (g : ATGs) : ATG := fun d ax env M Q => match d with
  | .tup ds => ds.length = n ∧ g ds ax env M Q
  | _ => False
theorem ag_tup {es : List Expr} {k : Nat} {r : ATGs} {n : Nat} (hc : X.calm = true) (h : AGs X W es r)
    (hn : (assignEach es X.env).length = n := by rfl) (hst : (assignEach es X.env).findIdx? (·.1) = none := by rfl) : AG X W (.Tuple es k pos) (agTup n r) := PG.imp (pg_tup hc h hn hst) fun v σ H Q h => by
  obtain ⟨d, ax, env, M, Qa, S, r, q, k⟩ := h
  cases d with
  | tup ds =>
    obtain ⟨p, vs, rfl, hp, hv⟩ := r
    exact ⟨p, vs, rfl, hp, by rw [← hv.length]; exact q.1, ds, ax, env, M, Qa, S, hv, q.2, k⟩
  | _ => exact False.elim q
def aAsg (a : ATE) (g : ATG) : ATS := fun ax D env M => a ax env M fun d M1 => g d ax env M1 D.nx
theorem as_asg (he : AE X W e α) (hg : AG X W tg g) (hs : swapsWithSole [tg] e pos.line X.env = pure false := by rfl) (hw : swappedStores [tg] e X.env = pure none := by rfl)
    (h1 : (assignEach [tg] X.env).map (·.2) = [assign tg X.env] := by rfl) : AS X W (.Assign [tg] e pos) (aAsg α g) := PS.imp (ps_asg he hg hs hw h1) fun D σ H h => by
  obtain ⟨ax, env, M, Da, S, q, k⟩ := h
  refine ⟨ax, env, M, _, S, q, fun v H1 d M1 t r q => ?_⟩
  exact ⟨d, ax, env, M1, _, S.next t, r, q, fun σ' H' env' M' t' => k.nx σ' H' env' M' (t.trans t')⟩
theorem as_set (i : Nat) {x : Str} (hN : X.N.Nodup) (he : AE X W e α) (hi : X.N[i]? = some x := by rfl) (hx : Loc X.env.scope x := by first | exact .inl rfl | exact .inr rfl) (hs : swapsWith e (some (.Name x pos')) pos.line X.env = pure false := by rfl) (hf : X.fn x = true ∨ X.env.scope.names.lookup x = some .local := by first | exact .inl rfl | exact .inr rfl | assumption) :
    AS X W (.Assign [.Name x pos'] e pos) (aAsg α (agName i)) := PS.imp (ps_set hN hi hx he hs hf) fun D σ H h => by
  obtain ⟨ax, env, M, Da, S, q, k⟩ := h
  exact ⟨ax, env, M, _, S, q, fun v H1 d M1 t r q => k.nx _ H1 _ M1 t ((S.next t).rs.set r) q⟩
def agSub (a b : ATE) : ATG := fun d ax env M Q => a ax env M fun x M1 => b ax env M1 fun y M2 => match x, y with
  | .obj p, .int i => lstAt M2 p fun ds => optAt (ixN ds.length i) fun j => Q env (up M2 p (.lst (ds.set j d)))
  | _, _ => False
theorem ag_sub {o i : Expr} (ho : AE X W o α) (hi : AE X W i β)
    (ha : ∀ v, assign (.Subscript o i pos) X.env v = (do
      let ov ← holding [v] (eval o X.env)
      let iv ← holding [v, ov] (eval i X.env)
      standAt pos
      holding [v, ov, iv] (setItem ov iv v)
      release [v, ov, iv] []) := by intro _; rfl) : AG X W (.Subscript o i pos) (agSub α β) := PG.imp (pg_sub ho hi set_list ha) fun v σ H Q h => by
  obtain ⟨d, ax, env, M, Qa, S, r, q, k⟩ := h
  refine ⟨ax, env, M, _, S, q, fun x H1 dx M1 t1 rx q => ?_⟩
  refine ⟨ax, env, M1, _, S.next t1, q, fun y H2 dy M2 t2 ry q => ?_⟩
  cases dx with
  | obj p =>
    cases dy with
    | int i =>
      obtain ⟨ds, m, q⟩ := lstAt_ex q
      obtain ⟨j, e, q⟩ := optAt_ex q
      cases (show x = V.ref p from rx)
      cases (show y = V.int i from ry)
      obtain ⟨vs, h1, hv⟩ := t2.abs p _ m
      have t := t1.trans t2
      have rd := t.rep S.abs r
      have tw := Tr.write (mo := .lst (ds.set j d)) t2.abs m ⟨_, upd_same, repL_write t2.abs m (hv.set j rd)⟩
      exact ⟨p, vs, i, j, rfl, rfl, h1, by rw [← hv.length]; exact e, k σ _ env _ (t.trans tw) ((S.next t).next tw).rs q⟩
    | _ => exact False.elim q
  | _ => exact False.elim q
def aDPut (a b c : ATE) : ATS := fun ax D env M => c ax env M fun z M1 => a ax env M1 fun x M2 => b ax env M2 fun y M3 => match x with
  | .obj p => dicAt M3 p fun kvs => optAt (keyD y) fun k => kvs.length < sizeLine ∧ D.nx env (up M3 p (.dic (putA kvs k z)))
  | _ => False
theorem as_dput {o i value : Expr} {γ : ATE} (hu : X.A.units + 1 < cLine) (ho : AE X W o α) (hi : AE X W i β) (hv : AE X W value γ) (hs : swapsWith value (some (.Subscript o i pos')) pos.line X.env = pure false := by rfl) :
    AS X W (.Assign [.Subscript o i pos'] value pos) (aDPut α β γ) := PS.imp (ps_dput hu ho hi hv hs) fun D σ H h => by
  obtain ⟨ax, env, M, Da, S, q, k⟩ := h
  refine ⟨ax, env, M, _, S, q, fun z H1 dz M1 t1 rz q => ?_⟩
  refine ⟨ax, env, M1, _, S.next t1, q, fun x H2 dx M2 t2 rx q => ?_⟩
  refine ⟨ax, env, M2, _, (S.next t1).next t2, q, fun y H3 dy M3 t3 ry q => ?_⟩
  cases dx with
  | obj p =>
    obtain ⟨kvs, m, q⟩ := dicAt_ex q
    obtain ⟨key, e, l, q⟩ := optAt_ex q
    cases (show x = V.ref p from rx)
    obtain ⟨ws, h1, hv⟩ := t3.abs p _ m
    have t := (t1.trans t2).trans t3
    have rz' := t3.rep t2.abs (t2.rep t1.abs rz)
    have tw := Tr.write (mo := .dic (putA kvs key dz)) t3.abs m ⟨_, upd_same, repK_write t3.abs m (put_rep rz' hv)⟩
    refine ⟨p, _, rfl, ?_, k.nx σ _ env _ (t.trans tw) ((S.next t).next tw).rs q⟩
    rw [key_rep ry e]
    exact DPut.k h1 (by rw [← lenK hv]; exact l)
  | _ => exact False.elim q
def aAug (ρ : AR2) (i : Nat) (a : ATE) : ATS := fun ax D env M => optAt env[i]? fun o => optAt o fun x => a ax env M fun y M1 => ρ x y M1 fun z M2 => D.nx (env.set i (some z)) M2
theorem as_aug (i : Nat) {x : Str} {op : Operator} {r : R2} {ρ : AR2} (hN : X.N.Nodup) (ho : OpR X (inplaceOp op) r) (hr : SimR X.K r ρ) (he : AE X W e α) (hi : X.N[i]? = some x := by rfl) (hx : Loc X.env.scope x := by first | exact .inl rfl | exact .inr rfl) (hf : X.fn x = true ∨ X.env.scope.names.lookup x = some .local := by first | exact .inl rfl | exact .inr rfl | assumption) :
    AS X W (.AugAssign (.Name x pos') op e pos) (aAug ρ i α) := PS.imp (ps_aug hN hi hx he (fun pins s σ H x y v u Q I rx ry q => ho pins s σ H x y v u Q I rx ry q) hf) fun D σ H h => by
  obtain ⟨ax, env, M, Da, S, q, k⟩ := h
  obtain ⟨o, ed, q⟩ := optAt_ex q
  obtain ⟨d, rfl, q⟩ := optAt_ex q
  obtain ⟨v, ev, rv⟩ := S.rs.get ed
  refine ⟨v, ev, ax, env, M, _, S, q, fun y H1 dy M1 t ry q => ?_⟩
  refine hr v y d dy H1 M1 _ _ t.abs (t.rep S.abs rv) ry q fun z H2 dz M2 t2 rz q => ?_
  exact k.nx _ H2 _ M2 (t.trans t2) (((S.next t).next t2).rs.set rz) q
def rIPlus : R2 := fun x y H Q => (rI0 fun i j => .int (i + j)) x y H Q ∨ (∃ i j, x = .str i ∧ y = .str j ∧ i.length + j.length ≤ sizeLine ∧ Q (.str (i ++ j)) H) ∨ rExt2 x y H Q
theorem iop_plus : OpR X (inplaceOp .Add) rIPlus := iop_add.or (iop_add_str.or iop_ext)
def ρIAdd : AR2 := fun x y M Q => match x, y with
  | .int i, .int j => Q (.int (i + j)) M
  | .str i, .str j => i.length + j.length ≤ sizeLine ∧ Q (.str (i ++ j)) M
  | .obj p, .obj q => lstAt M p fun ds => lstAt M q fun es => ds.length + es.length ≤ sizeLine ∧ Q (.obj p) (up M p (.lst (ds ++ es)))
  | _, _ => False
theorem sim_iadd {K : PySem.W.Frag} : SimR K rIPlus ρIAdd := by
  intro x y dx dy H M Q Qc ab rx ry q k
  cases dx with
  | int i =>
    cases dy with
    | int j =>
      cases (show x = V.int i from rx)
      cases (show y = V.int j from ry)
      exact .inl ⟨i, j, rfl, rfl, k _ H (.int (i + j)) M (Tr.refl ab) rfl q⟩
    | _ => exact False.elim q
  | str i =>
    cases dy with
    | str j =>
      cases (show x = V.str i from rx)
      cases (show y = V.str j from ry)
      obtain ⟨z, q⟩ := q
      exact .inr (.inl ⟨i, j, rfl, rfl, z, k _ H (.str (i ++ j)) M (Tr.refl ab) rfl q⟩)
    | _ => exact False.elim q
  | obj p =>
    cases dy with
    | obj p' =>
      obtain ⟨ds, m1, q⟩ := lstAt_ex q
      obtain ⟨es, m2, z, q⟩ := lstAt_ex q
      cases (show x = V.ref p from rx)
      cases (show y = V.ref p' from ry)
      obtain ⟨vs, h1, r1⟩ := ab p _ m1
      obtain ⟨ws, h2, r2⟩ := ab p' _ m2
      exact .inr (.inr ⟨p, p', vs, ws, rfl, rfl, h1, h2, by rw [← r1.length, ← r2.length]; exact z, k _ _ (.obj p) _ (Tr.write (mo := .lst (ds ++ es)) ab m1 ⟨_, upd_same, repL_write ab m1 (r1.append r2)⟩) rfl q⟩)
    | _ => exact False.elim q
  | _ => exact False.elim q
end

section
variable {W : WX} {X : Cx} {body : List Stmt} {e tg iter : Expr} {α β : ATE} {A : ATT} {t u : ATS} {g : ATG} {ι : ATI} {pos pos' : Pos}
def aWhileN (A : ATT) (b : ATS) (ax : AX) (D : AEnds) : Nat → AEnv → Sto → Prop
  | 0, _, _ => False
  | n + 1, env, M => A ax env M fun k M1 => if k = true then b ax ⟨aWhileN A b ax D n, D.rt, D.nx, aWhileN A b ax D n⟩ env M1 else D.nx env M1
def aWhile (A : ATT) (b : ATS) : ATS := fun ax D env M => ∃ n, aWhileN A b ax D n env M
theorem s_while {K : PySem.W.Frag} {D : Ends} {σ : L2.St} {H : Hp} (h : cS K W (aWhile A t) D σ H) : tWhile (cT K W A) (cS K W t) D σ H := by
  obtain ⟨ax, env, M, Da, S, ⟨n, q⟩, k⟩ := h
  refine ⟨fun m σ' H' => ∃ env' M', Tr K M H M' H' ∧ RepS K H' env' σ' ∧ aWhileN A t ax Da m env' M', ⟨n, env, M, Tr.refl S.abs, S.rs, q⟩, ?_⟩
  rintro m σ1 H1 ⟨env1, M1, t1, rs1, q1⟩
  cases m with
  | zero => exact q1.elim
  | succ m =>
    refine ⟨ax, env1, M1, _, S.at_ t1 rs1, q1, fun b H2 M2 t2 q2 => ?_⟩
    cases b with
    | false => exact k.nx σ1 H2 env1 M2 (t1.trans t2) ((S.at_ t1 rs1).next t2).rs q2
    | true =>
      refine ⟨fun σ' H' => ∃ env' M', Tr K M H M' H' ∧ RepS K H' env' σ' ∧ aWhileN A t ax Da m env' M', fun σ' H' z => ⟨m, Nat.lt_succ_self m, z⟩, ?_⟩
      have t12 := t1.trans t2
      exact ⟨ax, env1, M2, _, (S.at_ t1 rs1).next t2, q2, ⟨fun σ' H' env' M' t' rs q => ⟨env', M', t12.trans t', rs, q⟩, fun σ' H' env' M' t' rs q => k.nx σ' H' env' M' (t12.trans t') rs q, fun σ' H' env' M' t' rs q => ⟨env', M', t12.trans t', rs, q⟩, fun v H' d M' t' r q => k.rt v H' d M' (t12.trans t') r q⟩⟩
theorem as_while {c : Expr} (hp : PassesOwn (model X.prog X.w) X.A X.env X.xe) (hc : AT X W c A) (hb : ASs X W body t) : AS X W (.While c body [] pos) (aWhile A t) := PS.imp (ps_while hp hc hb) fun _ _ _ => s_while

def aForGo (chk : Sto → Prop) (g : ATG) (b : ATS) (ax : AX) (De : AEnds) : List D → AEnv → Sto → Prop
  | [], env, M => chk M ∧ De.nx env M
  | d :: r, env, M => chk M ∧ g d ax env M fun env1 M1 => b ax ⟨aForGo chk g b ax De r, De.rt, De.nx, aForGo chk g b ax De r⟩ env1 M1
def aFor (ι : ATI) (g : ATG) (b : ATS) : ATS := fun ax D env M => ι ax env M fun items chk M1 => aForGo chk g b ax D items env M1
theorem drop_at {α : Type} {l : List α} {i : Nat} {x : α} {r : List α} (h : l.drop i = x :: r) : l[i]? = some x ∧ l.drop (i + 1) = r ∧ i < l.length := by
  have hi : i < l.length := by
    by_cases hi : i < l.length
    · exact hi
    · rw [List.drop_eq_nil_of_le (by omega)] at h
      cases h
  rw [List.drop_eq_getElem_cons hi] at h
  injection h with h1 h2
  exact ⟨by rw [List.getElem?_eq_getElem hi, h1], h2, hi⟩
theorem drop_end {α : Type} {l : List α} {i : Nat} (h : l.drop i = []) : l[i]? = none := List.getElem?_eq_none (List.drop_eq_nil_iff.mp h)
theorem s_for {K : PySem.W.Frag} {D : Ends} {σ : L2.St} {H : Hp} (h : cS K W (aFor ι g t) D σ H) : tFor (cI K W ι) (cG K W g) (cS K W t) D σ H := by
  obtain ⟨ax, env, M, Da, S, q, k⟩ := h
  refine ⟨ax, env, M, _, S, q, fun J items chk M1 H1 t1 sim q => ?_⟩
  refine ⟨fun i m σ' H' => m = items.length - i ∧ ∃ env' M', Tr K M1 H1 M' H' ∧ RepS K H' env' σ' ∧ aForGo chk g t ax Da (items.drop i) env' M', ⟨items.length, rfl, env, M1, Tr.refl t1.abs, (S.next t1).rs, q⟩, ?_⟩
  rintro i m σ2 H2 ⟨rfl, env2, M2, t2, rs2, q2⟩
  cases hd : items.drop i with
  | nil =>
    rw [hd] at q2
    exact .inl ⟨(sim i M2 H2 t2 q2.1).2 (drop_end hd), k.nx σ2 H2 env2 M2 (t1.trans t2) rs2 q2.2⟩
  | cons d r =>
    rw [hd] at q2
    obtain ⟨hi, hr, hl⟩ := drop_at hd
    obtain ⟨go, yld⟩ := (sim i M2 H2 t2 q2.1).1 d hi
    refine .inr ⟨go, fun σ' H' => ∃ env' M', Tr K M1 H1 M' H' ∧ RepS K H' env' σ' ∧ aForGo chk g t ax Da (items.drop (i + 1)) env' M', fun σ' H' z => ⟨items.length - (i + 1), by omega, rfl, z⟩, fun x H3 y => ?_⟩
    obtain ⟨t3, r3⟩ := yld x H3 y
    have t23 := t2.trans t3
    refine ⟨d, ax, env2, M2, _, (S.at_ (t1.trans t2) rs2).next t3, r3, q2.2, fun σ4 H4 env4 M4 t4 rs4 q4 => ?_⟩
    have t24 := t23.trans t4
    have t14 := t1.trans t24
    refine ⟨ax, env4, M4, _, S.at_ t14 rs4, q4, ⟨fun σ' H' env' M' t' rs q => ⟨env', M', t24.trans t', rs, by rw [hr]; exact q⟩, fun σ' H' env' M' t' rs q => k.nx σ' H' env' M' (t14.trans t') rs q, fun σ' H' env' M' t' rs q => ⟨env', M', t24.trans t', rs, by rw [hr]; exact q⟩, fun v H' d M' t' r q => k.rt v H' d M' (t14.trans t') r q⟩⟩
theorem as_for (hp : PassesOwn (model X.prog X.w) X.A X.env X.xe) (hc : X.calm = true) (hi : AI X W tg iter ι) (hg : AG X W tg g) (hb : ASs X W body t)
    (hs : ∀ x, foldedSetIterable iter X.env x = pure x := by intro _; rfl) : AS X W (.For tg iter body [] pos) (aFor ι g t) := PS.imp (ps_for hp hc hi hg hb hs) fun _ _ _ => s_for

def aIList (a : ATE) : ATI := fun ax env M R => a ax env M fun x M1 => match x with
  | .obj p => lstAt M1 p fun ds => R ds (fun M => M p = some (.lst ds)) M1
  | _ => False
def aITup (a : ATE) : ATI := fun ax env M R => a ax env M fun x M1 => match x with
  | .tup ds => R ds (fun _ => True) M1
  | _ => False
theorem itsim_list {K : PySem.W.Frag} {p : Addr} {ds : List D} {M1 : Sto} {H1 : Hp} : ItSim K (Itl K p) ds (fun M => M p = some (.lst ds)) M1 H1 := fun i M H t m => by
  obtain ⟨vs, h1, hv⟩ := t.abs p _ m
  refine ⟨fun d e => ?_, fun e => ?_⟩
  · obtain ⟨v, e', r⟩ := hv.get e
    refine ⟨⟨vs, v, SqL.of h1, e'⟩, fun x H' y => ?_⟩
    obtain ⟨rfl, y⟩ := y
    have z := y vs (SqL.of h1)
    rw [e'] at z
    cases z
    exact ⟨Tr.refl t.abs, r⟩
  · refine ⟨vs, SqL.of h1, ?_⟩
    rw [← hv.length]
    exact List.getElem?_eq_none_iff.mp e
theorem itsim_tup {K : PySem.W.Frag} {p : Addr} {ds : List D} {vs : List V} {M1 : Sto} {H1 : Hp} (ab : Abs K M1 H1) (hp : SqT K H1 p vs) (hv : RepL K H1 ds vs) : ItSim K (Itt K p) ds (fun _ => True) M1 H1 := fun i M H t _ => by
  have hp' := t.sqT ab hp
  have hv' := t.repL ab hv
  refine ⟨fun d e => ?_, fun e => ?_⟩
  · obtain ⟨v, e', r⟩ := hv'.get e
    refine ⟨⟨vs, v, hp', e'⟩, fun x H' y => ?_⟩
    obtain ⟨rfl, y⟩ := y
    have z := y vs hp'
    rw [e'] at z
    cases z
    exact ⟨Tr.refl t.abs, r⟩
  · refine ⟨vs, hp', ?_⟩
    rw [← hv'.length]
    exact List.getElem?_eq_none_iff.mp e
theorem ai_list (ha : AE X W e α) : AI X W tg e (aIList α) := PI.imp (pi_list ha) fun σ H R h => by
  obtain ⟨ax, env, M, Ra, S, q, k⟩ := h
  refine ⟨ax, env, M, _, S, q, fun x H1 dx M1 t r q => ?_⟩
  cases dx with
  | obj p =>
    cases (show x = V.ref p from r)
    obtain ⟨ds, m, q⟩ := lstAt_ex q
    obtain ⟨vs, h1, hv⟩ := t.abs p _ m
    exact ⟨p, rfl, ⟨vs, SqL.of h1⟩, k _ ds _ M1 H1 t itsim_list q⟩
  | _ => exact False.elim q
theorem ai_tup (ha : AE X W e α) : AI X W tg e (aITup α) := PI.imp (pi_tup ha) fun σ H R h => by
  obtain ⟨ax, env, M, Ra, S, q, k⟩ := h
  refine ⟨ax, env, M, _, S, q, fun x H1 dx M1 t r q => ?_⟩
  cases dx with
  | tup ds =>
    obtain ⟨p, vs, rfl, hp, hv⟩ := r
    exact ⟨p, rfl, ⟨vs, hp⟩, k _ ds _ M1 H1 t (itsim_tup t.abs hp hv) q⟩
  | _ => exact False.elim q
def rngD : Int → Nat → List D
  | _, 0 => []
  | lo, n + 1 => .int lo :: rngD (lo + 1) n
theorem rngD_get : ∀ (n : Nat) (lo : Int) (i : Nat), (rngD lo n)[i]? = if i < n then some (.int (lo + i)) else none
  | 0, _, _ => by simp [rngD]
  | n + 1, lo, 0 => by simp [rngD]
  | n + 1, lo, i + 1 => by
    rw [rngD, List.getElem?_cons_succ, rngD_get n (lo + 1) i]
    by_cases h : i < n
    · rw [if_pos h, if_pos (by omega)]
      congr 2
      omega
    · rw [if_neg h, if_neg (by omega)]
theorem rngD_length : ∀ (n : Nat) (lo : Int), (rngD lo n).length = n
  | 0, _ => rfl
  | n + 1, lo => by rw [rngD, List.length_cons, rngD_length n]
theorem itsim_rng {K : PySem.W.Frag} {lo : Int} {n : Nat} {M1 : Sto} {H1 : Hp} : ItSim K (Itr lo n) (rngD lo n) (fun _ => True) M1 H1 := fun i M H t _ => by
  refine ⟨fun d e => ?_, fun e => ?_⟩
  · rw [rngD_get] at e
    by_cases h : i < n
    · rw [if_pos h] at e
      cases e
      refine ⟨h, fun x H' y => ?_⟩
      obtain ⟨rfl, rfl⟩ := y
      exact ⟨Tr.refl t.abs, rfl⟩
    · rw [if_neg h] at e
      cases e
  · have z := List.getElem?_eq_none_iff.mp e
    rw [rngD_length] at z
    exact z
def aIRng1 (τ : ATA) : ATI := fun ax env M R => τ ax env M fun ds M1 => match ds with
  | [.int j] => -(2 ^ 62) ≤ j ∧ j < 2 ^ 62 ∧ R (rngD 0 j.toNat) (fun _ => True) M1
  | _ => False
def aIRng2 (τ : ATA) : ATI := fun ax env M R => τ ax env M fun ds M1 => match ds with
  | [.int i, .int j] => (-(2 ^ 62) ≤ i ∧ i < 2 ^ 62 ∧ -(2 ^ 62) ≤ j ∧ j < 2 ^ 62) ∧ R (rngD i (j - i).toNat) (fun _ => True) M1
  | _ => False
theorem ai_rng1 {a : Expr} {τ : ATA} {p : Pos} (hg : Gl X "range") (hm : X.mg "range" = none) (ha : AA X W [a] τ) (hs : starEach [a] X.env = [(false, eval a X.env)] := by rfl) : AI X W tg (.Call (.Name "range" p) [a] [] pos) (aIRng1 τ) :=
  PI.imp (pi_range1 hg hm ha hs) fun σ H R h => by
    obtain ⟨ax, env, M, Ra, S, q, k⟩ := h
    refine ⟨ax, env, M, _, S, q, fun vs H1 ds M1 t r q => ?_⟩
    split at q
    · obtain ⟨v, rfl, r1⟩ := repL1 r
      cases (show v = V.int _ from r1)
      exact ⟨_, rfl, q.1, q.2.1, k _ _ _ M1 H1 t itsim_rng q.2.2⟩
    · exact q.elim
theorem ai_rng2 {a b : Expr} {τ : ATA} {p : Pos} (hg : Gl X "range") (hm : X.mg "range" = none) (ha : AA X W [a, b] τ) (hs : starEach [a, b] X.env = [(false, eval a X.env), (false, eval b X.env)] := by rfl) (hs2 : starEach [b] X.env = [(false, eval b X.env)] := by rfl) :
    AI X W tg (.Call (.Name "range" p) [a, b] [] pos) (aIRng2 τ) :=
  PI.imp (pi_range2 hg hm ha hs hs2) fun σ H R h => by
    obtain ⟨ax, env, M, Ra, S, q, k⟩ := h
    refine ⟨ax, env, M, _, S, q, fun vs H1 ds M1 t r q => ?_⟩
    split at q
    · obtain ⟨v, w, rfl, r1, r2⟩ := repL2 r
      cases (show v = V.int _ from r1)
      cases (show w = V.int _ from r2)
      exact ⟨_, _, rfl, q.1, k _ _ _ M1 H1 t itsim_rng q.2⟩
    · exact q.elim
end

section
variable {W : WX} {X : Cx} {K : PySem.W.Frag}
theorem abs_updL {M : Sto} {H : Hp} (ab : Abs K M H) {p : Addr} {vs ws : List V} (hp : H p = some (.lst vs)) (mp : M p = none) : Abs K M (upd H p (.lst ws)) := fun a mo m => by
  have na : a ≠ p := fun z => by subst z; rw [mp] at m; cases m
  exact (ab a mo m).mono (fun u q => by rw [upd_ne na]; exact q) (Kp.updL hp)
def aLcGo (chk : Sto → Prop) (i : Nat) (t : ATT) (e : ATE) (ax : AX) (env : AEnv) : List D → List D → Sto → (List D → Sto → Prop) → Prop
  | [], acc, M, Q => chk M ∧ Q acc M
  | d :: r, acc, M, Q => chk M ∧ t ax (env.set i (some d)) M fun b M1 => if b = true then e ax (env.set i (some d)) M1 fun y M2 => aLcGo chk i t e ax env r (acc ++ [y]) M2 Q else aLcGo chk i t e ax env r acc M1 Q
def aLc (ι : ATI) (i : Nat) (t : ATT) (e : ATE) : ATE := fun ax env M Q => ι ax env M fun items chk M1 => items.length ≤ 1000000 ∧ aLcGo chk i t e ax env items [] M1 fun acc M2 => New (.lst acc) M2 Q
theorem s_lc {i : Nat} {ι : ATI} {t : ATT} {e : ATE} {σ : L2.St} {H : Hp} {Q : VK} (h : cE K W (aLc ι i t e) σ H Q) : tLc (cI K W ι) (gName i) (cT K W t) (cE K W e) [i] σ H Q := by
  obtain ⟨ax, env, M, Qa, S, q, k⟩ := h
  refine ⟨ax, env, M, _, S, q, fun J items chk M1 H1 t1 sim q => ?_⟩
  obtain ⟨hlen, q⟩ := q
  intro D hD
  have md : M1 D = none := t1.abs.fresh hD
  let Qf : List AL.D → Sto → Prop := fun acc M2 => ∀ p, M2 p = none → Qa (.obj p) (up M2 p (.lst acc))
  let Inv : Nat → Hp → Prop := fun i' H' => ∃ M' acc vs, Tr K M1 H1 M' H' ∧ H' D = some (.lst vs) ∧ M' D = none ∧ RepL K H' acc vs ∧ acc.length ≤ i' ∧ aLcGo chk i t e ax env (items.drop i') acc M' Qf
  refine ⟨fun i' m H' => m = items.length - i' ∧ Inv i' H', ⟨items.length, rfl, M1, [], [], Tr.newT t1.abs hD, upd_same, md, rfl, Nat.le_refl _, q⟩, ?_⟩
  rintro i' m H2 ⟨rfl, M2, acc, vs, t2, hD2, md2, ra, hl, q2⟩
  cases hd : items.drop i' with
  | nil =>
    rw [hd] at q2
    refine .inl ⟨(sim i' M2 H2 t2 q2.1).2 (drop_end hd), ?_⟩
    refine k (.ref D) H2 (.obj D) (up M2 D (.lst acc)) (t1.trans ?_) rfl (q2.2 D md2)
    refine ⟨fun a mo m => ?_, fun b o e1 n => ?_⟩
    · by_cases ha : a = D
      · subst ha
        rw [up_same] at m
        cases m
        exact ⟨vs, hD2, ra⟩
      · rw [up_ne ha] at m
        exact t2.abs a mo m
    · obtain ⟨o2, z1, zg, z2⟩ := t2.kee b o e1 n
      exact ⟨o2, z1, zg, by rw [up_ne (ne_of_none e1 hD)]; exact z2⟩
  | cons d r =>
    rw [hd] at q2
    obtain ⟨hi, hr, hlt⟩ := drop_at hd
    obtain ⟨go, yld⟩ := (sim i' M2 H2 t2 q2.1).1 d hi
    refine .inr ⟨go, Inv (i' + 1), fun H' z => ⟨items.length - (i' + 1), by omega, rfl, z⟩, fun x H3 y => ?_⟩
    obtain ⟨t3, r3⟩ := yld x H3 y
    have t13 := t1.trans (t2.trans t3)
    have S3 : Stt K W ax (env.set i (some d)) M2 ((wipe σ [i]).set i (some x)) H3 := by
      have rs := (S.next t13).rs.set (i := i) r3
      have e1 : (wipe σ [i]).set i (some x) = σ.set i (some x) := by
        show (σ.set i none).set i (some x) = σ.set i (some x)
        rw [List.set_set]
      rw [e1]
      exact S.at_ t13 rs
    show wipe ((wipe σ [i]).set i (some x)) [i] = wipe σ [i] ∧ _
    refine ⟨?_, ax, _, M2, _, S3, q2.2, fun b H4 M4 t4 q4 => ?_⟩
    · show ((σ.set i none).set i (some x)).set i none = σ.set i none
      rw [List.set_set, List.set_set]
    obtain ⟨hD3, _⟩ := t3.keep D _ hD2 md2
    obtain ⟨hD4, md4⟩ := t4.keep D _ hD3 md2
    have ra4 : RepL K H4 acc vs := t4.repL t3.abs (t3.repL t2.abs ra)
    have t24 := t2.trans (t3.trans t4)
    cases b with
    | false => exact ⟨M4, acc, vs, t24, hD4, md4, ra4, by omega, by rw [hr]; exact q4⟩
    | true =>
      refine ⟨ax, _, M4, _, S3.next t4, q4, fun v H5 dv M5 t5 r5 q5 => ?_⟩
      obtain ⟨hD5, md5⟩ := t5.keep D _ hD4 md4
      have ra5 : RepL K H5 acc vs := t5.repL t4.abs ra4
      have t25 := t24.trans t5
      refine ⟨vs, hD5, ?_, M5, acc ++ [dv], vs ++ [v], ⟨abs_updL t5.abs hD5 md5, fun b o e1 n => ?_⟩, upd_same, md5, ?_, ?_, by rw [hr]; exact q5⟩
      · rw [← ra5.length]
        exact Nat.lt_of_le_of_lt hl (Nat.lt_of_lt_of_le hlt (Nat.le_trans hlen (by decide)))
      · obtain ⟨o2, z1, zg, z2⟩ := t25.kee b o e1 n
        exact ⟨o2, by rw [upd_ne (ne_of_none e1 hD)]; exact z1, zg, z2⟩
      · exact RepL.mono (Kp.updL hD5) _ _ (ra5.append (RepL.one r5))
      · rw [List.length_append, List.length_singleton]
        omega
abbrev ATTs (X : Cx) (W : WX) (es : List Expr) (t : ATT) : Prop := PTs X es (cT X.K W t)
def aYes : ATT := fun _ _ M Q => Q true M
theorem PTs.imp {X : Cx} {e : List Expr} {t u : TT} (h : PTs X e t) (k : ∀ σ H Q, u σ H Q → t σ H Q) : PTs X e u := ⟨fun pins s σ H Q I q => h.run pins s σ H Q I (k σ H Q q)⟩
theorem ats_nil : ATTs X W [] aYes := PTs.imp pts_nil fun σ H Q h => by
  obtain ⟨ax, env, M, Qa, S, q, k⟩ := h
  exact k true H M (Tr.refl S.abs) q
theorem ats_one {c : Expr} {t : ATT} (h : AT X W c t) : ATTs X W [c] t := pts_one h
theorem ae_lc {x : Str} (i : Nat) {elt iter : Expr} {ifs : List Expr} {scope : Scope} {pos px : Pos} {ι : ATI} {t : ATT} {e : ATE} (hc : X.calm = true) (hN : X.N.Nodup) (hi : AI X W (.Name x px) iter ι) (ok : BlkOk X.N X.env.scope scope [(x, i)])
    (hg : ∀ (s : Shared) (H : Hp) (C : Addr) (cl : List (Str × Addr)) (fp : List Addr), PG (X.blk s H scope (compEnvC scope cl C X.env) fp) (.Name x px) (gName i)) (ht : ∀ (s : Shared) (H : Hp) (C : Addr) (cl : List (Str × Addr)) (fp : List Addr), ATTs (X.blk s H scope (compEnvC scope cl C X.env) fp) W ifs t)
    (he : ∀ (s : Shared) (H : Hp) (C : Addr) (cl : List (Str × Addr)) (fp : List Addr), AE (X.blk s H scope (compEnvC scope cl C X.env) fp) W elt e) (hs : ∀ x, foldedSetIterable iter X.env x = pure x := by intro _; rfl) :
    AE X W (.ListComp elt [⟨.Name x px, iter, ifs, 0⟩] scope pos) (aLc ι i t e) := PE.imp (pe_lc (own := [(x, i)]) hc hN hi ok hg ht he hs) fun _ _ _ => s_lc
end

section
variable {P : Program} {w : World} {K : PySem.W.Frag} {mg : Str → Option Value} {base : Heap}
def W0 : WX := fun _ _ _ _ => False
def startA (N : List Str) (ds : List D) : AEnv := ds.map some ++ List.replicate (N.length - ds.length) none
theorem start_rep {H : Hp} {N : List Str} {ds : List D} {vs : List V} (r : RepL K H ds vs) : RepS K H (startA N ds) (L2.start N vs) := by
  have l := r.length
  refine ⟨?_, fun i d e => ?_⟩
  · unfold startA L2.start
    rw [List.length_append, List.length_append, List.length_map, List.length_map, List.length_replicate, List.length_replicate, l]
  · unfold startA at e
    unfold L2.start
    by_cases hi : i < ds.length
    · rw [List.getElem?_append_left (by rw [List.length_map]; exact hi), List.getElem?_map, Option.map_eq_some_iff] at e
      obtain ⟨d', e1, e2⟩ := e
      cases e2
      obtain ⟨v, e3, rv⟩ := r.get e1
      exact ⟨v, by rw [List.getElem?_append_left (by rw [List.length_map]; omega), List.getElem?_map, e3]; rfl, rv⟩
    · rw [List.getElem?_append_right (by rw [List.length_map]; omega)] at e
      have z := List.mem_of_getElem? e
      rw [List.mem_replicate] at z
      cases z.2
theorem fn_abs {x qual : Str} {st : Stmt} {f : Addr} {fd : FuncData} {N ps : List Str} {k n : Nat} {A : ASp} {a : ATS} (F : Fun K x qual st f fd) (S : FnScope N ps (defScope st)) (hn : ps.length = n)
    (hbody : ∀ (cdv : Value) (A : Around) (outer : List Env) (s : Shared) (H : Hp) (E : XK), Room k (A.deeper (PyProof.Rows.envOfC qual (defScope st) s.heap.objs.size f cdv)) → ASs (cxOf CX0 P w K mg base N qual (defScope st) f cdv A outer s H E).nox W0 (defBody st) a)
    (hp : ∀ ds M Q Xa, ds.length = n → A ds M Q Xa → a ax0 { nx := fun _ M => Q .non M, rt := Q } (startA N ds) M) : FnOk P w K mg base CX0 (k + 1) f fd ps (conc K n A) := by
  refine F.ok S (fun vs H Q E h => ?_) (fun cdv Ar outer s H vs Q E hr h => ?_)
  · obtain ⟨ds, M, Qa, Xa, e, _⟩ := h
    rw [e, hn]
  · obtain ⟨ds, M, Qa, Xa, e, r, ab, tb, q, k1, _⟩ := h
    refine ⟨_, hbody cdv Ar outer s H E hr, ax0, startA N ds, M, { nx := fun _ M => Qa .non M, rt := Qa }, ⟨start_rep r, ab, XC.no, tb⟩, hp ds M Qa Xa (by rw [r.length]; exact e) q, ⟨fun σ' H' env' M' t rs q => k1 .non H' .non M' t rfl q, fun _ _ _ _ _ _ z => z.elim, fun _ _ _ _ _ _ z => z.elim, fun v H' d M' t r q => k1 v H' d M' t r q⟩⟩
end

theorem hu64 {k : Nat} {A : Around} (r : Room k A) : A.units + 64 < cLine := r.units
theorem hu1 {k : Nat} {A : Around} (r : Room k A) : A.units + 1 < cLine := hu_of r
section
variable {W : WX} {X : Cx} {o e : Expr} {α β : ATE} {pos apos cpos : Pos}
end

section
variable {X : Cx} {W : WX} {e f o : Expr} {α β γ : ATE} {τ : ATA} {p p2 q2 pos apos cpos : Pos}
theorem repL_of_strs {K : PySem.W.Frag} {H : Hp} : ∀ xs : List Str, RepL K H (xs.map D.str) (xs.map V.str)
  | [] => rfl
  | x :: r => ⟨_, _, rfl, rfl, repL_of_strs r⟩
def aSortSet (α : ATE) : ATE := fun ax env M Q => α ax env M fun x M1 => match x with
  | .obj p => lstAt M1 p fun ds => optAt (strsOf ds) fun xs => xs.length ≤ 4000 ∧ ∀ ys : List Str, ys.Nodup → (∀ k, k ∈ ys ↔ k ∈ xs) → PyProof.Rows.sortedS ys = true → New (.lst (ys.map D.str)) M1 Q
  | _ => False
def ρSortS : ARs := fun ds M Q => match ds with
  | [.obj p] => lstAt M p fun ds => optAt (strsOf ds) fun xs => xs.length < 64 ∧ ∀ ys : List Str, ys.Perm xs → PyProof.Rows.sortedS ys = true → New (.lst (ys.map D.str)) M Q
  | _ => False
def aSetd (a b c : ATE) : ATE := fun ax env M Q => a ax env M fun x M1 => match x with
  | .obj p => dicAt M1 p fun _ => b ax env M1 fun y M2 => c ax env M2 fun z M3 => dicAt M3 p fun kvs => optAt (keyD y) fun k => kvs.length < sizeLine ∧ match valA kvs k with
    | some v => Q v M3
    | none => Q z (up M3 p (.dic (putA kvs k z)))
  | _ => False
theorem ae_setd (ho : AE X W o α) (he : AE X W e β) (hf : AE X W f γ) (m : M2 X o "setdefault" apos e f cpos) : AE X W (.Call (.Attribute o "setdefault" apos) [e, f] [] cpos) (aSetd α β γ) :=
  PE.imp (pe_dsetd ho he hf m) fun σ H Q h => by
    obtain ⟨ax, env, M, Qa, S, q, k⟩ := h
    refine ⟨ax, env, M, _, S, q, fun x H1 dx M1 t1 r q => ?_⟩
    cases dx with
    | obj p =>
      cases (show x = V.ref p from r)
      obtain ⟨kvs, m, q⟩ := dicAt_ex q
      obtain ⟨ws, h1, hv⟩ := t1.abs p _ m
      refine ⟨p, rfl, .inl ⟨ws, .inl h1⟩, ax, env, M1, _, S.next t1, q, fun y H2 dy M2 t2 ry q => ?_⟩
      refine ⟨ax, env, M2, _, (S.next t1).next t2, q, fun z H3 dz M3 t3 rz q => ?_⟩
      obtain ⟨kvs, m, q⟩ := dicAt_ex q
      obtain ⟨key, e, l, q⟩ := optAt_ex q
      obtain ⟨ws, h1, hv⟩ := t3.abs p _ m
      obtain ⟨i1, i2⟩ := valA_rep key hv
      have t := (t1.trans t2).trans t3
      refine ⟨ws, key, h1, key_rep (t3.rep t2.abs ry) e, by rw [← lenK hv]; exact l, fun v hvv => ?_, fun hn => ?_⟩
      · cases g : valA kvs key with
        | some d =>
          rw [g] at q
          obtain ⟨v', h3, r3⟩ := i1 d g
          rw [h3] at hvv
          cases hvv
          exact k v H3 d M3 t r3 q
        | none => rw [i2 g] at hvv; cases hvv
      · cases g : valA kvs key with
        | some d =>
          obtain ⟨v', h3, r3⟩ := i1 d g
          rw [h3] at hn
          cases hn
        | none =>
          rw [g] at q
          have tw := Tr.write (mo := .dic (putA kvs key dz)) t3.abs m ⟨_, upd_same, repK_write t3.abs m (put_rep rz hv)⟩
          exact k z _ dz _ (t.trans tw) (rep_write t3.abs m rz) q
    | _ => exact False.elim q
def intsOf : List D → Option (List Int)
  | [] => some []
  | .int i :: r => (intsOf r).map fun xs => i :: xs
  | _ => none
theorem jDv : ∀ xs : List Int, intsOf (xs.map D.int) = some xs
  | [] => rfl
  | x :: xs => by show (intsOf (xs.map D.int)).map (fun ys => x :: ys) = _; rw [jDv xs]; rfl
def ρMaxI : ARs := fun ds M Q => match ds with
  | [.obj p] => lstAt M p fun ds => optAt (intsOf ds) fun xs => 0 < xs.length ∧ ∀ m, m ∈ xs → (∀ y, y ∈ xs → y ≤ m) → Q (.int m) M
  | _ => False
end

section
variable {X : Cx} {W : WX} {K : PySem.W.Frag}
def aPairs : List (Str × ATE) → AX → AEnv → Sto → (List (Key × D) → Sto → Prop) → Prop
  | [], _, _, M, Q => Q [] M
  | (s, a) :: r, ax, env, M, Q => a ax env M fun y M1 => aPairs r ax env M1 fun kvs M2 => Q ((.inr s, y) :: kvs) M2
def mergeA (kvs : List (Key × D)) (more : List (Key × D)) : List (Key × D) := more.foldl (fun acc kv => putA acc kv.1 kv.2) kvs
def aDisp (prs : List (Str × ATE)) : ATE := fun ax env M Q => ∀ p, M p = none → aPairs prs ax env (up M p (.dic [])) fun kvs M2 => M2 p = some (.dic []) ∧ kvs.length ≤ 15 ∧ Q (.obj p) (up M2 p (.dic (mergeA [] kvs)))
end

section
variable {W : WX} {X : Cx} {K : PySem.W.Frag}
def enumD : Int → List D → List D
  | _, [] => []
  | k, d :: r => .tup [.int k, d] :: enumD (k + 1) r
theorem enumD_get : ∀ (ds : List D) (k : Int) (i : Nat), (enumD k ds)[i]? = (ds[i]?).map fun d => D.tup [.int (k + i), d]
  | [], _, _ => by simp [enumD]
  | d :: r, k, 0 => by simp [enumD]
  | d :: r, k, i + 1 => by
    rw [enumD, List.getElem?_cons_succ, List.getElem?_cons_succ, enumD_get r (k + 1) i]
    congr 1
    funext x
    congr 3
    push_cast
    omega
theorem enumD_length : ∀ (ds : List D) (k : Int), (enumD k ds).length = ds.length
  | [], _ => rfl
  | d :: r, k => by rw [enumD, List.length_cons, List.length_cons, enumD_length]
def aIEnum (τ : ATA) : ATI := fun ax env M R => τ ax env M fun ds M1 => match ds with
  | [.tup ds] => R (enumD 0 ds) (fun _ => True) M1
  | [.obj p] => lstAt M1 p fun ds => R (enumD 0 ds) (fun M => M p = some (.lst ds)) M1
  | _ => False
theorem rep_pair {H : Hp} {T : Addr} {d e : D} {v w : V} (hT : H T = none) (h1 : Rep K H d v) (h2 : Rep K H e w) : Rep K (upd H T (.tup [v, w])) (.tup [d, e]) (.ref T) := rep_newT hT ⟨v, [w], rfl, h1, RepL.one h2⟩
theorem itsim_enL {p : Addr} {ds : List D} {M1 : Sto} {H1 : Hp} : ItSim K (Ite K p) (enumD 0 ds) (fun M => M p = some (.lst ds)) M1 H1 := fun i M H t m => by
  obtain ⟨vs, h1, hv⟩ := t.abs p _ m
  refine ⟨fun d e => ?_, fun e => ?_⟩
  · rw [enumD_get, Option.map_eq_some_iff] at e
    obtain ⟨d0, e0, rfl⟩ := e
    obtain ⟨v, e', r⟩ := hv.get e0
    refine ⟨⟨vs, v, SqL.of h1, e'⟩, fun x H' y => ?_⟩
    obtain ⟨T, v', rfl, hT, rfl, y⟩ := y
    cases e'.symm.trans (y vs (SqL.of h1))
    refine ⟨Tr.newT t.abs hT, ?_⟩
    rw [Int.zero_add]
    exact rep_pair (d := .int (i : Nat)) hT rfl r
  · refine ⟨vs, SqL.of h1, ?_⟩
    rw [enumD_get, Option.map_eq_none_iff] at e
    rw [← hv.length]
    exact List.getElem?_eq_none_iff.mp e
theorem itsim_enT {p : Addr} {ds : List D} {vs : List V} {M1 : Sto} {H1 : Hp} (ab : Abs K M1 H1) (hp : SqT K H1 p vs) (hv : RepL K H1 ds vs) : ItSim K (EN.ItEn K p) (enumD 0 ds) (fun _ => True) M1 H1 := fun i M H t m => by
  have hp' := t.sqT ab hp
  have hv' := t.repL ab hv
  refine ⟨fun d e => ?_, fun e => ?_⟩
  · rw [enumD_get, Option.map_eq_some_iff] at e
    obtain ⟨d0, e0, rfl⟩ := e
    obtain ⟨v, e', r⟩ := hv'.get e0
    refine ⟨⟨vs, v, hp', e'⟩, fun x H' y => ?_⟩
    obtain ⟨T, v', rfl, hT, rfl, y⟩ := y
    cases e'.symm.trans (y vs hp')
    refine ⟨Tr.newT t.abs hT, ?_⟩
    rw [Int.zero_add]
    exact rep_pair (d := .int (i : Nat)) hT rfl r
  · refine ⟨vs, hp', ?_⟩
    rw [enumD_get, Option.map_eq_none_iff] at e
    rw [← hv'.length]
    exact List.getElem?_eq_none_iff.mp e
theorem ai_enum {a : Expr} {τ : ATA} {p pos tp : Pos} {es : List Expr} {kk : Nat} (hg : Gl X "enumerate") (hm : X.mg "enumerate" = none) (ha : AA X W [a] τ) (hs : starEach [a] X.env = [(false, eval a X.env)] := by rfl) :
    AI X W (.Tuple es kk tp) (.Call (.Name "enumerate" p) [a] [] pos) (aIEnum τ) :=
  PI.imp (EN.pi_enA hg hm ha hs) fun σ H R h => by
    obtain ⟨ax, env, M, Ra, S, q, k⟩ := h
    refine ⟨ax, env, M, _, S, q, fun vs H1 ds M1 t r q => ?_⟩
    split at q
    · obtain ⟨v, rfl, r1⟩ := repL1 r
      obtain ⟨b, ws, rfl, hp, hv⟩ := r1
      exact ⟨b, ws, rfl, .inr ⟨hp, k _ _ _ M1 H1 t (itsim_enT t.abs hp hv) q⟩⟩
    · obtain ⟨v, rfl, r1⟩ := repL1 r
      cases (show v = V.ref _ from r1)
      obtain ⟨ds, m, q⟩ := lstAt_ex q
      obtain ⟨ws, h1, hv⟩ := t.abs _ _ m
      exact ⟨_, ws, rfl, .inl ⟨SqL.of h1, k _ _ _ M1 H1 t itsim_enL q⟩⟩
    · exact q.elim
def zipD : List D → List D → List D
  | d :: r, e :: s => .tup [d, e] :: zipD r s
  | _, _ => []
def aIZip (τ : ATA) : ATI := fun ax env M R => τ ax env M fun ds M1 => match ds with
  | [.tup ds, .tup es] => R (zipD ds es) (fun _ => True) M1
  | [.obj p, .obj q] => lstAt M1 p fun ds => lstAt M1 q fun es => R (zipD ds es) (fun M => M p = some (.lst ds) ∧ M q = some (.lst es)) M1
  | _ => False
end
section
variable {W : WX} {X : Cx} {K : PySem.W.Frag}
def aLc2Go (chk : Sto → Prop) (i j : Nat) (t : ATT) (e : ATE) (ax : AX) (env : AEnv) : List D → List D → Sto → (List D → Sto → Prop) → Prop
  | [], acc, M, Q => chk M ∧ Q acc M
  | .tup [d, c] :: r, acc, M, Q => chk M ∧ t ax ((env.set i (some d)).set j (some c)) M fun b M1 => if b = true then e ax ((env.set i (some d)).set j (some c)) M1 fun y M2 => aLc2Go chk i j t e ax env r (acc ++ [y]) M2 Q else aLc2Go chk i j t e ax env r acc M1 Q
  | _ :: _, _, _, _ => False
def aLc2 (ι : ATI) (i j : Nat) (t : ATT) (e : ATE) : ATE := fun ax env M Q => ι ax env M fun items chk M1 => i ≠ j ∧ items.length ≤ 1000000 ∧ aLc2Go chk i j t e ax env items [] M1 fun acc M2 => New (.lst acc) M2 Q
abbrev gPair (K : PySem.W.Frag) (i j : Nat) : TG := gTup K 2 (gCons (gName i) (gCons (gName j) gNil))
theorem set_pair {σ : L2.St} {i j : Nat} (n : i ≠ j) (v w : V) : ((wipe σ [i, j]).set i (some v)).set j (some w) = (σ.set i (some v)).set j (some w) := by
  show (((σ.set j none).set i none).set i (some v)).set j (some w) = _
  rw [List.set_set, List.set_comm _ _ n.symm, List.set_set]
theorem wipe_pair {σ : L2.St} {i j : Nat} (n : i ≠ j) (v w : V) : wipe ((σ.set i (some v)).set j (some w)) [i, j] = wipe σ [i, j] := by
  show (((σ.set i (some v)).set j (some w)).set j none).set i none = (σ.set j none).set i none
  rw [List.set_set, List.set_comm _ _ n, List.set_set]
theorem lc2_cons {chk : Sto → Prop} {i j : Nat} {t : ATT} {e : ATE} {ax : AX} {env : AEnv} {d : D} {r acc : List D} {M : Sto} {Q : List D → Sto → Prop} (h : aLc2Go chk i j t e ax env (d :: r) acc M Q) : ∃ a b, d = .tup [a, b] ∧
    chk M ∧ t ax ((env.set i (some a)).set j (some b)) M fun k M1 => if k = true then e ax ((env.set i (some a)).set j (some b)) M1 fun y M2 => aLc2Go chk i j t e ax env r (acc ++ [y]) M2 Q else aLc2Go chk i j t e ax env r acc M1 Q := by
  match d, h with
  | .tup [a, b], h => exact ⟨a, b, rfl, h⟩
theorem s_lc2 {i j : Nat} {ι : ATI} {t : ATT} {e : ATE} {σ : L2.St} {H : Hp} {Q : VK} (h : cE K W (aLc2 ι i j t e) σ H Q) : tLc (cI K W ι) (gPair K i j) (cT K W t) (cE K W e) [i, j] σ H Q := by
  obtain ⟨ax, env, M, Qa, S, q, k⟩ := h
  refine ⟨ax, env, M, _, S, q, fun J items chk M1 H1 t1 sim q => ?_⟩
  obtain ⟨nij, hlen, q⟩ := q
  intro D hD
  have md : M1 D = none := t1.abs.fresh hD
  let Qf : List AL.D → Sto → Prop := fun acc M2 => ∀ p, M2 p = none → Qa (.obj p) (up M2 p (.lst acc))
  let Inv : Nat → Hp → Prop := fun i' H' => ∃ M' acc vs, Tr K M1 H1 M' H' ∧ H' D = some (.lst vs) ∧ M' D = none ∧ RepL K H' acc vs ∧ acc.length ≤ i' ∧ aLc2Go chk i j t e ax env (items.drop i') acc M' Qf
  refine ⟨fun i' m H' => m = items.length - i' ∧ Inv i' H', ⟨items.length, rfl, M1, [], [], Tr.newT t1.abs hD, upd_same, md, rfl, Nat.le_refl _, q⟩, ?_⟩
  rintro i' m H2 ⟨rfl, M2, acc, vs, t2, hD2, md2, ra, hl, q2⟩
  cases hd : items.drop i' with
  | nil =>
    rw [hd] at q2
    refine .inl ⟨(sim i' M2 H2 t2 q2.1).2 (drop_end hd), ?_⟩
    refine k (.ref D) H2 (.obj D) (up M2 D (.lst acc)) (t1.trans ?_) rfl (q2.2 D md2)
    refine ⟨fun a mo m => ?_, fun b o e1 n => ?_⟩
    · by_cases ha : a = D
      · subst ha
        rw [up_same] at m
        cases m
        exact ⟨vs, hD2, ra⟩
      · rw [up_ne ha] at m
        exact t2.abs a mo m
    · obtain ⟨o2, z1, zg, z2⟩ := t2.kee b o e1 n
      exact ⟨o2, z1, zg, by rw [up_ne (ne_of_none e1 hD)]; exact z2⟩
  | cons d r =>
    rw [hd] at q2
    obtain ⟨d1, d2, rfl, q2⟩ := lc2_cons q2
    obtain ⟨hi, hr, hlt⟩ := drop_at hd
    obtain ⟨go, yld⟩ := (sim i' M2 H2 t2 q2.1).1 _ hi
    refine .inr ⟨go, Inv (i' + 1), fun H' z => ⟨items.length - (i' + 1), by omega, rfl, z⟩, fun x H3 y => ?_⟩
    obtain ⟨t3, r3⟩ := yld x H3 y
    obtain ⟨a, us, rfl, hT, hu⟩ := r3
    obtain ⟨v1, v2, rfl, rv1, rv2⟩ := repL2 hu
    have t13 := t1.trans (t2.trans t3)
    have S3 : Stt K W ax ((env.set i (some d1)).set j (some d2)) M2 ((σ.set i (some v1)).set j (some v2)) H3 := S.at_ t13 (((S.next t13).rs.set (i := i) rv1).set (i := j) rv2)
    refine ⟨a, [v1, v2], rfl, hT, rfl, v1, [v2], rfl, ?_⟩
    show ∃ v r, [v2] = v :: r ∧ _
    refine ⟨v2, [], rfl, ?_⟩
    show [] = [] ∧ _
    refine ⟨rfl, ?_⟩
    rw [set_pair nij]
    refine ⟨wipe_pair nij v1 v2, ax, _, M2, _, S3, q2.2, fun b H4 M4 t4 q4 => ?_⟩
    obtain ⟨hD3, _⟩ := t3.keep D _ hD2 md2
    obtain ⟨hD4, md4⟩ := t4.keep D _ hD3 md2
    have ra4 : RepL K H4 acc vs := t4.repL t3.abs (t3.repL t2.abs ra)
    have t24 := t2.trans (t3.trans t4)
    cases b with
    | false => exact ⟨M4, acc, vs, t24, hD4, md4, ra4, by omega, by rw [hr]; exact q4⟩
    | true =>
      refine ⟨ax, _, M4, _, S3.next t4, q4, fun v H5 dv M5 t5 r5 q5 => ?_⟩
      obtain ⟨hD5, md5⟩ := t5.keep D _ hD4 md4
      have ra5 : RepL K H5 acc vs := t5.repL t4.abs ra4
      have t25 := t24.trans t5
      refine ⟨vs, hD5, ?_, M5, acc ++ [dv], vs ++ [v], ⟨abs_updL t5.abs hD5 md5, fun b o e1 n => ?_⟩, upd_same, md5, ?_, ?_, by rw [hr]; exact q5⟩
      · rw [← ra5.length]
        exact Nat.lt_of_le_of_lt hl (Nat.lt_of_lt_of_le hlt (Nat.le_trans hlen (by decide)))
      · obtain ⟨o2, z1, zg, z2⟩ := t25.kee b o e1 n
        exact ⟨o2, by rw [upd_ne (ne_of_none e1 hD)]; exact z1, zg, z2⟩
      · exact RepL.mono (Kp.updL hD5) _ _ (ra5.append (RepL.one r5))
      · rw [List.length_append, List.length_singleton]
        omega
theorem as_setLc2 {x y z : Str} (i j l : Nat) {pz : Pos} {elt iter : Expr} {ifs : List Expr} {scope : Scope} {pos px py pt spos : Pos} {kk : Nat} {ι : ATI} {t : ATT} {e : ATE} (hc : X.calm = true) (hN : X.N.Nodup) (hz : X.N[l]? = some z) (hzl : X.env.scope.names.lookup z = some .local)
    (hsw : swapsWith (.ListComp elt [⟨.Tuple [.Name x px, .Name y py] kk pt, iter, ifs, 0⟩] scope pos) (some (.Name z pz)) spos.line X.env = pure true) (hi : AI X W (.Tuple [.Name x px, .Name y py] kk pt) iter ι) (ok : BlkOk X.N X.env.scope scope [(x, i), (y, j)])
    (hg : ∀ (s : Shared) (H : Hp) (C : Addr) (cl : List (Str × Addr)) (fp : List Addr), PG (X.blk s H scope (compEnvC scope cl C X.env) fp) (.Tuple [.Name x px, .Name y py] kk pt) (gPair X.K i j))
    (ht : ∀ (s : Shared) (H : Hp) (C : Addr) (cl : List (Str × Addr)) (fp : List Addr), ATTs (X.blk s H scope (compEnvC scope cl C X.env) fp) W ifs t)
    (he : ∀ (s : Shared) (H : Hp) (C : Addr) (cl : List (Str × Addr)) (fp : List Addr), AE (X.blk s H scope (compEnvC scope cl C X.env) fp) W elt e) (hs : ∀ x, foldedSetIterable iter X.env x = pure x := by intro _; rfl) :
    AS X W (.Assign [.Name z pz] (.ListComp elt [⟨.Tuple [.Name x px, .Name y py] kk pt, iter, ifs, 0⟩] scope pos) spos) (aAsg (aLc2 ι i j t e) (agName l)) := PS.imp (ps_setLc (i := l) (own := [(x, i), (y, j)]) hc hN hz hzl hsw hi ok hg ht he hs) fun D σ H h => by
  obtain ⟨ax, env, M, Da, S, q, k⟩ := h
  exact s_lc2 (W := W) ⟨ax, env, M, _, S, q, fun v H1 d M1 t r q => k.nx _ H1 _ M1 t ((S.next t).rs.set r) q⟩
end
section
variable {K : PySem.W.Frag}
def blsOf : List D → Option (List Bool)
  | [] => some []
  | .bl x :: r => (blsOf r).map fun xs => x :: xs
  | _ :: _ => none
theorem jD8 : ∀ (xs : List Bool), blsOf (xs.map D.bl) = some xs
  | [] => rfl
  | x :: xs => by show (blsOf (xs.map D.bl)).map (fun ys => x :: ys) = _; rw [jD8 xs]; rfl
def ρAny : ARs := fun ds M Q => match ds with
  | [.obj p] => lstAt M p fun ds => optAt (blsOf ds) fun bs => Q (.bl (bs.any id)) M
  | _ => False
def ρAll : ARs := fun ds M Q => match ds with
  | [.obj p] => lstAt M p fun ds => optAt (blsOf ds) fun bs => Q (.bl (bs.all id)) M
  | _ => False
def ρMulS : AR2 := fun x y M Q => match x, y with
  | .str z, .int k => 0 ≤ k ∧ k ≤ 1000 ∧ z.length ≤ 1000 ∧ Q (.str (EN.reps z k.toNat)) M
  | x, y => ρMul x y M Q
end

section
variable {W : WX} {X : Cx} {K : PySem.W.Frag} {e o : Expr} {es : List Expr} {α : ATE} {τ : ATA} {pos p apos cpos : Pos} {x : Str}
theorem ext_noFz {f : Heap → Prop} : ¬ Fz (.ext f) := fun z => z.elim
theorem Tr.newR {M : Sto} {H : Hp} (h : Abs K M H) {p : Addr} {o : HO} (n : ¬ Fz o) (hp : H p = none) : Tr K M H (up M p (.raw o)) (upd H p o) := Tr.newM (mo := .raw o) h hp ⟨upd_same, n⟩
theorem Tr.writeR {M : Sto} {H : Hp} (h : Abs K M H) {p : Addr} {o : HO} {m0 : MO} (n : ¬ Fz o) (hp : M p = some m0) : Tr K M H (up M p (.raw o)) (upd H p o) := Tr.write (mo := .raw o) h hp ⟨upd_same, n⟩
def aSet0 (w : World) : ATE := fun _ _ M Q => ∀ p, M p = none → Q (.obj p) (up M p (.raw (SetTx w p [])))
theorem ae_set0 (hg : Gl X x) (hm : X.mg x = none) (hv : bootBuiltins x = some (.type "set")) (hn : x ≠ "__name__" := by decide) (hdb : (x == ("__debug__" : Str)) = false := by decide) : AE X W (.Call (.Name x p) [] [] pos) (aSet0 X.w) :=
  PE.imp (pe_callTy0 cr_set0Tx hg hm hv hn hdb) fun σ H Q h => by
    obtain ⟨ax, env, M, Qa, S, q, k⟩ := h
    exact ⟨rfl, fun b hb => k _ _ (.obj b) _ (Tr.newR S.abs ext_noFz hb) rfl (q b (S.abs.fresh hb))⟩
def aSAdd (w : World) (a : ATE) (τ : ATA) : ATE := fun ax env M Q => a ax env M fun x M1 => match x with
  | .obj p => (∃ ks, M1 p = some (.raw (SetTx w p ks))) ∧ τ ax env M1 fun xs M2 => match xs with
    | [.str k] => ∃ ks, M2 p = some (.raw (SetTx w p ks)) ∧ ks.length ≤ 4000 ∧ Q .non (up M2 p (.raw (SetTx w p (if k ∈ ks then ks else k :: ks))))
    | _ => False
  | _ => False
theorem ae_sadd (ha : AE X W o α) (hb : AA X W (e :: es) τ) (hbase : attributeBase o "add" X.env (eval o X.env) = eval o X.env := by rfl)
    (hfew : ((backTo cpos (starEach (e :: es) X.env)).all (fun x => !x.1) && (backToKw cpos (keywordEach [] X.env)).all (fun x => x.1.isSome)
      && decide ((e :: es).length + ([] : List Keyword).length + (if ([] : List Keyword).isEmpty then 0 else 1) < 30)) = true := by rfl)
    (hline : (apos.endLine == cpos.line) = true := by rfl) (hs : starEach (e :: es) X.env = (false, eval e X.env) :: starEach es X.env := by rfl) (hplain : (backTo cpos (starEach es X.env)).any (·.1) = false := by rfl) :
    AE X W (.Call (.Attribute o "add" apos) (e :: es) [] cpos) (aSAdd X.w α τ) :=
  PE.imp (pe_saddTx ha hb hbase hfew hline hs hplain) fun σ H Q h => by
    obtain ⟨ax, env, M, Qa, S, q, k⟩ := h
    refine ⟨ax, env, M, _, S, q, fun x H1 dx M1 t r q => ?_⟩
    cases dx with
    | obj p =>
      cases (show x = V.ref p from r)
      obtain ⟨⟨ks, m⟩, q⟩ := q
      refine ⟨⟨p, ks, rfl, (t.abs p _ m).1⟩, ax, env, M1, _, S.next t, q, fun vs H2 ds M2 t2 r2 q2 => ?_⟩
      split at q2
      · obtain ⟨v, rfl, r1⟩ := repL1 r2
        cases (show v = V.str _ from r1)
        obtain ⟨ks2, m2, few, q2⟩ := q2
        refine ⟨p, _, ks2, rfl, rfl, (t2.abs p _ m2).1, ?_, k _ _ .non _ ((t.trans t2).trans (Tr.writeR t2.abs ext_noFz m2)) rfl q2⟩
        unfold PySem.scanBound
        omega
      · exact q2.elim
    | _ => exact False.elim q
def ρSortTx (w : World) : ARs := fun ds M Q => match ds with
  | [.obj p] => ∃ ks, M p = some (.raw (SetTx w p ks)) ∧ ∀ ys : List Str, ys.Perm ks → PyProof.Rows.sortedS ys = true → New (.lst (ys.map D.str)) M Q
  | _ => False
theorem sim_sortTx {w : World} : SimC K (rSortTx w) (ρSortTx w) := by
  intro xs ds H M Q Qc ab rx q k
  unfold ρSortTx at q
  split at q
  · obtain ⟨v, rfl, r1⟩ := repL1 rx
    cases (show v = V.ref _ from r1)
    obtain ⟨ks, m, q⟩ := q
    refine ⟨_, ks, rfl, (ab _ _ m).1, fun ys b pm so hb => ?_⟩
    exact k _ _ (.obj b) _ (Tr.newM (mo := .lst (ys.map D.str)) ab hb ⟨ys.map V.str, upd_same, repL_of_strs ys⟩) rfl (q ys pm so b (ab.fresh hb))
  · exact q.elim
def ρSortD : ARs := fun ds M Q => match ds with
  | [.obj p] => dicAt M p fun kvs => ∃ ks : List Str, kvs.map (·.1) = ks.map Sum.inr ∧ ks.length < 64 ∧ ∀ ys : List Str, ys.Perm ks → PyProof.Rows.sortedS ys = true → New (.lst (ys.map D.str)) M Q
  | _ => False
def pysM (M : Sto) : List D → Option (List PyData)
  | [] => some []
  | d :: ds => (pyM M d).bind fun p => (pysM M ds).map fun ps => p :: ps
def pyM2 (M : Sto) : D → Option PyData
  | .obj a => match M a with
    | some (.lst ds) => (pysM M ds).map .list
    | _ => none
  | d => d.py
theorem RepL.dpM {H : Hp} {M : Sto} (ab : Abs K M H) : ∀ {ds : List D} {vs : List V} {ps : List PyData}, RepL K H ds vs → pysM M ds = some ps → DpAll K H vs ps
  | [], vs, ps, h, e => by cases (show vs = [] from h); cases (Option.some.inj e); exact .nil
  | d :: ds, vs, ps, h, e => by
    obtain ⟨v, r, rfl, h1, h2⟩ := h
    rw [pysM, Option.bind_eq_some_iff] at e
    obtain ⟨p, e1, e⟩ := e
    rw [Option.map_eq_some_iff] at e
    obtain ⟨ps', e2, rfl⟩ := e
    exact .cons (Rep.dpM ab h1 e1) (RepL.dpM ab h2 e2)
def isRef : D → Bool
  | .tup _ => true
  | .obj _ => true
  | _ => false
def ρRepr : ARs := fun ds M Q => match ds with
  | [d] => ∃ p, isRef d = true ∧ pyM2 M d = some p ∧ p.showable = true ∧ p.hasDict = false ∧ p.depth ≤ 64 ∧ p.shown.length ≤ sizeLine ∧ Q (.str p.shown) M
  | _ => False
end
section
variable {P : Program} {w : World} {K : PySem.W.Frag} {mg : Str → Option Value} {base : Heap}
end
section
variable {W : WX} {X : Cx} {k n : Nat} {f : Addr} {fd : FuncData} {ps : List Str} {A : ASp} {x : Str} {p pos : Pos} {e : Expr} {es : List Expr} {τ : ATA}
end

section
variable {W : WX} {X : Cx} {K : PySem.W.Frag} {e o : Expr} {es : List Expr} {α : ATE} {τ : ATA} {pos p apos cpos : Pos} {x : Str}
def ρExtT : Addr → List D → List D → Sto → (D → Sto → Prop) → Prop := fun p ds xs M Q => match xs with
  | [.tup es] => ds.length + es.length ≤ sizeLine ∧ Q .non (up M p (.lst (ds ++ es)))
  | _ => False
theorem sim_extT : SimM K (rExtT K) ρExtT := by
  intro p ds xs vs H M Q Qc ab m rx q k
  unfold ρExtT at q
  split at q
  · obtain ⟨v, rfl, r1⟩ := repL1 rx
    obtain ⟨b, us, rfl, hT, hw⟩ := r1
    obtain ⟨ws, h1, hv⟩ := ab p _ m
    exact ⟨p, b, ws, us, rfl, rfl, h1, hT, by rw [← hv.length, ← hw.length]; exact q.1, k _ _ .non _ (Tr.write (mo := .lst (ds ++ _)) ab m ⟨_, upd_same, repL_write ab m (hv.append hw)⟩) rfl q.2⟩
  · exact q.elim
theorem ae_extT (ha : AE X W o α) (hb : AA X W (e :: es) τ) (hbase : attributeBase o "extend" X.env (eval o X.env) = eval o X.env := by rfl)
    (hfew : ((backTo cpos (starEach (e :: es) X.env)).all (fun x => !x.1) && (backToKw cpos (keywordEach [] X.env)).all (fun x => x.1.isSome)
      && decide ((e :: es).length + ([] : List Keyword).length + (if ([] : List Keyword).isEmpty then 0 else 1) < 30)) = true := by rfl)
    (hline : (apos.endLine == cpos.line) = true := by rfl) (hs : starEach (e :: es) X.env = (false, eval e X.env) :: starEach es X.env := by rfl) (hplain : (backTo cpos (starEach es X.env)).any (·.1) = false := by rfl) :
    AE X W (.Call (.Attribute o "extend" apos) (e :: es) [] cpos) (aLm ρExtT α τ) :=
  PE.imp (pe_bm PySem.F.plainAttrs_list PySem.F.slot_list_extend PySem.F.type_list_extend mt_extT ha hb hbase hfew hline hs hplain) fun _ _ _ => s_lm sim_extT
end

section
variable {W : WX} {X : Cx} {K : PySem.W.Frag}
def aScGo2 (chk : Sto → Prop) (i j : Nat) (t : ATT) (e : ATE) (ax : AX) (env : AEnv) : List D → List Int → Sto → (List Int → Sto → Prop) → Prop
  | [], acc, M, Q => chk M ∧ Q acc M
  | .tup [d, c] :: r, acc, M, Q => chk M ∧ t ax ((env.set i (some d)).set j (some c)) M fun b M1 => if b = true then e ax ((env.set i (some d)).set j (some c)) M1 fun y M2 => match y with
      | .int k => aScGo2 chk i j t e ax env r (acc ++ [k]) M2 Q
      | _ => False
    else aScGo2 chk i j t e ax env r acc M1 Q
  | _ :: _, _, _, _ => False
def aSc2 (w : World) (ι : ATI) (i j : Nat) (t : ATT) (e : ATE) : ATE := fun ax env M Q => ι ax env M fun items chk M1 => i ≠ j ∧ items.length ≤ 4000 ∧ aScGo2 chk i j t e ax env items [] M1 fun acc M2 =>
  ∀ (p : Addr) (n : Nat), n ≤ acc.length → M2 p = none → Q (.obj p) (up M2 p (.raw (SetO w p (fun k => decide (k ∈ acc)) n)))
def ρSortZ (w : World) : ARs := fun ds M Q => match ds with
  | [.obj p] => ∃ S n, M p = some (.raw (SetO w p S n)) ∧ n < 64 ∧ ∀ ns : List Int, ns.Pairwise (· < ·) → (∀ k : Int, k ∈ ns ↔ S k = true) → New (.lst (ns.map D.int)) M Q
  | _ => False
def aTupVals (a : ATE) : ATE := fun ax env M Q => a ax env M fun x M1 => match x with
  | .obj p => dicAt M1 p fun kvs => Q (.tup (kvs.map (·.2))) M1
  | _ => False
end

section
open PySem PySem.Spec L2 PyProof.Rows
def RepW (K : PySem.W.Frag) (d : D) (u : Value) : Prop := ∃ v, RelV v u ∧ ∀ H, Rep K H d v
def EntsOk (K : PySem.W.Frag) (w : World) : List DictEntry → List (Key × D) → Prop
  | [], [] => True
  | e :: es, (k, d) :: tab => keyIs k e.key = true ∧ e.hash = keyH w k ∧ RepW K d e.val ∧ EntsOk K w es tab
  | _, _ => False
structure WDct (K : PySem.W.Frag) (w : World) (a : Addr) (tab : List (Key × D)) : Prop where
  ents : ∃ es n, K.lookup a = some ⟨.type "dict", none, .dict es n, #[]⟩ ∧ EntsOk K w es.toList tab
  low : (a == sysModules) = false
theorem RepW.int {K : PySem.W.Frag} {i : Int} {t : Tok} : RepW K (.int i) (.int i t) := ⟨.int i, ⟨t, rfl⟩, fun _ => rfl⟩
theorem RepW.str {K : PySem.W.Frag} {x : Str} {t : Tok} : RepW K (.str x) (.str x t) := ⟨.str x, ⟨t, rfl⟩, fun _ => rfl⟩
theorem repW_all {K : PySem.W.Frag} : ∀ {ds : List D} {us : List Value}, Paired (RepW K) ds us → ∃ vs, Vals vs us ∧ ∀ H, RepL K H ds vs
  | _, _, .nil => ⟨[], .nil, fun _ => rfl⟩
  | _, _, .cons ⟨v, r, q⟩ h => by
    obtain ⟨vs, r2, q2⟩ := repW_all h
    exact ⟨v :: vs, .cons r r2, fun H => ⟨v, vs, rfl, q H, q2 H⟩⟩
theorem RepW.tup {K : PySem.W.Frag} {ds : List D} {a : Addr} {dd : Option Addr} {its : Array Value} {n : Nat} {sl : Array (Option Value)} (h : K.lookup a = some ⟨.type "tuple", dd, .seq its n, sl⟩) (z : its.size ≤ sizeLine) (q : Paired (RepW K) ds its.toList) : RepW K (.tup ds) (.ref a) := by
  obtain ⟨vs, r, q2⟩ := repW_all q
  exact ⟨.ref a, rfl, fun H => ⟨a, vs, rfl, .inr ⟨_, its, n, h, rfl, rfl, z, r⟩, q2 H⟩⟩
section
variable {P : Program} {w : World} {K : PySem.W.Frag}
theorem ents_keys : ∀ {es : List DictEntry} {tab : List (Key × D)}, EntsOk K w es tab → ∀ e ∈ es, ∃ k, (mixKind P w).is k e.key = true ∧ e.hash = (mixKind P w).hash k
  | [], [], _, e, h => nomatch h
  | e :: es, (k, d) :: tab, h, e', m => by
    rcases List.mem_cons.mp m with rfl | m
    · exact ⟨k, h.1, h.2.1⟩
    · exact ents_keys h.2.2.2 e' m
theorem ents_find (y : Key) : ∀ {es : List DictEntry} {tab : List (Key × D)}, EntsOk K w es tab → ∃ u, (((es.find? fun e => keyIs y e.key).map (·.val)).getD .none) = u ∧ RepW K ((valA tab y).getD .non) u ∧ ((es.find? fun e => keyIs y e.key).isSome = (valA tab y).isSome)
  | [], [], _ => ⟨_, rfl, ⟨.non, rfl, fun _ => rfl⟩, rfl⟩
  | e :: es, (k, d) :: tab, h => by
    obtain ⟨u, e1, q, s⟩ := ents_find y h.2.2.2
    have z : keyIs y e.key = decide (y = k) := KeyKind.is_eq_decide (knd := mixKind (default : Program) w) h.1 y
    have e2 : valA ((k, d) :: tab) y = if k = y then some d else valA tab y := by
      unfold valA
      rw [List.find?_cons]
      by_cases c : k = y
      · rw [if_pos c]
        have : decide (((k, d) : Key × D).1 = y) = true := decide_eq_true c
        rw [this]; rfl
      · rw [if_neg c]
        have : decide (((k, d) : Key × D).1 = y) = false := decide_eq_false c
        rw [this]
    rw [List.find?_cons, z, e2]
    by_cases c : y = k
    · subst c
      rw [decide_eq_true rfl, if_pos rfl]
      exact ⟨_, rfl, h.2.2.1, rfl⟩
    · rw [decide_eq_false c, if_neg (fun z => c z.symm)]
      exact ⟨u, e1, q, s⟩
theorem WDct.mapOf {h : Heap} {a : Addr} {tab : List (Key × D)} (D : WDct K w a tab) (X : K.In h) : ∃ f, h.MapOf (mixKind P w) a f ∧ ∀ k, RepW K ((valA tab k).getD .non) ((f k).getD .none) ∧ (f k).isSome = (valA tab k).isSome := by
  obtain ⟨es, n, hl, ok⟩ := D.ents
  refine ⟨fun k => findBy (mixKind P w).is es k, ⟨_, es, n, X _ _ hl, ⟨rfl, rfl, rfl⟩, rfl, fun e he => ents_keys (P := P) ok e (Array.mem_toList_iff.mpr he), fun _ => rfl⟩, fun k => ?_⟩
  obtain ⟨u, e1, q, s⟩ := ents_find k ok
  have e3 : findBy (mixKind P w).is es k = (es.toList.find? fun e => keyIs k e.key).map (·.val) := by
    unfold findBy
    rw [← Array.find?_toList]
    rfl
  show RepW K _ ((findBy (mixKind P w).is es k).getD .none) ∧ (findBy (mixKind P w).is es k).isSome = _
  rw [e3, e1, Option.isSome_map]
  exact ⟨q, s⟩
end
section
variable {W : WX} {X : Cx} {K : PySem.W.Frag}
def aWGet (tab : List (Key × D)) (α : ATE) : ATE := fun ax env M Q => α ax env M fun y M1 => optAt (keyD y) fun k => Q ((valA tab k).getD .non) M1
def aWIx (tab : List (Key × D)) (α : ATE) : ATE := fun ax env M Q => α ax env M fun y M1 => optAt (keyD y) fun k => optAt (valA tab k) fun d => Q d M1
theorem ae_wget {g : Str} {a : Addr} {tab : List (Key × D)} {e : Expr} {β : ATE} {p apos cpos : Pos} (hg : Gl X g) (hm : X.mg g = some (.ref a)) (D : WDct X.K X.w a tab) (he : AE X W e β) (m : M1 X (.Name g p) "get" apos e cpos) (hd : (g == ("__debug__" : Str)) = false := by decide) :
    AE X W (.Call (.Attribute (.Name g p) "get" apos) [e] [] cpos) (aWGet tab β) := ⟨fun pins s σ H Q I h => by
  obtain ⟨ax, env, M, Qa, S, q, k⟩ := h
  refine wpAny_Call_method m.base m.few m.line PySem.F.plainAttrs_dict PySem.F.slot_dict_get PySem.F.type_dict_get (thn ((pe_glob (v := .ref a) hg hm rfl hd).run pins s σ H _ I (show tC (V.ref a) σ H (fun x H1 => x = V.ref a ∧ H1 = H) from ⟨rfl, rfl⟩)) fun u s1 ⟨x, H1, I1, rx, ex, eH⟩ => ?_)
  subst ex eH
  obtain rfl : u = Value.ref a := rx
  obtain ⟨f, hm1, _⟩ := D.mapOf (P := X.prog) I1.kIn
  refine ⟨hm1.typeIs, fun b z => ?_, ?_⟩
  · cases z
    obtain ⟨ob, _, _, h1, h2, _⟩ := hm1
    exact ⟨ob, h1, h2.2.1⟩
  rw [m.trees]
  refine Calls.callWith_builtin rfl (Calls.evalArgs_plain (Calls.spliced_cons (thn (he.run pins s1 σ H1 _ I1 ⟨ax, env, M, _, S, q, fun y H2 dy M2 t ry q => (⟨dy, M2, t, ry, q⟩ : ∃ dy M2, Tr X.K M H1 M2 H2 ∧ Rep X.K H2 dy y ∧ optAt (keyD dy) fun k => Qa ((valA tab k).getD .non) M2)⟩) fun iv s2 ⟨y, H2, I2, ry, dy, M2, t, rd, q2⟩ => Calls.spliced_nil ?_)))
  obtain ⟨key, ek, q2⟩ := optAt_ex q2
  have ey := key_rep rd ek
  subst ey
  obtain ⟨f2, hm2, ok⟩ := D.mapOf (P := X.prog) I2.kIn
  obtain ⟨⟨v, rv, rep⟩, _⟩ := ok key
  refine call_meetsIn PySem.F.slot_dict_get hm2.typeIs PySem.F.entry_dict_get (PySem.F.args_dict_get_2 _ _) (meets_dict_get (mixKind X.prog X.w) a (kV_is ry) D.low) ⟨_, hm2, ?_⟩
  exact ⟨v, H2, I2.tok _, rv, k v H2 _ M2 t (rep H2) q2⟩⟩
end
end

set_option maxHeartbeats 2000000
namespace ZL
open PySem PySem.Spec PyProof.Rows L2
open PySem.Sem (wp)
abbrev IsZip2 (h : Heap) (z TI TO T : Addr) (b : Bool) : Prop :=
  h.get? z = some { cls := .type "zip", dict := none, data := .fields #[rawInt T, .bool b, .bool false, .ref TI, .ref TO], slots := #[] }
section
variable {prog : Program} {w : World} {A : Around} {E : Value → Shared → Prop} {s : Shared}
theorem wpAny_loadIfAlive {a : Addr} {Q : Option Obj → Shared → Prop} (h : Q (s.heap.get? a) s) : wpAny (model prog w) A (loadIfAlive a) Q E s := fun Γ p hΓ => by
  unfold loadIfAlive
  rw [Sem.wp_loadIfAlive]
  exact wpAny_pure h Γ p hΓ
theorem notFree {z TI TO T : Addr} {b : Bool} {o : Obj} {Q : Bool → Shared → Prop} (hz : IsZip2 s.heap z TI TO T b) (hT : s.heap.get? T = some o)
    (hQ : ∀ h', IsZip2 h' z TI TO T true → Heap.SameBut z s.heap h' → Q false { s with heap := h' }) : wpAny (model prog w) A (Builtin.SmallTypes.ownedTupleIsFree (.ref z)) Q E s := by
  unfold Builtin.SmallTypes.ownedTupleIsFree
  refine wpAny_bind (wpAny_field hz rfl (x := rawInt T) rfl ?_)
  show wpAny _ _ (loadIfAlive ((T : Int)).toNat >>= _) _ _ _
  refine wpAny_bind (wpAny_loadIfAlive ?_)
  rw [Int.toNat_natCast, hT]
  show wpAny _ _ (field (.ref z) 1 >>= _) _ _ _
  refine wpAny_bind (wpAny_field hz rfl (x := .bool b) rfl ?_)
  cases b with
  | true =>
    have e : (Value.bool true != Value.bool true) = false := by decide
    rw [e]
    show wpAny _ _ (pure false) _ _ _
    refine wpAny_pure (hQ s.heap hz ?_)
    exact ⟨rfl, fun _ _ => rfl⟩
  | false =>
    have e : (Value.bool false != Value.bool true) = true := by decide
    rw [e]
    show wpAny _ _ (setField (.ref z) 1 (.bool true) >>= _) _ _ _
    refine wpAny_bind (wpAny_setField_rec hz (by simp) fun h₁ hz₁ hs₁ => ?_)
    exact wpAny_pure (hQ h₁ hz₁ hs₁)
theorem zipT_next_more {z TI TO i1 i2 l1 l2 T : Addr} {k1 k2 : Nat} {o : Obj} {bo : Bool} {xs ys : Array Value} {x y : Value} {Q : Value → Shared → Prop} (D : ZipApart z TI TO i1 i2 l1 l2)
    (hz : IsZip2 s.heap z TI TO T bo) (hT : s.heap.get? T = some o) (hTI : IsPair s.heap TI (.ref i1) (.ref i2))
    (h1 : s.heap.IsTupleIter i1 l1 k1) (h2 : s.heap.IsTupleIter i2 l2 k2) (hl1 : s.heap.IsTuple l1 xs) (hl2 : s.heap.IsTuple l2 ys) (hx : xs[k1]? = some x) (hy : ys[k2]? = some y)
    (hQ : ∀ h', IsZip2 h' z TI TO T true → h'.IsTupleIter i1 l1 (k1 + 1) → h'.IsTupleIter i2 l2 (k2 + 1) → IsPair h' s.heap.objs.size x y → h'.objs.size = s.heap.objs.size + 1 →
      (∀ c o, c ≠ z → c ≠ i1 → c ≠ i2 → s.heap.get? c = some o → h'.get? c = some o) → Q (.ref s.heap.objs.size) { s with heap := h' }) :
    wpAny (model prog w) A (Builtin.«zip.__next__» ⟨[.ref z], []⟩) (fun fin s' => ∃ v, fin = .done (.ret v) ∧ Q v s') E s := by
  show wpAny _ _ (field (.ref z) 2 >>= _) _ _ _
  refine wpAny_bind (wpAny_field hz rfl (x := .bool false) rfl ?_)
  show wpAny _ _ (field (.ref z) 3 >>= _) _ _ _
  refine wpAny_bind (wpAny_field hz rfl (x := .ref TI) rfl ?_)
  refine wpAny_bind (wpAny_seqItems hTI rfl ?_)
  show wpAny _ _ (Builtin.SmallTypes.ownedTupleIsFree (.ref z) >>= _) _ _ _
  refine wpAny_bind (notFree hz hT fun h₁ hz₁ hs₁ => ?_)
  simp only [Bool.false_eq_true, if_false]
  refine wpAny_bind ?_
  simp only [← Array.forIn_toList, List.forIn_cons, List.forIn_nil]
  refine wpAny_bind (wpAny_bind (wpAny_holding ?_))
  show wpAny _ _ (Builtin.SmallTypes.nextOf (.ref i1) >>= _) _ _ _
  refine wpAny_bind (RZ.nextOf_tuple_item (h1.extBut hs₁.extBut D.i1z) (hl1.extBut hs₁.extBut D.l1z) hx fun h₂ h1₂ hs₂ => wpAny_pure (wpAny_pure ?_))
  refine wpAny_bind (wpAny_bind (wpAny_holding ?_))
  show wpAny _ _ (Builtin.SmallTypes.nextOf (.ref i2) >>= _) _ _ _
  refine wpAny_bind (RZ.nextOf_tuple_item ((h2.extBut hs₁.extBut D.i2z).extBut hs₂.extBut D.i12.symm) ((hl2.extBut hs₁.extBut D.l2z).extBut hs₂.extBut D.l2i1) hy fun h₃ h2₃ hs₃ => wpAny_pure (wpAny_pure (wpAny_pure ?_)))
  show wpAny _ _ (newTuple [x, y] >>= _) _ _ _
  refine wpAny_bind (wpAny_newTuple (wpAny_pure ⟨_, rfl, ?_⟩))
  have hsz : h₃.objs.size = s.heap.objs.size := by rw [hs₃.1, hs₂.1, hs₁.1]
  have up : ∀ c o, c ≠ z → c ≠ i1 → c ≠ i2 → s.heap.get? c = some o → h₃.get? c = some o := fun c o c1 c3 c4 e => hs₃.extBut _ _ c4 (hs₂.extBut _ _ c3 (hs₁.extBut _ _ c1 e))
  have hz₃ : IsZip2 h₃ z TI TO T true := hs₃.extBut _ _ D.i2z.symm (hs₂.extBut _ _ D.i1z.symm hz₁)
  show Q (.ref h₃.objs.size) _
  have q := hQ (h₃.push { cls := .type "tuple", data := .seq #[x, y] }) (Heap.get?_push_of_some _ hz₃) (((h1₂.extBut hs₃.extBut D.i12).at fun o e => Heap.get?_push_of_some _ e)) (h2₃.at fun o e => Heap.get?_push_of_some _ e) (by rw [← hsz]; exact Heap.get?_push_size _ rfl) (by rw [Heap.size_push, hsz]) fun c o c1 c3 c4 e => Heap.get?_push_of_some _ (up c o c1 c3 c4 e)
  rw [hsz]
  exact q
theorem zipT_end_more {z TI TO i1 i2 l1 l2 T : Addr} {k1 : Nat} {o : Obj} {bo : Bool} {xs : Array Value} {Q : Fin → Shared → Prop} (hh : A.handled = none) (D : ZipApart z TI TO i1 i2 l1 l2)
    (hz : IsZip2 s.heap z TI TO T bo) (hT : s.heap.get? T = some o) (hTI : IsPair s.heap TI (.ref i1) (.ref i2))
    (h1 : s.heap.IsTupleIter i1 l1 k1) (hl1 : s.heap.IsTuple l1 xs) (hend : xs[k1]? = none)
    (hE : ∀ h' e, (∀ c o, c ≠ z → c ≠ i1 → s.heap.get? c = some o → h'.get? c = some o) → (∃ o, h'.get? e = some o ∧ o.cls = .type "StopIteration") → E (.ref e) { s with heap := h' }) :
    wpAny (model prog w) A (Builtin.«zip.__next__» ⟨[.ref z], []⟩) Q E s := by
  show wpAny _ _ (field (.ref z) 2 >>= _) _ _ _
  refine wpAny_bind (wpAny_field hz rfl (x := .bool false) rfl ?_)
  show wpAny _ _ (field (.ref z) 3 >>= _) _ _ _
  refine wpAny_bind (wpAny_field hz rfl (x := .ref TI) rfl ?_)
  refine wpAny_bind (wpAny_seqItems hTI rfl ?_)
  show wpAny _ _ (Builtin.SmallTypes.ownedTupleIsFree (.ref z) >>= _) _ _ _
  refine wpAny_bind (notFree hz hT fun h₁ hz₁ hs₁ => ?_)
  simp only [Bool.false_eq_true, if_false]
  refine wpAny_bind ?_
  simp only [← Array.forIn_toList, List.forIn_cons, List.forIn_nil]
  refine wpAny_bind (wpAny_bind (wpAny_holding ?_))
  show wpAny _ _ (Builtin.SmallTypes.nextOf (.ref i1) >>= _) _ _ _
  exact wpAny_bind (RZ.nextOf_tuple_end hh (h1.extBut hs₁.extBut D.i1z) (hl1.extBut hs₁.extBut D.l1z) hend fun h₂ e hs₂ he => hE h₂ e (fun c o c1 c3 x => hs₂ _ _ c3 (hs₁.extBut _ _ c1 x)) he)
theorem pyNext_more {z TI TO i1 i2 l1 l2 T : Addr} {k1 k2 : Nat} {o : Obj} {bo : Bool} {xs ys : Array Value} {x y : Value} {Q : Option Value → Shared → Prop} (D : ZipApart z TI TO i1 i2 l1 l2)
    (hz : IsZip2 s.heap z TI TO T bo) (hT : s.heap.get? T = some o) (hTI : IsPair s.heap TI (.ref i1) (.ref i2))
    (h1 : s.heap.IsTupleIter i1 l1 k1) (h2 : s.heap.IsTupleIter i2 l2 k2) (hl1 : s.heap.IsTuple l1 xs) (hl2 : s.heap.IsTuple l2 ys) (hx : xs[k1]? = some x) (hy : ys[k2]? = some y)
    (hQ : ∀ h', IsZip2 h' z TI TO T true → h'.IsTupleIter i1 l1 (k1 + 1) → h'.IsTupleIter i2 l2 (k2 + 1) → IsPair h' s.heap.objs.size x y → h'.objs.size = s.heap.objs.size + 1 →
      (∀ c o, c ≠ z → c ≠ i1 → c ≠ i2 → s.heap.get? c = some o → h'.get? c = some o) → Q (some (.ref s.heap.objs.size)) { s with heap := h' }) :
    wpAny (model prog w) A (pyNext (.ref z)) Q E s := by
  have hTy : s.TypeIs (.ref z) "zip" := ⟨_, hz, rfl⟩
  unfold pyNext
  exact wpAny_bind (wpAny_attempt (wpAny_callSpecial?_slot (name := Str.ofString "__next__") hTy F.slot_zip_next
    (wpAny_call_entry F.slot_zip_next hTy F.entry_zip_next
      (zipT_next_more D hz hT hTI h1 h2 hl1 hl2 hx hy fun h' a1 a3 a4 a5 a6 a7 => wpAny_pure (hQ h' a1 a3 a4 a5 a6 a7)) (F.args_zip_next_1 _))))
theorem pyNext_end {z TI TO i1 i2 l1 l2 T : Addr} {k1 : Nat} {o : Obj} {bo : Bool} {xs : Array Value} {Q : Option Value → Shared → Prop} (hh : A.handled = none) (D : ZipApart z TI TO i1 i2 l1 l2)
    (hz : IsZip2 s.heap z TI TO T bo) (hT : s.heap.get? T = some o) (hTI : IsPair s.heap TI (.ref i1) (.ref i2))
    (h1 : s.heap.IsTupleIter i1 l1 k1) (hl1 : s.heap.IsTuple l1 xs) (hend : xs[k1]? = none)
    (hQ : ∀ h', (∀ c o, c ≠ z → c ≠ i1 → s.heap.get? c = some o → h'.get? c = some o) → Q none { s with heap := h' }) : wpAny (model prog w) A (pyNext (.ref z)) Q E s := by
  have hTy : s.TypeIs (.ref z) "zip" := ⟨_, hz, rfl⟩
  unfold pyNext
  refine wpAny_bind (wpAny_attempt (wpAny_callSpecial?_slot (name := Str.ofString "__next__") hTy F.slot_zip_next
    (wpAny_call_entry F.slot_zip_next hTy F.entry_zip_next (zipT_end_more hh D hz hT hTI h1 hl1 hend fun h' e hk he => ?_) (F.args_zip_next_1 _))))
  obtain ⟨o, ho, hc⟩ := he
  refine wpAny_bind (wpAny_isInstance (T := "StopIteration") (b := true) ⟨o, ho, hc⟩ isSubtype_stop ?_)
  exact wpAny_pure (hQ _ hk)
end
end ZL
namespace ZL
open PySem PySem.Spec PyProof.Rows L2
open PySem.Sem (wp)
inductive Laid : Hp → List (V × V) → List V → Hp → Prop where
  | nil {G : Hp} : Laid G [] [] G
  | cons {G G' : Hp} {T : Addr} {x y : V} {r : List (V × V)} {vs : List V} (h : G T = none) (l : Laid (upd G T (.tup [x, y])) r vs G') : Laid G ((x, y) :: r) (.ref T :: vs) G'
theorem Laid.snoc {G G' : Hp} {r : List (V × V)} {vs : List V} {T : Addr} {x y : V} (l : Laid G r vs G') (h : G' T = none) : Laid G (r ++ [(x, y)]) (vs ++ [.ref T]) (upd G' T (.tup [x, y])) := by
  induction l with
  | nil => exact .cons h .nil
  | cons h1 l ih => exact .cons h1 (ih h)
theorem upd_comm {H : Hp} {a b : Addr} {x y : HO} (h : a ≠ b) : upd (upd H a x) b y = upd (upd H b y) a x := by
  funext c
  by_cases ca : c = a
  · subst ca; rw [upd_ne h, upd_same, upd_same]
  · by_cases cb : c = b
    · subst cb; rw [upd_same, upd_ne ca, upd_same]
    · rw [upd_ne cb, upd_ne ca, upd_ne ca, upd_ne cb]
theorem upd_upd {H : Hp} {a : Addr} {x y : HO} : upd (upd H a x) a y = upd H a y := by
  funext c
  by_cases ca : c = a
  · subst ca; rw [upd_same, upd_same]
  · rw [upd_ne ca, upd_ne ca, upd_ne ca]
def Zst (h : Heap) (H : Hp) (z TI TO i1 i2 a b : Addr) (i : Nat) : Prop :=
  ((i = 0 ∧ IsZip h z TI TO .none ∧ ∃ x y, IsPair h TO x y) ∨ (0 < i ∧ ∃ T bo t o, IsZip2 h z TI TO T bo ∧ H T = some (.tup t) ∧ h.get? TO = some o)) ∧ IsPair h TI (.ref i1) (.ref i2) ∧ h.IsTupleIter i1 a i ∧ h.IsTupleIter i2 b i
section
variable {X : Cx} {pins : List (Addr × Obj)} {σ : L2.St}
theorem loop {A : Around} {z TI TO i1 i2 a b S : Addr} {res : Value} {R : Result → Shared → Prop} (hh : A.handled = none) (D : ZipApart z TI TO i1 i2 a b) {xs ys : List V} (hl : xs.length = ys.length) (hb : xs.length ≤ 1000) {G0 : Hp} (hG0 : SqT X.K G0 a xs ∧ SqT X.K G0 b ys)
    (hR : ∀ s' acc G, Laid G0 (xs.zip ys) acc G → G S = none → Inv X pins σ (upd G S (.lst acc)) s' → R (.ok (.ret res)) s') :
    ∀ (k i : Nat) (s : Shared) (G : Hp) (acc : List V), xs.length - i = k → i ≤ xs.length → Inv X pins σ (upd G S (.lst acc)) s → (∀ c ∈ [z, TI, TO, i1, i2], FpOk X pins (upd G S (.lst acc)) c) → Zst s.heap G z TI TO i1 i2 a b i →
      SqT X.K G a xs → SqT X.K G b ys → G S = none → acc.length = i → Laid G0 ((xs.zip ys).take i) acc G →
      codeAny (model X.prog X.w) A (.builtin "list.extend.loop" ⟨[.ref S, .ref z, res], []⟩) R s := by
  intro k
  induction k with
  | zero =>
    intro i s G acc hk hi I hf st qa qb hS hacc la
    have hin : i = xs.length := by omega
    obtain ⟨st0, hTI, h1, h2⟩ := st
    have sub : ∀ l vs, SqT X.K G l vs → SqT X.K (upd G S (.lst acc)) l vs := fun l vs q => AL.Kp.sqT (fun c u nf e => by rw [upd_ne (ne_of_none e hS)]; exact e) q
    obtain ⟨its, rv, p, _⟩ := I.tuple (sub a xs qa)
    obtain ⟨its2, rv2, p2, _⟩ := I.tuple (sub b ys qb)
    have l1 := rv.length
    have full : (xs.zip ys).take i = xs.zip ys := List.take_of_length_le (by rw [List.length_zip]; omega)
    rw [full] at la
    have he : its.toArray[i]? = none := by simp; omega
    refine codeAny_builtin F.entry_extend_loop ?_
    rw [Around.under_plainId F.plain_extend_loop _]
    show wpAny _ A.in1 (pyNext (.ref z) >>= _) _ _ s
    refine wpAny_bind ?_
    rcases st0 with ⟨_, hz, x0, y0, hTO⟩ | ⟨_, T, bo, t, oO, hz, hT, hO⟩
    · exact RZ.pyNext_zipT_end hh D hz hTI hTO h1 h2 p p2 (.inl he) fun h' hk => wpAny_pure (hR _ acc G la hS (I.turnedL (t' := s.toks) (ch := [z, TI, TO, i1, i2]) (fun c o hb q =>
        hk c o (fun q' => hb (by simp [q'])) (fun q' => hb (by simp [q'])) (fun q' => hb (by simp [q'])) (fun q' => hb (by simp [q'])) q) hf))
    · have hT2 : (upd G S (.lst acc)) T = some (.tup t) := by rw [upd_ne (ne_of_none hT hS)]; exact hT
      obtain ⟨_, _, _, oT, hoT, _⟩ := (show ObjOk X.prog X.w _ s.heap T (.tup t) from I.hok T _ hT2)
      exact pyNext_end hh D hz hoT hTI h1 p he fun h' hk => wpAny_pure (hR _ acc G la hS (I.turnedL (t' := s.toks) (ch := [z, TI, TO, i1, i2]) (fun c o hb q =>
        hk c o (fun q' => hb (by simp [q'])) (fun q' => hb (by simp [q'])) q) hf))
  | succ k ih =>
    intro i s G acc hk hi I hf st qa qb hS hacc la
    have hlt : i < xs.length := by omega
    obtain ⟨st0, hTI, h1, h2⟩ := st
    have sub : ∀ l vs, SqT X.K G l vs → SqT X.K (upd G S (.lst acc)) l vs := fun l vs q => AL.Kp.sqT (fun c u nf e => by rw [upd_ne (ne_of_none e hS)]; exact e) q
    obtain ⟨its, rv, p, _⟩ := I.tuple (sub a xs qa)
    obtain ⟨its2, rv2, p2, _⟩ := I.tuple (sub b ys qb)
    have hx : xs[i]? = some xs[i] := List.getElem?_eq_getElem hlt
    have hlt2 : i < ys.length := by omega
    have hy : ys[i]? = some ys[i] := List.getElem?_eq_getElem hlt2
    obtain ⟨u, hu, ru⟩ := rv.get hx
    obtain ⟨u2, hu2, ru2⟩ := rv2.get hy
    have hSs : S < s.heap.objs.size := by
      obtain ⟨_, its3, n3, _, e3⟩ := (show ObjOk X.prog X.w _ s.heap S (.lst acc) from I.hok S _ upd_same)
      exact Heap.lt_size e3
    have hSf : S ∉ [z, TI, TO, i1, i2] := fun m => by
      have q := (hf S m).1
      rw [upd_same] at q
      cases q
    have hsub : ∀ {c}, c ∈ [z, TI, TO, i1, i2] → c < s.heap.objs.size := fun {c} hc => by
      have e' : c = z ∨ c = TI ∨ c = TO ∨ c = i1 ∨ c = i2 := by simpa using hc
      have hz' : z < s.heap.objs.size := by rcases st0 with ⟨_, hz, _⟩ | ⟨_, T, bo, t, oO, hz, _⟩ <;> exact Heap.lt_size hz
      rcases e' with q | q | q | q | q
      · rw [q]; exact hz'
      · rw [q]; exact Heap.lt_size hTI
      · rw [q]
        rcases st0 with ⟨_, hz, x0, y0, hTO⟩ | ⟨_, T, bo, t, oO, hz, hT, hO⟩
        · exact Heap.lt_size hTO
        · exact Heap.lt_size hO
      · rw [q]; obtain ⟨_, e1, _⟩ := h1; exact Heap.lt_size e1
      · rw [q]; obtain ⟨_, e2, _⟩ := h2; exact Heap.lt_size e2
    have size2 : ∀ {c}, c ∈ [z, TI, TO, i1, i2] → c ≠ S := fun {c} hc e => hSf (e ▸ hc)
    refine codeAny_builtin F.entry_extend_loop ?_
    rw [Around.under_plainId F.plain_extend_loop _]
    show wpAny _ A.in1 (pyNext (.ref z) >>= _) _ _ s
    refine wpAny_bind ?_
    -- what comes behind the item
    have hGT : G s.heap.objs.size = none := by
      have q := I.hok.fresh (Nat.le_refl s.heap.objs.size)
      rw [upd_ne (Nat.ne_of_gt hSs)] at q
      exact q
    have fin : ∀ (h' : Heap), h'.IsTupleIter i1 a (i + 1) → h'.IsTupleIter i2 b (i + 1) → IsPair h' s.heap.objs.size u u2 →
        (∀ c o, c ∉ [z, TI, TO, i1, i2] → s.heap.get? c = some o → h'.get? c = some o) → IsPair h' TI (.ref i1) (.ref i2) → (∃ o, h'.get? TO = some o) → (∃ T bo, IsZip2 h' z TI TO T bo ∧ (T = s.heap.objs.size ∨ ∃ t, G T = some (.tup t))) →
        ∃ av c, h'.get? S = some { cls := .type "list", dict := none, data := .seq av c, slots := #[] } ∧ av.size ≤ 1000 ∧
        codeAny (model X.prog X.w) A (.builtin "list.extend.loop" ⟨[.ref S, .ref z, res], []⟩) R { s with heap := h'.update S (Obj.mapSeq (·.push (.ref s.heap.objs.size))) } := by
      intro h' n1 n2 hT hk hTI' ⟨oO, hO⟩ ⟨T, bo, hz, hTT⟩
      have hTS : s.heap.objs.size ≠ S := Nat.ne_of_gt hSs
      have new : ObjOk X.prog X.w (upd (upd G S (.lst acc)) s.heap.objs.size (.tup [xs[i], ys[i]])) h' s.heap.objs.size (.tup [xs[i], ys[i]]) :=
        ⟨by show 2 ≤ sizeLine; decide, [u, u2], .cons ru (.cons ru2 .nil), ⟨_, hT, rfl, _, rfl⟩⟩
      have I1 : Inv X pins σ (upd (upd G S (.lst acc)) s.heap.objs.size (.tup [xs[i], ys[i]])) { s with heap := h' } :=
        I.turnedNew (t' := s.toks) (ch := [z, TI, TO, i1, i2]) hk hf (Nat.le_refl _) new
      rw [upd_comm hTS.symm] at I1
      obtain ⟨_, its3, n3, r3, e3⟩ := (show ObjOk X.prog X.w _ h' S (.lst acc) from I1.hok S _ upd_same)
      have len3 := r3.length
      refine ⟨_, _, e3, by rw [List.size_toArray]; omega, ?_⟩
      obtain ⟨n4, e4⟩ : ∃ n4, (h'.update S (Obj.mapSeq (·.push (.ref s.heap.objs.size)))).get? S = some { cls := .type "list", dict := none, data := .seq (its3.toArray.push (.ref s.heap.objs.size)) n4, slots := #[] } := ⟨_, Heap.get?_update_self (Obj.mapSeq (·.push (.ref s.heap.objs.size))) e3 rfl⟩
      have oth : ∀ c o, c ≠ S → h'.get? c = some o → (h'.update S (Obj.mapSeq (·.push (.ref s.heap.objs.size)))).get? c = some o := fun c o hc e => (Heap.get?_update_other _ _ (Ne.symm hc)).trans e
      have I2 : Inv X pins σ (upd (upd G s.heap.objs.size (.tup [xs[i], ys[i]])) S (.lst (acc ++ [.ref s.heap.objs.size]))) { s with heap := h'.update S (Obj.mapSeq (·.push (.ref s.heap.objs.size))) } := by
        have z := I1.write (x := S) (e := S) (o := .lst (acc ++ [.ref s.heap.objs.size])) (h' := h'.update S (Obj.mapSeq (·.push (.ref s.heap.objs.size)))) (t' := s.toks) (by rw [upd_same]; trivial) (.inl rfl) (fun c o hc e => oth c o hc e) ⟨_, e4⟩
          ⟨by rw [List.length_append, List.length_singleton]; have : sizeLine = 16777216 := rfl; omega, its3 ++ [.ref s.heap.objs.size], n4, r3.append (.cons (show RelV (.ref s.heap.objs.size) (.ref s.heap.objs.size) from rfl) .nil), by rw [e4]; simp⟩
        rw [upd_upd] at z
        exact z
      have fz : ∀ c ∈ [z, TI, TO, i1, i2], c ≠ S ∧ c ≠ s.heap.objs.size := fun c hc => ⟨size2 hc, Nat.ne_of_lt (hsub hc)⟩
      have keepT : ∀ l vs, SqT X.K G l vs → SqT X.K (upd G s.heap.objs.size (.tup [xs[i], ys[i]])) l vs := fun l vs q => AL.Kp.sqT (fun c u nf e => by rw [upd_ne (ne_of_none e hGT)]; exact e) q
      refine ih (i + 1) _ (upd G s.heap.objs.size (.tup [xs[i], ys[i]])) (acc ++ [.ref s.heap.objs.size]) (by omega) hlt I2 (fun c hc => ?_) ⟨.inr ⟨Nat.succ_pos _, ?_⟩, ?_, ?_, ?_⟩ (keepT a xs qa) (keepT b ys qb) (by rw [upd_ne hTS.symm]; exact hS) (by rw [List.length_append, List.length_singleton, hacc]) ?_
      · obtain ⟨f1, f2⟩ := fz c hc
        refine ⟨?_, (hf c hc).2⟩
        have q := (hf c hc).1
        rw [upd_ne f1] at q
        rw [upd_ne f1, upd_ne f2]
        exact q
      · rcases hTT with rfl | ⟨t, hTt⟩
        · exact ⟨_, bo, [xs[i], ys[i]], oO, oth _ _ (fz z (by simp)).1 hz, upd_same, oth _ _ (fz TO (by simp)).1 hO⟩
        · exact ⟨T, bo, t, oO, oth _ _ (fz z (by simp)).1 hz, by rw [upd_ne (ne_of_none hTt hGT)]; exact hTt, oth _ _ (fz TO (by simp)).1 hO⟩
      · exact oth _ _ (fz TI (by simp)).1 hTI'
      · exact n1.at fun o e => oth _ _ (fz i1 (by simp)).1 e
      · exact n2.at fun o e => oth _ _ (fz i2 (by simp)).1 e
      · have e : (xs.zip ys).take (i + 1) = (xs.zip ys).take i ++ [(xs[i], ys[i])] := by
          rw [List.take_add_one]
          have : (xs.zip ys)[i]? = some (xs[i], ys[i]) := by
            rw [List.getElem?_zip_eq_some]
            exact ⟨hx, hy⟩
          rw [this]
          rfl
        rw [e]
        exact la.snoc hGT
    have big : ∀ n : Nat, n ≤ 1000 → n + 1 ≤ sizeLine := fun n h => by have : sizeLine = 16777216 := rfl; omega
    rcases st0 with ⟨_, hz, x0, y0, hTO⟩ | ⟨_, T, bo, t, oO, hz, hT, hO⟩
    · refine RZ.pyNext_zipT_item D hz hTI hTO h1 h2 p p2 (x := u) (y := u2) (by simpa using hu) (by simpa using hu2) fun h' z' TO' h1' h2' hT hsz hk => ?_
      obtain ⟨av, c, e, hav, q⟩ := fin h' h1' h2' hT (fun c o hb q => hk c o (fun q' => hb (by simp [q'])) (fun q' => hb (by simp [q'])) (fun q' => hb (by simp [q'])) (fun q' => hb (by simp [q'])) q) (hk _ _ D.TIz D.TITO D.TIi1 D.TIi2 hTI) ⟨_, TO'⟩ ⟨_, false, z', .inl rfl⟩
      show wpAny _ A.in1 (updateSeq S (·.push (.ref s.heap.objs.size)) >>= _) _ _ _
      refine wpAny_bind ?_
      exact wpAny_updateSeq e rfl (wpAny_pure ⟨plainId_quiet F.plain_extend_loop _, q⟩) (Nat.le_of_succ_le (big _ hav)) (by show (av.push _).size ≤ sizeLine + 1; rw [Array.size_push]; exact Nat.le_succ_of_le (big _ hav))
    · have hT2 : (upd G S (.lst acc)) T = some (.tup t) := by rw [upd_ne (ne_of_none hT hS)]; exact hT
      obtain ⟨_, _, _, oT, hoT, _⟩ := (show ObjOk X.prog X.w _ s.heap T (.tup t) from I.hok T _ hT2)
      refine pyNext_more D hz hoT hTI h1 h2 p p2 (x := u) (y := u2) (by simpa using hu) (by simpa using hu2) fun h' z' h1' h2' hT' hsz hk => ?_
      obtain ⟨av, c, e, hav, q⟩ := fin h' h1' h2' hT' (fun c o hb q => hk c o (fun q' => hb (by simp [q'])) (fun q' => hb (by simp [q'])) (fun q' => hb (by simp [q'])) q) (hk _ _ D.TIz D.TIi1 D.TIi2 hTI) ⟨_, hk _ _ D.TOz D.TOi1 D.TOi2 hO⟩ ⟨T, true, z', .inr ⟨t, hT⟩⟩
      show wpAny _ A.in1 (updateSeq S (·.push (.ref s.heap.objs.size)) >>= _) _ _ _
      refine wpAny_bind ?_
      exact wpAny_updateSeq e rfl (wpAny_pure ⟨plainId_quiet F.plain_extend_loop _, q⟩) (Nat.le_of_succ_le (big _ hav)) (by show (av.push _).size ≤ sizeLine + 1; rw [Array.size_push]; exact Nat.le_succ_of_le (big _ hav))
end
end ZL
namespace ZL
open PySem PySem.Spec PyProof.Rows L2
open PySem.Sem (wp)
theorem zip_no_len : typeLookup (.type "zip") "__len__" = pure none := by rw [typeLookup_type, builtinLookup_eq_fast]; kernel_rfl
theorem zip_no_hint : typeLookup (.type "zip") "__length_hint__" = pure none := by rw [typeLookup_type, builtinLookup_eq_fast]; kernel_rfl
theorem boot_list : bootBuiltins "list" = some (.type "list") := by rfl
section
variable {X : Cx} {pins : List (Addr × Obj)} {σ : L2.St} {H : Hp}
theorem call_list_zip {s1 : Shared} {h' : Heap} {a b : Addr} {xs ys : List V} {Q : Value → Shared → Prop} {E : Value → Shared → Prop} (hc : X.calm = true) (I1 : Inv X pins σ H s1) (qa : SqT X.K H a xs) (qb : SqT X.K H b ys) (hl : xs.length = ys.length) (hb : xs.length ≤ 1000)
    (hab : a < s1.heap.objs.size ∧ b < s1.heap.objs.size)
    (hz : IsZip h' (s1.heap.objs.size + 4) (s1.heap.objs.size + 2) (s1.heap.objs.size + 3) .none) (hTI : IsPair h' (s1.heap.objs.size + 2) (.ref s1.heap.objs.size) (.ref (s1.heap.objs.size + 1)))
    (hTO : IsPair h' (s1.heap.objs.size + 3) .none .none) (h1 : h'.IsTupleIter s1.heap.objs.size a 0) (h2 : h'.IsTupleIter (s1.heap.objs.size + 1) b 0) (hsz : h'.objs.size = s1.heap.objs.size + 5) (hk : ∀ c o, s1.heap.get? c = some o → h'.get? c = some o)
    (hQ : ∀ s' acc G, Laid H (xs.zip ys) acc G → H h'.objs.size = none → G h'.objs.size = none → Inv X pins σ (upd G h'.objs.size (.lst acc)) s' → Q (.ref h'.objs.size) s') :
    wpAny (model X.prog X.w) X.A (call (.type "list") [.ref (s1.heap.objs.size + 4)]) Q E { s1 with heap := h' } := by
  have hn : ∀ c, s1.heap.objs.size ≤ c → H c = none := fun c z => I1.hok.fresh z
  have hSz : h'.objs.size ≠ s1.heap.objs.size + 4 := by omega
  have D := PySem.W.ktu_apart s1.heap.objs.size a b hab.1 hab.2
  have I2 : Inv X pins σ H { s1 with heap := h' } := I1.kept (t' := s1.toks) hk
  refine callType_codes (Q₁ := fun obj s₁ => obj = .ref h'.objs.size ∧ s₁ = { s1 with heap := h'.push { cls := .type "list", data := .seq #[] } }) F.called_list (F.typeCall_list_1 _) F.entry_list_init
    (code_list_new _ ⟨rfl, rfl⟩) fun obj s₁ h₁ => ?_
  obtain ⟨rfl, rfl⟩ := h₁
  have hS : (h'.push { cls := .type "list", data := .seq #[] }).get? h'.objs.size = some { cls := .type "list", data := .seq #[] } := Heap.get?_push_size _ rfl
  refine ⟨⟨_, hS, rfl⟩, F.args_list_init_2 _ _, ?_⟩
  show wpAny _ X.A.in1.in1 (do let old ← Builtin.List.listItems (.ref h'.objs.size); Builtin.List.listUpdate (.ref h'.objs.size) (fun _ => #[]); letGo old.toList.reverse; Builtin.List.listExtendWith (.ref h'.objs.size) (.ref (s1.heap.objs.size + 4)) .none) _ _ _
  refine wpAny_bind ?_
  unfold Builtin.List.listItems
  refine wpAny_bind (wpAny_seqItems hS rfl (wpAny_pure ?_))
  show wpAny _ X.A.in1.in1 (updateSeq h'.objs.size (fun _ => #[]) >>= fun _ => letGo (#[] : Array Value).toList.reverse >>= fun _ => Builtin.List.listExtendWith (.ref h'.objs.size) (.ref (s1.heap.objs.size + 4)) .none) _ _ _
  refine wpAny_bind (wpAny_updateSeq hS rfl ?_)
  have hS2 := Heap.get?_update_self (Obj.mapSeq (fun _ => (#[] : Array Value))) hS rfl
  refine wpAny_bind (wpAny_letGo ?_)
  unfold Builtin.List.listExtendWith
  have up : ∀ (h : Heap) (f : Obj → Obj), (∀ b o, h'.get? b = some o → h.get? b = some o) → ∀ b o, h'.get? b = some o → (h.update h'.objs.size f).get? b = some o := fun h f q b o e =>
    (Heap.get?_update_other _ _ (Ne.symm (Nat.ne_of_lt (Heap.lt_size e)))).trans (q b o e)
  have k1 : ∀ b o, h'.get? b = some o → (h'.push { cls := .type "list", data := .seq #[] }).get? b = some o := fun b o e => Heap.get?_push_of_some _ e
  have k2 := up _ (Obj.mapSeq (fun _ => (#[] : Array Value))) k1
  refine wpAny_bind (wpAny_typeOf (T := "zip") ⟨_, k2 _ _ hz, rfl⟩ ?_)
  have g1 : Builtin.List.listSameRef (.ref h'.objs.size) (.ref (s1.heap.objs.size + 4)) = false := by simp [Builtin.List.listSameRef, hSz]
  have g2 : (Value.type "zip" == Value.type "list") = false := by decide
  have g3 : (Value.type "zip" == Value.type "tuple") = false := by decide
  simp only [g1, g2, g3, Bool.or_false, Bool.false_eq_true, if_false]
  refine wpAny_bind (wpAny_pyIter_zip (k2 _ _ hz) ?_)
  refine wpAny_bind (wpAny_holding ?_)
  unfold Builtin.List.listLengthHint
  refine wpAny_bind (wpAny_specialOf (T := "zip") ⟨_, k2 _ _ hz, rfl⟩ zip_no_len ?_)
  show wpAny _ X.A.in1.in1 (specialOf (Value.ref (s1.heap.objs.size + 4)) (Str.ofString "__length_hint__") >>= _) _ _ _
  refine wpAny_bind (wpAny_specialOf (T := "zip") ⟨_, k2 _ _ hz, rfl⟩ zip_no_hint ?_)
  refine wpAny_pure ?_
  show wpAny _ X.A.in1.in1 (rule "list.extend.makes-room" >>= fun _ => Builtin.List.listTouch (.ref h'.objs.size) >>= fun _ =>
    again (.builtin "list.extend.loop" ⟨[.ref h'.objs.size, .ref (s1.heap.objs.size + 4), .none], []⟩)) _ _ _
  refine wpAny_bind (wpAny_rule ?_)
  refine wpAny_bind ?_
  show wpAny _ X.A.in1.in1 (updateSeq h'.objs.size (·.push .none) >>= fun _ => updateSeq h'.objs.size (·.pop)) _ _ _
  refine wpAny_bind (wpAny_updateSeq hS2 rfl ?_)
  have hS3 := Heap.get?_update_self (Obj.mapSeq (·.push Value.none)) hS2 rfl
  refine wpAny_updateSeq (hz := by seq_fits) hS3 rfl ?_
  have hS4 := Heap.get?_update_self (Obj.mapSeq (·.pop)) hS3 rfl
  have k4 := up _ (Obj.mapSeq (·.pop)) (up _ (Obj.mapSeq (·.push Value.none)) k2)
  refine wpAny_pure ⟨plainId_quiet F.plain_extend_loop _, ?_⟩
  have hHS : H h'.objs.size = none := hn _ (by omega)
  have I3 := I2.laid (a := h'.objs.size) (o := .lst []) (t' := s1.toks) k4 (Nat.le_refl _) ⟨Nat.zero_le _, [], _, .nil, hS4⟩
  have qn : ∀ l vs, SqT X.K H l vs → SqT X.K H l vs := fun _ _ q => q
  refine loop (A := X.A.in1) (res := .none) (I1.ok.hd hc) D hl hb ⟨qa, qb⟩ (fun s' acc G la hG I' => ⟨rfl, hQ s' acc G la hHS hG I'⟩) _ 0 _ H [] rfl (Nat.zero_le _) I3 (fun c hcm => ?_) ⟨.inl ⟨rfl, k4 _ _ hz, _, _, k4 _ _ hTO⟩, k4 _ _ hTI, h1.at fun o e => k4 _ _ e, h2.at fun o e => k4 _ _ e⟩ qa qb hHS rfl .nil
  have e' : c = s1.heap.objs.size + 4 ∨ c = s1.heap.objs.size + 2 ∨ c = s1.heap.objs.size + 3 ∨ c = s1.heap.objs.size ∨ c = s1.heap.objs.size + 1 := by simpa using hcm
  have hle : s1.heap.objs.size ≤ c ∧ c ≠ h'.objs.size := by
    rcases e' with z | z | z | z | z <;> (rw [z, hsz]; exact ⟨by omega, Nat.ne_of_lt (by omega)⟩)
  exact I1.fpOk hle.1 (by rw [upd_ne hle.2]; exact hn c hle.1)
def tListZip (K : PySem.W.Frag) (t : TA) : TE := fun σ H Q => t σ H fun vs H2 => ∃ a b xs ys, vs = [.ref a, .ref b] ∧ SqT K H2 a xs ∧ SqT K H2 b ys ∧ xs.length = ys.length ∧ xs.length ≤ 1000 ∧
  ∀ S acc G, H2 S = none → Laid H2 (xs.zip ys) acc G → G S = none → Q (.ref S) (upd G S (.lst acc))
theorem pe_listZip {e f : Expr} {t : TA} {p p2 pos q : Pos} (hc : X.calm = true) (pa : PA X [e, f] t) (hg : Gl X "list") (hm : X.mg "list" = none) (hg2 : Gl X "zip") (hm2 : X.mg "zip" = none)
    (hs : starEach [e, f] X.env = (false, eval e X.env) :: starEach [f] X.env := by rfl) (hpl : (backTo q (starEach [f] X.env)).any (·.1) = false := by rfl)
    (he : starEach [.Call (.Name "zip" p2) [e, f] [] q] X.env = (false, eval (.Call (.Name "zip" p2) [e, f] [] q) X.env) :: starEach [] X.env := by rfl) :
    PE X (.Call (.Name "list" p) [.Call (.Name "zip" p2) [e, f] [] q] [] pos) (tListZip X.K t) := by
  refine ⟨fun pins s σ H Q I h => ?_⟩
  refine wpAny_Call_Name_kw (ld_blt I hg hm boot_list ?_ (by decide) (by decide))
  refine PyProof.Rows.callWith_type1 ?_ he rfl
  rw [he]
  show wpAny _ _ (spliced ((false, eval (.Call (.Name "zip" p2) [e, f] [] q) X.env) :: backTo pos (starEach [] X.env))) _ _ s
  refine Calls.spliced_cons ?_
  refine Call_ (ld_blt I hg2 hm2 PyProof.Rows.boot_zip (PyProof.Rows.callWith_type1 (thn (pa.run q pins s σ H _ I h) fun us s1 ⟨vs, H1, I1, r1, a, b, xs, ys, ev, qa, qb, hl, hbd, k⟩ => ?_) hs hpl))
  · subst ev
    obtain ⟨u1, u2, rfl, ra, rb⟩ := vals2 r1
    cases ra
    cases rb
    obtain ⟨its, rv, p1, _⟩ := I1.tuple qa
    obtain ⟨its2, rv2, p2, _⟩ := I1.tuple qb
    obtain ⟨o1, ho1, _⟩ := id p1
    obtain ⟨o2, ho2, _⟩ := id p2
    refine RZ.call_zipT (show s1.heap.IsTuple a its.toArray from p1) (show s1.heap.IsTuple b its2.toArray from p2) fun h' hz hTI hTO h1 h2 hsz hk => ?_
    refine Calls.spliced_nil ?_
    exact call_list_zip hc I1 qa qb hl hbd ⟨Heap.lt_size ho1, Heap.lt_size ho2⟩ hz hTI hTO h1 h2 hsz hk fun s' acc G la hH hG I' => ⟨.ref h'.objs.size, _, I', rfl, k _ acc G hH la hG⟩
end
end ZL

theorem repL_new' {K : PySem.W.Frag} {H : Hp} {p : Addr} {o : HO} {ds : List D} {vs : List V} (hp : H p = none) (r : RepL K H ds vs) : RepL K (upd H p o) ds vs := RepL.mono (Kp.new hp) ds vs r
theorem laid_tr {K : PySem.W.Frag} {M : Sto} : ∀ {ds es : List D} {vs ws acc : List V} {H G : Hp}, Abs K M H → RepL K H ds vs → RepL K H es ws → ZL.Laid H (vs.zip ws) acc G → Tr K M H M G ∧ RepL K G (zipD ds es) acc
  | [], es, vs, ws, acc, H, G, ab, r1, r2, l => by
    cases (show vs = [] from r1)
    cases l
    exact ⟨Tr.refl ab, rfl⟩
  | d :: ds, [], vs, ws, acc, H, G, ab, r1, r2, l => by
    cases (show ws = [] from r2)
    obtain ⟨v, vs, rfl, _⟩ := r1
    cases l
    exact ⟨Tr.refl ab, rfl⟩
  | d :: ds, e :: es, vs, ws, acc, H, G, ab, r1, r2, l => by
    obtain ⟨v, vs, rfl, r3, r4⟩ := r1
    obtain ⟨w, ws, rfl, r5, r6⟩ := r2
    rw [List.zip_cons_cons] at l
    cases l with
    | @cons _ _ T _ _ _ acc' h l =>
      have t1 : Tr K M H M (upd H T (.tup [v, w])) := Tr.newT ab h
      obtain ⟨t2, r7⟩ := laid_tr t1.abs (repL_new' h r4) (repL_new' h r6) l
      have rr : Rep K (upd H T (.tup [v, w])) (.tup [d, e]) (.ref T) := rep_newT h ⟨v, [w], rfl, r3, w, [], rfl, r5, rfl⟩
      exact ⟨t1.trans t2, .ref T, acc', rfl, t2.rep t1.abs rr, r7⟩
section
variable {W : WX} {X : Cx} {K : PySem.W.Frag}
def aListZip (τ : ATA) : ATE := fun ax env M Q => τ ax env M fun xs M1 => match xs with
  | [.tup ds, .tup es] => ds.length = es.length ∧ ds.length ≤ 1000 ∧ New (.lst (zipD ds es)) M1 Q
  | _ => False
theorem ae_listZip {a b : Expr} {τ : ATA} {p p2 pos q : Pos} (hc : X.calm = true) (ha : AA X W [a, b] τ) (hg : Gl X "list") (hm : X.mg "list" = none) (hg2 : Gl X "zip") (hm2 : X.mg "zip" = none)
    (hs : starEach [a, b] X.env = (false, eval a X.env) :: starEach [b] X.env := by rfl) (hpl : (backTo q (starEach [b] X.env)).any (·.1) = false := by rfl)
    (he : starEach [.Call (.Name "zip" p2) [a, b] [] q] X.env = (false, eval (.Call (.Name "zip" p2) [a, b] [] q) X.env) :: starEach [] X.env := by rfl) :
    AE X W (.Call (.Name "list" p) [.Call (.Name "zip" p2) [a, b] [] q] [] pos) (aListZip τ) := PE.imp (ZL.pe_listZip hc ha hg hm hg2 hm2 hs hpl he) fun σ H Q h => by
  obtain ⟨ax, env, M, Qa, S, q, k⟩ := h
  refine ⟨ax, env, M, _, S, q, fun vs H1 ds M1 t r q => ?_⟩
  split at q
  · obtain ⟨v, w, rfl, r1, r2⟩ := repL2 r
    obtain ⟨b, ws, rfl, hp, hv⟩ := r1
    obtain ⟨c, us, rfl, hq, hw⟩ := r2
    obtain ⟨hl, hb, q⟩ := q
    have l1 := hv.length
    have l2 := hw.length
    refine ⟨b, c, ws, us, rfl, hp, hq, by omega, by omega, fun P acc G hP la hG => ?_⟩
    obtain ⟨t2, r3⟩ := laid_tr t.abs hv hw la
    exact k _ _ (.obj P) _ (t.trans (t2.trans (Tr.newM (mo := .lst (zipD _ _)) t2.abs hG ⟨acc, upd_same, repL_new' hG r3⟩))) rfl (q P (t.abs.fresh hP))
  · exact q.elim
end
section
open PySem PySem.Spec L2 PyProof.Rows
section
variable {W : WX} {X : Cx} {K : PySem.W.Frag}
end
end

section
variable {K : PySem.W.Frag} {M M' : Sto} {H H' : Hp} {p : Addr} {kvs : List (Key × D)} {ws : List (Key × V)} {od : Obj}
end
section
variable {W : WX} {X : Cx} {K : PySem.W.Frag}
def keyB : Key → D
  | .inl i => .int i
  | .inr s => .str s
def aIDif (a : ATE) : ATI := fun ax env M R => a ax env M fun x M1 => match x with
  | .obj p => ∃ od ws kvs, M1 p = some (.dif od ws kvs) ∧ R (kvs.map fun kv => keyB kv.1) (fun M => M p = some (.dif od ws kvs)) M1
  | _ => False
def ρDGetF : AR2 := fun x y M Q => match x with
  | .obj p => ∃ od ws kvs, M p = some (.dif od ws kvs) ∧ optAt (keyD y) fun k => optAt (valA kvs k) fun d => Q d M
  | _ => False
end

section
variable {X : Cx} {W : WX} {K : PySem.W.Frag}
end

section
variable {W : WX} {X : Cx} {K : PySem.W.Frag} {e o : Expr} {es : List Expr} {α β : ATE} {τ : ATA} {pos p apos cpos : Pos} {x : Str}
theorem RepL.drop1r {H : Hp} {ds : List D} {vs : List V} (h : RepL K H ds vs) : RepL K H (ds.drop 1).reverse (vs.drop 1).reverse := (h.drop 1).reverse
def aTailR (a : ATE) : ATE := fun ax env M Q => a ax env M fun x M1 => match x with
  | .tup ds => Q (.tup (ds.drop 1).reverse) M1
  | _ => False
theorem ae_tailR {k j : Nat} {p0 p1 p2 p3 : Pos} (ha : AE X W e α) : AE X W (.Subscript e (.Slice none (some (.Constant (.int 0) j p0)) (some (.UnaryOp .USub (.Constant (.int 1) k p1) p2)) p3) pos) (aTailR α) := PE.imp (pe_tailR ha) fun σ H Q h => by
  obtain ⟨ax, env, M, Qa, S, q, k⟩ := h
  refine ⟨ax, env, M, _, S, q, fun x H1 dx M1 t r q => ?_⟩
  cases dx with
  | tup ds =>
    obtain ⟨a, vs, rfl, hT, hv⟩ := r
    exact ⟨a, vs, rfl, hT, fun o ho => k _ _ (.tup (ds.drop 1).reverse) _ (t.trans (Tr.newT t.abs ho)) (rep_newT ho hv.drop1r) q⟩
  | _ => exact False.elim q
def ρDivmod : ARs := fun ds M Q => match ds with
  | [.int i, .int j] => CDiv i j ∧ Q (.tup [.int (i / j), .int (i % j)]) M
  | _ => False
theorem sim_divmod : SimC K (fun xs H Q => ∃ i j, xs = [.int i, .int j] ∧ CDiv i j ∧ ∀ p, H p = none → Q (.ref p) (upd H p (.tup [.int (i / j), .int (i % j)]))) ρDivmod := by
  intro xs ds H M Q Qc ab rx q k
  unfold ρDivmod at q
  split at q
  · rename_i i j
    obtain ⟨v, w, rfl, r1, r2⟩ := repL2 rx
    cases (show v = V.int i from r1)
    cases (show w = V.int j from r2)
    exact ⟨i, j, rfl, q.1, fun p hp => k _ _ (.tup [.int (i / j), .int (i % j)]) M (Tr.newT ab hp) (rep_newT hp ⟨_, _, rfl, rfl, _, _, rfl, rfl, rfl⟩) q.2⟩
  · exact q.elim
def aFmt (a : ATE) : ATE := fun ax env M Q => a ax env M fun x M1 => match x with
  | .str y => y.length ≤ sizeLine ∧ Q (.str y) M1
  | .int i => i.natAbs.log2 < 1920 ∧ Q (.str (toString i)) M1
  | _ => False
theorem ae_fmt (ha : AE X W e α) : AE X W (.FormattedValue e (-1) none pos) (aFmt α) := PE.imp (pe_fmt ha) fun σ H Q h => by
  obtain ⟨ax, env, M, Qa, S, q, k⟩ := h
  refine ⟨ax, env, M, _, S, q, fun x H1 dx M1 t r q => ?_⟩
  cases dx with
  | str y =>
    cases (show x = V.str y from r)
    exact .inl ⟨y, rfl, q.1, k _ _ (.str y) _ t rfl q.2⟩
  | int i =>
    cases (show x = V.int i from r)
    exact .inr ⟨i, rfl, q.1, k _ _ (.str (toString i)) _ t rfl q.2⟩
  | _ => exact False.elim q
def aFs2 (a b : ATE) : ATE := fun ax env M Q => a ax env M fun x M1 => match x with
  | .str y => y.length ≤ sizeLine ∧ b ax env M1 fun x2 M2 => match x2 with
    | .str z => (y ++ z).length ≤ sizeLine ∧ Q (.str (y ++ z)) M2
    | _ => False
  | _ => False
theorem str_empty_app (y : Str) : Str.empty ++ y = y := by
  cases y with
  | mk a => show Str.mk (#[] ++ a) = _; rw [Array.empty_append]
theorem ae_fs2 {e2 : Expr} (ha : AE X W e α) (hb : AE X W e2 β) : AE X W (.JoinedStr [e, e2] pos) (aFs2 α β) := PE.imp (pe_joined (.cons ha (.cons hb .nil))) fun σ H Q h => by
  obtain ⟨ax, env, M, Qa, S, q, k⟩ := h
  refine ⟨ax, env, M, _, S, q, fun x H1 dx M1 t r q => ?_⟩
  cases dx with
  | str y =>
    cases (show x = V.str y from r)
    refine ⟨y, rfl, by rw [str_empty_app]; exact q.1, ax, env, M1, _, S.next t, q.2, fun x2 H2 dx2 M2 t2 r2 q2 => ?_⟩
    cases dx2 with
    | str z =>
      cases (show x2 = V.str z from r2)
      refine ⟨z, rfl, by rw [str_empty_app]; exact q2.1, ?_⟩
      show Q (.str ((Str.empty ++ y) ++ z)) H2
      rw [str_empty_app]
      exact k _ _ (.str (y ++ z)) _ (t.trans t2) rfl q2.2
    | _ => exact False.elim q2
  | _ => exact False.elim q
theorem ae_gstr {z : Str} {t : Tok} (hg : Gl X x) (hm : X.mg x = some (.str z t)) (hd : (x == ("__debug__" : Str)) = false := by decide) : AE X W (.Name x pos) (aC (.str z)) :=
  ae_glob (d := .str z) (v := .str z) hg hm ⟨t, rfl⟩ (fun _ => rfl) hd
end

open PySem PySem.Spec L2 RT
section
variable {W : WX} {X : Cx} {K : PySem.W.Frag} {e o tg : Expr} {es : List Expr} {α β : ATE} {τ : ATA} {pos p : Pos} {x : Str}
end

section
variable {W : WX} {X : Cx} {K : PySem.W.Frag} {tg : Expr} {pos : Pos} {x : Str}
end

section
variable {W : WX} {X : Cx} {K : PySem.W.Frag} {tg : Expr}
end
section
variable {W : WX} {X : Cx} {K : PySem.W.Frag} {o e : Expr} {es : List Expr} {α : ATE} {τ : ATA} {apos cpos : Pos}
end

section
variable {W : WX} {X : Cx} {K : PySem.W.Frag} {tg o e value : Expr} {es : List Expr} {α β : ATE} {τ : ATA} {k n : Nat} {f C : Addr} {fd : FuncData} {ps : List Str} {A : ASp} {x m fn : Str} {p pos apos pos' : Pos}
def flV : D → Option V
  | .non => some .non
  | .bl b => some (.bl b)
  | .int i => some (.int i)
  | .str s => some (.str s)
  | .obj a => some (.ref a)
  | _ => none
theorem rep_fl {H : Hp} {d : D} {v : V} (h : flV d = some v) : Rep K H d v := by
  cases d with
  | tup ds => cases h
  | fl ds => cases h
  | key ds => cases h
  | _ => cases h; rfl
theorem fl_rep {H : Hp} {d : D} {v w : V} (h : flV d = some v) (r : Rep K H d w) : w = v := by
  cases d with
  | tup ds => cases h
  | fl ds => cases h
  | key ds => cases h
  | _ => cases h; exact r
theorem nfz {C dx : Addr} {fs : List (Str × V)} : ¬ Fz (.ins C dx fs) := fun h => h
def aFld (C : Addr) (f : Str) (a : ATE) : ATE := fun ax env M Q => a ax env M fun x M1 => match x with
  | .obj p => ∃ dx fs d v, M1 p = some (.raw (.ins C dx fs)) ∧ fs.lookup f = some v ∧ flV d = some v ∧ Q d M1
  | _ => False
theorem ae_fld (c : Cls X.K C) (na : NoAttr X.K C fn) (ha : AE X W e α) (hb : attributeBase e fn X.env (eval e X.env) = eval e X.env := by rfl) : AE X W (.Attribute e fn pos) (aFld C fn α) :=
  PE.imp (pe_fld ha hb) fun σ H Q h => by
    obtain ⟨ax, env, M, Qa, S, q, k⟩ := h
    refine ⟨ax, env, M, _, S, q, fun x H1 dx M1 t r q => ?_⟩
    cases dx with
    | obj p =>
      cases (show x = V.ref p from r)
      obtain ⟨dx, fs, d, v, m, l, hv, q⟩ := q
      exact ⟨p, C, dx, fs, v, rfl, (t.abs p _ m).1, c, na, l, k v H1 d M1 t (rep_fl hv) q⟩
    | _ => exact False.elim q
def aSetF (C : Addr) (f : Str) (a b : ATE) : ATS := fun ax De env M => b ax env M fun y M1 => a ax env M1 fun x M2 => match x with
  | .obj p => ∃ dx fs v, M2 p = some (.raw (.ins C dx fs)) ∧ fs.length < 1000 ∧ flV y = some v ∧ De.nx env (up M2 p (.raw (.ins C dx (putF f v fs))))
  | _ => False
theorem as_fld (c : Cls X.K C) (na : NoAttr X.K C fn) (ha : AE X W o α) (hv : AE X W value β) (hs : swapsWith value (some (.Attribute o fn pos')) pos.line X.env = pure false := by rfl) :
    AS X W (.Assign [.Attribute o fn pos'] value pos) (aSetF C fn α β) := PS.imp (ps_fld ha hv hs) fun D σ H h => by
  obtain ⟨ax, env, M, Da, S, q, k⟩ := h
  refine ⟨ax, env, M, _, S, q, fun y H1 dy M1 t1 ry q => ?_⟩
  refine ⟨ax, env, M1, _, S.next t1, q, fun x H2 dx M2 t2 rx q => ?_⟩
  cases dx with
  | obj p =>
    cases (show x = V.ref p from rx)
    obtain ⟨dx, fs, v, m, l, hv, q⟩ := q
    cases fl_rep hv (t2.rep t1.abs ry)
    exact ⟨p, C, dx, fs, rfl, (t2.abs p _ m).1, c, na, l, k.nx _ _ _ _ ((t1.trans t2).trans (Tr.writeR t2.abs nfz m)) (((S.next t1).next t2).next (Tr.writeR t2.abs nfz m)).rs q⟩
  | _ => exact False.elim q
def aMeth (C : Addr) (m : Str) (n : Nat) (A : ASp) (a : ATE) (τ : ATA) : ATE := fun ax env M Q => a ax env M fun x M1 => match x with
  | .obj p => (∃ dx fs, M1 p = some (.raw (.ins C dx fs)) ∧ fs.lookup m = none) ∧ τ ax env M1 fun ds M2 => Wait n A (.obj p :: ds) M2 Q
  | _ => False
theorem s_meth {σ : L2.St} {H : Hp} {Q : VK} (h : cE K W (aMeth C m n A α τ) σ H Q) : tMeth C m (conc K n A) [] E0 (cE K W α) (cA K W τ) σ H Q := by
  obtain ⟨ax, env, M, Qa, S, q, k⟩ := h
  refine ⟨ax, env, M, _, S, q, fun x H1 dx M1 t1 r q => ?_⟩
  cases dx with
  | obj p =>
    cases (show x = V.ref p from r)
    obtain ⟨⟨dx, fs, m, l⟩, q⟩ := q
    refine ⟨p, dx, fs, rfl, (t1.abs p _ m).1, l, ax, env, M1, _, S.next t1, q, fun vs H2 ds M2 t2 r2 q => ?_⟩
    show conc K n A (.ref p :: (vs ++ [])) H2 Q E0
    rw [List.append_nil]
    exact ⟨.obj p :: ds, M2, Qa, xa0, by rw [List.length_cons, ← r2.length]; exact q.1, ⟨_, _, rfl, rfl, r2⟩, t2.abs, ((S.next t1).next t2).tb, q.2, fun v H' d M' t' r' q' => k v H' d M' ((t1.trans t2).trans t') r' q', fun cls d H' M' fs t' rx q' => q'.elim⟩
  | _ => exact False.elim q
theorem ae_meth {pl : Sem Bool} (c : Cls X.K C) (hm : Meth X.K C m f) (F : FnOk X.prog X.w X.K X.mg X.base CX0 k f fd ps (conc X.K n A)) (hr : Room k X.A) (hb : Binds X.K fd ps []) (ho : AE X W o α) (ha : AA X W (e :: es) τ)
    (hst : starEach (e :: es) X.env = (false, eval e X.env) :: starEach es X.env := by rfl) (hpl : (backTo pos (starEach es X.env)).any (·.1) = false := by rfl)
    (ht : eval (.Call (.Attribute o m apos) (e :: es) [] pos) X.env = (do
      let ov ← eval o X.env
      standAt apos.atName
      let (f, first) ← holding [ov] (getMethod ov m pl)
      callWith pos f first (backTo pos (starEach (e :: es) X.env)) (backToKw pos (keywordEach [] X.env))) := by rfl) :
    AE X W (.Call (.Attribute o m apos) (e :: es) [] pos) (aMeth C m n A α τ) :=
  PE.imp (pe_meth (pl := pl) ho c hm F hr hb .nil pass0 ha hst hpl ht) fun _ _ _ => s_meth
theorem ae_meth0 {pl : Sem Bool} (c : Cls X.K C) (hm : Meth X.K C m f) (F : FnOk X.prog X.w X.K X.mg X.base CX0 k f fd ps (conc X.K n A)) (hr : Room k X.A) (hb : Binds X.K fd ps []) (ho : AE X W o α)
    (ht : eval (.Call (.Attribute o m apos) [] [] pos) X.env = (do
      let ov ← eval o X.env
      standAt apos.atName
      let (f, first) ← holding [ov] (getMethod ov m pl)
      callWith pos f first (backTo pos (starEach [] X.env)) (backToKw pos (keywordEach [] X.env))) := by rfl) :
    AE X W (.Call (.Attribute o m apos) [] [] pos) (aMeth C m n A α aNil) :=
  PE.imp (pe_meth0 (pl := pl) ho c hm F hr hb .nil pass0 ht) fun σ H Q h => by
    obtain ⟨ax, env, M, Qa, S, q, k⟩ := h
    refine ⟨ax, env, M, _, S, q, fun x H1 dx M1 t1 r q => ?_⟩
    cases dx with
    | obj p =>
      cases (show x = V.ref p from r)
      obtain ⟨⟨dx, fs, m, l⟩, q⟩ := q
      refine ⟨p, dx, fs, rfl, (t1.abs p _ m).1, l, ?_⟩
      show conc _ n A [.ref p] H1 Q E0
      exact ⟨[.obj p], M1, Qa, xa0, q.1, ⟨_, _, rfl, rfl, rfl⟩, t1.abs, (S.next t1).tb, q.2, fun v H' d M' t' r' q' => k v H' d M' (t1.trans t') r' q', fun cls d H' M' fs t' rx q' => q'.elim⟩
    | _ => exact False.elim q
def aMake (C : Addr) (n : Nat) (A : ASp) (τ : ATA) : ATE := fun ax env M Q => τ ax env M fun ds M1 => ∀ x dx, M1 x = none → dx ≠ x → Wait n A (.obj x :: ds) (up M1 x (.raw (.ins C dx []))) fun d M2 => d = .non ∧ Q (.obj x) M2
theorem make_tr {M : Sto} {H : Hp} {x dx : Addr} (ab : Abs K M H) (h1 : H x = none) (h2 : H dx = none) (n : dx ≠ x) : Tr K M H (up M x (.raw (.ins C dx []))) (upd (upd H dx (.own x)) x (.ins C dx [])) := by
  have t1 := Tr.newT (o := .own x) ab h2
  exact t1.trans (Tr.newR t1.abs nfz (by rw [upd_ne n.symm]; exact h1))
theorem ae_make0 (Mc : Mk X.K C f) (F : FnOk X.prog X.w X.K X.mg X.base CX0 k f fd ps (conc X.K n A)) (hr : Room (k + 1) X.A) (hg : Gl X x) (hm : X.mg x = some (.ref C)) (hb : Binds X.K fd ps [])
    (hdb : (x == ("__debug__" : Str)) = false := by decide) :
    AE X W (.Call (.Name x p) [] [] pos) (aMake C n A aNil) :=
  PE.imp (pe_make0 Mc F hr hg hm hb .nil pass0 hdb) fun σ H Q h => by
    obtain ⟨ax, env, M, Qa, S, q, k⟩ := h
    intro a dx h1 h2 ne
    have t2 := make_tr (C := C) S.abs h1 h2 ne
    have q2 := q a dx (S.abs.fresh h1) ne
    show conc _ n A [.ref a] _ _ E0
    exact ⟨[.obj a], _, _, xa0, q2.1, ⟨_, _, rfl, rfl, rfl⟩, t2.abs, (S.next t2).tb, q2.2, fun v H' d M' t' r' q' => ⟨by obtain ⟨e, _⟩ := q'; subst e; exact r', k (.ref a) H' (.obj a) M' (t2.trans t') rfl q'.2⟩, fun cls d H' M' fs t' rx q' => q'.elim⟩
end
section
variable {W : WX} {X : Cx} {K : PySem.W.Frag} {τ : ATA}
def aPar (i j : Nat) (τ : ATA) : ATS := fun ax De env M => τ ax env M fun ds M1 => match ds with
  | [x, y] => De.nx ((env.set i (some x)).set j (some y)) M1
  | _ => False
theorem as_par (i j : Nat) {x y : Str} {a b : Expr} {px py pt pos : Pos} {kt k2 pt2} (hc : X.calm = true) (hN : X.N.Nodup) (ha : AA X W [a, b] τ) (hi : X.N[i]? = some x := by rfl) (hj : X.N[j]? = some y := by rfl) (hij : i ≠ j := by decide)
    (hx : X.env.scope.names.lookup x = some .local := by rfl) (hy : X.env.scope.names.lookup y = some .local := by rfl)
    (hw : swappedStores [.Tuple [.Name x px, .Name y py] kt pt] (.Tuple [a, b] k2 pt2) X.env = pure (some [x, y]) := by rfl)
    (hs : swapsWithSole [.Tuple [.Name x px, .Name y py] kt pt] (.Tuple [a, b] k2 pt2) pos.line X.env = pure false := by rfl) :
    AS X W (.Assign [.Tuple [.Name x px, .Name y py] kt pt] (.Tuple [a, b] k2 pt2) pos) (aPar i j τ) := PS.imp (ps_par hc hN hi hj hij hx hy ha hw hs) fun D σ H h => by
  obtain ⟨ax, env, M, Da, S, q, k⟩ := h
  refine ⟨ax, env, M, _, S, q, fun vs H1 ds M1 t r q => ?_⟩
  split at q
  · rename_i dx dy
    obtain ⟨v, r', rfl, r1, w, r'', rfl, r2, e⟩ := r
    cases (show r'' = [] from e)
    have s1 : RepS X.K H1 (env.set i (some dx)) (σ.set i (some v)) := (S.next t).rs.set r1
    exact ⟨v, w, rfl, k.nx _ H1 _ M1 t (s1.set r2) q⟩
  · exact q.elim
end

namespace GU
open PySem PySem.Spec PyProof.Rows L2
section
variable {X : Cx} {k : Nat} {f : Addr} {fd : FuncData} {ps : List Str} {sp : Sp} {x : Str} {p pos : Pos}
end
end GU
section
variable {W : WX} {X : Cx} {K : PySem.W.Frag}
end
section
variable {W : WX} {X : Cx} {k n : Nat} {f : Addr} {fd : FuncData} {ps : List Str} {A : ASp} {x : Str} {p pos : Pos}
end

section
variable {W : WX} {X : Cx} {K : PySem.W.Frag}
theorem Tr.tab {M : Sto} {H H2 : Hp} {P : Addr} (ab : Abs K M H) (hM : M P = none) (hT : GxR.TabG H P) (t : GxR.Tabbed P H H2) : Tr K M H M H2 := by
  obtain ⟨ps, e, _⟩ := hT
  obtain ⟨⟨qs, e2, ok2⟩, k⟩ := t
  have kp : Kp H H2 := fun a o f ea => by
    have n : a ≠ P := fun z => by
      subst z
      rw [e] at ea
      cases ea
      exact f
    rw [k a n]
    exact ea
  refine ⟨fun a mo m => ?_, fun b o eb n => ?_⟩
  · have n : a ≠ P := fun z => by
      subst z
      rw [hM] at m
      cases m
    exact (ab a mo m).mono (fun u q => by rw [k a n]; exact q) kp
  · by_cases hb : b = P
    · subst hb
      rw [e] at eb
      cases eb
      exact ⟨_, e2, .inr ⟨_, _, rfl, rfl, ok2⟩, n⟩
    · exact ⟨o, by rw [k b hb]; exact eb, .refl, n⟩
end

structure FunC (K : PySem.W.Frag) (x qual : Str) (st : Stmt) (f : Addr) (fd : FuncData) (c : Addr) : Prop where
  ex : ∃ (oc : Value) (od : Option Addr) (kV doc pm : Value) (an : Option Addr) (ct : Value) (osl : Array (Option Value)),
    fd = PySem.W.fnOf x qual (defArgs st) (defBody st) (defScope st) .none kV doc pm an (.ref c) ct ∧ K.lookup f = some ⟨oc, od, .func fd, osl⟩ ∧ PySem.W.codeIn K (.ref c) qual = true
  kp : PySem.W.keepIn K (.ref f) = true
section
variable {P : Program} {w : World} {K : PySem.W.Frag} {mg : Str → Option Value} {base : Heap}
theorem FunC.fn {x qual : Str} {st : Stmt} {f : Addr} {fd : FuncData} {c : Addr} (F : FunC K x qual st f fd c) : Fun K x qual st f fd := by
  obtain ⟨⟨oc, od, kV, doc, pm, an, ct, osl, e, l, h⟩, k⟩ := F
  exact ⟨⟨oc, od, kV, doc, pm, an, _, ct, osl, e, l, h⟩, k⟩
end
section
variable {W : WX} {X : Cx} {c P : Addr} {elt iter tg : Expr} {ifs : List Expr} {scope : Scope} {p pos gpos px py pt : Pos} {ι : ATI} {t : ATT} {e : ATE} {k kk : Nat}
end

section
variable {W : WX} {X : Cx}
end

def z_letter : Str := "letter"
def z_abcdefgh : Str := "abcdefgh"
def z_not : Str := "not"
def z_if : Str := "if"
def z_a : Str := "a"
def z_b : Str := "b"
def z_c : Str := "c"
def z_d : Str := "d"
def z_e : Str := "e"
def z_f : Str := "f"
def z_g : Str := "g"
def z_h : Str := "h"
theorem zln : (z_letter = z_not) = False := eq_false (by decide +kernel)
theorem znl : (z_not = z_letter) = False := eq_false (by decide +kernel)
theorem zli : (z_letter = z_if) = False := eq_false (by decide +kernel)
theorem zil : (z_if = z_letter) = False := eq_false (by decide +kernel)
theorem zni : (z_not = z_if) = False := eq_false (by decide +kernel)
theorem zin : (z_if = z_not) = False := eq_false (by decide +kernel)

section
variable {ax : AX} {De : AEnds} {env : AEnv} {M : Sto} {Q : D → Sto → Prop} {R : Bool → Sto → Prop} {L : List D → Sto → Prop} {N : AEnv → Sto → Prop} {d x y : D} {o : Option D} {α β γ : ATE} {A B : ATT} {t u : ATS} {τ : ATA} {g : ATG} {ρ : AR2} {i : Nat}
theorem jAe : aSeq t u ax De env M = t ax ⟨u ax De, De.rt, De.bk, De.ct⟩ env M := rfl
theorem jAl : aNext ax De env M = De.nx env M := rfl
theorem jEr : aBreak ax De env M = De.bk env M := rfl
theorem jDi : aCont ax De env M = De.ct env M := rfl
theorem jAy : aExpr α ax De env M = α ax env M (fun _ M1 => De.nx env M1) := rfl
theorem jAd : aRet α ax De env M = α ax env M De.rt := rfl
theorem jEg : aRetN ax De env M = De.rt .non M := rfl
theorem jA3 : aIf A t u ax De env M = A ax env M (fun b M1 => if b = true then t ax De env M1 else u ax De env M1) := rfl
theorem jEq : aNever ax De env M = False := rfl
theorem jAp : aAsg α g ax De env M = α ax env M (fun d M1 => g d ax env M1 De.nx) := rfl
theorem jAi : agName i d ax env M N = N (env.set i (some d)) M := rfl
theorem jBj {n : Nat} {gs : ATGs} {ds : List D} : agTup n gs (.tup ds) ax env M N = (ds.length = n ∧ gs ds ax env M N) := rfl
theorem jBl {gs : ATGs} {ds : List D} : agCons g gs (d :: ds) ax env M N = g d ax env M (fun env1 M1 => gs ds ax env1 M1 N) := rfl
theorem jBq : agNil [] ax env M N = N env M := rfl
theorem jCy : agSub α β d ax env M N = α ax env M (fun x M1 => β ax env M1 fun y M2 => match x, y with
  | .obj p, .int i => lstAt M2 p fun ds => optAt (ixN ds.length i) fun j => N env (up M2 p (.lst (ds.set j d)))
  | _, _ => False) := rfl
theorem jCo : aAug ρ i α ax De env M = optAt env[i]? fun o => optAt o fun x => α ax env M fun y M1 => ρ x y M1 fun z M2 => De.nx (env.set i (some z)) M2 := rfl
theorem jBp : aDPut α β γ ax De env M = γ ax env M fun z M1 => α ax env M1 fun x M2 => β ax env M2 fun y M3 => match x with
  | .obj p => dicAt M3 p fun kvs => optAt (keyD y) fun k => kvs.length < sizeLine ∧ De.nx env (up M3 p (.dic (putA kvs k z)))
  | _ => False := rfl
theorem jA0 : aVar i ax env M Q = optAt env[i]? fun o => optAt o fun d => Q d M := rfl
theorem e_c : aC d ax env M Q = Q d M := rfl
theorem jA8 : aOp ρ α β ax env M Q = α ax env M fun x M1 => β ax env M1 fun y M2 => ρ x y M2 Q := rfl
theorem jA1 {α : Type} {x : α} {k : α → Prop} : optAt (some x) k = k x := rfl
theorem jBc {α : Type} {k : α → Prop} : optAt none k = False := rfl
theorem jAf : aTest α ax env M R = α ax env M fun x M1 => match x with
  | .bl b => R b M1
  | _ => False := rfl
theorem jA2 : aAnd A B ax env M R = A ax env M fun c M1 => if c = true then B ax env M1 R else R false M1 := rfl
theorem jAa : aOr A B ax env M R = A ax env M fun c M1 => if c = true then R true M1 else B ax env M1 R := rfl
theorem jAn : aNot A ax env M R = A ax env M fun c M1 => R (!c) M1 := rfl
theorem jBu : aYes ax env M R = R true M := rfl
theorem jAv : aTruth α ax env M R = α ax env M fun x M1 => aTru1 x M1 fun b => R b M1 := by
  unfold aTruth
  congr 1
theorem jB2 {b : Bool} {P : Bool → Prop} : aTru1 (.bl b) M P = P b := rfl
theorem jF7 {i : Int} {P : Bool → Prop} : aTru1 (.int i) M P = P (i != 0) := rfl
theorem jEh {P : Bool → Prop} : aTru1 .non M P = P false := rfl
theorem jEs {z : Str} {P : Bool → Prop} : aTru1 (.str z) M P = (z.length ≤ sizeLine ∧ P ((z.length : Int) != 0)) := rfl
theorem jF0 {ds : List D} {P : Bool → Prop} : aTru1 (.tup ds) M P = P (!ds.isEmpty) := rfl
theorem jBa {p : Addr} {P : Bool → Prop} : aTru1 (.obj p) M P = (match M p with
    | some (.lst ds) => P (!ds.isEmpty)
    | some (.dic kvs) => P (!kvs.isEmpty)
    | _ => False) := rfl
theorem jBy {ρ' : AR2} : aChain ρ ρ' α β γ ax env M Q = α ax env M fun x M1 => β ax env M1 fun y M2 => ρ x y M2 fun z M3 => match z with
  | .bl k => if k = true then γ ax env M3 fun w M4 => ρ' y w M4 Q else Q (.bl false) M3
  | _ => False := rfl
theorem jCx : aOrV α β ax env M Q = α ax env M fun x M1 => aTru1 x M1 fun k => if k = true then Q x M1 else β ax env M1 Q := rfl
theorem jC7 : aAndV α β ax env M Q = α ax env M fun x M1 => aTru1 x M1 fun k => if k = true then β ax env M1 Q else Q x M1 := rfl
theorem jC4 : aNotV α ax env M Q = α ax env M fun x M1 => aTru1 x M1 fun k => Q (.bl (!k)) M1 := rfl
theorem jCj : aIfE A α β ax env M Q = A ax env M fun c M1 => if c = true then α ax env M1 Q else β ax env M1 Q := rfl
theorem jCf : aNeg α ax env M Q = α ax env M fun x M1 => match x with
  | .int i => Q (.int (-i)) M1
  | _ => False := rfl
theorem jA9 : aNil ax env M L = L [] M := rfl
theorem jA7 : aCons α τ ax env M L = α ax env M fun x M1 => τ ax env M1 fun xs M2 => L (x :: xs) M2 := rfl
theorem jA6 : aTup τ ax env M Q = τ ax env M fun ds M1 => ds.length ≤ sizeLine ∧ Q (.tup ds) M1 := rfl
theorem jA4 : aLst τ ax env M Q = τ ax env M fun ds M1 => ds.length ≤ sizeLine ∧ New (.lst ds) M1 Q := rfl
theorem jB6 : aDNew ax env M Q = New (.dic []) M Q := rfl
theorem jA5 {n : Nat} {S : ASp} : aCall n S τ ax env M Q = τ ax env M fun ds M1 => Wait n S ds M1 Q := rfl
theorem jAt {r : ARs} : aCB r τ ax env M Q = τ ax env M fun ds M1 => r ds M1 Q := rfl
theorem jBv {T : String} : aIsi T α ax env M Q = α ax env M fun x M1 => optAt (kitB (tyN M1 x) T) fun b => Q (.bl b) M1 := rfl
theorem jB3 {l h : ATO} : aSl α l h ax env M Q = α ax env M fun x M1 => l ax env M1 fun lo M2 => h ax env M2 fun hi M3 => match x with
  | .tup ds => Q (.tup (cutL ds lo hi)) M3
  | .str z => z.length ≤ sizeLine ∧ Q (.str (cutS z lo hi)) M3
  | .obj p => lstAt M3 p fun ds => New (.lst (cutL ds lo hi)) M3 Q
  | _ => False := rfl
theorem jB9 {P : Option Int → Sto → Prop} : aONone ax env M P = P none M := rfl
theorem jB8 {P : Option Int → Sto → Prop} : aOSome α ax env M P = α ax env M fun x M1 => match x with
  | .int i => P (some i) M1
  | _ => False := rfl
theorem jCa : aRev α ax env M Q = α ax env M fun x M1 => match x with
  | .obj p => lstAt M1 p fun ds => New (.lst ds.reverse) M1 Q
  | _ => False := rfl
theorem jAx {r : Addr → List D → List D → Sto → (D → Sto → Prop) → Prop} : aLm r α τ ax env M Q = α ax env M fun x M1 => match x with
  | .obj p => lstAt M1 p fun _ => τ ax env M1 fun xs M2 => lstAt M2 p fun ds => r p ds xs M2 Q
  | _ => False := rfl
theorem jAw {p : Addr} {ds : List D} : ρAppend p ds [x] M Q = (ds.length < sizeLine ∧ Q .non (up M p (.lst (ds ++ [x])))) := rfl
theorem jCm {p q : Addr} {ds : List D} : ρExtend p ds [.obj q] M Q = lstAt M q fun es => ds.length + es.length ≤ sizeLine ∧ Q .non (up M p (.lst (ds ++ es))) := rfl
theorem jAz : aPop α ax env M Q = α ax env M fun x M1 => match x with
  | .obj p => lstAt M1 p fun ds => optAt ds.getLast? fun d => Q d (up M1 p (.lst ds.dropLast))
  | _ => False := rfl
theorem jD4 : aJoin α β ax env M Q = α ax env M fun x M1 => match x with
  | .str z => β ax env M1 fun y M2 => optAt (strsM M2 y) fun xs => (xs.map (·.length)).sum + xs.length * z.length ≤ 16777216 ∧ Q (.str (Txt.join z xs)) M2
  | _ => False := rfl
theorem jBk : aDGet2 α β γ ax env M Q = α ax env M fun x M1 => match x with
  | .obj p => dicAt M1 p fun _ => β ax env M1 fun y M2 => γ ax env M2 fun z M3 => dicAt M3 p fun kvs => optAt (keyD y) fun k => Q ((valA kvs k).getD z) M3
  | _ => False := rfl
theorem jCi : aSortSet α ax env M Q = α ax env M fun x M1 => match x with
  | .obj p => lstAt M1 p fun ds => optAt (strsOf ds) fun xs => xs.length ≤ 4000 ∧ ∀ ys : List Str, ys.Nodup → (∀ k, k ∈ ys ↔ k ∈ xs) → PyProof.Rows.sortedS ys = true → New (.lst (ys.map D.str)) M1 Q
  | _ => False := rfl
theorem jB5 {p : Addr} : ρSortS [.obj p] M Q = lstAt M p fun ds => optAt (strsOf ds) fun xs => xs.length < 64 ∧ ∀ ys : List Str, ys.Perm xs → PyProof.Rows.sortedS ys = true → New (.lst (ys.map D.str)) M Q := rfl
theorem jC3 : aSetd α β γ ax env M Q = α ax env M fun x M1 => match x with
  | .obj p => dicAt M1 p fun _ => β ax env M1 fun y M2 => γ ax env M2 fun z M3 => dicAt M3 p fun kvs => optAt (keyD y) fun k => kvs.length < sizeLine ∧ match valA kvs k with
    | some v => Q v M3
    | none => Q z (up M3 p (.dic (putA kvs k z)))
  | _ => False := rfl
theorem jEy {p : Addr} : ρMaxI [.obj p] M Q = lstAt M p fun ds => optAt (intsOf ds) fun xs => 0 < xs.length ∧ ∀ m, m ∈ xs → (∀ y, y ∈ xs → y ≤ m) → Q (.int m) M := rfl
theorem jDa {prs : List (Str × ATE)} : aDisp prs ax env M Q = ∀ p, M p = none → aPairs prs ax env (up M p (.dic [])) fun kvs M2 => M2 p = some (.dic []) ∧ kvs.length ≤ 15 ∧ Q (.obj p) (up M2 p (.dic (mergeA [] kvs))) := rfl
theorem jEl {P : List (Key × D) → Sto → Prop} : aPairs [] ax env M P = P [] M := rfl
theorem jEn {P : List (Key × D) → Sto → Prop} {s : Str} {r : List (Str × ATE)} : aPairs ((s, α) :: r) ax env M P = α ax env M fun y M1 => aPairs r ax env M1 fun kvs M2 => P ((.inr s, y) :: kvs) M2 := rfl
theorem jAg {ι : ATI} : aFor ι g t ax De env M = ι ax env M fun items chk M1 => aForGo chk g t ax De items env M1 := rfl
theorem jBt {chk : Sto → Prop} : aForGo chk g t ax De [] env M = (chk M ∧ De.nx env M) := rfl
theorem jC1 {chk : Sto → Prop} {r : List D} : aForGo chk g t ax De (d :: r) env M = (chk M ∧ g d ax env M fun env1 M1 => t ax ⟨aForGo chk g t ax De r, De.rt, De.nx, aForGo chk g t ax De r⟩ env1 M1) := rfl
theorem jCg {P : List D → (Sto → Prop) → Sto → Prop} : aIList α ax env M P = α ax env M fun x M1 => match x with
  | .obj p => lstAt M1 p fun ds => P ds (fun M => M p = some (.lst ds)) M1
  | _ => False := rfl
theorem jB7 {P : List D → (Sto → Prop) → Sto → Prop} : aITup α ax env M P = α ax env M fun x M1 => match x with
  | .tup ds => P ds (fun _ => True) M1
  | _ => False := rfl
theorem jBh {P : List D → (Sto → Prop) → Sto → Prop} : aIRng1 τ ax env M P = τ ax env M fun ds M1 => match ds with
  | [.int j] => -(2 ^ 62) ≤ j ∧ j < 2 ^ 62 ∧ P (rngD 0 j.toNat) (fun _ => True) M1
  | _ => False := rfl
theorem jC8 {P : List D → (Sto → Prop) → Sto → Prop} : aIRng2 τ ax env M P = τ ax env M fun ds M1 => match ds with
  | [.int i, .int j] => (-(2 ^ 62) ≤ i ∧ i < 2 ^ 62 ∧ -(2 ^ 62) ≤ j ∧ j < 2 ^ 62) ∧ P (rngD i (j - i).toNat) (fun _ => True) M1
  | _ => False := rfl
theorem jAc {ι : ATI} {e : ATE} : aLc ι i A e ax env M Q = ι ax env M fun items chk M1 => items.length ≤ 1000000 ∧ aLcGo chk i A e ax env items [] M1 fun acc M2 => New (.lst acc) M2 Q := rfl
theorem jB4 {ι : ATI} {e : ATE} {j : Nat} : aLc2 ι i j A e ax env M Q = ι ax env M fun items chk M1 => i ≠ j ∧ items.length ≤ 1000000 ∧ aLc2Go chk i j A e ax env items [] M1 fun acc M2 => New (.lst acc) M2 Q := rfl
theorem jEt {chk : Sto → Prop} {e : ATE} {acc : List D} {j : Nat} : aLc2Go chk i j A e ax env [] acc M L = (chk M ∧ L acc M) := rfl
theorem jD0 {P : List D → (Sto → Prop) → Sto → Prop} : aIEnum τ ax env M P = τ ax env M fun ds M1 => match ds with
  | [.tup ds] => P (enumD 0 ds) (fun _ => True) M1
  | [.obj p] => lstAt M1 p fun ds => P (enumD 0 ds) (fun M => M p = some (.lst ds)) M1
  | _ => False := rfl
theorem jCp {P : List D → (Sto → Prop) → Sto → Prop} : aIZip τ ax env M P = τ ax env M fun ds M1 => match ds with
  | [.tup ds, .tup es] => P (zipD ds es) (fun _ => True) M1
  | [.obj p, .obj q] => lstAt M1 p fun ds => lstAt M1 q fun es => P (zipD ds es) (fun M => M p = some (.lst ds) ∧ M q = some (.lst es)) M1
  | _ => False := rfl
theorem jEc {p : Addr} : ρAny [.obj p] M Q = lstAt M p fun ds => optAt (blsOf ds) fun bs => Q (.bl (bs.any id)) M := rfl
theorem jEm {p : Addr} : ρAll [.obj p] M Q = lstAt M p fun ds => optAt (blsOf ds) fun bs => Q (.bl (bs.all id)) M := rfl
theorem jF6 {z : Str} {k : Int} : ρMulS (.str z) (.int k) M Q = (0 ≤ k ∧ k ≤ 1000 ∧ z.length ≤ 1000 ∧ Q (.str (EN.reps z k.toNat)) M) := rfl
theorem jD5 {w : World} : aSet0 w ax env M Q = ∀ p, M p = none → Q (.obj p) (up M p (.raw (SetTx w p []))) := rfl
theorem jC5 {w : World} : aSAdd w α τ ax env M Q = α ax env M fun x M1 => match x with
  | .obj p => (∃ ks, M1 p = some (.raw (SetTx w p ks))) ∧ τ ax env M1 fun xs M2 => match xs with
    | [.str k] => ∃ ks, M2 p = some (.raw (SetTx w p ks)) ∧ ks.length ≤ 4000 ∧ Q .non (up M2 p (.raw (SetTx w p (if k ∈ ks then ks else k :: ks))))
    | _ => False
  | _ => False := rfl
theorem jCq {w : World} {p : Addr} : ρSortTx w [.obj p] M Q = ∃ ks, M p = some (.raw (SetTx w p ks)) ∧ ∀ ys : List Str, ys.Perm ks → PyProof.Rows.sortedS ys = true → New (.lst (ys.map D.str)) M Q := rfl
theorem jEk {p : Addr} : ρSortD [.obj p] M Q = dicAt M p fun kvs => ∃ ks : List Str, kvs.map (·.1) = ks.map Sum.inr ∧ ks.length < 64 ∧ ∀ ys : List Str, ys.Perm ks → PyProof.Rows.sortedS ys = true → New (.lst (ys.map D.str)) M Q := rfl
theorem jEu : ρRepr [d] M Q = ∃ p, isRef d = true ∧ pyM2 M d = some p ∧ p.showable = true ∧ p.hasDict = false ∧ p.depth ≤ 64 ∧ p.shown.length ≤ sizeLine ∧ Q (.str p.shown) M := rfl
theorem jC2 {chk : Sto → Prop} {e : ATE} {acc : List D} : aLcGo chk i A e ax env [] acc M L = (chk M ∧ L acc M) := rfl
theorem jCh {chk : Sto → Prop} {e : ATE} {acc r : List D} : aLcGo chk i A e ax env (d :: r) acc M L = (chk M ∧ A ax (env.set i (some d)) M fun b M1 => if b = true then e ax (env.set i (some d)) M1 fun y M2 => aLcGo chk i A e ax env r (acc ++ [y]) M2 L else aLcGo chk i A e ax env r acc M1 L) := rfl
theorem jCl {i j : Int} : ρAdd (.int i) (.int j) M Q = Q (.int (i + j)) M := rfl
theorem jEv {i j : Str} : ρAdd (.str i) (.str j) M Q = (i.length + j.length ≤ sizeLine ∧ Q (.str (i ++ j)) M) := rfl
theorem jCu {i j : List D} : ρAdd (.tup i) (.tup j) M Q = (i.length + j.length ≤ sizeLine ∧ Q (.tup (i ++ j)) M) := rfl
theorem jCr {p q : Addr} : ρAdd (.obj p) (.obj q) M Q = lstAt M p fun ds => lstAt M q fun es => ds.length + es.length ≤ sizeLine ∧ New (.lst (ds ++ es)) M Q := rfl
theorem jCn {i j : Int} : ρIAdd (.int i) (.int j) M Q = Q (.int (i + j)) M := rfl
theorem jEo {i j : Str} : ρIAdd (.str i) (.str j) M Q = (i.length + j.length ≤ sizeLine ∧ Q (.str (i ++ j)) M) := rfl
theorem jEz {p q : Addr} : ρIAdd (.obj p) (.obj q) M Q = lstAt M p fun ds => lstAt M q fun es => ds.length + es.length ≤ sizeLine ∧ Q (.obj p) (up M p (.lst (ds ++ es))) := rfl
theorem e_I {C : Int → Int → Prop} {f : Int → Int → D} {i j : Int} : ρI C f (.int i) (.int j) M Q = (C i j ∧ Q (f i j) M) := rfl
theorem jBd {f : Int → Int → D} {i j : Int} : ρI0 f (.int i) (.int j) M Q = Q (f i j) M := rfl
theorem jBn {f : Int → Int → Bool} {h : Str → Str → Bool} {i j : Int} : ρIS f h (.int i) (.int j) M Q = Q (.bl (f i j)) M := rfl
theorem jF2 {f : Int → Int → Bool} {h : Str → Str → Bool} {i j : Str} : ρIS f h (.str i) (.str j) M Q = Q (.bl (h i j)) M := rfl
theorem jAo {i j : Str} : ρEq false (.str i) (.str j) M Q = Q (.bl (decide (i = j))) M := rfl
theorem jB0 {i j : Str} : ρEq true (.str i) (.str j) M Q = Q (.bl (!decide (i = j))) M := rfl
theorem jBo {i j : Int} : ρEq false (.int i) (.int j) M Q = Q (.bl (decide (i = j))) M := rfl
theorem jD1 {i j : Int} : ρEq true (.int i) (.int j) M Q = Q (.bl (!decide (i = j))) M := rfl
theorem jE7 {i j : Bool} : ρEq false (.bl i) (.bl j) M Q = Q (.bl (decide (i = j))) M := rfl
theorem jEx {i j : Bool} : ρEq true (.bl i) (.bl j) M Q = Q (.bl (!decide (i = j))) M := rfl
theorem jC6 : ρIsN false x .non M Q = Q (.bl (isNon x)) M := by
  unfold ρIsN
  exact propext ⟨fun h => h.2, fun h => ⟨rfl, h⟩⟩
theorem jD9 : ρIsN true x .non M Q = Q (.bl (!isNon x)) M := by
  unfold ρIsN
  exact propext ⟨fun h => h.2, fun h => ⟨rfl, h⟩⟩
theorem jAj {ds : List D} {i : Int} : ρIx (.tup ds) (.int i) M Q = optAt (atI ds i) fun d => Q d M := rfl
theorem jE3 {ds : List D} {i : Int} : ρIx (.fl ds) (.int i) M Q = optAt (atI ds i) fun d => Q d M := rfl
theorem jD6 {z : Str} {i : Int} : ρIx (.str z) (.int i) M Q = (z.length ≤ sizeLine ∧ optAt (atI z.cps.toList i) fun c => Q (.str ⟨#[c]⟩) M) := rfl
theorem jAs {p : Addr} {i : Int} : ρIx (.obj p) (.int i) M Q = lstAt M p fun ds => optAt (atI ds i) fun d => Q d M := rfl
theorem jD3 {ds : List D} : ρIn false x (.tup ds) M Q = (flatD x = true ∧ ds.all flatD = true ∧ Q (.bl (ds.any fun y => eqF y x)) M) := rfl
theorem jF1 {ds : List D} : ρIn true x (.tup ds) M Q = (flatD x = true ∧ ds.all flatD = true ∧ Q (.bl (!ds.any fun y => eqF y x)) M) := rfl
theorem jBr {ds : List D} : ρLen [.tup ds] M Q = Q (.int ds.length) M := rfl
theorem jE8 {ds : List D} : ρLen [.fl ds] M Q = Q (.int ds.length) M := rfl
theorem jD7 {z : Str} : ρLen [.str z] M Q = (z.length ≤ sizeLine ∧ Q (.int z.length) M) := rfl
theorem jBe {p : Addr} : ρLen [.obj p] M Q = lstAt M p fun ds => Q (.int ds.length) M := rfl
theorem jCd {i : Int} : ρInt [.int i] M Q = Q (.int i) M := rfl
theorem jEi {ds : List D} : ρTuple [.tup ds] M Q = Q (.tup ds) M := rfl
theorem jC9 {p : Addr} : ρTuple [.obj p] M Q = lstAt M p fun ds => Q (.tup ds) M := rfl
theorem jEp {ds : List D} : ρList [.tup ds] M Q = New (.lst ds) M Q := rfl
theorem jDy {p : Addr} : ρList [.obj p] M Q = lstAt M p fun ds => New (.lst ds) M Q := rfl
theorem jAk {p : Addr} : ρDGet (.obj p) y M Q = dicAt M p fun kvs => optAt (keyD y) fun k => optAt (valA kvs k) fun d => Q d M := rfl
theorem jD2 {p : Addr} : ρDIn false y (.obj p) M Q = dicAt M p fun kvs => optAt (keyD y) fun k => Q (.bl (valA kvs k).isSome) M := rfl
theorem jCe {p : Addr} : ρDIn true y (.obj p) M Q = dicAt M p fun kvs => optAt (keyD y) fun k => Q (.bl (!(valA kvs k).isSome)) M := rfl
theorem jAb {p : Addr} {k : List D → Prop} : lstAt M p k = (match M p with
  | some (.lst ds) => k ds
  | _ => False) := rfl
theorem jB1 {p : Addr} {k : List (Key × D) → Prop} : dicAt M p k = (match M p with
  | some (.dic ds) => k ds
  | _ => False) := rfl
theorem jBw {i : Int} : keyD (.int i) = some (.inl i) := rfl
theorem jC0 {i : Str} : keyD (.str i) = some (.inr i) := rfl
theorem jAq {p q : Addr} {mo : MO} : up M p mo q = if q = p then some mo else M q := rfl
theorem jE0 {z : Str} : tyN M (.str z) = "str" := rfl
theorem jDx {ds : List D} : tyN M (.tup ds) = "tuple" := rfl
theorem jE1 {z : Int} : tyN M (.int z) = "int" := rfl
theorem jEe {z : Bool} : tyN M (.bl z) = "bool" := rfl
theorem jE9 : tyN M .non = "NoneType" := rfl
end
theorem jAm {α : Type} {a : α} {r : List α} : atI (a :: r) 0 = some a := atI_nat (j := 0) rfl
theorem jAr {α : Type} {a b : α} {r : List α} : atI (a :: b :: r) 1 = some b := atI_nat (j := 1) rfl
theorem jBf {α : Type} {a b c : α} {r : List α} : atI (a :: b :: c :: r) 2 = some c := atI_nat (j := 2) rfl
theorem jF3 {α : Type} {a b c d : α} {r : List α} : atI (a :: b :: c :: d :: r) 3 = some d := atI_nat (j := 3) rfl
theorem jDw {α : Type} {a : α} {r : List α} : atI (r ++ [a]) (-1) = some a := atI_last r a
theorem atIn {α : Type} {r : List α} {n : Nat} : atI r (n : Int) = r[n]? := by
  cases e : r[n]? with
  | some x => exact atI_nat e
  | none =>
    have h := List.getElem?_eq_none_iff.mp e
    unfold atI ixN
    rw [if_pos (by omega), if_neg (by omega)]
    rfl
theorem jEw {n : Nat} : ixN (n + 1) 0 = some 0 := by unfold ixN; rw [if_pos (by omega), if_pos (by omega)]; rfl
theorem jEb {n : Nat} : ixN (n + 2) 1 = some 1 := by unfold ixN; rw [if_pos (by omega), if_pos (by omega)]; rfl
theorem jBb {α : Type} {a : α} {r : List α} : cutL (a :: r) (some 1) none = r := by
  unfold cutL
  rw [show HT.sIx (a :: r).length 0 (some 1) = 1 by
    show min (1 : Int).toNat (a :: r).length = 1
    rw [List.length_cons]
    have : (1 : Int).toNat = 1 := rfl
    omega, HT.sIx_none]
  show r.take ((a :: r).length - 1) = r
  rw [List.length_cons, Nat.add_sub_cancel, List.take_length]
theorem jBz {a b : Prop} [Decidable a] [Decidable b] {X Y : Prop} : (if a then X else if b then X else Y) = if a ∨ b then X else Y := by
  by_cases ha : a
  · rw [if_pos ha, if_pos (Or.inl ha)]
  · rw [if_neg ha]
    by_cases hb : b
    · rw [if_pos hb, if_pos (Or.inr hb)]
    · rw [if_neg hb, if_neg (fun h => h.elim ha hb)]
theorem jCc {a b : Prop} [Decidable a] [Decidable b] {X Y : Prop} : (if a then (if b then X else Y) else Y) = if a ∧ b then X else Y := by
  by_cases ha : a
  · rw [if_pos ha]
    by_cases hb : b
    · rw [if_pos hb, if_pos ⟨ha, hb⟩]
    · rw [if_neg hb, if_neg fun h => hb h.2]
  · rw [if_neg ha, if_neg fun h => ha h.1]
theorem jBg {α : Type} {l : List α} {a : α} : (l ++ [a]).isEmpty = false := by cases l <;> rfl
theorem jDk : CPow 10 18 = True := eq_true ⟨by decide, by decide, by decide⟩
theorem jAh : sizeLine = 16777216 := rfl
theorem jCt : isNon .non = true := rfl
theorem jAu {a : List D} : isNon (.tup a) = false := rfl
theorem jDd {a : Str} : isNon (.str a) = false := rfl
theorem jDo {a : Int} : isNon (.int a) = false := rfl
theorem jCz {a : Bool} : isNon (.bl a) = false := rfl
theorem jDb {a : Addr} : isNon (.obj a) = false := rfl
theorem jF5 {a : List D} : isNon (.fl a) = false := rfl
theorem jDt : kitB "str" "str" = some true := by decide +kernel
theorem jDn : kitB "tuple" "str" = some false := by decide +kernel
theorem jDz : kitB "tuple" "tuple" = some true := by decide +kernel
theorem jDj : kitB "str" "tuple" = some false := by decide +kernel
theorem jDq : kitB "int" "tuple" = some false := by decide +kernel
theorem jDp : kitB "bool" "tuple" = some false := by decide +kernel
theorem jE5 : kitB "NoneType" "tuple" = some false := by decide +kernel
theorem jE2 : kitB "str" "bool" = some false := by decide +kernel
theorem jDr : kitB "str" "int" = some false := by decide +kernel
theorem jDg : kitB "int" "bool" = some false := by decide +kernel
theorem jDl : kitB "int" "int" = some true := by decide +kernel
theorem jDe : kitB "bool" "bool" = some true := by decide +kernel
theorem jDu : kitB "bool" "int" = some true := by decide +kernel
theorem jDh : kitB "NoneType" "bool" = some false := by decide +kernel
theorem jE6 : kitB "NoneType" "int" = some false := by decide +kernel
theorem jEa : kitB "NoneType" "str" = some false := by decide +kernel
theorem jEf : kitB "int" "str" = some false := by decide +kernel
theorem jDs : kitB "bool" "str" = some false := by decide +kernel
theorem jEd : kitB "tuple" "bool" = some false := by decide +kernel
theorem jDf : kitB "tuple" "int" = some false := by decide +kernel


def Ext (M M' : Sto) : Prop := ∀ a mo, M a = some mo → M' a = some mo
def ExtB (b : Addr) (M M' : Sto) : Prop := ∀ a mo, a ≠ b → M a = some mo → M' a = some mo
theorem Ext.refl (M : Sto) : Ext M M := fun _ _ h => h
theorem Ext.trans {M M1 M2 : Sto} (a : Ext M M1) (b : Ext M1 M2) : Ext M M2 := fun c o h => b c o (a c o h)
theorem Ext.new {M : Sto} {p : Addr} {mo : MO} (h : M p = none) : Ext M (up M p mo) := fun a o e => by
  have n : a ≠ p := fun z => by subst z; rw [h] at e; cases e
  rw [up_ne n]
  exact e
theorem ExtB.refl (b : Addr) (M : Sto) : ExtB b M M := fun _ _ _ h => h
theorem ExtB.trans {b : Addr} {M M1 M2 : Sto} (x : ExtB b M M1) (y : ExtB b M1 M2) : ExtB b M M2 := fun c o n h => y c o n (x c o n h)
theorem Ext.b {b : Addr} {M M' : Sto} (x : Ext M M') : ExtB b M M' := fun c o _ h => x c o h
theorem ExtB.new {b : Addr} {M : Sto} {p : Addr} {mo : MO} (h : M p = none) : ExtB b M (up M p mo) := (Ext.new h).b
theorem ExtB.upd {b : Addr} {M : Sto} {mo : MO} : ExtB b M (up M b mo) := fun a o n e => by rw [up_ne n]; exact e
theorem fresh_ne {M : Sto} {p a : Addr} {mo : MO} (h : M p = none) (e : M a = some mo) : a ≠ p := fun z => by subst z; rw [h] at e; cases e
theorem while_runN {A : ATT} {t : ATS} {ax : AX} {De : AEnds} (I : Nat → AEnv → Sto → Prop)
    (turn : ∀ n N env M, I n env M → (∀ m env' M', m < n → I m env' M' → N env' M') → A ax env M fun k M1 => if k = true then t ax ⟨N, De.rt, De.nx, N⟩ env M1 else De.nx env M1)
    {n : Nat} {env : AEnv} {M : Sto} (h : I n env M) : aWhile A t ax De env M := by
  have all : ∀ k n env M, I n env M → n < k → aWhileN A t ax De k env M := by
    intro k
    induction k with
    | zero => intro n env M _ l; omega
    | succ k ih => exact fun n env M i l => turn n _ env M i fun m env' M' lt i' => ih m env' M' i' (by omega)
  exact ⟨_, all _ n env M h (Nat.lt_succ_self _)⟩
theorem Ext.upd {M M' : Sto} {p : Addr} {mo : MO} (h : M p = none) (e : Ext M M') : Ext M (up M' p mo) := fun a o m => by
  rw [up_ne (fresh_ne h m)]
  exact e a o m
theorem Ext.none {M M' : Sto} {p : Addr} (e : Ext M M') (h : M' p = none) : M p = none := by
  cases z : M p with
  | none => rfl
  | some mo => rw [e _ _ z] at h; cases h
theorem for_run {chk : Sto → Prop} {g : ATG} {t : ATS} {ax : AX} {De : AEnds} (I : List D → AEnv → Sto → Prop) (hc : ∀ ds env M, I ds env M → chk M) (hn : ∀ env M, I [] env M → De.nx env M)
    (turn : ∀ d r N env M, I (d :: r) env M → (∀ env' M', I r env' M' → N env' M') → g d ax env M fun env1 M1 => t ax ⟨N, De.rt, De.nx, N⟩ env1 M1) : ∀ {ds : List D} {env : AEnv} {M : Sto}, I ds env M → aForGo chk g t ax De ds env M
  | [], env, M, h => ⟨hc _ _ _ h, hn env M h⟩
  | d :: r, env, M, h => ⟨hc _ _ _ h, turn d r _ env M h fun env' M' i => for_run I hc hn turn i⟩
theorem lc_run {chk : Sto → Prop} {i : Nat} {t : ATT} {e : ATE} {ax : AX} {env : AEnv} {Q : List D → Sto → Prop} (I : List D → List D → Sto → Prop) (hc : ∀ ds acc M, I ds acc M → chk M) (hn : ∀ acc M, I [] acc M → Q acc M)
    (turn : ∀ d r acc M (N : List D → Sto → Prop), I (d :: r) acc M → (∀ acc' M', I r acc' M' → N acc' M') → t ax (env.set i (some d)) M fun b M1 => if b = true then e ax (env.set i (some d)) M1 fun y M2 => N (acc ++ [y]) M2 else N acc M1) :
    ∀ {ds acc : List D} {M : Sto}, I ds acc M → aLcGo chk i t e ax env ds acc M Q
  | [], acc, M, h => ⟨hc _ _ _ h, hn acc M h⟩
  | d :: r, acc, M, h => ⟨hc _ _ _ h, turn d r acc M _ h fun acc' M' i => lc_run I hc hn turn i⟩
theorem lc2_run {chk : Sto → Prop} {i j : Nat} {t : ATT} {e : ATE} {ax : AX} {env : AEnv} {Q : List D → Sto → Prop} (I : List D → List D → Sto → Prop) (hc : ∀ ds acc M, I ds acc M → chk M) (hn : ∀ acc M, I [] acc M → Q acc M)
    (turn : ∀ d r acc M (N : List D → Sto → Prop), I (d :: r) acc M → (∀ acc' M', I r acc' M' → N acc' M') → ∃ a b, d = .tup [a, b] ∧ t ax ((env.set i (some a)).set j (some b)) M fun k M1 => if k = true then e ax ((env.set i (some a)).set j (some b)) M1 fun y M2 => N (acc ++ [y]) M2 else N acc M1) :
    ∀ {ds acc : List D} {M : Sto}, I ds acc M → aLc2Go chk i j t e ax env ds acc M Q
  | [], acc, M, h => ⟨hc _ _ _ h, hn acc M h⟩
  | d :: r, acc, M, h => by
    obtain ⟨a, b, rfl, z⟩ := turn d r acc M (fun acc' M' => aLc2Go chk i j t e ax env r acc' M' Q) h fun acc' M' i => lc2_run I hc hn turn i
    exact ⟨hc _ _ _ h, z⟩
theorem fn_none {P : Program} {w : World} {K : PySem.W.Frag} {mg : Str → Option Value} {base : Heap} {k n : Nat} {f : Addr} {fd : FuncData} {ps : List Str} {A : ASp} (h : ∀ ds M Q Xa, ¬ A ds M Q Xa) : FnOk P w K mg base CX0 k f fd ps (conc K n A) := by
  have no : ∀ vs H Q E, ¬ conc K n A vs H Q E := fun vs H Q E z => by
    obtain ⟨ds, M, Qa, Xa, _, _, _, _, q, _⟩ := z
    exact h _ _ _ _ q
  exact ⟨fun vs H Q E z => absurd z (no vs H Q E), fun A outer s H args us vs Q E _ _ _ _ z => absurd z (no vs H Q E)⟩
theorem valA_pos {k : Key} {v : D} {r : List (Key × D)} : valA ((k, v) :: r) k = some v := by unfold valA; rw [List.find?_cons_of_pos (by simp)]; rfl
theorem valA_neg {k j : Key} {v : D} {r : List (Key × D)} (h : ¬ j = k) : valA ((j, v) :: r) k = valA r k := by unfold valA; rw [List.find?_cons_of_neg (by simpa using h)]
theorem valA_map (k j : Key) (y : D) : ∀ kvs : List (Key × D), valA (kvs.map fun kv => if kv.1 = k then (kv.1, y) else kv) j = (valA kvs j).map fun x => if j = k then y else x
  | [] => rfl
  | (a, x) :: r => by
    have ih := valA_map k j y r
    rw [List.map_cons]
    by_cases h : a = j
    · subst h
      by_cases hk : a = k
      · subst hk
        show valA ((if a = a then (a, y) else (a, x)) :: _) a = _
        rw [if_pos rfl, valA_pos, valA_pos, Option.map_some, if_pos rfl]
      · show valA ((if a = k then (a, y) else (a, x)) :: _) a = _
        rw [if_neg hk, valA_pos, valA_pos, Option.map_some, if_neg hk]
    · have e : valA ((if a = k then (a, y) else (a, x)) :: r.map fun kv => if kv.1 = k then (kv.1, y) else kv) j = valA (r.map fun kv => if kv.1 = k then (kv.1, y) else kv) j := by
        split
        · exact valA_neg h
        · exact valA_neg h
      show valA ((if a = k then (a, y) else (a, x)) :: r.map fun kv => if kv.1 = k then (kv.1, y) else kv) j = _
      rw [e, ih, valA_neg h]
theorem valA_any (k : Key) : ∀ kvs : List (Key × D), (kvs.any fun kv => decide (kv.1 = k)) = (valA kvs k).isSome
  | [] => rfl
  | (a, x) :: r => by
    rw [List.any_cons, valA_any k r]
    by_cases h : a = k
    · subst h
      rw [valA_pos, decide_eq_true rfl]
      rfl
    · rw [valA_neg h, decide_eq_false h, Bool.false_or]
theorem valA_snoc (k j : Key) (y : D) : ∀ kvs : List (Key × D), valA kvs k = none → valA (kvs ++ [(k, y)]) j = if j = k then some y else valA kvs j
  | [], _ => by
    by_cases h : k = j
    · subst h; rw [if_pos rfl]; exact valA_pos
    · rw [if_neg fun e => h e.symm]; exact valA_neg h
  | (a, x) :: r, h0 => by
    have ha : ¬ a = k := fun e => by subst e; rw [valA_pos] at h0; cases h0
    rw [valA_neg ha] at h0
    have ih := valA_snoc k j y r h0
    rw [List.cons_append]
    by_cases h : a = j
    · subst h
      rw [valA_pos, valA_pos, if_neg ha]
    · rw [valA_neg h, valA_neg h, ih]
theorem valA_put (kvs : List (Key × D)) (k j : Key) (y : D) : valA (putA kvs k y) j = if j = k then some y else valA kvs j := by
  unfold putA
  rw [valA_any]
  cases h : valA kvs k with
  | none =>
    rw [if_neg (by simp)]
    exact valA_snoc k j y kvs h
  | some v =>
    rw [if_pos (show (some v).isSome = true from rfl), valA_map]
    by_cases e : j = k
    · subst e
      rw [h, if_pos rfl, Option.map_some, if_pos rfl]
    · rw [if_neg e]
      cases valA kvs j with
      | none => rfl
      | some w => rw [Option.map_some, if_neg e]
theorem putA_length (kvs : List (Key × D)) (k : Key) (v : D) : (putA kvs k v).length ≤ kvs.length + 1 := by
  unfold putA
  split
  · rw [List.length_map]; omega
  · rw [List.length_append, List.length_singleton]; omega

section
variable {ax : AX} {De : AEnds} {env : AEnv} {M : Sto} {Q : D → Sto → Prop} {d x y : D}
theorem jBi {p : Addr} {ds es : List D} : ρExtT p ds [.tup es] M Q = (ds.length + es.length ≤ sizeLine ∧ Q .non (up M p (.lst (ds ++ es)))) := rfl
theorem jDm {w : World} {ι : ATI} {e : ATE} {A : ATT} {i j : Nat} : aSc2 w ι i j A e ax env M Q = ι ax env M fun items chk M1 => i ≠ j ∧ items.length ≤ 4000 ∧ aScGo2 chk i j A e ax env items [] M1 fun acc M2 =>
  ∀ (p : Addr) (n : Nat), n ≤ acc.length → M2 p = none → Q (.obj p) (up M2 p (.raw (SetO w p (fun k => decide (k ∈ acc)) n))) := rfl
theorem jEj {w : World} {p : Addr} : ρSortZ w [.obj p] M Q = ∃ S n, M p = some (.raw (SetO w p S n)) ∧ n < 64 ∧ ∀ ns : List Int, ns.Pairwise (· < ·) → (∀ k : Int, k ∈ ns ↔ S k = true) → New (.lst (ns.map D.int)) M Q := rfl
theorem jCw {α : ATE} : aTupVals α ax env M Q = α ax env M fun x M1 => match x with
  | .obj p => dicAt M1 p fun kvs => Q (.tup (kvs.map (·.2))) M1
  | _ => False := rfl
end
section
variable {ax : AX} {De : AEnds} {env : AEnv} {M : Sto} {Q : D → Sto → Prop} {d x y : D} {α : ATE} {τ : ATA}
theorem jCs {tab : List (Key × D)} : aWGet tab α ax env M Q = α ax env M fun y M1 => optAt (keyD y) fun k => Q ((valA tab k).getD .non) M1 := rfl
theorem jDc {tab : List (Key × D)} : aWIx tab α ax env M Q = α ax env M fun y M1 => optAt (keyD y) fun k => optAt (valA tab k) fun d => Q d M1 := rfl
theorem jBx : aListZip τ ax env M Q = τ ax env M fun xs M1 => match xs with
  | [.tup ds, .tup es] => ds.length = es.length ∧ ds.length ≤ 1000 ∧ New (.lst (zipD ds es)) M1 Q
  | _ => False := rfl
theorem jCk {es : List D} : zipD [] es = [] := rfl
theorem jCb {d e : D} {ds es : List D} : zipD (d :: ds) (e :: es) = .tup [d, e] :: zipD ds es := rfl
end

section
variable {ax : AX} {De : AEnds} {env : AEnv} {M : Sto} {Q : D → Sto → Prop} {d x y : D} {α : ATE} {τ : ATA}
theorem jE4 {p : Addr} : ρDGetF (.obj p) y M Q = (match M p with
  | some (.dif od ws kvs) => optAt (keyD y) fun k => optAt (valA kvs k) fun d => Q d M
  | _ => False) := by
  show (∃ od ws kvs, M p = some (.dif od ws kvs) ∧ optAt (keyD y) fun k => optAt (valA kvs k) fun d => Q d M) = _
  cases h : M p with
  | none => simp
  | some mo =>
    cases mo with
    | dif od ws kvs =>
      refine propext ⟨fun ⟨od', ws', kvs', e, z⟩ => ?_, fun z => ⟨od, ws, kvs, rfl, z⟩⟩
      cases e
      exact z
    | _ => simp
theorem jF4 {R : List D → (Sto → Prop) → Sto → Prop} : aIDif α ax env M R = α ax env M fun x M1 => match x with
  | .obj p => ∃ od ws kvs, M1 p = some (.dif od ws kvs) ∧ R (kvs.map fun kv => keyB kv.1) (fun M => M p = some (.dif od ws kvs)) M1
  | _ => False := rfl
end

section
variable {ax : AX} {De : AEnds} {env : AEnv} {M : Sto} {Q : D → Sto → Prop} {d x y : D} {α : ATE} {τ : ATA}
end

section
variable {ax : AX} {De : AEnds} {env : AEnv} {M : Sto} {Q : D → Sto → Prop} {d x y : D} {α β : ATE} {τ : ATA}
theorem jF9 : aTailR α ax env M Q = α ax env M fun x M1 => match x with
  | .tup ds => Q (.tup (ds.drop 1).reverse) M1
  | _ => False := rfl
theorem jFp {i j : Int} : ρDivmod [.int i, .int j] M Q = (CDiv i j ∧ Q (.tup [.int (i / j), .int (i % j)]) M) := rfl
theorem jFh : aFmt α ax env M Q = α ax env M fun x M1 => match x with
  | .str y => y.length ≤ sizeLine ∧ Q (.str y) M1
  | .int i => i.natAbs.log2 < 1920 ∧ Q (.str (toString i)) M1
  | _ => False := rfl
theorem jFl : aFs2 α β ax env M Q = α ax env M fun x M1 => match x with
  | .str y => y.length ≤ sizeLine ∧ β ax env M1 fun x2 M2 => match x2 with
    | .str z => (y ++ z).length ≤ sizeLine ∧ Q (.str (y ++ z)) M2
    | _ => False
  | _ => False := rfl
end

section
variable {ax : AX} {De : AEnds} {env : AEnv} {M : Sto} {Q : D → Sto → Prop} {α : ATE}
end
theorem cut_fromN {α : Type} {l : List α} {n : Nat} : cutL l (some (n : Int)) none = l.drop n := by
  unfold cutL
  rw [HT.sIx_none, HT.sIx_nat]
  by_cases h : n ≤ l.length
  · rw [Nat.min_eq_left h, List.take_of_length_le (by rw [List.length_drop]; exact Nat.le_refl _)]
  · rw [Nat.min_eq_right (by omega), Nat.sub_self, List.take_zero, List.drop_eq_nil_of_le (by omega)]
theorem jFc {α : Type} {l : List α} : cutL l (some 1) none = l.drop 1 := cut_fromN (n := 1)

section
variable {ax : AX} {De : AEnds} {env : AEnv} {M : Sto} {Q : D → Sto → Prop} {α : ATE}
end

section
variable {ax : AX} {De : AEnds} {env : AEnv} {M : Sto} {Q : D → Sto → Prop} {α β : ATE} {τ : ATA} {C : Addr} {f m : Str} {n : Nat} {A : ASp}
theorem jBs : aFld C f α ax env M Q = α ax env M fun x M1 => match x with
  | .obj p => ∃ dx fs d v, M1 p = some (.raw (.ins C dx fs)) ∧ fs.lookup f = some v ∧ flV d = some v ∧ Q d M1
  | _ => False := rfl
theorem jFo : aSetF C f α β ax De env M = β ax env M fun y M1 => α ax env M1 fun x M2 => match x with
  | .obj p => ∃ dx fs v, M2 p = some (.raw (.ins C dx fs)) ∧ fs.length < 1000 ∧ flV y = some v ∧ De.nx env (up M2 p (.raw (.ins C dx (putF f v fs))))
  | _ => False := rfl
theorem jBm : aMeth C m n A α τ ax env M Q = α ax env M fun x M1 => match x with
  | .obj p => (∃ dx fs, M1 p = some (.raw (.ins C dx fs)) ∧ fs.lookup m = none) ∧ τ ax env M1 fun ds M2 => Wait n A (.obj p :: ds) M2 Q
  | _ => False := rfl
theorem jFb : aMake C n A τ ax env M Q = τ ax env M fun ds M1 => ∀ x dx, M1 x = none → dx ≠ x → Wait n A (.obj x :: ds) (up M1 x (.raw (.ins C dx []))) fun d M2 => d = .non ∧ Q (.obj x) M2 := rfl
theorem jFq {i j : Nat} : aPar i j τ ax De env M = τ ax env M fun ds M1 => match ds with
  | [x, y] => De.nx ((env.set i (some x)).set j (some y)) M1
  | _ => False := rfl
end

section
variable {M : Sto} {Q : D → Sto → Prop}
end

section
variable {ax : AX} {env : AEnv} {M : Sto} {Q : D → Sto → Prop} {b0 : Bool} {chk : Sto → Prop} {i j : Nat} {t : ATT} {e : ATE} {ι : ATI} {d : D} {r : List D} {Qb : Bool → Sto → Prop} {go : Sto → Prop} {b : Bool}
end

section
variable {ax : AX} {env : AEnv} {M : Sto} {Q : D → Sto → Prop} {i j : Nat} {e α : ATE} {τ : ATA} {ι κ : ATI} {w : World}
end

section
variable {W : WX} {X : Cx}
end

def aDcGo (p : Addr) (chk : Sto → Prop) (i : Nat) (t : ATT) (ek ev : ATE) (ax : AX) (env : AEnv) : List D → Sto → (Sto → Prop) → Prop
  | [], M, Q => chk M ∧ Q M
  | d :: r, M, Q => chk M ∧ t ax (env.set i (some d)) M fun b M1 => if b = true then ek ax (env.set i (some d)) M1 fun y M2 => ev ax (env.set i (some d)) M2 fun z M3 => ∃ k kvs, keyD y = some k ∧ M3 p = some (.dic kvs) ∧ kvs.length < 1000000 ∧ aDcGo p chk i t ek ev ax env r (up M3 p (.dic (putA kvs k z))) Q
      else aDcGo p chk i t ek ev ax env r M1 Q
def aDc (ι : ATI) (i : Nat) (t : ATT) (ek ev : ATE) : ATE := fun ax env M Q => ι ax env M fun items chk M1 => ∀ p, M1 p = none → aDcGo p chk i t ek ev ax env items (up M1 p (.dic [])) fun M2 => Q (.obj p) M2
section
variable {W : WX} {X : Cx} {K : PySem.W.Frag}
theorem s_dc {i : Nat} {ι : ATI} {t : ATT} {ek ev : ATE} {σ : L2.St} {H : Hp} {Q : VK} (h : cE K W (aDc ι i t ek ev) σ H Q) : tDc (cI K W ι) (gName i) (cT K W t) (cE K W ek) (cE K W ev) [i] σ H Q := by
  obtain ⟨ax, env, M, Qa, S, q, k⟩ := h
  refine ⟨ax, env, M, _, S, q, fun J items chk M1 H1 t1 sim q => ?_⟩
  intro D hD
  have q := q D (t1.abs.fresh hD)
  let Qf : Sto → Prop := fun M2 => Qa (.obj D) M2
  let Inv : Nat → Hp → Prop := fun i' H' => ∃ M', Tr K M1 H1 M' H' ∧ aDcGo D chk i t ek ev ax env (items.drop i') M' Qf
  refine ⟨fun i' m H' => m = items.length - i' ∧ Inv i' H', ⟨items.length, rfl, _, Tr.newM (mo := .dic []) t1.abs hD ⟨[], upd_same, .nil⟩, q⟩, ?_⟩
  rintro i' m H2 ⟨rfl, M2, t2, q2⟩
  cases hd : items.drop i' with
  | nil =>
    rw [hd] at q2
    exact .inl ⟨(sim i' M2 H2 t2 q2.1).2 (drop_end hd), k (.ref D) H2 (.obj D) _ (t1.trans t2) rfl q2.2⟩
  | cons d r =>
    rw [hd] at q2
    obtain ⟨hi, hr, hlt⟩ := drop_at hd
    obtain ⟨go, yld⟩ := (sim i' M2 H2 t2 q2.1).1 d hi
    refine .inr ⟨go, Inv (i' + 1), fun H' z => ⟨items.length - (i' + 1), by omega, rfl, z⟩, fun x H3 y => ?_⟩
    obtain ⟨t3, r3⟩ := yld x H3 y
    have t13 := t1.trans (t2.trans t3)
    have S3 : Stt K W ax (env.set i (some d)) M2 ((wipe σ [i]).set i (some x)) H3 := by
      have rs := (S.next t13).rs.set (i := i) r3
      have e1 : (wipe σ [i]).set i (some x) = σ.set i (some x) := by
        show (σ.set i none).set i (some x) = σ.set i (some x)
        rw [List.set_set]
      rw [e1]
      exact S.at_ t13 rs
    show wipe ((wipe σ [i]).set i (some x)) [i] = wipe σ [i] ∧ _
    refine ⟨?_, ax, _, M2, _, S3, q2.2, fun b H4 M4 t4 q4 => ?_⟩
    · show ((σ.set i none).set i (some x)).set i none = σ.set i none
      rw [List.set_set, List.set_set]
    have t24 := t2.trans (t3.trans t4)
    cases b with
    | false => exact ⟨M4, t24, by rw [hr]; exact q4⟩
    | true =>
      refine ⟨ax, _, M4, _, S3.next t4, q4, fun y5 H5 dy M5 t5 r5 q5 => ?_⟩
      refine ⟨ax, _, M5, _, (S3.next t4).next t5, q5, fun z H6 dz M6 t6 r6 q6 => ?_⟩
      obtain ⟨key, kvs, ek', m6, few, q6⟩ := q6
      obtain ⟨ws, h6, hv⟩ := t6.abs D _ m6
      have rk := key_rep (t6.rep t5.abs r5) ek'
      have t26 := t24.trans (t5.trans t6)
      exact ⟨ws, key, rk, h6, by rw [← lenK hv]; exact Nat.lt_of_lt_of_le few (by decide), _, t26.trans (Tr.write (mo := .dic (putA kvs key dz)) t6.abs m6 ⟨_, upd_same, repK_write t6.abs m6 (put_rep r6 hv)⟩), by rw [hr]; exact q6⟩
end

section
variable {W : WX} {X : Cx} {K : PySem.W.Frag}
theorem ae_dc {x : Str} (i : Nat) {kx vx iter : Expr} {ifs : List Expr} {scope : Scope} {pos px : Pos} {ι : ATI} {t : ATT} {ek ev : ATE} (hc : X.calm = true) (hN : X.N.Nodup) (hi : AI X W (.Name x px) iter ι) (ok : BlkOk X.N X.env.scope scope [(x, i)])
    (hg : ∀ (s : Shared) (H : Hp) (C : Addr) (cl : List (Str × Addr)) (fp : List Addr), PG (X.blk s H scope (compEnvC scope cl C X.env) fp) (.Name x px) (gName i)) (ht : ∀ (s : Shared) (H : Hp) (C : Addr) (cl : List (Str × Addr)) (fp : List Addr), ATTs (X.blk s H scope (compEnvC scope cl C X.env) fp) W ifs t)
    (hk : ∀ (s : Shared) (H : Hp) (C : Addr) (cl : List (Str × Addr)) (fp : List Addr), AE (X.blk s H scope (compEnvC scope cl C X.env) fp) W kx ek)
    (he : ∀ (s : Shared) (H : Hp) (C : Addr) (cl : List (Str × Addr)) (fp : List Addr), AE (X.blk s H scope (compEnvC scope cl C X.env) fp) W vx ev) (hs : ∀ x, foldedSetIterable iter X.env x = pure x := by intro _; rfl) :
    AE X W (.DictComp kx vx [⟨.Name x px, iter, ifs, 0⟩] scope pos) (aDc ι i t ek ev) := PE.imp (pe_dc (own := [(x, i)]) hc hN hi ok hg ht hk he hs) fun _ _ _ => s_dc
end

section
variable {ax : AX} {env : AEnv} {M : Sto} {Q : D → Sto → Prop} {i j : Nat} {e ek ev α : ATE} {t : ATT} {ι κ : ATI}
theorem jF8 : aDc ι i t ek ev ax env M Q = ι ax env M fun items chk M1 => ∀ p, M1 p = none → aDcGo p chk i t ek ev ax env items (up M1 p (.dic [])) fun M2 => Q (.obj p) M2 := rfl
end

section
variable {W : WX} {X : Cx} {K : PySem.W.Frag}
end
section
variable {W : WX} {X : Cx} {c P : Addr} {elt iter jter tg : Expr} {ifs jfs : List Expr} {scope : Scope} {p pos gpos px py pt : Pos} {ι κ : ATI} {t t2 : ATT} {e : ATE} {k kk : Nat}
end
section
variable {ax : AX} {env : AEnv} {M : Sto} {Q : D → Sto → Prop} {b0 : Bool} {chk : Sto → Prop} {i j : Nat} {t t2 : ATT} {e : ATE} {ι κ : ATI} {d : D} {r : List D} {Qb : Bool → Sto → Prop} {N : Sto → Prop}
end

section
variable {K : PySem.W.Frag}
end
section
variable {ax : AX} {env : AEnv} {M : Sto} {Q : D → Sto → Prop} {τ : ATA} {i j : Int}
end

section
variable {W : WX} {X : Cx} {K : PySem.W.Frag}
end

section
variable {ax : AX} {env : AEnv} {i j : Nat} {p : Addr} {chk : Sto → Prop}
theorem dc_run {t : ATT} {ek ev : ATE} {Q : Sto → Prop} (I : List D → Sto → Prop) (hc : ∀ ds M, I ds M → chk M) (hn : ∀ M, I [] M → Q M)
    (turn : ∀ d r M (N : Sto → Prop), I (d :: r) M → (∀ M', I r M' → N M') → t ax (env.set i (some d)) M fun b M1 => if b = true then ek ax (env.set i (some d)) M1 fun y M2 => ev ax (env.set i (some d)) M2 fun z M3 => ∃ k kvs, keyD y = some k ∧ M3 p = some (.dic kvs) ∧ kvs.length < 1000000 ∧ N (up M3 p (.dic (putA kvs k z))) else N M1) :
    ∀ {ds : List D} {M : Sto}, I ds M → aDcGo p chk i t ek ev ax env ds M Q
  | [], M, h => ⟨hc _ _ h, hn M h⟩
  | d :: r, M, h => ⟨hc _ _ h, turn d r M (fun M' => aDcGo p chk i t ek ev ax env r M' Q) h fun M' i => dc_run I hc hn turn i⟩
end
section
variable {K : PySem.W.Frag}
end
section
variable {W : WX} {X : Cx} {e : Expr} {α : ATE} {p py pos cpos : Pos} {x y : Str} {T : String}
end
section
variable {ax : AX} {env : AEnv} {M : Sto} {Q : D → Sto → Prop} {n : Bool} {T : String} {α : ATE}
end

section
variable {ax : AX} {env : AEnv} {M : Sto} {Q : D → Sto → Prop} {n : Bool} {T : String} {α : ATE} {ds : List D} {i : Int} {s : Str} {b : Bool} {p : Addr} {xs : List D}
end

section
open PyProof.Rows
structure InitC (K : PySem.W.Frag) (C : Addr) (mc : Value) : Prop where
  ty : PySem.W.typeIn K (.ref C) = some mc
  rd : PySem.W.readsIn K C mc = true
  ga : PySem.W.specialIn K (.ref C) "__getattribute__" = some (some (.builtin "type.__getattribute__"))
  has : PySem.W.findCls K (.ref C) mc "__init__" = some (.val (.builtin "ValueError.__init__"))
section
variable {X : Cx} {e : Expr} {es : List Expr} {ta : TA} {x : Str} {p1 p2 pos : Pos} {C0 : Addr} {mc : Value}
end
section
variable {X : Cx} {W : WX} {e : Expr} {es : List Expr} {τ : ATA} {x : Str} {p pos pos' : Pos} {C fI : Addr} {k : Nat} {fd : FuncData} {ps : List Str} {f1 f2 : Str}
end
section
variable {P : Program} {w : World} {K : PySem.W.Frag} {mg : Str → Option Value} {base : Heap}
end
end

section
open PyProof.Rows
section
variable {X : Cx} {W : WX} {e : Expr} {es : List Expr} {τ : ATA} {x : Str} {p pos pos' : Pos} {C fI : Addr} {k : Nat} {fd : FuncData} {ps : List Str} {f1 f2 : Str}
end
section
variable {P : Program} {w : World} {K : PySem.W.Frag} {mg : Str → Option Value} {base : Heap}
end
section
variable {X : Cx} {W : WX} {e : Expr} {es : List Expr} {τ : ATA} {x : Str} {p pos pos' : Pos} {k n : Nat} {f : Addr} {fd : FuncData} {ps : List Str} {A : ASp}
end
theorem Abs.xd {K : PySem.W.Frag} {M : Sto} {H : Hp} (ab : Abs K M H) {dd : Addr} {ws : List (Str × V)} (hd : H dd = some (.xd ws)) : (∀ mo, M dd = some mo → mo = .raw (.xd ws)) ∧ Abs K (up M dd (.raw (.xd ws))) H := by
  refine ⟨fun mo e => ?_, fun a mo e => ?_⟩
  · have z := ab dd mo e
    cases mo with
    | lst ds => obtain ⟨vs, z, _⟩ := z; rw [z] at hd; cases hd
    | dic ds => obtain ⟨vs, z, _⟩ := z; rw [z] at hd; cases hd
    | raw o => have z1 := z.1; rw [z1] at hd; cases hd; rfl
    | dif od kvs ds => obtain ⟨z, _⟩ := z; rw [z] at hd; cases hd
    | dtt ds => obtain ⟨vs, z, _⟩ := z; rw [z] at hd; cases hd
  · by_cases c : a = dd
    · subst c
      rw [up_same] at e
      cases e
      exact ⟨hd, fun z => z⟩
    · rw [up_ne c] at e
      exact ab a mo e
section
variable {X : Cx} {W : WX} {x n : Str} {C : Addr} {i : Nat} {body suite : List Stmt} {b₀ : Stmt} {np pos pos' : Pos} {t : ATS} {u : Addr → Addr → ATS}
end
section
variable {X : Cx} {W : WX} {a dd C : Addr} {oe : Obj} {pn : List (Addr × Obj)} {e : Expr} {α : ATE} {x y f : Str} {p py pos : Pos} {b : Bool}
end
end

section
open PyProof.Rows
section
variable {P : Program} {w : World} {K : PySem.W.Frag} {mg : Str → Option Value} {base : Heap}
end
section
variable {X : Cx} {W : WX} {e : Expr} {es : List Expr} {τ : ATA} {x : Str} {p pos pos' : Pos} {k n : Nat} {f : Addr} {fd : FuncData} {ps : List Str} {A : ASp}
variable {tg iter : Expr} {ι : ATI} {g : ATG} {t : ATS} {body : List Stmt}
end
end

section
open PyProof.Rows
structure ErrC (K : PySem.W.Frag) (E fI : Addr) : Prop where
  oex : OexC K E
  ini : PySem.W.findIn K (.ref E) "__init__" = some (some (.ref fI))
  tin : PySem.W.typeIn K (.ref fI) = some (.type "function")
  xf : XfC K E
  exc : ExcC K E
  exm : PySem.W.exmOne K (.ref E) (.ref E) = some true
section
variable {K : PySem.W.Frag} {E fI Y : Addr} {b : Bool} {T : String}
end
end

section
open PyProof.Rows
section
variable {X : Cx} {W : WX} {e : Expr} {es : List Expr} {τ : ATA} {x : Str} {p pos pos' : Pos} {C fI : Addr} {k : Nat} {fd : FuncData} {ps names : List Str} {bs : List Bool}
end
end

section
variable {ax : AX} {De : AEnds} {env : AEnv} {M : Sto} {Q : D → Sto → Prop} {C : Value} {i n : Nat} {t : ATS} {u : Addr → Addr → ATS} {a dd : Addr} {f : Str} {α : ATE} {b : Bool} {τ : ATA} {A : ASp}
end

section
variable {X : Cx} {W : WX} {x : Str} {C : Addr} {body suite : List Stmt} {b₀ : Stmt} {np pos pos' : Pos} {t u : ATS}
end
section
variable {C : Value} {t u : ATS} {ax : AX} {De : AEnds} {env : AEnv} {M : Sto}
end
section
variable {W : WX} {X : Cx} {D : Addr} {e : ATE} {κ μ : ATI} {j k : Nat}
end
section
variable {W : WX} {X : Cx} {a : Expr} {α : ATE} {p1 p2 pos pos1 : Pos}
end

open PySem PySem.Spec L2 RT
section
variable {W : WX} {X : Cx} {K : PySem.W.Frag}
end
section
variable {ax : AX} {env : AEnv} {M : Sto} {Q : D → Sto → Prop} {ι κ μ : ATI} {i j k : Nat} {e α : ATE} {p : Addr} {n : Int}
section
variable {chk : Sto → Prop} {M0 : Sto}
end
end

section
variable {W : WX} {X : Cx} {o i value : Expr} {α β γ : ATE} {pos pos' apos cpos : Pos} {K : PySem.W.Frag} {e : Expr} {es : List Expr} {τ : ATA}
end

open PySem PySem.Spec L2 PyProof.Rows
section
variable {X : Cx}
end
section
variable {W : WX} {X : Cx} {e : Expr} {α : ATE}
end

section
variable {W : WX} {X : Cx} {K : PySem.W.Frag} {e : Expr} {α : ATE} {pos : Pos}
variable {ax : AX} {env : AEnv} {M : Sto} {Q : D → Sto → Prop} {w : World}
end

section
variable {W : WX} {X : Cx} {K : PySem.W.Frag}
end
section
variable {W : WX} {X : Cx} {c P : Addr} {elt iter jter tg : Expr} {ifs jfs : List Expr} {scope : Scope} {p pos gpos px py pt : Pos} {ι κ : ATI} {t t2 : ATT} {e : ATE} {k kk : Nat}
end
section
variable {ax : AX} {env : AEnv} {M : Sto} {Q : D → Sto → Prop} {b0 : Bool} {chk : Sto → Prop} {i i2 j : Nat} {t t2 : ATT} {e : ATE} {ι κ : ATI} {d : D} {r : List D} {Qb : Bool → Sto → Prop} {N : Sto → Prop}
end

def aSubSub (a b e : ATE) : ATS := fun ax De env M => a ax env M fun x M1 => b ax env M1 fun y M2 => match x, y with
  | .obj p, .int i => lstAt M2 p fun ds => optAt (atI ds i) fun d => match d with
    | .int u => e ax env M2 fun z M3 => match z with
      | .int v => lstAt M3 p fun es => optAt (ixN es.length i) fun j => De.nx env (up M3 p (.lst (es.set j (.int (u - v)))))
      | _ => False
    | _ => False
  | _, _ => False
section
variable {W : WX} {X : Cx} {o i e : Expr} {α β γ : ATE} {tpos pos : Pos}
theorem as_subSub (ho : AE X W o α) (hi : AE X W i β) (he : AE X W e γ)
    (ha : ∀ ov iv new, augStore i ov iv new = (do holding [new, ov, iv] (setItem ov iv new); release [new, ov, iv] []; pure .next) := by intros; rfl) : AS X W (.AugAssign (.Subscript o i tpos) .Sub e pos) (aSubSub α β γ) := PS.imp (ps_augS ho hi get_listP he ip_sub set_list ha) fun D σ H h => by
  obtain ⟨ax, env, M, Da, S, q, k⟩ := h
  refine ⟨ax, env, M, _, S, q, fun x H1 dx M1 t1 rx q => ?_⟩
  refine ⟨ax, env, M1, _, S.next t1, q, fun y H2 dy M2 t2 ry q => ?_⟩
  cases dx with
  | obj p =>
    cases dy with
    | int n =>
      obtain ⟨ds, m, q⟩ := lstAt_ex q
      obtain ⟨d, e1, q⟩ := optAt_ex q
      cases d with
      | int u =>
        cases (show x = V.ref p from rx)
        cases (show y = V.int n from ry)
        obtain ⟨vs, h1, hv⟩ := t2.abs p _ m
        obtain ⟨v, e2, rv⟩ := rep_at hv e1
        cases (show v = V.int u from rv)
        have t := t1.trans t2
        refine ⟨p, vs, n, _, rfl, rfl, SqL.of h1, e2, ax, env, M2, _, (S.next t1).next t2, q, fun z H3 dz M3 t3 rz q => ?_⟩
        cases dz with
        | int w =>
          obtain ⟨es, m3, q⟩ := lstAt_ex q
          obtain ⟨j, ej, q⟩ := optAt_ex q
          cases (show z = V.int w from rz)
          obtain ⟨ws, h3, hw⟩ := t3.abs p _ m3
          have tt := t.trans t3
          have tw := Tr.write (mo := .lst (es.set j (.int (u - w)))) t3.abs m3 ⟨_, upd_same, repL_write t3.abs m3 (hw.set j (show Rep X.K H3 (.int (u - w)) (.int (u - w)) from rfl))⟩
          exact ⟨u, w, rfl, rfl, p, ws, n, j, rfl, rfl, h3, by rw [← hw.length]; exact ej, k.nx σ _ env _ (tt.trans tw) (((S.next t).next t3).next tw).rs q⟩
        | _ => exact False.elim q
      | _ => exact False.elim q
    | _ => exact False.elim q
  | _ => exact False.elim q
variable {ax : AX} {De : AEnds} {env : AEnv} {M : Sto}
theorem jFr : aSubSub α β γ ax De env M = α ax env M fun x M1 => β ax env M1 fun y M2 => match x, y with
  | .obj p, .int i => lstAt M2 p fun ds => optAt (atI ds i) fun d => match d with
    | .int u => γ ax env M2 fun z M3 => match z with
      | .int v => lstAt M3 p fun es => optAt (ixN es.length i) fun j => De.nx env (up M3 p (.lst (es.set j (.int (u - v)))))
      | _ => False
    | _ => False
  | _, _ => False := rfl
end

section
variable {P : Program} {w : World} {K : PySem.W.Frag} {mg : Str → Option Value} {base : Heap}
end
section
variable {W : WX} {X : Cx} {K : PySem.W.Frag} {o e : Expr} {es : List Expr} {α β : ATE} {τ : ATA} {k n : Nat} {f C : Addr} {fd : FuncData} {ps : List Str} {A : ASp} {x m : Str} {p pos apos : Pos}
variable {ax : AX} {env : AEnv} {M : Sto} {Q : D → Sto → Prop} {w : World}
end

section
variable {W : WX} {X : Cx} {e : Expr} {es : List Expr} {o : Expr} {α β : ATE} {τ : ATA} {pos apos cpos : Pos} {name : Str} {K : PySem.W.Frag}
variable {W : WX} {X : Cx} {o i value : Expr} {α β γ : ATE} {pos pos' apos cpos : Pos} {K : PySem.W.Frag}
def keysD : List D → Option (List Key)
  | [] => some []
  | d :: ds => (keyD d).bind fun k => (keysD ds).map fun ks => k :: ks
theorem keysD_rep {K : PySem.W.Frag} {H : Hp} : ∀ {ds : List D} {vs : List V} {ks : List Key}, RepL K H ds vs → keysD ds = some ks → vs = ks.map kV
  | [], vs, ks, h, e => by cases e; exact h
  | d :: ds, vs, ks, h, e => by
    obtain ⟨v, r, rfl, h1, h2⟩ := h
    obtain ⟨k, e1, e⟩ := Option.bind_eq_some_iff.mp (show (keyD d).bind _ = some ks from e)
    obtain ⟨ks', e2, rfl⟩ := Option.map_eq_some_iff.mp e
    rw [key_rep h1 e1, keysD_rep h2 e2]
    rfl
def keyT : D → Option (List Key)
  | .key ks => some ks
  | _ => none
theorem keyT_rep {K : PySem.W.Frag} {H : Hp} {d : D} {v : V} {ks : List Key} (h : Rep K H d v) (e : keyT d = some ks) : ∃ b, v = .ref b ∧ H b = some (.tup (ks.map kV)) := by
  cases d with
  | key l => cases (Option.some.inj e); exact h
  | _ => cases e
def dttAt (M : Sto) (p : Addr) (k : List (List Key × D) → Prop) : Prop := match M p with
  | some (.dtt ds) => k ds
  | _ => False
theorem dttAt_ex {M : Sto} {p : Addr} {k : List (List Key × D) → Prop} (h : dttAt M p k) : ∃ ds, M p = some (.dtt ds) ∧ k ds := by
  unfold dttAt at h
  split at h
  · rename_i ds e
    exact ⟨ds, e, h⟩
  · exact h.elim
def valKs (kvs : List (List Key × D)) (k : List Key) : Option D := (kvs.find? fun kv => decide (kv.1 = k)).map (·.2)
def putKs (kvs : List (List Key × D)) (k : List Key) (v : D) : List (List Key × D) :=
  if (kvs.any fun kv => decide (kv.1 = k)) = true then kvs.map (fun kv => if kv.1 = k then (kv.1, v) else kv) else kvs ++ [(k, v)]
theorem valKs_rep {H : Hp} : ∀ {kvs : List (List Key × D)} {ws : List (List Key × V)} (k : List Key), RepT K H kvs ws → (∀ d, valKs kvs k = some d → ∃ v, valV ws k = some v ∧ Rep K H d v) ∧ (valKs kvs k = none → valV ws k = none)
  | [], _, k, .nil => ⟨fun d e => (by cases e), fun _ => rfl⟩
  | (k', d') :: kvs, (k2, v2) :: ws, k, .cons ⟨e, r⟩ h => by
    cases (show k' = k2 from e)
    obtain ⟨i1, i2⟩ := valKs_rep k h
    by_cases hk : k' = k
    · subst hk
      have e1 : valKs ((k', d') :: kvs) k' = some d' := by unfold valKs; rw [List.find?_cons_of_pos (by simp)]; rfl
      have e2 : valV ((k', v2) :: ws) k' = some v2 := valV_pos (p := (k', v2)) rfl
      refine ⟨fun d e => ?_, fun e => ?_⟩
      · rw [e1] at e; cases e; exact ⟨v2, e2, r⟩
      · rw [e1] at e; cases e
    · have e1 : valKs ((k', d') :: kvs) k = valKs kvs k := by unfold valKs; rw [List.find?_cons_of_neg (by simpa using hk)]
      have e2 : valV ((k', v2) :: ws) k = valV ws k := valV_neg (p := (k', v2)) hk
      rw [e1, e2]
      exact ⟨i1, i2⟩
theorem any_repT {H : Hp} {k : List Key} : ∀ {kvs : List (List Key × D)} {ws : List (List Key × V)}, RepT K H kvs ws → (ws.any fun kv => decide (kv.1 = k)) = (kvs.any fun kv => decide (kv.1 = k))
  | [], _, .nil => rfl
  | (k', d') :: kvs, (k2, v2) :: ws, .cons ⟨e, r⟩ h => by
    cases (show k' = k2 from e)
    rw [List.any_cons, List.any_cons, any_repT h]
theorem mapPut_repT {H : Hp} {k : List Key} {d : D} {v : V} (r : Rep K H d v) : ∀ {kvs : List (List Key × D)} {ws : List (List Key × V)}, RepT K H kvs ws → RepT K H (kvs.map fun kv => if kv.1 = k then (kv.1, d) else kv) (ws.map fun kv => if kv.1 = k then (kv.1, v) else kv)
  | [], _, .nil => .nil
  | (k', d') :: kvs, (k2, v2) :: ws, .cons ⟨e, r'⟩ h => by
    cases (show k' = k2 from e)
    refine .cons ?_ (mapPut_repT r h)
    by_cases hk : k' = k
    · show (if k' = k then (k', d) else (k', d')).1 = (if k' = k then (k', v) else (k', v2)).1 ∧ Rep K H (if k' = k then (k', d) else (k', d')).2 (if k' = k then (k', v) else (k', v2)).2
      rw [if_pos hk, if_pos hk]; exact ⟨rfl, r⟩
    · show (if k' = k then (k', d) else (k', d')).1 = (if k' = k then (k', v) else (k', v2)).1 ∧ Rep K H (if k' = k then (k', d) else (k', d')).2 (if k' = k then (k', v) else (k', v2)).2
      rw [if_neg hk, if_neg hk]; exact ⟨rfl, r'⟩
theorem snoc_repT {H : Hp} {k : List Key} {d : D} {v : V} (r : Rep K H d v) : ∀ {kvs : List (List Key × D)} {ws : List (List Key × V)}, RepT K H kvs ws → RepT K H (kvs ++ [(k, d)]) (ws ++ [(k, v)])
  | [], _, .nil => .cons ⟨rfl, r⟩ .nil
  | _ :: _, _ :: _, .cons q h => .cons q (snoc_repT r h)
theorem put_repT {H : Hp} {k : List Key} {d : D} {v : V} (r : Rep K H d v) {kvs : List (List Key × D)} {ws : List (List Key × V)} (h : RepT K H kvs ws) : RepT K H (putKs kvs k d) (putK ws k v) := by
  unfold putKs putK
  rw [any_repT h]
  split
  · exact mapPut_repT r h
  · exact snoc_repT r h
theorem lenT {H : Hp} {kvs : List (List Key × D)} {ws : List (List Key × V)} (h : RepT K H kvs ws) : kvs.length = ws.length := Paired.length h
theorem repT_write {M : Sto} {H : Hp} (ab : Abs K M H) {p : Addr} {ob : HO} {m0 : MO} (hp : M p = some m0) {d : List (List Key × D)} {v : List (List Key × V)} (r : RepT K H d v) : RepT K (upd H p ob) d v := Paired.mapP r fun a b z => ⟨z.1, rep_write ab hp z.2⟩
def ρDInK (neg : Bool) : AR2 := fun y x M Q => match x with
  | .obj a => dttAt M a fun kvs => optAt (keyT y) fun k => Q (.bl (if neg then !(valKs kvs k).isSome else (valKs kvs k).isSome)) M
  | _ => False
theorem val_someT {H : Hp} {kvs : List (List Key × D)} {ws : List (List Key × V)} {k : List Key} (h : RepT K H kvs ws) : (valV ws k).isSome = (valKs kvs k).isSome := by
  obtain ⟨h1, h2⟩ := valKs_rep k h
  cases q : valKs kvs k with
  | none => rw [h2 q]; rfl
  | some d => obtain ⟨v, e, _⟩ := h1 d q; rw [e]; rfl
theorem sim_dinT {neg : Bool} : SimR K (fun y x H Q => ∃ a o, x = .ref a ∧ DGet H a y o ∧ Q (.bl (if neg then !o.isSome else o.isSome)) H) (ρDInK neg) := by
  intro y x dy dx H M Q Qc ab ry rx q k
  cases dx with
  | obj a =>
    obtain ⟨kvs, m, q⟩ := dttAt_ex q
    obtain ⟨key, e, q⟩ := optAt_ex q
    cases (show x = V.ref a from rx)
    obtain ⟨ws, h1, hv⟩ := ab a _ m
    refine ⟨a, valV ws key, rfl, ?_, k _ H (.bl _) M (Tr.refl ab) rfl ?_⟩
    · obtain ⟨b, rfl, hb⟩ := keyT_rep ry e
      exact DGet.t h1 hb
    · rw [val_someT hv]
      exact q
  | _ => exact False.elim q
theorem at_dnotinT (hu : X.A.units + 1 < cLine) (hi : AE X W i β) (ho : AE X W o α) (h1 : behindInMarks .NotIn o = false := by rfl) : AT X W (.Compare i [.NotIn] [o] pos) (aTest (aOp (ρDInK true) β α)) := PT.imp (pt_cmp (pc_dnotin hu hi ho) h1) fun σ H Q h => by
  obtain ⟨ax, env, M, Qa, S, q, k⟩ := h
  show tOp (fun y x H Q => ∃ a o, x = .ref a ∧ DGet H a y o ∧ Q (.bl (if true then !o.isSome else o.isSome)) H) _ _ σ H (fun x H1 => ∃ c, x = V.bl c ∧ Q c H1)
  refine s_op (ρ := ρDInK true) sim_dinT ⟨ax, env, M, _, S, q, fun v H' d M' t r q => ?_⟩
  cases d with
  | bl b => cases (show v = V.bl b from r); exact ⟨b, rfl, k b H' M' t q⟩
  | _ => exact False.elim q
def aDGet2T (a b c : ATE) : ATE := fun ax env M Q => a ax env M fun x M1 => match x with
  | .obj p => dttAt M1 p fun _ => b ax env M1 fun y M2 => c ax env M2 fun z M3 => dttAt M3 p fun kvs => optAt (keyT y) fun k => Q ((valKs kvs k).getD z) M3
  | _ => False
theorem ae_dget2T {e f : Expr} (hu : X.A.units + 1 < cLine) (ho : AE X W o α) (he : AE X W e β) (hf : AE X W f γ) (m : M2 X o "get" apos e f cpos) : AE X W (.Call (.Attribute o "get" apos) [e, f] [] cpos) (aDGet2T α β γ) :=
  PE.imp (pe_dget2 hu ho he hf m) fun σ H Q h => by
    obtain ⟨ax, env, M, Qa, S, q, k⟩ := h
    refine ⟨ax, env, M, _, S, q, fun x H1 dx M1 t1 r q => ?_⟩
    cases dx with
    | obj p =>
      cases (show x = V.ref p from r)
      obtain ⟨kvs, m, q⟩ := dttAt_ex q
      obtain ⟨ws, h1, hv⟩ := t1.abs p _ m
      refine ⟨p, rfl, .inr ⟨ws, .inl h1⟩, ax, env, M1, _, S.next t1, q, fun y H2 dy M2 t2 ry q => ?_⟩
      refine ⟨ax, env, M2, _, (S.next t1).next t2, q, fun z H3 dz M3 t3 rz q => ?_⟩
      obtain ⟨kvs, m, q⟩ := dttAt_ex q
      obtain ⟨key, e, q⟩ := optAt_ex q
      obtain ⟨ws, h1, hv⟩ := t3.abs p _ m
      refine ⟨valV ws key, by obtain ⟨b, rfl, hb⟩ := keyT_rep (t3.rep t2.abs ry) e; exact DGet.t h1 hb, ?_⟩
      obtain ⟨i1, i2⟩ := valKs_rep key hv
      cases g : valKs kvs key with
      | none =>
        rw [i2 g]
        rw [g] at q
        exact k _ H3 dz M3 ((t1.trans t2).trans t3) rz q
      | some d =>
        obtain ⟨v, e2, r2⟩ := i1 d g
        rw [e2]
        rw [g] at q
        exact k _ H3 d M3 ((t1.trans t2).trans t3) r2 q
    | _ => exact False.elim q
def aDPutT (a b c : ATE) : ATS := fun ax D env M => c ax env M fun z M1 => a ax env M1 fun x M2 => b ax env M2 fun y M3 => match x with
  | .obj p => dttAt M3 p fun kvs => optAt (keyT y) fun k => kvs.length < sizeLine ∧ D.nx env (up M3 p (.dtt (putKs kvs k z)))
  | _ => False
theorem as_dputT {o i value : Expr} {γ : ATE} (hu : X.A.units + 1 < cLine) (ho : AE X W o α) (hi : AE X W i β) (hv : AE X W value γ) (hs : swapsWith value (some (.Subscript o i pos')) pos.line X.env = pure false := by rfl) :
    AS X W (.Assign [.Subscript o i pos'] value pos) (aDPutT α β γ) := PS.imp (ps_dput hu ho hi hv hs) fun D σ H h => by
  obtain ⟨ax, env, M, Da, S, q, k⟩ := h
  refine ⟨ax, env, M, _, S, q, fun z H1 dz M1 t1 rz q => ?_⟩
  refine ⟨ax, env, M1, _, S.next t1, q, fun x H2 dx M2 t2 rx q => ?_⟩
  refine ⟨ax, env, M2, _, (S.next t1).next t2, q, fun y H3 dy M3 t3 ry q => ?_⟩
  cases dx with
  | obj p =>
    obtain ⟨kvs, m, q⟩ := dttAt_ex q
    obtain ⟨key, e, l, q⟩ := optAt_ex q
    cases (show x = V.ref p from rx)
    obtain ⟨ws, h1, hv⟩ := t3.abs p _ m
    have t := (t1.trans t2).trans t3
    have rz' := t3.rep t2.abs (t2.rep t1.abs rz)
    have tw := Tr.write (mo := .dtt (putKs kvs key dz)) t3.abs m ⟨_, upd_same, repT_write t3.abs m (put_repT rz' hv)⟩
    refine ⟨p, _, rfl, ?_, k.nx σ _ env _ (t.trans tw) ((S.next t).next tw).rs q⟩
    obtain ⟨b, rfl, hb⟩ := keyT_rep ry e
    exact DPut.t h1 hb (by rw [← lenT hv]; exact l)
  | _ => exact False.elim q

def aTupK (τ : ATA) : ATE := fun ax env M Q => τ ax env M fun ds M1 => optAt (keysD ds) fun ks => ds.length ≤ sizeLine ∧ Q (.key ks) M1
theorem ae_tupK {es : List Expr} {τ : ATA} {x1} {pos : Pos} (h : AA X W es τ) : AE X W (.Tuple es x1 pos) (aTupK τ) := PE.imp (pe_tup h) fun σ H Q h => by
  obtain ⟨ax, env, M, Qa, S, q, k⟩ := h
  refine ⟨ax, env, M, _, S, q, fun vs H1 ds M1 t r q => ?_⟩
  obtain ⟨ks, e, q⟩ := optAt_ex q
  refine ⟨by rw [← r.length]; exact q.1, fun p hp => ?_⟩
  exact k _ _ (.key ks) M1 (t.trans (Tr.newT t.abs hp)) ⟨p, rfl, by rw [upd_same, keysD_rep r e]⟩ q.2
def aDNewT : ATE := fun _ _ M Q => New (.dtt []) M Q
theorem ae_dnewT {pos : Pos} : AE X W (.Dict [] [] pos) aDNewT := PE.imp pe_dnewT fun σ H Q h => by
  obtain ⟨ax, env, M, Qa, S, q, k⟩ := h
  intro p hp
  exact k _ _ (.obj p) _ (Tr.newM (mo := .dtt []) S.abs hp ⟨[], upd_same, .nil⟩) rfl (q p (S.abs.fresh hp))
end

section
variable {X : Cx} {K : PySem.W.Frag}
theorem call_lenDT : CallR X (.builtin "len") (fun xs H Q => ∃ a kvs, xs = [V.ref a] ∧ H a = some (.dT kvs) ∧ Q (.int kvs.length) H) := by
  intro pins s σ H xs us Q I r h
  obtain ⟨a, kvs, rfl, ha, q⟩ := h
  obtain ⟨u, rfl, ru⟩ := vals1 r
  cases ru
  obtain ⟨z, hd, ps, rel, dd⟩ := dt_rd I.hok (.inl ha)
  have e : (pairsH ps).length = kvs.length := by
    unfold pairsH
    rw [List.length_map]
    exact (Paired.length rel).symm
  have dk : s.heap.DictKeyed (tupleKind (mixKind X.prog X.w)) a (pairsH ps) := ⟨ps, dd, rfl⟩
  refine PyProof.Rows.call_len_slot (n := (kvs.length : Int)) dk.typeIs PySem.F.slot_dict_len (fun Q' h' => len_keyed hd dk (by rw [e]; exact h')) (by omega) (by rw [jAh] at z; omega) ?_
  exact ⟨.int kvs.length, H, (I.tok _).tok _, ⟨s.toks + 1, rfl⟩, q⟩
def ρLenDT : ARs := fun ds M Q => match ds with
  | [.obj p] => dttAt M p fun kvs => Q (.int kvs.length) M
  | _ => False
theorem sim_lenDT : SimC K (fun xs H Q => ∃ a kvs, xs = [V.ref a] ∧ H a = some (.dT kvs) ∧ Q (.int kvs.length) H) ρLenDT := by
  intro xs ds H M Q Qc ab rx q k
  unfold ρLenDT at q
  split at q
  · rename_i p
    obtain ⟨v, rfl, r1⟩ := repL1 rx
    cases (show v = V.ref p from r1)
    obtain ⟨kvs, m, q⟩ := dttAt_ex q
    obtain ⟨ws, h1, hv⟩ := ab p _ m
    refine ⟨p, ws, rfl, h1, ?_⟩
    rw [← hv.length]
    exact k _ _ (.int kvs.length) M (Tr.refl ab) rfl q
  · exact q.elim
end

section
variable {ax : AX} {env : AEnv} {M : Sto} {Q : D → Sto → Prop} {τ : ATA} {α β γ : ATE} {De : AEnds}
theorem jFi : aDNewT ax env M Q = New (.dtt []) M Q := rfl
theorem jFd : aTupK τ ax env M Q = τ ax env M fun ds M1 => optAt (keysD ds) fun ks => ds.length ≤ sizeLine ∧ Q (.key ks) M1 := rfl
theorem jFa {p : Addr} {k : List (List Key × D) → Prop} : dttAt M p k = match M p with
  | some (.dtt ds) => k ds
  | _ => False := rfl
theorem jFn {a : Addr} {ks : List Key} : ρDInK true (.key ks) (.obj a) M Q = dttAt M a fun kvs => Q (.bl (!(valKs kvs ks).isSome)) M := rfl
theorem jFf : aDGet2T α β γ ax env M Q = α ax env M fun x M1 => match x with
  | .obj p => dttAt M1 p fun _ => β ax env M1 fun y M2 => γ ax env M2 fun z M3 => dttAt M3 p fun kvs => optAt (keyT y) fun k => Q ((valKs kvs k).getD z) M3
  | _ => False := rfl
theorem jFg : aDPutT α β γ ax De env M = γ ax env M fun z M1 => α ax env M1 fun x M2 => β ax env M2 fun y M3 => match x with
  | .obj p => dttAt M3 p fun kvs => optAt (keyT y) fun k => kvs.length < sizeLine ∧ De.nx env (up M3 p (.dtt (putKs kvs k z)))
  | _ => False := rfl
theorem jFj {ks : List Key} : keyT (.key ks) = some ks := rfl
end

section
variable {ax : AX} {env : AEnv} {M : Sto} {Q : D → Sto → Prop}
theorem jFm {i : Int} {s : Str} : keysD [.int i, .str s] = some [.inl i, .inr s] := rfl
theorem jFe {p : Addr} : ρLenDT [.obj p] M Q = dttAt M p fun kvs => Q (.int kvs.length) M := rfl
end

open PySem PySem.Spec L2 RT
section
variable {W : WX} {X : Cx} {e : Expr} {α : ATE} {pos p : Pos} {tg : Expr} {K : PySem.W.Frag}
def aIRevL (a : ATE) : ATI := fun ax env M R => a ax env M fun x M1 => match x with
  | .obj p => lstAt M1 p fun ds => R ds.reverse (fun M => M p = some (.lst ds)) M1
  | _ => False
theorem itsim_rl {p : Addr} {ds : List D} {M1 : Sto} {H1 : Hp} : ItSim K (Itv K p ds.length) ds.reverse (fun M => M p = some (.lst ds)) M1 H1 := fun i M H t m => by
  obtain ⟨vs, h1, hv⟩ := t.abs p _ m
  have hl := hv.length
  refine ⟨fun d e => ?_, fun e => ?_⟩
  · have hi : i < ds.length := by
      have z := (List.getElem?_eq_some_iff.mp e).1
      rw [List.length_reverse] at z
      exact z
    rw [List.getElem?_reverse hi] at e
    obtain ⟨v, e', r⟩ := hv.get e
    refine ⟨⟨by omega, vs, v, SqL.of h1, e'⟩, fun x H' y => ?_⟩
    obtain ⟨rfl, y⟩ := y
    have z := y vs (SqL.of h1)
    rw [e'] at z
    cases z
    exact ⟨Tr.refl t.abs, r⟩
  · have z := List.getElem?_eq_none_iff.mp e
    rw [List.length_reverse] at z
    exact z
theorem ai_revL (hg : Gl X "reversed") (hm : X.mg "reversed" = none) (ha : AE X W e α) (hs : starEach [e] X.env = (false, eval e X.env) :: starEach [] X.env := by rfl) : AI X W tg (.Call (.Name "reversed" p) [e] [] pos) (aIRevL α) := PI.imp (pi_revA hg hm ha hs) fun σ H R h => by
  obtain ⟨ax, env, M, Ra, S, q, k⟩ := h
  refine ⟨ax, env, M, _, S, q, fun x H1 dx M1 t r q => ?_⟩
  cases dx with
  | obj p =>
    cases (show x = V.ref p from r)
    obtain ⟨ds, m, q⟩ := lstAt_ex q
    obtain ⟨vs, h1, hv⟩ := t.abs p _ m
    refine ⟨p, vs, rfl, .inl ⟨SqL.of h1, ?_⟩⟩
    rw [← hv.length]
    exact k _ _ _ M1 H1 t itsim_rl q
  | _ => exact False.elim q
end
section
variable {ax : AX} {env : AEnv} {M : Sto} {α : ATE}
theorem jFk {R} : aIRevL α ax env M R = α ax env M fun x M1 => match x with
  | .obj p => lstAt M1 p fun ds => R ds.reverse (fun M => M p = some (.lst ds)) M1
  | _ => False := rfl
end

/- slots of _law_cell: 0 script, 1 k -/
def a__law_cell  : ATS :=
    (aSeq (aIf (aTest (aOp ρLt (aVar 1) (aCB ρLen (aCons (aVar 0) aNil)))) (aRet (aOp ρIx (aVar 0) (aVar 1))) aNext)
    (aRet (aC (.int 0))))
/- slots of _law_digits: 0 script, 1 first, 2 last, 3 digits, 4 k, 5 cell, 6 turn, 7 seed -/
def a__law_digits (A__law_cell : ASp) : ATS :=
    (aSeq (aAsg (aLst aNil) (agName 3))
    (aSeq (aFor (aIRng2 (aCons (aVar 1) (aCons (aVar 2) aNil))) (agName 4) (aSeq (aAsg (aCall 2 A__law_cell (aCons (aVar 0) (aCons (aVar 4) aNil))) (agName 5))
    (aSeq (aIf (aTest (aOp ρLt (aVar 5) (aC (.int 0)))) (aAsg (aOp ρSub (aC (.int 1)) (aOp ρMul (aC (.int 2)) (aVar 5))) (agName 5)) aNext)
    (aIf (aTest (aOp ρGe (aVar 5) (aOp ρPow (aC (.int 10)) (aC (.int 18))))) (aFor (aIRng1 (aCons (aC (.int 60)) aNil)) (agName 6) (aIf (aTest (aOp ρGt (aVar 5) (aC (.int 0)))) (aSeq (aExpr (aLm ρAppend (aVar 3) (aCons (aOp ρMod (aCB ρInt (aCons (aVar 5) aNil)) (aC (.int 1000))) aNil)))
    (aAsg (aOp ρFdiv (aVar 5) (aC (.int 1000))) (agName 5))) aNext)) (aSeq (aAsg (aOp ρMod (aCB ρInt (aCons (aOp ρAdd (aOp ρAdd (aOp ρMul (aVar 5) (aC (.int 48271))) (aOp ρMul (aVar 4) (aC (.int 69621)))) (aC (.int 11))) aNil)) (aC (.int 2147483647))) (agName 7))
    (aFor (aIRng1 (aCons (aC (.int 12)) aNil)) (agName 6) (aSeq (aAsg (aOp ρMod (aCB ρInt (aCons (aOp ρAdd (aOp ρAdd (aOp ρMul (aVar 7) (aC (.int 16807))) (aOp ρMul (aC (.int 7)) (aVar 6))) (aC (.int 1))) aNil)) (aC (.int 2147483647))) (agName 7))
    (aExpr (aLm ρAppend (aVar 3) (aCons (aOp ρMod (aCB ρInt (aCons (aOp ρFdiv (aVar 7) (aC (.int 997))) aNil)) (aC (.int 1000))) aNil))))))))))
    (aRet (aVar 3))))
/- slots of _law_box: 0 script, 1 first, 2 last -/
def a__law_box (A__law_digits : ASp) : ATS :=
    (aRet (aLst (aCons (aCall 3 A__law_digits (aCons (aVar 0) (aCons (aVar 1) (aCons (aVar 2) aNil)))) (aCons (aC (.int 0)) aNil))))
/- slots of _law_draw: 0 box, 1 many, 2 at -/
def a__law_draw  : ATS :=
    (aSeq (aAsg (aOp ρIx (aVar 0) (aC (.int 1))) (agName 2))
    (aSeq (aAsg (aOp ρAdd (aVar 2) (aC (.int 1))) (agSub (aVar 0) (aC (.int 1))))
    (aSeq (aIf (aTest (aOp ρLt (aVar 2) (aCB ρLen (aCons (aOp ρIx (aVar 0) (aC (.int 0))) aNil)))) (aRet (aOp ρMod (aCB ρInt (aCons (aOp ρIx (aOp ρIx (aVar 0) (aC (.int 0))) (aVar 2)) aNil)) (aVar 1))) aNext)
    (aRet (aC (.int 0))))))
/- slots of _law_put: 0 formula, 1 table, 2 part -/
def a__law_put (A__law_put : ASp) : ATS :=
    (aSeq (aIf (aTest (aOp (ρEq false) (aOp ρIx (aVar 0) (aC (.int 0))) (aC (.str z_letter)))) (aRet (aDGet2 (aVar 1) (aOp ρIx (aVar 0) (aC (.int 1))) (aVar 0))) aNext)
    (aRet (aOp ρAdd (aTup (aCons (aOp ρIx (aVar 0) (aC (.int 0))) aNil)) (aCB ρTuple (aCons (aLc (aITup (aSl (aVar 0) (aOSome (aC (.int 1))) aONone)) 2 aYes (aCall 2 A__law_put (aCons (aVar 2) (aCons (aVar 1) aNil)))) aNil)))))
/- slots of _law_any: 0 box, 1 room, 2 many, 3 kind, 4 left, 5 first -/
def a__law_any (A__law_draw : ASp) (A__law_any : ASp) : ATS :=
    (aSeq (aAsg (aCall 2 A__law_draw (aCons (aVar 0) (aCons (aC (.int 8)) aNil))) (agName 3))
    (aSeq (aIf (aOr (aTest (aOp ρLt (aVar 1) (aC (.int 2)))) (aTest (aOp ρLt (aVar 3) (aC (.int 2))))) (aRet (aTup (aCons (aC (.str z_letter)) (aCons (aOp ρIx (aC (.str z_abcdefgh)) (aCall 2 A__law_draw (aCons (aVar 0) (aCons (aVar 2) aNil)))) aNil)))) aNext)
    (aSeq (aIf (aOr (aTest (aOp ρLt (aVar 1) (aC (.int 3)))) (aTest (aOp ρLt (aVar 3) (aC (.int 4))))) (aRet (aTup (aCons (aC (.str z_not)) (aCons (aCall 3 A__law_any (aCons (aVar 0) (aCons (aOp ρSub (aVar 1) (aC (.int 1))) (aCons (aVar 2) aNil)))) aNil)))) aNext)
    (aSeq (aAsg (aOp ρAdd (aC (.int 1)) (aCall 2 A__law_draw (aCons (aVar 0) (aCons (aOp ρSub (aVar 1) (aC (.int 2))) aNil)))) (agName 4))
    (aSeq (aAsg (aCall 3 A__law_any (aCons (aVar 0) (aCons (aVar 4) (aCons (aVar 2) aNil)))) (agName 5))
    (aRet (aTup (aCons (aC (.str z_if)) (aCons (aVar 5) (aCons (aCall 3 A__law_any (aCons (aVar 0) (aCons (aOp ρSub (aOp ρSub (aVar 1) (aC (.int 1))) (aVar 4)) (aCons (aVar 2) aNil)))) aNil))))))))))
/- slots of _law_lettered: 0 box, 1 room, 2 many, 3 names, 4 table, 5 name -/
/- slots of _law_text: 0 formula, 1 first -/
/- slots of _law_same: 0 actual, 1 expected, 2 k -/
def a__law_same (A__law_same : ASp) : ATS :=
    (aSeq (aIf (aTruth (aIsi "tuple" (aVar 1))) (aSeq (aIf (aOr (aNot (aTruth (aIsi "tuple" (aVar 0)))) (aTest (aOp (ρEq true) (aCB ρLen (aCons (aVar 0) aNil)) (aCB ρLen (aCons (aVar 1) aNil))))) (aRet (aC (.bl false))) aNext)
    (aSeq (aFor (aIRng1 (aCons (aCB ρLen (aCons (aVar 1) aNil)) aNil)) (agName 2) (aIf (aNot (aTruth (aCall 2 A__law_same (aCons (aOp ρIx (aVar 0) (aVar 2)) (aCons (aOp ρIx (aVar 1) (aVar 2)) aNil))))) (aRet (aC (.bl false))) aNext))
    (aRet (aC (.bl true))))) aNext)
    (aSeq (aIf (aTest (aOp (ρIsN false) (aVar 1) (aC .non))) (aRet (aOp (ρIsN false) (aVar 0) (aC .non))) aNext)
    (aSeq (aIf (aTruth (aIsi "bool" (aVar 1))) (aRet (aAndV (aIsi "bool" (aVar 0)) (aOp (ρEq false) (aVar 0) (aVar 1)))) aNext)
    (aSeq (aIf (aTruth (aIsi "int" (aVar 1))) (aRet (aAndV (aIsi "int" (aVar 0)) (aAndV (aNotV (aIsi "bool" (aVar 0))) (aOp (ρEq false) (aVar 0) (aVar 1))))) aNext)
    (aRet (aAndV (aIsi "str" (aVar 0)) (aOp (ρEq false) (aVar 0) (aVar 1))))))))

theorem rngD_cons {lo : Int} {n : Nat} {d : D} {r : List D} (h : rngD lo n = d :: r) : ∃ m, n = m + 1 ∧ d = .int lo ∧ r = rngD (lo + 1) m := by
  cases n with
  | zero => cases h
  | succ m =>
    rw [rngD] at h
    injection h with h1 h2
    exact ⟨m, rfl, h1.symm, h2.symm⟩
theorem rngD_nil {lo : Int} {n : Nat} (h : rngD lo n = []) : n = 0 := by
  cases n with
  | zero => rfl
  | succ m => cases h
theorem atI_int {zs : List Int} {i : Int} (h0 : 0 ≤ i) (h : i < (zs.length : Int)) : ∃ z, atI (zs.map D.int) i = some (.int z) := by
  have hk : i.toNat < zs.length := by omega
  have e : i = ((i.toNat : Nat) : Int) := by omega
  rw [e, atIn, List.getElem?_map, List.getElem?_eq_getElem hk]
  exact ⟨_, rfl⟩
theorem ExtB.ext {M M' : Sto} {p : Addr} (h : M p = none) (e : ExtB p M M') : Ext M M' := fun a o m => e a o (fresh_ne h m) m
theorem map_snoc (zs : List Int) (z : Int) : zs.map D.int ++ [.int z] = (zs ++ [z]).map D.int := by rw [List.map_append]; rfl
def BoxAt (M : Sto) (b d : Addr) : Prop := ∃ (zs : List Int) (at_ : Int), M b = some (.lst [.obj d, .int at_]) ∧ M d = some (.lst (zs.map D.int)) ∧ 0 ≤ at_ ∧ d ≠ b
theorem BoxAt.ext {M M' : Sto} {b d : Addr} (h : BoxAt M b d) (e : Ext M M') : BoxAt M' b d := by
  obtain ⟨zs, at_, h1, h2, h3, h4⟩ := h
  exact ⟨zs, at_, e _ _ h1, e _ _ h2, h3, h4⟩
theorem BoxAt.upd {M : Sto} {b d p : Addr} {mo : MO} (h : BoxAt M b d) (h1 : b ≠ p) (h2 : d ≠ p) : BoxAt (up M p mo) b d := by
  obtain ⟨zs, at_, z1, z2, z3, z4⟩ := h
  exact ⟨zs, at_, by rw [up_ne h1]; exact z1, by rw [up_ne h2]; exact z2, z3, z4⟩
theorem BoxAt.fresh {M : Sto} {b d p : Addr} (h : BoxAt M b d) (hp : M p = none) : b ≠ p ∧ d ≠ p := by
  obtain ⟨zs, at_, z1, z2, z3, z4⟩ := h
  exact ⟨fresh_ne hp z1, fresh_ne hp z2⟩
theorem BoxAt.new {M : Sto} {b d p : Addr} {mo : MO} (h : BoxAt M b d) (hp : M p = none) : BoxAt (up M p mo) b d := h.upd (h.fresh hp).1 (h.fresh hp).2
theorem BoxAt.ne {M : Sto} {b d : Addr} (h : BoxAt M b d) : d ≠ b := by
  obtain ⟨zs, at_, z1, z2, z3, z4⟩ := h
  exact z4
def A_draw : ASp := fun ds M Q _ => ∃ b d n, ds = [.obj b, .int n] ∧ BoxAt M b d ∧ 0 < n ∧ ∀ v M', 0 ≤ v → v < n → BoxAt M' b d → ExtB b M M' → Q (.int v) M'
theorem p__law_draw (ds : List D) (M : Sto) (Q : D → Sto → Prop) (Xa) (hl : ds.length = 2) (h : A_draw ds M Q Xa) : a__law_draw ax0 ⟨fun _ M => Q .non M, Q, fun _ _ => False, fun _ _ => False⟩ (startA ["box", "many", "at"] ds) M := by
  obtain ⟨b, d, n, rfl, ⟨zs, at_, hb, hd, h0, hne⟩, hn, q⟩ := h
  have fin : ∀ v, 0 ≤ v → v < n → Q (.int v) (up M b (.lst [.obj d, .int (at_ + 1)])) := fun v h1 h2 => q v _ h1 h2 ⟨zs, at_ + 1, up_same, by rw [up_ne hne]; exact hd, by omega, hne⟩ ExtB.upd
  unfold a__law_draw
  try (simp only [↓jAe,↓jAl,↓jAd,↓jA3,↓jAp,↓jAi,↓jCy,↓jA0,↓e_c,↓jA8,↓jA1,↓jAf,↓jA9,↓jA7,↓jAt,↓jCl,↓jBn,↓jAs,↓jBe,↓jAb,jAq,jAm,jAr,jEb,List.set_cons_zero,List.set_cons_succ,List.getElem?_cons_zero,List.getElem?_cons_succ,List.length_cons,List.length_nil,List.length_map,List.nil_append,List.cons_append,startA,List.map_cons,List.map_nil,List.replicate_succ,List.replicate_zero,Nat.reduceAdd,Nat.reduceSub,Nat.zero_add,Int.reduceLE,if_true,if_false,decide_eq_true_eq, *])
  split
  · rename_i hlt
    obtain ⟨z, hz⟩ := atI_int h0 hlt
    try (simp only [↓jA1,↓e_I,↓jCd,true_and, *])
    exact fin _ (Int.emod_nonneg _ (by omega)) (Int.emod_lt_of_pos _ hn)
  · trivial
def A_cell : ASp := fun ds M Q _ => ∃ (ns : List Int) (k : Int), ds = [.fl (ns.map D.int), .int k] ∧ 0 ≤ k ∧ ∀ v, Q (.int v) M
theorem p__law_cell (ds : List D) (M : Sto) (Q : D → Sto → Prop) (Xa) (hl : ds.length = 2) (h : A_cell ds M Q Xa) : a__law_cell ax0 ⟨fun _ M => Q .non M, Q, fun _ _ => False, fun _ _ => False⟩ (startA ["script", "k"] ds) M := by
  obtain ⟨ns, k, rfl, h0, q⟩ := h
  unfold a__law_cell
  try (simp only [↓jAe,↓jAl,↓jAd,↓jA3,↓jA0,↓e_c,↓jA8,↓jA1,↓jAf,↓jA9,↓jA7,↓jAt,↓jBn,↓jE3,↓jE8,List.getElem?_cons_zero,List.getElem?_cons_succ,List.length_cons,List.length_nil,List.length_map,List.append_nil,startA,List.map_cons,List.map_nil,List.replicate_zero,Nat.reduceAdd,Nat.reduceSub,Nat.zero_add,decide_eq_true_eq, *])
  split
  · rename_i hlt
    obtain ⟨z, hz⟩ := atI_int h0 hlt
    try (simp only [↓jA1, *])
  · trivial
def A_digits : ASp := fun ds M Q _ => ∃ (ns : List Int) (n : Int), ds = [.fl (ns.map D.int), .int 0, .int n] ∧ 0 ≤ n ∧ n ≤ 63 ∧ ∀ p (zs : List Int) M', M p = none → Ext M M' → M' p = some (.lst (zs.map D.int)) → Q (.obj p) M'
theorem p__law_digits (ds : List D) (M : Sto) (Q : D → Sto → Prop) (Xa) (hl : ds.length = 3) (h : A_digits ds M Q Xa) : a__law_digits A_cell ax0 ⟨fun _ M => Q .non M, Q, fun _ _ => False, fun _ _ => False⟩ (startA ["script", "first", "last", "digits", "k", "cell", "turn", "seed"] ds) M := by
  obtain ⟨ns, n, rfl, h0, h1, q⟩ := h
  unfold a__law_digits
  try (simp only [↓jAe,↓jAp,↓jAi,↓jA0,↓jA1,↓jA9,↓jA7,↓jA4,↓jAg,↓jC8,jAh,List.set_cons_zero,List.set_cons_succ,List.getElem?_cons_zero,List.getElem?_cons_succ,List.length_cons,List.length_nil,List.nil_append,List.cons_append,startA,List.map_cons,List.map_nil,List.replicate_succ,List.replicate_zero,Nat.reduceAdd,Nat.reduceSub,Nat.reduceLeDiff,Nat.zero_add,Int.reduceLE,Int.reduceLT,Int.reducePow,Int.reduceNeg,true_and, *])
  intro p hp
  skip
  refine ⟨⟨by omega, by omega⟩, ?_⟩
  refine for_run (fun ds env M' => ∃ lo m x4 x5 x6 x7 zs, ds = rngD lo m ∧ 0 ≤ lo ∧ lo ≤ 100 ∧ lo + m ≤ 100 ∧ env = [some (.fl (ns.map D.int)), some (.int 0), some (.int n), some (.obj p), x4, x5, x6, x7] ∧ M' p = some (.lst (zs.map D.int)) ∧ ExtB p M M' ∧ zs.length + 60 * m ≤ 10000) (fun _ _ _ _ => trivial) ?_ ?_ ⟨0, _, none, none, none, none, [], rfl, by omega, by omega, by omega, rfl, up_same, ExtB.upd, by simp; omega⟩
  · rintro env M' ⟨lo, m, x4, x5, x6, x7, zs, _, _, _, _, rfl, hp', he, _⟩
    try (simp only [↓jAd,↓jA0,↓jA1,List.getElem?_cons_zero,List.getElem?_cons_succ, *])
    exact q p zs M' hp (he.ext hp) hp'
  · rintro d r N env M' ⟨lo, m, x4, x5, x6, x7, zs, hd, hlo, hlo1, hlo2, rfl, hp', he, hz⟩ next
    obtain ⟨m, rfl, rfl, rfl⟩ := rngD_cons hd.symm
    try (simp only [↓jAe,↓jAl,↓jA3,↓jAp,↓jAi,↓jA0,↓e_c,↓jA8,↓jA1,↓jAf,↓jA9,↓jA7,↓jA5,↓jAt,↓jAg,↓jBh,↓e_I,CMul,jDk,or_true,List.set_cons_zero,List.set_cons_succ,List.getElem?_cons_zero,List.getElem?_cons_succ,Int.reduceLE,Int.reduceLT,Int.reduceToNat,Int.reducePow,Int.reduceNeg,true_and,and_self, *])
    refine ⟨rfl, ns, lo, rfl, hlo, fun v => ?_⟩
    try (simp only [↓jCl,↓e_I,↓jBd,↓jBn,↓jCd,CMul,true_or,or_true,Int.reduceLT,Int.reducePow,Int.reduceNeg,decide_eq_true_eq,true_and,and_self, *])
    split <;> split
    iterate 2
      · refine for_run (fun ds env M'' => ∃ l2 m2 w x6 zs2, ds = rngD l2 m2 ∧ env = [some (.fl (ns.map D.int)), some (.int 0), some (.int n), some (.obj p), some (.int lo), some (.int w), x6, x7] ∧ M'' p = some (.lst (zs2.map D.int)) ∧ ExtB p M M'' ∧ zs2.length + m2 ≤ zs.length + 60) (fun _ _ _ _ => trivial) ?_ ?_ ⟨0, 60, _, x6, zs, rfl, rfl, hp', he, by omega⟩
        · rintro env M'' ⟨l2, m2, w, x6, zs2, hd2, rfl, hp2, he2, hz2⟩
          have z := rngD_nil hd2.symm
          subst z
          exact next _ _ ⟨lo + 1, m, _, _, _, _, zs2, rfl, by omega, by omega, by omega, rfl, hp2, he2, by omega⟩
        · rintro d r N2 env M'' ⟨l2, m2, w, x6, zs2, hd2, rfl, hp2, he2, hz2⟩ next2
          obtain ⟨m2, rfl, rfl, rfl⟩ := rngD_cons hd2.symm
          try (simp only [↓jAe,↓jAl,↓jAy,↓jA3,↓jAp,↓jAi,↓jA0,↓e_c,↓jA8,↓jA1,↓jAf,↓jA9,↓jA7,↓jAt,↓jAx,↓jAw,↓e_I,↓jBd,↓jCd,↓jAb,jAh,CDiv,List.set_cons_zero,List.set_cons_succ,List.getElem?_cons_zero,List.getElem?_cons_succ,List.length_map,Int.reduceLT,decide_eq_true_eq,true_and,and_self, *])
          split
          · refine ⟨by omega, ?_⟩
            refine next2 _ _ ⟨l2 + 1, m2, _, _, zs2 ++ [w % 1000], rfl, rfl, ?_, he2.trans ExtB.upd, ?_⟩
            · rw [up_same, map_snoc]
            · rw [List.length_append, List.length_singleton]
              omega
          · exact next2 _ _ ⟨l2 + 1, m2, _, _, zs2, rfl, rfl, hp2, he2, by omega⟩
      · refine for_run (fun ds env M'' => ∃ l2 m2 x5 x6 sd zs2, ds = rngD l2 m2 ∧ env = [some (.fl (ns.map D.int)), some (.int 0), some (.int n), some (.obj p), some (.int lo), x5, x6, some (.int sd)] ∧ M'' p = some (.lst (zs2.map D.int)) ∧ ExtB p M M'' ∧ zs2.length + m2 ≤ zs.length + 12) (fun _ _ _ _ => trivial) ?_ ?_ ⟨0, 12, _, x6, _, zs, rfl, rfl, hp', he, by omega⟩
        · rintro env M'' ⟨l2, m2, x5, x6, sd, zs2, hd2, rfl, hp2, he2, hz2⟩
          have z := rngD_nil hd2.symm
          subst z
          exact next _ _ ⟨lo + 1, m, _, _, _, _, zs2, rfl, by omega, by omega, by omega, rfl, hp2, he2, by omega⟩
        · rintro d r N2 env M'' ⟨l2, m2, x5, x6, sd, zs2, hd2, rfl, hp2, he2, hz2⟩ next2
          obtain ⟨m2, rfl, rfl, rfl⟩ := rngD_cons hd2.symm
          try (simp only [↓jAe,↓jAy,↓jAp,↓jAi,↓jA0,↓e_c,↓jA8,↓jA1,↓jA9,↓jA7,↓jAt,↓jAx,↓jAw,↓jCl,↓e_I,↓jCd,↓jAb,jAh,CMul,CDiv,true_or,or_true,List.set_cons_zero,List.set_cons_succ,List.getElem?_cons_zero,List.getElem?_cons_succ,List.length_map,Int.reduceLT,Int.reducePow,Int.reduceNeg,true_and,and_self, *])
          refine ⟨by omega, ?_⟩
          refine next2 _ _ ⟨l2 + 1, m2, _, _, _, zs2 ++ [(sd * 16807 + 7 * l2 + 1) % 2147483647 / 997 % 1000], rfl, rfl, ?_, he2.trans ExtB.upd, ?_⟩
          · rw [up_same, map_snoc]
          · rw [List.length_append, List.length_singleton]
            omega
def A_box : ASp := fun ds M Q _ => ∃ (ns : List Int) (n : Int), ds = [.fl (ns.map D.int), .int 0, .int n] ∧ 0 ≤ n ∧ n ≤ 63 ∧ ∀ b d M', M b = none → M d = none → Ext M M' → BoxAt M' b d → Q (.obj b) M'
theorem p__law_box (ds : List D) (M : Sto) (Q : D → Sto → Prop) (Xa) (hl : ds.length = 3) (h : A_box ds M Q Xa) : a__law_box A_digits ax0 ⟨fun _ M => Q .non M, Q, fun _ _ => False, fun _ _ => False⟩ (startA ["script", "first", "last"] ds) M := by
  obtain ⟨ns, n, rfl, h0, h1, q⟩ := h
  unfold a__law_box
  try (simp only [↓jAd,↓jA0,↓e_c,↓jA1,↓jA9,↓jA7,↓jA4,↓jA5,jAh,List.getElem?_cons_zero,List.getElem?_cons_succ,List.length_cons,List.length_nil,List.append_nil,startA,List.map_cons,List.map_nil,List.replicate_zero,Nat.reduceAdd,Nat.reduceSub,Nat.reduceLeDiff,Nat.zero_add,true_and, *])
  refine ⟨rfl, ns, n, rfl, h0, h1, fun p zs M' hp e hz => ?_⟩
  try (simp only [*])
  intro b hb
  have hne := fresh_ne hb hz
  have hb0 : M b = none := by
    cases z : M b with
    | none => rfl
    | some mo => rw [e _ _ z] at hb; cases hb
  exact q b p _ hb0 hp (e.trans (Ext.new hb)) ⟨zs, 0, up_same, by rw [up_ne hne]; exact hz, by omega, hne⟩

inductive Fm where
  | lt (s : Str) | ng (p : Fm) | im (p q : Fm)
  deriving DecidableEq
def Fm.d : Fm → D
  | .lt s => .tup [.str z_letter, .str s]
  | .ng p => .tup [.str z_not, p.d]
  | .im p q => .tup [.str z_if, p.d, q.d]
def Fm.All (P : Str → Prop) : Fm → Prop
  | .lt s => P s
  | .ng p => p.All P
  | .im p q => p.All P ∧ q.All P
def Fm.sz : Fm → Nat
  | .lt _ => 1
  | .ng p => p.sz + 1
  | .im p q => p.sz + q.sz + 1
def Fm.sub (σ : Str → Fm) : Fm → Fm
  | .lt s => σ s
  | .ng p => .ng (p.sub σ)
  | .im p q => .im (p.sub σ) (q.sub σ)
theorem Fm.d_lt (s : Str) : (Fm.lt s).d = .tup [.str z_letter, .str s] := rfl
theorem Fm.d_ng (p : Fm) : (Fm.ng p).d = .tup [.str z_not, p.d] := rfl
theorem Fm.d_im (p q : Fm) : (Fm.im p q).d = .tup [.str z_if, p.d, q.d] := rfl
theorem Fm.All.mono {P R : Str → Prop} (h : ∀ s, P s → R s) : ∀ {f : Fm}, f.All P → f.All R
  | .lt s, a => h s a
  | .ng p, a => Fm.All.mono (f := p) h a
  | .im p q, a => ⟨Fm.All.mono (f := p) h a.1, Fm.All.mono (f := q) h a.2⟩
theorem Fm.sub_all {P R : Str → Prop} {σ : Str → Fm} (h : ∀ s, P s → (σ s).All R) : ∀ {f : Fm}, f.All P → (f.sub σ).All R
  | .lt s, a => h s a
  | .ng p, a => Fm.sub_all (f := p) h a
  | .im p q, a => ⟨Fm.sub_all (f := p) h a.1, Fm.sub_all (f := q) h a.2⟩
theorem Fm.sub_sz {P : Str → Prop} {σ : Str → Fm} (h : ∀ s, P s → (σ s).sz = 1) : ∀ {f : Fm}, f.All P → (f.sub σ).sz = f.sz
  | .lt s, a => h s a
  | .ng p, a => by show (p.sub σ).sz + 1 = p.sz + 1; rw [Fm.sub_sz (f := p) h a]
  | .im p q, a => by show (p.sub σ).sz + (q.sub σ).sz + 1 = p.sz + q.sz + 1; rw [Fm.sub_sz (f := p) h a.1, Fm.sub_sz (f := q) h a.2]
theorem Fm.sz_pos : ∀ f : Fm, 1 ≤ f.sz
  | .lt _ => Nat.le_refl _
  | .ng p => Nat.le_add_left _ _
  | .im p q => Nat.le_add_left _ _
theorem Fm.d_inj : ∀ {f g : Fm}, f.d = g.d → f = g
  | .lt s, .lt t, e => by injection e with e; injection e with _ e; injection e with e _; injection e with e; rw [e]
  | .ng p, .ng q, e => by injection e with e; injection e with _ e; injection e with e _; rw [Fm.d_inj e]
  | .im p q, .im p' q', e => by injection e with e; injection e with _ e; injection e with e1 e; injection e with e2 _; rw [Fm.d_inj e1, Fm.d_inj e2]
  | .lt s, .ng q, e => by injection e with e; injection e with e _; injection e with e; exact absurd e (by decide +kernel)
  | .lt s, .im p' q', e => by injection e with e; injection e with e _; injection e with e; exact absurd e (by decide +kernel)
  | .ng p, .lt t, e => by injection e with e; injection e with e _; injection e with e; exact absurd e (by decide +kernel)
  | .ng p, .im p' q', e => by injection e with e; injection e with e _; injection e with e; exact absurd e (by decide +kernel)
  | .im p q, .lt t, e => by injection e with e; injection e with e _; injection e with e; exact absurd e (by decide +kernel)
  | .im p q, .ng q', e => by injection e with e; injection e with e _; injection e with e; exact absurd e (by decide +kernel)
def lets8 : List Nat := [97, 98, 99, 100, 101, 102, 103, 104]
theorem z8 : z_abcdefgh.cps.toList = lets8 := by decide +kernel
theorem z8l : z_abcdefgh.length ≤ 16777216 := by decide +kernel
def L8 (s : Str) : Prop := ∃ c ∈ lets8, s = ⟨#[c]⟩
theorem at8 {v : Int} (h0 : 0 ≤ v) (h : v < 8) : ∃ c ∈ lets8, atI lets8 v = some c := by
  have e : v = ((v.toNat : Nat) : Int) := by omega
  have hk : v.toNat < lets8.length := by show v.toNat < 8; omega
  rw [e, atIn, List.getElem?_eq_getElem hk]
  exact ⟨_, List.getElem_mem hk, rfl⟩
abbrev Done (Q : D → Sto → Prop) : AEnds := ⟨fun _ M => Q .non M, Q, fun _ _ => False, fun _ _ => False⟩
def A_any (L : Nat) : ASp := fun ds M Q _ => ∃ b d room many, ds = [.obj b, .int room, .int many] ∧ BoxAt M b d ∧ 1 ≤ room ∧ room ≤ (L : Int) ∧ 1 ≤ many ∧ many ≤ 8 ∧ ∀ (f : Fm) M', f.All L8 → (f.sz : Int) ≤ room → BoxAt M' b d → ExtB b M M' → Q f.d M'
theorem p__law_any (L : Nat) (ds : List D) (M : Sto) (Q : D → Sto → Prop) (Xa) (hl : ds.length = 3) (h : A_any (L + 1) ds M Q Xa) : a__law_any A_draw (A_any L) ax0 (Done Q) (startA ["box", "room", "many", "kind", "left", "first"] ds) M := by
  obtain ⟨b, d, room, many, rfl, hb, hr, hL, hm, hm8, q⟩ := h
  unfold a__law_any
  try (simp only [↓jAe,↓jAl,↓jAd,↓jA3,↓jAp,↓jAi,↓jA0,↓e_c,↓jA8,↓jA1,↓jAf,↓jAa,↓jA9,↓jA7,↓jA6,↓jA5,↓jBd,↓jBn,jAh,List.set_cons_zero,List.set_cons_succ,List.getElem?_cons_zero,List.getElem?_cons_succ,List.length_cons,List.length_nil,List.nil_append,List.cons_append,startA,List.map_cons,List.map_nil,List.replicate_succ,List.replicate_zero,Nat.reduceAdd,Nat.reduceSub,Nat.reduceLeDiff,Nat.zero_add,if_true,decide_eq_true_eq,true_and, *])
  refine ⟨rfl, b, d, 8, rfl, hb, by decide, fun kind M1 hk0 hk8 hb1 e1 => ?_⟩
  try (simp only [↓jBn,jBz,decide_eq_true_eq, *])
  split
  · refine ⟨rfl, b, d, many, rfl, hb1, by omega, fun v M2 hv0 hv1 hb2 e2 => ?_⟩
    obtain ⟨c, hc, hat⟩ := at8 hv0 (by omega : v < 8)
    have h8 := z8
    have h8l := z8l
    try (simp only [↓jA1,↓jD6,jAh,true_and, *])
    exact q (.lt ⟨#[c]⟩) M2 ⟨c, hc, rfl⟩ (by show (1 : Int) ≤ room; omega) hb2 (e1.trans e2)
  · rename_i hc1
    split
    · rename_i hc2
      refine ⟨rfl, b, d, room - 1, many, rfl, hb1, by omega, by omega, hm, hm8, fun f M2 hf hs hb2 e2 => ?_⟩
      try (simp only [*])
      exact q (.ng f) M2 hf (by show ((f.sz + 1 : Nat) : Int) ≤ room; omega) hb2 (e1.trans e2)
    · refine ⟨rfl, b, d, room - 2, rfl, hb1, by omega, fun v M2 hv0 hv1 hb2 e2 => ?_⟩
      try (simp only [↓jCl,↓jBd, *])
      refine ⟨rfl, b, d, 1 + v, many, rfl, hb2, by omega, by omega, hm, hm8, fun f M3 hf hs hb3 e3 => ?_⟩
      try (simp only [*])
      refine ⟨rfl, b, d, room - 1 - (1 + v), many, rfl, hb3, by omega, by omega, hm, hm8, fun g M4 hg hs2 hb4 e4 => ?_⟩
      try (simp only [*])
      exact q (.im f g) M4 ⟨hf, hg⟩ (by show ((f.sz + g.sz + 1 : Nat) : Int) ≤ room; omega) hb4 (((e1.trans e2).trans e3).trans e4)
def A_put (L : Nat) : ASp := fun ds M Q _ => ∃ (f : Fm) (t : Addr) (kvs : List (Key × D)) (σ : Str → Fm), ds = [f.d, .obj t] ∧ f.sz ≤ L ∧ M t = some (.dic kvs) ∧ (∀ s, (valA kvs (.inr s)).getD (Fm.lt s).d = (σ s).d) ∧ ∀ M', Ext M M' → Q (f.sub σ).d M'
theorem p__law_put (L : Nat) (ds : List D) (M : Sto) (Q : D → Sto → Prop) (Xa) (hl : ds.length = 2) (h : A_put (L + 1) ds M Q Xa) : a__law_put (A_put L) ax0 (Done Q) (startA ["formula", "table", "part"] ds) M := by
  obtain ⟨f, t, kvs, σ, rfl, hf, ht, hs, q⟩ := h
  unfold a__law_put
  cases f with
  | lt s =>
    rw [Fm.d_lt]
    have hs' := hs s
    try (simp only [↓jAe,↓jAl,↓jAd,↓jA3,↓jA0,↓e_c,↓jA8,↓jA1,↓jAf,↓jBu,↓jA9,↓jA7,↓jA6,↓jA5,↓jAt,↓jB3,↓jB9,↓jB8,↓jBk,↓jB7,↓jAc,↓jAo,↓jAj,↓jAb,↓jB1,jC0,jAm,jAr,jBb,jAh,List.set_cons_zero,List.set_cons_succ,List.getElem?_cons_zero,List.getElem?_cons_succ,List.length_cons,List.length_nil,jC2,jCh,List.nil_append,List.cons_append,startA,List.map_cons,List.map_nil,List.replicate_succ,List.replicate_zero,Nat.reduceAdd,Nat.reduceSub,Nat.reduceLeDiff,Nat.zero_add,if_true,decide_true,true_and, *])
    rw [← Fm.d_lt, hs']
    exact q M (Ext.refl M)
  | ng p =>
    rw [Fm.d_ng]
    try (simp only [↓jAe,↓jAl,↓jAd,↓jA3,↓jA0,↓e_c,↓jA8,↓jA1,↓jAf,↓jBu,↓jA9,↓jA7,↓jA6,↓jA5,↓jAt,↓jB3,↓jB9,↓jB8,↓jBk,↓jB7,↓jAc,↓jAo,↓jAj,↓jAb,↓jB1,jAm,jAr,jBb,znl,jAh,List.set_cons_zero,List.set_cons_succ,List.getElem?_cons_zero,List.getElem?_cons_succ,List.length_cons,List.length_nil,jC2,jCh,List.nil_append,List.cons_append,startA,List.map_cons,List.map_nil,List.replicate_succ,List.replicate_zero,Nat.reduceAdd,Nat.reduceSub,Nat.reduceLeDiff,Nat.zero_add,Bool.false_eq_true,if_true,if_false,decide_false,true_and, *])
    refine ⟨rfl, p, t, kvs, σ, rfl, by have : (Fm.ng p).sz = p.sz + 1 := rfl; omega, ht, hs, fun M1 e1 => ?_⟩
    try (simp only [*])
    intro o ho
    try (simp only [↓jCu,↓jC9,↓jAb,jAq,jAh,List.length_cons,List.length_nil,List.nil_append,List.cons_append,Nat.reduceAdd,Nat.reduceLeDiff,Nat.zero_add,if_true,true_and, *])
    exact q _ (e1.trans (Ext.new ho))
  | im p r =>
    rw [Fm.d_im]
    try (simp only [↓jAe,↓jAl,↓jAd,↓jA3,↓jA0,↓e_c,↓jA8,↓jA1,↓jAf,↓jBu,↓jA9,↓jA7,↓jA6,↓jA5,↓jAt,↓jB3,↓jB9,↓jB8,↓jBk,↓jB7,↓jAc,↓jAo,↓jAj,↓jAb,↓jB1,jAm,jAr,jBb,zil,jAh,List.set_cons_zero,List.set_cons_succ,List.getElem?_cons_zero,List.getElem?_cons_succ,List.length_cons,List.length_nil,jC2,jCh,List.nil_append,List.cons_append,startA,List.map_cons,List.map_nil,List.replicate_succ,List.replicate_zero,Nat.reduceAdd,Nat.reduceSub,Nat.reduceLeDiff,Nat.zero_add,Bool.false_eq_true,if_true,if_false,decide_false,true_and, *])
    have hz : (Fm.im p r).sz = p.sz + r.sz + 1 := rfl
    refine ⟨rfl, p, t, kvs, σ, rfl, by omega, ht, hs, fun M1 e1 => ?_⟩
    try (simp only [*])
    refine ⟨rfl, r, t, kvs, σ, rfl, by omega, e1 _ _ ht, hs, fun M2 e2 => ?_⟩
    try (simp only [*])
    intro o ho
    try (simp only [↓jCu,↓jC9,↓jAb,jAq,jAh,List.length_cons,List.length_nil,List.nil_append,List.cons_append,Nat.reduceAdd,Nat.reduceLeDiff,Nat.zero_add,if_true,true_and, *])
    exact q _ ((e1.trans e2).trans (Ext.new ho))

def names8 : List Str := [z_a, z_b, z_c, z_d, z_e, z_f, z_g, z_h]
theorem L8_names {s : Str} (h : L8 s) : s ∈ names8 := by
  obtain ⟨c, hc, rfl⟩ := h
  have all : ∀ c ∈ lets8, (⟨#[c]⟩ : Str) ∈ names8 := by decide +kernel
  exact all c hc
theorem atI_any {α : Type} {xs : List α} {i : Int} (h0 : 0 ≤ i) (h : i < (xs.length : Int)) : ∃ x, atI xs i = some x ∧ xs[i.toNat]? = some x := by
  have hk : i.toNat < xs.length := by omega
  have e : i = ((i.toNat : Nat) : Int) := by omega
  refine ⟨xs[i.toNat], ?_, List.getElem?_eq_getElem hk⟩
  have z : atI xs ((i.toNat : Nat) : Int) = xs[i.toNat]? := atIn
  rw [← e, List.getElem?_eq_getElem hk] at z
  exact z
mutual
def D.dep : D → Nat
  | .tup ds => D.deps ds + 1
  | _ => 0
def D.deps : List D → Nat
  | [] => 0
  | d :: r => max d.dep (D.deps r)
end
mutual
def D.plain : D → Prop
  | .tup ds => ds.length ≤ 1000000 ∧ D.plains ds
  | .obj _ => False
  | .fl _ => False
  | .key _ => False
  | _ => True
def D.plains : List D → Prop
  | [] => True
  | d :: r => d.plain ∧ D.plains r
end
theorem deps_mem : ∀ {ds : List D} {i : Nat} {d : D}, ds[i]? = some d → d.dep ≤ D.deps ds
  | [], _, _, e => by simp at e
  | d :: r, 0, _, e => by cases (Option.some.inj e); exact Nat.le_max_left _ _
  | d :: r, i + 1, _, e => Nat.le_trans (deps_mem (ds := r) (i := i) e) (Nat.le_max_right _ _)
theorem plains_mem : ∀ {ds : List D} {i : Nat} {d : D}, ds[i]? = some d → D.plains ds → d.plain
  | [], _, _, e, _ => by simp at e
  | d :: r, 0, _, e, h => by cases (Option.some.inj e); exact h.1
  | d :: r, i + 1, _, e, h => plains_mem (ds := r) (i := i) e h.2
theorem Fm.plain : ∀ f : Fm, f.d.plain
  | .lt _ => ⟨(by show 2 ≤ 1000000; omega), trivial, trivial, trivial⟩
  | .ng p => ⟨(by show 2 ≤ 1000000; omega), trivial, Fm.plain p, trivial⟩
  | .im p q => ⟨(by show 3 ≤ 1000000; omega), trivial, Fm.plain p, Fm.plain q, trivial⟩
theorem Fm.dep : ∀ f : Fm, f.d.dep ≤ f.sz
  | .lt _ => Nat.le_refl _
  | .ng p => by
    have h := Fm.dep p
    show max 0 (max p.d.dep 0) + 1 ≤ p.sz + 1
    omega
  | .im p q => by
    have h := Fm.dep p
    have h2 := Fm.dep q
    show max 0 (max p.d.dep (max q.d.dep 0)) + 1 ≤ p.sz + q.sz + 1
    omega
def A_same (L : Nat) : ASp := fun ds M Q _ => ∃ x, ds = [x, x] ∧ x.plain ∧ x.dep < L ∧ Q (.bl true) M
theorem p__law_same (L : Nat) (ds : List D) (M : Sto) (Q : D → Sto → Prop) (Xa) (hl : ds.length = 2) (h : A_same (L + 1) ds M Q Xa) : a__law_same (A_same L) ax0 (Done Q) (startA ["actual", "expected", "k"] ds) M := by
  obtain ⟨x, rfl, hp, hd, q⟩ := h
  unfold a__law_same
  cases x with
  | non => try (simp only [↓jAe,↓jAl,↓jAd,↓jA3,↓jA0,↓e_c,↓jA8,↓jA1,↓jAf,↓jAa,↓jAn,↓jAv,↓jB2,↓jC7,↓jC4,↓jA9,↓jA7,↓jAt,↓jBv,↓jAg,↓jBh,↓jC6,jE9,jE5,jDh,jE6,jEa,List.getElem?_cons_zero,List.getElem?_cons_succ,List.length_cons,List.length_nil,List.nil_append,List.cons_append,jCt,startA,List.map_cons,List.map_nil,List.replicate_succ,List.replicate_zero,Nat.reduceAdd,Nat.reduceSub,Nat.zero_add,Int.reducePow,Int.reduceNeg,Bool.not_true,Bool.not_false,Bool.not_eq_eq_eq_not,Bool.false_eq_true,if_true,if_false, *])
  | bl b => try (simp only [↓jAe,↓jAl,↓jAd,↓jA3,↓jA0,↓e_c,↓jA8,↓jA1,↓jAf,↓jAa,↓jAn,↓jAv,↓jB2,↓jC7,↓jC4,↓jA9,↓jA7,↓jAt,↓jBv,↓jAg,↓jBh,↓jE7,↓jC6,jEe,jDp,jDe,jDu,jDs,List.getElem?_cons_zero,List.getElem?_cons_succ,List.length_cons,List.length_nil,List.nil_append,List.cons_append,jCz,startA,List.map_cons,List.map_nil,List.replicate_succ,List.replicate_zero,Nat.reduceAdd,Nat.reduceSub,Nat.zero_add,Int.reducePow,Int.reduceNeg,Bool.not_true,Bool.not_eq_eq_eq_not,Bool.false_eq_true,Bool.true_eq_false,if_true,if_false,decide_true, *])
  | int i => try (simp only [↓jAe,↓jAl,↓jAd,↓jA3,↓jA0,↓e_c,↓jA8,↓jA1,↓jAf,↓jAa,↓jAn,↓jAv,↓jB2,↓jC7,↓jC4,↓jA9,↓jA7,↓jAt,↓jBv,↓jAg,↓jBh,↓jBo,↓jC6,jE1,jDq,jDg,jDl,jEf,List.getElem?_cons_zero,List.getElem?_cons_succ,List.length_cons,List.length_nil,List.nil_append,List.cons_append,jDo,startA,List.map_cons,List.map_nil,List.replicate_succ,List.replicate_zero,Nat.reduceAdd,Nat.reduceSub,Nat.zero_add,Int.reducePow,Int.reduceNeg,Bool.not_true,Bool.not_false,Bool.not_eq_eq_eq_not,Bool.false_eq_true,if_true,if_false,decide_true, *])
  | str s => try (simp only [↓jAe,↓jAl,↓jAd,↓jA3,↓jA0,↓e_c,↓jA8,↓jA1,↓jAf,↓jAa,↓jAn,↓jAv,↓jB2,↓jC7,↓jC4,↓jA9,↓jA7,↓jAt,↓jBv,↓jAg,↓jBh,↓jAo,↓jD1,↓jC6,↓jD7,jE0,jAh,jDt,jDj,jE2,jDr,List.getElem?_cons_zero,List.getElem?_cons_succ,List.length_cons,List.length_nil,List.nil_append,List.cons_append,jDd,startA,List.map_cons,List.map_nil,List.replicate_succ,List.replicate_zero,Nat.reduceAdd,Nat.reduceSub,Nat.zero_add,Int.reducePow,Int.reduceNeg,Bool.not_true,Bool.not_false,Bool.not_eq_eq_eq_not,Bool.false_eq_true,if_true,if_false,decide_true, *])
  | obj a => exact hp.elim
  | fl a => exact hp.elim
  | key a => exact hp.elim
  | tup xs =>
    have hx := hp.1
    have hdd : D.deps xs + 1 < L + 1 := hd
    try (simp only [↓jAe,↓jAl,↓jAd,↓jA3,↓jA0,↓e_c,↓jA8,↓jA1,↓jAf,↓jAa,↓jAn,↓jAv,↓jB2,↓jC7,↓jC4,↓jA9,↓jA7,↓jAt,↓jBv,↓jAg,↓jBh,↓jD1,↓jC6,↓jBr,jDx,jDn,jDz,jEd,jDf,List.getElem?_cons_zero,List.getElem?_cons_succ,List.length_cons,List.length_nil,List.nil_append,List.cons_append,jAu,startA,List.map_cons,List.map_nil,List.replicate_succ,List.replicate_zero,Nat.reduceAdd,Nat.reduceSub,Nat.zero_add,Int.reducePow,Int.reduceNeg,Bool.not_true,Bool.not_false,Bool.not_eq_eq_eq_not,Bool.false_eq_true,Bool.true_eq_false,if_true,if_false,decide_true, *])
    refine ⟨by omega, by omega, ?_⟩
    refine for_run (fun ds env M' => ∃ lo m x2, ds = rngD lo m ∧ env = [some (.tup xs), some (.tup xs), x2] ∧ 0 ≤ lo ∧ lo + m = xs.length ∧ M' = M) (fun _ _ _ _ => trivial) ?_ ?_ ⟨0, _, none, rfl, rfl, by omega, by omega, rfl⟩
    · rintro env M' ⟨lo, m, x2, _, rfl, _, _, rfl⟩
      try (simp only [↓jAd,↓e_c, *])
    · rintro d r N env M' ⟨lo, m, x2, hd2, rfl, hlo, hm, rfl⟩ next
      obtain ⟨m, rfl, rfl, rfl⟩ := rngD_cons hd2.symm
      obtain ⟨x, hat, hget⟩ := atI_any (xs := xs) hlo (by omega)
      try (simp only [↓jAl,↓jAd,↓jA3,↓jAi,↓jA0,↓e_c,↓jA8,↓jA1,↓jAn,↓jAv,↓jA9,↓jA7,↓jA5,↓jAj,List.set_cons_zero,List.set_cons_succ,List.getElem?_cons_zero,List.getElem?_cons_succ,Bool.not_true,Bool.not_eq_eq_eq_not, *])
      refine ⟨rfl, _, rfl, plains_mem hget hp.2, Nat.lt_of_le_of_lt (deps_mem hget) (by omega), ?_⟩
      try (simp only [↓jB2,Bool.true_eq_false,if_false, *])
      exact next _ _ ⟨lo + 1, m, _, rfl, rfl, by omega, by omega, rfl⟩

def Fm.py : Fm → PyData
  | .lt s => .tuple [.str z_letter, .str s]
  | .ng p => .tuple [.str z_not, p.py]
  | .im p q => .tuple [.str z_if, p.py, q.py]
theorem Fm.d_py : ∀ f : Fm, f.d.py = some f.py
  | .lt s => rfl
  | .ng p => by
    show (((some (PyData.str z_not)).bind fun a => ((p.d.py).bind fun b => (some []).map fun ps => b :: ps).map fun ps => a :: ps)).map PyData.tuple = _
    rw [Fm.d_py p]
    rfl
  | .im p q => by
    show (((some (PyData.str z_if)).bind fun a => ((p.d.py).bind fun b => (q.d.py.bind fun c => (some []).map fun ps => c :: ps).map fun ps => b :: ps).map fun ps => a :: ps)).map PyData.tuple = _
    rw [Fm.d_py p, Fm.d_py q]
    rfl
theorem zl_ok : PyData.strOk z_letter = true := by decide +kernel
theorem zn_ok : PyData.strOk z_not = true := by decide +kernel
theorem zi_ok : PyData.strOk z_if = true := by decide +kernel
theorem Fm.lay {P : Str → Prop} (hP : ∀ s, P s → PyData.strOk s = true) : ∀ f : Fm, f.All P → f.py.canLay0 = true
  | .lt s, h => by
    show (PyData.strOk z_letter && (PyData.strOk s && true)) = true
    rw [zl_ok, hP s h]
    rfl
  | .ng p, h => by
    show (PyData.strOk z_not && (p.py.canLay0 && true)) = true
    rw [zn_ok, Fm.lay hP p h]
    rfl
  | .im p q, h => by
    show (PyData.strOk z_if && (p.py.canLay0 && (q.py.canLay0 && true))) = true
    rw [zi_ok, Fm.lay hP p h.1, Fm.lay hP q h.2]
    rfl
theorem Fm.pdep : ∀ f : Fm, f.py.depth ≤ f.sz
  | .lt s => Nat.le_refl 1
  | .ng p => by
    have z := Fm.pdep p
    show max 0 (max p.py.depth 0) + 1 ≤ p.sz + 1
    omega
  | .im p q => by
    have z := Fm.pdep p
    have z2 := Fm.pdep q
    show max 0 (max p.py.depth (max q.py.depth 0)) + 1 ≤ p.sz + q.sz + 1
    omega
def Fm.Small (f : Fm) : Prop := f.py.depth ≤ 64 ∧ f.py.canLay0 = true
theorem tag_ne {a b : Str} (h : (a == b) = false) (xs ys : List PyData) : PyData.eqv (.tuple (.str a :: xs)) (.tuple (.str b :: ys)) = false := by
  show ((a == b) && PyData.eqvAll xs ys) = false
  rw [h]
  rfl
theorem Fm.eqv_py : ∀ f g : Fm, PyData.eqv f.py g.py = decide (f = g)
  | .lt s, .lt t => by
    show ((z_letter == z_letter) && ((s == t) && true)) = _
    by_cases h : s = t
    · subst h
      rw [decide_eq_true rfl, beq_self_eq_true, beq_self_eq_true]
      rfl
    · rw [decide_eq_false (fun z => h (by injection z)), show (s == t) = false from beq_eq_false_iff_ne.mpr h, Bool.false_and, Bool.and_false]
  | .ng p, .ng q => by
    show ((z_not == z_not) && (PyData.eqv p.py q.py && true)) = _
    rw [Fm.eqv_py p q, beq_self_eq_true, Bool.true_and, Bool.and_true]
    exact decide_eq_decide.mpr ⟨fun h => by rw [h], fun h => by injection h⟩
  | .im p q, .im p' q' => by
    show ((z_if == z_if) && (PyData.eqv p.py p'.py && (PyData.eqv q.py q'.py && true))) = _
    rw [Fm.eqv_py p p', Fm.eqv_py q q', beq_self_eq_true, Bool.true_and, Bool.and_true, ← Bool.decide_and]
    exact decide_eq_decide.mpr ⟨fun h => by rw [h.1, h.2], fun h => by injection h with h1 h2; exact ⟨h1, h2⟩⟩
  | .lt s, .ng q => by
    exact (tag_ne (a := z_letter) (b := z_not) (by decide +kernel) _ _).trans (decide_eq_false (fun z => by cases z)).symm
  | .lt s, .im p q => by
    exact (tag_ne (a := z_letter) (b := z_if) (by decide +kernel) _ _).trans (decide_eq_false (fun z => by cases z)).symm
  | .ng q, .lt s => by
    exact (tag_ne (a := z_not) (b := z_letter) (by decide +kernel) _ _).trans (decide_eq_false (fun z => by cases z)).symm
  | .ng q, .im p q' => by
    exact (tag_ne (a := z_not) (b := z_if) (by decide +kernel) _ _).trans (decide_eq_false (fun z => by cases z)).symm
  | .im p q, .lt s => by
    exact (tag_ne (a := z_if) (b := z_letter) (by decide +kernel) _ _).trans (decide_eq_false (fun z => by cases z)).symm
  | .im p q, .ng s => by
    exact (tag_ne (a := z_if) (b := z_not) (by decide +kernel) _ _).trans (decide_eq_false (fun z => by cases z)).symm
theorem Fm.d_pyM (M : Sto) (f : Fm) : pyM M f.d = some f.py := by
  have z := Fm.d_py f
  cases f <;> exact z
theorem Fm.Small.shaped {f : Fm} (h : f.Small) : SeqAt.shaped f.py = true := by
  show (f.py.canLay0 && decide (f.py.depth ≤ 64)) = true
  rw [h.2, decide_eq_true h.1]
  rfl
theorem e_eqF {n : Bool} {f g : Fm} {M : Sto} {Q : D → Sto → Prop} (hf : f.Small) (hg : g.Small) : ρEq n f.d g.d M Q = Q (.bl (if n then !decide (f = g) else decide (f = g))) M := by
  have e : ρEqv n f.d g.d M Q = Q (.bl (if n then !decide (f = g) else decide (f = g))) M := by
    refine propext ⟨fun ⟨p, q, e1, e2, _, _, z⟩ => ?_, fun z => ⟨f.py, g.py, Fm.d_pyM M f, Fm.d_pyM M g, hf.shaped, hg.shaped, by rw [Fm.eqv_py]; exact z⟩⟩
    rw [Fm.d_pyM] at e1 e2
    injection e1 with e1
    injection e2 with e2
    subst e1 e2
    rw [Fm.eqv_py] at z
    exact z
  cases f <;> cases g <;> exact e

def z_axiom : Str := "axiom"
def z_detach : Str := "detach"
def z_hypothesis : Str := "hypothesis"
/- slots of _law_parts: 0 formula, 1 rows, 2 part -/
def a__law_parts (A__law_parts : ASp) : ATS :=
    (aSeq (aAsg (aLst (aCons (aVar 0) aNil)) (agName 1))
    (aSeq (aFor (aITup (aSl (aVar 0) (aOSome (aC (.int 1))) aONone)) (agName 2) (aIf (aTest (aOp (ρEq true) (aOp ρIx (aVar 0) (aC (.int 0))) (aC (.str z_letter)))) (aAsg (aOp ρAdd (aVar 1) (aCall 1 A__law_parts (aCons (aVar 2) aNil))) (agName 1)) aNext))
    (aRet (aVar 1))))
/- slots of _law_if: 0 rows, 1 formula, 2 k -/
def a__law_if  : ATS :=
    (aSeq (aAsg (aOp ρIx (aVar 0) (aOp ρSub (aCB ρLen (aCons (aVar 0) aNil)) (aC (.int 1)))) (agName 1))
    (aSeq (aFor (aIRng2 (aCons (aC (.int 1)) (aCons (aCB ρLen (aCons (aVar 0) aNil)) aNil))) (agName 2) (aAsg (aTup (aCons (aC (.str z_if)) (aCons (aOp ρIx (aVar 0) (aOp ρSub (aOp ρSub (aCB ρLen (aCons (aVar 0) aNil)) (aC (.int 1))) (aVar 2))) (aCons (aVar 1) aNil)))) (agName 1)))
    (aRet (aVar 1))))
/- slots of _law_axiom: 0 k, 1 a, 2 b, 3 c, 4 d, 5 axioms -/
def a__law_axiom (A__law_if : ASp) : ATS :=
    (aSeq (aAsg (aTup (aCons (aC (.str z_letter)) (aCons (aC (.str z_a)) aNil))) (agName 1))
    (aSeq (aAsg (aTup (aCons (aC (.str z_letter)) (aCons (aC (.str z_b)) aNil))) (agName 2))
    (aSeq (aAsg (aTup (aCons (aC (.str z_letter)) (aCons (aC (.str z_c)) aNil))) (agName 3))
    (aSeq (aAsg (aTup (aCons (aC (.str z_letter)) (aCons (aC (.str z_d)) aNil))) (agName 4))
    (aSeq (aAsg (aLst (aCons (aCall 1 A__law_if (aCons (aLst (aCons (aVar 1) (aCons (aVar 2) (aCons (aVar 1) aNil)))) aNil)) (aCons (aCall 1 A__law_if (aCons (aLst (aCons (aCall 1 A__law_if (aCons (aLst (aCons (aVar 3) (aCons (aVar 2) (aCons (aVar 1) aNil)))) aNil)) (aCons (aCall 1 A__law_if (aCons (aLst (aCons (aVar 3) (aCons (aVar 2) aNil))) aNil)) (aCons (aVar 3) (aCons (aVar 1) aNil))))) aNil)) aNil))) (agName 5))
    (aSeq (aExpr (aLm ρAppend (aVar 5) (aCons (aCall 1 A__law_if (aCons (aLst (aCons (aCall 1 A__law_if (aCons (aLst (aCons (aVar 4) (aCons (aVar 2) (aCons (aVar 1) aNil)))) aNil)) (aCons (aVar 2) (aCons (aVar 4) (aCons (aVar 1) aNil))))) aNil)) aNil)))
    (aSeq (aExpr (aLm ρAppend (aVar 5) (aCons (aCall 1 A__law_if (aCons (aLst (aCons (aCall 1 A__law_if (aCons (aLst (aCons (aVar 2) (aCons (aVar 1) aNil))) aNil)) (aCons (aTup (aCons (aC (.str z_not)) (aCons (aVar 1) aNil))) (aCons (aTup (aCons (aC (.str z_not)) (aCons (aVar 2) aNil))) aNil)))) aNil)) aNil)))
    (aRet (aOp ρIx (aOp ρAdd (aVar 5) (aLst (aCons (aCall 1 A__law_if (aCons (aLst (aCons (aTup (aCons (aC (.str z_not)) (aCons (aTup (aCons (aC (.str z_not)) (aCons (aVar 1) aNil))) aNil))) (aCons (aVar 1) aNil))) aNil)) (aCons (aCall 1 A__law_if (aCons (aLst (aCons (aVar 1) (aCons (aTup (aCons (aC (.str z_not)) (aCons (aTup (aCons (aC (.str z_not)) (aCons (aVar 1) aNil))) aNil))) aNil))) aNil)) aNil)))) (aOp ρSub (aVar 0) (aC (.int 1))))))))))))
/- slots of _law_matches: 0 pattern, 1 formula, 2 found, 3 k -/
def a__law_matches (A__law_matches : ASp) : ATS :=
    (aSeq (aIf (aTest (aOp (ρEq false) (aOp ρIx (aVar 0) (aC (.int 0))) (aC (.str z_letter)))) (aSeq (aIf (aTest (aOp (ρDIn true) (aOp ρIx (aVar 0) (aC (.int 1))) (aVar 2))) (aDPut (aVar 2) (aOp ρIx (aVar 0) (aC (.int 1))) (aVar 1)) aNext)
    (aRet (aOp (ρEq false) (aOp ρDGet (aVar 2) (aOp ρIx (aVar 0) (aC (.int 1)))) (aVar 1)))) aNext)
    (aSeq (aIf (aTest (aOp (ρEq true) (aOp ρIx (aVar 0) (aC (.int 0))) (aOp ρIx (aVar 1) (aC (.int 0))))) (aRet (aC (.bl false))) aNext)
    (aSeq (aFor (aIRng2 (aCons (aC (.int 1)) (aCons (aCB ρLen (aCons (aVar 0) aNil)) aNil))) (agName 3) (aIf (aNot (aTruth (aCall 3 A__law_matches (aCons (aOp ρIx (aVar 0) (aVar 3)) (aCons (aOp ρIx (aVar 1) (aVar 3)) (aCons (aVar 2) aNil)))))) (aRet (aC (.bl false))) aNext))
    (aRet (aC (.bl true))))))
/- slots of _law_line_fault: 0 proof, 1 k, 2 formula, 3 why, 4 rule -/
/- slots of _law_fault: 0 proof, 1 k, 2 reason -/
/- slots of _law_pairs: 0 lines, 1 pairs, 2 i, 3 j -/
def a__law_pairs  : ATS :=
    (aSeq (aAsg (aLst aNil) (agName 1))
    (aSeq (aFor (aIRng1 (aCons (aCB ρLen (aCons (aVar 0) aNil)) aNil)) (agName 2) (aIf (aTest (aOp (ρEq false) (aOp ρIx (aOp ρIx (aOp ρIx (aVar 0) (aVar 2)) (aC (.int 0))) (aC (.int 0))) (aC (.str z_if)))) (aFor (aIRng1 (aCons (aCB ρLen (aCons (aVar 0) aNil)) aNil)) (agName 3) (aIf (aTest (aOp (ρEq false) (aOp ρIx (aOp ρIx (aVar 0) (aVar 3)) (aC (.int 0))) (aOp ρIx (aOp ρIx (aOp ρIx (aVar 0) (aVar 2)) (aC (.int 0))) (aC (.int 1))))) (aExpr (aLm ρAppend (aVar 1) (aCons (aTup (aCons (aVar 2) (aCons (aVar 3) aNil))) aNil))) aNext)) aNext))
    (aRet (aVar 1))))
/- slots of _law_instance: 0 box, 1 lines, 2 axioms, 3 k, 4 table, 5 name -/
def a__law_instance (A__law_draw : ASp) (A__law_any : ASp) (A__law_parts : ASp) (A__law_put : ASp) (A__law_axiom : ASp) : ATS :=
    (aSeq (aAsg (aOp ρIx (aVar 2) (aCall 2 A__law_draw (aCons (aVar 0) (aCons (aCB ρLen (aCons (aVar 2) aNil)) aNil)))) (agName 3))
    (aSeq (aAsg aDNew (agName 4))
    (aSeq (aFor (aIList (aLst (aCons (aC (.str z_a)) (aCons (aC (.str z_b)) (aCons (aC (.str z_c)) (aCons (aC (.str z_d)) aNil)))))) (agName 5) (aSeq (aDPut (aVar 4) (aVar 5) (aCall 3 A__law_any (aCons (aVar 0) (aCons (aOp ρAdd (aC (.int 1)) (aCall 2 A__law_draw (aCons (aVar 0) (aCons (aC (.int 3)) aNil)))) (aCons (aC (.int 3)) aNil)))))
    (aIf (aAnd (aTest (aOp ρGt (aCB ρLen (aCons (aVar 1) aNil)) (aC (.int 0)))) (aTest (aOp (ρEq false) (aCall 2 A__law_draw (aCons (aVar 0) (aCons (aC (.int 2)) aNil))) (aC (.int 0))))) (aSeq (aDPut (aVar 4) (aVar 5) (aOp ρIx (aOp ρIx (aVar 1) (aOp ρMod (aCB ρInt (aCons (aCall 2 A__law_draw (aCons (aVar 0) (aCons (aC (.int 1000)) aNil))) aNil)) (aCB ρLen (aCons (aVar 1) aNil)))) (aC (.int 0))))
    (aSeq (aIf (aAnd (aTest (aOp (ρEq false) (aOp ρIx (aOp ρDGet (aVar 4) (aVar 5)) (aC (.int 0))) (aC (.str z_if)))) (aTest (aOp (ρEq false) (aCall 2 A__law_draw (aCons (aVar 0) (aCons (aC (.int 2)) aNil))) (aC (.int 0))))) (aDPut (aVar 4) (aVar 5) (aOp ρIx (aOp ρDGet (aVar 4) (aVar 5)) (aOp ρAdd (aC (.int 1)) (aCall 2 A__law_draw (aCons (aVar 0) (aCons (aC (.int 2)) aNil)))))) aNext)
    (aIf (aTest (aOp ρGt (aCB ρLen (aCons (aCall 1 A__law_parts (aCons (aOp ρDGet (aVar 4) (aVar 5)) aNil)) aNil)) (aC (.int 9)))) (aDPut (aVar 4) (aVar 5) (aTup (aCons (aC (.str z_letter)) (aCons (aC (.str z_a)) aNil)))) aNext))) aNext)))
    (aRet (aTup (aCons (aCall 2 A__law_put (aCons (aCall 1 A__law_axiom (aCons (aVar 3) aNil)) (aCons (aVar 4) aNil))) (aCons (aTup (aCons (aC (.str z_axiom)) (aCons (aVar 3) aNil))) aNil)))))))
/- slots of _law_proof: 0 box, 1 many, 2 axioms, 3 lines, 4 k, 5 kind, 6 pairs, 7 formula, 8 rules, 9 pair, 10 line -/
/- slots of _law_hypotheses: 0 proof, 1 rows, 2 line -/
/- slots of _law_tree_size: 0 proof, 1 sizes, 2 line -/
/- slots of _law_true: 0 formula, 1 row -/
def Fm.parts : Fm → List Fm
  | .lt s => [.lt s]
  | .ng p => .ng p :: p.parts
  | .im p q => .im p q :: (p.parts ++ q.parts)
theorem Fm.parts_len : ∀ f : Fm, f.parts.length = f.sz
  | .lt s => rfl
  | .ng p => by show p.parts.length + 1 = p.sz + 1; rw [Fm.parts_len p]
  | .im p q => by show (p.parts ++ q.parts).length + 1 = p.sz + q.sz + 1; rw [List.length_append, Fm.parts_len p, Fm.parts_len q]
def A_parts (L : Nat) : ASp := fun ds M Q _ => ∃ f : Fm, ds = [f.d] ∧ f.sz ≤ L ∧ f.sz ≤ 1000 ∧ ∀ p M', M p = none → Ext M M' → M' p = some (.lst (f.parts.map Fm.d)) → Q (.obj p) M'
theorem p__law_parts (L : Nat) (ds : List D) (M : Sto) (Q : D → Sto → Prop) (Xa) (hl : ds.length = 1) (h : A_parts (L + 1) ds M Q Xa) : a__law_parts (A_parts L) ax0 (Done Q) (startA ["formula", "rows", "part"] ds) M := by
  obtain ⟨f, rfl, hL, hsz, q⟩ := h
  unfold a__law_parts
  cases f with
  | lt s =>
    rw [Fm.d_lt]
    try (simp only [↓jAe,↓jAl,↓jAd,↓jA3,↓jAp,↓jAi,↓jA0,↓e_c,↓jA8,↓jA1,↓jAf,↓jA9,↓jA7,↓jA4,↓jA5,↓jB3,↓jB9,↓jB8,↓jAg,↓jB7,↓jB0,↓jAj,↓jAb,jAm,jBb,jAh,List.set_cons_zero,List.set_cons_succ,List.getElem?_cons_zero,List.getElem?_cons_succ,List.length_cons,List.length_nil,jBt,jC1,List.nil_append,List.cons_append,startA,List.map_cons,List.map_nil,List.replicate_succ,List.replicate_zero,Nat.reduceAdd,Nat.reduceSub,Nat.reduceLeDiff,Nat.zero_add,Bool.not_true,Bool.false_eq_true,if_false,decide_true,true_and, *])
    intro p hp
    skip
    exact q p _ hp (Ext.new hp) up_same
  | ng f =>
    have hz : (Fm.ng f).sz = f.sz + 1 := rfl
    have hpl := Fm.parts_len f
    rw [Fm.d_ng]
    try (simp only [↓jAe,↓jAl,↓jAd,↓jA3,↓jAp,↓jAi,↓jA0,↓e_c,↓jA8,↓jA1,↓jAf,↓jA9,↓jA7,↓jA4,↓jA5,↓jB3,↓jB9,↓jB8,↓jAg,↓jB7,↓jB0,↓jAj,↓jAb,jAm,jBb,znl,jAh,List.set_cons_zero,List.set_cons_succ,List.getElem?_cons_zero,List.getElem?_cons_succ,List.length_cons,List.length_nil,jBt,jC1,List.nil_append,List.cons_append,startA,List.map_cons,List.map_nil,List.replicate_succ,List.replicate_zero,Nat.reduceAdd,Nat.reduceSub,Nat.reduceLeDiff,Nat.zero_add,Bool.not_false,if_true,decide_false,true_and, *])
    intro p hp
    skip
    refine ⟨rfl, f, rfl, by omega, by omega, fun p2 M2 hp2 e2 h2 => ?_⟩
    have h1 := e2 _ _ (up_same (M := M) (a := p) (o := .lst [.tup [.str z_not, f.d]]))
    try (simp only [↓jCr,↓jAb,jAh,List.length_cons,List.length_nil,List.length_map,List.nil_append,List.cons_append,Nat.zero_add, *])
    refine ⟨by omega, fun p3 hp3 => ?_⟩
    try (simp only [*])
    have ex := (Ext.new (mo := .lst [.tup [.str z_not, f.d]]) hp).trans e2
    exact q p3 _ (ex.none hp3) (ex.trans (Ext.new hp3)) up_same
  | im f g =>
    have hz : (Fm.im f g).sz = f.sz + g.sz + 1 := rfl
    have hpl := Fm.parts_len f
    have hpl2 := Fm.parts_len g
    rw [Fm.d_im]
    try (simp only [↓jAe,↓jAl,↓jAd,↓jA3,↓jAp,↓jAi,↓jA0,↓e_c,↓jA8,↓jA1,↓jAf,↓jA9,↓jA7,↓jA4,↓jA5,↓jB3,↓jB9,↓jB8,↓jAg,↓jB7,↓jB0,↓jAj,↓jAb,jAm,jBb,zil,jAh,List.set_cons_zero,List.set_cons_succ,List.getElem?_cons_zero,List.getElem?_cons_succ,List.length_cons,List.length_nil,jBt,jC1,List.nil_append,List.cons_append,startA,List.map_cons,List.map_nil,List.replicate_succ,List.replicate_zero,Nat.reduceAdd,Nat.reduceSub,Nat.reduceLeDiff,Nat.zero_add,Bool.not_false,if_true,decide_false,true_and, *])
    intro p hp
    skip
    refine ⟨rfl, f, rfl, by omega, by omega, fun p2 M2 hp2 e2 h2 => ?_⟩
    have h1 := e2 _ _ (up_same (M := M) (a := p) (o := .lst [.tup [.str z_if, f.d, g.d]]))
    try (simp only [↓jCr,↓jAb,jAh,List.length_cons,List.length_nil,List.length_map,List.nil_append,List.cons_append,Nat.zero_add, *])
    refine ⟨by omega, fun p3 hp3 => ?_⟩
    have ex := (Ext.new (mo := .lst [.tup [.str z_if, f.d, g.d]]) hp).trans e2
    try (simp only [*])
    refine ⟨rfl, g, rfl, by omega, by omega, fun p4 M4 hp4 e4 h4 => ?_⟩
    have h3 := e4 _ _ (up_same (M := M2) (a := p3) (o := .lst (.tup [.str z_if, f.d, g.d] :: f.parts.map Fm.d)))
    try (simp only [↓jCr,↓jAb,jAh,List.length_cons,List.length_map,List.cons_append, *])
    refine ⟨by omega, fun p5 hp5 => ?_⟩
    try (simp only [*])
    have ex2 := (ex.trans (Ext.new (mo := .lst (.tup [.str z_if, f.d, g.d] :: f.parts.map Fm.d)) hp3)).trans e4
    refine q p5 _ (ex2.none hp5) (ex2.trans (Ext.new hp5)) ?_
    rw [up_same]
    show _ = some (MO.lst ((Fm.im f g).d :: (f.parts ++ g.parts).map Fm.d))
    rw [List.map_append]
    rfl
def ifs : Fm → List Fm → Fm
  | f, [] => f
  | f, g :: r => .im f (ifs g r)
def A_if : ASp := fun ds M Q _ => ∃ (p : Addr) (f : Fm) (r : List Fm), ds = [.obj p] ∧ M p = some (.lst ((f :: r).map Fm.d)) ∧ r.length ≤ 1000 ∧ Q (ifs f r).d M
theorem p__law_if (ds : List D) (M : Sto) (Q : D → Sto → Prop) (Xa) (hl : ds.length = 1) (h : A_if ds M Q Xa) : a__law_if ax0 (Done Q) (startA ["rows", "formula", "k"] ds) M := by
  obtain ⟨p, f, r, rfl, hp, hr, q⟩ := h
  unfold a__law_if
  have last : ∃ x, (f :: r)[r.length]? = some x := ⟨_, List.getElem?_eq_getElem (by rw [List.length_cons]; omega)⟩
  obtain ⟨x, hx⟩ := last
  have ix : ∀ (k : Nat) (y : Fm), (f :: r)[k]? = some y → atI (f.d :: r.map Fm.d) (k : Int) = some y.d := fun k y h => by
    rw [atIn]
    show ((f :: r).map Fm.d)[k]? = _
    rw [List.getElem?_map, h]
    rfl
  have hlast := ix r.length x hx
  rw [List.map_cons] at hp
  have e0 : (((r.length + 1 : Nat) : Int) - 1) = (r.length : Int) := by omega
  try (simp only [↓jAe,↓jAp,↓jAi,↓jA0,↓e_c,↓jA8,↓jA1,↓jA9,↓jA7,↓jAt,↓jAg,↓jC8,↓jBd,↓jAs,↓jBe,↓jAb,List.set_cons_zero,List.set_cons_succ,List.getElem?_cons_zero,List.length_cons,List.length_nil,List.length_map,List.nil_append,List.cons_append,startA,List.map_cons,List.map_nil,List.replicate_succ,List.replicate_zero,Nat.reduceAdd,Nat.reduceSub,Nat.zero_add,Int.reduceLE,Int.reduceLT,Int.reducePow,Int.reduceNeg,true_and, *])
  refine ⟨⟨by omega, by omega⟩, ?_⟩
  refine for_run (fun ds env M' => ∃ lo m x2 y ys, ds = rngD lo m ∧ env = [some (.obj p), some (ifs y ys).d, x2] ∧ M' = M ∧ 1 ≤ lo ∧ lo + m = r.length + 1 ∧ (f :: r).drop (r.length + 1 - lo.toNat) = y :: ys) (fun _ _ _ _ => trivial) ?_ ?_ ⟨1, r.length, none, x, [], ?_, rfl, rfl, by omega, by omega, ?_⟩
  · rintro env M' ⟨lo, m, x2, y, ys, hm, rfl, rfl, h1, h2, h3⟩
    have z := rngD_nil hm.symm
    subst z
    rw [show r.length + 1 - lo.toNat = 0 by omega, List.drop_zero] at h3
    injection h3 with h3 h4
    subst h3 h4
    try (simp only [↓jAd,↓jA0,↓jA1,List.getElem?_cons_zero,List.getElem?_cons_succ, *])
  · rintro d r' N env M' ⟨lo, m, x2, y, ys, hm, rfl, rfl, h1, h2, h3⟩ next
    obtain ⟨m, rfl, rfl, rfl⟩ := rngD_cons hm.symm
    obtain ⟨z, hz⟩ : ∃ z, (f :: r)[r.length - lo.toNat]? = some z := ⟨_, List.getElem?_eq_getElem (by rw [List.length_cons]; omega)⟩
    have hix := ix _ z hz
    have e1 : (r.length : Int) - lo = ((r.length - lo.toNat : Nat) : Int) := by omega
    clear hm
    try (simp only [↓jAp,↓jAi,↓jA0,↓e_c,↓jA8,↓jA1,↓jA9,↓jA7,↓jA6,↓jAt,↓jBd,↓jAs,↓jBe,↓jAb,jAh,List.set_cons_zero,List.set_cons_succ,List.getElem?_cons_zero,List.getElem?_cons_succ,List.length_cons,List.length_nil,List.length_map,Nat.reduceAdd,Nat.reduceLeDiff,Nat.zero_add,true_and, *])
    refine next _ _ ⟨lo + 1, m, _, z, y :: ys, rfl, rfl, rfl, by omega, by omega, ?_⟩
    have e2 : r.length + 1 - (lo + 1).toNat = r.length - lo.toNat := by omega
    rw [e2]
    have hk : r.length - lo.toNat < (f :: r).length := by rw [List.length_cons]; omega
    rw [List.drop_eq_getElem_cons hk]
    rw [List.getElem?_eq_getElem hk] at hz
    injection hz with hz
    rw [hz]
    congr 1
    rw [← h3]
    congr 1
    omega
  · rfl
  · rw [show r.length + 1 - (1 : Int).toNat = r.length by show r.length + 1 - 1 = _; omega]
    have hk : r.length < (f :: r).length := by rw [List.length_cons]; omega
    rw [List.drop_eq_getElem_cons hk]
    rw [List.getElem?_eq_getElem hk] at hx
    injection hx with hx
    rw [hx]
    congr 1
    exact List.drop_eq_nil_of_le (by rw [List.length_cons]; omega)
def axs : List Fm :=
  let a := Fm.lt z_a; let b := Fm.lt z_b; let c := Fm.lt z_c; let d := Fm.lt z_d
  [.im a (.im b a), .im (.im c (.im b a)) (.im (.im c b) (.im c a)), .im (.im d (.im b a)) (.im b (.im d a)), .im (.im b a) (.im (.ng a) (.ng b)), .im (.ng (.ng a)) a, .im a (.ng (.ng a))]
theorem if_step (f : Fm) (r : List Fm) {M : Sto} {Q : D → Sto → Prop} (hr : r.length ≤ 1000) (h : ∀ M1, Ext M M1 → Q (ifs f r).d M1) : New (.lst ((f :: r).map Fm.d)) M fun x M1 => Wait 1 A_if [x] M1 Q := fun p hp => ⟨rfl, p, f, r, rfl, up_same, hr, h _ (Ext.new hp)⟩
theorem axs_at (n : Nat) (hn : n < 6) : ∃ f, f ∈ axs ∧ axs[n]? = some f ∧ atI (axs.map Fm.d) (n : Int) = some f.d := by
  have hk : n < axs.length := hn
  refine ⟨axs[n], List.getElem_mem hk, List.getElem?_eq_getElem hk, ?_⟩
  rw [atIn, List.getElem?_map, List.getElem?_eq_getElem hk]
  rfl
theorem ix_obj {M : Sto} {p : Addr} {ds : List D} {i : Int} {d : D} {Q : D → Sto → Prop} (h : M p = some (.lst ds)) (hi : atI ds i = some d) (q : Q d M) : ρIx (.obj p) (.int i) M Q := by
  show lstAt M p fun ds => optAt (atI ds i) fun d => Q d M
  unfold lstAt
  rw [h]
  show optAt (atI ds i) fun d => Q d M
  rw [hi]
  exact q
def A_axiom : ASp := fun ds M Q _ => ∃ k : Int, ds = [.int k] ∧ 1 ≤ k ∧ k ≤ 6 ∧ ∀ f M', f ∈ axs → axs[(k - 1).toNat]? = some f → Ext M M' → Q f.d M'
theorem p__law_axiom (ds : List D) (M : Sto) (Q : D → Sto → Prop) (Xa) (hl : ds.length = 1) (h : A_axiom ds M Q Xa) : a__law_axiom A_if ax0 (Done Q) (startA ["k", "a", "b", "c", "d", "axioms"] ds) M := by
  obtain ⟨k, rfl, h1, h2, q⟩ := h
  unfold a__law_axiom
  try (simp only [↓jAe,↓jAy,↓jAd,↓jAp,↓jAi,↓jA0,↓e_c,↓jA8,↓jA1,↓jA9,↓jA7,↓jA6,↓jA4,↓jA5,↓jAx,↓jAw,↓jBd,↓jAb,jAq,jAh,List.set_cons_zero,List.set_cons_succ,List.getElem?_cons_zero,List.getElem?_cons_succ,List.length_cons,List.length_nil,List.nil_append,List.cons_append,startA,List.map_cons,List.map_nil,List.replicate_succ,List.replicate_zero,Nat.reduceAdd,Nat.reduceSub,Nat.reduceLeDiff,Nat.zero_add,true_and, *])
  refine if_step (.lt z_a) [.lt z_b, .lt z_a] (by decide) fun M1 e1 => ?_
  skip
  refine if_step (.lt z_c) [.lt z_b, .lt z_a] (by decide) fun M2 e2 => ?_
  skip
  refine if_step (.lt z_c) [.lt z_b] (by decide) fun M3 e3 => ?_
  skip
  refine if_step (ifs (.lt z_c) [.lt z_b, .lt z_a]) [ifs (.lt z_c) [.lt z_b], .lt z_c, .lt z_a] (by decide) fun M4 e4 => ?_
  skip
  intro p np
  have ep := Ext.trans (Ext.trans (Ext.trans (Ext.trans e1 e2) e3) e4) (Ext.new (mo := .lst [(ifs (.lt z_a) [.lt z_b, .lt z_a]).d, (ifs (ifs (.lt z_c) [.lt z_b, .lt z_a]) [ifs (.lt z_c) [.lt z_b], .lt z_c, .lt z_a]).d]) np)
  try (simp only [jAq,if_true, *])
  refine if_step (.lt z_d) [.lt z_b, .lt z_a] (by decide) fun M5 e5 => ?_
  skip
  refine if_step (ifs (.lt z_d) [.lt z_b, .lt z_a]) [.lt z_b, .lt z_d, .lt z_a] (by decide) fun M6 e6 => ?_
  have hp6 := e6 _ _ (e5 _ _ (up_same (M := M4) (a := p) (o := .lst [(ifs (.lt z_a) [.lt z_b, .lt z_a]).d, (ifs (ifs (.lt z_c) [.lt z_b, .lt z_a]) [ifs (.lt z_c) [.lt z_b], .lt z_c, .lt z_a]).d])))
  have hp0 : M p = none := (Ext.trans (Ext.trans (Ext.trans e1 e2) e3) e4).none np
  have ex6 : Ext M M6 := (ep.trans e5).trans e6
  try (simp only [List.length_cons,List.length_nil,List.nil_append,List.cons_append,Nat.reduceAdd,Nat.zero_add, *])
  refine ⟨by decide, ?_⟩
  generalize hl3 : (MO.lst [(ifs (Fm.lt z_a) [Fm.lt z_b, Fm.lt z_a]).d, (ifs (ifs (Fm.lt z_c) [Fm.lt z_b, Fm.lt z_a]) [ifs (Fm.lt z_c) [Fm.lt z_b], Fm.lt z_c, Fm.lt z_a]).d, (ifs (ifs (Fm.lt z_d) [Fm.lt z_b, Fm.lt z_a]) [Fm.lt z_b, Fm.lt z_d, Fm.lt z_a]).d]) = L3
  have ex7 : Ext M (up M6 p L3) := Ext.upd hp0 ex6
  have at7 : (up M6 p L3) p = some L3 := up_same
  generalize up M6 p L3 = M7 at ex7 at7 ⊢
  clear ex6 hp6 e6 e5 ep np e1 e2 e3 e4
  refine if_step (.lt z_b) [.lt z_a] (by decide) fun M8 e8 => ?_
  skip
  refine if_step (ifs (.lt z_b) [.lt z_a]) [.ng (.lt z_a), .ng (.lt z_b)] (by decide) fun M9 e9 => ?_
  have at9 := e9 _ _ (e8 _ _ at7)
  have ex9 := (ex7.trans e8).trans e9
  subst hl3
  clear at7
  try (simp only [List.length_cons,List.length_nil,List.nil_append,List.cons_append,Nat.reduceAdd,Nat.zero_add, *])
  refine ⟨by decide, ?_⟩
  generalize hl4 : (MO.lst [(ifs (Fm.lt z_a) [Fm.lt z_b, Fm.lt z_a]).d, (ifs (ifs (Fm.lt z_c) [Fm.lt z_b, Fm.lt z_a]) [ifs (Fm.lt z_c) [Fm.lt z_b], Fm.lt z_c, Fm.lt z_a]).d, (ifs (ifs (Fm.lt z_d) [Fm.lt z_b, Fm.lt z_a]) [Fm.lt z_b, Fm.lt z_d, Fm.lt z_a]).d, (ifs (ifs (Fm.lt z_b) [Fm.lt z_a]) [(Fm.lt z_a).ng, (Fm.lt z_b).ng]).d]) = L4
  have ex10 : Ext M (up M9 p L4) := Ext.upd hp0 ex9
  have at10 : (up M9 p L4) p = some L4 := up_same
  generalize up M9 p L4 = M10 at ex10 at10 ⊢
  clear ex9 at9 e8 e9 ex7
  refine if_step (.ng (.ng (.lt z_a))) [.lt z_a] (by decide) fun M11 e11 => ?_
  skip
  refine if_step (.lt z_a) [.ng (.ng (.lt z_a))] (by decide) fun M12 e12 => ?_
  skip
  intro p2 n2
  have at12 := e12 _ _ (e11 _ _ at10)
  have ex12 := (ex10.trans e11).trans e12
  have ne2 := fresh_ne n2 at12
  subst hl4
  clear at10
  try (simp only [↓jCr,↓jAb,jAq,jAh,List.length_cons,List.length_nil,List.nil_append,List.cons_append,Nat.reduceAdd,Nat.reduceLeDiff,Nat.zero_add,if_true,if_false,true_and, *])
  intro p3 n3
  have ex13 := (ex12.trans (Ext.new (mo := .lst [(ifs (Fm.lt z_a).ng.ng [Fm.lt z_a]).d, (ifs (Fm.lt z_a) [(Fm.lt z_a).ng.ng]).d]) n2)).trans (Ext.new (mo := .lst (axs.map Fm.d)) n3)
  obtain ⟨f, hf1, hf2, hf3⟩ := axs_at (k - 1).toNat (by omega)
  have e : (((k - 1).toNat : Nat) : Int) = k - 1 := by omega
  rw [e] at hf3
  exact ix_obj (ds := axs.map Fm.d) up_same hf3 (q f _ hf1 hf2 ex13)

theorem Fm.Small.ng {p : Fm} (h : (Fm.ng p).Small) : p.Small := by
  have h1 : max 0 (max p.py.depth 0) + 1 ≤ 64 := h.1
  have h2 : (PyData.strOk z_not && (p.py.canLay0 && true)) = true := h.2
  rw [Bool.and_true, Bool.and_eq_true] at h2
  exact ⟨by omega, h2.2⟩
theorem Fm.Small.im {p q : Fm} (h : (Fm.im p q).Small) : p.Small ∧ q.Small := by
  have h1 : max 0 (max p.py.depth (max q.py.depth 0)) + 1 ≤ 64 := h.1
  have h2 : (PyData.strOk z_if && (p.py.canLay0 && (q.py.canLay0 && true))) = true := h.2
  rw [Bool.and_true, Bool.and_eq_true, Bool.and_eq_true] at h2
  exact ⟨⟨by omega, h2.2.1⟩, ⟨by omega, h2.2.2⟩⟩
abbrev Tb := List (Str × Fm)
def TbD (tb : Tb) : List (Key × D) := tb.map fun z => (.inr z.1, z.2.d)
def look (tb : Tb) (s : Str) : Option Fm := (tb.find? fun z => decide (z.1 = s)).map (·.2)
theorem valA_tb (s : Str) : ∀ tb : Tb, valA (TbD tb) (.inr s) = (look tb s).map Fm.d
  | [] => rfl
  | (a, f) :: r => by
    have ih := valA_tb s r
    by_cases h : a = s
    · subst h
      show valA ((.inr a, f.d) :: TbD r) (.inr a) = _
      rw [valA_pos]
      unfold look
      rw [List.find?_cons_of_pos (by simp)]
      rfl
    · show valA ((.inr a, f.d) :: TbD r) (.inr s) = _
      rw [valA_neg (fun z => h (Sum.inr.inj z)), ih]
      unfold look
      rw [List.find?_cons_of_neg (by simpa using h)]
theorem TbD_app (a b : Tb) : TbD (a ++ b) = TbD a ++ TbD b := List.map_append
theorem TbD_len (tb : Tb) : (TbD tb).length = tb.length := List.length_map _
theorem putA_new (tb : Tb) (s : Str) (f : Fm) (h : look tb s = none) : putA (TbD tb) (.inr s) f.d = TbD (tb ++ [(s, f)]) := by
  have z := valA_any (.inr s) (TbD tb)
  rw [valA_tb, h] at z
  unfold putA
  rw [z, if_neg (by simp), TbD_app]
  rfl
theorem look_mem {tb : Tb} {s : Str} {g : Fm} (h : look tb s = some g) : (s, g) ∈ tb := by
  unfold look at h
  obtain ⟨z, h1, h2⟩ := Option.map_eq_some_iff.mp h
  have h3 := List.find?_some h1
  have h4 := List.mem_of_find?_eq_some h1
  obtain ⟨a, b⟩ := z
  have h5 : a = s := by simpa using h3
  have h6 : b = g := h2
  subst h5 h6
  exact h4
def mt : Fm → Fm → Tb → Bool × Tb
  | .lt s, f, tb => match look tb s with
    | some g => (decide (g = f), tb)
    | none => (true, tb ++ [(s, f)])
  | .ng p, .ng q, tb => mt p q tb
  | .im p q, .im p' q', tb => if (mt p p' tb).1 = true then mt q q' (mt p p' tb).2 else (false, (mt p p' tb).2)
  | .ng _, .lt _, tb => (false, tb)
  | .ng _, .im _ _, tb => (false, tb)
  | .im _ _, .lt _, tb => (false, tb)
  | .im _ _, .ng _, tb => (false, tb)
theorem mt_len : ∀ (p f : Fm) (tb : Tb), (mt p f tb).2.length ≤ tb.length + p.sz
  | .lt s, f, tb => by
    unfold mt
    split
    · exact Nat.le_add_right _ _
    · rw [List.length_append]; exact Nat.le_refl _
  | .ng p, .ng q, tb => Nat.le_succ_of_le (mt_len p q tb)
  | .im p q, .im p' q', tb => by
    have h1 := mt_len p p' tb
    have h2 := mt_len q q' (mt p p' tb).2
    unfold mt
    show _ ≤ tb.length + (p.sz + q.sz + 1)
    split
    · omega
    · show (mt p p' tb).2.length ≤ _; omega
  | .ng _, .lt _, tb => Nat.le_add_right _ _
  | .ng _, .im _ _, tb => Nat.le_add_right _ _
  | .im _ _, .lt _, tb => Nat.le_add_right _ _
  | .im _ _, .ng _, tb => Nat.le_add_right _ _
theorem mt_small : ∀ (p f : Fm) (tb : Tb), f.Small → (∀ z ∈ tb, z.2.Small) → ∀ z ∈ (mt p f tb).2, z.2.Small
  | .lt s, f, tb, hf, ht => by
    unfold mt
    split
    · exact ht
    · intro z hz
      rcases List.mem_append.mp hz with h | h
      · exact ht z h
      · rw [List.mem_singleton.mp h]; exact hf
  | .ng p, .ng q, tb, hf, ht => mt_small p q tb hf.ng ht
  | .im p q, .im p' q', tb, hf, ht => by
    have h1 := mt_small p p' tb hf.im.1 ht
    unfold mt
    split
    · exact mt_small q q' _ hf.im.2 h1
    · exact h1
  | .ng _, .lt _, tb, hf, ht => ht
  | .ng _, .im _ _, tb, hf, ht => ht
  | .im _ _, .lt _, tb, hf, ht => ht
  | .im _ _, .ng _, tb, hf, ht => ht
theorem cast2 : ((2 : Nat) : Int) = 2 := rfl
theorem cast3 : ((3 : Nat) : Int) = 3 := rfl
def A_matches (L : Nat) : ASp := fun ds M Q _ => ∃ (p f : Fm) (t : Addr) (tb : Tb), ds = [p.d, f.d, .obj t] ∧ p.sz ≤ L ∧ M t = some (.dic (TbD tb)) ∧ tb.length + p.sz ≤ 1000 ∧ f.Small ∧ (∀ z ∈ tb, z.2.Small) ∧
  ∀ M', M' t = some (.dic (TbD (mt p f tb).2)) → ExtB t M M' → Q (.bl (mt p f tb).1) M'
theorem p__law_matches (L : Nat) (ds : List D) (M : Sto) (Q : D → Sto → Prop) (Xa) (hl : ds.length = 3) (h : A_matches (L + 1) ds M Q Xa) : a__law_matches (A_matches L) ax0 (Done Q) (startA ["pattern", "formula", "found", "k"] ds) M := by
  obtain ⟨p, f, t, tb, rfl, hL, ht, hlen, hf, hts, q⟩ := h
  unfold a__law_matches
  have tl := TbD_len tb
  have c2 := cast2
  have c3 := cast3
  have r1 : rngD 1 1 = [.int 1] := rfl
  have r2 : rngD 1 2 = [.int 1, .int 2] := rfl
  cases p with
  | lt s =>
    have hv := valA_tb s tb
    rw [Fm.d_lt]
    cases hlk : look tb s with
    | some g =>
      have hg : g.Small := hts _ (look_mem hlk)
      rw [hlk] at hv
      have hv' : valA (TbD tb) (.inr s) = some g.d := hv
      have hq : ∀ M', M' t = some (.dic (TbD tb)) → ExtB t M M' → Q (.bl (decide (g = f))) M' := by
        intro M' h1 h2
        have z := q M'
        unfold mt at z
        rw [hlk] at z
        exact z h1 h2
      clear q hv
      have he := fun M Q => e_eqF (n := false) (M := M) (Q := Q) hg hf
      try (simp only [↓jAe,↓jAl,↓jAd,↓jA3,↓jAi,↓jBp,↓jA0,↓e_c,↓jA8,↓jA1,↓jAf,↓jAn,↓jAv,↓jA9,↓jA7,↓jA5,↓jAt,↓jAg,↓jC8,↓jAo,↓jAj,↓jBr,↓jAk,↓jCe,↓jB1,jC0,jAq,jAm,jAr,jAh,List.set_cons_zero,List.set_cons_succ,List.getElem?_cons_zero,List.getElem?_cons_succ,List.length_cons,List.length_nil,jBt,jC1,List.nil_append,List.cons_append,startA,List.map_cons,List.map_nil,List.replicate_succ,List.replicate_zero,Nat.reduceAdd,Nat.reduceSub,Nat.zero_add,Int.reduceLE,Int.reduceLT,Int.reduceToNat,Int.reducePow,Int.reduceNeg,Int.reduceSub,Option.isSome_some,Bool.not_true,Bool.not_eq_eq_eq_not,Bool.false_eq_true,Bool.true_eq_false,if_true,if_false,decide_true,true_and,and_self, *])
      exact hq M ht (ExtB.refl _ _)
    | none =>
      rw [hlk] at hv
      have hv' : valA (TbD tb) (.inr s) = none := hv
      have hq : ∀ M', M' t = some (.dic (TbD (tb ++ [(s, f)]))) → ExtB t M M' → Q (.bl true) M' := by
        intro M' h1 h2
        have z := q M'
        unfold mt at z
        rw [hlk] at z
        exact z h1 h2
      have hp := putA_new tb s f hlk
      have hv2 : valA (putA (TbD tb) (.inr s) f.d) (.inr s) = some f.d := by rw [valA_put, if_pos rfl]
      clear q hv
      have he := fun M Q => e_eqF (n := false) (M := M) (Q := Q) hf hf
      rw [hp] at hv2
      try (simp only [↓jAe,↓jAl,↓jAd,↓jA3,↓jAi,↓jBp,↓jA0,↓e_c,↓jA8,↓jA1,↓jBc,↓jAf,↓jAn,↓jAv,↓jA9,↓jA7,↓jA5,↓jAt,↓jAg,↓jC8,↓jAo,↓jAj,↓jBr,↓jAk,↓jCe,↓jB1,jC0,jAq,jAm,jAr,jAh,List.set_cons_zero,List.set_cons_succ,List.getElem?_cons_zero,List.getElem?_cons_succ,List.length_cons,List.length_nil,jBt,jC1,List.nil_append,List.cons_append,startA,List.map_cons,List.map_nil,List.replicate_succ,List.replicate_zero,Nat.reduceAdd,Nat.reduceSub,Nat.zero_add,Int.reduceLE,Int.reduceLT,Int.reduceToNat,Int.reducePow,Int.reduceNeg,Int.reduceSub,Option.isSome_none,Bool.not_true,Bool.not_eq_eq_eq_not,Bool.false_eq_true,if_true,if_false,decide_true,true_and,and_self, *])
      exact ⟨by omega, hq _ up_same ExtB.upd⟩
  | ng p =>
    rw [Fm.d_ng]
    have hz : (Fm.ng p).sz = p.sz + 1 := rfl
    cases f with
    | lt s =>
      rw [Fm.d_lt]
      have hq := q M ht (ExtB.refl _ _)
      clear q
      try (simp only [↓jAe,↓jAl,↓jAd,↓jA3,↓jAi,↓jBp,↓jA0,↓e_c,↓jA8,↓jA1,↓jAf,↓jAn,↓jAv,↓jA9,↓jA7,↓jA5,↓jAt,↓jAg,↓jC8,↓jAo,↓jB0,↓jAj,↓jBr,↓jAk,↓jCe,↓jB1,jAq,jAm,jAr,znl,jAh,List.set_cons_zero,List.set_cons_succ,List.getElem?_cons_zero,List.getElem?_cons_succ,List.length_cons,List.length_nil,jBt,jC1,List.nil_append,List.cons_append,startA,List.map_cons,List.map_nil,List.replicate_succ,List.replicate_zero,Nat.reduceAdd,Nat.reduceSub,Nat.zero_add,Int.reduceLE,Int.reduceLT,Int.reduceToNat,Int.reducePow,Int.reduceNeg,Int.reduceSub,Bool.not_true,Bool.not_false,Bool.not_eq_eq_eq_not,Bool.false_eq_true,if_true,if_false,decide_false,true_and,and_self, *])
      exact hq
    | im a b =>
      rw [Fm.d_im]
      have hq := q M ht (ExtB.refl _ _)
      clear q
      try (simp only [↓jAe,↓jAl,↓jAd,↓jA3,↓jAi,↓jBp,↓jA0,↓e_c,↓jA8,↓jA1,↓jAf,↓jAn,↓jAv,↓jA9,↓jA7,↓jA5,↓jAt,↓jAg,↓jC8,↓jAo,↓jB0,↓jAj,↓jBr,↓jAk,↓jCe,↓jB1,jAq,jAm,jAr,znl,zni,jAh,List.set_cons_zero,List.set_cons_succ,List.getElem?_cons_zero,List.getElem?_cons_succ,List.length_cons,List.length_nil,jBt,jC1,List.nil_append,List.cons_append,startA,List.map_cons,List.map_nil,List.replicate_succ,List.replicate_zero,Nat.reduceAdd,Nat.reduceSub,Nat.zero_add,Int.reduceLE,Int.reduceLT,Int.reduceToNat,Int.reducePow,Int.reduceNeg,Int.reduceSub,Bool.not_true,Bool.not_false,Bool.not_eq_eq_eq_not,Bool.false_eq_true,if_true,if_false,decide_false,true_and,and_self, *])
      exact hq
    | ng g =>
      rw [Fm.d_ng]
      try (simp only [↓jAe,↓jAl,↓jAd,↓jA3,↓jAi,↓jBp,↓jA0,↓e_c,↓jA8,↓jA1,↓jAf,↓jAn,↓jAv,↓jA9,↓jA7,↓jA5,↓jAt,↓jAg,↓jC8,↓jAo,↓jB0,↓jAj,↓jBr,↓jAk,↓jCe,↓jB1,jAq,jAm,jAr,znl,jAh,List.set_cons_zero,List.set_cons_succ,List.getElem?_cons_zero,List.getElem?_cons_succ,List.length_cons,List.length_nil,jBt,jC1,List.nil_append,List.cons_append,startA,List.map_cons,List.map_nil,List.replicate_succ,List.replicate_zero,Nat.reduceAdd,Nat.reduceSub,Nat.zero_add,Int.reduceLE,Int.reduceLT,Int.reduceToNat,Int.reducePow,Int.reduceNeg,Int.reduceSub,Bool.not_true,Bool.not_eq_eq_eq_not,Bool.false_eq_true,if_true,if_false,decide_true,decide_false,true_and,and_self, *])
      refine ⟨rfl, p, g, t, tb, rfl, by omega, ht, by omega, hf.ng, hts, fun M1 h1 e1 => ?_⟩
      have hq : Q (.bl (mt p g tb).1) M1 := q M1 h1 e1
      clear q
      cases hb : (mt p g tb).1 with
      | true =>
        rw [hb] at hq
        try (simp only [↓jB2,Bool.true_eq_false,if_false, *])
      | false =>
        rw [hb] at hq
        try (simp only [↓jB2,if_true, *])
  | im p p2 =>
    rw [Fm.d_im]
    have hz : (Fm.im p p2).sz = p.sz + p2.sz + 1 := rfl
    cases f with
    | lt s =>
      rw [Fm.d_lt]
      have hq := q M ht (ExtB.refl _ _)
      clear q
      try (simp only [↓jAe,↓jAl,↓jAd,↓jA3,↓jAi,↓jBp,↓jA0,↓e_c,↓jA8,↓jA1,↓jAf,↓jAn,↓jAv,↓jA9,↓jA7,↓jA5,↓jAt,↓jAg,↓jC8,↓jAo,↓jB0,↓jAj,↓jBr,↓jAk,↓jCe,↓jB1,jAq,jAm,jAr,jBf,zil,jAh,List.set_cons_zero,List.set_cons_succ,List.getElem?_cons_zero,List.getElem?_cons_succ,List.length_cons,List.length_nil,jBt,jC1,List.nil_append,List.cons_append,startA,List.map_cons,List.map_nil,List.replicate_succ,List.replicate_zero,Nat.reduceAdd,Nat.reduceSub,Nat.zero_add,Int.reduceLE,Int.reduceLT,Int.reduceToNat,Int.reducePow,Int.reduceNeg,Int.reduceSub,Bool.not_true,Bool.not_false,Bool.not_eq_eq_eq_not,Bool.false_eq_true,if_true,if_false,decide_false,true_and,and_self, *])
      exact hq
    | ng a =>
      rw [Fm.d_ng]
      have hq := q M ht (ExtB.refl _ _)
      clear q
      try (simp only [↓jAe,↓jAl,↓jAd,↓jA3,↓jAi,↓jBp,↓jA0,↓e_c,↓jA8,↓jA1,↓jAf,↓jAn,↓jAv,↓jA9,↓jA7,↓jA5,↓jAt,↓jAg,↓jC8,↓jAo,↓jB0,↓jAj,↓jBr,↓jAk,↓jCe,↓jB1,jAq,jAm,jAr,jBf,zil,zin,jAh,List.set_cons_zero,List.set_cons_succ,List.getElem?_cons_zero,List.getElem?_cons_succ,List.length_cons,List.length_nil,jBt,jC1,List.nil_append,List.cons_append,startA,List.map_cons,List.map_nil,List.replicate_succ,List.replicate_zero,Nat.reduceAdd,Nat.reduceSub,Nat.zero_add,Int.reduceLE,Int.reduceLT,Int.reduceToNat,Int.reducePow,Int.reduceNeg,Int.reduceSub,Bool.not_true,Bool.not_false,Bool.not_eq_eq_eq_not,Bool.false_eq_true,if_true,if_false,decide_false,true_and,and_self, *])
      exact hq
    | im g g2 =>
      rw [Fm.d_im]
      try (simp only [↓jAe,↓jAl,↓jAd,↓jA3,↓jAi,↓jBp,↓jA0,↓e_c,↓jA8,↓jA1,↓jAf,↓jAn,↓jAv,↓jA9,↓jA7,↓jA5,↓jAt,↓jAg,↓jC8,↓jAo,↓jB0,↓jAj,↓jBr,↓jAk,↓jCe,↓jB1,jAq,jAm,jAr,jBf,zil,jAh,List.set_cons_zero,List.set_cons_succ,List.getElem?_cons_zero,List.getElem?_cons_succ,List.length_cons,List.length_nil,jBt,jC1,List.nil_append,List.cons_append,startA,List.map_cons,List.map_nil,List.replicate_succ,List.replicate_zero,Nat.reduceAdd,Nat.reduceSub,Nat.zero_add,Int.reduceLE,Int.reduceLT,Int.reduceToNat,Int.reducePow,Int.reduceNeg,Int.reduceSub,Bool.not_true,Bool.not_eq_eq_eq_not,Bool.false_eq_true,if_true,if_false,decide_true,decide_false,true_and,and_self, *])
      refine ⟨rfl, p, g, t, tb, rfl, by omega, ht, by omega, hf.im.1, hts, fun M1 h1 e1 => ?_⟩
      have hm : mt (.im p p2) (.im g g2) tb = if (mt p g tb).1 = true then mt p2 g2 (mt p g tb).2 else (false, (mt p g tb).2) := rfl
      rw [hm] at q
      clear hm
      have ml := mt_len p g tb
      cases hb : (mt p g tb).1 with
      | true =>
        rw [hb, if_pos rfl] at q
        try (simp only [↓jB2,Bool.true_eq_false,if_false, *])
        refine ⟨rfl, p2, g2, t, _, rfl, by omega, h1, by omega, hf.im.2, mt_small p g tb hf.im.1 hts, fun M2 h2 e2 => ?_⟩
        have hq : Q (.bl (mt p2 g2 (mt p g tb).2).1) M2 := q M2 h2 (e1.trans e2)
        clear q
        cases hb2 : (mt p2 g2 (mt p g tb).2).1 with
        | true =>
          rw [hb2] at hq
          try (simp only [↓jB2,Bool.true_eq_false,if_false, *])
        | false =>
          rw [hb2] at hq
          try (simp only [↓jB2,if_true, *])
      | false =>
        rw [hb, if_neg Bool.false_ne_true] at q
        have hq := q M1 h1 e1
        clear q
        try (simp only [↓jB2,if_true, *])
def Fm.tr (row : List Str) : Fm → Bool
  | .lt s => row.any fun y => decide (y = s)
  | .ng p => !p.tr row
  | .im p q => q.tr row || !p.tr row
inductive Wy where
  | ax (k : Int) | hy | dt (i j : Int)
  deriving DecidableEq
def Wy.d : Wy → D
  | .ax k => .tup [.str z_axiom, .int k]
  | .hy => .tup [.str z_hypothesis]
  | .dt i j => .tup [.str z_detach, .int i, .int j]
abbrev Ln := Fm × Wy
def lnD (l : Ln) : D := .tup [l.1.d, l.2.d]
theorem zad : (z_axiom = z_detach) = False := eq_false (by decide +kernel)
theorem at_ln {ls : List Ln} {k : Nat} {l : Ln} (h : ls[k]? = some l) : atI (ls.map lnD) (k : Int) = some (lnD l) := by rw [atIn, List.getElem?_map, h]; rfl
theorem at_lnI {ls : List Ln} {k : Int} {l : Ln} (h0 : 0 ≤ k) (h : ls[k.toNat]? = some l) : atI (ls.map lnD) k = some (lnD l) := by
  have z := at_ln h
  have e : ((k.toNat : Nat) : Int) = k := by omega
  rw [e] at z
  exact z
def prD (z : Nat × Nat) : D := .tup [.int z.1, .int z.2]
def PrOk (ls : List Ln) (z : Nat × Nat) : Prop := ∃ c q w u, ls[z.1]? = some (.im c q, w) ∧ ls[z.2]? = some (c, u)
def A_pairs : ASp := fun ds M Q _ => ∃ (p : Addr) (ls : List Ln), ds = [.obj p] ∧ M p = some (.lst (ls.map lnD)) ∧ ls.length ≤ 100 ∧ (∀ l ∈ ls, l.1.Small) ∧ ∀ a (ps : List (Nat × Nat)) M', M a = none → Ext M M' → M' a = some (.lst (ps.map prD)) → (∀ z ∈ ps, PrOk ls z) → ps.length ≤ 10000 → Q (.obj a) M'
theorem p__law_pairs (ds : List D) (M : Sto) (Q : D → Sto → Prop) (Xa) (hl : ds.length = 1) (h : A_pairs ds M Q Xa) : a__law_pairs ax0 (Done Q) (startA ["lines", "pairs", "i", "j"] ds) M := by
  obtain ⟨p, ls, rfl, hp, hlen, hsm, q⟩ := h
  unfold a__law_pairs
  try (simp only [↓jAe,↓jAp,↓jAi,↓jA0,↓jA1,↓jA9,↓jA7,↓jA4,↓jAt,↓jAg,↓jBh,↓jBe,↓jAb,jAh,List.set_cons_zero,List.set_cons_succ,List.getElem?_cons_zero,List.length_cons,List.length_nil,List.nil_append,List.cons_append,startA,List.map_cons,List.map_nil,List.replicate_succ,List.replicate_zero,Nat.reduceAdd,Nat.reduceSub,Nat.reduceLeDiff,Nat.zero_add,Int.reducePow,Int.reduceNeg,true_and, *])
  intro a na
  have hpa := fresh_ne na hp
  try (simp only [jAq,List.length_map,Int.reduceNeg,if_false, *])
  refine ⟨by omega, by omega, ?_⟩
  refine for_run (fun ds env M' => ∃ (i m : Nat) (x2 x3 : Option D) (ps : List (Nat × Nat)), ds = rngD (i : Int) m ∧ i + m = ls.length ∧ env = [some (.obj p), some (.obj a), x2, x3] ∧ M' p = some (.lst (ls.map lnD)) ∧ M' a = some (.lst (ps.map prD)) ∧ Ext M M' ∧ (∀ z ∈ ps, PrOk ls z) ∧ ps.length ≤ i * 100) (fun _ _ _ _ => trivial) ?_ ?_ ⟨0, ls.length, none, none, [], rfl, by omega, rfl, ?_, up_same, Ext.new na, (fun z h => nomatch h), Nat.le_refl _⟩
  · rintro env M' ⟨i, m, x2, x3, ps, hm, hi, rfl, h1, h2, he, hok, hps⟩
    try (simp only [↓jAd,↓jA0,↓jA1,List.getElem?_cons_zero,List.getElem?_cons_succ, *])
    exact q a ps M' na he h2 hok (by omega)
  · rintro d r N env M' ⟨i, m, x2, x3, ps, hm, hi, rfl, h1, h2, he, hok, hps⟩ next
    obtain ⟨m, rfl, rfl, rfl⟩ := rngD_cons hm.symm
    obtain ⟨⟨f, w⟩, hf⟩ : ∃ l, ls[i]? = some l := ⟨_, List.getElem?_eq_getElem (by omega)⟩
    have hat := at_ln hf
    have hd : lnD (f, w) = .tup [f.d, w.d] := rfl
    clear hp hm
    have skip : N [some (.obj p), some (.obj a), some (.int i), x3] M' := next _ _ ⟨i + 1, m, _, _, ps, by rw [show ((i : Int) + 1) = ((i + 1 : Nat) : Int) by omega], by omega, rfl, h1, h2, he, hok, by omega⟩
    cases f with
    | lt s =>
      have hfd := Fm.d_lt s
      try (simp only [↓jAl,↓jA3,↓jAi,↓jA0,↓e_c,↓jA8,↓jA1,↓jAf,↓jA9,↓jA7,↓jAt,↓jAg,↓jBh,↓jAo,↓jAj,↓jAs,↓jBe,↓jAb,jAm,zli,List.set_cons_zero,List.set_cons_succ,List.getElem?_cons_zero,List.getElem?_cons_succ,List.length_map,Int.reducePow,Int.reduceNeg,Bool.false_eq_true,if_false,decide_false, *])
    | ng s =>
      have hfd := Fm.d_ng s
      try (simp only [↓jAl,↓jA3,↓jAi,↓jA0,↓e_c,↓jA8,↓jA1,↓jAf,↓jA9,↓jA7,↓jAt,↓jAg,↓jBh,↓jAo,↓jAj,↓jAs,↓jBe,↓jAb,jAm,zni,List.set_cons_zero,List.set_cons_succ,List.getElem?_cons_zero,List.getElem?_cons_succ,List.length_map,Int.reducePow,Int.reduceNeg,Bool.false_eq_true,if_false,decide_false, *])
    | im c b =>
      have hfd := Fm.d_im c b
      have hc : c.Small := (hsm _ (List.mem_of_getElem? hf)).im.1
      clear skip
      try (simp only [↓jAl,↓jA3,↓jAi,↓jA0,↓e_c,↓jA8,↓jA1,↓jAf,↓jA9,↓jA7,↓jAt,↓jAg,↓jBh,↓jAo,↓jAj,↓jAs,↓jBe,↓jAb,jAm,List.set_cons_zero,List.set_cons_succ,List.getElem?_cons_zero,List.getElem?_cons_succ,List.length_map,Int.reducePow,Int.reduceNeg,if_true,decide_true, *])
      refine ⟨by omega, by omega, ?_⟩
      refine for_run (fun ds env M' => ∃ (j m : Nat) (x3 : Option D) (ps : List (Nat × Nat)), ds = rngD (j : Int) m ∧ j + m = ls.length ∧ env = [some (.obj p), some (.obj a), some (.int i), x3] ∧ M' p = some (.lst (ls.map lnD)) ∧ M' a = some (.lst (ps.map prD)) ∧ Ext M M' ∧ (∀ z ∈ ps, PrOk ls z) ∧ ps.length ≤ i * 100 + j) (fun _ _ _ _ => trivial) ?_ ?_ ⟨0, ls.length, x3, ps, rfl, by omega, rfl, h1, h2, he, hok, by omega⟩
      · rintro env M2 ⟨j, m2, x3, ps, hm, hj, rfl, h1, h2, he, hok, hps⟩
        have z := rngD_nil hm.symm
        exact next _ _ ⟨i + 1, m, _, _, ps, by rw [show ((i : Int) + 1) = ((i + 1 : Nat) : Int) by omega], by omega, rfl, h1, h2, he, hok, by omega⟩
      · rintro d r N2 env M2 ⟨j, m2, x3, ps, hm, hj, rfl, h1, h2, he, hok, hps⟩ next2
        obtain ⟨m2, rfl, rfl, rfl⟩ := rngD_cons hm.symm
        obtain ⟨⟨g, u⟩, hg⟩ : ∃ l, ls[j]? = some l := ⟨_, List.getElem?_eq_getElem (by omega)⟩
        have hgs : g.Small := hsm _ (List.mem_of_getElem? hg)
        have hat2 := at_ln hg
        have hd2 : lnD (g, u) = .tup [g.d, u.d] := rfl
        have heq := fun M Q => e_eqF (n := false) (M := M) (Q := Q) hgs hc
        clear hm
        rename_i hp0 _ _
        clear hp0
        try (simp only [↓jAl,↓jAy,↓jA3,↓jAi,↓jA0,↓e_c,↓jA8,↓jA1,↓jAf,↓jA9,↓jA7,↓jA6,↓jAx,↓jAw,↓jAj,↓jAs,↓jAb,jAm,jAr,jAh,List.set_cons_zero,List.set_cons_succ,List.getElem?_cons_zero,List.getElem?_cons_succ,List.length_cons,List.length_nil,List.length_map,Nat.reduceAdd,Nat.reduceLeDiff,Nat.zero_add,Bool.false_eq_true,if_false,decide_eq_true_eq,true_and, *])
        by_cases hgc : g = c
        · subst hgc
          try (simp only [if_true, *])
          refine ⟨by omega, next2 _ _ ⟨j + 1, m2, _, ps ++ [(i, j)], by rw [show ((j : Int) + 1) = ((j + 1 : Nat) : Int) by omega], by omega, rfl, by rw [up_ne hpa]; exact h1, ?_, Ext.upd na he, fun z hz => ?_, ?_⟩⟩
          · rw [up_same, List.map_append]
            rfl
          · rcases List.mem_append.mp hz with h | h
            · exact hok z h
            · rw [List.mem_singleton.mp h]
              exact ⟨g, b, w, u, hf, hg⟩
          · rw [List.length_append, List.length_singleton]
            omega
        · try (simp only [if_false, *])
          exact next2 _ _ ⟨j + 1, m2, _, ps, by rw [show ((j : Int) + 1) = ((j + 1 : Nat) : Int) by omega], by omega, rfl, h1, h2, he, hok, by omega⟩
  · rw [up_ne hpa]
    exact hp

def Fm.Tiny (f : Fm) : Prop := f.py.depth ≤ 60 ∧ f.py.canLay0 = true
theorem Fm.Tiny.small {f : Fm} (h : f.Tiny) : f.Small := ⟨by have := h.1; omega, h.2⟩
def hyStep (acc : List Fm) (l : Ln) : List Fm := if l.2 = .hy ∧ l.1 ∉ acc then acc ++ [l.1] else acc
def hys (ls : List Ln) : List Fm := ls.foldl hyStep []
theorem L8_ok {s : Str} (h : L8 s) : PyData.strOk s = true := by
  have all : ∀ s ∈ names8, PyData.strOk s = true := by decide +kernel
  exact all s (L8_names h)
def Lg (f : Fm) : Prop := f.sz ≤ 120 ∧ f.py.depth ≤ 12 ∧ f.All L8
def G9 (f : Fm) : Prop := f.sz ≤ 9 ∧ f.All L8
theorem Lg.tiny {f : Fm} (h : Lg f) : f.Tiny := ⟨by have := h.2.1; omega, Fm.lay (fun s h => L8_ok h) f h.2.2⟩
theorem Lg.small {f : Fm} (h : Lg f) : f.Small := h.tiny.small
theorem Lg.im {p q : Fm} (h : Lg (.im p q)) : Lg p ∧ Lg q := by
  have h1 : p.sz + q.sz + 1 ≤ 120 := h.1
  have h2 : max 0 (max p.py.depth (max q.py.depth 0)) + 1 ≤ 12 := h.2.1
  exact ⟨⟨by omega, by omega, h.2.2.1⟩, ⟨by omega, by omega, h.2.2.2⟩⟩
theorem G9.lg {f : Fm} (h : G9 f) : Lg f := ⟨by have := h.1; omega, by have := Fm.pdep f; have := h.1; omega, h.2⟩
theorem G9.small {f : Fm} (h : G9 f) : f.Small := h.lg.small
theorem sub_sz9 {σ : Str → Fm} (h : ∀ s, (σ s).sz ≤ 9) : ∀ f : Fm, (f.sub σ).sz ≤ 9 * f.sz
  | .lt s => h s
  | .ng p => by have z := sub_sz9 h p; show (p.sub σ).sz + 1 ≤ 9 * (p.sz + 1); omega
  | .im p q => by have z := sub_sz9 h p; have z2 := sub_sz9 h q; show (p.sub σ).sz + (q.sub σ).sz + 1 ≤ 9 * (p.sz + q.sz + 1); omega
theorem sub_dep9 {σ : Str → Fm} (h : ∀ s, (σ s).py.depth ≤ 9) : ∀ f : Fm, (f.sub σ).py.depth ≤ f.py.depth + 8
  | .lt s => h s
  | .ng p => by
    have z := sub_dep9 h p
    show max 0 (max (p.sub σ).py.depth 0) + 1 ≤ max 0 (max p.py.depth 0) + 1 + 8
    omega
  | .im p q => by
    have z := sub_dep9 h p
    have z2 := sub_dep9 h q
    show max 0 (max (p.sub σ).py.depth (max (q.sub σ).py.depth 0)) + 1 ≤ max 0 (max p.py.depth (max q.py.depth 0)) + 1 + 8
    omega
def names4 : List Str := [z_a, z_b, z_c, z_d]
theorem n4_L8 {s : Str} (h : s ∈ names4) : L8 s := by
  have z1 : z_a = ⟨#[97]⟩ := by decide +kernel
  have z2 : z_b = ⟨#[98]⟩ := by decide +kernel
  have z3 : z_c = ⟨#[99]⟩ := by decide +kernel
  have z4 : z_d = ⟨#[100]⟩ := by decide +kernel
  rcases List.mem_cons.mp h with rfl | h
  · exact ⟨97, by decide, z1⟩
  rcases List.mem_cons.mp h with rfl | h
  · exact ⟨98, by decide, z2⟩
  rcases List.mem_cons.mp h with rfl | h
  · exact ⟨99, by decide, z3⟩
  rcases List.mem_cons.mp h with rfl | h
  · exact ⟨100, by decide, z4⟩
  exact nomatch h
theorem axs_facts {f : Fm} (h : f ∈ axs) : f.sz ≤ 13 ∧ f.py.depth ≤ 4 ∧ f.All (· ∈ names4) := by
  have a : z_a ∈ names4 := List.mem_cons_self
  have b : z_b ∈ names4 := List.mem_cons_of_mem _ List.mem_cons_self
  have c : z_c ∈ names4 := List.mem_cons_of_mem _ (List.mem_cons_of_mem _ List.mem_cons_self)
  have d : z_d ∈ names4 := List.mem_cons_of_mem _ (List.mem_cons_of_mem _ (List.mem_cons_of_mem _ List.mem_cons_self))
  unfold axs at h
  rcases List.mem_cons.mp h with rfl | h
  · exact ⟨by decide, by decide, a, b, a⟩
  rcases List.mem_cons.mp h with rfl | h
  · exact ⟨by decide, by decide, ⟨c, b, a⟩, ⟨c, b⟩, c, a⟩
  rcases List.mem_cons.mp h with rfl | h
  · exact ⟨by decide, by decide, ⟨d, b, a⟩, b, d, a⟩
  rcases List.mem_cons.mp h with rfl | h
  · exact ⟨by decide, by decide, ⟨b, a⟩, a, b⟩
  rcases List.mem_cons.mp h with rfl | h
  · exact ⟨by decide, by decide, a, a⟩
  rcases List.mem_cons.mp h with rfl | h
  · exact ⟨by decide, by decide, a, a⟩
  exact nomatch h
def InstOf (k : Int) (f : Fm) : Prop := ∃ p σ, p ∈ axs ∧ axs[(k - 1).toNat]? = some p ∧ f = p.sub σ
theorem mt_sub {σ : Str → Fm} : ∀ (p : Fm) (tb : Tb), (∀ s g, look tb s = some g → g = σ s) → (mt p (p.sub σ) tb).1 = true ∧ ∀ s g, look (mt p (p.sub σ) tb).2 s = some g → g = σ s
  | .lt s, tb, h => by
    show (mt (.lt s) (σ s) tb).1 = true ∧ _
    have e : mt (.lt s) (σ s) tb = match look tb s with
      | some g => (decide (g = σ s), tb)
      | none => (true, tb ++ [(s, σ s)]) := rfl
    have e2 : (Fm.lt s).sub σ = σ s := rfl
    rw [e2, e]
    cases hl : look tb s with
    | some g => exact ⟨decide_eq_true (h s g hl), h⟩
    | none =>
      refine ⟨rfl, fun u g hu => ?_⟩
      have hm := look_mem hu
      have z := valA_tb u (tb ++ [(s, σ s)])
      have hu' : look (tb ++ [(s, σ s)]) u = some g := hu
      rw [hu', ← putA_new tb s (σ s) hl, valA_put] at z
      by_cases hus : u = s
      · subst hus
        rw [if_pos rfl] at z
        have z2 : (σ u).d = g.d := Option.some.inj z
        exact (Fm.d_inj z2).symm
      · rw [if_neg (fun w => hus (Sum.inr.inj w)), valA_tb] at z
        cases hl2 : look tb u with
        | none => rw [hl2] at z; cases z
        | some g2 =>
          rw [hl2] at z
          have z2 : g2.d = g.d := Option.some.inj z
          rw [← Fm.d_inj z2]
          exact h u g2 hl2
  | .ng p, tb, h => mt_sub p tb h
  | .im p q, tb, h => by
    have h1 := mt_sub p tb h
    have h2 := mt_sub q _ h1.2
    have e : mt (.im p q) ((Fm.im p q).sub σ) tb = if (mt p (p.sub σ) tb).1 = true then mt q (q.sub σ) (mt p (p.sub σ) tb).2 else (false, (mt p (p.sub σ) tb).2) := rfl
    rw [e, if_pos h1.1]
    exact h2
def A_inst : ASp := fun ds M Q _ => ∃ (b d l x : Addr) (ls : List Ln) (ks : List Int), ds = [.obj b, .obj l, .obj x] ∧ BoxAt M b d ∧ b ≠ l ∧ b ≠ x ∧ M l = some (.lst (ls.map lnD)) ∧ ls.length ≤ 100 ∧ (∀ z ∈ ls, Lg z.1) ∧ M x = some (.lst (ks.map D.int)) ∧ ks ≠ [] ∧ ks.length ≤ 100 ∧ (∀ k ∈ ks, 1 ≤ k ∧ k ≤ 6) ∧
  ∀ f k M', Lg f → k ∈ ks → InstOf k f → BoxAt M' b d → ExtB b M M' → Q (lnD (f, .ax k)) M'
def TOk (kvs : List (Key × D)) : Prop := ∀ s v, valA kvs (.inr s) = some v → ∃ u, v = Fm.d u ∧ G9 u
theorem TOk.put {kvs : List (Key × D)} {n : Str} {f : Fm} (h : ∀ s v, s ≠ n → valA kvs (.inr s) = some v → ∃ u, v = Fm.d u ∧ G9 u) (hf : G9 f) : TOk (putA kvs (.inr n) f.d) := fun s v hv => by
  rw [valA_put] at hv
  by_cases e : s = n
  · subst e
    rw [if_pos rfl] at hv
    exact ⟨f, (Option.some.inj hv).symm, hf⟩
  · rw [if_neg (fun z => e (Sum.inr.inj z))] at hv
    exact h s v e hv
theorem TOk.sub {kvs : List (Key × D)} (h : TOk kvs) : ∃ σ : Str → Fm, (∀ s, (valA kvs (.inr s)).getD (Fm.lt s).d = (σ s).d) ∧ ∀ s, G9 (σ s) ∨ σ s = .lt s := by
  have one : ∀ s, ∃ u : Fm, (valA kvs (.inr s)).getD (Fm.lt s).d = u.d ∧ (G9 u ∨ u = .lt s) := fun s => by
    cases hv : valA kvs (.inr s) with
    | none => exact ⟨.lt s, rfl, .inr rfl⟩
    | some v =>
      obtain ⟨u, rfl, hu⟩ := h s v hv
      exact ⟨u, rfl, .inl hu⟩
  exact ⟨fun s => Classical.choose (one s), fun s => (Classical.choose_spec (one s)).1, fun s => (Classical.choose_spec (one s)).2⟩
theorem sub_lg {p : Fm} {σ : Str → Fm} (hp : p ∈ axs) (h : ∀ s, G9 (σ s) ∨ σ s = .lt s) : Lg (p.sub σ) := by
  obtain ⟨h1, h2, h3⟩ := axs_facts hp
  have hz : ∀ s, (σ s).sz ≤ 9 := fun s => (h s).elim (fun z => z.1) fun z => by rw [z]; show 1 ≤ 9; omega
  have z1 := sub_sz9 hz p
  have z2 := sub_dep9 (σ := σ) (fun s => Nat.le_trans (Fm.pdep _) (hz s)) p
  refine ⟨by omega, by omega, Fm.sub_all (P := (· ∈ names4)) (fun s hs => ?_) h3⟩
  rcases h s with z | z
  · exact z.2
  · rw [z]
    exact n4_L8 hs

theorem at_memI {zs : List Int} {i : Int} (h0 : 0 ≤ i) (h : i < (zs.length : Int)) : ∃ k, k ∈ zs ∧ atI (zs.map D.int) i = some (.int k) := by
  have hk : i.toNat < zs.length := by omega
  have e : i = ((i.toNat : Nat) : Int) := by omega
  have z : atI (zs.map D.int) ((i.toNat : Nat) : Int) = some (.int zs[i.toNat]) := by
    rw [atIn, List.getElem?_map, List.getElem?_eq_getElem hk]
    rfl
  rw [← e] at z
  exact ⟨_, List.getElem_mem hk, z⟩
theorem at_memL {ls : List Ln} {i : Int} (h0 : 0 ≤ i) (h : i < (ls.length : Int)) : ∃ z, z ∈ ls ∧ atI (ls.map lnD) i = some (lnD z) ∧ ls[i.toNat]? = some z := by
  have hk : i.toNat < ls.length := by omega
  exact ⟨ls[i.toNat], List.getElem_mem hk, at_lnI h0 (List.getElem?_eq_getElem hk), List.getElem?_eq_getElem hk⟩
theorem ExtB.updF {b p : Addr} {M M' : Sto} {mo : MO} (h : M p = none) (e : ExtB b M M') : ExtB b M (up M' p mo) := fun a o n m => by
  rw [up_ne (fresh_ne h m)]
  exact e a o n m
theorem oth_put {kv : List (Key × D)} {n : Str} {w : D} (h : ∀ s v, s ≠ n → valA kv (.inr s) = some v → ∃ u, v = Fm.d u ∧ G9 u) : ∀ s v, s ≠ n → valA (putA kv (.inr n) w) (.inr s) = some v → ∃ u, v = Fm.d u ∧ G9 u := fun s v e hv => by
  rw [valA_put, if_neg (fun z => e (Sum.inr.inj z))] at hv
  exact h s v e hv
theorem p__law_instance (ds : List D) (M : Sto) (Q : D → Sto → Prop) (Xa) (hl : ds.length = 3) (h : A_inst ds M Q Xa) : a__law_instance A_draw (A_any 10) (A_parts 200) (A_put 20) A_axiom ax0 (Done Q) (startA ["box", "lines", "axioms", "k", "table", "name"] ds) M := by
  obtain ⟨b, d, l, x, ls, ks, rfl, hb, nbl, nbx, hl0, hlen, hlg, hx0, hks, hkl, hkr, q⟩ := h
  unfold a__law_instance
  have kpos : 0 < ks.length := List.length_pos_iff.mpr hks
  try (simp only [↓jAe,↓jAl,↓jEr,↓jDi,↓jAy,↓jAd,↓jEg,↓jA3,↓jEq,↓jAp,↓jAi,↓jBj,↓jBl,↓jBq,↓jCy,↓jCo,↓jBp,↓jA0,↓e_c,↓jA8,↓jA1,↓jBc,↓jAf,↓jA2,↓jAa,↓jAn,↓jBu,↓jAv,  ↓jB2,↓jF7,↓jEh,↓jEs,↓jF0,↓jBa,↓jBy,↓jCx,↓jC7,↓jC4,↓jCj,↓jCf,↓jA9,↓jA7,↓jA6,↓jA4,↓jB6,↓jA5,↓jAt,↓jBv,↓jB3,↓jB9,↓jB8,↓jCa,↓jAx,↓jAw,↓jCm,↓jAz,↓jD4,↓jBk,↓jCi,↓jB5,↓jC3,jCv,↓jEy,↓jDa,↓jEl,↓jEn,jDv,↓jAg,↓jCg,↓jB7,↓jBh,↓jC8,↓jAc,↓jB4,jEt,↓jD0,↓jCp,↓jEc,↓jEm,↓jF6,jD8,↓jD5,↓jC5,↓jCq,↓jEk,↓jEu,↓jBi,↓jDm,↓jEj,↓jCw,↓jCs,↓jDc,↓jBx,jCk,jCb,↓jE4,↓jF4,  ↓jCl,↓jEv,↓jCu,↓jCr,↓jCn,↓jEo,↓jEz,↓e_I,↓jBd,↓jBn,↓jF2,↓jAo,↓jB0,↓jBo,↓jD1,↓jE7,↓jEx,↓jC6,↓jD9,↓jAj,↓jE3,↓jD6,↓jAs,↓jD3,↓jF1,↓jBr,↓jE8,↓jD7,↓jBe,↓jCd,↓jEi,↓jC9,↓jEp,↓jDy,↓jAk,↓jD2,↓jCe,↓jAb,↓jB1,  jBw,jC0,jAq,jE0,jDx,jE1,jEe,jE9,jAm,jAr,jBf,jF3,jDw,jEw,jEb,jBb,jBz,jCc,zln,znl,zli,zil,zni,zin,jAh,CMul,CDiv,jDk,true_or,or_true,jDt,jDn,jDz,jDj,jDq,jDp,jE5,jE2,jDr,jDg,jDl,jDe,jDu,jDh,jE6,jEa,jEf,jDs,jEd,jDf,  List.set_cons_zero,List.set_cons_succ,List.set_nil,List.getElem?_cons_zero,List.getElem?_cons_succ,List.getElem?_nil,List.length_cons,List.length_nil,List.length_map,List.length_append,jC2,jCh,jBt,jC1,List.getLast?_concat,List.dropLast_concat,List.nil_append,List.cons_append,List.append_nil,List.append_assoc,List.reverse_cons,List.reverse_nil,List.isEmpty_nil,List.isEmpty_cons,jBg,List.any_cons,List.any_nil,List.all_cons,List.all_nil,flatD,eqF,jCt,jAu,jDd,jDo,jCz,jDb,jF5,startA,List.map_cons,List.map_nil,List.replicate_succ,List.replicate_zero,  Nat.reduceAdd,Nat.reduceSub,Nat.reduceLeDiff,Nat.zero_add,Int.reduceLE,Int.reduceLT,Int.reduceToNat,Int.reducePow,Int.reduceNeg,Int.reduceAdd,Int.reduceSub,  Option.isSome_some,Option.isSome_none,Bool.not_true,Bool.not_false,Bool.not_eq_true',Bool.not_eq_eq_eq_not,Bool.not_eq_true,Bool.false_eq_true,Bool.true_eq_false,Bool.and_true,Bool.true_and,Bool.or_false,Bool.false_or,Bool.or_true,Bool.true_or,Bool.and_false,Bool.false_and,if_true,if_false,ite_true,ite_false,reduceIte,reduceCtorEq,decide_true,decide_false,decide_eq_true_eq,decide_eq_false_iff_not,true_and,and_true,eq_self,ne_eq,not_false_eq_true,not_true_eq_false,and_self, *])
  refine ⟨rfl, b, d, ks.length, rfl, hb, by omega, fun v M1 hv0 hv1 hb1 e1 => ?_⟩
  have hx1 := e1 _ _ nbx.symm hx0
  obtain ⟨k, hk, hat⟩ := at_memI hv0 hv1
  try (simp only [↓jAe,↓jAl,↓jEr,↓jDi,↓jAy,↓jAd,↓jEg,↓jA3,↓jEq,↓jAp,↓jAi,↓jBj,↓jBl,↓jBq,↓jCy,↓jCo,↓jBp,↓jA0,↓e_c,↓jA8,↓jA1,↓jBc,↓jAf,↓jA2,↓jAa,↓jAn,↓jBu,↓jAv,  ↓jB2,↓jF7,↓jEh,↓jEs,↓jF0,↓jBa,↓jBy,↓jCx,↓jC7,↓jC4,↓jCj,↓jCf,↓jA9,↓jA7,↓jA6,↓jA4,↓jB6,↓jA5,↓jAt,↓jBv,↓jB3,↓jB9,↓jB8,↓jCa,↓jAx,↓jAw,↓jCm,↓jAz,↓jD4,↓jBk,↓jCi,↓jB5,↓jC3,jCv,↓jEy,↓jDa,↓jEl,↓jEn,jDv,↓jAg,↓jCg,↓jB7,↓jBh,↓jC8,↓jAc,↓jB4,jEt,↓jD0,↓jCp,↓jEc,↓jEm,↓jF6,jD8,↓jD5,↓jC5,↓jCq,↓jEk,↓jEu,↓jBi,↓jDm,↓jEj,↓jCw,↓jCs,↓jDc,↓jBx,jCk,jCb,↓jE4,↓jF4,  ↓jCl,↓jEv,↓jCu,↓jCr,↓jCn,↓jEo,↓jEz,↓e_I,↓jBd,↓jBn,↓jF2,↓jAo,↓jB0,↓jBo,↓jD1,↓jE7,↓jEx,↓jC6,↓jD9,↓jAj,↓jE3,↓jD6,↓jAs,↓jD3,↓jF1,↓jBr,↓jE8,↓jD7,↓jBe,↓jCd,↓jEi,↓jC9,↓jEp,↓jDy,↓jAk,↓jD2,↓jCe,↓jAb,↓jB1,  jBw,jC0,jAq,jE0,jDx,jE1,jEe,jE9,jAm,jAr,jBf,jF3,jDw,jEw,jEb,jBb,jBz,jCc,zln,znl,zli,zil,zni,zin,jAh,CMul,CDiv,jDk,true_or,or_true,jDt,jDn,jDz,jDj,jDq,jDp,jE5,jE2,jDr,jDg,jDl,jDe,jDu,jDh,jE6,jEa,jEf,jDs,jEd,jDf,  List.set_cons_zero,List.set_cons_succ,List.set_nil,List.getElem?_cons_zero,List.getElem?_cons_succ,List.getElem?_nil,List.length_cons,List.length_nil,List.length_map,List.length_append,jC2,jCh,jBt,jC1,List.getLast?_concat,List.dropLast_concat,List.nil_append,List.cons_append,List.append_nil,List.append_assoc,List.reverse_cons,List.reverse_nil,List.isEmpty_nil,List.isEmpty_cons,jBg,List.any_cons,List.any_nil,List.all_cons,List.all_nil,flatD,eqF,jCt,jAu,jDd,jDo,jCz,jDb,jF5,startA,List.map_cons,List.map_nil,List.replicate_succ,List.replicate_zero,  Nat.reduceAdd,Nat.reduceSub,Nat.reduceLeDiff,Nat.zero_add,Int.reduceLE,Int.reduceLT,Int.reduceToNat,Int.reducePow,Int.reduceNeg,Int.reduceAdd,Int.reduceSub,  Option.isSome_some,Option.isSome_none,Bool.not_true,Bool.not_false,Bool.not_eq_true',Bool.not_eq_eq_eq_not,Bool.not_eq_true,Bool.false_eq_true,Bool.true_eq_false,Bool.and_true,Bool.true_and,Bool.or_false,Bool.false_or,Bool.or_true,Bool.true_or,Bool.and_false,Bool.false_and,if_true,if_false,ite_true,ite_false,reduceIte,reduceCtorEq,decide_true,decide_false,decide_eq_true_eq,decide_eq_false_iff_not,true_and,and_true,eq_self,ne_eq,not_false_eq_true,not_true_eq_false,and_self, *])
  intro t ht
  try (simp only [↓jAe,↓jAl,↓jEr,↓jDi,↓jAy,↓jAd,↓jEg,↓jA3,↓jEq,↓jAp,↓jAi,↓jBj,↓jBl,↓jBq,↓jCy,↓jCo,↓jBp,↓jA0,↓e_c,↓jA8,↓jA1,↓jBc,↓jAf,↓jA2,↓jAa,↓jAn,↓jBu,↓jAv,  ↓jB2,↓jF7,↓jEh,↓jEs,↓jF0,↓jBa,↓jBy,↓jCx,↓jC7,↓jC4,↓jCj,↓jCf,↓jA9,↓jA7,↓jA6,↓jA4,↓jB6,↓jA5,↓jAt,↓jBv,↓jB3,↓jB9,↓jB8,↓jCa,↓jAx,↓jAw,↓jCm,↓jAz,↓jD4,↓jBk,↓jCi,↓jB5,↓jC3,jCv,↓jEy,↓jDa,↓jEl,↓jEn,jDv,↓jAg,↓jCg,↓jB7,↓jBh,↓jC8,↓jAc,↓jB4,jEt,↓jD0,↓jCp,↓jEc,↓jEm,↓jF6,jD8,↓jD5,↓jC5,↓jCq,↓jEk,↓jEu,↓jBi,↓jDm,↓jEj,↓jCw,↓jCs,↓jDc,↓jBx,jCk,jCb,↓jE4,↓jF4,  ↓jCl,↓jEv,↓jCu,↓jCr,↓jCn,↓jEo,↓jEz,↓e_I,↓jBd,↓jBn,↓jF2,↓jAo,↓jB0,↓jBo,↓jD1,↓jE7,↓jEx,↓jC6,↓jD9,↓jAj,↓jE3,↓jD6,↓jAs,↓jD3,↓jF1,↓jBr,↓jE8,↓jD7,↓jBe,↓jCd,↓jEi,↓jC9,↓jEp,↓jDy,↓jAk,↓jD2,↓jCe,↓jAb,↓jB1,  jBw,jC0,jAq,jE0,jDx,jE1,jEe,jE9,jAm,jAr,jBf,jF3,jDw,jEw,jEb,jBb,jBz,jCc,zln,znl,zli,zil,zni,zin,jAh,CMul,CDiv,jDk,true_or,or_true,jDt,jDn,jDz,jDj,jDq,jDp,jE5,jE2,jDr,jDg,jDl,jDe,jDu,jDh,jE6,jEa,jEf,jDs,jEd,jDf,  List.set_cons_zero,List.set_cons_succ,List.set_nil,List.getElem?_cons_zero,List.getElem?_cons_succ,List.getElem?_nil,List.length_cons,List.length_nil,List.length_map,List.length_append,jC2,jCh,jBt,jC1,List.getLast?_concat,List.dropLast_concat,List.nil_append,List.cons_append,List.append_nil,List.append_assoc,List.reverse_cons,List.reverse_nil,List.isEmpty_nil,List.isEmpty_cons,jBg,List.any_cons,List.any_nil,List.all_cons,List.all_nil,flatD,eqF,jCt,jAu,jDd,jDo,jCz,jDb,jF5,startA,List.map_cons,List.map_nil,List.replicate_succ,List.replicate_zero,  Nat.reduceAdd,Nat.reduceSub,Nat.reduceLeDiff,Nat.zero_add,Int.reduceLE,Int.reduceLT,Int.reduceToNat,Int.reducePow,Int.reduceNeg,Int.reduceAdd,Int.reduceSub,  Option.isSome_some,Option.isSome_none,Bool.not_true,Bool.not_false,Bool.not_eq_true',Bool.not_eq_eq_eq_not,Bool.not_eq_true,Bool.false_eq_true,Bool.true_eq_false,Bool.and_true,Bool.true_and,Bool.or_false,Bool.false_or,Bool.or_true,Bool.true_or,Bool.and_false,Bool.false_and,if_true,if_false,ite_true,ite_false,reduceIte,reduceCtorEq,decide_true,decide_false,decide_eq_true_eq,decide_eq_false_iff_not,true_and,and_true,eq_self,ne_eq,not_false_eq_true,not_true_eq_false,and_self, *])
  intro o ho
  have hl1 := e1 _ _ nbl.symm hl0
  have nt0 : M t = none := by
    cases z : M t with
    | none => rfl
    | some mo =>
      by_cases hbt : t = b
      · subst hbt
        obtain ⟨_, _, z1, _⟩ := hb1
        rw [ht] at z1
        cases z1
      · rw [e1 _ _ hbt z] at ht
        cases ht
  have ntb := (hb1.fresh ht)
  have hbt := hb1.new (mo := .dic []) ht
  have nob := hbt.fresh ho
  have nol := fresh_ne ho (Ext.new ht _ _ hl1)
  have ntl := fresh_ne ht hl1
  have nto := fresh_ne ho (up_same (M := M1) (a := t) (o := .dic []))
  have no0 : M o = none := by
    cases z : M o with
    | none => rfl
    | some mo =>
      by_cases hbo : o = b
      · exact absurd hbo.symm nob.1
      · have z2 := Ext.new (mo := .dic []) ht _ _ (e1 _ _ hbo z)
        rw [z2] at ho
        cases ho
  have hbo := hbt.new (mo := .lst [.str z_a, .str z_b, .str z_c, .str z_d]) ho
  have h4 : (up (up M1 t (.dic [])) o (.lst [.str z_a, .str z_b, .str z_c, .str z_d])) o = some (.lst (names4.map D.str)) := up_same
  have ht4 : (up (up M1 t (.dic [])) o (.lst [.str z_a, .str z_b, .str z_c, .str z_d])) t = some (.dic []) := by rw [up_ne nto]; exact up_same
  have hl4 : (up (up M1 t (.dic [])) o (.lst [.str z_a, .str z_b, .str z_c, .str z_d])) l = some (.lst (ls.map lnD)) := by rw [up_ne nol, up_ne ntl]; exact hl1
  have e4 : ExtB b M (up (up M1 t (.dic [])) o (.lst [.str z_a, .str z_b, .str z_c, .str z_d])) := ExtB.updF no0 (ExtB.updF nt0 e1)
  generalize up (up M1 t (.dic [])) o (.lst [.str z_a, .str z_b, .str z_c, .str z_d]) = M4 at hbo h4 ht4 hl4 e4 ⊢
  clear hbt ho hl1 ht hx1 hb1 e1 hat hv0 hv1
  show lstAt M4 o _
  unfold lstAt
  rw [h4]
  refine for_run (fun ds env M' => ∃ (done rest : List Str) (x5 : Option D) (kvs : List (Key × D)), names4 = done ++ rest ∧ ds = rest.map D.str ∧ env = [some (.obj b), some (.obj l), some (.obj x), some (.int k), some (.obj t), x5] ∧ M' o = some (.lst (names4.map D.str)) ∧ M' t = some (.dic kvs) ∧ M' l = some (.lst (ls.map lnD)) ∧ BoxAt M' b d ∧ ExtB b M M' ∧ kvs.length ≤ 4 * done.length ∧ TOk kvs) ?_ ?_ ?_ ⟨[], names4, none, [], rfl, rfl, rfl, h4, ht4, hl4, hbo, e4, Nat.le_refl _, fun s v h => nomatch h⟩
  · rintro ds env M' ⟨done, rest, x5, kvs, _, _, _, h4, _⟩
    exact h4
  · rintro env M' ⟨done, rest, x5, kvs, he8, hd, rfl, h4, ht', hl', hb', e', hkv, hok⟩
    obtain ⟨σ, s1, s2⟩ := hok.sub
    clear hd
    have hkr' := hkr k hk
    try (simp only [↓jAe,↓jAl,↓jEr,↓jDi,↓jAy,↓jAd,↓jEg,↓jA3,↓jEq,↓jAp,↓jAi,↓jBj,↓jBl,↓jBq,↓jCy,↓jCo,↓jBp,↓jA0,↓e_c,↓jA8,↓jA1,↓jBc,↓jAf,↓jA2,↓jAa,↓jAn,↓jBu,↓jAv,  ↓jB2,↓jF7,↓jEh,↓jEs,↓jF0,↓jBa,↓jBy,↓jCx,↓jC7,↓jC4,↓jCj,↓jCf,↓jA9,↓jA7,↓jA6,↓jA4,↓jB6,↓jA5,↓jAt,↓jBv,↓jB3,↓jB9,↓jB8,↓jCa,↓jAx,↓jAw,↓jCm,↓jAz,↓jD4,↓jBk,↓jCi,↓jB5,↓jC3,jCv,↓jEy,↓jDa,↓jEl,↓jEn,jDv,↓jAg,↓jCg,↓jB7,↓jBh,↓jC8,↓jAc,↓jB4,jEt,↓jD0,↓jCp,↓jEc,↓jEm,↓jF6,jD8,↓jD5,↓jC5,↓jCq,↓jEk,↓jEu,↓jBi,↓jDm,↓jEj,↓jCw,↓jCs,↓jDc,↓jBx,jCk,jCb,↓jE4,↓jF4,  ↓jCl,↓jEv,↓jCu,↓jCr,↓jCn,↓jEo,↓jEz,↓e_I,↓jBd,↓jBn,↓jF2,↓jAo,↓jB0,↓jBo,↓jD1,↓jE7,↓jEx,↓jC6,↓jD9,↓jAj,↓jE3,↓jD6,↓jAs,↓jD3,↓jF1,↓jBr,↓jE8,↓jD7,↓jBe,↓jCd,↓jEi,↓jC9,↓jEp,↓jDy,↓jAk,↓jD2,↓jCe,↓jAb,↓jB1,  jBw,jC0,jAq,jE0,jDx,jE1,jEe,jE9,jAm,jAr,jBf,jF3,jDw,jEw,jEb,jBb,jBz,jCc,zln,znl,zli,zil,zni,zin,jAh,CMul,CDiv,jDk,true_or,or_true,jDt,jDn,jDz,jDj,jDq,jDp,jE5,jE2,jDr,jDg,jDl,jDe,jDu,jDh,jE6,jEa,jEf,jDs,jEd,jDf,  List.set_cons_zero,List.set_cons_succ,List.set_nil,List.getElem?_cons_zero,List.getElem?_cons_succ,List.getElem?_nil,List.length_cons,List.length_nil,List.length_map,List.length_append,jC2,jCh,jBt,jC1,List.getLast?_concat,List.dropLast_concat,List.nil_append,List.cons_append,List.append_nil,List.append_assoc,List.reverse_cons,List.reverse_nil,List.isEmpty_nil,List.isEmpty_cons,jBg,List.any_cons,List.any_nil,List.all_cons,List.all_nil,flatD,eqF,jCt,jAu,jDd,jDo,jCz,jDb,jF5,startA,List.map_cons,List.map_nil,List.replicate_succ,List.replicate_zero,  Nat.reduceAdd,Nat.reduceSub,Nat.reduceLeDiff,Nat.zero_add,Int.reduceLE,Int.reduceLT,Int.reduceToNat,Int.reducePow,Int.reduceNeg,Int.reduceAdd,Int.reduceSub,  Option.isSome_some,Option.isSome_none,Bool.not_true,Bool.not_false,Bool.not_eq_true',Bool.not_eq_eq_eq_not,Bool.not_eq_true,Bool.false_eq_true,Bool.true_eq_false,Bool.and_true,Bool.true_and,Bool.or_false,Bool.false_or,Bool.or_true,Bool.true_or,Bool.and_false,Bool.false_and,if_true,if_false,ite_true,ite_false,reduceIte,reduceCtorEq,decide_true,decide_false,decide_eq_true_eq,decide_eq_false_iff_not,true_and,and_true,eq_self,ne_eq,not_false_eq_true,not_true_eq_false,and_self, *])
    refine ⟨rfl, k, rfl, hkr'.1, hkr'.2, fun p M2 hp1 hp2 e2 => ?_⟩
    have pf := axs_facts hp1
    try (simp only [↓jAe,↓jAl,↓jEr,↓jDi,↓jAy,↓jAd,↓jEg,↓jA3,↓jEq,↓jAp,↓jAi,↓jBj,↓jBl,↓jBq,↓jCy,↓jCo,↓jBp,↓jA0,↓e_c,↓jA8,↓jA1,↓jBc,↓jAf,↓jA2,↓jAa,↓jAn,↓jBu,↓jAv,  ↓jB2,↓jF7,↓jEh,↓jEs,↓jF0,↓jBa,↓jBy,↓jCx,↓jC7,↓jC4,↓jCj,↓jCf,↓jA9,↓jA7,↓jA6,↓jA4,↓jB6,↓jA5,↓jAt,↓jBv,↓jB3,↓jB9,↓jB8,↓jCa,↓jAx,↓jAw,↓jCm,↓jAz,↓jD4,↓jBk,↓jCi,↓jB5,↓jC3,jCv,↓jEy,↓jDa,↓jEl,↓jEn,jDv,↓jAg,↓jCg,↓jB7,↓jBh,↓jC8,↓jAc,↓jB4,jEt,↓jD0,↓jCp,↓jEc,↓jEm,↓jF6,jD8,↓jD5,↓jC5,↓jCq,↓jEk,↓jEu,↓jBi,↓jDm,↓jEj,↓jCw,↓jCs,↓jDc,↓jBx,jCk,jCb,↓jE4,↓jF4,  ↓jCl,↓jEv,↓jCu,↓jCr,↓jCn,↓jEo,↓jEz,↓e_I,↓jBd,↓jBn,↓jF2,↓jAo,↓jB0,↓jBo,↓jD1,↓jE7,↓jEx,↓jC6,↓jD9,↓jAj,↓jE3,↓jD6,↓jAs,↓jD3,↓jF1,↓jBr,↓jE8,↓jD7,↓jBe,↓jCd,↓jEi,↓jC9,↓jEp,↓jDy,↓jAk,↓jD2,↓jCe,↓jAb,↓jB1,  jBw,jC0,jAq,jE0,jDx,jE1,jEe,jE9,jAm,jAr,jBf,jF3,jDw,jEw,jEb,jBb,jBz,jCc,zln,znl,zli,zil,zni,zin,jAh,CMul,CDiv,jDk,true_or,or_true,jDt,jDn,jDz,jDj,jDq,jDp,jE5,jE2,jDr,jDg,jDl,jDe,jDu,jDh,jE6,jEa,jEf,jDs,jEd,jDf,  List.set_cons_zero,List.set_cons_succ,List.set_nil,List.getElem?_cons_zero,List.getElem?_cons_succ,List.getElem?_nil,List.length_cons,List.length_nil,List.length_map,List.length_append,jC2,jCh,jBt,jC1,List.getLast?_concat,List.dropLast_concat,List.nil_append,List.cons_append,List.append_nil,List.append_assoc,List.reverse_cons,List.reverse_nil,List.isEmpty_nil,List.isEmpty_cons,jBg,List.any_cons,List.any_nil,List.all_cons,List.all_nil,flatD,eqF,jCt,jAu,jDd,jDo,jCz,jDb,jF5,startA,List.map_cons,List.map_nil,List.replicate_succ,List.replicate_zero,  Nat.reduceAdd,Nat.reduceSub,Nat.reduceLeDiff,Nat.zero_add,Int.reduceLE,Int.reduceLT,Int.reduceToNat,Int.reducePow,Int.reduceNeg,Int.reduceAdd,Int.reduceSub,  Option.isSome_some,Option.isSome_none,Bool.not_true,Bool.not_false,Bool.not_eq_true',Bool.not_eq_eq_eq_not,Bool.not_eq_true,Bool.false_eq_true,Bool.true_eq_false,Bool.and_true,Bool.true_and,Bool.or_false,Bool.false_or,Bool.or_true,Bool.true_or,Bool.and_false,Bool.false_and,if_true,if_false,ite_true,ite_false,reduceIte,reduceCtorEq,decide_true,decide_false,decide_eq_true_eq,decide_eq_false_iff_not,true_and,and_true,eq_self,ne_eq,not_false_eq_true,not_true_eq_false,and_self, *])
    refine ⟨rfl, p, t, kvs, σ, rfl, by omega, e2 _ _ ht', s1, fun M3 e3 => ?_⟩
    try (simp only [↓jAe,↓jAl,↓jEr,↓jDi,↓jAy,↓jAd,↓jEg,↓jA3,↓jEq,↓jAp,↓jAi,↓jBj,↓jBl,↓jBq,↓jCy,↓jCo,↓jBp,↓jA0,↓e_c,↓jA8,↓jA1,↓jBc,↓jAf,↓jA2,↓jAa,↓jAn,↓jBu,↓jAv,  ↓jB2,↓jF7,↓jEh,↓jEs,↓jF0,↓jBa,↓jBy,↓jCx,↓jC7,↓jC4,↓jCj,↓jCf,↓jA9,↓jA7,↓jA6,↓jA4,↓jB6,↓jA5,↓jAt,↓jBv,↓jB3,↓jB9,↓jB8,↓jCa,↓jAx,↓jAw,↓jCm,↓jAz,↓jD4,↓jBk,↓jCi,↓jB5,↓jC3,jCv,↓jEy,↓jDa,↓jEl,↓jEn,jDv,↓jAg,↓jCg,↓jB7,↓jBh,↓jC8,↓jAc,↓jB4,jEt,↓jD0,↓jCp,↓jEc,↓jEm,↓jF6,jD8,↓jD5,↓jC5,↓jCq,↓jEk,↓jEu,↓jBi,↓jDm,↓jEj,↓jCw,↓jCs,↓jDc,↓jBx,jCk,jCb,↓jE4,↓jF4,  ↓jCl,↓jEv,↓jCu,↓jCr,↓jCn,↓jEo,↓jEz,↓e_I,↓jBd,↓jBn,↓jF2,↓jAo,↓jB0,↓jBo,↓jD1,↓jE7,↓jEx,↓jC6,↓jD9,↓jAj,↓jE3,↓jD6,↓jAs,↓jD3,↓jF1,↓jBr,↓jE8,↓jD7,↓jBe,↓jCd,↓jEi,↓jC9,↓jEp,↓jDy,↓jAk,↓jD2,↓jCe,↓jAb,↓jB1,  jBw,jC0,jAq,jE0,jDx,jE1,jEe,jE9,jAm,jAr,jBf,jF3,jDw,jEw,jEb,jBb,jBz,jCc,zln,znl,zli,zil,zni,zin,jAh,CMul,CDiv,jDk,true_or,or_true,jDt,jDn,jDz,jDj,jDq,jDp,jE5,jE2,jDr,jDg,jDl,jDe,jDu,jDh,jE6,jEa,jEf,jDs,jEd,jDf,  List.set_cons_zero,List.set_cons_succ,List.set_nil,List.getElem?_cons_zero,List.getElem?_cons_succ,List.getElem?_nil,List.length_cons,List.length_nil,List.length_map,List.length_append,jC2,jCh,jBt,jC1,List.getLast?_concat,List.dropLast_concat,List.nil_append,List.cons_append,List.append_nil,List.append_assoc,List.reverse_cons,List.reverse_nil,List.isEmpty_nil,List.isEmpty_cons,jBg,List.any_cons,List.any_nil,List.all_cons,List.all_nil,flatD,eqF,jCt,jAu,jDd,jDo,jCz,jDb,jF5,startA,List.map_cons,List.map_nil,List.replicate_succ,List.replicate_zero,  Nat.reduceAdd,Nat.reduceSub,Nat.reduceLeDiff,Nat.zero_add,Int.reduceLE,Int.reduceLT,Int.reduceToNat,Int.reducePow,Int.reduceNeg,Int.reduceAdd,Int.reduceSub,  Option.isSome_some,Option.isSome_none,Bool.not_true,Bool.not_false,Bool.not_eq_true',Bool.not_eq_eq_eq_not,Bool.not_eq_true,Bool.false_eq_true,Bool.true_eq_false,Bool.and_true,Bool.true_and,Bool.or_false,Bool.false_or,Bool.or_true,Bool.true_or,Bool.and_false,Bool.false_and,if_true,if_false,ite_true,ite_false,reduceIte,reduceCtorEq,decide_true,decide_false,decide_eq_true_eq,decide_eq_false_iff_not,true_and,and_true,eq_self,ne_eq,not_false_eq_true,not_true_eq_false,and_self, *])
    exact q _ k M3 (sub_lg hp1 s2) hk ⟨p, σ, hp1, hp2, rfl⟩ ((hb'.ext e2).ext e3) (e'.trans (e2.b.trans e3.b))
  · rintro y r N env M' ⟨done, rest, x5, kvs, he8, hd, rfl, h4, ht', hl', hb', e', hkv, hok⟩ next
    cases rest with
    | nil => cases hd
    | cons s rest =>
      rw [List.map_cons] at hd
      injection hd with hd1 hd2
      subst hd1 hd2
      have hdl : done.length ≤ 4 := by
        have z := congrArg List.length he8
        rw [List.length_append] at z
        have z4 : names4.length = 4 := rfl
        omega
      try (simp only [↓jAe,↓jAl,↓jEr,↓jDi,↓jAy,↓jAd,↓jEg,↓jA3,↓jEq,↓jAp,↓jAi,↓jBj,↓jBl,↓jBq,↓jCy,↓jCo,↓jBp,↓jA0,↓e_c,↓jA8,↓jA1,↓jBc,↓jAf,↓jA2,↓jAa,↓jAn,↓jBu,↓jAv,  ↓jB2,↓jF7,↓jEh,↓jEs,↓jF0,↓jBa,↓jBy,↓jCx,↓jC7,↓jC4,↓jCj,↓jCf,↓jA9,↓jA7,↓jA6,↓jA4,↓jB6,↓jA5,↓jAt,↓jBv,↓jB3,↓jB9,↓jB8,↓jCa,↓jAx,↓jAw,↓jCm,↓jAz,↓jD4,↓jBk,↓jCi,↓jB5,↓jC3,jCv,↓jEy,↓jDa,↓jEl,↓jEn,jDv,↓jAg,↓jCg,↓jB7,↓jBh,↓jC8,↓jAc,↓jB4,jEt,↓jD0,↓jCp,↓jEc,↓jEm,↓jF6,jD8,↓jD5,↓jC5,↓jCq,↓jEk,↓jEu,↓jBi,↓jDm,↓jEj,↓jCw,↓jCs,↓jDc,↓jBx,jCk,jCb,↓jE4,↓jF4,  ↓jCl,↓jEv,↓jCu,↓jCr,↓jCn,↓jEo,↓jEz,↓e_I,↓jBd,↓jBn,↓jF2,↓jAo,↓jB0,↓jBo,↓jD1,↓jE7,↓jEx,↓jC6,↓jD9,↓jAj,↓jE3,↓jD6,↓jAs,↓jD3,↓jF1,↓jBr,↓jE8,↓jD7,↓jBe,↓jCd,↓jEi,↓jC9,↓jEp,↓jDy,↓jAk,↓jD2,↓jCe,↓jAb,↓jB1,  jBw,jC0,jAq,jE0,jDx,jE1,jEe,jE9,jAm,jAr,jBf,jF3,jDw,jEw,jEb,jBb,jBz,jCc,zln,znl,zli,zil,zni,zin,jAh,CMul,CDiv,jDk,true_or,or_true,jDt,jDn,jDz,jDj,jDq,jDp,jE5,jE2,jDr,jDg,jDl,jDe,jDu,jDh,jE6,jEa,jEf,jDs,jEd,jDf,  List.set_cons_zero,List.set_cons_succ,List.set_nil,List.getElem?_cons_zero,List.getElem?_cons_succ,List.getElem?_nil,List.length_cons,List.length_nil,List.length_map,List.length_append,jC2,jCh,jBt,jC1,List.getLast?_concat,List.dropLast_concat,List.nil_append,List.cons_append,List.append_nil,List.append_assoc,List.reverse_cons,List.reverse_nil,List.isEmpty_nil,List.isEmpty_cons,jBg,List.any_cons,List.any_nil,List.all_cons,List.all_nil,flatD,eqF,jCt,jAu,jDd,jDo,jCz,jDb,jF5,startA,List.map_cons,List.map_nil,List.replicate_succ,List.replicate_zero,  Nat.reduceAdd,Nat.reduceSub,Nat.reduceLeDiff,Nat.zero_add,Int.reduceLE,Int.reduceLT,Int.reduceToNat,Int.reducePow,Int.reduceNeg,Int.reduceAdd,Int.reduceSub,  Option.isSome_some,Option.isSome_none,Bool.not_true,Bool.not_false,Bool.not_eq_true',Bool.not_eq_eq_eq_not,Bool.not_eq_true,Bool.false_eq_true,Bool.true_eq_false,Bool.and_true,Bool.true_and,Bool.or_false,Bool.false_or,Bool.or_true,Bool.true_or,Bool.and_false,Bool.false_and,if_true,if_false,ite_true,ite_false,reduceIte,reduceCtorEq,decide_true,decide_false,decide_eq_true_eq,decide_eq_false_iff_not,true_and,and_true,eq_self,ne_eq,not_false_eq_true,not_true_eq_false,and_self, *])
      refine ⟨rfl, b, d, 3, rfl, hb', by decide, fun v1 M1 hv0 hv1 hb1 e1 => ?_⟩
      try (simp only [↓jAe,↓jAl,↓jEr,↓jDi,↓jAy,↓jAd,↓jEg,↓jA3,↓jEq,↓jAp,↓jAi,↓jBj,↓jBl,↓jBq,↓jCy,↓jCo,↓jBp,↓jA0,↓e_c,↓jA8,↓jA1,↓jBc,↓jAf,↓jA2,↓jAa,↓jAn,↓jBu,↓jAv,  ↓jB2,↓jF7,↓jEh,↓jEs,↓jF0,↓jBa,↓jBy,↓jCx,↓jC7,↓jC4,↓jCj,↓jCf,↓jA9,↓jA7,↓jA6,↓jA4,↓jB6,↓jA5,↓jAt,↓jBv,↓jB3,↓jB9,↓jB8,↓jCa,↓jAx,↓jAw,↓jCm,↓jAz,↓jD4,↓jBk,↓jCi,↓jB5,↓jC3,jCv,↓jEy,↓jDa,↓jEl,↓jEn,jDv,↓jAg,↓jCg,↓jB7,↓jBh,↓jC8,↓jAc,↓jB4,jEt,↓jD0,↓jCp,↓jEc,↓jEm,↓jF6,jD8,↓jD5,↓jC5,↓jCq,↓jEk,↓jEu,↓jBi,↓jDm,↓jEj,↓jCw,↓jCs,↓jDc,↓jBx,jCk,jCb,↓jE4,↓jF4,  ↓jCl,↓jEv,↓jCu,↓jCr,↓jCn,↓jEo,↓jEz,↓e_I,↓jBd,↓jBn,↓jF2,↓jAo,↓jB0,↓jBo,↓jD1,↓jE7,↓jEx,↓jC6,↓jD9,↓jAj,↓jE3,↓jD6,↓jAs,↓jD3,↓jF1,↓jBr,↓jE8,↓jD7,↓jBe,↓jCd,↓jEi,↓jC9,↓jEp,↓jDy,↓jAk,↓jD2,↓jCe,↓jAb,↓jB1,  jBw,jC0,jAq,jE0,jDx,jE1,jEe,jE9,jAm,jAr,jBf,jF3,jDw,jEw,jEb,jBb,jBz,jCc,zln,znl,zli,zil,zni,zin,jAh,CMul,CDiv,jDk,true_or,or_true,jDt,jDn,jDz,jDj,jDq,jDp,jE5,jE2,jDr,jDg,jDl,jDe,jDu,jDh,jE6,jEa,jEf,jDs,jEd,jDf,  List.set_cons_zero,List.set_cons_succ,List.set_nil,List.getElem?_cons_zero,List.getElem?_cons_succ,List.getElem?_nil,List.length_cons,List.length_nil,List.length_map,List.length_append,jC2,jCh,jBt,jC1,List.getLast?_concat,List.dropLast_concat,List.nil_append,List.cons_append,List.append_nil,List.append_assoc,List.reverse_cons,List.reverse_nil,List.isEmpty_nil,List.isEmpty_cons,jBg,List.any_cons,List.any_nil,List.all_cons,List.all_nil,flatD,eqF,jCt,jAu,jDd,jDo,jCz,jDb,jF5,startA,List.map_cons,List.map_nil,List.replicate_succ,List.replicate_zero,  Nat.reduceAdd,Nat.reduceSub,Nat.reduceLeDiff,Nat.zero_add,Int.reduceLE,Int.reduceLT,Int.reduceToNat,Int.reducePow,Int.reduceNeg,Int.reduceAdd,Int.reduceSub,  Option.isSome_some,Option.isSome_none,Bool.not_true,Bool.not_false,Bool.not_eq_true',Bool.not_eq_eq_eq_not,Bool.not_eq_true,Bool.false_eq_true,Bool.true_eq_false,Bool.and_true,Bool.true_and,Bool.or_false,Bool.false_or,Bool.or_true,Bool.true_or,Bool.and_false,Bool.false_and,if_true,if_false,ite_true,ite_false,reduceIte,reduceCtorEq,decide_true,decide_false,decide_eq_true_eq,decide_eq_false_iff_not,true_and,and_true,eq_self,ne_eq,not_false_eq_true,not_true_eq_false,and_self, *])
      refine ⟨rfl, b, d, 1 + v1, 3, rfl, hb1, by omega, by omega, by omega, by omega, fun f M2 hf hfz hb2 e2 => ?_⟩
      have ht2 := e2 _ _ ntb.1.symm (e1 _ _ ntb.1.symm ht')
      have hl2 := e2 _ _ nbl.symm (e1 _ _ nbl.symm hl')
      have h42 := e2 _ _ nob.1.symm (e1 _ _ nob.1.symm h4)
      have g9 : G9 f := ⟨by omega, hf⟩
      have fin : ∀ M3 (kv : List (Key × D)), M3 o = some (.lst (names4.map D.str)) → M3 t = some (.dic kv) → M3 l = some (.lst (ls.map lnD)) → BoxAt M3 b d → ExtB b M M3 → kv.length ≤ 4 * done.length + 4 → TOk kv →
          N [some (.obj b), some (.obj l), some (.obj x), some (.int k), some (.obj t), some (.str s)] M3 := fun M3 kv c1 c2 c3 c4 c5 c6 c7 =>
        next _ _ ⟨done ++ [s], rest, _, kv, by rw [he8, List.append_assoc]; rfl, rfl, rfl, c1, c2, c3, c4, c5, by rw [List.length_append, List.length_singleton]; omega, c7⟩
      have tailF : ∀ M5 (kv : List (Key × D)) (g : Fm), M5 o = some (.lst (names4.map D.str)) → M5 t = some (.dic kv) → M5 l = some (.lst (ls.map lnD)) → BoxAt M5 b d → ExtB b M M5 → kv.length ≤ 4 * done.length + 3 → valA kv (.inr s) = some g.d → Lg g →
          (∀ s' v, s' ≠ s → valA kv (.inr s') = some v → ∃ u, v = Fm.d u ∧ G9 u) → Wait 1 (A_parts 200) [g.d] M5 fun x1 M1 => ρLen [x1] M1 fun x1 M1 => ρGt x1 (.int 9) M1 fun x1 M1 => match x1 with
            | .bl b3 => if b3 = true then (match M1 t with
              | some (.dic ds) => ds.length < 16777216 ∧ N [some (.obj b), some (.obj l), some (.obj x), some (.int k), some (.obj t), some (.str s)] (up M1 t (.dic (putA ds (.inr s) (.tup [.str z_letter, .str z_a]))))
              | _ => False) else N [some (.obj b), some (.obj l), some (.obj x), some (.int k), some (.obj t), some (.str s)] M1
            | _ => False := by
        intro M5 kv g c1 c2 c3 c4 c5 c6 c7 c8 c9
        refine ⟨rfl, g, rfl, by have := c8.1; omega, by have := c8.1; omega, fun p M6 np e6 h6 => ?_⟩
        have d1 := e6 _ _ c1
        have d2 := e6 _ _ c2
        have d3 := e6 _ _ c3
        have d4 := c4.ext e6
        have d5 := c5.trans e6.b
        have pl := Fm.parts_len g
        clear next
        try (simp only [↓jAe,↓jAl,↓jEr,↓jDi,↓jAy,↓jAd,↓jEg,↓jA3,↓jEq,↓jAp,↓jAi,↓jBj,↓jBl,↓jBq,↓jCy,↓jCo,↓jBp,↓jA0,↓e_c,↓jA8,↓jA1,↓jBc,↓jAf,↓jA2,↓jAa,↓jAn,↓jBu,↓jAv,  ↓jB2,↓jF7,↓jEh,↓jEs,↓jF0,↓jBa,↓jBy,↓jCx,↓jC7,↓jC4,↓jCj,↓jCf,↓jA9,↓jA7,↓jA6,↓jA4,↓jB6,↓jA5,↓jAt,↓jBv,↓jB3,↓jB9,↓jB8,↓jCa,↓jAx,↓jAw,↓jCm,↓jAz,↓jD4,↓jBk,↓jCi,↓jB5,↓jC3,jCv,↓jEy,↓jDa,↓jEl,↓jEn,jDv,↓jAg,↓jCg,↓jB7,↓jBh,↓jC8,↓jAc,↓jB4,jEt,↓jD0,↓jCp,↓jEc,↓jEm,↓jF6,jD8,↓jD5,↓jC5,↓jCq,↓jEk,↓jEu,↓jBi,↓jDm,↓jEj,↓jCw,↓jCs,↓jDc,↓jBx,jCk,jCb,↓jE4,↓jF4,  ↓jCl,↓jEv,↓jCu,↓jCr,↓jCn,↓jEo,↓jEz,↓e_I,↓jBd,↓jBn,↓jF2,↓jAo,↓jB0,↓jBo,↓jD1,↓jE7,↓jEx,↓jC6,↓jD9,↓jAj,↓jE3,↓jD6,↓jAs,↓jD3,↓jF1,↓jBr,↓jE8,↓jD7,↓jBe,↓jCd,↓jEi,↓jC9,↓jEp,↓jDy,↓jAk,↓jD2,↓jCe,↓jAb,↓jB1,  jBw,jC0,jAq,jE0,jDx,jE1,jEe,jE9,jAm,jAr,jBf,jF3,jDw,jEw,jEb,jBb,jBz,jCc,zln,znl,zli,zil,zni,zin,jAh,CMul,CDiv,jDk,true_or,or_true,jDt,jDn,jDz,jDj,jDq,jDp,jE5,jE2,jDr,jDg,jDl,jDe,jDu,jDh,jE6,jEa,jEf,jDs,jEd,jDf,  List.set_cons_zero,List.set_cons_succ,List.set_nil,List.getElem?_cons_zero,List.getElem?_cons_succ,List.getElem?_nil,List.length_cons,List.length_nil,List.length_map,List.length_append,jC2,jCh,jBt,jC1,List.getLast?_concat,List.dropLast_concat,List.nil_append,List.cons_append,List.append_nil,List.append_assoc,List.reverse_cons,List.reverse_nil,List.isEmpty_nil,List.isEmpty_cons,jBg,List.any_cons,List.any_nil,List.all_cons,List.all_nil,flatD,eqF,jCt,jAu,jDd,jDo,jCz,jDb,jF5,startA,List.map_cons,List.map_nil,List.replicate_succ,List.replicate_zero,  Nat.reduceAdd,Nat.reduceSub,Nat.reduceLeDiff,Nat.zero_add,Int.reduceLE,Int.reduceLT,Int.reduceToNat,Int.reducePow,Int.reduceNeg,Int.reduceAdd,Int.reduceSub,  Option.isSome_some,Option.isSome_none,Bool.not_true,Bool.not_false,Bool.not_eq_true',Bool.not_eq_eq_eq_not,Bool.not_eq_true,Bool.false_eq_true,Bool.true_eq_false,Bool.and_true,Bool.true_and,Bool.or_false,Bool.false_or,Bool.or_true,Bool.true_or,Bool.and_false,Bool.false_and,if_true,if_false,ite_true,ite_false,reduceIte,reduceCtorEq,decide_true,decide_false,decide_eq_true_eq,decide_eq_false_iff_not,true_and,and_true,eq_self,ne_eq,not_false_eq_true,not_true_eq_false,and_self, *])
        by_cases hbig : 9 < g.sz
        · have hb9 : (9 : Int) < (g.sz : Int) := by omega
          have pz := putA_length kv (.inr s) (Fm.lt z_a).d
          have ga : G9 (.lt z_a) := ⟨by decide, n4_L8 List.mem_cons_self⟩
          try (simp only [↓jAe,↓jAl,↓jEr,↓jDi,↓jAy,↓jAd,↓jEg,↓jA3,↓jEq,↓jAp,↓jAi,↓jBj,↓jBl,↓jBq,↓jCy,↓jCo,↓jBp,↓jA0,↓e_c,↓jA8,↓jA1,↓jBc,↓jAf,↓jA2,↓jAa,↓jAn,↓jBu,↓jAv,  ↓jB2,↓jF7,↓jEh,↓jEs,↓jF0,↓jBa,↓jBy,↓jCx,↓jC7,↓jC4,↓jCj,↓jCf,↓jA9,↓jA7,↓jA6,↓jA4,↓jB6,↓jA5,↓jAt,↓jBv,↓jB3,↓jB9,↓jB8,↓jCa,↓jAx,↓jAw,↓jCm,↓jAz,↓jD4,↓jBk,↓jCi,↓jB5,↓jC3,jCv,↓jEy,↓jDa,↓jEl,↓jEn,jDv,↓jAg,↓jCg,↓jB7,↓jBh,↓jC8,↓jAc,↓jB4,jEt,↓jD0,↓jCp,↓jEc,↓jEm,↓jF6,jD8,↓jD5,↓jC5,↓jCq,↓jEk,↓jEu,↓jBi,↓jDm,↓jEj,↓jCw,↓jCs,↓jDc,↓jBx,jCk,jCb,↓jE4,↓jF4,  ↓jCl,↓jEv,↓jCu,↓jCr,↓jCn,↓jEo,↓jEz,↓e_I,↓jBd,↓jBn,↓jF2,↓jAo,↓jB0,↓jBo,↓jD1,↓jE7,↓jEx,↓jC6,↓jD9,↓jAj,↓jE3,↓jD6,↓jAs,↓jD3,↓jF1,↓jBr,↓jE8,↓jD7,↓jBe,↓jCd,↓jEi,↓jC9,↓jEp,↓jDy,↓jAk,↓jD2,↓jCe,↓jAb,↓jB1,  jBw,jC0,jAq,jE0,jDx,jE1,jEe,jE9,jAm,jAr,jBf,jF3,jDw,jEw,jEb,jBb,jBz,jCc,zln,znl,zli,zil,zni,zin,jAh,CMul,CDiv,jDk,true_or,or_true,jDt,jDn,jDz,jDj,jDq,jDp,jE5,jE2,jDr,jDg,jDl,jDe,jDu,jDh,jE6,jEa,jEf,jDs,jEd,jDf,  List.set_cons_zero,List.set_cons_succ,List.set_nil,List.getElem?_cons_zero,List.getElem?_cons_succ,List.getElem?_nil,List.length_cons,List.length_nil,List.length_map,List.length_append,jC2,jCh,jBt,jC1,List.getLast?_concat,List.dropLast_concat,List.nil_append,List.cons_append,List.append_nil,List.append_assoc,List.reverse_cons,List.reverse_nil,List.isEmpty_nil,List.isEmpty_cons,jBg,List.any_cons,List.any_nil,List.all_cons,List.all_nil,flatD,eqF,jCt,jAu,jDd,jDo,jCz,jDb,jF5,startA,List.map_cons,List.map_nil,List.replicate_succ,List.replicate_zero,  Nat.reduceAdd,Nat.reduceSub,Nat.reduceLeDiff,Nat.zero_add,Int.reduceLE,Int.reduceLT,Int.reduceToNat,Int.reducePow,Int.reduceNeg,Int.reduceAdd,Int.reduceSub,  Option.isSome_some,Option.isSome_none,Bool.not_true,Bool.not_false,Bool.not_eq_true',Bool.not_eq_eq_eq_not,Bool.not_eq_true,Bool.false_eq_true,Bool.true_eq_false,Bool.and_true,Bool.true_and,Bool.or_false,Bool.false_or,Bool.or_true,Bool.true_or,Bool.and_false,Bool.false_and,if_true,if_false,ite_true,ite_false,reduceIte,reduceCtorEq,decide_true,decide_false,decide_eq_true_eq,decide_eq_false_iff_not,true_and,and_true,eq_self,ne_eq,not_false_eq_true,not_true_eq_false,and_self, *])
          exact ⟨by omega, fin _ _ (by rw [up_ne nto.symm]; exact d1) up_same (by rw [up_ne ntl]; exact d3) (d4.upd ntb.1 ntb.2) (ExtB.updF nt0 d5) (by show (putA kv (.inr s) (Fm.lt z_a).d).length ≤ _; omega) (TOk.put c9 ga)⟩
        · have hb9 : ¬ (9 : Int) < (g.sz : Int) := by omega
          try (simp only [↓jAe,↓jAl,↓jEr,↓jDi,↓jAy,↓jAd,↓jEg,↓jA3,↓jEq,↓jAp,↓jAi,↓jBj,↓jBl,↓jBq,↓jCy,↓jCo,↓jBp,↓jA0,↓e_c,↓jA8,↓jA1,↓jBc,↓jAf,↓jA2,↓jAa,↓jAn,↓jBu,↓jAv,  ↓jB2,↓jF7,↓jEh,↓jEs,↓jF0,↓jBa,↓jBy,↓jCx,↓jC7,↓jC4,↓jCj,↓jCf,↓jA9,↓jA7,↓jA6,↓jA4,↓jB6,↓jA5,↓jAt,↓jBv,↓jB3,↓jB9,↓jB8,↓jCa,↓jAx,↓jAw,↓jCm,↓jAz,↓jD4,↓jBk,↓jCi,↓jB5,↓jC3,jCv,↓jEy,↓jDa,↓jEl,↓jEn,jDv,↓jAg,↓jCg,↓jB7,↓jBh,↓jC8,↓jAc,↓jB4,jEt,↓jD0,↓jCp,↓jEc,↓jEm,↓jF6,jD8,↓jD5,↓jC5,↓jCq,↓jEk,↓jEu,↓jBi,↓jDm,↓jEj,↓jCw,↓jCs,↓jDc,↓jBx,jCk,jCb,↓jE4,↓jF4,  ↓jCl,↓jEv,↓jCu,↓jCr,↓jCn,↓jEo,↓jEz,↓e_I,↓jBd,↓jBn,↓jF2,↓jAo,↓jB0,↓jBo,↓jD1,↓jE7,↓jEx,↓jC6,↓jD9,↓jAj,↓jE3,↓jD6,↓jAs,↓jD3,↓jF1,↓jBr,↓jE8,↓jD7,↓jBe,↓jCd,↓jEi,↓jC9,↓jEp,↓jDy,↓jAk,↓jD2,↓jCe,↓jAb,↓jB1,  jBw,jC0,jAq,jE0,jDx,jE1,jEe,jE9,jAm,jAr,jBf,jF3,jDw,jEw,jEb,jBb,jBz,jCc,zln,znl,zli,zil,zni,zin,jAh,CMul,CDiv,jDk,true_or,or_true,jDt,jDn,jDz,jDj,jDq,jDp,jE5,jE2,jDr,jDg,jDl,jDe,jDu,jDh,jE6,jEa,jEf,jDs,jEd,jDf,  List.set_cons_zero,List.set_cons_succ,List.set_nil,List.getElem?_cons_zero,List.getElem?_cons_succ,List.getElem?_nil,List.length_cons,List.length_nil,List.length_map,List.length_append,jC2,jCh,jBt,jC1,List.getLast?_concat,List.dropLast_concat,List.nil_append,List.cons_append,List.append_nil,List.append_assoc,List.reverse_cons,List.reverse_nil,List.isEmpty_nil,List.isEmpty_cons,jBg,List.any_cons,List.any_nil,List.all_cons,List.all_nil,flatD,eqF,jCt,jAu,jDd,jDo,jCz,jDb,jF5,startA,List.map_cons,List.map_nil,List.replicate_succ,List.replicate_zero,  Nat.reduceAdd,Nat.reduceSub,Nat.reduceLeDiff,Nat.zero_add,Int.reduceLE,Int.reduceLT,Int.reduceToNat,Int.reducePow,Int.reduceNeg,Int.reduceAdd,Int.reduceSub,  Option.isSome_some,Option.isSome_none,Bool.not_true,Bool.not_false,Bool.not_eq_true',Bool.not_eq_eq_eq_not,Bool.not_eq_true,Bool.false_eq_true,Bool.true_eq_false,Bool.and_true,Bool.true_and,Bool.or_false,Bool.false_or,Bool.or_true,Bool.true_or,Bool.and_false,Bool.false_and,if_true,if_false,ite_true,ite_false,reduceIte,reduceCtorEq,decide_true,decide_false,decide_eq_true_eq,decide_eq_false_iff_not,true_and,and_true,eq_self,ne_eq,not_false_eq_true,not_true_eq_false,and_self, *])
          refine fin _ _ d1 d2 d3 d4 d5 (by omega) fun s' v hv => ?_
          by_cases e : s' = s
          · subst e
            rw [c7] at hv
            exact ⟨g, (Option.some.inj hv).symm, by omega, c8.2.2⟩
          · exact c9 s' v e hv
      have pz := putA_length kvs (.inr s) f.d
      have hok1 : TOk (putA kvs (.inr s) f.d) := TOk.put (fun s' v _ hv => hok s' v hv) g9
      have b3 := hb2.upd (mo := .dic (putA kvs (.inr s) f.d)) ntb.1 ntb.2
      have x3 : ExtB b M (up M2 t (.dic (putA kvs (.inr s) f.d))) := ExtB.updF nt0 (e'.trans (e1.trans e2))
      have o3 : (up M2 t (.dic (putA kvs (.inr s) f.d))) o = some (.lst (names4.map D.str)) := by rw [up_ne nto.symm]; exact h42
      have l3 : (up M2 t (.dic (putA kvs (.inr s) f.d))) l = some (.lst (ls.map lnD)) := by rw [up_ne ntl]; exact hl2
      have t3 : (up M2 t (.dic (putA kvs (.inr s) f.d))) t = some (.dic (putA kvs (.inr s) f.d)) := up_same
      clear next
      try (simp only [↓jAe,↓jAl,↓jEr,↓jDi,↓jAy,↓jAd,↓jEg,↓jA3,↓jEq,↓jAp,↓jAi,↓jBj,↓jBl,↓jBq,↓jCy,↓jCo,↓jBp,↓jA0,↓e_c,↓jA8,↓jA1,↓jBc,↓jAf,↓jA2,↓jAa,↓jAn,↓jBu,↓jAv,  ↓jB2,↓jF7,↓jEh,↓jEs,↓jF0,↓jBa,↓jBy,↓jCx,↓jC7,↓jC4,↓jCj,↓jCf,↓jA9,↓jA7,↓jA6,↓jA4,↓jB6,↓jA5,↓jAt,↓jBv,↓jB3,↓jB9,↓jB8,↓jCa,↓jAx,↓jAw,↓jCm,↓jAz,↓jD4,↓jBk,↓jCi,↓jB5,↓jC3,jCv,↓jEy,↓jDa,↓jEl,↓jEn,jDv,↓jAg,↓jCg,↓jB7,↓jBh,↓jC8,↓jAc,↓jB4,jEt,↓jD0,↓jCp,↓jEc,↓jEm,↓jF6,jD8,↓jD5,↓jC5,↓jCq,↓jEk,↓jEu,↓jBi,↓jDm,↓jEj,↓jCw,↓jCs,↓jDc,↓jBx,jCk,jCb,↓jE4,↓jF4,  ↓jCl,↓jEv,↓jCu,↓jCr,↓jCn,↓jEo,↓jEz,↓e_I,↓jBd,↓jBn,↓jF2,↓jAo,↓jB0,↓jBo,↓jD1,↓jE7,↓jEx,↓jC6,↓jD9,↓jAj,↓jE3,↓jD6,↓jAs,↓jD3,↓jF1,↓jBr,↓jE8,↓jD7,↓jBe,↓jCd,↓jEi,↓jC9,↓jEp,↓jDy,↓jAk,↓jD2,↓jCe,↓jAb,↓jB1,  jBw,jC0,jAq,jE0,jDx,jE1,jEe,jE9,jAm,jAr,jBf,jF3,jDw,jEw,jEb,jBb,jBz,jCc,zln,znl,zli,zil,zni,zin,jAh,CMul,CDiv,jDk,true_or,or_true,jDt,jDn,jDz,jDj,jDq,jDp,jE5,jE2,jDr,jDg,jDl,jDe,jDu,jDh,jE6,jEa,jEf,jDs,jEd,jDf,  List.set_cons_zero,List.set_cons_succ,List.set_nil,List.getElem?_cons_zero,List.getElem?_cons_succ,List.getElem?_nil,List.length_cons,List.length_nil,List.length_map,List.length_append,jC2,jCh,jBt,jC1,List.getLast?_concat,List.dropLast_concat,List.nil_append,List.cons_append,List.append_nil,List.append_assoc,List.reverse_cons,List.reverse_nil,List.isEmpty_nil,List.isEmpty_cons,jBg,List.any_cons,List.any_nil,List.all_cons,List.all_nil,flatD,eqF,jCt,jAu,jDd,jDo,jCz,jDb,jF5,startA,List.map_cons,List.map_nil,List.replicate_succ,List.replicate_zero,  Nat.reduceAdd,Nat.reduceSub,Nat.reduceLeDiff,Nat.zero_add,Int.reduceLE,Int.reduceLT,Int.reduceToNat,Int.reducePow,Int.reduceNeg,Int.reduceAdd,Int.reduceSub,  Option.isSome_some,Option.isSome_none,Bool.not_true,Bool.not_false,Bool.not_eq_true',Bool.not_eq_eq_eq_not,Bool.not_eq_true,Bool.false_eq_true,Bool.true_eq_false,Bool.and_true,Bool.true_and,Bool.or_false,Bool.false_or,Bool.or_true,Bool.true_or,Bool.and_false,Bool.false_and,if_true,if_false,ite_true,ite_false,reduceIte,reduceCtorEq,decide_true,decide_false,decide_eq_true_eq,decide_eq_false_iff_not,true_and,and_true,eq_self,ne_eq,not_false_eq_true,not_true_eq_false,and_self, *])
      refine ⟨by omega, ?_⟩
      generalize up M2 t (.dic (putA kvs (.inr s) f.d)) = M3 at *
      generalize putA kvs (.inr s) f.d = kv1 at *
      by_cases hpos : (0 : Int) < (ls.length : Int)
      · try (simp only [↓jAe,↓jAl,↓jEr,↓jDi,↓jAy,↓jAd,↓jEg,↓jA3,↓jEq,↓jAp,↓jAi,↓jBj,↓jBl,↓jBq,↓jCy,↓jCo,↓jBp,↓jA0,↓e_c,↓jA8,↓jA1,↓jBc,↓jAf,↓jA2,↓jAa,↓jAn,↓jBu,↓jAv,  ↓jB2,↓jF7,↓jEh,↓jEs,↓jF0,↓jBa,↓jBy,↓jCx,↓jC7,↓jC4,↓jCj,↓jCf,↓jA9,↓jA7,↓jA6,↓jA4,↓jB6,↓jA5,↓jAt,↓jBv,↓jB3,↓jB9,↓jB8,↓jCa,↓jAx,↓jAw,↓jCm,↓jAz,↓jD4,↓jBk,↓jCi,↓jB5,↓jC3,jCv,↓jEy,↓jDa,↓jEl,↓jEn,jDv,↓jAg,↓jCg,↓jB7,↓jBh,↓jC8,↓jAc,↓jB4,jEt,↓jD0,↓jCp,↓jEc,↓jEm,↓jF6,jD8,↓jD5,↓jC5,↓jCq,↓jEk,↓jEu,↓jBi,↓jDm,↓jEj,↓jCw,↓jCs,↓jDc,↓jBx,jCk,jCb,↓jE4,↓jF4,  ↓jCl,↓jEv,↓jCu,↓jCr,↓jCn,↓jEo,↓jEz,↓e_I,↓jBd,↓jBn,↓jF2,↓jAo,↓jB0,↓jBo,↓jD1,↓jE7,↓jEx,↓jC6,↓jD9,↓jAj,↓jE3,↓jD6,↓jAs,↓jD3,↓jF1,↓jBr,↓jE8,↓jD7,↓jBe,↓jCd,↓jEi,↓jC9,↓jEp,↓jDy,↓jAk,↓jD2,↓jCe,↓jAb,↓jB1,  jBw,jC0,jAq,jE0,jDx,jE1,jEe,jE9,jAm,jAr,jBf,jF3,jDw,jEw,jEb,jBb,jBz,jCc,zln,znl,zli,zil,zni,zin,jAh,CMul,CDiv,jDk,true_or,or_true,jDt,jDn,jDz,jDj,jDq,jDp,jE5,jE2,jDr,jDg,jDl,jDe,jDu,jDh,jE6,jEa,jEf,jDs,jEd,jDf,  List.set_cons_zero,List.set_cons_succ,List.set_nil,List.getElem?_cons_zero,List.getElem?_cons_succ,List.getElem?_nil,List.length_cons,List.length_nil,List.length_map,List.length_append,jC2,jCh,jBt,jC1,List.getLast?_concat,List.dropLast_concat,List.nil_append,List.cons_append,List.append_nil,List.append_assoc,List.reverse_cons,List.reverse_nil,List.isEmpty_nil,List.isEmpty_cons,jBg,List.any_cons,List.any_nil,List.all_cons,List.all_nil,flatD,eqF,jCt,jAu,jDd,jDo,jCz,jDb,jF5,startA,List.map_cons,List.map_nil,List.replicate_succ,List.replicate_zero,  Nat.reduceAdd,Nat.reduceSub,Nat.reduceLeDiff,Nat.zero_add,Int.reduceLE,Int.reduceLT,Int.reduceToNat,Int.reducePow,Int.reduceNeg,Int.reduceAdd,Int.reduceSub,  Option.isSome_some,Option.isSome_none,Bool.not_true,Bool.not_false,Bool.not_eq_true',Bool.not_eq_eq_eq_not,Bool.not_eq_true,Bool.false_eq_true,Bool.true_eq_false,Bool.and_true,Bool.true_and,Bool.or_false,Bool.false_or,Bool.or_true,Bool.true_or,Bool.and_false,Bool.false_and,if_true,if_false,ite_true,ite_false,reduceIte,reduceCtorEq,decide_true,decide_false,decide_eq_true_eq,decide_eq_false_iff_not,true_and,and_true,eq_self,ne_eq,not_false_eq_true,not_true_eq_false,and_self, *])
        refine ⟨rfl, b, d, 2, rfl, b3, by decide, fun v2 M5 w0 w1 b5 x5 => ?_⟩
        have o5 := x5 _ _ nob.1.symm o3
        have l5 := x5 _ _ nbl.symm l3
        have t5 := x5 _ _ ntb.1.symm t3
        by_cases hv2 : v2 = 0
        · subst hv2
          try (simp only [↓jAe,↓jAl,↓jEr,↓jDi,↓jAy,↓jAd,↓jEg,↓jA3,↓jEq,↓jAp,↓jAi,↓jBj,↓jBl,↓jBq,↓jCy,↓jCo,↓jBp,↓jA0,↓e_c,↓jA8,↓jA1,↓jBc,↓jAf,↓jA2,↓jAa,↓jAn,↓jBu,↓jAv,  ↓jB2,↓jF7,↓jEh,↓jEs,↓jF0,↓jBa,↓jBy,↓jCx,↓jC7,↓jC4,↓jCj,↓jCf,↓jA9,↓jA7,↓jA6,↓jA4,↓jB6,↓jA5,↓jAt,↓jBv,↓jB3,↓jB9,↓jB8,↓jCa,↓jAx,↓jAw,↓jCm,↓jAz,↓jD4,↓jBk,↓jCi,↓jB5,↓jC3,jCv,↓jEy,↓jDa,↓jEl,↓jEn,jDv,↓jAg,↓jCg,↓jB7,↓jBh,↓jC8,↓jAc,↓jB4,jEt,↓jD0,↓jCp,↓jEc,↓jEm,↓jF6,jD8,↓jD5,↓jC5,↓jCq,↓jEk,↓jEu,↓jBi,↓jDm,↓jEj,↓jCw,↓jCs,↓jDc,↓jBx,jCk,jCb,↓jE4,↓jF4,  ↓jCl,↓jEv,↓jCu,↓jCr,↓jCn,↓jEo,↓jEz,↓e_I,↓jBd,↓jBn,↓jF2,↓jAo,↓jB0,↓jBo,↓jD1,↓jE7,↓jEx,↓jC6,↓jD9,↓jAj,↓jE3,↓jD6,↓jAs,↓jD3,↓jF1,↓jBr,↓jE8,↓jD7,↓jBe,↓jCd,↓jEi,↓jC9,↓jEp,↓jDy,↓jAk,↓jD2,↓jCe,↓jAb,↓jB1,  jBw,jC0,jAq,jE0,jDx,jE1,jEe,jE9,jAm,jAr,jBf,jF3,jDw,jEw,jEb,jBb,jBz,jCc,zln,znl,zli,zil,zni,zin,jAh,CMul,CDiv,jDk,true_or,or_true,jDt,jDn,jDz,jDj,jDq,jDp,jE5,jE2,jDr,jDg,jDl,jDe,jDu,jDh,jE6,jEa,jEf,jDs,jEd,jDf,  List.set_cons_zero,List.set_cons_succ,List.set_nil,List.getElem?_cons_zero,List.getElem?_cons_succ,List.getElem?_nil,List.length_cons,List.length_nil,List.length_map,List.length_append,jC2,jCh,jBt,jC1,List.getLast?_concat,List.dropLast_concat,List.nil_append,List.cons_append,List.append_nil,List.append_assoc,List.reverse_cons,List.reverse_nil,List.isEmpty_nil,List.isEmpty_cons,jBg,List.any_cons,List.any_nil,List.all_cons,List.all_nil,flatD,eqF,jCt,jAu,jDd,jDo,jCz,jDb,jF5,startA,List.map_cons,List.map_nil,List.replicate_succ,List.replicate_zero,  Nat.reduceAdd,Nat.reduceSub,Nat.reduceLeDiff,Nat.zero_add,Int.reduceLE,Int.reduceLT,Int.reduceToNat,Int.reducePow,Int.reduceNeg,Int.reduceAdd,Int.reduceSub,  Option.isSome_some,Option.isSome_none,Bool.not_true,Bool.not_false,Bool.not_eq_true',Bool.not_eq_eq_eq_not,Bool.not_eq_true,Bool.false_eq_true,Bool.true_eq_false,Bool.and_true,Bool.true_and,Bool.or_false,Bool.false_or,Bool.or_true,Bool.true_or,Bool.and_false,Bool.false_and,if_true,if_false,ite_true,ite_false,reduceIte,reduceCtorEq,decide_true,decide_false,decide_eq_true_eq,decide_eq_false_iff_not,true_and,and_true,eq_self,ne_eq,not_false_eq_true,not_true_eq_false,and_self, *])
          refine ⟨rfl, b, d, 1000, rfl, b5, by decide, fun v3 M6 w2 w3 b6 x6 => ?_⟩
          have o6 := x6 _ _ nob.1.symm o5
          have l6 := x6 _ _ nbl.symm l5
          have t6 := x6 _ _ ntb.1.symm t5
          obtain ⟨⟨g, wy⟩, hz, hat, _⟩ := at_memL (ls := ls) (i := v3 % (ls.length : Int)) (Int.emod_nonneg _ (by omega)) (Int.emod_lt_of_pos _ hpos)
          have hd : lnD (g, wy) = .tup [g.d, wy.d] := rfl
          have hg : Lg g := hlg (g, wy) hz
          have pz2 := putA_length kv1 (.inr s) g.d
          have vl : valA (putA kv1 (.inr s) g.d) (.inr s) = some g.d := by rw [valA_put, if_pos rfl]
          have oth := oth_put (n := s) (w := g.d) fun s' v _ hv => hok1 s' v hv
          have b7 := b6.upd (mo := .dic (putA kv1 (.inr s) g.d)) ntb.1 ntb.2
          have x7 : ExtB b M (up M6 t (.dic (putA kv1 (.inr s) g.d))) := ExtB.updF nt0 ((x3.trans x5).trans x6)
          have o7 : (up M6 t (.dic (putA kv1 (.inr s) g.d))) o = some (.lst (names4.map D.str)) := by rw [up_ne nto.symm]; exact o6
          have l7 : (up M6 t (.dic (putA kv1 (.inr s) g.d))) l = some (.lst (ls.map lnD)) := by rw [up_ne ntl]; exact l6
          have t7 : (up M6 t (.dic (putA kv1 (.inr s) g.d))) t = some (.dic (putA kv1 (.inr s) g.d)) := up_same
          try (simp only [↓jAe,↓jAl,↓jEr,↓jDi,↓jAy,↓jAd,↓jEg,↓jA3,↓jEq,↓jAp,↓jAi,↓jBj,↓jBl,↓jBq,↓jCy,↓jCo,↓jBp,↓jA0,↓e_c,↓jA8,↓jA1,↓jBc,↓jAf,↓jA2,↓jAa,↓jAn,↓jBu,↓jAv,  ↓jB2,↓jF7,↓jEh,↓jEs,↓jF0,↓jBa,↓jBy,↓jCx,↓jC7,↓jC4,↓jCj,↓jCf,↓jA9,↓jA7,↓jA6,↓jA4,↓jB6,↓jA5,↓jAt,↓jBv,↓jB3,↓jB9,↓jB8,↓jCa,↓jAx,↓jAw,↓jCm,↓jAz,↓jD4,↓jBk,↓jCi,↓jB5,↓jC3,jCv,↓jEy,↓jDa,↓jEl,↓jEn,jDv,↓jAg,↓jCg,↓jB7,↓jBh,↓jC8,↓jAc,↓jB4,jEt,↓jD0,↓jCp,↓jEc,↓jEm,↓jF6,jD8,↓jD5,↓jC5,↓jCq,↓jEk,↓jEu,↓jBi,↓jDm,↓jEj,↓jCw,↓jCs,↓jDc,↓jBx,jCk,jCb,↓jE4,↓jF4,  ↓jCl,↓jEv,↓jCu,↓jCr,↓jCn,↓jEo,↓jEz,↓e_I,↓jBd,↓jBn,↓jF2,↓jAo,↓jB0,↓jBo,↓jD1,↓jE7,↓jEx,↓jC6,↓jD9,↓jAj,↓jE3,↓jD6,↓jAs,↓jD3,↓jF1,↓jBr,↓jE8,↓jD7,↓jBe,↓jCd,↓jEi,↓jC9,↓jEp,↓jDy,↓jAk,↓jD2,↓jCe,↓jAb,↓jB1,  jBw,jC0,jAq,jE0,jDx,jE1,jEe,jE9,jAm,jAr,jBf,jF3,jDw,jEw,jEb,jBb,jBz,jCc,zln,znl,zli,zil,zni,zin,jAh,CMul,CDiv,jDk,true_or,or_true,jDt,jDn,jDz,jDj,jDq,jDp,jE5,jE2,jDr,jDg,jDl,jDe,jDu,jDh,jE6,jEa,jEf,jDs,jEd,jDf,  List.set_cons_zero,List.set_cons_succ,List.set_nil,List.getElem?_cons_zero,List.getElem?_cons_succ,List.getElem?_nil,List.length_cons,List.length_nil,List.length_map,List.length_append,jC2,jCh,jBt,jC1,List.getLast?_concat,List.dropLast_concat,List.nil_append,List.cons_append,List.append_nil,List.append_assoc,List.reverse_cons,List.reverse_nil,List.isEmpty_nil,List.isEmpty_cons,jBg,List.any_cons,List.any_nil,List.all_cons,List.all_nil,flatD,eqF,jCt,jAu,jDd,jDo,jCz,jDb,jF5,startA,List.map_cons,List.map_nil,List.replicate_succ,List.replicate_zero,  Nat.reduceAdd,Nat.reduceSub,Nat.reduceLeDiff,Nat.zero_add,Int.reduceLE,Int.reduceLT,Int.reduceToNat,Int.reducePow,Int.reduceNeg,Int.reduceAdd,Int.reduceSub,  Option.isSome_some,Option.isSome_none,Bool.not_true,Bool.not_false,Bool.not_eq_true',Bool.not_eq_eq_eq_not,Bool.not_eq_true,Bool.false_eq_true,Bool.true_eq_false,Bool.and_true,Bool.true_and,Bool.or_false,Bool.false_or,Bool.or_true,Bool.true_or,Bool.and_false,Bool.false_and,if_true,if_false,ite_true,ite_false,reduceIte,reduceCtorEq,decide_true,decide_false,decide_eq_true_eq,decide_eq_false_iff_not,true_and,and_true,eq_self,ne_eq,not_false_eq_true,not_true_eq_false,and_self, *])
          refine ⟨by omega, ?_⟩
          generalize up M6 t (.dic (putA kv1 (.inr s) g.d)) = M7 at *
          generalize putA kv1 (.inr s) g.d = kv2 at *
          have tl7 := tailF M7 kv2 g o7 t7 l7 b7 x7 (by omega) vl hg oth
          cases g with
          | lt c =>
            have hgd := Fm.d_lt c
            try (simp only [↓jAe,↓jAl,↓jEr,↓jDi,↓jAy,↓jAd,↓jEg,↓jA3,↓jEq,↓jAp,↓jAi,↓jBj,↓jBl,↓jBq,↓jCy,↓jCo,↓jBp,↓jA0,↓e_c,↓jA8,↓jA1,↓jBc,↓jAf,↓jA2,↓jAa,↓jAn,↓jBu,↓jAv,  ↓jB2,↓jF7,↓jEh,↓jEs,↓jF0,↓jBa,↓jBy,↓jCx,↓jC7,↓jC4,↓jCj,↓jCf,↓jA9,↓jA7,↓jA6,↓jA4,↓jB6,↓jA5,↓jAt,↓jBv,↓jB3,↓jB9,↓jB8,↓jCa,↓jAx,↓jAw,↓jCm,↓jAz,↓jD4,↓jBk,↓jCi,↓jB5,↓jC3,jCv,↓jEy,↓jDa,↓jEl,↓jEn,jDv,↓jAg,↓jCg,↓jB7,↓jBh,↓jC8,↓jAc,↓jB4,jEt,↓jD0,↓jCp,↓jEc,↓jEm,↓jF6,jD8,↓jD5,↓jC5,↓jCq,↓jEk,↓jEu,↓jBi,↓jDm,↓jEj,↓jCw,↓jCs,↓jDc,↓jBx,jCk,jCb,↓jE4,↓jF4,  ↓jCl,↓jEv,↓jCu,↓jCr,↓jCn,↓jEo,↓jEz,↓e_I,↓jBd,↓jBn,↓jF2,↓jAo,↓jB0,↓jBo,↓jD1,↓jE7,↓jEx,↓jC6,↓jD9,↓jAj,↓jE3,↓jD6,↓jAs,↓jD3,↓jF1,↓jBr,↓jE8,↓jD7,↓jBe,↓jCd,↓jEi,↓jC9,↓jEp,↓jDy,↓jAk,↓jD2,↓jCe,↓jAb,↓jB1,  jBw,jC0,jAq,jE0,jDx,jE1,jEe,jE9,jAm,jAr,jBf,jF3,jDw,jEw,jEb,jBb,jBz,jCc,zln,znl,zli,zil,zni,zin,jAh,CMul,CDiv,jDk,true_or,or_true,jDt,jDn,jDz,jDj,jDq,jDp,jE5,jE2,jDr,jDg,jDl,jDe,jDu,jDh,jE6,jEa,jEf,jDs,jEd,jDf,  List.set_cons_zero,List.set_cons_succ,List.set_nil,List.getElem?_cons_zero,List.getElem?_cons_succ,List.getElem?_nil,List.length_cons,List.length_nil,List.length_map,List.length_append,jC2,jCh,jBt,jC1,List.getLast?_concat,List.dropLast_concat,List.nil_append,List.cons_append,List.append_nil,List.append_assoc,List.reverse_cons,List.reverse_nil,List.isEmpty_nil,List.isEmpty_cons,jBg,List.any_cons,List.any_nil,List.all_cons,List.all_nil,flatD,eqF,jCt,jAu,jDd,jDo,jCz,jDb,jF5,startA,List.map_cons,List.map_nil,List.replicate_succ,List.replicate_zero,  Nat.reduceAdd,Nat.reduceSub,Nat.reduceLeDiff,Nat.zero_add,Int.reduceLE,Int.reduceLT,Int.reduceToNat,Int.reducePow,Int.reduceNeg,Int.reduceAdd,Int.reduceSub,  Option.isSome_some,Option.isSome_none,Bool.not_true,Bool.not_false,Bool.not_eq_true',Bool.not_eq_eq_eq_not,Bool.not_eq_true,Bool.false_eq_true,Bool.true_eq_false,Bool.and_true,Bool.true_and,Bool.or_false,Bool.false_or,Bool.or_true,Bool.true_or,Bool.and_false,Bool.false_and,if_true,if_false,ite_true,ite_false,reduceIte,reduceCtorEq,decide_true,decide_false,decide_eq_true_eq,decide_eq_false_iff_not,true_and,and_true,eq_self,ne_eq,not_false_eq_true,not_true_eq_false,and_self, *])
            rw [hgd] at tl7
            exact tl7
          | ng c =>
            have hgd := Fm.d_ng c
            try (simp only [↓jAe,↓jAl,↓jEr,↓jDi,↓jAy,↓jAd,↓jEg,↓jA3,↓jEq,↓jAp,↓jAi,↓jBj,↓jBl,↓jBq,↓jCy,↓jCo,↓jBp,↓jA0,↓e_c,↓jA8,↓jA1,↓jBc,↓jAf,↓jA2,↓jAa,↓jAn,↓jBu,↓jAv,  ↓jB2,↓jF7,↓jEh,↓jEs,↓jF0,↓jBa,↓jBy,↓jCx,↓jC7,↓jC4,↓jCj,↓jCf,↓jA9,↓jA7,↓jA6,↓jA4,↓jB6,↓jA5,↓jAt,↓jBv,↓jB3,↓jB9,↓jB8,↓jCa,↓jAx,↓jAw,↓jCm,↓jAz,↓jD4,↓jBk,↓jCi,↓jB5,↓jC3,jCv,↓jEy,↓jDa,↓jEl,↓jEn,jDv,↓jAg,↓jCg,↓jB7,↓jBh,↓jC8,↓jAc,↓jB4,jEt,↓jD0,↓jCp,↓jEc,↓jEm,↓jF6,jD8,↓jD5,↓jC5,↓jCq,↓jEk,↓jEu,↓jBi,↓jDm,↓jEj,↓jCw,↓jCs,↓jDc,↓jBx,jCk,jCb,↓jE4,↓jF4,  ↓jCl,↓jEv,↓jCu,↓jCr,↓jCn,↓jEo,↓jEz,↓e_I,↓jBd,↓jBn,↓jF2,↓jAo,↓jB0,↓jBo,↓jD1,↓jE7,↓jEx,↓jC6,↓jD9,↓jAj,↓jE3,↓jD6,↓jAs,↓jD3,↓jF1,↓jBr,↓jE8,↓jD7,↓jBe,↓jCd,↓jEi,↓jC9,↓jEp,↓jDy,↓jAk,↓jD2,↓jCe,↓jAb,↓jB1,  jBw,jC0,jAq,jE0,jDx,jE1,jEe,jE9,jAm,jAr,jBf,jF3,jDw,jEw,jEb,jBb,jBz,jCc,zln,znl,zli,zil,zni,zin,jAh,CMul,CDiv,jDk,true_or,or_true,jDt,jDn,jDz,jDj,jDq,jDp,jE5,jE2,jDr,jDg,jDl,jDe,jDu,jDh,jE6,jEa,jEf,jDs,jEd,jDf,  List.set_cons_zero,List.set_cons_succ,List.set_nil,List.getElem?_cons_zero,List.getElem?_cons_succ,List.getElem?_nil,List.length_cons,List.length_nil,List.length_map,List.length_append,jC2,jCh,jBt,jC1,List.getLast?_concat,List.dropLast_concat,List.nil_append,List.cons_append,List.append_nil,List.append_assoc,List.reverse_cons,List.reverse_nil,List.isEmpty_nil,List.isEmpty_cons,jBg,List.any_cons,List.any_nil,List.all_cons,List.all_nil,flatD,eqF,jCt,jAu,jDd,jDo,jCz,jDb,jF5,startA,List.map_cons,List.map_nil,List.replicate_succ,List.replicate_zero,  Nat.reduceAdd,Nat.reduceSub,Nat.reduceLeDiff,Nat.zero_add,Int.reduceLE,Int.reduceLT,Int.reduceToNat,Int.reducePow,Int.reduceNeg,Int.reduceAdd,Int.reduceSub,  Option.isSome_some,Option.isSome_none,Bool.not_true,Bool.not_false,Bool.not_eq_true',Bool.not_eq_eq_eq_not,Bool.not_eq_true,Bool.false_eq_true,Bool.true_eq_false,Bool.and_true,Bool.true_and,Bool.or_false,Bool.false_or,Bool.or_true,Bool.true_or,Bool.and_false,Bool.false_and,if_true,if_false,ite_true,ite_false,reduceIte,reduceCtorEq,decide_true,decide_false,decide_eq_true_eq,decide_eq_false_iff_not,true_and,and_true,eq_self,ne_eq,not_false_eq_true,not_true_eq_false,and_self, *])
            rw [hgd] at tl7
            exact tl7
          | im c e =>
            have hgd := Fm.d_im c e
            try (simp only [↓jAe,↓jAl,↓jEr,↓jDi,↓jAy,↓jAd,↓jEg,↓jA3,↓jEq,↓jAp,↓jAi,↓jBj,↓jBl,↓jBq,↓jCy,↓jCo,↓jBp,↓jA0,↓e_c,↓jA8,↓jA1,↓jBc,↓jAf,↓jA2,↓jAa,↓jAn,↓jBu,↓jAv,  ↓jB2,↓jF7,↓jEh,↓jEs,↓jF0,↓jBa,↓jBy,↓jCx,↓jC7,↓jC4,↓jCj,↓jCf,↓jA9,↓jA7,↓jA6,↓jA4,↓jB6,↓jA5,↓jAt,↓jBv,↓jB3,↓jB9,↓jB8,↓jCa,↓jAx,↓jAw,↓jCm,↓jAz,↓jD4,↓jBk,↓jCi,↓jB5,↓jC3,jCv,↓jEy,↓jDa,↓jEl,↓jEn,jDv,↓jAg,↓jCg,↓jB7,↓jBh,↓jC8,↓jAc,↓jB4,jEt,↓jD0,↓jCp,↓jEc,↓jEm,↓jF6,jD8,↓jD5,↓jC5,↓jCq,↓jEk,↓jEu,↓jBi,↓jDm,↓jEj,↓jCw,↓jCs,↓jDc,↓jBx,jCk,jCb,↓jE4,↓jF4,  ↓jCl,↓jEv,↓jCu,↓jCr,↓jCn,↓jEo,↓jEz,↓e_I,↓jBd,↓jBn,↓jF2,↓jAo,↓jB0,↓jBo,↓jD1,↓jE7,↓jEx,↓jC6,↓jD9,↓jAj,↓jE3,↓jD6,↓jAs,↓jD3,↓jF1,↓jBr,↓jE8,↓jD7,↓jBe,↓jCd,↓jEi,↓jC9,↓jEp,↓jDy,↓jAk,↓jD2,↓jCe,↓jAb,↓jB1,  jBw,jC0,jAq,jE0,jDx,jE1,jEe,jE9,jAm,jAr,jBf,jF3,jDw,jEw,jEb,jBb,jBz,jCc,zln,znl,zli,zil,zni,zin,jAh,CMul,CDiv,jDk,true_or,or_true,jDt,jDn,jDz,jDj,jDq,jDp,jE5,jE2,jDr,jDg,jDl,jDe,jDu,jDh,jE6,jEa,jEf,jDs,jEd,jDf,  List.set_cons_zero,List.set_cons_succ,List.set_nil,List.getElem?_cons_zero,List.getElem?_cons_succ,List.getElem?_nil,List.length_cons,List.length_nil,List.length_map,List.length_append,jC2,jCh,jBt,jC1,List.getLast?_concat,List.dropLast_concat,List.nil_append,List.cons_append,List.append_nil,List.append_assoc,List.reverse_cons,List.reverse_nil,List.isEmpty_nil,List.isEmpty_cons,jBg,List.any_cons,List.any_nil,List.all_cons,List.all_nil,flatD,eqF,jCt,jAu,jDd,jDo,jCz,jDb,jF5,startA,List.map_cons,List.map_nil,List.replicate_succ,List.replicate_zero,  Nat.reduceAdd,Nat.reduceSub,Nat.reduceLeDiff,Nat.zero_add,Int.reduceLE,Int.reduceLT,Int.reduceToNat,Int.reducePow,Int.reduceNeg,Int.reduceAdd,Int.reduceSub,  Option.isSome_some,Option.isSome_none,Bool.not_true,Bool.not_false,Bool.not_eq_true',Bool.not_eq_eq_eq_not,Bool.not_eq_true,Bool.false_eq_true,Bool.true_eq_false,Bool.and_true,Bool.true_and,Bool.or_false,Bool.false_or,Bool.or_true,Bool.true_or,Bool.and_false,Bool.false_and,if_true,if_false,ite_true,ite_false,reduceIte,reduceCtorEq,decide_true,decide_false,decide_eq_true_eq,decide_eq_false_iff_not,true_and,and_true,eq_self,ne_eq,not_false_eq_true,not_true_eq_false,and_self, *])
            refine ⟨rfl, b, d, 2, rfl, b7, by decide, fun v4 M8 w4 w5 b8 x8 => ?_⟩
            have o8 := x8 _ _ nob.1.symm o7
            have l8 := x8 _ _ nbl.symm l7
            have t8 := x8 _ _ ntb.1.symm t7
            by_cases hv4 : v4 = 0
            · subst hv4
              try (simp only [↓jAe,↓jAl,↓jEr,↓jDi,↓jAy,↓jAd,↓jEg,↓jA3,↓jEq,↓jAp,↓jAi,↓jBj,↓jBl,↓jBq,↓jCy,↓jCo,↓jBp,↓jA0,↓e_c,↓jA8,↓jA1,↓jBc,↓jAf,↓jA2,↓jAa,↓jAn,↓jBu,↓jAv,  ↓jB2,↓jF7,↓jEh,↓jEs,↓jF0,↓jBa,↓jBy,↓jCx,↓jC7,↓jC4,↓jCj,↓jCf,↓jA9,↓jA7,↓jA6,↓jA4,↓jB6,↓jA5,↓jAt,↓jBv,↓jB3,↓jB9,↓jB8,↓jCa,↓jAx,↓jAw,↓jCm,↓jAz,↓jD4,↓jBk,↓jCi,↓jB5,↓jC3,jCv,↓jEy,↓jDa,↓jEl,↓jEn,jDv,↓jAg,↓jCg,↓jB7,↓jBh,↓jC8,↓jAc,↓jB4,jEt,↓jD0,↓jCp,↓jEc,↓jEm,↓jF6,jD8,↓jD5,↓jC5,↓jCq,↓jEk,↓jEu,↓jBi,↓jDm,↓jEj,↓jCw,↓jCs,↓jDc,↓jBx,jCk,jCb,↓jE4,↓jF4,  ↓jCl,↓jEv,↓jCu,↓jCr,↓jCn,↓jEo,↓jEz,↓e_I,↓jBd,↓jBn,↓jF2,↓jAo,↓jB0,↓jBo,↓jD1,↓jE7,↓jEx,↓jC6,↓jD9,↓jAj,↓jE3,↓jD6,↓jAs,↓jD3,↓jF1,↓jBr,↓jE8,↓jD7,↓jBe,↓jCd,↓jEi,↓jC9,↓jEp,↓jDy,↓jAk,↓jD2,↓jCe,↓jAb,↓jB1,  jBw,jC0,jAq,jE0,jDx,jE1,jEe,jE9,jAm,jAr,jBf,jF3,jDw,jEw,jEb,jBb,jBz,jCc,zln,znl,zli,zil,zni,zin,jAh,CMul,CDiv,jDk,true_or,or_true,jDt,jDn,jDz,jDj,jDq,jDp,jE5,jE2,jDr,jDg,jDl,jDe,jDu,jDh,jE6,jEa,jEf,jDs,jEd,jDf,  List.set_cons_zero,List.set_cons_succ,List.set_nil,List.getElem?_cons_zero,List.getElem?_cons_succ,List.getElem?_nil,List.length_cons,List.length_nil,List.length_map,List.length_append,jC2,jCh,jBt,jC1,List.getLast?_concat,List.dropLast_concat,List.nil_append,List.cons_append,List.append_nil,List.append_assoc,List.reverse_cons,List.reverse_nil,List.isEmpty_nil,List.isEmpty_cons,jBg,List.any_cons,List.any_nil,List.all_cons,List.all_nil,flatD,eqF,jCt,jAu,jDd,jDo,jCz,jDb,jF5,startA,List.map_cons,List.map_nil,List.replicate_succ,List.replicate_zero,  Nat.reduceAdd,Nat.reduceSub,Nat.reduceLeDiff,Nat.zero_add,Int.reduceLE,Int.reduceLT,Int.reduceToNat,Int.reducePow,Int.reduceNeg,Int.reduceAdd,Int.reduceSub,  Option.isSome_some,Option.isSome_none,Bool.not_true,Bool.not_false,Bool.not_eq_true',Bool.not_eq_eq_eq_not,Bool.not_eq_true,Bool.false_eq_true,Bool.true_eq_false,Bool.and_true,Bool.true_and,Bool.or_false,Bool.false_or,Bool.or_true,Bool.true_or,Bool.and_false,Bool.false_and,if_true,if_false,ite_true,ite_false,reduceIte,reduceCtorEq,decide_true,decide_false,decide_eq_true_eq,decide_eq_false_iff_not,true_and,and_true,eq_self,ne_eq,not_false_eq_true,not_true_eq_false,and_self, *])
              refine ⟨rfl, b, d, 2, rfl, b8, by decide, fun v5 M9 w6 w7 b9 x9 => ?_⟩
              have o9 := x9 _ _ nob.1.symm o8
              have l9 := x9 _ _ nbl.symm l8
              have t9 := x9 _ _ ntb.1.symm t8
              have pick : ∃ h : Fm, atI [D.str z_if, c.d, e.d] (1 + v5) = some h.d ∧ Lg h := by
                rcases (show v5 = 0 ∨ v5 = 1 by omega) with z | z
                · subst z; exact ⟨c, rfl, hg.im.1⟩
                · subst z; exact ⟨e, rfl, hg.im.2⟩
              obtain ⟨h, hat2, hlh⟩ := pick
              have pz3 := putA_length kv2 (.inr s) h.d
              have vl3 : valA (putA kv2 (.inr s) h.d) (.inr s) = some h.d := by rw [valA_put, if_pos rfl]
              have tl9 := tailF (up M9 t (.dic (putA kv2 (.inr s) h.d))) (putA kv2 (.inr s) h.d) h (by rw [up_ne nto.symm]; exact o9) up_same (by rw [up_ne ntl]; exact l9) (b9.upd ntb.1 ntb.2) (ExtB.updF nt0 ((x7.trans x8).trans x9)) (by omega) vl3 hlh (oth_put oth)
              try (simp only [↓jAe,↓jAl,↓jEr,↓jDi,↓jAy,↓jAd,↓jEg,↓jA3,↓jEq,↓jAp,↓jAi,↓jBj,↓jBl,↓jBq,↓jCy,↓jCo,↓jBp,↓jA0,↓e_c,↓jA8,↓jA1,↓jBc,↓jAf,↓jA2,↓jAa,↓jAn,↓jBu,↓jAv,  ↓jB2,↓jF7,↓jEh,↓jEs,↓jF0,↓jBa,↓jBy,↓jCx,↓jC7,↓jC4,↓jCj,↓jCf,↓jA9,↓jA7,↓jA6,↓jA4,↓jB6,↓jA5,↓jAt,↓jBv,↓jB3,↓jB9,↓jB8,↓jCa,↓jAx,↓jAw,↓jCm,↓jAz,↓jD4,↓jBk,↓jCi,↓jB5,↓jC3,jCv,↓jEy,↓jDa,↓jEl,↓jEn,jDv,↓jAg,↓jCg,↓jB7,↓jBh,↓jC8,↓jAc,↓jB4,jEt,↓jD0,↓jCp,↓jEc,↓jEm,↓jF6,jD8,↓jD5,↓jC5,↓jCq,↓jEk,↓jEu,↓jBi,↓jDm,↓jEj,↓jCw,↓jCs,↓jDc,↓jBx,jCk,jCb,↓jE4,↓jF4,  ↓jCl,↓jEv,↓jCu,↓jCr,↓jCn,↓jEo,↓jEz,↓e_I,↓jBd,↓jBn,↓jF2,↓jAo,↓jB0,↓jBo,↓jD1,↓jE7,↓jEx,↓jC6,↓jD9,↓jAj,↓jE3,↓jD6,↓jAs,↓jD3,↓jF1,↓jBr,↓jE8,↓jD7,↓jBe,↓jCd,↓jEi,↓jC9,↓jEp,↓jDy,↓jAk,↓jD2,↓jCe,↓jAb,↓jB1,  jBw,jC0,jAq,jE0,jDx,jE1,jEe,jE9,jAm,jAr,jBf,jF3,jDw,jEw,jEb,jBb,jBz,jCc,zln,znl,zli,zil,zni,zin,jAh,CMul,CDiv,jDk,true_or,or_true,jDt,jDn,jDz,jDj,jDq,jDp,jE5,jE2,jDr,jDg,jDl,jDe,jDu,jDh,jE6,jEa,jEf,jDs,jEd,jDf,  List.set_cons_zero,List.set_cons_succ,List.set_nil,List.getElem?_cons_zero,List.getElem?_cons_succ,List.getElem?_nil,List.length_cons,List.length_nil,List.length_map,List.length_append,jC2,jCh,jBt,jC1,List.getLast?_concat,List.dropLast_concat,List.nil_append,List.cons_append,List.append_nil,List.append_assoc,List.reverse_cons,List.reverse_nil,List.isEmpty_nil,List.isEmpty_cons,jBg,List.any_cons,List.any_nil,List.all_cons,List.all_nil,flatD,eqF,jCt,jAu,jDd,jDo,jCz,jDb,jF5,startA,List.map_cons,List.map_nil,List.replicate_succ,List.replicate_zero,  Nat.reduceAdd,Nat.reduceSub,Nat.reduceLeDiff,Nat.zero_add,Int.reduceLE,Int.reduceLT,Int.reduceToNat,Int.reducePow,Int.reduceNeg,Int.reduceAdd,Int.reduceSub,  Option.isSome_some,Option.isSome_none,Bool.not_true,Bool.not_false,Bool.not_eq_true',Bool.not_eq_eq_eq_not,Bool.not_eq_true,Bool.false_eq_true,Bool.true_eq_false,Bool.and_true,Bool.true_and,Bool.or_false,Bool.false_or,Bool.or_true,Bool.true_or,Bool.and_false,Bool.false_and,if_true,if_false,ite_true,ite_false,reduceIte,reduceCtorEq,decide_true,decide_false,decide_eq_true_eq,decide_eq_false_iff_not,true_and,and_true,eq_self,ne_eq,not_false_eq_true,not_true_eq_false,and_self, *])
              first | exact ⟨by omega, tl9⟩ | omega
            · have tl8 := tailF M8 kv2 (.im c e) o8 t8 l8 b8 (x7.trans x8) (by omega) vl hg oth
              try (simp only [↓jAe,↓jAl,↓jEr,↓jDi,↓jAy,↓jAd,↓jEg,↓jA3,↓jEq,↓jAp,↓jAi,↓jBj,↓jBl,↓jBq,↓jCy,↓jCo,↓jBp,↓jA0,↓e_c,↓jA8,↓jA1,↓jBc,↓jAf,↓jA2,↓jAa,↓jAn,↓jBu,↓jAv,  ↓jB2,↓jF7,↓jEh,↓jEs,↓jF0,↓jBa,↓jBy,↓jCx,↓jC7,↓jC4,↓jCj,↓jCf,↓jA9,↓jA7,↓jA6,↓jA4,↓jB6,↓jA5,↓jAt,↓jBv,↓jB3,↓jB9,↓jB8,↓jCa,↓jAx,↓jAw,↓jCm,↓jAz,↓jD4,↓jBk,↓jCi,↓jB5,↓jC3,jCv,↓jEy,↓jDa,↓jEl,↓jEn,jDv,↓jAg,↓jCg,↓jB7,↓jBh,↓jC8,↓jAc,↓jB4,jEt,↓jD0,↓jCp,↓jEc,↓jEm,↓jF6,jD8,↓jD5,↓jC5,↓jCq,↓jEk,↓jEu,↓jBi,↓jDm,↓jEj,↓jCw,↓jCs,↓jDc,↓jBx,jCk,jCb,↓jE4,↓jF4,  ↓jCl,↓jEv,↓jCu,↓jCr,↓jCn,↓jEo,↓jEz,↓e_I,↓jBd,↓jBn,↓jF2,↓jAo,↓jB0,↓jBo,↓jD1,↓jE7,↓jEx,↓jC6,↓jD9,↓jAj,↓jE3,↓jD6,↓jAs,↓jD3,↓jF1,↓jBr,↓jE8,↓jD7,↓jBe,↓jCd,↓jEi,↓jC9,↓jEp,↓jDy,↓jAk,↓jD2,↓jCe,↓jAb,↓jB1,  jBw,jC0,jAq,jE0,jDx,jE1,jEe,jE9,jAm,jAr,jBf,jF3,jDw,jEw,jEb,jBb,jBz,jCc,zln,znl,zli,zil,zni,zin,jAh,CMul,CDiv,jDk,true_or,or_true,jDt,jDn,jDz,jDj,jDq,jDp,jE5,jE2,jDr,jDg,jDl,jDe,jDu,jDh,jE6,jEa,jEf,jDs,jEd,jDf,  List.set_cons_zero,List.set_cons_succ,List.set_nil,List.getElem?_cons_zero,List.getElem?_cons_succ,List.getElem?_nil,List.length_cons,List.length_nil,List.length_map,List.length_append,jC2,jCh,jBt,jC1,List.getLast?_concat,List.dropLast_concat,List.nil_append,List.cons_append,List.append_nil,List.append_assoc,List.reverse_cons,List.reverse_nil,List.isEmpty_nil,List.isEmpty_cons,jBg,List.any_cons,List.any_nil,List.all_cons,List.all_nil,flatD,eqF,jCt,jAu,jDd,jDo,jCz,jDb,jF5,startA,List.map_cons,List.map_nil,List.replicate_succ,List.replicate_zero,  Nat.reduceAdd,Nat.reduceSub,Nat.reduceLeDiff,Nat.zero_add,Int.reduceLE,Int.reduceLT,Int.reduceToNat,Int.reducePow,Int.reduceNeg,Int.reduceAdd,Int.reduceSub,  Option.isSome_some,Option.isSome_none,Bool.not_true,Bool.not_false,Bool.not_eq_true',Bool.not_eq_eq_eq_not,Bool.not_eq_true,Bool.false_eq_true,Bool.true_eq_false,Bool.and_true,Bool.true_and,Bool.or_false,Bool.false_or,Bool.or_true,Bool.true_or,Bool.and_false,Bool.false_and,if_true,if_false,ite_true,ite_false,reduceIte,reduceCtorEq,decide_true,decide_false,decide_eq_true_eq,decide_eq_false_iff_not,true_and,and_true,eq_self,ne_eq,not_false_eq_true,not_true_eq_false,and_self, *])
              rw [hgd] at tl8
              exact tl8
        · try (simp only [↓jAe,↓jAl,↓jEr,↓jDi,↓jAy,↓jAd,↓jEg,↓jA3,↓jEq,↓jAp,↓jAi,↓jBj,↓jBl,↓jBq,↓jCy,↓jCo,↓jBp,↓jA0,↓e_c,↓jA8,↓jA1,↓jBc,↓jAf,↓jA2,↓jAa,↓jAn,↓jBu,↓jAv,  ↓jB2,↓jF7,↓jEh,↓jEs,↓jF0,↓jBa,↓jBy,↓jCx,↓jC7,↓jC4,↓jCj,↓jCf,↓jA9,↓jA7,↓jA6,↓jA4,↓jB6,↓jA5,↓jAt,↓jBv,↓jB3,↓jB9,↓jB8,↓jCa,↓jAx,↓jAw,↓jCm,↓jAz,↓jD4,↓jBk,↓jCi,↓jB5,↓jC3,jCv,↓jEy,↓jDa,↓jEl,↓jEn,jDv,↓jAg,↓jCg,↓jB7,↓jBh,↓jC8,↓jAc,↓jB4,jEt,↓jD0,↓jCp,↓jEc,↓jEm,↓jF6,jD8,↓jD5,↓jC5,↓jCq,↓jEk,↓jEu,↓jBi,↓jDm,↓jEj,↓jCw,↓jCs,↓jDc,↓jBx,jCk,jCb,↓jE4,↓jF4,  ↓jCl,↓jEv,↓jCu,↓jCr,↓jCn,↓jEo,↓jEz,↓e_I,↓jBd,↓jBn,↓jF2,↓jAo,↓jB0,↓jBo,↓jD1,↓jE7,↓jEx,↓jC6,↓jD9,↓jAj,↓jE3,↓jD6,↓jAs,↓jD3,↓jF1,↓jBr,↓jE8,↓jD7,↓jBe,↓jCd,↓jEi,↓jC9,↓jEp,↓jDy,↓jAk,↓jD2,↓jCe,↓jAb,↓jB1,  jBw,jC0,jAq,jE0,jDx,jE1,jEe,jE9,jAm,jAr,jBf,jF3,jDw,jEw,jEb,jBb,jBz,jCc,zln,znl,zli,zil,zni,zin,jAh,CMul,CDiv,jDk,true_or,or_true,jDt,jDn,jDz,jDj,jDq,jDp,jE5,jE2,jDr,jDg,jDl,jDe,jDu,jDh,jE6,jEa,jEf,jDs,jEd,jDf,  List.set_cons_zero,List.set_cons_succ,List.set_nil,List.getElem?_cons_zero,List.getElem?_cons_succ,List.getElem?_nil,List.length_cons,List.length_nil,List.length_map,List.length_append,jC2,jCh,jBt,jC1,List.getLast?_concat,List.dropLast_concat,List.nil_append,List.cons_append,List.append_nil,List.append_assoc,List.reverse_cons,List.reverse_nil,List.isEmpty_nil,List.isEmpty_cons,jBg,List.any_cons,List.any_nil,List.all_cons,List.all_nil,flatD,eqF,jCt,jAu,jDd,jDo,jCz,jDb,jF5,startA,List.map_cons,List.map_nil,List.replicate_succ,List.replicate_zero,  Nat.reduceAdd,Nat.reduceSub,Nat.reduceLeDiff,Nat.zero_add,Int.reduceLE,Int.reduceLT,Int.reduceToNat,Int.reducePow,Int.reduceNeg,Int.reduceAdd,Int.reduceSub,  Option.isSome_some,Option.isSome_none,Bool.not_true,Bool.not_false,Bool.not_eq_true',Bool.not_eq_eq_eq_not,Bool.not_eq_true,Bool.false_eq_true,Bool.true_eq_false,Bool.and_true,Bool.true_and,Bool.or_false,Bool.false_or,Bool.or_true,Bool.true_or,Bool.and_false,Bool.false_and,if_true,if_false,ite_true,ite_false,reduceIte,reduceCtorEq,decide_true,decide_false,decide_eq_true_eq,decide_eq_false_iff_not,true_and,and_true,eq_self,ne_eq,not_false_eq_true,not_true_eq_false,and_self, *])
          exact fin _ _ o5 t5 l5 b5 (x3.trans x5) (by omega) hok1
      · try (simp only [↓jAe,↓jAl,↓jEr,↓jDi,↓jAy,↓jAd,↓jEg,↓jA3,↓jEq,↓jAp,↓jAi,↓jBj,↓jBl,↓jBq,↓jCy,↓jCo,↓jBp,↓jA0,↓e_c,↓jA8,↓jA1,↓jBc,↓jAf,↓jA2,↓jAa,↓jAn,↓jBu,↓jAv,  ↓jB2,↓jF7,↓jEh,↓jEs,↓jF0,↓jBa,↓jBy,↓jCx,↓jC7,↓jC4,↓jCj,↓jCf,↓jA9,↓jA7,↓jA6,↓jA4,↓jB6,↓jA5,↓jAt,↓jBv,↓jB3,↓jB9,↓jB8,↓jCa,↓jAx,↓jAw,↓jCm,↓jAz,↓jD4,↓jBk,↓jCi,↓jB5,↓jC3,jCv,↓jEy,↓jDa,↓jEl,↓jEn,jDv,↓jAg,↓jCg,↓jB7,↓jBh,↓jC8,↓jAc,↓jB4,jEt,↓jD0,↓jCp,↓jEc,↓jEm,↓jF6,jD8,↓jD5,↓jC5,↓jCq,↓jEk,↓jEu,↓jBi,↓jDm,↓jEj,↓jCw,↓jCs,↓jDc,↓jBx,jCk,jCb,↓jE4,↓jF4,  ↓jCl,↓jEv,↓jCu,↓jCr,↓jCn,↓jEo,↓jEz,↓e_I,↓jBd,↓jBn,↓jF2,↓jAo,↓jB0,↓jBo,↓jD1,↓jE7,↓jEx,↓jC6,↓jD9,↓jAj,↓jE3,↓jD6,↓jAs,↓jD3,↓jF1,↓jBr,↓jE8,↓jD7,↓jBe,↓jCd,↓jEi,↓jC9,↓jEp,↓jDy,↓jAk,↓jD2,↓jCe,↓jAb,↓jB1,  jBw,jC0,jAq,jE0,jDx,jE1,jEe,jE9,jAm,jAr,jBf,jF3,jDw,jEw,jEb,jBb,jBz,jCc,zln,znl,zli,zil,zni,zin,jAh,CMul,CDiv,jDk,true_or,or_true,jDt,jDn,jDz,jDj,jDq,jDp,jE5,jE2,jDr,jDg,jDl,jDe,jDu,jDh,jE6,jEa,jEf,jDs,jEd,jDf,  List.set_cons_zero,List.set_cons_succ,List.set_nil,List.getElem?_cons_zero,List.getElem?_cons_succ,List.getElem?_nil,List.length_cons,List.length_nil,List.length_map,List.length_append,jC2,jCh,jBt,jC1,List.getLast?_concat,List.dropLast_concat,List.nil_append,List.cons_append,List.append_nil,List.append_assoc,List.reverse_cons,List.reverse_nil,List.isEmpty_nil,List.isEmpty_cons,jBg,List.any_cons,List.any_nil,List.all_cons,List.all_nil,flatD,eqF,jCt,jAu,jDd,jDo,jCz,jDb,jF5,startA,List.map_cons,List.map_nil,List.replicate_succ,List.replicate_zero,  Nat.reduceAdd,Nat.reduceSub,Nat.reduceLeDiff,Nat.zero_add,Int.reduceLE,Int.reduceLT,Int.reduceToNat,Int.reducePow,Int.reduceNeg,Int.reduceAdd,Int.reduceSub,  Option.isSome_some,Option.isSome_none,Bool.not_true,Bool.not_false,Bool.not_eq_true',Bool.not_eq_eq_eq_not,Bool.not_eq_true,Bool.false_eq_true,Bool.true_eq_false,Bool.and_true,Bool.true_and,Bool.or_false,Bool.false_or,Bool.or_true,Bool.true_or,Bool.and_false,Bool.false_and,if_true,if_false,ite_true,ite_false,reduceIte,reduceCtorEq,decide_true,decide_false,decide_eq_true_eq,decide_eq_false_iff_not,true_and,and_true,eq_self,ne_eq,not_false_eq_true,not_true_eq_false,and_self, *])
        exact fin _ _ o3 t3 l3 b3 x3 (by omega) hok1

def RightLn (ks : List Int) (ls : List Ln) (k : Nat) (l : Ln) : Prop := match l.2 with
  | .ax n => n ∈ ks ∧ InstOf n l.1
  | .hy => True
  | .dt i j => ∃ (i' j' : Nat) (c : Fm) (w u : Wy), i = (i' : Int) ∧ j = (j' : Int) ∧ i' < k ∧ j' < k ∧ ls[i']? = some (.im c l.1, w) ∧ ls[j']? = some (c, u)
def AllRight (ks : List Int) (ls : List Ln) : Prop := ∀ (k : Nat) (l : Ln), ls[k]? = some l → RightLn ks ls k l
theorem RightLn.app {ks : List Int} {ls r : List Ln} {k : Nat} {l : Ln} (h : RightLn ks ls k l) : RightLn ks (ls ++ r) k l := by
  obtain ⟨f, w⟩ := l
  cases w with
  | ax n => exact h
  | hy => trivial
  | dt i j =>
    obtain ⟨i', j', c, w, u, h1, h2, h3, h4, h5, h6⟩ := h
    have a1 := (List.getElem?_eq_some_iff.mp h5).1
    have a2 := (List.getElem?_eq_some_iff.mp h6).1
    exact ⟨i', j', c, w, u, h1, h2, h3, h4, by rw [List.getElem?_append_left a1]; exact h5, by rw [List.getElem?_append_left a2]; exact h6⟩
theorem AllRight.snoc {ks : List Int} {ls : List Ln} {l : Ln} (h : AllRight ks ls) (hl : RightLn ks ls ls.length l) : AllRight ks (ls ++ [l]) := fun k z hz => by
  by_cases hk : k < ls.length
  · rw [List.getElem?_append_left hk] at hz
    exact (h k z hz).app
  · rw [List.getElem?_append_right (by omega)] at hz
    have e : k - ls.length = 0 := by
      rcases Nat.eq_zero_or_pos (k - ls.length) with e | e
      · exact e
      · rw [List.getElem?_eq_none (by rw [List.length_singleton]; omega)] at hz
        cases hz
    rw [e] at hz
    have hz' : l = z := Option.some.inj hz
    subst hz'
    have e2 : k = ls.length := by omega
    subst e2
    exact hl.app
/- slots of _law_names: 0 formula, 1 part -/
def Fm.lets : Fm → List Str
  | .lt s => [s]
  | .ng p => p.lets
  | .im p q => p.lets ++ q.lets
def ax1 : Fm := .im (.lt z_a) (.im (.lt z_b) (.lt z_a))
def ax2 : Fm := .im (.im (.lt z_c) (.im (.lt z_b) (.lt z_a))) (.im (.im (.lt z_c) (.lt z_b)) (.im (.lt z_c) (.lt z_a)))
def ax3 : Fm := .im (.im (.lt z_d) (.im (.lt z_b) (.lt z_a))) (.im (.lt z_b) (.im (.lt z_d) (.lt z_a)))
def ax4 : Fm := .im (.im (.lt z_b) (.lt z_a)) (.im (.ng (.lt z_a)) (.ng (.lt z_b)))
def ax5 : Fm := .im (.ng (.ng (.lt z_a))) (.lt z_a)
def ax6 : Fm := .im (.lt z_a) (.ng (.ng (.lt z_a)))
theorem axs_eq : axs = [ax1, ax2, ax3, ax4, ax5, ax6] := rfl
def t_axioms : List (Key × D) := [(.inl 1, ax1.d), (.inl 2, ax2.d), (.inl 3, ax3.d), (.inl 4, ax4.d), (.inl 5, ax5.d), (.inl 6, ax6.d)]
theorem t_axioms_at {k : Int} (h1 : 1 ≤ k) (h2 : k ≤ 6) : ∃ f, f ∈ axs ∧ axs[(k - 1).toNat]? = some f ∧ valA t_axioms (.inl k) = some f.d := by
  have c : k = 1 ∨ k = 2 ∨ k = 3 ∨ k = 4 ∨ k = 5 ∨ k = 6 := by omega
  rw [axs_eq]
  rcases c with rfl | rfl | rfl | rfl | rfl | rfl
  · exact ⟨ax1, by simp, rfl, rfl⟩
  · exact ⟨ax2, by simp, rfl, rfl⟩
  · exact ⟨ax3, by simp, rfl, rfl⟩
  · exact ⟨ax4, by simp, rfl, rfl⟩
  · exact ⟨ax5, by simp, rfl, rfl⟩
  · exact ⟨ax6, by simp, rfl, rfl⟩
theorem t_axioms_none {k : Int} (h : k < 1 ∨ 6 < k) : valA t_axioms (.inl k) = none := by
  have n : ∀ j : Int, 1 ≤ j → j ≤ 6 → ¬ ((Sum.inl j : Key) = .inl k) := fun j h1 h2 e => by
    have := Sum.inl.inj e
    omega
  unfold t_axioms
  rw [valA_neg (n 1 (by omega) (by omega)), valA_neg (n 2 (by omega) (by omega)), valA_neg (n 3 (by omega) (by omega)), valA_neg (n 4 (by omega) (by omega)), valA_neg (n 5 (by omega) (by omega)), valA_neg (n 6 (by omega) (by omega))]
  rfl

/- slots of match: 0 pattern, 1 formula, 2 table, 3 waiting, 4 wanted, 5 given -/
/- slots of axiom: 0 k -/
def a_axiom  : ATS :=
    (aRet (aWGet t_axioms (aVar 0)))
/- slots of is_instance: 0 k, 1 formula, 2 pattern -/
/- slots of numbers: 0 strength -/
theorem Ext.updN {M M' : Sto} {a : Addr} {mo : MO} (h : Ext M M') (n : M a = Option.none) : Ext M (up M' a mo) := fun c o e => by
  rw [up_ne (fun z => by subst z; rw [n] at e; cases e)]
  exact h c o e
def A_paxiom : ASp := fun ds M Q _ => ∃ k : Int, ds = [.int k] ∧ (1 ≤ k ∧ k ≤ 6 → ∀ f, f ∈ axs → axs[(k - 1).toNat]? = some f → Q f.d M) ∧ (k < 1 ∨ 6 < k → Q .non M)
theorem p_axiom (ds : List D) (M : Sto) (Q : D → Sto → Prop) (Xa) (hl : ds.length = 1) (h : A_paxiom ds M Q Xa) : a_axiom ax0 (Done Q) (startA ["k"] ds) M := by
  obtain ⟨k, rfl, q1, q2⟩ := h
  unfold a_axiom
  by_cases c : 1 ≤ k ∧ k ≤ 6
  · obtain ⟨f, h1, h2, h3⟩ := t_axioms_at c.1 c.2
    have hq := q1 c f h1 h2
    have h4 : (valA t_axioms (.inl k)).getD .non = f.d := by rw [h3]; rfl
    clear q1 q2 h3
    try (simp only [↓jAd,↓jA0,↓jA1,↓jCs,jBw,List.getElem?_cons_zero,List.length_cons,List.length_nil,List.append_nil,startA,List.map_cons,List.map_nil,List.replicate_zero,Nat.reduceSub,Nat.zero_add, *])
  · have c' : k < 1 ∨ 6 < k := by omega
    have hq := q2 c'
    have h4 : (valA t_axioms (.inl k)).getD .non = .non := by rw [t_axioms_none c']; rfl
    clear q1 q2
    try (simp only [↓jAd,↓jA0,↓jA1,↓jCs,jBw,List.getElem?_cons_zero,List.length_cons,List.length_nil,List.append_nil,startA,List.map_cons,List.map_nil,List.replicate_zero,Nat.reduceSub,Nat.zero_add, *])
/- slots of holds: 0 model, 1 world, 2 formula, 3 strength -/
/- slots of holding: 0 model, 1 formula, 2 strength, 3 _, 4 later, 5 true, 6 broken, 7 conditions, 8 consequences, 9 faults, 10 held, 11 first, 12 second, 13 world, 14 formulas, 15 seen -/
/- slots of _law_holds: 0 model, 1 world, 2 formula, 3 strength, 4 later -/
def z_model : Str := "model"
structure Mdl where
  later : List (List Nat)
  giv : List (List Fm)
  brk : List Nat
def natsD (l : List Nat) : D := .tup (l.map fun k : Nat => D.int (k : Int))
def fmsD (r : List Fm) : D := .tup (r.map Fm.d)
def Mdl.d (m : Mdl) : D := .tup [.str z_model, .tup (m.later.map natsD), .tup (m.giv.map fmsD), natsD m.brk]
structure Mdl.Ok (m : Mdl) : Prop where
  inn : ∀ r ∈ m.later, ∀ v ∈ r, v < m.later.length
  len : m.giv.length = m.later.length
  tiny : ∀ r ∈ m.giv, ∀ g ∈ r, g.Tiny
theorem Fm.Tiny.ng {p : Fm} (h : (Fm.ng p).Tiny) : p.Tiny := ⟨by
  have h1 : max 0 (max p.py.depth 0) + 1 ≤ 60 := h.1
  omega, h.small.ng.2⟩
theorem Fm.Tiny.im {p q : Fm} (h : (Fm.im p q).Tiny) : p.Tiny ∧ q.Tiny := by
  have h1 : max 0 (max p.py.depth (max q.py.depth 0)) + 1 ≤ 60 := h.1
  exact ⟨⟨by omega, h.small.im.1.2⟩, ⟨by omega, h.small.im.2.2⟩⟩
structure Mdl.Kr (m : Mdl) : Prop where
  trans : ∀ w v u, v ∈ m.later.getD w [] → u ∈ m.later.getD v [] → u ∈ m.later.getD w []
  gmono : ∀ w v, v ∈ m.later.getD w [] → ∀ g ∈ m.giv.getD w [], g ∈ m.giv.getD v []
  bmono : ∀ w v, v ∈ m.later.getD w [] → w ∈ m.brk → v ∈ m.brk
def cup (n : Nat) (a b : List Nat) : List Nat := (List.range n).filter fun u => decide (u ∈ a) || decide (u ∈ b)
structure Bd (n : Nat) (rows : List (List Nat)) : Prop where
  len : rows.length = n
  inn : ∀ r ∈ rows, r.length ≤ n ∧ ∀ v ∈ r, v < n
theorem Bd.get {n w : Nat} {rows : List (List Nat)} (h : Bd n rows) : (rows.getD w []).length ≤ n ∧ ∀ v ∈ rows.getD w [], v < n := by
  rw [List.getD_eq_getElem?_getD]
  cases e : rows[w]? with
  | none => exact ⟨Nat.zero_le _, fun v hv => nomatch hv⟩
  | some r => exact h.inn r (List.mem_of_getElem? e)
theorem cup_len (n : Nat) (a b : List Nat) : (cup n a b).length ≤ n := by
  have z := List.length_filter_le (fun u => decide (u ∈ a) || decide (u ∈ b)) (List.range n)
  rw [List.length_range] at z
  exact z
theorem mem_cup {n u : Nat} {a b : List Nat} : u ∈ cup n a b ↔ u < n ∧ (u ∈ a ∨ u ∈ b) := by
  unfold cup
  rw [List.mem_filter, List.mem_range, Bool.or_eq_true, decide_eq_true_eq, decide_eq_true_eq]
theorem Bd.set {n w : Nat} {rows : List (List Nat)} {a b : List Nat} (h : Bd n rows) : Bd n (rows.set w (cup n a b)) := by
  refine ⟨by rw [List.length_set]; exact h.len, fun r hr => ?_⟩
  rcases List.mem_or_eq_of_mem_set hr with z | z
  · exact h.inn r z
  · rw [z]
    exact ⟨cup_len n a b, fun v hv => (mem_cup.mp hv).1⟩
abbrev natI (k : Nat) : D := .int (k : Int)
def RowsAt {α : Type} (f : α → D) (M : Sto) (p : Addr) (rows : List (List α)) : Prop := ∃ as : List Addr, M p = some (.lst (as.map D.obj)) ∧ as.length = rows.length ∧ ∀ (i : Nat) a r, as[i]? = some a → rows[i]? = some r → a ≠ p ∧ M a = some (.lst (r.map f))
section
variable {α : Type} {f : α → D} {M M' : Sto} {p b d x : Addr} {rows : List (List α)} {r : List α}
theorem obj_inj : ∀ {as bs : List Addr}, as.map D.obj = bs.map D.obj → as = bs
  | [], [], _ => rfl
  | [], _ :: _, h => by cases h
  | _ :: _, [], h => by cases h
  | a :: as, b :: bs, h => by
    rw [List.map_cons, List.map_cons] at h
    injection h with h1 h2
    injection h1 with h1
    rw [h1, obj_inj h2]
theorem RowsAt.nil (h : M p = some (.lst [])) : RowsAt f M p [] := ⟨[], h, rfl, fun i a r h => by simp at h⟩
theorem RowsAt.ext (h : RowsAt f M p rows) (e : Ext M M') : RowsAt f M' p rows := by
  obtain ⟨as, h1, h2, h3⟩ := h
  exact ⟨as, e _ _ h1, h2, fun i a r q1 q2 => ⟨(h3 i a r q1 q2).1, e _ _ (h3 i a r q1 q2).2⟩⟩
theorem RowsAt.get (h : RowsAt f M p rows) {w : Nat} (hw : w < rows.length) : ∃ (as : List Addr) (a : Addr), M p = some (.lst (as.map D.obj)) ∧ as.length = rows.length ∧ atI (as.map D.obj) (w : Int) = some (.obj a) ∧ M a = some (.lst ((rows.getD w []).map f)) ∧ a ≠ p := by
  obtain ⟨as, h1, h2, h3⟩ := h
  have hwa : w < as.length := by omega
  obtain ⟨n1, n2⟩ := h3 w as[w] rows[w] (List.getElem?_eq_getElem hwa) (List.getElem?_eq_getElem hw)
  refine ⟨as, as[w], h1, h2, ?_, ?_, n1⟩
  · rw [atIn, List.getElem?_map, List.getElem?_eq_getElem hwa]
    rfl
  · rw [List.getD_eq_getElem?_getD, List.getElem?_eq_getElem hw]
    exact n2
theorem RowsAt.snoc (h : RowsAt f M p rows) {as : List Addr} (e : M p = some (.lst (as.map D.obj))) (hx : M x = some (.lst (r.map f))) (nx : x ≠ p) : RowsAt f (up M p (.lst (as.map D.obj ++ [.obj x]))) p (rows ++ [r]) := by
  obtain ⟨as', h1, h2, h3⟩ := h
  rw [e] at h1
  injection h1 with h1
  injection h1 with h1
  have ea : as = as' := by
    exact obj_inj h1
  subst ea
  refine ⟨as ++ [x], by rw [up_same, List.map_append]; rfl, by rw [List.length_append, List.length_append, h2]; rfl, fun i a s q1 q2 => ?_⟩
  by_cases hi : i < as.length
  · rw [List.getElem?_append_left hi] at q1
    rw [List.getElem?_append_left (by omega)] at q2
    obtain ⟨n1, n2⟩ := h3 i a s q1 q2
    exact ⟨n1, by rw [up_ne n1]; exact n2⟩
  · rw [List.getElem?_append_right (by omega)] at q1
    rw [List.getElem?_append_right (by omega)] at q2
    rw [← h2] at q2
    cases hj : i - as.length with
    | zero =>
      rw [hj] at q1 q2
      cases q1
      cases q2
      exact ⟨nx, by rw [up_ne nx]; exact hx⟩
    | succ j =>
      rw [hj] at q1
      simp at q1
theorem RowsAt.put (h : RowsAt f M p rows) {as : List Addr} {w : Nat} (e : M p = some (.lst (as.map D.obj))) (hx : M x = some (.lst (r.map f))) (nx : x ≠ p) (hw : w < rows.length) : RowsAt f (up M p (.lst ((as.map D.obj).set w (.obj x)))) p (rows.set w r) := by
  obtain ⟨as', h1, h2, h3⟩ := h
  rw [e] at h1
  injection h1 with h1
  injection h1 with h1
  have ea : as = as' := by
    exact obj_inj h1
  subst ea
  refine ⟨as.set w x, by rw [up_same, List.map_set], by rw [List.length_set, List.length_set, h2], fun i a s q1 q2 => ?_⟩
  by_cases hi : w = i
  · subst hi
    rw [List.getElem?_set_self (by omega)] at q1
    rw [List.getElem?_set_self hw] at q2
    cases q1
    cases q2
    exact ⟨nx, by rw [up_ne nx]; exact hx⟩
  · rw [List.getElem?_set_ne hi] at q1 q2
    obtain ⟨n1, n2⟩ := h3 i a s q1 q2
    exact ⟨n1, by rw [up_ne n1]; exact n2⟩
end

def GR (ats r : List Fm) : Prop := r.Nodup ∧ ∀ g ∈ r, g ∈ ats
theorem nodup_le {α : Type} [DecidableEq α] : ∀ {xs ys : List α}, xs.Nodup → (∀ x ∈ xs, x ∈ ys) → xs.length ≤ ys.length
  | [], _, _, _ => Nat.zero_le _
  | x :: xs, ys, nd, h => by
    obtain ⟨n1, n2⟩ := List.nodup_cons.mp nd
    have hx := h x List.mem_cons_self
    have z := nodup_le (xs := xs) (ys := ys.erase x) n2 fun y hy => (List.mem_erase_of_ne fun e => n1 (by rw [← e]; exact hy)).mpr (h y (List.mem_cons_of_mem _ hy))
    rw [List.length_erase_of_mem hx] at z
    have := List.length_pos_of_mem hx
    rw [List.length_cons]
    omega
theorem RowsAt.at {α : Type} {f : α → D} {M : Sto} {p : Addr} {rows : List (List α)} (h : RowsAt f M p rows) {as : List Addr} (e : M p = some (.lst (as.map D.obj))) {w : Nat} (hw : w < rows.length) : ∃ a : Addr, a ∈ as ∧ as.length = rows.length ∧ atI (as.map D.obj) (w : Int) = some (.obj a) ∧ M a = some (.lst ((rows.getD w []).map f)) ∧ a ≠ p := by
  obtain ⟨as', h1, h2, h3⟩ := h
  rw [e] at h1
  injection h1 with h1
  injection h1 with h1
  have ea := obj_inj h1
  subst ea
  have hwa : w < as.length := by omega
  obtain ⟨n1, n2⟩ := h3 w as[w] rows[w] (List.getElem?_eq_getElem hwa) (List.getElem?_eq_getElem hw)
  refine ⟨as[w], List.getElem_mem hwa, h2, ?_, ?_, n1⟩
  · rw [atIn, List.getElem?_map, List.getElem?_eq_getElem hwa]
    rfl
  · rw [List.getD_eq_getElem?_getD, List.getElem?_eq_getElem hw]
    exact n2
def Off (M : Sto) (p k : Addr) : Prop := ∀ as : List Addr, M p = some (.lst (as.map D.obj)) → k ∉ as
theorem Off.same {M M' : Sto} {p k : Addr} (h : Off M p k) (e : M' p = M p) : Off M' p k := fun as q => h as (by rw [← e]; exact q)
theorem RowsAt.off {α : Type} {f : α → D} {M : Sto} {p x : Addr} {rows : List (List α)} {mo : MO} (h : RowsAt f M p rows) (hx : p ≠ x) (o : Off M p x) : RowsAt f (up M x mo) p rows := by
  obtain ⟨as, h1, h2, h3⟩ := h
  refine ⟨as, by rw [up_ne hx]; exact h1, h2, fun i a r q1 q2 => ?_⟩
  obtain ⟨n1, n2⟩ := h3 i a r q1 q2
  have nx : a ≠ x := fun z => o as h1 (by rw [← z]; exact List.mem_of_getElem? q1)
  exact ⟨n1, by rw [up_ne nx]; exact n2⟩
theorem Off.snoc {M : Sto} {p k x : Addr} {as : List Addr} (h : Off M p k) (e : M p = some (.lst (as.map D.obj))) (n : x ≠ k) : Off (up M p (.lst (as.map D.obj ++ [.obj x]))) p k := fun as' q => by
  rw [up_same] at q
  injection q with q
  injection q with q
  have q2 : (as ++ [x]).map D.obj = as'.map D.obj := by rw [List.map_append]; exact q
  rw [← obj_inj q2]
  exact fun z => (List.mem_append.mp z).elim (h as e) fun z => n (List.mem_singleton.mp z).symm
theorem Off.put {M : Sto} {p k x : Addr} {as : List Addr} {w : Nat} (h : Off M p k) (e : M p = some (.lst (as.map D.obj))) (n : x ≠ k) : Off (up M p (.lst ((as.map D.obj).set w (.obj x)))) p k := fun as' q => by
  rw [up_same] at q
  injection q with q
  injection q with q
  have q2 : (as.set w x).map D.obj = as'.map D.obj := by rw [List.map_set]; exact q
  rw [← obj_inj q2]
  exact fun z => (List.mem_or_eq_of_mem_set z).elim (h as e) fun z => n z.symm
def GM (R : List (List Nat)) (giv : List (List Fm)) (k : Nat) : Prop := ∀ w, w < k → ∀ v ∈ R.getD w [], ∀ g ∈ giv.getD w [], g ∈ giv.getD v []
def BM (R : List (List Nat)) (bs : List Nat) (k : Nat) : Prop := ∀ w, w < k → ∀ v ∈ R.getD w [], w ∈ bs → v ∈ bs
theorem getD_set {α : Type} {l : List α} {w v : Nat} {a d : α} (hv : v < l.length) : (l.set v a).getD w d = if v = w then a else l.getD w d := by
  rw [List.getD_eq_getElem?_getD, List.getD_eq_getElem?_getD]
  by_cases h : v = w
  · subst h
    rw [if_pos rfl, List.getElem?_set_self hv]
    rfl
  · rw [if_neg h, List.getElem?_set_ne h]
def addG (giv : List (List Fm)) (w v : Nat) : List (List Fm) := giv.set v (giv.getD v [] ++ (giv.getD w []).filter fun g => !decide (g ∈ giv.getD v []))
def addB (bs : List Nat) (w v : Nat) : List Nat := if w ∈ bs ∧ v ∉ bs then bs ++ [v] else bs
theorem addG_w {giv : List (List Fm)} {w v u : Nat} (hv : v < giv.length) (h : u ≠ v ∨ w = v) (h2 : u ≠ v ∨ u = w) : (addG giv w v).getD u [] = giv.getD u [] := by
  unfold addG
  rw [getD_set hv]
  by_cases e : v = u
  · subst e
    have e2 : w = v := h.elim (fun z => absurd rfl z) id
    subst e2
    rw [if_pos rfl]
    have z : (giv.getD w []).filter (fun g => !decide (g ∈ giv.getD w [])) = [] := List.filter_eq_nil_iff.mpr fun g hg => by simp only [hg, decide_true]; decide
    rw [z, List.append_nil]
  · rw [if_neg e]
theorem addG_mono {giv : List (List Fm)} {w v u : Nat} {g : Fm} (hv : v < giv.length) (h : g ∈ giv.getD u []) : g ∈ (addG giv w v).getD u [] := by
  unfold addG
  rw [getD_set hv]
  split
  · rename_i e
    subst e
    exact List.mem_append.mpr (.inl h)
  · exact h
theorem addG_v {giv : List (List Fm)} {w v : Nat} {g : Fm} (hv : v < giv.length) (h : g ∈ giv.getD w []) : g ∈ (addG giv w v).getD v [] := by
  unfold addG
  rw [getD_set hv, if_pos rfl]
  by_cases c : g ∈ giv.getD v []
  · exact List.mem_append.mpr (.inl c)
  · exact List.mem_append.mpr (.inr (List.mem_filter.mpr ⟨h, by simp only [c, decide_false]; rfl⟩))
theorem addB_mono {bs : List Nat} {w v u : Nat} (h : u ∈ bs) : u ∈ addB bs w v := by
  unfold addB
  split
  · exact List.mem_append.mpr (.inl h)
  · exact h
theorem addB_old {bs : List Nat} {w v u : Nat} (n : u ≠ v ∨ u = w) (h : u ∈ addB bs w v) : u ∈ bs := by
  unfold addB at h
  split at h
  · rename_i c
    rcases List.mem_append.mp h with z | z
    · exact z
    · have e := List.mem_singleton.mp z
      rcases n with n | n
      · exact absurd e n
      · rw [n]; exact c.1
  · exact h
theorem addB_v {bs : List Nat} {w v : Nat} (h : w ∈ addB bs w v) : v ∈ addB bs w v := by
  have hw : w ∈ bs := addB_old (.inr rfl) h
  unfold addB
  by_cases c : v ∈ bs
  · rw [if_neg fun z => z.2 c]
    exact c
  · rw [if_pos ⟨hw, c⟩]
    exact List.mem_append.mpr (.inr List.mem_cons_self)
structure Rnd (R : List (List Nat)) (giv : List (List Fm)) (bs : List Nat) (w : Nat) (done : List Nat) : Prop where
  gm : GM R giv w
  bm : BM R bs w
  gd : ∀ v ∈ done, ∀ g ∈ giv.getD w [], g ∈ giv.getD v []
  bd : ∀ v ∈ done, w ∈ bs → v ∈ bs
theorem Rnd.step {R : List (List Nat)} {giv : List (List Fm)} {bs : List Nat} {w v : Nat} {done : List Nat} (h : Rnd R giv bs w done) (hv : v < giv.length) (hwv : w ≤ v) : Rnd R (addG giv w v) (addB bs w v) w (done ++ [v]) := by
  have ew : (addG giv w v).getD w [] = giv.getD w [] := by
    by_cases e : w = v
    · exact addG_w hv (.inr e) (.inr rfl)
    · exact addG_w hv (.inl e) (.inl e)
  refine ⟨fun u hu x hx g hg => ?_, fun u hu x hx hb => ?_, fun x hx g hg => ?_, fun x hx hb => ?_⟩
  · rw [addG_w hv (.inl (by omega)) (.inl (by omega))] at hg
    exact addG_mono hv (h.gm u hu x hx g hg)
  · exact addB_mono (h.bm u hu x hx (addB_old (.inl (by omega)) hb))
  · rw [ew] at hg
    rcases List.mem_append.mp hx with z | z
    · exact addG_mono hv (h.gd x z g hg)
    · rw [List.mem_singleton.mp z]
      exact addG_v hv hg
  · rcases List.mem_append.mp hx with z | z
    · exact addB_mono (h.bd x z (addB_old (.inr rfl) hb))
    · rw [List.mem_singleton.mp z]
      exact addB_v hb
theorem Rnd.done {R : List (List Nat)} {giv : List (List Fm)} {bs : List Nat} {w : Nat} (h : Rnd R giv bs w (R.getD w [])) : GM R giv (w + 1) ∧ BM R bs (w + 1) := by
  refine ⟨fun u hu v hv g hg => ?_, fun u hu v hv hb => ?_⟩
  · by_cases e : u = w
    · subst e; exact h.gd v hv g hg
    · exact h.gm u (by omega) v hv g hg
  · by_cases e : u = w
    · subst e; exact h.bd v hv hb
    · exact h.bm u (by omega) v hv hb
theorem GR.step {ats : List Fm} {a c : List Fm} (ha : GR ats a) (hc : GR ats c) : GR ats (a ++ c.filter fun g => !decide (g ∈ a)) := by
  refine ⟨List.nodup_append.mpr ⟨ha.1, hc.1.sublist List.filter_sublist, fun x hx y hy e => ?_⟩, fun g hg => ?_⟩
  · subst e
    have z := (List.mem_filter.mp hy).2
    simp only [hx, decide_true] at z
    exact absurd z (by decide)
  · rcases List.mem_append.mp hg with z | z
    · exact ha.2 g z
    · exact hc.2 g (List.mem_filter.mp z).1
theorem GR.getD {ats : List Fm} {giv : List (List Fm)} (h : ∀ r ∈ giv, GR ats r) (w : Nat) : GR ats (giv.getD w []) := by
  rw [List.getD_eq_getElem?_getD]
  cases e : giv[w]? with
  | none => exact ⟨List.nodup_nil, fun g hg => nomatch hg⟩
  | some r => exact h r (List.mem_of_getElem? e)
/- slots of Terms___init__: 0 self -/
def a_Terms___init__ (C_Terms : Addr) : ATS :=
    (aSeq (aSetF C_Terms "heads" (aVar 0) (aLst aNil))
    (aSeq (aSetF C_Terms "tails" (aVar 0) (aLst aNil))
    (aSeq (aSetF C_Terms "names" (aVar 0) aDNew)
    (aSetF C_Terms "nearer" (aVar 0) (aLst aNil)))))
/- slots of Terms_added: 0 self, 1 head, 2 tail -/
def a_Terms_added (C_Terms : Addr) : ATS :=
    (aSeq (aExpr (aLm ρAppend (aFld C_Terms "heads" (aVar 0)) (aCons (aVar 1) aNil)))
    (aSeq (aExpr (aLm ρAppend (aFld C_Terms "tails" (aVar 0)) (aCons (aVar 2) aNil)))
    (aSeq (aExpr (aLm ρAppend (aFld C_Terms "nearer" (aVar 0)) (aCons (aCB ρLen (aCons (aFld C_Terms "nearer" (aVar 0)) aNil)) aNil)))
    (aRet (aOp ρIx (aFld C_Terms "nearer" (aVar 0)) (aNeg (aC (.int 1))))))))
/- slots of Terms_letter: 0 self, 1 name, 2 x -/
def a_Terms_letter (C_Terms : Addr) (A_Terms_added : ASp) : ATS :=
    (aSeq (aAsg (aMeth C_Terms "added" 3 A_Terms_added (aVar 0) (aCons (aC (.str z_letter)) (aCons (aTup aNil) aNil))) (agName 2))
    (aSeq (aDPut (aFld C_Terms "names" (aVar 0)) (aVar 2) (aVar 1))
    (aRet (aVar 2))))
/- slots of Terms_root: 0 self, 1 x -/
def a_Terms_root (C_Terms : Addr) : ATS :=
    (aSeq (aWhile (aTest (aOp (ρEq true) (aOp ρIx (aFld C_Terms "nearer" (aVar 0)) (aVar 1)) (aVar 1))) (aSeq (aAsg (aOp ρIx (aFld C_Terms "nearer" (aVar 0)) (aOp ρIx (aFld C_Terms "nearer" (aVar 0)) (aVar 1))) (agSub (aFld C_Terms "nearer" (aVar 0)) (aVar 1)))
    (aAsg (aOp ρIx (aFld C_Terms "nearer" (aVar 0)) (aVar 1)) (agName 1))))
    (aRet (aVar 1)))

structure Tms where
  hd : List Str
  tl : List (List Nat)
  nm : List (Key × D)
  nr : List Nat
def TmsAt (C : Addr) (M : Sto) (p a t n r : Addr) (T : Tms) : Prop := (∃ dx, M p = some (.raw (.ins C dx [("heads", .ref a), ("tails", .ref t), ("names", .ref n), ("nearer", .ref r)]))) ∧ M a = some (.lst (T.hd.map D.str)) ∧ M t = some (.lst (T.tl.map natsD)) ∧ M n = some (.dic T.nm) ∧ M r = some (.lst (T.nr.map natI)) ∧ p ≠ a ∧ p ≠ t ∧ p ≠ n ∧ p ≠ r ∧ a ≠ t ∧ a ≠ r ∧ t ≠ r
def A_tinit (C : Addr) : ASp := fun ds M Q _ => ∃ (p dx : Addr), ds = [.obj p] ∧ M p = some (.raw (.ins C dx [])) ∧ ∀ a t n r M', M a = none → M t = none → M n = none → M r = none → TmsAt C M' p a t n r ⟨[], [], [], []⟩ → ExtB p M M' → Q .non M'
theorem p_Terms___init__ (C : Addr) (ds : List D) (M : Sto) (Q : D → Sto → Prop) (Xa) (hl : ds.length = 1) (h : A_tinit C ds M Q Xa) : a_Terms___init__ C ax0 (Done Q) (startA ["self"] ds) M := by
  obtain ⟨p, dx, rfl, hp, q⟩ := h
  unfold a_Terms___init__
  try (simp only [↓jAe,↓jA0,↓jA1,↓jA9,↓jA4,↓jB6,↓jFo,jAh,List.getElem?_cons_zero,List.length_cons,List.length_nil,List.append_nil,startA,List.map_cons,List.map_nil,List.replicate_zero,Nat.reduceSub,Nat.reduceLeDiff,Nat.zero_add,true_and, *])
  have step : ∀ {M1 : Sto} {x : Addr} {mo mp : MO}, M1 x = none → M1 p = some mp → p ≠ x ∧ up M1 x mo p = some mp := fun {M1 x mo mp} h1 h2 => by
    have n : p ≠ x := fun z => by rw [← z, h2] at h1; cases h1
    exact ⟨n, by rw [up_ne n]; exact h2⟩
  intro a na
  obtain ⟨npa, hp1⟩ := step (mo := .lst []) na hp
  have e1 : ExtB p M (up M a (.lst [])) := (Ext.new na).b
  have ha1 : up M a (.lst []) a = some (.lst []) := up_same
  generalize up M a (.lst []) = M1 at *
  refine ⟨dx, [], .ref a, hp1, by decide, rfl, fun t nt => ?_⟩
  have ep0 : putF ("heads" : Str) (V.ref a) [] = ([(("heads" : Str), V.ref a)] : List (Str × V)) := rfl
  rw [ep0] at nt ⊢
  have hp2 : up M1 p (.raw (.ins C dx [("heads", .ref a)])) p = some (.raw (.ins C dx [("heads", .ref a)])) := up_same
  have ha2 : up M1 p (.raw (.ins C dx [("heads", .ref a)])) a = some (.lst []) := by rw [up_ne npa.symm]; exact ha1
  have e2 : ExtB p M (up M1 p (.raw (.ins C dx [("heads", .ref a)]))) := e1.trans ExtB.upd
  generalize up M1 p (.raw (.ins C dx [("heads", .ref a)])) = M2 at *
  obtain ⟨npt, hp3⟩ := step (mo := .lst []) nt hp2
  have nat_ : a ≠ t := fresh_ne nt ha2
  have ha3 : up M2 t (.lst []) a = some (.lst []) := by rw [up_ne nat_]; exact ha2
  have ht3 : up M2 t (.lst []) t = some (.lst []) := up_same
  have e3 : ExtB p M (up M2 t (.lst [])) := e2.trans (Ext.new nt).b
  have mt : M t = none := by
    cases z : M t with
    | none => rfl
    | some mo => rw [e2 _ _ npt.symm z] at nt; cases nt
  generalize up M2 t (.lst []) = M3 at *
  refine ⟨dx, _, .ref t, hp3, by show 1 < 1000; decide, rfl, fun n nn => ?_⟩
  have ep : putF "tails" (.ref t) [(("heads" : Str), V.ref a)] = ([(("heads" : Str), V.ref a), (("tails" : Str), V.ref t)] : List (Str × V)) := rfl
  rw [ep] at nn ⊢
  have hp4 : up M3 p (.raw (.ins C dx [("heads", .ref a), ("tails", .ref t)])) p = some (.raw (.ins C dx [("heads", .ref a), ("tails", .ref t)])) := up_same
  have ha4 : up M3 p (.raw (.ins C dx [("heads", .ref a), ("tails", .ref t)])) a = some (.lst []) := by rw [up_ne npa.symm]; exact ha3
  have ht4 : up M3 p (.raw (.ins C dx [("heads", .ref a), ("tails", .ref t)])) t = some (.lst []) := by rw [up_ne npt.symm]; exact ht3
  have e4 : ExtB p M (up M3 p (.raw (.ins C dx [("heads", .ref a), ("tails", .ref t)]))) := e3.trans ExtB.upd
  generalize up M3 p (.raw (.ins C dx [("heads", .ref a), ("tails", .ref t)])) = M4 at *
  obtain ⟨npn, hp5⟩ := step (mo := .dic []) nn hp4
  have nan : a ≠ n := fresh_ne nn ha4
  have ntn : t ≠ n := fresh_ne nn ht4
  have ha5 : up M4 n (.dic []) a = some (.lst []) := by rw [up_ne nan]; exact ha4
  have ht5 : up M4 n (.dic []) t = some (.lst []) := by rw [up_ne ntn]; exact ht4
  have hn5 : up M4 n (.dic []) n = some (.dic []) := up_same
  have e5 : ExtB p M (up M4 n (.dic [])) := e4.trans (Ext.new nn).b
  have mn : M n = none := by
    cases z : M n with
    | none => rfl
    | some mo => rw [e4 _ _ npn.symm z] at nn; cases nn
  generalize up M4 n (.dic []) = M5 at *
  refine ⟨dx, _, .ref n, hp5, by show 2 < 1000; decide, rfl, fun r nr => ?_⟩
  have ep : putF "names" (.ref n) ([(("heads" : Str), V.ref a), (("tails" : Str), V.ref t)] : List (Str × V)) = ([(("heads" : Str), V.ref a), (("tails" : Str), V.ref t), (("names" : Str), V.ref n)] : List (Str × V)) := rfl
  rw [ep] at nr ⊢
  have hp6 : up M5 p (.raw (.ins C dx [("heads", .ref a), ("tails", .ref t), ("names", .ref n)])) p = some (.raw (.ins C dx [("heads", .ref a), ("tails", .ref t), ("names", .ref n)])) := up_same
  have ha6 : up M5 p (.raw (.ins C dx [("heads", .ref a), ("tails", .ref t), ("names", .ref n)])) a = some (.lst []) := by rw [up_ne npa.symm]; exact ha5
  have ht6 : up M5 p (.raw (.ins C dx [("heads", .ref a), ("tails", .ref t), ("names", .ref n)])) t = some (.lst []) := by rw [up_ne npt.symm]; exact ht5
  have hn6 : up M5 p (.raw (.ins C dx [("heads", .ref a), ("tails", .ref t), ("names", .ref n)])) n = some (.dic []) := by rw [up_ne npn.symm]; exact hn5
  have e6 : ExtB p M (up M5 p (.raw (.ins C dx [("heads", .ref a), ("tails", .ref t), ("names", .ref n)]))) := e5.trans ExtB.upd
  generalize up M5 p (.raw (.ins C dx [("heads", .ref a), ("tails", .ref t), ("names", .ref n)])) = M6 at *
  obtain ⟨npr, hp7⟩ := step (mo := .lst []) nr hp6
  have nar : a ≠ r := fresh_ne nr ha6
  have ntr : t ≠ r := fresh_ne nr ht6
  have nnr : n ≠ r := fresh_ne nr hn6
  have mr : M r = none := by
    cases z : M r with
    | none => rfl
    | some mo => rw [e6 _ _ npr.symm z] at nr; cases nr
  refine ⟨dx, _, .ref r, hp7, by show 3 < 1000; decide, rfl, ?_⟩
  have e7 : ExtB p M (up (up M6 r (.lst [])) p (.raw (.ins C dx [("heads", .ref a), ("tails", .ref t), ("names", .ref n), ("nearer", .ref r)]))) := (e6.trans (Ext.new nr).b).trans ExtB.upd
  exact q a t n r _ na mt mn mr ⟨⟨dx, up_same⟩, by rw [up_ne npa.symm, up_ne nar]; exact ha6, by rw [up_ne npt.symm, up_ne ntr]; exact ht6, by rw [up_ne npn.symm, up_ne nnr]; exact hn6, by rw [up_ne npr.symm]; exact up_same, npa, npt, npn, npr, nat_, nar, ntr⟩ e7
theorem TmsAt.fld {C : Addr} {M : Sto} {p a t n r : Addr} {T : Tms} {P : D → Prop} (h : TmsAt C M p a t n r T) {f : Str} {x : Addr} (e : List.lookup f [(("heads" : Str), V.ref a), (("tails" : Str), V.ref t), (("names" : Str), V.ref n), (("nearer" : Str), V.ref r)] = some (.ref x)) (k : P (.obj x)) : ∃ dx fs d v, M p = some (.raw (.ins C dx fs)) ∧ fs.lookup f = some v ∧ flV d = some v ∧ P d := by
  obtain ⟨⟨dx, h1⟩, _⟩ := h
  exact ⟨dx, _, .obj x, .ref x, h1, e, rfl, k⟩
def ExtS (S : List Addr) (M M' : Sto) : Prop := ∀ x mo, x ∉ S → M x = some mo → M' x = some mo
theorem ExtS.refl (S : List Addr) (M : Sto) : ExtS S M M := fun _ _ _ h => h
theorem ExtS.trans {S : List Addr} {M M' M2 : Sto} (h : ExtS S M M') (g : ExtS S M' M2) : ExtS S M M2 := fun x mo n e => g x mo n (h x mo n e)
theorem ExtS.put {S : List Addr} {M M' : Sto} {x : Addr} {mo : MO} (h : ExtS S M M') (m : x ∈ S) : ExtS S M (up M' x mo) := fun y o n e => by
  have c : y ≠ x := fun z => n (by rw [z]; exact m)
  rw [up_ne c]
  exact h y o n e
def A_tadded (C : Addr) : ASp := fun ds M Q _ => ∃ (p a t n r : Addr) (T : Tms) (h : Str) (l : List Nat), ds = [.obj p, .str h, natsD l] ∧ TmsAt C M p a t n r T ∧ n ≠ a ∧ n ≠ t ∧ n ≠ r ∧ T.hd.length ≤ 10000 ∧ T.tl.length ≤ 10000 ∧ T.nr.length ≤ 10000 ∧ ∀ M', TmsAt C M' p a t n r ⟨T.hd ++ [h], T.tl ++ [l], T.nm, T.nr ++ [T.nr.length]⟩ → ExtS [a, t, r] M M' → Q (.int (T.nr.length : Nat)) M'
theorem p_Terms_added (C : Addr) (ds : List D) (M : Sto) (Q : D → Sto → Prop) (Xa) (hl : ds.length = 3) (h : A_tadded C ds M Q Xa) : a_Terms_added C ax0 (Done Q) (startA ["self", "head", "tail"] ds) M := by
  obtain ⟨p, a, t, n, r, T, hd, l, rfl, hT, na, nt, nr, l1, l2, l3, q⟩ := h
  unfold a_Terms_added
  obtain ⟨hp, ha, ht, hn, hr, npa, npt, npn, npr, nat_, nar, ntr⟩ := _root_.id hT
  have k1 := fun P => TmsAt.fld (P := P) hT (f := ("heads" : Str)) rfl
  try (simp only [↓jAe,↓jAy,↓jAd,↓jA0,↓e_c,↓jA8,↓jA1,↓jCf,↓jA9,↓jA7,↓jAt,↓jAx,↓jAw,↓jBs,↓jAb,jAq,jAh,List.getElem?_cons_zero,List.getElem?_cons_succ,List.length_cons,List.length_nil,List.append_nil,startA,List.map_cons,List.map_nil,List.replicate_zero,Nat.reduceAdd,Nat.reduceSub,Nat.zero_add,Int.reduceNeg, *])
  refine k1 _ ?_
  try (simp only [List.length_map,Int.reduceNeg,if_false, *])
  obtain ⟨dx, hp⟩ := hp
  have nta := nat_.symm
  have nra := nar.symm
  have nrt := ntr.symm
  have m1 : (T.hd.map D.str).length = T.hd.length := List.length_map _
  have m2 : (T.tl.map natsD).length = T.tl.length := List.length_map _
  have m3 : (T.nr.map natI).length = T.nr.length := List.length_map _
  have k3 : T.hd.length < 16777216 := by omega
  have k4 : T.tl.length < 16777216 := by omega
  have k5 : T.nr.length < 16777216 := by omega
  clear k1
  refine ⟨k3, dx, _, .obj t, .ref t, hp, rfl, rfl, ?_⟩
  try (simp only [Int.reduceNeg,if_false,true_and, *])
  refine ⟨dx, _, .obj r, .ref r, rfl, rfl, rfl, ?_⟩
  try (simp only [Int.reduceNeg,if_false, *])
  refine ⟨dx, _, .obj r, .ref r, rfl, rfl, rfl, ?_⟩
  try (simp only [↓jBe,↓jAb,jAq,Int.reduceNeg,if_false,true_and, *])
  refine ⟨dx, _, .obj r, .ref r, rfl, rfl, rfl, ?_⟩
  try (simp only [↓jA1,↓jAs,↓jAb,jAq,jDw,Int.reduceNeg,if_true,if_false, *])
  have f1 : up (up (up M a (.lst (T.hd.map D.str ++ [.str hd]))) t (.lst (T.tl.map natsD ++ [natsD l]))) r (.lst (T.nr.map natI ++ [.int (T.nr.length : Nat)])) p = M p := by rw [up_ne npr, up_ne npt, up_ne npa]
  refine q _ ⟨⟨dx, by rw [f1]; exact hp⟩, ?_, ?_, ?_, ?_, npa, npt, npn, npr, nat_, nar, ntr⟩ (((ExtS.refl _ M).put (by simp)).put (by simp) |>.put (by simp))
  · rw [up_ne nar, up_ne nat_, up_same, List.map_append]; rfl
  · rw [up_ne ntr, up_same, List.map_append]; rfl
  · rw [up_ne nr, up_ne nt, up_ne na]; exact hn
  · rw [up_same, List.map_append]; rfl
def A_tletter (C : Addr) : ASp := fun ds M Q _ => ∃ (p a t n r : Addr) (T : Tms) (d : D), ds = [.obj p, d] ∧ TmsAt C M p a t n r T ∧ n ≠ a ∧ n ≠ t ∧ n ≠ r ∧ T.hd.length ≤ 10000 ∧ T.tl.length ≤ 10000 ∧ T.nr.length ≤ 10000 ∧ T.nm.length ≤ 10000 ∧ ∀ M', TmsAt C M' p a t n r ⟨T.hd ++ [z_letter], T.tl ++ [[]], putA T.nm (.inl (T.nr.length : Nat)) d, T.nr ++ [T.nr.length]⟩ → ExtS [a, t, r, n] M M' → Q (.int (T.nr.length : Nat)) M'
theorem ExtS.mono {S S' : List Addr} {M M' : Sto} (h : ExtS S M M') (m : ∀ x ∈ S, x ∈ S') : ExtS S' M M' := fun x mo n e => h x mo (fun z => n (m x z)) e
theorem p_Terms_letter (C : Addr) (ds : List D) (M : Sto) (Q : D → Sto → Prop) (Xa) (hl : ds.length = 2) (h : A_tletter C ds M Q Xa) : a_Terms_letter C (A_tadded C) ax0 (Done Q) (startA ["self", "name", "x"] ds) M := by
  obtain ⟨p, a, t, n, r, T, d, rfl, hT, na, nt, nr, l1, l2, l3, l4, q⟩ := h
  unfold a_Terms_letter
  obtain ⟨dx, hp⟩ := hT.1
  try (simp only [↓jAe,↓jAd,↓jAp,↓jAi,↓jBp,↓jA0,↓e_c,↓jA1,↓jA9,↓jA7,↓jA6,↓jBs,↓jBm,↓jB1,jAh,List.set_cons_zero,List.set_cons_succ,List.getElem?_cons_zero,List.getElem?_cons_succ,List.length_cons,List.length_nil,List.nil_append,List.cons_append,startA,List.map_cons,List.map_nil,List.replicate_succ,List.replicate_zero,Nat.reduceAdd,Nat.reduceSub,Nat.reduceLeDiff,Nat.zero_add,true_and, *])
  refine ⟨⟨dx, _, rfl, rfl⟩, rfl, p, a, t, n, r, T, z_letter, [], rfl, hT, na, nt, nr, l1, l2, l3, fun M1 hT1 e1 => ?_⟩
  have hq := hT1
  obtain ⟨⟨dx1, hp1⟩, ha1, ht1, hn1, hr1, npa, npt, npn, npr, nat_, nar, ntr⟩ := hT1
  have k4 : T.nm.length < sizeLine := by have : sizeLine = 16777216 := rfl; omega
  have f := q (up M1 n (.dic (putA T.nm (.inl (T.nr.length : Nat)) d))) ⟨⟨dx1, by rw [up_ne npn]; exact hp1⟩, by rw [up_ne na.symm]; exact ha1, by rw [up_ne nt.symm]; exact ht1, up_same, by rw [up_ne nr.symm]; exact hr1, npa, npt, npn, npr, nat_, nar, ntr⟩ ((e1.mono (by simp)).put (by simp))
  have hn1 : M1 n = some (.dic T.nm) := hn1
  clear q hT hq
  refine ⟨dx1, _, .obj n, .ref n, hp1, rfl, rfl, ?_⟩
  try (simp only [↓jA1,jBw,and_true, *])
  omega

structure UF (nr : List Nat) (R ρ : Nat → Nat) : Prop where
  lt : ∀ x y : Nat, nr[x]? = some y → y < nr.length
  rlt : ∀ x : Nat, x < nr.length → R x < nr.length
  same : ∀ x y : Nat, nr[x]? = some y → R y = R x
  fix : ∀ x : Nat, nr[x]? = some x → R x = x
  down : ∀ x y : Nat, nr[x]? = some y → y ≠ x → ρ y < ρ x
  root : ∀ x : Nat, x < nr.length → nr[R x]? = some (R x)
  out : ∀ x : Nat, nr.length ≤ x → R x = x
theorem get_setN {nr : List Nat} {x z u v : Nat} (h : (nr.set x z)[u]? = some v) : (u = x ∧ v = z) ∨ (u ≠ x ∧ nr[u]? = some v) := by
  by_cases c : u = x
  · subst c
    by_cases l : u < nr.length
    · rw [List.getElem?_set_self l] at h
      exact .inl ⟨rfl, (Option.some.inj h).symm⟩
    · rw [List.getElem?_eq_none (by rw [List.length_set]; omega)] at h
      cases h
  · rw [List.getElem?_set_ne (fun e => c e.symm)] at h
    exact .inr ⟨c, h⟩
theorem UF.idem {nr : List Nat} {R ρ : Nat → Nat} (u : UF nr R ρ) {x : Nat} (h : x < nr.length) : R (R x) = R x := u.fix _ (u.root x h)
theorem UF.fixed {nr : List Nat} {R ρ : Nat → Nat} (u : UF nr R ρ) {x : Nat} (h : x < nr.length) (e : R x = x) : nr[x]? = some x := by
  have z := u.root x h
  rw [e] at z
  exact z
theorem UF.halve {nr : List Nat} {R ρ : Nat → Nat} (u : UF nr R ρ) {x y z : Nat} (h1 : nr[x]? = some y) (ne : y ≠ x) (h2 : nr[y]? = some z) : UF (nr.set x z) R ρ ∧ ρ z < ρ x ∧ R z = R x := by
  have d1 := u.down x y h1 ne
  have dz : ρ z < ρ x := by
    by_cases c : z = y
    · rw [c]; exact d1
    · exact Nat.lt_trans (u.down y z h2 c) d1
  have zx : z ≠ x := fun e => by rw [e] at dz; exact Nat.lt_irrefl _ dz
  have rz : R z = R x := (u.same y z h2).trans (u.same x y h1)
  refine ⟨⟨fun a b h => ?_, fun a h => ?_, fun a b h => ?_, fun a h => ?_, fun a b h n => ?_, fun a h => ?_, fun a h => ?_⟩, dz, rz⟩
  · rw [List.length_set]
    rcases get_setN h with ⟨rfl, rfl⟩ | ⟨_, h⟩
    · exact u.lt y _ h2
    · exact u.lt a b h
  · rw [List.length_set] at h ⊢
    exact u.rlt a h
  · rcases get_setN h with ⟨rfl, rfl⟩ | ⟨_, h⟩
    · exact rz
    · exact u.same a b h
  · rcases get_setN h with ⟨rfl, e⟩ | ⟨_, h⟩
    · exact absurd e.symm zx
    · exact u.fix a h
  · rcases get_setN h with ⟨rfl, rfl⟩ | ⟨_, h⟩
    · exact dz
    · exact u.down a b h n
  · rw [List.length_set] at h
    have r := u.root a h
    have nx : R a ≠ x := fun e => by
      rw [e, h1] at r
      exact ne (Option.some.inj r)
    rw [List.getElem?_set_ne (fun e => nx e.symm)]
    exact r
  · rw [List.length_set] at h
    exact u.out a h
def jR (R : Nat → Nat) (a b : Nat) : Nat → Nat := fun x => if R x = a then b else R x
def jρ (R ρ : Nat → Nat) (a b : Nat) : Nat → Nat := fun x => if R x = a then ρ x + ρ b + 1 else ρ x
theorem UF.join {nr : List Nat} {R ρ : Nat → Nat} (u : UF nr R ρ) {a b : Nat} (la : a < nr.length) (lb : b < nr.length) (ha : R a = a) (hb : R b = b) (ne : a ≠ b) : UF (nr.set a b) (jR R a b) (jρ R ρ a b) := by
  have hab : ¬ R b = a := fun e => ne (by rw [hb] at e; exact e.symm)
  have na := u.fixed la ha
  have nb := u.fixed lb hb
  refine ⟨fun x y h => ?_, fun x h => ?_, fun x y h => ?_, fun x h => ?_, fun x y h n => ?_, fun x h => ?_, fun x h => ?_⟩
  · rw [List.length_set]
    rcases get_setN h with ⟨rfl, rfl⟩ | ⟨_, h⟩
    · exact lb
    · exact u.lt x y h
  · rw [List.length_set] at h ⊢
    unfold jR
    split
    · exact lb
    · exact u.rlt x h
  · unfold jR
    rcases get_setN h with ⟨rfl, rfl⟩ | ⟨_, h⟩
    · rw [if_neg hab, if_pos ha, hb]
    · rw [u.same x y h]
  · unfold jR
    rcases get_setN h with ⟨rfl, e⟩ | ⟨c, h⟩
    · exact absurd e ne
    · have z := u.fix x h
      rw [z, if_neg c]
  · unfold jρ
    rcases get_setN h with ⟨rfl, rfl⟩ | ⟨c, h⟩
    · rw [if_neg hab, if_pos ha]
      omega
    · have d := u.down x y h n
      rw [u.same x y h]
      split <;> omega
  · rw [List.length_set] at h
    unfold jR
    by_cases c : R x = a
    · rw [if_pos c, List.getElem?_set_ne (fun e => ne e)]
      exact nb
    · rw [if_neg c, List.getElem?_set_ne (fun e => c e.symm)]
      exact u.root x h
  · rw [List.length_set] at h
    unfold jR
    rw [u.out x h, if_neg (by omega)]
theorem UF.new {nr : List Nat} {R ρ : Nat → Nat} (u : UF nr R ρ) : UF (nr ++ [nr.length]) R ρ := by
  have old : ∀ {x y : Nat}, (nr ++ [nr.length])[x]? = some y → (x < nr.length ∧ nr[x]? = some y) ∨ (x = nr.length ∧ y = nr.length) := fun {x y} h => by
    by_cases c : x < nr.length
    · rw [List.getElem?_append_left c] at h
      exact .inl ⟨c, h⟩
    · have l := (List.getElem?_eq_some_iff.mp h).1
      rw [List.length_append, List.length_singleton] at l
      have e : x = nr.length := by omega
      subst e
      rw [List.getElem?_append_right (Nat.le_refl _), Nat.sub_self] at h
      exact .inr ⟨rfl, (Option.some.inj h).symm⟩
  have rn := u.out nr.length (Nat.le_refl _)
  refine ⟨fun x y h => ?_, fun x h => ?_, fun x y h => ?_, fun x h => ?_, fun x y h n => ?_, fun x h => ?_, fun x h => ?_⟩
  · rw [List.length_append, List.length_singleton]
    rcases old h with ⟨_, h⟩ | ⟨_, rfl⟩
    · have := u.lt x y h; omega
    · omega
  · rw [List.length_append, List.length_singleton] at h ⊢
    by_cases c : x = nr.length
    · rw [c, rn]; omega
    · have := u.rlt x (by omega); omega
  · rcases old h with ⟨l, h⟩ | ⟨rfl, rfl⟩
    · exact u.same x y h
    · rfl
  · rcases old h with ⟨l, h⟩ | ⟨e, _⟩
    · exact u.fix x h
    · rw [e]; exact rn
  · rcases old h with ⟨l, h⟩ | ⟨rfl, rfl⟩
    · exact u.down x y h n
    · exact absurd rfl n
  · rw [List.length_append, List.length_singleton] at h
    by_cases c : x = nr.length
    · rw [c, rn, List.getElem?_append_right (Nat.le_refl _), Nat.sub_self]
      rfl
    · rw [List.getElem?_append_left (u.rlt x (by omega))]
      exact u.root x (by omega)
  · rw [List.length_append, List.length_singleton] at h
    exact u.out x (by omega)
theorem UF.idemA {nr : List Nat} {R ρ : Nat → Nat} (u : UF nr R ρ) (x : Nat) : R (R x) = R x := by
  by_cases h : x < nr.length
  · exact u.idem h
  · rw [u.out x (by omega), u.out x (by omega)]
theorem ixNat {n x : Nat} (h : x < n) : ixN n (x : Int) = some x := by unfold ixN; rw [if_pos (by omega), if_pos (by omega)]; rfl
theorem at_natI {ns : List Nat} {x y : Nat} (h : ns[x]? = some y) : atI (ns.map natI) (x : Int) = some (natI y) := by rw [atIn, List.getElem?_map, h]; rfl
theorem TmsAt.ext {C : Addr} {M M' : Sto} {p a t n r : Addr} {T : Tms} (h : TmsAt C M p a t n r T) (e : Ext M M') : TmsAt C M' p a t n r T := by
  obtain ⟨⟨dx, h1⟩, h2, h3, h4, h5, ns⟩ := h
  exact ⟨⟨dx, e _ _ h1⟩, e _ _ h2, e _ _ h3, e _ _ h4, e _ _ h5, ns⟩
theorem TmsAt.upd {C : Addr} {M : Sto} {p a t n r w : Addr} {T : Tms} {mo : MO} (h : TmsAt C M p a t n r T) (n1 : w ≠ p) (n2 : w ≠ a) (n3 : w ≠ t) (n4 : w ≠ n) (n5 : w ≠ r) : TmsAt C (up M w mo) p a t n r T := by
  obtain ⟨⟨dx, h1⟩, h2, h3, h4, h5, ns⟩ := h
  exact ⟨⟨dx, by rw [up_ne n1.symm]; exact h1⟩, by rw [up_ne n2.symm]; exact h2, by rw [up_ne n3.symm]; exact h3, by rw [up_ne n4.symm]; exact h4, by rw [up_ne n5.symm]; exact h5, ns⟩
theorem TmsAt.setR {C : Addr} {M : Sto} {p a t n r : Addr} {T : Tms} (h : TmsAt C M p a t n r T) (nr : n ≠ r) (ns : List Nat) : TmsAt C (up M r (.lst (ns.map natI))) p a t n r ⟨T.hd, T.tl, T.nm, ns⟩ := by
  obtain ⟨⟨dx, h1⟩, h2, h3, h4, h5, n1, n2, n3, n4, n5, n6, n7⟩ := h
  exact ⟨⟨dx, by rw [up_ne n4]; exact h1⟩, by rw [up_ne n6]; exact h2, by rw [up_ne n7]; exact h3, by rw [up_ne nr]; exact h4, up_same, n1, n2, n3, n4, n5, n6, n7⟩
def A_troot (C : Addr) : ASp := fun ds M Q _ => ∃ (p a t n r : Addr) (T : Tms) (x : Nat) (R ρ : Nat → Nat), ds = [.obj p, .int (x : Nat)] ∧ TmsAt C M p a t n r T ∧ n ≠ r ∧ x < T.nr.length ∧ T.nr.length ≤ 100000 ∧ UF T.nr R ρ ∧ ∀ nr' M', UF nr' R ρ → nr'.length = T.nr.length → TmsAt C M' p a t n r ⟨T.hd, T.tl, T.nm, nr'⟩ → ExtS [r] M M' → Q (.int (R x : Nat)) M'
theorem p_troot (C : Addr) (ds : List D) (M : Sto) (Q : D → Sto → Prop) (Xa) (hl : ds.length = 2) (h : A_troot C ds M Q Xa) : a_Terms_root C ax0 (Done Q) (startA ["self", "x"] ds) M := by
  obtain ⟨p, a, t, n, r, T, x, R, ρ, rfl, hT, nr, hx, hlen, u, q⟩ := h
  unfold a_Terms_root
  try (simp only [↓jAe,List.length_cons,List.length_nil,List.append_nil,startA,List.map_cons,List.map_nil,List.replicate_zero,Nat.reduceAdd,Nat.reduceSub,Nat.zero_add, *])
  refine while_runN (fun m env M' => ∃ (x' : Nat) (ns : List Nat), env = [some (.obj p), some (.int (x' : Nat))] ∧ m = ρ x' ∧ x' < ns.length ∧ R x' = R x ∧ UF ns R ρ ∧ ns.length = T.nr.length ∧ TmsAt C M' p a t n r ⟨T.hd, T.tl, T.nm, ns⟩ ∧ ExtS [r] M M') ?_ ⟨x, T.nr, rfl, rfl, hx, rfl, u, rfl, hT, ExtS.refl _ _⟩
  rintro m N env M' ⟨x', ns, rfl, rfl, hx', hR, hu, hns, hT2, he⟩ next
  obtain ⟨y, hy⟩ : ∃ y, ns[x']? = some y := ⟨_, List.getElem?_eq_getElem hx'⟩
  have aty := at_natI hy
  have hnr := hT2.2.2.2.2.1
  have hnr : M' r = some (.lst (ns.map natI)) := hnr
  have hyd : natI y = .int (y : Nat) := rfl
  have fld := fun P k => TmsAt.fld (P := P) hT2 (f := ("nearer" : Str)) (x := r) rfl k
  clear hT
  try (simp only [↓jAe,↓jAd,↓jAp,↓jAi,↓jCy,↓jA0,↓jA8,↓jA1,↓jAf,↓jBs,↓jAb,jAq,List.set_cons_zero,List.set_cons_succ,List.getElem?_cons_zero,List.getElem?_cons_succ, *])
  refine fld _ ?_
  try (simp only [↓jA1,↓jD1,↓jAs,↓jAb,Bool.not_true,Bool.not_eq_eq_eq_not,decide_eq_false_iff_not, *])
  by_cases c : y = x'
  · subst c
    have g := q ns M' hu hns hT2 he
    have e := hu.fix _ hy
    rw [← hR, e] at g
    clear q next
    try (simp only [if_false,not_true_eq_false, *])
  · have hyl := hu.lt _ _ hy
    obtain ⟨z, hz⟩ : ∃ z, ns[y]? = some z := ⟨_, List.getElem?_eq_getElem hyl⟩
    have atz := at_natI hz
    have hzd : natI z = .int (z : Nat) := rfl
    obtain ⟨hu2, dz, rz⟩ := hu.halve hy c hz
    have hT3 := hT2.setR nr (ns.set x' z)
    have he3 : ExtS [r] M (up M' r (.lst ((ns.set x' z).map natI))) := he.put (by simp)
    have g := next (ρ z) [some (.obj p), some (.int (z : Nat))] _ dz ⟨z, ns.set x' z, rfl, rfl, by rw [List.length_set]; exact hu.lt _ _ hz, rz.trans hR, hu2, by rw [List.length_set]; exact hns, hT3, he3⟩
    have nxy : ¬ ((y : Int) = (x' : Int)) := fun e => c (by omega)
    have em : (ns.set x' z).map natI = (ns.map natI).set x' (.int (z : Nat)) := by rw [List.map_set, hzd]
    have fld3 := fun P k => TmsAt.fld (P := P) hT3 (f := ("nearer" : Str)) (x := r) rfl k
    have atz3 : atI ((ns.set x' z).map natI) (x' : Int) = some (.int (z : Nat)) := by
      have := at_natI (ns := ns.set x' z) (x := x') (y := z) (by rw [List.getElem?_set_self hx'])
      exact this
    rw [em] at fld3 g atz3
    have il : ixN T.nr.length (x' : Int) = some x' := ixNat (by omega)
    clear next q hT3 em
    try (simp only [if_true,not_false_eq_true, *])
    refine fld _ ?_
    refine fld _ ?_
    try (simp only [↓jA1,↓jAs,↓jAb, *])
    refine fld _ ?_
    try (simp only [↓jA1,List.length_map, *])
    rw [if_neg hT2.2.2.2.2.2.2.2.2.1]
    refine fld _ ?_
    try (simp only [↓jA1,↓jAs,↓jAb,jAq,if_true, *])

/- slots of Terms_made_same: 0 self, 1 x, 2 y, 3 waiting, 4 first, 5 second -/
def a_Terms_made_same (C_Terms : Addr) (A_Terms_root : ASp) : ATS :=
    (aSeq (aAsg (aLst (aCons (aTup (aCons (aVar 1) (aCons (aVar 2) aNil))) aNil)) (agName 3))
    (aSeq (aWhile (aTruth (aVar 3)) (aSeq (aAsg (aPop (aVar 3)) (agTup 2 (agCons (agName 4) (agCons (agName 5) agNil))))
    (aSeq (aPar 4 5 (aCons (aMeth C_Terms "root" 2 A_Terms_root (aVar 0) (aCons (aVar 4) aNil)) (aCons (aMeth C_Terms "root" 2 A_Terms_root (aVar 0) (aCons (aVar 5) aNil)) aNil)))
    (aSeq (aIf (aTest (aOp (ρEq false) (aVar 4) (aVar 5))) aCont aNext)
    (aSeq (aIf (aTest (aOp (ρEq false) (aOp ρIx (aFld C_Terms "heads" (aVar 0)) (aVar 4)) (aC (.str z_letter)))) (aSeq (aAsg (aVar 5) (agSub (aFld C_Terms "nearer" (aVar 0)) (aVar 4)))
    aCont) aNext)
    (aSeq (aAsg (aVar 4) (agSub (aFld C_Terms "nearer" (aVar 0)) (aVar 5)))
    (aIf (aTest (aOp (ρEq true) (aOp ρIx (aFld C_Terms "heads" (aVar 0)) (aVar 5)) (aC (.str z_letter)))) (aSeq (aIf (aTest (aOp (ρEq true) (aOp ρIx (aFld C_Terms "heads" (aVar 0)) (aVar 4)) (aOp ρIx (aFld C_Terms "heads" (aVar 0)) (aVar 5)))) (aRet (aC (.bl false))) aNext)
    (aExpr (aLm ρExtend (aVar 3) (aCons (aListZip (aCons (aOp ρIx (aFld C_Terms "tails" (aVar 0)) (aVar 4)) (aCons (aOp ρIx (aFld C_Terms "tails" (aVar 0)) (aVar 5)) aNil))) aNil)))) aNext)))))))
    (aRet (aC (.bl true)))))

inductive Kd where
  | l | n (a : Nat) | i (a b : Nat)
def Kd.hd : Kd → Str
  | .l => z_letter
  | .n _ => z_not
  | .i _ _ => z_if
def Kd.tl : Kd → List Nat
  | .l => []
  | .n a => [a]
  | .i a b => [a, b]
def Kd.isL : Kd → Prop
  | .l => True
  | _ => False
theorem w_ln : z_letter ≠ z_not := by decide +kernel
theorem w_li : z_letter ≠ z_if := by decide +kernel
theorem w_ni : z_not ≠ z_if := by decide +kernel
theorem hd_len {k k' : Kd} (h : k.hd = k'.hd) : k.tl.length = k'.tl.length := by
  cases k <;> cases k' <;> first | rfl | exact absurd h w_ln | exact absurd h w_li | exact absurd h w_ni | exact absurd h.symm w_ln | exact absurd h.symm w_li | exact absurd h.symm w_ni
def Str3 (K : List Kd) (φ : Nat → Fm) : Prop := ∀ (x : Nat) (k : Kd), K[x]? = some k → match k with
  | .l => True
  | .n a => φ x = .ng (φ a)
  | .i a b => φ x = .im (φ a) (φ b)
def Sat (K : List Kd) (R : Nat → Nat) (φ : Nat → Fm) : Prop := Str3 K φ ∧ ∀ x, φ (R x) = φ x
abbrev Res (R : Nat → Nat) (W : List (Nat × Nat)) (f : Nat → Nat) : Prop := (∀ x, f (R x) = f x) ∧ ∀ z ∈ W, f z.1 = f z.2
def CG (K : List Kd) (R : Nat → Nat) (W : List (Nat × Nat)) : Prop := ∀ (x : Nat) (k k' : Kd), K[x]? = some k → K[R x]? = some k' → (k'.isL → k.isL) ∧ (¬ k.isL → k.hd = k'.hd ∧ ∀ f, Res R W f → ∀ (j a b : Nat), k.tl[j]? = some a → k'.tl[j]? = some b → f a = f b)
structure Mid (K : List Kd) (R0 : Nat → Nat) (x0 y0 : Nat) (R : Nat → Nat) (W : List (Nat × Nat)) : Prop where
  coarse : ∀ x y, R0 x = R0 y → R x = R y
  comp : ∀ φ, Sat K R0 φ → φ x0 = φ y0 → Sat K R φ ∧ ∀ z ∈ W, φ z.1 = φ z.2
  snd : ∀ f, Res R W f → f x0 = f y0
  cg : CG K R W
theorem Mid.drop {K : List Kd} {R0 R : Nat → Nat} {x0 y0 a b : Nat} {W : List (Nat × Nat)} (m : Mid K R0 x0 y0 R (W ++ [(a, b)])) (e : R a = R b) : Mid K R0 x0 y0 R W := by
  have up : ∀ f, Res R W f → Res R (W ++ [(a, b)]) f := fun f h => ⟨h.1, fun z hz => by
    rcases List.mem_append.mp hz with q | q
    · exact h.2 z q
    · rw [List.mem_singleton.mp q]
      show f a = f b
      rw [← h.1 a, ← h.1 b, e]⟩
  refine ⟨m.coarse, fun φ h1 h2 => ?_, fun f h => m.snd f (up f h), fun x k k' h1 h2 => ?_⟩
  · obtain ⟨a1, a2⟩ := m.comp φ h1 h2
    exact ⟨a1, fun z hz => a2 z (List.mem_append_left _ hz)⟩
  · obtain ⟨c1, c2⟩ := m.cg x k k' h1 h2
    exact ⟨c1, fun nk => ⟨(c2 nk).1, fun f hf => (c2 nk).2 f (up f hf)⟩⟩
theorem Mid.hang {K : List Kd} {R0 R : Nat → Nat} {x0 y0 a b c d : Nat} {W add : List (Nat × Nat)} (idem : ∀ x, R (R x) = R x) (m : Mid K R0 x0 y0 R (W ++ [(a, b)])) (hc : R c = c) (hd : R d = d) (ne : c ≠ d) (hab : (c = R a ∧ d = R b) ∨ (c = R b ∧ d = R a))
    (kc kd : Kd) (ec : K[c]? = some kc) (ed : K[d]? = some kd) (hl : kc.isL ∨ (¬ kd.isL ∧ kc.hd = kd.hd ∧ (∀ (j u v : Nat), kc.tl[j]? = some u → kd.tl[j]? = some v → (u, v) ∈ add ∨ (v, u) ∈ add)))
    (hadd : ∀ φ, Str3 K φ → φ c = φ d → ∀ z ∈ add, φ z.1 = φ z.2) : Mid K R0 x0 y0 (jR R c d) (W ++ add) := by
  have rc : jR R c d c = d := by unfold jR; rw [if_pos hc]
  have down : ∀ f, Res (jR R c d) (W ++ add) f → Res R (W ++ [(a, b)]) f ∧ f c = f d ∧ ∀ z ∈ add, f z.1 = f z.2 := fun f h => by
    have fcd : f c = f d := by rw [← h.1 c, rc]
    have res : ∀ x, f (R x) = f x := fun x => by
      by_cases q : R x = c
      · have z := h.1 x
        unfold jR at z
        rw [if_pos q] at z
        rw [q, fcd, z]
      · have z := h.1 x
        unfold jR at z
        rw [if_neg q] at z
        exact z
    refine ⟨⟨res, fun z hz => ?_⟩, fcd, fun z hz => h.2 z (List.mem_append_right _ hz)⟩
    rcases List.mem_append.mp hz with q | q
    · exact h.2 z (List.mem_append_left _ q)
    · rw [List.mem_singleton.mp q]
      show f a = f b
      rw [← res a, ← res b]
      rcases hab with ⟨h1, h2⟩ | ⟨h1, h2⟩
      · rw [← h1, ← h2]; exact fcd
      · rw [← h1, ← h2]; exact fcd.symm
  refine ⟨fun x y e => ?_, fun φ h1 h2 => ?_, fun f h => m.snd f (down f h).1, fun x k k' h1 h2 => ?_⟩
  · unfold jR
    rw [m.coarse x y e]
  · obtain ⟨⟨s1, s2⟩, a2⟩ := m.comp φ h1 h2
    have pab : φ a = φ b := a2 (a, b) (List.mem_append_right _ (List.mem_singleton.mpr rfl))
    have pcd : φ c = φ d := by
      rcases hab with ⟨h1, h2⟩ | ⟨h1, h2⟩
      · rw [h1, h2, s2, s2, pab]
      · rw [h1, h2, s2, s2, pab]
    refine ⟨⟨s1, fun x => ?_⟩, fun z hz => ?_⟩
    · unfold jR
      by_cases q : R x = c
      · rw [if_pos q, ← pcd, ← q, s2]
      · rw [if_neg q, s2]
    · rcases List.mem_append.mp hz with q | q
      · exact a2 z (List.mem_append_left _ q)
      · exact hadd φ s1 pcd z q
  · unfold jR at h2
    by_cases q : R x = c
    · rw [if_pos q] at h2
      rw [ed] at h2
      cases h2
      obtain ⟨c1, c2⟩ := m.cg x k kc h1 (by rw [q]; exact ec)
      rcases hl with hl | ⟨l1, l2, l3⟩
      · exact ⟨fun _ => c1 hl, fun nk => absurd (c1 hl) nk⟩
      · refine ⟨fun z => absurd z l1, fun nk => ?_⟩
        obtain ⟨c3, c4⟩ := c2 nk
        refine ⟨c3.trans l2, fun f hf j u v hu hv => ?_⟩
        obtain ⟨d1, d2, d3⟩ := down f hf
        have hz : ∃ w, kc.tl[j]? = some w := by
          have lu := (List.getElem?_eq_some_iff.mp hu).1
          have le : k.tl.length = kc.tl.length := by
            exact hd_len c3
          exact ⟨_, List.getElem?_eq_getElem (by omega)⟩
        obtain ⟨w, hw⟩ := hz
        rw [c4 f d1 j u w hu hw]
        rcases l3 j w v hw hv with q | q
        · exact d3 _ q
        · exact (d3 _ q).symm
    · rw [if_neg q] at h2
      obtain ⟨c1, c2⟩ := m.cg x k k' h1 h2
      exact ⟨c1, fun nk => ⟨(c2 nk).1, fun f hf => (c2 nk).2 f (down f hf).1⟩⟩

def cntR (n : Nat) (R : Nat → Nat) : Nat := ((List.range n).filter fun x => decide (R x = x)).length
theorem filter_lt {α : Type} {p q : α → Bool} : ∀ (l : List α) (x : α), (∀ y, q y = true → p y = true) → x ∈ l → p x = true → q x = false → (l.filter q).length < (l.filter p).length
  | [], _, _, h, _, _ => nomatch h
  | y :: l, x, hi, h, h1, h2 => by
    have le : (l.filter q).length ≤ (l.filter p).length := by
      clear h
      induction l with
      | nil => exact Nat.le_refl _
      | cons z l ih =>
        rw [List.filter_cons, List.filter_cons]
        cases e : q z with
        | true => rw [hi z e, if_pos rfl, if_pos rfl, List.length_cons, List.length_cons]; omega
        | false =>
          rw [if_neg Bool.false_ne_true]
          split
          · rw [List.length_cons]; omega
          · exact ih
    rw [List.filter_cons, List.filter_cons]
    rcases List.mem_cons.mp h with rfl | h
    · rw [h1, h2, if_pos rfl, if_neg Bool.false_ne_true, List.length_cons]
      omega
    · have ih := filter_lt l x hi h h1 h2
      cases e : q y with
      | true => rw [hi y e, if_pos rfl, if_pos rfl, List.length_cons, List.length_cons]; omega
      | false =>
        rw [if_neg Bool.false_ne_true]
        split
        · rw [List.length_cons]; omega
        · exact ih
theorem cntR_join {n : Nat} {R : Nat → Nat} {c d : Nat} (hc : R c = c) (ne : c ≠ d) (hd : R d = d) (l : c < n) : cntR n (jR R c d) < cntR n R := by
  refine filter_lt _ c (fun y hy => ?_) (List.mem_range.mpr l) (decide_eq_true hc) (decide_eq_false ?_)
  · rw [decide_eq_true_eq] at hy ⊢
    unfold jR at hy
    by_cases q : R y = c
    · rw [if_pos q] at hy
      rw [← hy]
      exact hd
    · rw [if_neg q] at hy
      exact hy
  · unfold jR
    rw [if_pos hc]
    exact fun e => ne e.symm
theorem zip_mem {xs ys : List Nat} {j c d : Nat} (h1 : ys[j]? = some c) (h2 : xs[j]? = some d) : (d, c) ∈ xs.zip ys := by
  refine List.mem_iff_getElem?.mpr ⟨j, ?_⟩
  rw [List.getElem?_zip_eq_some]
  exact ⟨h2, h1⟩
theorem zip_eq {K : List Kd} {x y : Nat} {k k' : Kd} (hx : K[x]? = some k) (hy : K[y]? = some k') {φ : Nat → Fm} (s : Str3 K φ) (e : φ y = φ x) : ∀ z ∈ k.tl.zip k'.tl, φ z.1 = φ z.2 := by
  have sx := s x k hx
  have sy := s y k' hy
  intro z hz
  cases k with
  | l => cases hz
  | n a =>
    cases k' with
    | l => cases hz
    | n a2 =>
      have sx : φ x = .ng (φ a) := sx
      have sy : φ y = .ng (φ a2) := sy
      rw [sx, sy] at e
      injection e with e
      rcases List.mem_cons.mp hz with rfl | hz
      · exact e.symm
      · cases hz
    | i a2 b2 =>
      have sx : φ x = .ng (φ a) := sx
      have sy : φ y = .im (φ a2) (φ b2) := sy
      rw [sx, sy] at e
      cases e
  | i a b =>
    cases k' with
    | l => cases hz
    | n a2 =>
      have sx : φ x = .im (φ a) (φ b) := sx
      have sy : φ y = .ng (φ a2) := sy
      rw [sx, sy] at e
      cases e
    | i a2 b2 =>
      have sx : φ x = .im (φ a) (φ b) := sx
      have sy : φ y = .im (φ a2) (φ b2) := sy
      rw [sx, sy] at e
      injection e with e1 e2
      rcases List.mem_cons.mp hz with rfl | hz
      · exact e1.symm
      · rcases List.mem_cons.mp hz with rfl | hz
        · exact e2.symm
        · cases hz
def Kids (K : List Kd) : Prop := ∀ (x : Nat) (k : Kd), K[x]? = some k → ∀ y ∈ k.tl, y < K.length
theorem zip_kids {K : List Kd} (kids : Kids K) {x y : Nat} {k k' : Kd} (hx : K[x]? = some k) (hy : K[y]? = some k') {z : Nat × Nat} (hz : z ∈ k.tl.zip k'.tl) : z.1 < K.length ∧ z.2 < K.length := by
  obtain ⟨a, b⟩ := z
  have m := List.of_mem_zip hz
  exact ⟨kids x k hx a m.1, kids y k' hy b m.2⟩
def tmsK (K : List Kd) (nm : List (Key × D)) (nr : List Nat) : Tms := ⟨K.map Kd.hd, K.map Kd.tl, nm, nr⟩
def p2D (z : Nat × Nat) : D := .tup [.int (z.1 : Nat), .int (z.2 : Nat)]
def A_tmade (C : Addr) : ASp := fun ds M Q _ => ∃ (p a t n r : Addr) (K : List Kd) (nm : List (Key × D)) (nr0 : List Nat) (x y : Nat) (R ρ : Nat → Nat), ds = [.obj p, .int (x : Nat), .int (y : Nat)] ∧ TmsAt C M p a t n r (tmsK K nm nr0) ∧ n ≠ r ∧ x < K.length ∧ y < K.length ∧ K.length ≤ 10000 ∧ nr0.length = K.length ∧ Kids K ∧ UF nr0 R ρ ∧ CG K R [] ∧
  (∀ nr' R' ρ' M', UF nr' R' ρ' → nr'.length = K.length → TmsAt C M' p a t n r (tmsK K nm nr') → CG K R' [] → R' x = R' y → (∀ u v, R u = R v → R' u = R' v) → (∀ φ, Sat K R φ → φ x = φ y → Sat K R' φ) → ExtS [r] M M' → Q (.bl true) M') ∧
  ((∀ φ, Sat K R φ → φ x ≠ φ y) → ∀ M', ExtS [r] M M' → Q (.bl false) M')
theorem CG.of {K : List Kd} {R : Nat → Nat} {W : List (Nat × Nat)} (h : CG K R []) : CG K R W := fun x k k' h1 h2 => ⟨(h x k k' h1 h2).1, fun nk => ⟨((h x k k' h1 h2).2 nk).1, fun f hf => ((h x k k' h1 h2).2 nk).2 f ⟨hf.1, fun z hz => nomatch hz⟩⟩⟩
theorem Mid.start {K : List Kd} {R : Nat → Nat} {x y : Nat} (h : CG K R []) : Mid K R x y R [(x, y)] :=
  ⟨fun _ _ e => e, fun φ h1 h2 => ⟨h1, fun z hz => by rw [List.mem_singleton.mp hz]; exact h2⟩, fun f hf => hf.2 (x, y) (List.mem_singleton.mpr rfl), h.of⟩
theorem p_tmade (C : Addr) (ds : List D) (M : Sto) (Q : D → Sto → Prop) (Xa) (hl : ds.length = 3) (h : A_tmade C ds M Q Xa) : a_Terms_made_same C (A_troot C) ax0 (Done Q) (startA ["self", "x", "y", "waiting", "first", "second"] ds) M := by
  obtain ⟨p, a, t, n, r, K, nm, nr0, x, y, R, ρ, rfl, hT, nnr, hx, hy, hn, hnr, kids, uf, cg, q1, q2⟩ := h
  unfold a_Terms_made_same
  try (simp only [↓jAe,↓jAp,↓jAi,↓jA0,↓jA1,↓jA9,↓jA7,↓jA6,↓jA4,jAh,List.set_cons_zero,List.set_cons_succ,List.getElem?_cons_zero,List.getElem?_cons_succ,List.length_cons,List.length_nil,List.nil_append,List.cons_append,startA,List.map_cons,List.map_nil,List.replicate_succ,List.replicate_zero,Nat.reduceAdd,Nat.reduceSub,Nat.reduceLeDiff,Nat.zero_add,true_and, *])
  intro w nw
  have hw0 : up M w (.lst [.tup [.int (x : Nat), .int (y : Nat)]]) w = some (.lst (([(x, y)] : List (Nat × Nat)).map p2D)) := up_same
  have nw0 := nw
  have nwS : w ≠ p ∧ w ≠ a ∧ w ≠ t ∧ w ≠ n ∧ w ≠ r := by
    obtain ⟨dx, h1⟩ := hT.1
    exact ⟨(fresh_ne nw h1).symm, (fresh_ne nw hT.2.1).symm, (fresh_ne nw hT.2.2.1).symm, (fresh_ne nw hT.2.2.2.1).symm, (fresh_ne nw hT.2.2.2.2.1).symm⟩
  have nwp : p ≠ w := nwS.1.symm
  have nwr : r ≠ w := nwS.2.2.2.2.symm
  have cnt0 : cntR K.length R ≤ K.length := by
    unfold cntR
    exact Nat.le_trans (List.length_filter_le _ _) (by rw [List.length_range]; exact Nat.le_refl _)
  have eT := Ext.new (mo := .lst [.tup [.int (x : Nat), .int (y : Nat)]]) nw
  have hT0 : TmsAt C (up M w (.lst [.tup [.int (x : Nat), .int (y : Nat)]])) p a t n r (tmsK K nm nr0) := hT.ext eT
  have e0 : ExtS [r] M (up M w (.lst [.tup [.int (x : Nat), .int (y : Nat)]])) := fun b o _ m => eT b o m
  generalize up M w (.lst [.tup [.int (x : Nat), .int (y : Nat)]]) = M0 at *
  skip
  refine while_runN (fun m env M' => ∃ (W : List (Nat × Nat)) (x4 x5 : Option D) (nr' : List Nat) (R' ρ' : Nat → Nat), env = [some (.obj p), some (.int (x : Nat)), some (.int (y : Nat)), some (.obj w), x4, x5] ∧ m = 3 * cntR K.length R' + W.length ∧ M' w = some (.lst (W.map p2D)) ∧ W.length + 2 * cntR K.length R' ≤ 2 * K.length + 1 ∧ (∀ z ∈ W, z.1 < K.length ∧ z.2 < K.length) ∧ UF nr' R' ρ' ∧ nr'.length = K.length ∧ TmsAt C M' p a t n r (tmsK K nm nr') ∧ Mid K R x y R' W ∧ ExtS [r] M M') ?_ ⟨[(x, y)], none, none, nr0, R, ρ, rfl, rfl, hw0, by show 1 + _ ≤ _; omega, fun z hz => by rw [List.mem_singleton.mp hz]; exact ⟨hx, hy⟩, uf, hnr, hT0, Mid.start cg, e0⟩
  rintro m N env M' ⟨W, x4, x5, nr', R', ρ', rfl, rfl, hW, hWl, hWk, uf', hnr', hT', mid, he⟩ next
  rcases List.eq_nil_or_concat W with rfl | ⟨W', z, rfl⟩
  · have g := q1 nr' R' ρ' M' uf' hnr' hT' (fun x k k' h1 h2 => mid.cg x k k' h1 h2) (mid.snd R' ⟨fun x => uf'.idemA x, fun z hz => nomatch hz⟩) mid.coarse (fun φ h1 h2 => (mid.comp φ h1 h2).1) he
    have hW : M' w = some (.lst []) := hW
    clear next q1 q2 mid
    try (simp only [↓jAe,↓jAd,↓jAp,↓jA0,↓e_c,↓jA1,↓jAv,↓jBa,↓jAz,↓jAb,List.getElem?_cons_zero,List.getElem?_cons_succ,List.isEmpty_nil,List.map_nil,Bool.not_true,Bool.false_eq_true,if_false, *])
  · obtain ⟨u, v⟩ := z
    rw [List.concat_eq_append] at hW hWl hWk mid next
    have hW2 : M' w = some (.lst (W'.map p2D ++ [.tup [.int (u : Nat), .int (v : Nat)]])) := by rw [hW, List.map_append]; rfl
    rw [List.length_append, List.length_singleton] at next hWl
    have hu := (hWk (u, v) (List.mem_append_right _ (List.mem_singleton.mpr rfl))).1
    have hv := (hWk (u, v) (List.mem_append_right _ (List.mem_singleton.mpr rfl))).2
    have hWk2 : ∀ z ∈ W', z.1 < K.length ∧ z.2 < K.length := fun z hz => hWk z (List.mem_append_left _ hz)
    have nw := nwS
    have hT1 := hT'.upd (mo := .lst (W'.map p2D)) nw.1 nw.2.1 nw.2.2.1 nw.2.2.2.1 nw.2.2.2.2
    have hw1 : up M' w (.lst (W'.map p2D)) w = some (.lst (W'.map p2D)) := up_same
    have he1 : ExtS [r] M (up M' w (.lst (W'.map p2D))) := fun b o hb hm => by rw [up_ne (fresh_ne nw0 hm)]; exact he b o hb hm
    have hu : u < K.length := hu
    have hv : v < K.length := hv
    clear hW hWk
    try (simp only [↓jAe,↓jAl,↓jDi,↓jAy,↓jAd,↓jA3,↓jAp,↓jAi,↓jBj,↓jBl,↓jBq,↓jCy,↓jA0,↓e_c,↓jA8,↓jA1,↓jAf,↓jAv,↓jBa,↓jA9,↓jA7,↓jAx,↓jBs,↓jBm,↓jFq,↓jAz,↓jBx,↓jAb,jAq,List.set_cons_zero,List.set_cons_succ,List.getElem?_cons_zero,List.getElem?_cons_succ,List.length_cons,List.length_nil,List.getLast?_concat,List.dropLast_concat,jBg,Nat.reduceAdd,Nat.zero_add,Bool.not_false,if_true,if_false,true_and, *])
    generalize up M' w (.lst (W'.map p2D)) = M1 at *
    obtain ⟨dx, hp1⟩ := hT'.1
    refine ⟨⟨dx, _, hp1, rfl⟩, rfl, p, a, t, n, r, tmsK K nm nr', u, R', ρ', rfl, hT1, nnr, by show u < nr'.length; omega, by show nr'.length ≤ _; omega, uf', fun nr2 M2 uf2 l2a hT2a e2 => ?_⟩
    have l2 : nr2.length = K.length := by rw [l2a]; exact hnr'
    have hT2 : TmsAt C M2 p a t n r (tmsK K nm nr2) := hT2a
    clear l2a hT2a
    have hw2 := e2 w _ (by simp [nw.2.2.2.2]) hw1
    have he2 := he1.trans e2
    obtain ⟨dx2, hp2⟩ := hT2.1
    try (simp only [*])
    refine ⟨⟨dx2, _, rfl, rfl⟩, rfl, p, a, t, n, r, tmsK K nm nr2, v, R', ρ', rfl, hT2, nnr, by show v < nr2.length; omega, by show nr2.length ≤ _; omega, uf2, fun nr3 M3 uf3 l3a hT3a e3 => ?_⟩
    have l3 : nr3.length = K.length := by rw [l3a]; exact l2
    have hT3 : TmsAt C M3 p a t n r (tmsK K nm nr3) := hT3a
    clear l3a hT3a
    have hw3 := e3 w _ (by simp [nw.2.2.2.2]) hw2
    have he3 := he2.trans e3
    have ru : R' u < K.length := by have := uf'.rlt u (by omega); omega
    have rv : R' v < K.length := by have := uf'.rlt v (by omega); omega
    obtain ⟨ku, hku⟩ : ∃ k, K[R' u]? = some k := ⟨_, List.getElem?_eq_getElem ru⟩
    obtain ⟨kv, hkv⟩ : ∃ k, K[R' v]? = some k := ⟨_, List.getElem?_eq_getElem rv⟩
    have ha3 : M3 a = some (.lst ((K.map Kd.hd).map D.str)) := hT3.2.1
    have ht3 : M3 t = some (.lst ((K.map Kd.tl).map natsD)) := hT3.2.2.1
    have hr3 : M3 r = some (.lst (nr3.map natI)) := hT3.2.2.2.2.1
    have atu : atI ((K.map Kd.hd).map D.str) (R' u : Int) = some (.str ku.hd) := by rw [atIn, List.getElem?_map, List.getElem?_map, hku]; rfl
    have atv : atI ((K.map Kd.hd).map D.str) (R' v : Int) = some (.str kv.hd) := by rw [atIn, List.getElem?_map, List.getElem?_map, hkv]; rfl
    have atu2 : atI ((K.map Kd.tl).map natsD) (R' u : Int) = some (natsD ku.tl) := by rw [atIn, List.getElem?_map, List.getElem?_map, hku]; rfl
    have atv2 : atI ((K.map Kd.tl).map natsD) (R' v : Int) = some (natsD kv.tl) := by rw [atIn, List.getElem?_map, List.getElem?_map, hkv]; rfl
    obtain ⟨dx3, hp3⟩ := hT3.1
    clear hT1 hT2 hw1 hw2 e2 e3 he1 he2
    by_cases c : R' u = R' v
    · have g := next (3 * cntR K.length R' + W'.length) [some (.obj p), some (.int (x : Nat)), some (.int (y : Nat)), some (.obj w), some (.int (R' u : Nat)), some (.int (R' v : Nat))] M3 (by omega) ⟨W', _, _, nr3, R', ρ', rfl, rfl, hw3, by omega, hWk2, uf3, l3, hT3, mid.drop c, he3⟩
      rw [c] at g
      have ci : ((R' u : Nat) : Int) = ((R' v : Nat) : Int) := by rw [c]
      clear next q1 q2 mid
      try (simp only [↓jBo,if_true,decide_true, *])
      all_goals exact g
    · have ci : (((R' u : Nat) : Int) = ((R' v : Nat) : Int)) = False := eq_false (by omega)
      have hru := uf'.idemA u
      have hrv := uf'.idemA v
      have ilu : ixN K.length ((R' u : Nat) : Int) = some (R' u) := ixNat (by omega)
      have ilv : ixN K.length ((R' v : Nat) : Int) = some (R' v) := ixNat (by omega)
      have y1 : (z_not = z_letter) = False := eq_false fun e => w_ln e.symm
      have y2 : (z_if = z_letter) = False := eq_false fun e => w_li e.symm
      have y3 : (z_not = z_if) = False := eq_false w_ni
      have y4 : (z_if = z_not) = False := eq_false fun e => w_ni e.symm
      have nrw := nw.2.2.2.2
      have npr := hT3.2.2.2.2.2.2.2.2.1
      have npw := nw.1
      have ntr : t ≠ r := hT3.2.2.2.2.2.2.2.2.2.2.2
      have nar : a ≠ r := hT3.2.2.2.2.2.2.2.2.2.2.1
      have setR := fun ns => hT3.setR nnr ns
      have putR := fun ns => (he3.put (x := r) (mo := .lst ((ns : List Nat).map natI)) (by simp))
      have done1 : ∀ (c d : Nat) (x4 x5 : Option D), (c = R' u ∧ d = R' v) ∨ (c = R' v ∧ d = R' u) → (∃ k, K[c]? = some k ∧ k.isL) → N [some (.obj p), some (.int (x : Nat)), some (.int (y : Nat)), some (.obj w), x4, x5] (up M3 r (.lst ((nr3.map natI).set c (.int (d : Nat))))) := fun c0 d0 x4 x5 hcd ⟨k0, hk0, hl0⟩ => by
        have hc : R' c0 = c0 := by rcases hcd with ⟨e, _⟩ | ⟨e, _⟩ <;> rw [e] <;> assumption
        have hd : R' d0 = d0 := by rcases hcd with ⟨_, e⟩ | ⟨_, e⟩ <;> rw [e] <;> assumption
        have ne : c0 ≠ d0 := by rcases hcd with ⟨e1, e2⟩ | ⟨e1, e2⟩ <;> rw [e1, e2] <;> omega
        have lc : c0 < K.length := by rcases hcd with ⟨e, _⟩ | ⟨e, _⟩ <;> rw [e] <;> assumption
        have ld : d0 < K.length := by rcases hcd with ⟨_, e⟩ | ⟨_, e⟩ <;> rw [e] <;> assumption
        have m2 := mid.hang (add := []) (fun x => uf'.idemA x) hc hd ne (by rcases hcd with h | h; exact .inl h; exact .inr h) k0 _ hk0 (List.getElem?_eq_getElem ld) (.inl hl0) (fun _ _ _ z hz => nomatch hz)
        rw [List.append_nil] at m2
        have cl := cntR_join hc ne hd lc
        refine next (3 * cntR K.length (jR R' c0 d0) + W'.length) _ _ (by omega) ⟨W', x4, x5, nr3.set c0 d0, jR R' c0 d0, jρ R' ρ' c0 d0, rfl, rfl, by rw [up_ne nrw]; exact hw3, by omega, hWk2, uf3.join (by omega) (by omega) hc hd ne, by rw [List.length_set]; exact l3, ?_, m2, ?_⟩
        · have z := setR (nr3.set c0 d0)
          rw [List.map_set] at z
          exact z
        · have z := putR (nr3.set c0 d0)
          rw [List.map_set] at z
          exact z
      have done2 : ∀ (add : List (Nat × Nat)) (x4 x5 : Option D), ¬ ku.isL → ¬ kv.isL → kv.hd = ku.hd → (∀ (j u v : Nat), kv.tl[j]? = some u → ku.tl[j]? = some v → (v, u) ∈ add) → (∀ φ, Str3 K φ → φ (R' v) = φ (R' u) → ∀ z ∈ add, φ z.1 = φ z.2) → add.length ≤ 2 → (∀ z ∈ add, z.1 < K.length ∧ z.2 < K.length) → ∀ M4, Ext (up M3 r (.lst ((nr3.map natI).set (R' v) (.int (R' u : Nat))))) M4 →
          N [some (.obj p), some (.int (x : Nat)), some (.int (y : Nat)), some (.obj w), x4, x5] (up M4 w (.lst (W'.map p2D ++ add.map p2D))) := fun add x4 x5 nu nv eh ht ha al ak M4 e4 => by
        have ne : R' v ≠ R' u := by omega
        have m2 := mid.hang (c := R' v) (d := R' u) (add := add) (fun x => uf'.idemA x) hrv hru ne (.inr ⟨rfl, rfl⟩) kv ku hkv hku (.inr ⟨nu, eh, fun j a b h1 h2 => .inr (ht j a b h1 h2)⟩) ha
        have cl := cntR_join hrv ne hru rv
        refine next (3 * cntR K.length (jR R' (R' v) (R' u)) + (W' ++ add).length) _ _ (by rw [List.length_append]; omega) ⟨W' ++ add, x4, x5, nr3.set (R' v) (R' u), jR R' (R' v) (R' u), jρ R' ρ' (R' v) (R' u), rfl, rfl, by rw [up_same, List.map_append], by rw [List.length_append]; omega, fun z hz => ?_, uf3.join (by omega) (by omega) hrv hru ne, by rw [List.length_set]; exact l3, ?_, m2, ?_⟩
        · rcases List.mem_append.mp hz with q | q
          · exact hWk2 z q
          · exact ak z q
        · have z := setR (nr3.set (R' v) (R' u))
          rw [List.map_set] at z
          exact (z.ext e4).upd nw.1 nw.2.1 nw.2.2.1 nw.2.2.2.1 nw.2.2.2.2
        · have z := putR (nr3.set (R' v) (R' u))
          rw [List.map_set] at z
          exact fun b o hb hm => by rw [up_ne (fresh_ne nw0 hm)]; exact e4 b o (z b o hb hm)
      have fail : ku.hd ≠ kv.hd → ¬ ku.isL → ¬ kv.isL → ∀ M', ExtS [r] M M' → Q (.bl false) M' := fun ne nu nv => q2 fun φ h1 h2 => by
        obtain ⟨⟨s1, s2⟩, a2⟩ := mid.comp φ h1 h2
        have e : φ (R' u) = φ (R' v) := by rw [s2, s2]; exact a2 (u, v) (List.mem_append_right _ (List.mem_singleton.mpr rfl))
        have su := s1 _ _ hku
        have sv := s1 _ _ hkv
        cases ku <;> cases kv <;> first | exact nu trivial | exact nv trivial | exact ne rfl | (rw [su, sv] at e; cases e)
      clear next q1 q2 putR setR
      cases ku with
      | l =>
        have g := done1 (R' u) (R' v) (some (.int (R' u : Nat))) (some (.int (R' v : Nat))) (.inl ⟨rfl, rfl⟩) ⟨_, hku, trivial⟩
        have hh : Kd.l.hd = z_letter := rfl
        rw [hh] at atu
        clear done1 done2 fail
        try (simp only [↓jBo,Bool.false_eq_true,if_false,decide_false, *])
        refine ⟨dx3, _, .obj a, .ref a, rfl, rfl, rfl, ?_⟩
        try (simp only [↓jA1,↓jAo,↓jAs,↓jAb,if_true,decide_true, *])
        refine ⟨dx3, _, .obj r, .ref r, rfl, rfl, rfl, ?_⟩
        try (simp only [↓jA1,List.length_map, *])
        all_goals exact g
      | n a1 =>
        have hh : (Kd.n a1).hd = z_not := rfl
        have htl : natsD (Kd.n a1).tl = .tup [.int (a1 : Nat)] := rfl
        rw [hh] at atu
        rw [htl] at atu2
        cases kv with
        | l =>
          have g := done1 (R' v) (R' u) (some (.int (R' u : Nat))) (some (.int (R' v : Nat))) (.inr ⟨rfl, rfl⟩) ⟨_, hkv, trivial⟩
          have hh2 : Kd.l.hd = z_letter := rfl
          rw [hh2] at atv
          clear done1 done2 fail
          try (simp only [↓jBo,Bool.false_eq_true,if_false,decide_false, *])
          refine ⟨dx3, _, .obj a, .ref a, rfl, rfl, rfl, ?_⟩
          try (simp only [↓jA1,↓jAo,↓jAs,↓jAb,Bool.false_eq_true,if_false,decide_false, *])
          refine ⟨dx3, _, .obj r, .ref r, rfl, rfl, rfl, ?_⟩
          try (simp only [↓jA1,List.length_map,if_false, *])
          refine ⟨dx3, _, .obj a, .ref a, rfl, rfl, rfl, ?_⟩
          try (simp only [↓jA1,↓jB0,↓jAs,↓jAb,jAq,Bool.not_true,Bool.false_eq_true,if_false,decide_true, *])
          all_goals exact g
        | n a2 =>
          have g := done2 [(a1, a2)] (some (.int (R' u : Nat))) (some (.int (R' v : Nat))) (fun z => z) (fun z => z) rfl (fun j c d h1 h2 => zip_mem h1 h2) (fun φ sφ e => zip_eq hku hkv sφ e) (by simp) (fun z hz => zip_kids kids hku hkv hz)
          have hh2 : (Kd.n a2).hd = z_not := rfl
          have htl2 : natsD (Kd.n a2).tl = .tup [.int (a2 : Nat)] := rfl
          rw [hh2] at atv
          rw [htl2] at atv2
          clear done1 done2 fail
          try (simp only [↓jBo,Bool.false_eq_true,if_false,decide_false, *])
          refine ⟨dx3, _, .obj a, .ref a, rfl, rfl, rfl, ?_⟩
          try (simp only [↓jA1,↓jAo,↓jAs,↓jAb,Bool.false_eq_true,if_false,decide_false, *])
          refine ⟨dx3, _, .obj r, .ref r, rfl, rfl, rfl, ?_⟩
          try (simp only [↓jA1,List.length_map,if_false, *])
          refine ⟨dx3, _, .obj a, .ref a, rfl, rfl, rfl, ?_⟩
          try (simp only [↓jA1,↓jB0,↓jAs,↓jAb,jAq,Bool.not_false,if_true,if_false,decide_false, *])
          refine ⟨dx3, _, .obj a, .ref a, rfl, rfl, rfl, ?_⟩
          try (simp only [↓jA1,↓jAs,↓jAb,jAq,if_false, *])
          refine ⟨dx3, _, .obj a, .ref a, rfl, rfl, rfl, ?_⟩
          try (simp only [↓jA1,↓jB0,↓jAs,↓jAb,jAq,Bool.not_true,Bool.false_eq_true,if_false,decide_true, *])
          refine ⟨dx3, _, .obj t, .ref t, rfl, rfl, rfl, ?_⟩
          try (simp only [↓jA1,↓jAs,↓jAb,jAq,if_false, *])
          refine ⟨dx3, _, .obj t, .ref t, rfl, rfl, rfl, ?_⟩
          try (simp only [↓jA1,jCk,jCb,↓jAs,↓jAb,jAq,List.length_cons,List.length_nil,Nat.reduceLeDiff,Nat.zero_add,if_false,true_and, *])
          intro q nq
          have hw4 : up M3 r (.lst ((nr3.map natI).set (R' v) (.int (R' u : Nat)))) w = some (.lst (W'.map p2D)) := by rw [up_ne nrw]; exact hw3
          have nqw : w ≠ q := fresh_ne nq hw4
          have g4 := g _ (Ext.new (mo := .lst [p2D (a1, a2)]) nq)
          try (simp only [↓jCm,↓jAb,jAq,jAh,List.length_cons,List.length_nil,List.length_map,Nat.reduceLeDiff,Nat.zero_add,if_true,if_false, *])
          exact ⟨by omega, g4⟩
        | i a2 b2 =>
          have g := fail (fun e => by first | exact w_ni e | exact w_ni e.symm) (fun z => z) (fun z => z)
          have hh2 : (Kd.i a2 b2).hd = z_if := rfl
          rw [hh2] at atv
          clear done1 done2 fail
          try (simp only [↓jBo,Bool.false_eq_true,if_false,decide_false, *])
          refine ⟨dx3, _, .obj a, .ref a, rfl, rfl, rfl, ?_⟩
          try (simp only [↓jA1,↓jAo,↓jAs,↓jAb,Bool.false_eq_true,if_false,decide_false, *])
          refine ⟨dx3, _, .obj r, .ref r, rfl, rfl, rfl, ?_⟩
          try (simp only [↓jA1,List.length_map,if_false, *])
          refine ⟨dx3, _, .obj a, .ref a, rfl, rfl, rfl, ?_⟩
          try (simp only [↓jA1,↓jB0,↓jAs,↓jAb,jAq,Bool.not_false,if_true,if_false,decide_false, *])
          refine ⟨dx3, _, .obj a, .ref a, rfl, rfl, rfl, ?_⟩
          try (simp only [↓jA1,↓jAs,↓jAb,jAq,if_false, *])
          refine ⟨dx3, _, .obj a, .ref a, rfl, rfl, rfl, ?_⟩
          try (simp only [↓jA1,↓jB0,↓jAs,↓jAb,jAq,Bool.not_false,if_true,if_false,decide_false, *])
          all_goals first | exact g _ (he3.put (by simp)) | exact he3.put (by simp) | skip
      | i a1 b1 =>
        have hh : (Kd.i a1 b1).hd = z_if := rfl
        have htl : natsD (Kd.i a1 b1).tl = .tup [.int (a1 : Nat), .int (b1 : Nat)] := rfl
        rw [hh] at atu
        rw [htl] at atu2
        cases kv with
        | l =>
          have g := done1 (R' v) (R' u) (some (.int (R' u : Nat))) (some (.int (R' v : Nat))) (.inr ⟨rfl, rfl⟩) ⟨_, hkv, trivial⟩
          have hh2 : Kd.l.hd = z_letter := rfl
          rw [hh2] at atv
          clear done1 done2 fail
          try (simp only [↓jBo,Bool.false_eq_true,if_false,decide_false, *])
          refine ⟨dx3, _, .obj a, .ref a, rfl, rfl, rfl, ?_⟩
          try (simp only [↓jA1,↓jAo,↓jAs,↓jAb,Bool.false_eq_true,if_false,decide_false, *])
          refine ⟨dx3, _, .obj r, .ref r, rfl, rfl, rfl, ?_⟩
          try (simp only [↓jA1,List.length_map,if_false, *])
          refine ⟨dx3, _, .obj a, .ref a, rfl, rfl, rfl, ?_⟩
          try (simp only [↓jA1,↓jB0,↓jAs,↓jAb,jAq,Bool.not_true,Bool.false_eq_true,if_false,decide_true, *])
          all_goals exact g
        | n a2 =>
          have g := fail (fun e => by first | exact w_ni e | exact w_ni e.symm) (fun z => z) (fun z => z)
          have hh2 : (Kd.n a2).hd = z_not := rfl
          rw [hh2] at atv
          clear done1 done2 fail
          try (simp only [↓jBo,Bool.false_eq_true,if_false,decide_false, *])
          refine ⟨dx3, _, .obj a, .ref a, rfl, rfl, rfl, ?_⟩
          try (simp only [↓jA1,↓jAo,↓jAs,↓jAb,Bool.false_eq_true,if_false,decide_false, *])
          refine ⟨dx3, _, .obj r, .ref r, rfl, rfl, rfl, ?_⟩
          try (simp only [↓jA1,List.length_map,if_false, *])
          refine ⟨dx3, _, .obj a, .ref a, rfl, rfl, rfl, ?_⟩
          try (simp only [↓jA1,↓jB0,↓jAs,↓jAb,jAq,Bool.not_false,if_true,if_false,decide_false, *])
          refine ⟨dx3, _, .obj a, .ref a, rfl, rfl, rfl, ?_⟩
          try (simp only [↓jA1,↓jAs,↓jAb,jAq,if_false, *])
          refine ⟨dx3, _, .obj a, .ref a, rfl, rfl, rfl, ?_⟩
          try (simp only [↓jA1,↓jB0,↓jAs,↓jAb,jAq,Bool.not_false,if_true,if_false,decide_false, *])
          all_goals first | exact g _ (he3.put (by simp)) | exact he3.put (by simp) | skip
        | i a2 b2 =>
          have g := done2 [(a1, a2), (b1, b2)] (some (.int (R' u : Nat))) (some (.int (R' v : Nat))) (fun z => z) (fun z => z) rfl (fun j c d h1 h2 => zip_mem h1 h2) (fun φ sφ e => zip_eq hku hkv sφ e) (by simp) (fun z hz => zip_kids kids hku hkv hz)
          have hh2 : (Kd.i a2 b2).hd = z_if := rfl
          have htl2 : natsD (Kd.i a2 b2).tl = .tup [.int (a2 : Nat), .int (b2 : Nat)] := rfl
          rw [hh2] at atv
          rw [htl2] at atv2
          clear done1 done2 fail
          try (simp only [↓jBo,Bool.false_eq_true,if_false,decide_false, *])
          refine ⟨dx3, _, .obj a, .ref a, rfl, rfl, rfl, ?_⟩
          try (simp only [↓jA1,↓jAo,↓jAs,↓jAb,Bool.false_eq_true,if_false,decide_false, *])
          refine ⟨dx3, _, .obj r, .ref r, rfl, rfl, rfl, ?_⟩
          try (simp only [↓jA1,List.length_map,if_false, *])
          refine ⟨dx3, _, .obj a, .ref a, rfl, rfl, rfl, ?_⟩
          try (simp only [↓jA1,↓jB0,↓jAs,↓jAb,jAq,Bool.not_false,if_true,if_false,decide_false, *])
          refine ⟨dx3, _, .obj a, .ref a, rfl, rfl, rfl, ?_⟩
          try (simp only [↓jA1,↓jAs,↓jAb,jAq,if_false, *])
          refine ⟨dx3, _, .obj a, .ref a, rfl, rfl, rfl, ?_⟩
          try (simp only [↓jA1,↓jB0,↓jAs,↓jAb,jAq,Bool.not_true,Bool.false_eq_true,if_false,decide_true, *])
          refine ⟨dx3, _, .obj t, .ref t, rfl, rfl, rfl, ?_⟩
          try (simp only [↓jA1,↓jAs,↓jAb,jAq,if_false, *])
          refine ⟨dx3, _, .obj t, .ref t, rfl, rfl, rfl, ?_⟩
          try (simp only [↓jA1,jCk,jCb,↓jAs,↓jAb,jAq,List.length_cons,List.length_nil,Nat.reduceAdd,Nat.reduceLeDiff,Nat.zero_add,if_false,true_and, *])
          intro q nq
          have hw4 : up M3 r (.lst ((nr3.map natI).set (R' v) (.int (R' u : Nat)))) w = some (.lst (W'.map p2D)) := by rw [up_ne nrw]; exact hw3
          have nqw : w ≠ q := fresh_ne nq hw4
          have g4 := g _ (Ext.new (mo := .lst [p2D (a1, a2), p2D (b1, b2)]) nq)
          try (simp only [↓jCm,↓jAb,jAq,jAh,List.length_cons,List.length_nil,List.length_map,Nat.reduceAdd,Nat.reduceLeDiff,Nat.zero_add,if_true,if_false, *])
          exact ⟨by omega, g4⟩

/- slots of size: 0 formula, 1 many, 2 waiting, 3 part -/
/- slots of letters: 0 formula, 1 names, 2 waiting, 3 part -/
def a_letters (w : World)  : ATS :=
    (aSeq (aAsg (aSet0 w) (agName 1))
    (aSeq (aAsg (aLst (aCons (aVar 0) aNil)) (agName 2))
    (aSeq (aWhile (aTruth (aVar 2)) (aSeq (aAsg (aPop (aVar 2)) (agName 3))
    (aIf (aTest (aOp (ρEq false) (aOp ρIx (aVar 3) (aC (.int 0))) (aC (.str z_letter)))) (aExpr (aSAdd w (aVar 1) (aCons (aOp ρIx (aVar 3) (aC (.int 1))) aNil))) (aExpr (aLm ρExtT (aVar 2) (aCons (aSl (aVar 3) (aOSome (aC (.int 1))) aONone) aNil))))))
    (aRet (aCB ρTuple (aCons (aCB (ρSortTx w) (aCons (aVar 1) aNil)) aNil))))))
/- slots of put: 0 formula, 1 table -/
def szs (fs : List Fm) : Nat := (fs.map Fm.sz).sum
theorem szs_cons (g : Fm) (fs : List Fm) : szs (g :: fs) = g.sz + szs fs := by unfold szs; rw [List.map_cons, List.sum_cons]
theorem szs_len : ∀ fs : List Fm, fs.length ≤ szs fs
  | [] => Nat.zero_le _
  | g :: fs => by
    have := szs_len fs
    have := g.sz_pos
    rw [szs_cons, List.length_cons]
    omega
def stF (fs : List Fm) : List D := fs.reverse.map Fm.d
theorem stF_cons (g : Fm) (fs : List Fm) : stF (g :: fs) = stF fs ++ [g.d] := by unfold stF; rw [List.reverse_cons, List.map_append]; rfl
theorem stF_len (fs : List Fm) : (stF fs).length = fs.length := by unfold stF; rw [List.length_map, List.length_reverse]
theorem stF_nil : stF [] = [] := rfl
def A_letters : ASp := fun ds M Q _ => ∃ f : Fm, ds = [f.d] ∧ f.sz ≤ 1000 ∧ ∀ (ys : List Str) M', ys.Nodup → (∀ k, k ∈ ys ↔ k ∈ f.lets) → PyProof.Rows.sortedS ys = true → Ext M M' → Q (.tup (ys.map D.str)) M'
theorem p_letters {w : World} (ds : List D) (M : Sto) (Q : D → Sto → Prop) (Xa) (hl : ds.length = 1) (h : A_letters ds M Q Xa) : a_letters w ax0 (Done Q) (startA ["formula", "names", "waiting", "part"] ds) M := by
  obtain ⟨f, rfl, hsz, q⟩ := h
  unfold a_letters
  try (simp only [↓jAe,↓jAp,↓jAi,↓jA0,↓jA1,↓jA9,↓jA7,↓jA4,↓jD5,jAh,List.set_cons_zero,List.set_cons_succ,List.getElem?_cons_zero,List.length_cons,List.length_nil,List.nil_append,List.cons_append,startA,List.map_cons,List.map_nil,List.replicate_succ,List.replicate_zero,Nat.reduceAdd,Nat.reduceSub,Nat.reduceLeDiff,Nat.zero_add,true_and, *])
  intro s ns
  skip
  intro p np
  have nps : p ≠ s := fun z => by subst z; rw [up_same] at np; cases np
  have np0 : M p = none := by rw [up_ne nps] at np; exact np
  have hs0 : (up (up M s (.raw (SetTx w s []))) p (.lst [f.d])) s = some (.raw (SetTx w s [])) := by rw [up_ne nps.symm]; exact up_same
  have e0 : Ext M (up (up M s (.raw (SetTx w s []))) p (.lst [f.d])) := (Ext.new ns).trans (Ext.new np)
  refine while_runN (fun n env M' => ∃ (fs : List Fm) (ks : List Str) (x3 : Option D), env = [some f.d, some (.obj s), some (.obj p), x3] ∧ M' p = some (.lst (stF fs)) ∧ M' s = some (.raw (SetTx w s ks)) ∧ Ext M M' ∧ szs fs + ks.length ≤ f.sz ∧ ks.Nodup ∧ (∀ k, (k ∈ ks ∨ ∃ g ∈ fs, k ∈ g.lets) ↔ k ∈ f.lets) ∧ n = szs fs) ?_ (n := f.sz)
    ⟨[f], [], none, rfl, up_same, hs0, e0, by rw [szs_cons]; exact Nat.le_refl _, List.nodup_nil, fun k => ⟨fun z => z.elim (fun z => nomatch z) fun ⟨g, hg, z⟩ => by rw [List.mem_singleton.mp hg] at z; exact z, fun z => .inr ⟨f, List.mem_singleton.mpr rfl, z⟩⟩, by rw [szs_cons]; rfl⟩
  rintro n N env M' ⟨fs, ks, x3, rfl, h1, h2, he, hk, nd, hm, rfl⟩ next
  cases fs with
  | nil =>
    rw [stF_nil] at h1
    have q1 := fun (ys : List Str) (n1 : ys.Nodup) (n2 : ∀ k, k ∈ ys ↔ k ∈ ks) (n3 : PyProof.Rows.sortedS ys = true) (o : Addr) (no : M' o = none) => q ys (up M' o (.lst (ys.map D.str))) n1 (fun k => (n2 k).trans ⟨fun z => (hm k).mp (.inl z), fun z => ((hm k).mpr z).elim id fun ⟨g, hg, _⟩ => nomatch hg⟩) n3 (he.trans (Ext.new no))
    try (simp only [↓jAe,↓jAy,↓jAd,↓jA3,↓jAp,↓jAi,↓jA0,↓e_c,↓jA8,↓jA1,↓jAf,↓jAv,↓jBa,↓jA9,↓jA7,↓jAt,↓jB3,↓jB9,↓jB8,↓jAx,↓jAz,↓jC5,↓jCq,↓jBi,↓jAb,jAh,List.set_cons_zero,List.set_cons_succ,List.getElem?_cons_zero,List.getElem?_cons_succ,List.isEmpty_nil,Bool.not_true,Bool.false_eq_true,if_false, *])
    refine ⟨ks, rfl, fun ys pm so o no => ?_⟩
    have q2 := q1 ys (pm.nodup_iff.mpr nd) (fun k => pm.mem_iff) so o no
    try (simp only [↓jC9,↓jAb,jAq,if_true, *])
  | cons g fs =>
    rw [stF_cons] at h1
    rw [szs_cons] at hk next
    have hz := g.sz_pos
    have hln := szs_len fs
    have hst := stF_len fs
    cases g with
    | lt t =>
      have z : (Fm.lt t).sz = 1 := rfl
      rw [Fm.d_lt] at h1
      have go : N [some f.d, some (.obj s), some (.obj p), some (.tup [.str z_letter, .str t])] (up (up M' p (.lst (stF fs))) s (.raw (SetTx w s (if t ∈ ks then ks else t :: ks)))) := by
        refine next (szs fs) _ _ (by omega) ⟨fs, if t ∈ ks then ks else t :: ks, _, rfl, by rw [up_ne nps]; exact up_same, up_same, fun a mo m => ?_, ?_, ?_, fun k => ?_, rfl⟩
        · rw [up_ne (fresh_ne ns m), up_ne (fresh_ne np0 m)]
          exact he _ _ m
        · split
          · omega
          · rw [List.length_cons]; omega
        · split
          · exact nd
          · exact List.nodup_cons.mpr ⟨by assumption, nd⟩
        · rw [← hm k]
          have e1 : (k ∈ if t ∈ ks then ks else t :: ks) ↔ k ∈ ks ∨ k = t := by
            split
            · rename_i ht
              exact ⟨.inl, fun z => z.elim id fun e => e ▸ ht⟩
            · rw [List.mem_cons]
              exact Or.comm
          rw [e1]
          constructor
          · rintro ((z | z) | ⟨g, hg, z⟩)
            · exact .inl z
            · exact .inr ⟨.lt t, List.mem_cons_self, by rw [z]; exact List.mem_singleton.mpr rfl⟩
            · exact .inr ⟨g, List.mem_cons_of_mem _ hg, z⟩
          · rintro (z | ⟨g, hg, z⟩)
            · exact .inl (.inl z)
            · rcases List.mem_cons.mp hg with e | hg
              · subst e
                exact .inl (.inr (List.mem_singleton.mp z))
              · exact .inr ⟨g, hg, z⟩
      have hkl : ks.length ≤ 4000 := by omega
      have nsp := nps.symm
      clear next hm
      try (simp only [↓jAe,↓jAy,↓jAd,↓jA3,↓jAp,↓jAi,↓jA0,↓e_c,↓jA8,↓jA1,↓jAf,↓jAv,↓jBa,↓jA9,↓jA7,↓jAt,↓jB3,↓jB9,↓jB8,↓jAx,↓jAz,↓jC5,↓jCq,↓jBi,↓jAo,↓jAj,↓jAb,jAq,jAm,jAr,jBb,jAh,List.set_cons_zero,List.set_cons_succ,List.getElem?_cons_zero,List.getElem?_cons_succ,List.length_cons,List.length_nil,List.getLast?_concat,List.dropLast_concat,jBg,Nat.reduceLeDiff,Nat.zero_add,Bool.not_false,if_true,if_false,decide_true, *])
      exact ⟨⟨ks, rfl⟩, ks, rfl, hkl, go⟩
    | ng a =>
      have z : (Fm.ng a).sz = a.sz + 1 := rfl
      rw [Fm.d_ng] at h1
      have za := a.sz_pos
      have go : N [some f.d, some (.obj s), some (.obj p), some (.tup [.str z_not, a.d])] (up (up M' p (.lst (stF fs))) p (.lst (stF fs ++ [a.d]))) := by
        refine next (szs (a :: fs)) _ _ (by rw [szs_cons]; omega) ⟨a :: fs, ks, _, rfl, by rw [up_same, stF_cons], by rw [up_ne nps.symm, up_ne nps.symm]; exact h2, fun b mo m => ?_, by rw [szs_cons]; omega, nd, fun k => ?_, rfl⟩
        · rw [up_ne (fresh_ne np0 m), up_ne (fresh_ne np0 m)]
          exact he _ _ m
        · rw [← hm k]
          refine or_congr Iff.rfl ⟨fun ⟨g, hg, zz⟩ => ?_, fun ⟨g, hg, zz⟩ => ?_⟩
          · rcases List.mem_cons.mp hg with e | hg
            · subst e; exact ⟨.ng g, List.mem_cons_self, zz⟩
            · exact ⟨g, List.mem_cons_of_mem _ hg, zz⟩
          · rcases List.mem_cons.mp hg with e | hg
            · subst e; exact ⟨a, List.mem_cons_self, zz⟩
            · exact ⟨g, List.mem_cons_of_mem _ hg, zz⟩
      clear next hm
      try (simp only [↓jAe,↓jAy,↓jAd,↓jA3,↓jAp,↓jAi,↓jA0,↓e_c,↓jA8,↓jA1,↓jAf,↓jAv,↓jBa,↓jA9,↓jA7,↓jAt,↓jB3,↓jB9,↓jB8,↓jAx,↓jAz,↓jC5,↓jCq,↓jBi,↓jAo,↓jAj,↓jAb,jAq,jAm,jAr,jBb,znl,jAh,List.set_cons_zero,List.set_cons_succ,List.getElem?_cons_zero,List.getElem?_cons_succ,List.length_cons,List.length_nil,List.getLast?_concat,List.dropLast_concat,jBg,Nat.reduceLeDiff,Nat.zero_add,Bool.not_false,Bool.false_eq_true,if_true,if_false,decide_false,and_true, *])
      omega
    | im a b =>
      have z : (Fm.im a b).sz = a.sz + b.sz + 1 := rfl
      rw [Fm.d_im] at h1
      have za := a.sz_pos
      have go : N [some f.d, some (.obj s), some (.obj p), some (.tup [.str z_if, a.d, b.d])] (up (up M' p (.lst (stF fs))) p (.lst (stF fs ++ [a.d, b.d]))) := by
        refine next (szs (b :: a :: fs)) _ _ (by rw [szs_cons, szs_cons]; omega) ⟨b :: a :: fs, ks, _, rfl, by rw [up_same, stF_cons, stF_cons, List.append_assoc]; rfl, by rw [up_ne nps.symm, up_ne nps.symm]; exact h2, fun c mo m => ?_, by rw [szs_cons, szs_cons]; omega, nd, fun k => ?_, rfl⟩
        · rw [up_ne (fresh_ne np0 m), up_ne (fresh_ne np0 m)]
          exact he _ _ m
        · rw [← hm k]
          refine or_congr Iff.rfl ⟨fun ⟨g, hg, zz⟩ => ?_, fun ⟨g, hg, zz⟩ => ?_⟩
          · rcases List.mem_cons.mp hg with e | hg
            · subst e; exact ⟨.im a g, List.mem_cons_self, List.mem_append_right _ zz⟩
            · rcases List.mem_cons.mp hg with e | hg
              · subst e; exact ⟨.im g b, List.mem_cons_self, List.mem_append_left _ zz⟩
              · exact ⟨g, List.mem_cons_of_mem _ hg, zz⟩
          · rcases List.mem_cons.mp hg with e | hg
            · subst e
              rcases List.mem_append.mp zz with zz | zz
              · exact ⟨a, List.mem_cons_of_mem _ List.mem_cons_self, zz⟩
              · exact ⟨b, List.mem_cons_self, zz⟩
            · exact ⟨g, List.mem_cons_of_mem _ (List.mem_cons_of_mem _ hg), zz⟩
      clear next hm
      try (simp only [↓jAe,↓jAy,↓jAd,↓jA3,↓jAp,↓jAi,↓jA0,↓e_c,↓jA8,↓jA1,↓jAf,↓jAv,↓jBa,↓jA9,↓jA7,↓jAt,↓jB3,↓jB9,↓jB8,↓jAx,↓jAz,↓jC5,↓jCq,↓jBi,↓jAo,↓jAj,↓jAb,jAq,jAm,jAr,jBb,zil,jAh,List.set_cons_zero,List.set_cons_succ,List.getElem?_cons_zero,List.getElem?_cons_succ,List.length_cons,List.length_nil,List.getLast?_concat,List.dropLast_concat,jBg,Nat.reduceAdd,Nat.reduceLeDiff,Nat.zero_add,Bool.not_false,Bool.false_eq_true,if_true,if_false,decide_false,and_true, *])
      omega
/- slots of Terms_entered: 0 self, 1 formula, 2 table, 3 part -/
def a_Terms_entered (C_Terms : Addr) (A_Terms_added : ASp) (A_Terms_entered : ASp) : ATS :=
    (aSeq (aIf (aTest (aOp (ρEq false) (aOp ρIx (aVar 1) (aC (.int 0))) (aC (.str z_letter)))) (aRet (aOp ρDGet (aVar 2) (aOp ρIx (aVar 1) (aC (.int 1))))) aNext)
    (aRet (aMeth C_Terms "added" 3 A_Terms_added (aVar 0) (aCons (aOp ρIx (aVar 1) (aC (.int 0))) (aCons (aCB ρTuple (aCons (aLc (aITup (aSl (aVar 1) (aOSome (aC (.int 1))) aONone)) 3 aYes (aMeth C_Terms "entered" 3 A_Terms_entered (aVar 0) (aCons (aVar 3) (aCons (aVar 2) aNil)))) aNil)) aNil)))))

def ent (τ : Str → Nat) : Fm → List Kd → List Kd × Nat
  | .lt s, K => (K, τ s)
  | .ng p, K => ((ent τ p K).1 ++ [.n (ent τ p K).2], (ent τ p K).1.length)
  | .im p q, K => ((ent τ q (ent τ p K).1).1 ++ [.i (ent τ p K).2 (ent τ q (ent τ p K).1).2], (ent τ q (ent τ p K).1).1.length)
theorem ent_len (τ : Str → Nat) : ∀ (f : Fm) (K : List Kd), K.length ≤ (ent τ f K).1.length ∧ (ent τ f K).1.length ≤ K.length + f.sz
  | .lt s, K => ⟨Nat.le_refl _, Nat.le_add_right _ _⟩
  | .ng p, K => by
    have := ent_len τ p K
    unfold ent Fm.sz
    rw [List.length_append, List.length_singleton]
    omega
  | .im p q, K => by
    have := ent_len τ p K
    have := ent_len τ q (ent τ p K).1
    unfold ent Fm.sz
    rw [List.length_append, List.length_singleton]
    omega
theorem Str3.pre {K add : List Kd} {φ : Nat → Fm} (h : Str3 (K ++ add) φ) : Str3 K φ := fun x k hx => h x k (by rw [List.getElem?_append_left (List.getElem?_eq_some_iff.mp hx).1]; exact hx)
theorem Str3.snoc {K : List Kd} {φ : Nat → Fm} {k : Kd} {v : Fm} (st : Str3 K φ) (kids : Kids K) (hk : ∀ y ∈ k.tl, y < K.length) (hv : match k with | .l => True | .n a => v = .ng (φ a) | .i a b => v = .im (φ a) (φ b)) : Str3 (K ++ [k]) (fun x => if x = K.length then v else φ x) := by
  have out : ∀ y, y < K.length → (if y = K.length then v else φ y) = φ y := fun y h => if_neg (by omega)
  intro x k' hx
  by_cases c : x < K.length
  · rw [List.getElem?_append_left c] at hx
    have s := st x k' hx
    have kd := kids x k' hx
    cases k' with
    | l => trivial
    | n a =>
      have la := kd a (List.mem_singleton.mpr rfl)
      show (if x = K.length then v else φ x) = .ng (if a = K.length then v else φ a)
      rw [out x c, out a la]
      exact s
    | i a b =>
      have la := kd a (List.mem_cons_self ..)
      have lb := kd b (List.mem_cons_of_mem _ (List.mem_singleton.mpr rfl))
      show (if x = K.length then v else φ x) = .im (if a = K.length then v else φ a) (if b = K.length then v else φ b)
      rw [out x c, out a la, out b lb]
      exact s
  · rw [List.getElem?_append_right (by omega)] at hx
    have e := List.mem_singleton.mp (List.mem_of_getElem? hx)
    have xe : x = K.length := by
      have := (List.getElem?_eq_some_iff.mp hx).1
      rw [List.length_singleton] at this
      omega
    subst e
    cases k' with
    | l => trivial
    | n a =>
      have la := hk a (List.mem_singleton.mpr rfl)
      show (if x = K.length then v else φ x) = .ng (if a = K.length then v else φ a)
      rw [if_pos xe, out a la]
      exact hv
    | i a b =>
      have la := hk a (List.mem_cons_self ..)
      have lb := hk b (List.mem_cons_of_mem _ (List.mem_singleton.mpr rfl))
      show (if x = K.length then v else φ x) = .im (if a = K.length then v else φ a) (if b = K.length then v else φ b)
      rw [if_pos xe, out a la, out b lb]
      exact hv
def nrU (nr : List Nat) (m : Nat) : List Nat := nr ++ List.range' nr.length (m - nr.length)
theorem nrU_len {nr : List Nat} {m : Nat} (h : nr.length ≤ m) : (nrU nr m).length = m := by
  unfold nrU
  rw [List.length_append, List.length_range']
  omega
theorem nrU_self (nr : List Nat) : nrU nr nr.length = nr := by
  unfold nrU
  rw [Nat.sub_self]
  exact List.append_nil _
theorem nrU_snoc {nr : List Nat} {m : Nat} (h : nr.length ≤ m) : nrU nr m ++ [m] = nrU nr (m + 1) := by
  unfold nrU
  have e : m + 1 - nr.length = (m - nr.length) + 1 := by omega
  rw [e, List.range'_concat, List.append_assoc]
  congr 3
  omega
theorem nrU_nrU {nr : List Nat} {m k : Nat} (h : nr.length ≤ m) (g : m ≤ k) : nrU (nrU nr m) k = nrU nr k := by
  have e : ∀ j, nrU (nrU nr m) (m + j) = nrU nr (m + j) := fun j => by
    induction j with
    | zero =>
      have := nrU_self (nrU nr m)
      rw [nrU_len h] at this
      exact this
    | succ j ih =>
      rw [← Nat.add_assoc, ← nrU_snoc (by rw [nrU_len h]; omega), ih, nrU_snoc (by omega)]
  have := e (k - m)
  rw [show m + (k - m) = k by omega] at this
  exact this
theorem tms_snoc {K : List Kd} {nm : List (Key × D)} {nr : List Nat} {k : Kd} (h : nr.length ≤ K.length) : (⟨(tmsK K nm (nrU nr K.length)).hd ++ [k.hd], (tmsK K nm (nrU nr K.length)).tl ++ [k.tl], nm, nrU nr K.length ++ [(nrU nr K.length).length]⟩ : Tms) = tmsK (K ++ [k]) nm (nrU nr (K ++ [k]).length) := by
  rw [nrU_len h, nrU_snoc h, List.length_append, List.length_singleton]
  unfold tmsK
  rw [List.map_append, List.map_append]
  rfl
theorem Ext.s {S : List Addr} {M M' : Sto} (h : Ext M M') : ExtS S M M' := fun b o _ m => h b o m
def A_tentered (C : Addr) (L : Nat) : ASp := fun ds M Q _ => ∃ (p a t n r tb : Addr) (f : Fm) (K : List Kd) (nm : List (Key × D)) (nr : List Nat) (kvs : List (Key × D)) (τ : Str → Nat), ds = [.obj p, f.d, .obj tb] ∧ f.sz ≤ L ∧ TmsAt C M p a t n r (tmsK K nm nr) ∧ nr.length = K.length ∧ M tb = some (.dic kvs) ∧ (∀ s ∈ f.lets, valA kvs (.inr s) = some (.int (τ s : Nat))) ∧ K.length + f.sz ≤ 10000 ∧
  ∀ M', TmsAt C M' p a t n r (tmsK (ent τ f K).1 nm (nrU nr (ent τ f K).1.length)) → ExtS [a, t, r] M M' → Q (.int ((ent τ f K).2 : Nat)) M'
theorem p_Terms_entered (C : Addr) (L : Nat) (ds : List D) (M : Sto) (Q : D → Sto → Prop) (Xa) (hl : ds.length = 3) (h : A_tentered C (L + 1) ds M Q Xa) : a_Terms_entered C (A_tadded C) (A_tentered C L) ax0 (Done Q) (startA ["self", "formula", "table", "part"] ds) M := by
  obtain ⟨p, a, t, n, r, tb, f, K, nm, nr, kvs, τ, rfl, hf, hT, hnr, htb, hτ, hK, q⟩ := h
  unfold a_Terms_entered
  have ne : ∀ {M' : Sto}, M' tb = some (.dic kvs) → TmsAt C M' p a t n r (tmsK K nm nr) → tb ≠ a ∧ tb ≠ t ∧ tb ≠ r := fun {M'} h1 h2 => ⟨fun z => by (rw [z, h2.2.1] at h1; cases h1), fun z => by (rw [z, h2.2.2.1] at h1; cases h1), fun z => by (rw [z, h2.2.2.2.2.1] at h1; cases h1)⟩
  have nn : n ≠ a ∧ n ≠ t ∧ n ≠ r := by
    have h1 := hT.2.2.2.1
    exact ⟨fun z => by (rw [z, hT.2.1] at h1; cases h1), fun z => by (rw [z, hT.2.2.1] at h1; cases h1), fun z => by (rw [z, hT.2.2.2.2.1] at h1; cases h1)⟩
  obtain ⟨ta, tt, tr⟩ := ne htb hT
  clear ne
  have tn : tb ∉ [a, t, r] := by simp [ta, tt, tr]
  cases f with
  | lt s =>
    rw [Fm.d_lt]
    have hv := hτ s (List.mem_singleton.mpr rfl)
    have g := q M (by show TmsAt C M p a t n r (tmsK K nm (nrU nr K.length)); rw [← hnr, nrU_self]; exact hT) (ExtS.refl _ _)
    clear q
    try (simp only [↓jAe,↓jAl,↓jAd,↓jA3,↓jA0,↓e_c,↓jA8,↓jA1,↓jAf,↓jA9,↓jA7,↓jAt,↓jB3,↓jB9,↓jB8,↓jBm,↓jB7,↓jAc,jFc,↓jAo,↓jAj,↓jAk,↓jAb,↓jB1,jC0,jAm,jAr,jAh,List.getElem?_cons_zero,List.getElem?_cons_succ,List.length_cons,List.length_nil,List.nil_append,List.cons_append,startA,List.map_cons,List.map_nil,List.replicate_succ,List.replicate_zero,Nat.reduceAdd,Nat.reduceSub,Nat.zero_add,if_true,decide_true,and_false, *])
    exact g
  | ng f =>
    rw [Fm.d_ng]
    obtain ⟨dx, hp⟩ := hT.1
    have hz : (Fm.ng f).sz = f.sz + 1 := rfl
    have ln := ent_len τ f K
    try (simp only [↓jAe,↓jAl,↓jAd,↓jA3,↓jA0,↓e_c,↓jA8,↓jA1,↓jAf,↓jA9,↓jA7,↓jAt,↓jB3,↓jB9,↓jB8,↓jBm,↓jB7,↓jAc,jFc,↓jAo,↓jAj,↓jAk,↓jAb,↓jB1,jAm,jAr,znl,jAh,List.getElem?_cons_zero,List.getElem?_cons_succ,List.length_cons,List.length_nil,List.nil_append,List.cons_append,startA,List.map_cons,List.map_nil,List.replicate_succ,List.replicate_zero,Nat.reduceAdd,Nat.reduceSub,Nat.zero_add,Bool.false_eq_true,if_false,decide_false,and_false, *])
    refine ⟨⟨dx, _, rfl, rfl⟩, by show 1 ≤ 1000000; decide, ?_⟩
    show aLcGo _ _ _ _ _ _ [f.d] [] M _
    try (simp only [↓jA0,↓jA1,↓jBu,↓jA9,↓jA7,↓jBm,List.set_cons_zero,List.set_cons_succ,List.getElem?_cons_zero,List.getElem?_cons_succ,jC2,jCh,List.nil_append,if_true,true_and, *])
    refine ⟨⟨dx, _, rfl, rfl⟩, rfl, p, a, t, n, r, tb, f, K, nm, nr, kvs, τ, rfl, by omega, hT, hnr, htb, hτ, by omega, fun M1 hT1 e1 => ?_⟩
    have e : (ent τ (.ng f) K) = ((ent τ f K).1 ++ [.n (ent τ f K).2], (ent τ f K).1.length) := rfl
    rw [e] at q
    generalize ent τ f K = E1 at *
    obtain ⟨K1, x1⟩ := E1
    have ln : K.length ≤ K1.length ∧ K1.length ≤ K.length + f.sz := ln
    have hT1 : TmsAt C M1 p a t n r (tmsK K1 nm (nrU nr K1.length)) := hT1
    have l3 : (nrU nr K1.length).length = K1.length := nrU_len (by omega)
    try (simp only [*])
    intro o no
    try (simp only [↓jC9,↓jAb,jAq,if_true, *])
    refine ⟨rfl, p, a, t, n, r, _, z_not, [x1], rfl, hT1.ext (Ext.new no), nn.1, nn.2.1, nn.2.2, by show (K1.map Kd.hd).length ≤ _; rw [List.length_map]; omega, by show (K1.map Kd.tl).length ≤ _; rw [List.length_map]; omega, by show (nrU nr K1.length).length ≤ _; rw [l3]; omega, fun M2 hT2 e2 => ?_⟩
    show Q (.int ((nrU nr K1.length).length : Nat)) M2
    rw [l3]
    have z := tms_snoc (k := .n x1) (nm := nm) (by omega : nr.length ≤ K1.length)
    exact q M2 (by rw [← z]; exact hT2) (e1.trans ((Ext.new no).s.trans e2))
  | im f g =>
    rw [Fm.d_im]
    obtain ⟨dx, hp⟩ := hT.1
    have hz : (Fm.im f g).sz = f.sz + g.sz + 1 := rfl
    have ln := ent_len τ f K
    try (simp only [↓jAe,↓jAl,↓jAd,↓jA3,↓jA0,↓e_c,↓jA8,↓jA1,↓jAf,↓jA9,↓jA7,↓jAt,↓jB3,↓jB9,↓jB8,↓jBm,↓jB7,↓jAc,jFc,↓jAo,↓jAj,↓jAk,↓jAb,↓jB1,jAm,jAr,zil,jAh,List.getElem?_cons_zero,List.getElem?_cons_succ,List.length_cons,List.length_nil,List.nil_append,List.cons_append,startA,List.map_cons,List.map_nil,List.replicate_succ,List.replicate_zero,Nat.reduceAdd,Nat.reduceSub,Nat.zero_add,Bool.false_eq_true,if_false,decide_false,and_false, *])
    refine ⟨⟨dx, _, rfl, rfl⟩, by show 2 ≤ 1000000; decide, ?_⟩
    show aLcGo _ _ _ _ _ _ [f.d, g.d] [] M _
    try (simp only [↓jA0,↓jA1,↓jBu,↓jA9,↓jA7,↓jBm,List.set_cons_zero,List.set_cons_succ,List.getElem?_cons_zero,List.getElem?_cons_succ,jC2,jCh,List.nil_append,List.cons_append,if_true,true_and, *])
    refine ⟨⟨dx, _, rfl, rfl⟩, rfl, p, a, t, n, r, tb, f, K, nm, nr, kvs, τ, rfl, by omega, hT, hnr, htb, fun s m => hτ s (List.mem_append_left _ m), by omega, fun M1 hT1 e1 => ?_⟩
    have e : (ent τ (.im f g) K) = ((ent τ g (ent τ f K).1).1 ++ [.i (ent τ f K).2 (ent τ g (ent τ f K).1).2], (ent τ g (ent τ f K).1).1.length) := rfl
    rw [e] at q
    generalize ent τ f K = E1 at *
    obtain ⟨K1, x1⟩ := E1
    have ln : K.length ≤ K1.length ∧ K1.length ≤ K.length + f.sz := ln
    have hT1 : TmsAt C M1 p a t n r (tmsK K1 nm (nrU nr K1.length)) := hT1
    have ln2 := ent_len τ g K1
    have l3 : (nrU nr K1.length).length = K1.length := nrU_len (by omega)
    have htb1 := e1 _ _ tn htb
    obtain ⟨dx1, hp1⟩ := hT1.1
    try (simp only [*])
    refine ⟨⟨dx1, _, rfl, rfl⟩, rfl, p, a, t, n, r, tb, g, K1, nm, nrU nr K1.length, kvs, τ, rfl, by omega, hT1, l3, htb1, fun s m => hτ s (List.mem_append_right _ m), by omega, fun M2 hT2 e2 => ?_⟩
    generalize ent τ g K1 = E2 at *
    obtain ⟨K2, x2⟩ := E2
    have ln2 : K1.length ≤ K2.length ∧ K2.length ≤ K1.length + g.sz := ln2
    have l4 : (nrU nr K2.length).length = K2.length := nrU_len (by omega)
    have hT2 : TmsAt C M2 p a t n r (tmsK K2 nm (nrU nr K2.length)) := by
      have z : nrU (nrU nr K1.length) K2.length = nrU nr K2.length := nrU_nrU (by omega) ln2.1
      rw [← z]; exact hT2
    try (simp only [*])
    intro o no
    try (simp only [↓jC9,↓jAb,jAq,if_true, *])
    refine ⟨rfl, p, a, t, n, r, _, z_if, [x1, x2], rfl, hT2.ext (Ext.new no), nn.1, nn.2.1, nn.2.2, by show (K2.map Kd.hd).length ≤ _; rw [List.length_map]; omega, by show (K2.map Kd.tl).length ≤ _; rw [List.length_map]; omega, by show (nrU nr K2.length).length ≤ _; rw [l4]; omega, fun M3 hT3 e3 => ?_⟩
    show Q (.int ((nrU nr K2.length).length : Nat)) M3
    rw [l4]
    have z := tms_snoc (k := .i x1 x2) (nm := nm) (by omega : nr.length ≤ K2.length)
    exact q M3 (by rw [← z]; exact hT3) ((e1.trans e2).trans ((Ext.new no).s.trans e3))

/- slots of Terms_users: 0 self, 1 found, 2 x, 3 tail, 4 part -/
def a_Terms_users (C_Terms : Addr) (A_Terms_root : ASp) : ATS :=
    (aSeq (aAsg aDNew (agName 1))
    (aSeq (aFor (aIEnum (aCons (aFld C_Terms "tails" (aVar 0)) aNil)) (agTup 2 (agCons (agName 2) (agCons (agName 3) agNil))) (aFor (aITup (aVar 3)) (agName 4) (aExpr (aLm ρAppend (aSetd (aVar 1) (aMeth C_Terms "root" 2 A_Terms_root (aVar 0) (aCons (aVar 4) aNil)) (aLst aNil)) (aCons (aVar 2) aNil)))))
    (aRet (aVar 1))))

def UsAt (M0 M : Sto) (d : Addr) (kvs : List (Key × D)) (U : Nat → List Nat) : Prop := M0 d = none ∧ M d = some (.dic kvs) ∧ (∀ y : Nat, match valA kvs (.inl (y : Int)) with | none => U y = [] | some v => ∃ b, v = .obj b ∧ M0 b = none ∧ M b = some (.lst ((U y).map natI))) ∧ (∀ (y z : Nat) (b : Addr), valA kvs (.inl (y : Int)) = some (.obj b) → valA kvs (.inl (z : Int)) = some (.obj b) → y = z)
def putU (U : Nat → List Nat) (y x : Nat) : Nat → List Nat := fun z => if z = y then U z ++ [x] else U z
theorem UsAt.root {M0 M M1 : Sto} {d r : Addr} {kvs : List (Key × D)} {U : Nat → List Nat} {o : MO} (h : UsAt M0 M d kvs U) (hr : M0 r = some o) (e : ExtS [r] M M1) : UsAt M0 M1 d kvs U := by
  obtain ⟨h1, h2, h3, h4⟩ := h
  have nr : ∀ b, M0 b = none → b ∉ [r] := fun b hb => by
    rw [List.mem_singleton]
    intro z
    rw [z, hr] at hb
    cases hb
  refine ⟨h1, e _ _ (nr d h1) h2, fun y => ?_, h4⟩
  have z := h3 y
  cases c : valA kvs (.inl (y : Int)) with
  | none => rw [c] at z; exact z
  | some v =>
    rw [c] at z
    obtain ⟨b, e1, e2, e3⟩ := z
    exact ⟨b, e1, e2, e _ _ (nr b e2) e3⟩
theorem UsAt.app {M0 M : Sto} {d b : Addr} {kvs : List (Key × D)} {U : Nat → List Nat} {y x : Nat} (h : UsAt M0 M d kvs U) (hv : valA kvs (.inl (y : Int)) = some (.obj b)) : UsAt M0 (up M b (.lst ((U y).map natI ++ [.int (x : Nat)]))) d kvs (putU U y x) := by
  obtain ⟨h1, h2, h3, h4⟩ := h
  have hb := h3 y
  rw [hv] at hb
  obtain ⟨b', e1, e2, e3⟩ := hb
  cases e1
  have nd : d ≠ b := fun z => by rw [z, e3] at h2; cases h2
  refine ⟨h1, by rw [up_ne nd]; exact h2, fun z => ?_, h4⟩
  have q := h3 z
  unfold putU
  by_cases c : z = y
  · subst c
    rw [hv, if_pos rfl]
    exact ⟨b, rfl, e2, by rw [up_same, List.map_append]; rfl⟩
  · rw [if_neg c]
    cases c2 : valA kvs (.inl (z : Int)) with
    | none => rw [c2] at q; exact q
    | some v =>
      rw [c2] at q
      obtain ⟨b', f1, f2, f3⟩ := q
      have : b' ≠ b := fun w => c (h4 z y b (by rw [c2, f1, w]) hv)
      exact ⟨b', f1, f2, by rw [up_ne this]; exact f3⟩
theorem UsAt.ext {M0 M M1 : Sto} {d : Addr} {kvs : List (Key × D)} {U : Nat → List Nat} (h : UsAt M0 M d kvs U) (e : Ext M M1) : UsAt M0 M1 d kvs U := by
  obtain ⟨h1, h2, h3, h4⟩ := h
  refine ⟨h1, e _ _ h2, fun y => ?_, h4⟩
  have z := h3 y
  cases c : valA kvs (.inl (y : Int)) with
  | none => rw [c] at z; exact z
  | some v =>
    rw [c] at z
    obtain ⟨b, e1, e2, e3⟩ := z
    exact ⟨b, e1, e2, e _ _ e3⟩
theorem UsAt.new {M0 M : Sto} {d q : Addr} {kvs : List (Key × D)} {U : Nat → List Nat} {y x : Nat} (h : UsAt M0 M d kvs U) (nq : M q = none) (nq0 : M0 q = none) (hv : valA kvs (.inl (y : Int)) = none) : UsAt M0 (up (up (up M q (.lst [])) d (.dic (putA kvs (.inl (y : Int)) (.obj q)))) q (.lst [.int (x : Nat)])) d (putA kvs (.inl (y : Int)) (.obj q)) (putU U y x) := by
  obtain ⟨h1, h2, h3, h4⟩ := h
  have nd : d ≠ q := fresh_ne nq h2
  have hy := h3 y
  rw [hv] at hy
  have live : ∀ z b, valA kvs (.inl ((z : Nat) : Int)) = some (.obj b) → b ≠ q ∧ b ≠ d := fun z b hz => by
    have w := h3 z
    rw [hz] at w
    obtain ⟨b', f1, f2, f3⟩ := w
    cases f1
    exact ⟨fresh_ne nq f3, fun k => by rw [k, h2] at f3; cases f3⟩
  have key : ∀ z : Nat, ((Sum.inl (z : Int) : Key) = .inl (y : Int)) ↔ z = y := fun z => ⟨fun k => by injection k with k; omega, fun k => by rw [k]⟩
  refine ⟨h1, by rw [up_ne nd]; exact up_same, fun z => ?_, fun z1 z2 b f1 f2 => ?_⟩
  · rw [valA_put]
    unfold putU
    by_cases c : z = y
    · rw [if_pos ((key z).mpr c), if_pos c, c, hy]
      exact ⟨q, rfl, nq0, by rw [up_same]; rfl⟩
    · rw [if_neg (fun k => c ((key z).mp k)), if_neg c]
      have w := h3 z
      cases c2 : valA kvs (.inl (z : Int)) with
      | none => rw [c2] at w; exact w
      | some v =>
        rw [c2] at w
        obtain ⟨b, f1, f2, f3⟩ := w
        obtain ⟨g1, g2⟩ := live z b (by rw [c2, f1])
        exact ⟨b, f1, f2, by rw [up_ne g1, up_ne g2, up_ne g1]; exact f3⟩
  · rw [valA_put] at f1 f2
    by_cases c1 : z1 = y
    · by_cases c2 : z2 = y
      · omega
      · rw [if_pos ((key z1).mpr c1)] at f1
        rw [if_neg (fun k => c2 ((key z2).mp k))] at f2
        cases f1
        exact absurd rfl (live z2 q f2).1
    · rw [if_neg (fun k => c1 ((key z1).mp k))] at f1
      by_cases c2 : z2 = y
      · rw [if_pos ((key z2).mpr c2)] at f2
        cases f2
        exact absurd rfl (live z1 q f1).1
      · rw [if_neg (fun k => c2 ((key z2).mp k))] at f2
        exact h4 z1 z2 b f1 f2
def plc : Nat → List Kd → List (Nat × Nat)
  | _, [] => []
  | i, k :: K => k.tl.map (fun y => (i, y)) ++ plc (i + 1) K
def uses (R : Nat → Nat) (l : List (Nat × Nat)) : Nat → List Nat := fun y => (l.filter fun z => decide (R z.2 = y)).map (·.1)
theorem uses_snoc (R : Nat → Nat) (l : List (Nat × Nat)) (x y : Nat) : uses R (l ++ [(x, y)]) = putU (uses R l) (R y) x := by
  funext z
  unfold uses putU
  rw [List.filter_append, List.map_append]
  by_cases c : R y = z
  · rw [if_pos c.symm, List.filter_cons_of_pos (by simpa using c)]
    rfl
  · rw [if_neg (fun e => c e.symm), List.filter_cons_of_neg (by simpa using c)]
    exact List.append_nil _
theorem plc_snoc : ∀ (i : Nat) (K : List Kd) (k : Kd), plc i (K ++ [k]) = plc i K ++ k.tl.map fun y => (i + K.length, y)
  | i, [], k => by unfold plc; exact List.append_nil _
  | i, j :: K, k => by
    show _ ++ plc (i + 1) (K ++ [k]) = (_ ++ plc (i + 1) K) ++ _
    rw [plc_snoc (i + 1) K k, List.append_assoc, List.length_cons, show i + 1 + K.length = i + (K.length + 1) by omega]
theorem plc_len : ∀ (i : Nat) (K : List Kd), (plc i K).length ≤ 2 * K.length
  | _, [] => Nat.le_refl _
  | i, k :: K => by
    have := plc_len (i + 1) K
    unfold plc
    rw [List.length_append, List.length_map, List.length_cons]
    have : k.tl.length ≤ 2 := by cases k <;> (unfold Kd.tl; simp)
    omega
theorem TmsAt.off {C : Addr} {M : Sto} {p a t n r w : Addr} {T : Tms} (h : TmsAt C M p a t n r T) (nw : M w = none) : w ≠ p ∧ w ≠ a ∧ w ≠ t ∧ w ≠ n ∧ w ≠ r := by
  obtain ⟨dx, h1⟩ := h.1
  exact ⟨(fresh_ne nw h1).symm, (fresh_ne nw h.2.1).symm, (fresh_ne nw h.2.2.1).symm, (fresh_ne nw h.2.2.2.1).symm, (fresh_ne nw h.2.2.2.2.1).symm⟩
theorem ExtS.off {S : List Addr} {M M' : Sto} {w : Addr} {mo : MO} (h : ExtS S M M') (nw : M w = none) : ExtS S M (up M' w mo) := fun b o hb hm => by rw [up_ne (fresh_ne nw hm)]; exact h b o hb hm
def A_tusers (C : Addr) : ASp := fun ds M Q _ => ∃ (p a t n r : Addr) (K : List Kd) (nm : List (Key × D)) (nr : List Nat) (R ρ : Nat → Nat), ds = [.obj p] ∧ TmsAt C M p a t n r (tmsK K nm nr) ∧ nr.length = K.length ∧ K.length ≤ 10000 ∧ Kids K ∧ UF nr R ρ ∧
  ∀ d kvs nr' M', UF nr' R ρ → nr'.length = K.length → TmsAt C M' p a t n r (tmsK K nm nr') → UsAt M M' d kvs (uses R (plc 0 K)) → ExtS [r] M M' → Q (.obj d) M'
theorem p_tusers (C : Addr) (ds : List D) (M : Sto) (Q : D → Sto → Prop) (Xa) (hl : ds.length = 1) (h : A_tusers C ds M Q Xa) : a_Terms_users C (A_troot C) ax0 (Done Q) (startA ["self", "found", "x", "tail", "part"] ds) M := by
  obtain ⟨p, a, t, n, r, K, nm, nr, R, ρ, rfl, hT, hnr, hK, kids, uf, q⟩ := h
  unfold a_Terms_users
  try (simp only [↓jAe,↓jAp,↓jAi,↓jA0,↓jA1,↓jA9,↓jA7,↓jB6,↓jBs,↓jAg,↓jD0,↓jAb,List.set_cons_zero,List.set_cons_succ,List.getElem?_cons_zero,List.length_cons,List.length_nil,List.nil_append,List.cons_append,startA,List.map_cons,List.map_nil,List.replicate_succ,List.replicate_zero,Nat.reduceAdd,Nat.reduceSub,Nat.zero_add, *])
  intro d nd
  have hr0 := hT.2.2.2.2.1
  have hd0 : up M d (.dic []) d = some (.dic []) := up_same
  have hT0 : TmsAt C (up M d (.dic [])) p a t n r (tmsK K nm nr) := hT.ext (Ext.new nd)
  have hu0 : UsAt M (up M d (.dic [])) d [] (uses R []) := ⟨nd, up_same, fun y => rfl, fun y z b h => nomatch h⟩
  have e0 : ExtS [r] M (up M d (.dic [])) := (Ext.new nd).s
  generalize up M d (.dic []) = M0 at *
  have nnr : n ≠ r := fun z => by
    have := hT.2.2.2.1
    rw [z, hr0] at this
    cases this
  obtain ⟨dx, hp⟩ := hT0.1
  have ht := hT0.2.2.1
  try (simp only [*])
  refine ⟨dx, _, .obj t, .ref t, rfl, rfl, rfl, ?_⟩
  try (simp only [*])
  refine for_run (fun ds env M' => ∃ (done rest : List Kd) (x2 x3 x4 : Option D) (kvs : List (Key × D)) (nr' : List Nat), K = done ++ rest ∧ ds = enumD (done.length : Nat) ((rest.map Kd.tl).map natsD) ∧ env = [some (.obj p), some (.obj d), x2, x3, x4] ∧ UF nr' R ρ ∧ nr'.length = K.length ∧ TmsAt C M' p a t n r (tmsK K nm nr') ∧ UsAt M M' d kvs (uses R (plc 0 done)) ∧ kvs.length ≤ (plc 0 done).length ∧ ExtS [r] M M') (fun ds env M' ⟨_, _, _, _, _, _, _, _, _, _, _, _, hT', _⟩ => hT'.2.2.1) ?_ ?_ ⟨[], K, none, none, none, [], nr, rfl, rfl, rfl, uf, hnr, hT0, hu0, Nat.le_refl _, e0⟩
  · rintro env M' ⟨done, rest, x2, x3, x4, kvs, nr', hx, hd, rfl, uf', l', hT', us, _, he⟩
    cases rest with
    | cons l r => cases hd
    | nil =>
      rw [List.append_nil] at hx
      subst hx
      have g := q d kvs nr' M' uf' l' hT' us he
      clear q hd
      try (simp only [↓jAd,↓jA0,↓jA1,List.getElem?_cons_zero,List.getElem?_cons_succ, *])
      all_goals exact g
  · rintro y r0 N env M' ⟨done, rest, x2, x3, x4, kvs, nr', hx, hd, rfl, uf', l', hT', us, lk, he⟩ next
    cases rest with
    | nil => cases hd
    | cons k rest =>
      have hd' : y :: r0 = .tup [.int (done.length : Nat), natsD k.tl] :: enumD ((done.length : Nat) + 1) ((rest.map Kd.tl).map natsD) := hd
      injection hd' with hd1 hd2
      subst hd1 hd2
      have hkk : ∀ y ∈ k.tl, y < K.length := kids done.length k (by rw [hx, List.getElem?_append_right (Nat.le_refl _), Nat.sub_self]; rfl)
      have hpl : (plc 0 done).length ≤ 2 * done.length := plc_len 0 done
      have hdl : done.length ≤ K.length := by rw [hx, List.length_append]; omega
      clear hd ht hp
      try (simp only [↓jAi,↓jBj,↓jBl,↓jBq,↓jA0,↓jA1,↓jAg,↓jB7,List.set_cons_zero,List.set_cons_succ,List.getElem?_cons_zero,List.getElem?_cons_succ,List.length_cons,List.length_nil,Nat.reduceAdd,Nat.zero_add,true_and, *])
      refine for_run (fun ds env M' => ∃ (d2 r2 : List Nat) (x4 : Option D) (kvs : List (Key × D)) (nr' : List Nat), k.tl = d2 ++ r2 ∧ ds = r2.map natI ∧ env = [some (.obj p), some (.obj d), some (.int (done.length : Nat)), some (natsD k.tl), x4] ∧ UF nr' R ρ ∧ nr'.length = K.length ∧ TmsAt C M' p a t n r (tmsK K nm nr') ∧ UsAt M M' d kvs (uses R (plc 0 done ++ d2.map fun y => (done.length, y))) ∧ kvs.length ≤ (plc 0 done).length + d2.length ∧ ExtS [r] M M') (fun _ _ _ _ => trivial) ?_ ?_ ⟨[], k.tl, x4, kvs, nr', rfl, rfl, rfl, uf', l', hT', by rw [List.map_nil, List.append_nil]; exact us, lk, he⟩
      · rintro env M2 ⟨d2, r2, x4, kvs2, nr2, hx2, hd2, rfl, uf2, l2, hT2, us2, lk2, he2⟩
        cases r2 with
        | cons l r => cases hd2
        | nil =>
          rw [List.append_nil] at hx2
          subst hx2
          refine next _ M2 ⟨done ++ [k], rest, _, _, _, kvs2, nr2, by rw [hx, List.append_assoc]; rfl, by rw [List.length_append, List.length_singleton]; rfl, rfl, uf2, l2, hT2, by rw [plc_snoc, Nat.zero_add]; exact us2, by rw [plc_snoc, List.length_append, List.length_map]; exact lk2, he2⟩
      · rintro y2 r3 N2 env M2 ⟨d2, r2, x4, kvs2, nr2, hx2, hd2, rfl, uf2, l2, hT2, us2, lk2, he2⟩ next2
        cases r2 with
        | nil => cases hd2
        | cons z r2 =>
          injection hd2 with hd3 hd4
          subst hd3 hd4
          have hz : z < K.length := hkk z (by rw [hx2]; exact List.mem_append_right _ List.mem_cons_self)
          have l2k : d2.length ≤ 2 := by
            have : k.tl.length ≤ 2 := by cases k <;> (unfold Kd.tl; simp)
            rw [hx2, List.length_append] at this
            omega
          obtain ⟨dx2, hp2⟩ := hT2.1
          have hd2' := us2.2.1
          clear us lk he hT' uf' l'
          try (simp only [↓jAy,↓jAi,↓jA0,↓jA1,↓jA9,↓jA7,↓jA4,↓jAx,↓jAw,↓jBm,↓jC3,↓jAb,↓jB1,jAq,jAh,List.set_cons_zero,List.set_cons_succ,List.getElem?_cons_zero,List.getElem?_cons_succ,List.length_nil,Nat.reduceLeDiff,true_and, *])
          refine ⟨⟨dx2, _, rfl, rfl⟩, rfl, p, a, t, n, r, tmsK K nm nr2, z, R, ρ, rfl, hT2, nnr, by show z < nr2.length; omega, by show nr2.length ≤ _; omega, uf2, fun nr3 M3 uf3 l3 hT3 e3 => ?_⟩
          have us3 := us2.root hr0 e3
          have l3' : nr3.length = K.length := l3.trans l2
          have hT3 : TmsAt C M3 p a t n r (tmsK K nm nr3) := hT3
          have he3 := he2.trans e3
          have hd3 := us3.2.1
          have pu : uses R (plc 0 done ++ (d2 ++ [z]).map fun y => (done.length, y)) = putU (uses R (plc 0 done ++ d2.map fun y => (done.length, y))) (R z) done.length := by
            rw [List.map_append, ← List.append_assoc]
            exact uses_snoc _ _ _ _
          have go : ∀ (kvs3 : List (Key × D)) (M4 : Sto), TmsAt C M4 p a t n r (tmsK K nm nr3) → UsAt M M4 d kvs3 (putU (uses R (plc 0 done ++ d2.map fun y => (done.length, y))) (R z) done.length) → kvs3.length ≤ kvs2.length + 1 → ExtS [r] M M4 → N2 [some (.obj p), some (.obj d), some (.int (done.length : Nat)), some (natsD k.tl), some (.int (z : Nat))] M4 := fun kvs3 M4 h1 h2 h3 h4 => next2 _ M4 ⟨d2 ++ [z], r2, _, kvs3, nr3, by rw [hx2, List.append_assoc]; rfl, rfl, rfl, uf3, l3', h1, by rw [pu]; exact h2, by rw [List.length_append, List.length_singleton]; omega, h4⟩
          clear us2 he2 e3 next2 next hT2 hd2'
          have kl : kvs2.length < 16777216 := by omega
          try (simp only [↓jA1,jBw, *])
          intro q nq
          have nq0 : M q = none := by
            cases c : M q with
            | none => rfl
            | some o =>
              by_cases e : q = r
              · rw [e, hT3.2.2.2.2.1] at nq; cases nq
              · have := he3 q o (by simpa using e) c
                rw [this] at nq
                cases nq
          have usq := us3.ext (Ext.new (mo := .lst []) nq)
          have hTq := hT3.ext (Ext.new (mo := .lst []) nq)
          have heq : ExtS [r] M (up M3 q (.lst [])) := he3.trans (Ext.new nq).s
          cases c : valA kvs2 (.inl (R z : Nat)) with
          | none =>
            have u4 := us3.new (x := done.length) nq nq0 c
            have ndq : d ≠ q := fresh_ne nq hd3
            have nqd := ndq.symm
            have hd4 : up M3 q (.lst []) d = some (.dic kvs2) := by rw [up_ne ndq]; exact hd3
            have o1 := hT.off nd
            have o2 := hT.off nq0
            have g := go _ _ ((hTq.upd (mo := .dic (putA kvs2 (.inl (R z : Nat)) (.obj q))) o1.1 o1.2.1 o1.2.2.1 o1.2.2.2.1 o1.2.2.2.2).upd (mo := .lst [.int (done.length : Nat)]) o2.1 o2.2.1 o2.2.2.1 o2.2.2.2.1 o2.2.2.2.2) u4 (putA_length _ _ _) ((heq.off nd).off nq0)
            try (simp only [jAq,List.length_nil,List.nil_append,if_true,if_false,true_and, *])
            rw [← hx2]
            exact ⟨by decide, g⟩
          | some v =>
            have hb := us3.2.2.1 (R z)
            rw [c] at hb
            obtain ⟨b, rfl, b0, hb⟩ := hb
            have hbq : up M3 q (.lst []) b = some (.lst ((uses R (plc 0 done ++ d2.map fun y => (done.length, y)) (R z)).map natI)) := by rw [up_ne (fresh_ne nq hb)]; exact hb
            have ndq : d ≠ q := fresh_ne nq hd3
            have hd4 : up M3 q (.lst []) d = some (.dic kvs2) := by rw [up_ne ndq]; exact hd3
            have o1 := hT.off b0
            have g := go _ _ (hTq.upd (mo := .lst ((uses R (plc 0 done ++ d2.map fun y => (done.length, y)) (R z)).map natI ++ [.int (done.length : Nat)])) o1.1 o1.2.1 o1.2.2.1 o1.2.2.2.1 o1.2.2.2.2) (usq.app c) (Nat.le_succ _) (heq.off b0)
            have ul : (uses R (plc 0 done ++ d2.map fun y => (done.length, y)) (R z)).length < 16777216 := by
              unfold uses
              have := List.length_filter_le (fun w : Nat × Nat => decide (R w.2 = R z)) (plc 0 done ++ d2.map fun y => (done.length, y))
              rw [List.length_append, List.length_map] at this
              rw [List.length_map]
              omega
            have nbq : b ≠ q := fresh_ne nq hb
            try (simp only [jAq,List.length_map,if_false,true_and, *])
            rw [← hx2]
            exact g

/- slots of parts_first: 0 users, 1 many, 2 missing, 3 order, 4 place, 5 whole, 6 x, 7 parts -/
def a_parts_first  : ATS :=
    (aSeq (aAsg (aCB ρList (aCons (aVar 1) aNil)) (agName 2))
    (aSeq (aAsg (aLc2 (aIEnum (aCons (aVar 2) aNil)) 6 7 (aTest (aOp (ρEq false) (aVar 7) (aC (.int 0)))) (aVar 6)) (agName 3))
    (aSeq (aAsg (aC (.int 0)) (agName 4))
    (aSeq (aWhile (aTest (aOp ρLt (aVar 4) (aCB ρLen (aCons (aVar 3) aNil)))) (aSeq (aFor (aIList (aDGet2 (aVar 0) (aOp ρIx (aVar 3) (aVar 4)) (aLst aNil))) (agName 5) (aSeq (aSubSub (aVar 2) (aVar 5) (aC (.int 1)))
    (aIf (aTest (aOp (ρEq false) (aOp ρIx (aVar 2) (aVar 5)) (aC (.int 0)))) (aExpr (aLm ρAppend (aVar 3) (aCons (aVar 5) aNil))) aNext)))
    (aAug ρIAdd 4 (aC (.int 1)))))
    (aRet (aVar 3))))))

def cM (R : Nat → Nat) (S : List Nat) (k : Kd) : Nat := (k.tl.filter fun y => !decide (R y ∈ S)).length
theorem cM_nil (R : Nat → Nat) (k : Kd) : cM R [] k = k.tl.length := by
  unfold cM
  rw [List.filter_eq_self.mpr (fun y _ => by simp)]
theorem cM_zero {R : Nat → Nat} {S : List Nat} {k : Kd} : cM R S k = 0 ↔ ∀ y ∈ k.tl, R y ∈ S := by
  unfold cM
  rw [List.length_eq_zero_iff, List.filter_eq_nil_iff]
  simp
theorem cM_snoc {R : Nat → Nat} {S : List Nat} {z : Nat} (hz : z ∉ S) (k : Kd) : cM R S k = cM R (S ++ [z]) k + (k.tl.filter fun y => decide (R y = z)).length := by
  unfold cM
  induction k.tl with
  | nil => rfl
  | cons y l ih =>
    rw [List.filter_cons, List.filter_cons, List.filter_cons]
    by_cases c1 : R y ∈ S
    · have c2 : ¬ R y = z := fun e => hz (e ▸ c1)
      simp [c1, c2] at ih ⊢
      exact ih
    · by_cases c2 : R y = z
      · simp [hz, c2] at ih ⊢
        omega
      · simp [c1, c2] at ih ⊢
        omega
theorem uses_app (R : Nat → Nat) (l r : List (Nat × Nat)) (z : Nat) : uses R (l ++ r) z = uses R l z ++ uses R r z := by
  unfold uses
  rw [List.filter_append, List.map_append]
theorem uses_row (R : Nat → Nat) (i z : Nat) : ∀ l : List Nat, uses R (l.map fun y => (i, y)) z = List.replicate (l.filter fun y => decide (R y = z)).length i
  | [] => rfl
  | y :: l => by
    have ih := uses_row R i z l
    unfold uses at ih ⊢
    rw [List.map_cons, List.filter_cons, List.filter_cons]
    by_cases c : R y = z
    · simp only [c, decide_true, if_true, List.map_cons, List.length_cons, List.replicate_succ]
      rw [ih]
    · simp only [c, decide_false, Bool.false_eq_true, if_false]
      exact ih
theorem uses_in {R : Nat → Nat} {z : Nat} : ∀ (K : List Kd) (i x : Nat), x ∈ uses R (plc i K) z → i ≤ x ∧ x < i + K.length
  | [], _, _, h => nomatch h
  | k :: K, i, x, h => by
    unfold plc at h
    rw [uses_app, uses_row] at h
    rw [List.length_cons]
    rcases List.mem_append.mp h with h | h
    · rw [List.eq_of_mem_replicate h]
      omega
    · have := uses_in K (i + 1) x h
      omega
theorem uses_cnt {R : Nat → Nat} {z : Nat} : ∀ (K : List Kd) (i x : Nat) (k : Kd), K[x]? = some k → (uses R (plc i K) z).count (i + x) = (k.tl.filter fun y => decide (R y = z)).length
  | k0 :: K, i, 0, k, h => by
    cases h
    unfold plc
    rw [uses_app, uses_row, List.count_append, Nat.add_zero, List.count_replicate_self, List.count_eq_zero.mpr (fun m => by have := uses_in K (i + 1) i m; omega), Nat.add_zero]
  | k0 :: K, i, x + 1, k, h => by
    have ih := uses_cnt (R := R) (z := z) K (i + 1) x k h
    unfold plc
    rw [uses_app, uses_row, List.count_append, List.count_eq_zero.mpr (fun m => by have := List.eq_of_mem_replicate m; omega), Nat.zero_add, show i + (x + 1) = i + 1 + x by omega]
    exact ih
structure Top (K : List Kd) (R : Nat → Nat) (O : List Nat) : Prop where
  nd : O.Nodup
  lt : ∀ x ∈ O, x < K.length
  topo : ∀ A x B, O = A ++ x :: B → ∀ k, K[x]? = some k → ∀ y ∈ k.tl, R y ∈ A
theorem split_snoc {A B O : List Nat} {x y : Nat} (h : O ++ [x] = A ++ y :: B) : (B = [] ∧ O = A ∧ x = y) ∨ ∃ B', B = B' ++ [x] ∧ O = A ++ y :: B' := by
  rcases List.eq_nil_or_concat B with rfl | ⟨B', b, rfl⟩
  · have := List.append_inj' h rfl
    exact .inl ⟨rfl, this.1, by injection this.2⟩
  · rw [List.concat_eq_append] at h ⊢
    have e : A ++ y :: (B' ++ [b]) = (A ++ y :: B') ++ [b] := by rw [List.append_assoc]; rfl
    rw [e] at h
    have := List.append_inj' h rfl
    have e2 : x = b := by injection this.2
    exact .inr ⟨B', by rw [e2], this.1⟩
theorem Top.snoc {K : List Kd} {R : Nat → Nat} {O : List Nat} {x : Nat} {k : Kd} (h : Top K R O) (hx : x ∉ O) (hk : K[x]? = some k) (all : ∀ y ∈ k.tl, R y ∈ O) : Top K R (O ++ [x]) := by
  refine ⟨List.nodup_append.mpr ⟨h.nd, List.pairwise_singleton _ x, fun a ha b hb e => by rw [List.mem_singleton.mp hb] at e; rw [e] at ha; exact hx ha⟩, fun y hy => ?_, fun A y B e k' hk' w hw => ?_⟩
  · rcases List.mem_append.mp hy with q | q
    · exact h.lt y q
    · rw [List.mem_singleton.mp q]
      exact (List.getElem?_eq_some_iff.mp hk).1
  · rcases split_snoc e with ⟨_, rfl, rfl⟩ | ⟨B', _, e2⟩
    · rw [hk] at hk'
      cases hk'
      exact all w hw
    · exact h.topo A y B' e2 k' hk' w hw
structure Cnt (K : List Kd) (R : Nat → Nat) (S : List Nat) (ml O rest : List Nat) : Prop where
  len : ml.length = K.length
  val : ∀ (x : Nat) (k : Kd), K[x]? = some k → ml[x]? = some (cM R S k + rest.count x)
  mem : ∀ (x : Nat) (m : Nat), ml[x]? = some m → (x ∈ O ↔ m = 0)
theorem Cnt.dec {K : List Kd} {R : Nat → Nat} {S ml O rest : List Nat} {x : Nat} (h : Cnt K R S ml O (x :: rest)) (hx : x < K.length) : ∃ m, ml[x]? = some (m + 1) ∧ x ∉ O ∧ (m = 0 → ∀ k, K[x]? = some k → ∀ y ∈ k.tl, R y ∈ S) ∧ Cnt K R S (ml.set x m) (if m = 0 then O ++ [x] else O) rest := by
  have hk : K[x]? = some K[x] := List.getElem?_eq_getElem hx
  have v := h.val x _ hk
  rw [List.count_cons_self, ← Nat.add_assoc] at v
  refine ⟨_, v, fun q => ?_, fun e k e2 => ?_, ?_⟩
  · have := (h.mem x _ v).mp q
    omega
  · rw [hk] at e2
    cases e2
    exact cM_zero.mp (by omega)
  · refine ⟨by rw [List.length_set]; exact h.len, fun w k hw => ?_, fun w m hw => ?_⟩
    · by_cases c : w = x
      · subst c
        rw [List.getElem?_set_self (by rw [h.len]; exact hx)]
        rw [hk] at hw
        cases hw
        rfl
      · rw [List.getElem?_set_ne (by omega), h.val w k hw, List.count_cons_of_ne (by omega)]
    · by_cases c : w = x
      · subst c
        rw [List.getElem?_set_self (by rw [h.len]; exact hx)] at hw
        cases hw
        split
        · rename_i e
          exact ⟨fun _ => e, fun _ => List.mem_append_right _ (List.mem_singleton.mpr rfl)⟩
        · rename_i e
          exact ⟨fun q => by have := (h.mem w _ v).mp q; omega, fun q => absurd q e⟩
      · rw [List.getElem?_set_ne (by omega)] at hw
        have := h.mem w m hw
        split
        · rw [List.mem_append, List.mem_singleton]
          exact ⟨fun q => q.elim this.mp fun q => absurd q c, fun q => .inl (this.mpr q)⟩
        · exact this
def Good (K : List Kd) (R : Nat → Nat) (O : List Nat) : Prop := Top K R O ∧ ∀ (x : Nat) (k : Kd), K[x]? = some k → (∀ y ∈ k.tl, R y ∈ O) → x ∈ O
def A_pfirst : ASp := fun ds M Q _ => ∃ (d m : Addr) (K : List Kd) (R : Nat → Nat) (M0 : Sto) (kvs : List (Key × D)), ds = [.obj d, .obj m] ∧ M m = some (.lst (K.map fun k => .int (k.tl.length : Nat))) ∧ K.length ≤ 10000 ∧ UsAt M0 M d kvs (uses R (plc 0 K)) ∧ ∀ o O M', M o = none → Ext M M' → M' o = some (.lst ((O : List Nat).map natI)) → Good K R O → Q (.obj o) M'
theorem p_parts_first (ds : List D) (M : Sto) (Q : D → Sto → Prop) (Xa) (hl : ds.length = 2) (h : A_pfirst ds M Q Xa) : a_parts_first ax0 (Done Q) (startA ["users", "many", "missing", "order", "place", "whole", "x", "parts"] ds) M := by
  obtain ⟨d, m, K, R, M0, kvs, rfl, hm, hK, us, q⟩ := h
  unfold a_parts_first
  have kl : (K.map fun k => D.int (k.tl.length : Nat)).length = K.length := List.length_map _
  try (simp only [↓jAe,↓jAp,↓jAi,↓jA0,↓e_c,↓jA1,↓jA9,↓jA7,↓jAt,↓jB4,↓jD0,↓jDy,↓jAb,List.set_cons_zero,List.set_cons_succ,List.getElem?_cons_zero,List.getElem?_cons_succ,List.length_cons,List.length_nil,List.nil_append,List.cons_append,startA,List.map_cons,List.map_nil,List.replicate_succ,List.replicate_zero,Nat.reduceAdd,Nat.reduceSub,Nat.zero_add,ne_eq, *])
  intro mm nm
  have hms : up M mm (.lst (K.map fun k => .int (k.tl.length : Nat))) mm = some (.lst (K.map fun k => .int (k.tl.length : Nat))) := up_same
  have us1 := us.ext (Ext.new (mo := .lst (K.map fun k => .int (k.tl.length : Nat))) nm)
  have e1 := Ext.new (mo := .lst (K.map fun k => .int (k.tl.length : Nat))) nm
  generalize up M mm (.lst (K.map fun k => .int (k.tl.length : Nat))) = M1 at *
  have el : (enumD 0 (K.map fun k => D.int (k.tl.length : Nat))).length = K.length := by rw [enumD_length, List.length_map]
  try (simp only [*])
  refine ⟨by decide, by omega, ?_⟩
  refine lc2_run (fun ds acc M' => ∃ (done rest : List Kd) (O : List Nat), K = done ++ rest ∧ ds = enumD (done.length : Nat) (rest.map fun k => D.int (k.tl.length : Nat)) ∧ acc = O.map natI ∧ (∀ x, x ∈ O ↔ ∃ k, done[x]? = some k ∧ k.tl.length = 0) ∧ O.Nodup ∧ M' = M1) (fun ds acc M' ⟨_, _, _, _, _, _, _, _, e⟩ => by rw [e]; exact hms) ?_ ?_ ⟨[], K, [], rfl, rfl, rfl, fun x => ⟨fun h => (by cases h), fun ⟨_, h, _⟩ => (by cases h)⟩, List.nodup_nil, rfl⟩
  · rintro acc M' ⟨done, rest, O, hx, hd, rfl, hO, hnd, rfl⟩
    cases rest with
    | cons k r => cases hd
    | nil =>
      rw [List.append_nil] at hx
      subst hx
      clear hd
      skip
      intro oo no
      have nmo : mm ≠ oo := fresh_ne no hms
      have nom := nmo.symm
      have no0 : M oo = none := e1.none no
      have e2 := e1.trans (Ext.new (mo := .lst (O.map natI)) no)
      have hm2 : up M' oo (.lst (O.map natI)) mm = some (.lst ((K.map fun k => k.tl.length).map natI)) := by rw [up_ne nmo, hms, List.map_map]; rfl
      have ho2 : up M' oo (.lst (O.map natI)) oo = some (.lst (O.map natI)) := up_same
      have hcnt : Cnt K R [] (K.map fun k => k.tl.length) O [] := by
        refine ⟨List.length_map _, fun x k hk => by rw [List.getElem?_map, hk, cM_nil]; rfl, fun x mx hx => ?_⟩
        rw [List.getElem?_map] at hx
        rw [hO x]
        cases c : K[x]? with
        | none => rw [c] at hx; cases hx
        | some k =>
          rw [c] at hx
          injection hx with hx
          exact ⟨fun ⟨k', h1, h2⟩ => (by cases h1; exact hx.symm.trans h2), fun h => ⟨k, rfl, hx.trans h⟩⟩
      have htop : Top K R O := by
        refine ⟨hnd, fun x hx => ?_, fun A x B e k hk y hy => ?_⟩
        · obtain ⟨k, h1, _⟩ := (hO x).mp hx
          exact (List.getElem?_eq_some_iff.mp h1).1
        · obtain ⟨k', h1, h2⟩ := (hO x).mp (by rw [e]; exact List.mem_append_right _ List.mem_cons_self)
          rw [hk] at h1
          cases h1
          rw [List.length_eq_zero_iff.mp h2] at hy
          cases hy
      clear hms us1 hO hnd
      generalize up M' oo (.lst (O.map natI)) = M2 at *
      skip
      refine while_runN (fun μ env M' => ∃ (S T ml : List Nat) (x5 x6 x7 : Option D), μ = K.length - S.length ∧ env = [some (.obj d), some (.obj m), some (.obj mm), some (.obj oo), some (.int (S.length : Nat)), x5, x6, x7] ∧ M' mm = some (.lst (ml.map natI)) ∧ M' oo = some (.lst ((S ++ T).map natI)) ∧ Ext M M' ∧ Top K R (S ++ T) ∧ Cnt K R S ml (S ++ T) []) ?_ ⟨[], O, _, none, none, none, rfl, rfl, hm2, ho2, e2, htop, hcnt⟩
      clear hm2 ho2 e2 htop hcnt
      rintro μ N env M3 ⟨S, T, ml, x5, x6, x7, rfl, rfl, hm3, ho3, e3, top, cnt⟩ next
      have ol : (S ++ T).length ≤ K.length := by
        have := nodup_le (xs := S ++ T) (ys := List.range K.length) top.nd (fun x hx => List.mem_range.mpr (top.lt x hx))
        rw [List.length_range] at this
        exact this
      have ol2 : ((S ++ T).map natI).length = S.length + T.length := by rw [List.length_map, List.length_append]
      cases T with
      | nil =>
        rw [List.append_nil] at *
        have g := q oo S M3 no0 e3 ho3 ⟨top, fun x k hk hy => (cnt.mem x _ (cnt.val x k hk)).mpr (by rw [cM_zero.mpr hy]; rfl)⟩
        clear next q
        try (simp only [↓jAe,↓jAd,↓jA0,↓jA8,↓jA1,↓jAf,↓jA9,↓jA7,↓jA4,↓jAt,↓jBk,↓jAg,↓jCg,↓jBn,↓jAs,↓jBe,↓jAb,↓jB1,jAh,List.getElem?_cons_zero,List.getElem?_cons_succ,List.length_nil,Nat.reduceLeDiff,decide_eq_true_eq,true_and, *])
        rw [if_neg (by omega)]
        first | exact g | trivial
      | cons z T =>
        have hz : z < K.length := top.lt z (List.mem_append_right _ List.mem_cons_self)
        have hzS : z ∉ S := fun h => by
          have := (List.nodup_append.mp top.nd).2.2 z h z List.mem_cons_self
          exact this rfl
        have atz : atI ((S ++ z :: T).map natI) (S.length : Nat) = some (.int (z : Nat)) := by
          rw [atIn, List.getElem?_map, List.getElem?_append_right (Nat.le_refl _), Nat.sub_self]
          rfl
        clear q
        have us3 := us.ext e3
        have hd3 := us3.2.1
        try (simp only [↓jAe,↓jAd,↓jA0,↓jA8,↓jA1,↓jAf,↓jA9,↓jA7,↓jA4,↓jAt,↓jBk,↓jAg,↓jCg,↓jBn,↓jAs,↓jBe,↓jAb,↓jB1,jBw,jAh,List.getElem?_cons_zero,List.getElem?_cons_succ,List.length_cons,List.length_nil,Nat.reduceLeDiff,decide_eq_true_eq,true_and, *])
        rw [if_pos (by omega)]
        intro q nq
        have hm4 : up M3 q (.lst []) mm = some (.lst (ml.map natI)) := by rw [up_ne (fresh_ne nq hm3)]; exact hm3
        have ho4 : up M3 q (.lst []) oo = some (.lst ((S ++ z :: T).map natI)) := by rw [up_ne (fresh_ne nq ho3)]; exact ho3
        have hq4 : up M3 q (.lst []) q = some (.lst []) := up_same
        have us4 := us3.ext (Ext.new (mo := .lst []) nq)
        have e4 := e3.trans (Ext.new (mo := .lst []) nq)
        have hd4 := us4.2.1
        have hmq : mm ≠ q := fresh_ne nq hm3
        have hoq : oo ≠ q := fresh_ne nq ho3
        generalize up M3 q (.lst []) = M4 at *
        clear hm3 ho3 nq us3 hd3 e3
        have fb : ∃ b, (valA kvs (.inl (z : Nat))).getD (.obj q) = .obj b ∧ M4 b = some (.lst ((uses R (plc 0 K) z).map natI)) ∧ mm ≠ b ∧ oo ≠ b := by
          have h4 := us4.2.2.1 z
          have h0 := us.2.2.1 z
          cases c : valA kvs (.inl (z : Nat)) with
          | none =>
            rw [c] at h4
            exact ⟨q, rfl, by rw [h4]; exact hq4, hmq, hoq⟩
          | some v =>
            rw [c] at h4 h0
            obtain ⟨b, rfl, _, hb⟩ := h4
            obtain ⟨b', eb, _, hb'⟩ := h0
            cases eb
            exact ⟨b, rfl, hb, (fresh_ne nm hb').symm, (fresh_ne no0 hb').symm⟩
        obtain ⟨b, eb, hb, nmb, nob⟩ := fb
        have hL : ∀ x ∈ uses R (plc 0 K) z, x < K.length := fun x hx => by have := uses_in K 0 x hx; omega
        have hLc := fun x k (hk : K[x]? = some k) => uses_cnt (R := R) (z := z) K 0 x k hk
        generalize uses R (plc 0 K) z = L at *
        clear hq4 us4 hmq hoq
        try (simp only [*])
        refine for_run (fun ds env M' => ∃ (rest T2 ml2 : List Nat) (x5 : Option D), ds = rest.map natI ∧ env = [some (.obj d), some (.obj m), some (.obj mm), some (.obj oo), some (.int (S.length : Nat)), x5, x6, x7] ∧ M' b = some (.lst (L.map natI)) ∧ M' mm = some (.lst (ml2.map natI)) ∧ M' oo = some (.lst ((S ++ z :: T2).map natI)) ∧ Ext M M' ∧ Top K R (S ++ z :: T2) ∧ Cnt K R (S ++ [z]) ml2 (S ++ z :: T2) rest ∧ ∀ x ∈ rest, x < K.length) (fun ds env M' ⟨_, _, _, _, _, _, h, _⟩ => h) ?_ ?_ ⟨L, T, ml, x5, rfl, rfl, hb, hm4, ho4, e4, top, ⟨cnt.len, fun x k hk => ?_, cnt.mem⟩, hL⟩
        · rintro env M5 ⟨rest, T2, ml2, x5, hd, rfl, h1, h2, h3, h4, top2, cnt2, _⟩
          cases rest with
          | cons _ _ => cases hd
          | nil =>
            have ol : (S ++ z :: T2).length ≤ K.length := by
              have := nodup_le (xs := S ++ z :: T2) (ys := List.range K.length) top2.nd (fun x hx => List.mem_range.mpr (top2.lt x hx))
              rw [List.length_range] at this
              exact this
            rw [List.length_append, List.length_cons] at ol
            have e5 : S ++ z :: T2 = (S ++ [z]) ++ T2 := by rw [List.append_assoc]; rfl
            have sl : (S ++ [z]).length = S.length + 1 := by rw [List.length_append, List.length_singleton]
            have g := next (K.length - (S ++ [z]).length) [some (.obj d), some (.obj m), some (.obj mm), some (.obj oo), some (.int ((S ++ [z]).length : Nat)), x5, x6, x7] M5 (by rw [sl]; omega) ⟨S ++ [z], T2, ml2, x5, x6, x7, rfl, rfl, h2, by rw [← e5]; exact h3, h4, by rw [← e5]; exact top2, by rw [← e5]; exact cnt2⟩
            rw [sl] at g
            have ci : ((S.length + 1 : Nat) : Int) = (S.length : Nat) + 1 := by omega
            rw [ci] at g
            clear next hd
            try (simp only [↓jCo,↓e_c,↓jA1,↓jCn,List.set_cons_zero,List.set_cons_succ,List.getElem?_cons_zero,List.getElem?_cons_succ, *])
            all_goals first | exact g | trivial
        · rintro x r0 N2 env M5 ⟨rest, T2, ml2, x5, hd, rfl, h1, h2, h3, h4, top2, cnt2, hlt⟩ next2
          cases rest with
          | nil => cases hd
          | cons x' rest =>
            injection hd with hd1 hd2
            subst hd1 hd2
            have hx' : x' < K.length := hlt x' List.mem_cons_self
            obtain ⟨c, hc1, hc2, hc3, hc4⟩ := cnt2.dec hx'
            have hxl : x' < ml2.length := by rw [cnt2.len]; exact hx'
            have at1 : atI (ml2.map natI) (x' : Nat) = some (.int ((c + 1 : Nat) : Int)) := at_natI hc1
            have il : ixN (ml2.map natI).length (x' : Nat) = some x' := ixNat (by rw [List.length_map]; exact hxl)
            have il2 : ixN ml2.length (x' : Nat) = some x' := ixNat hxl
            have ci : ((c + 1 : Nat) : Int) - 1 = (c : Nat) := by omega
            have at2 : atI ((ml2.map natI).set x' (.int (c : Nat))) (x' : Nat) = some (.int (c : Nat)) := by
              rw [atIn, List.getElem?_set_self (by rw [List.length_map]; exact hxl)]
            clear next
            try (simp only [↓jAe,↓jAl,↓jAy,↓jA3,↓jAi,↓jA0,↓e_c,↓jA8,↓jA1,↓jAf,↓jA9,↓jA7,↓jAx,↓jAw,↓jFr,↓jBo,↓jAs,↓jAb,jAq,jAh,List.set_cons_zero,List.set_cons_succ,List.getElem?_cons_zero,List.getElem?_cons_succ,List.length_cons,List.length_map,List.length_append,if_true,if_false,decide_eq_true_eq, *])
            have ol : (S ++ z :: T2).length ≤ K.length := by
              have := nodup_le (xs := S ++ z :: T2) (ys := List.range K.length) top2.nd (fun x hx => List.mem_range.mpr (top2.lt x hx))
              rw [List.length_range] at this
              exact this
            rw [List.length_append, List.length_cons] at ol
            have ms : (ml2.map natI).set x' (.int (c : Nat)) = (ml2.set x' c).map natI := by rw [List.map_set]
            split
            · rename_i q0
              have q0 : c = 0 := by omega
              rw [if_pos q0] at hc4
              have e6 : (S ++ z :: T2) ++ [x'] = S ++ z :: (T2 ++ [x']) := by rw [List.append_assoc]; rfl
              refine ⟨by omega, next2 _ _ ⟨rest, T2 ++ [x'], ml2.set x' c, _, rfl, rfl, by rw [up_ne nob.symm, up_ne nmb.symm]; exact h1, by rw [up_ne nmo, up_same, ms], by rw [up_same, ← e6, List.map_append (l₁ := S ++ z :: T2)]; rfl, (h4.upd nm).upd no0, ?_, by rw [← e6]; exact hc4, fun x hx => hlt x (List.mem_cons_of_mem _ hx)⟩⟩
              rw [← e6]
              exact top2.snoc hc2 (List.getElem?_eq_getElem hx') fun y hy => by
                have := hc3 q0 _ (List.getElem?_eq_getElem hx') y hy
                rcases List.mem_append.mp this with h | h
                · exact List.mem_append_left _ h
                · rw [List.mem_singleton.mp h]
                  exact List.mem_append_right _ List.mem_cons_self
            · rename_i q0
              rw [if_neg (by omega)] at hc4
              exact next2 _ _ ⟨rest, T2, ml2.set x' c, _, rfl, rfl, by rw [up_ne nmb.symm]; exact h1, by rw [up_same, ms], by rw [up_ne nom]; exact h3, h4.upd nm, top2, hc4, fun x hx => hlt x (List.mem_cons_of_mem _ hx)⟩
        · rw [cnt.val x k hk, cM_snoc hzS k, ← hLc x k hk]
          simp
  · rintro y r acc M' N ⟨done, rest, O, hx, hd, rfl, hO, hnd, rfl⟩ next
    cases rest with
    | nil => cases hd
    | cons k rest =>
      have hd' : y :: r = .tup [.int (done.length : Nat), .int (k.tl.length : Nat)] :: enumD ((done.length : Nat) + 1) (rest.map fun k => D.int (k.tl.length : Nat)) := hd
      injection hd' with hd1 hd2
      subst hd1 hd2
      refine ⟨_, _, rfl, ?_⟩
      try (simp only [↓jA0,↓e_c,↓jA8,↓jA1,↓jAf,↓jBo,List.set_cons_zero,List.set_cons_succ,List.getElem?_cons_zero,List.getElem?_cons_succ,decide_eq_true_eq, *])
      have st : ∀ x, (∃ k', (done ++ [k])[x]? = some k' ∧ k'.tl.length = 0) ↔ (∃ k', done[x]? = some k' ∧ k'.tl.length = 0) ∨ (x = done.length ∧ k.tl.length = 0) := fun x => by
        constructor
        · rintro ⟨k', h1, h2⟩
          by_cases c : x < done.length
          · rw [List.getElem?_append_left c] at h1
            exact .inl ⟨k', h1, h2⟩
          · rw [List.getElem?_append_right (by omega)] at h1
            have h3 := (List.getElem?_eq_some_iff.mp h1).1
            rw [List.length_singleton] at h3
            have e := List.mem_singleton.mp (List.mem_of_getElem? h1)
            rw [e] at h2
            exact .inr ⟨by omega, h2⟩
        · rintro (⟨k', h1, h2⟩ | ⟨rfl, h2⟩)
          · exact ⟨k', by rw [List.getElem?_append_left (List.getElem?_eq_some_iff.mp h1).1]; exact h1, h2⟩
          · exact ⟨k, by rw [List.getElem?_append_right (Nat.le_refl _), Nat.sub_self]; rfl, h2⟩
      split
      · rename_i c
        have c : k.tl.length = 0 := by omega
        refine next _ M' ⟨done ++ [k], rest, O ++ [done.length], by rw [hx, List.append_assoc]; rfl, by rw [List.length_append, List.length_singleton]; rfl, by rw [List.map_append]; rfl, fun x => ?_, ?_, rfl⟩
        · rw [st x, List.mem_append, List.mem_singleton, hO x]
          exact ⟨fun h => h.imp id fun h => ⟨h, c⟩, fun h => h.imp id fun h => h.1⟩
        · refine List.nodup_append.mpr ⟨hnd, List.pairwise_singleton _ _, fun a ha b hb e => ?_⟩
          rw [List.mem_singleton.mp hb] at e
          obtain ⟨k', h1, _⟩ := (hO a).mp ha
          have := (List.getElem?_eq_some_iff.mp h1).1
          omega
      · rename_i c
        have c : ¬ k.tl.length = 0 := by omega
        refine next _ M' ⟨done ++ [k], rest, O, by rw [hx, List.append_assoc]; rfl, by rw [List.length_append, List.length_singleton]; rfl, rfl, fun x => ?_, hnd, rfl⟩
        rw [st x, hO x]
        exact ⟨fun h => .inl h, fun h => h.elim id fun h => absurd h.2 c⟩

/- slots of Terms_solved: 0 self, 1 order, 2 found, 3 x, 4 tail, 5 part -/
def a_Terms_solved (C_Terms : Addr) (A_parts_first : ASp) (A_Terms_users : ASp) (A_Terms_root : ASp) : ATS :=
    (aSeq (aAsg (aCall 2 A_parts_first (aCons (aMeth C_Terms "users" 1 A_Terms_users (aVar 0) aNil) (aCons (aLc (aIList (aFld C_Terms "tails" (aVar 0))) 4 aYes (aCB ρLen (aCons (aVar 4) aNil))) aNil))) (agName 1))
    (aSeq (aIf (aTest (aOp ρLt (aCB ρLen (aCons (aVar 1) aNil)) (aCB ρLen (aCons (aFld C_Terms "tails" (aVar 0)) aNil)))) (aRet (aC .non)) aNext)
    (aSeq (aAsg aDNew (agName 2))
    (aSeq (aFor (aIList (aVar 1)) (agName 3) (aIf (aTest (aOp (ρEq false) (aOp ρIx (aFld C_Terms "heads" (aVar 0)) (aVar 3)) (aC (.str z_letter)))) (aDPut (aVar 2) (aVar 3) (aTup (aCons (aC (.str z_letter)) (aCons (aOp ρDGet (aFld C_Terms "names" (aVar 0)) (aVar 3)) aNil)))) (aDPut (aVar 2) (aVar 3) (aOp ρAdd (aTup (aCons (aOp ρIx (aFld C_Terms "heads" (aVar 0)) (aVar 3)) aNil)) (aCB ρTuple (aCons (aLc (aITup (aOp ρIx (aFld C_Terms "tails" (aVar 0)) (aVar 3))) 5 aYes (aOp ρDGet (aVar 2) (aMeth C_Terms "root" 2 A_Terms_root (aVar 0) (aCons (aVar 5) aNil)))) aNil))))))
    (aRet (aLc (aIRng1 (aCons (aCB ρLen (aCons (aFld C_Terms "tails" (aVar 0)) aNil)) aNil)) 3 aYes (aOp ρDGet (aVar 2) (aMeth C_Terms "root" 2 A_Terms_root (aVar 0) (aCons (aVar 3) aNil)))))))))

inductive Nf where
  | lt (x : Nat) | ng (p : Nf) | im (p q : Nf)
def Nf.d (ν : Nat → D) : Nf → D
  | .lt x => .tup [.str z_letter, ν x]
  | .ng p => .tup [.str z_not, p.d ν]
  | .im p q => .tup [.str z_if, p.d ν, q.d ν]
def Nf.dp : Nf → Nat
  | .lt _ => 1
  | .ng p => p.dp + 1
  | .im p q => max p.dp q.dp + 1
def mkN (h : Nat → Nf) (R : Nat → Nat) (x : Nat) : Kd → Nf
  | .l => .lt x
  | .n a => .ng (h (R a))
  | .i a b => .im (h (R a)) (h (R b))
theorem mkN_eq {h h' : Nat → Nf} {R : Nat → Nat} {x : Nat} {k : Kd} (e : ∀ y ∈ k.tl, h (R y) = h' (R y)) : mkN h R x k = mkN h' R x k := by
  cases k with
  | l => rfl
  | n a => show Nf.ng (h (R a)) = Nf.ng (h' (R a)); rw [e a List.mem_cons_self]
  | i a b => show Nf.im (h (R a)) (h (R b)) = Nf.im (h' (R a)) (h' (R b)); rw [e a List.mem_cons_self, e b (List.mem_cons_of_mem _ List.mem_cons_self)]
theorem Top.sol {K : List Kd} {R : Nat → Nat} : ∀ (n : Nat) {O : List Nat}, O.length = n → Top K R O → ∃ h : Nat → Nf, (∀ x ∈ O, ∀ k, K[x]? = some k → h x = mkN h R x k) ∧ ∀ x ∈ O, (h x).dp ≤ O.length
  | 0, O, l, _ => by
    cases List.length_eq_zero_iff.mp l
    exact ⟨fun _ => .lt 0, (fun x h => by cases h), (fun x h => by cases h)⟩
  | n + 1, O, l, t => by
    rcases List.eq_nil_or_concat O with rfl | ⟨O', z, rfl⟩
    · cases l
    rw [List.concat_eq_append] at t l ⊢
    rw [List.length_append, List.length_singleton] at l
    have t' : Top K R O' := ⟨(List.nodup_append.mp t.nd).1, fun x hx => t.lt x (List.mem_append_left _ hx), fun A x B e => t.topo A x (B ++ [z]) (by rw [e, List.append_assoc]; rfl)⟩
    have hz : z ∉ O' := fun m => (List.nodup_append.mp t.nd).2.2 z m z (List.mem_singleton.mpr rfl) rfl
    have parts : ∀ x ∈ O', ∀ k, K[x]? = some k → ∀ y ∈ k.tl, R y ∈ O' := fun x hx k hk y hy => by
      obtain ⟨A, B, e⟩ := List.append_of_mem hx
      rw [e]
      exact List.mem_append_left _ (t'.topo A x B e k hk y hy)
    have partz : ∀ k, K[z]? = some k → ∀ y ∈ k.tl, R y ∈ O' := fun k hk => t.topo O' z [] rfl k hk
    obtain ⟨h, h1, h2⟩ := Top.sol n (by omega) t'
    have zl := t.lt z (List.mem_append_right _ (List.mem_singleton.mpr rfl))
    have old : ∀ y, y ∈ O' → (if y = z then mkN h R z K[z] else h y) = h y := fun y hy => if_neg fun e => hz (by rw [← e]; exact hy)
    refine ⟨fun y => if y = z then mkN h R z K[z] else h y, fun x hx k hk => ?_, fun x hx => ?_⟩
    · by_cases c : x = z
      · subst c
        rw [List.getElem?_eq_getElem zl] at hk
        cases hk
        show (if x = x then _ else _) = _
        rw [if_pos rfl]
        exact mkN_eq fun y hy => (old _ (partz _ (List.getElem?_eq_getElem zl) y hy)).symm
      · have hx : x ∈ O' := by
          rcases List.mem_append.mp hx with q | q
          · exact q
          · exact absurd (List.mem_singleton.mp q) c
        show (if x = z then _ else _) = _
        rw [if_neg c, h1 x hx k hk]
        exact mkN_eq fun y hy => (old _ (parts x hx k hk y hy)).symm
    · rw [List.length_append, List.length_singleton]
      by_cases c : x = z
      · subst c
        show (if x = x then _ else _ : Nf).dp ≤ _
        rw [if_pos rfl]
        have pz := partz _ (List.getElem?_eq_getElem zl)
        generalize K[x] = k at pz
        cases k with
        | l => show 1 ≤ _; omega
        | n a =>
          have := h2 _ (pz a List.mem_cons_self)
          show (h (R a)).dp + 1 ≤ _
          omega
        | i a b =>
          have := h2 _ (pz a List.mem_cons_self)
          have := h2 _ (pz b (List.mem_cons_of_mem _ List.mem_cons_self))
          show max (h (R a)).dp (h (R b)).dp + 1 ≤ _
          omega
      · have hx : x ∈ O' := by
          rcases List.mem_append.mp hx with q | q
          · exact q
          · exact absurd (List.mem_singleton.mp q) c
        show (if x = z then _ else _ : Nf).dp ≤ _
        rw [if_neg c]
        have := h2 x hx
        omega
theorem Good.all {K : List Kd} {R : Nat → Nat} {O : List Nat} {φ : Nat → Fm} (g : Good K R O) (kids : Kids K) (rl : ∀ x, x < K.length → R x < K.length) (s : Sat K R φ) : ∀ (n : Nat) (x : Nat), (φ x).sz ≤ n → x < K.length → x ∈ O
  | 0, x, h, _ => by have := (φ x).sz_pos; omega
  | n + 1, x, h, hx => by
    refine g.2 x _ (List.getElem?_eq_getElem hx) fun y hy => ?_
    have yl := kids x _ (List.getElem?_eq_getElem hx) y hy
    refine Good.all g kids rl s n (R y) ?_ (rl y yl)
    rw [s.2]
    have e := s.1 x _ (List.getElem?_eq_getElem hx)
    generalize K[x] = k at hy e
    cases k with
    | l => cases hy
    | n a =>
      have e : φ x = .ng (φ a) := e
      rw [List.mem_singleton.mp hy]
      rw [e] at h
      have h : (φ a).sz + 1 ≤ n + 1 := h
      omega
    | i a b =>
      have e : φ x = .im (φ a) (φ b) := e
      rw [e] at h
      have h : (φ a).sz + (φ b).sz + 1 ≤ n + 1 := h
      rcases List.mem_cons.mp hy with q | q
      · rw [q]; omega
      · rw [List.mem_singleton.mp q]; omega
theorem nodup_full {O : List Nat} {n : Nat} (nd : O.Nodup) (lt : ∀ x ∈ O, x < n) (l : n ≤ O.length) : ∀ x, x < n → x ∈ O := fun x hx => by
  by_cases c : x ∈ O
  · exact c
  · have := nodup_le (xs := x :: O) (ys := List.range n) (List.nodup_cons.mpr ⟨c, nd⟩) (fun y hy => by
      rcases List.mem_cons.mp hy with rfl | q
      · exact List.mem_range.mpr hx
      · exact List.mem_range.mpr (lt y q))
    rw [List.length_range, List.length_cons] at this
    omega
theorem rngD_range0 (m : Nat) : rngD 0 m = (List.range m).map fun k : Nat => D.int (k : Int) := by
  refine List.ext_getElem? fun i => ?_
  rw [rngD_get, List.getElem?_map]
  by_cases h : i < m
  · rw [if_pos h, List.getElem?_range h, Int.zero_add]
    rfl
  · rw [if_neg h, List.getElem?_eq_none (by rw [List.length_range]; omega)]
    rfl
structure Hid (p : Prop) : Prop where
  out : p
def A_tsolved (C : Addr) : ASp := fun ds M Q _ => ∃ (p a t n r : Addr) (K : List Kd) (nm : List (Key × D)) (nr : List Nat) (R ρ : Nat → Nat) (ν : Nat → D), ds = [.obj p] ∧ TmsAt C M p a t n r (tmsK K nm nr) ∧ nr.length = K.length ∧ K.length ≤ 10000 ∧ Kids K ∧ UF nr R ρ ∧ (∀ x : Nat, K[x]? = some .l → valA nm (.inl (x : Int)) = some (ν x)) ∧
  (∀ (h : Nat → Nf) w nr' M', (∀ x k, K[x]? = some k → h x = mkN h R x k) → (∃ O, Top K R O ∧ ∀ z, z < K.length → z ∈ O) → (∀ x, x < K.length → (h x).dp ≤ K.length) → UF nr' R ρ → nr'.length = K.length → TmsAt C M' p a t n r (tmsK K nm nr') → ExtS [r] M M' → M w = none → M' w = some (.lst ((List.range K.length).map fun x => (h (R x)).d ν)) → Q (.obj w) M') ∧
  ((∀ φ, ¬ Sat K R φ) → ∀ nr' M', UF nr' R ρ → nr'.length = K.length → TmsAt C M' p a t n r (tmsK K nm nr') → ExtS [r] M M' → Q .non M')
set_option maxHeartbeats 4000000 in
theorem p_tsolved (C : Addr) (ds : List D) (M : Sto) (Q : D → Sto → Prop) (Xa) (hl : ds.length = 1) (h : A_tsolved C ds M Q Xa) : a_Terms_solved C A_pfirst (A_tusers C) (A_troot C) ax0 (Done Q) (startA ["self", "order", "found", "x", "tail", "part"] ds) M := by
  obtain ⟨p, a, t, n, r, K, nm, nr, R, ρ, ν, rfl, hT, hnr, hK, kids, uf, hν, q1, q2⟩ := h
  unfold a_Terms_solved
  have nnr : n ≠ r := fun z => by
    have := hT.2.2.2.1
    rw [z, hT.2.2.2.2.1] at this
    cases this
  obtain ⟨dx, hp⟩ := hT.1
  replace q1 := Hid.mk q1
  replace q2 := Hid.mk q2
  try (simp only [↓jAe,↓jAl,↓jAd,↓jA3,↓jAp,↓jAi,↓jA0,↓e_c,↓jA8,↓jA1,↓jAf,↓jA9,↓jA7,↓jB6,↓jA5,↓jAt,↓jBs,↓jBm,↓jAg,↓jCg,↓jAc,↓jAb,List.set_cons_zero,List.set_cons_succ,List.getElem?_cons_zero,List.getElem?_cons_succ,List.length_cons,List.length_nil,List.nil_append,List.cons_append,startA,List.map_cons,List.map_nil,List.replicate_succ,List.replicate_zero,Nat.reduceAdd,Nat.reduceSub,Nat.zero_add, *])
  refine ⟨⟨dx, _, rfl, rfl⟩, rfl, p, a, t, n, r, K, nm, nr, R, ρ, rfl, hT, hnr, hK, kids, uf, fun d kvs nr1 M1 uf1 l1 hT1 us e1 => ?_⟩
  obtain ⟨dx1, hp1⟩ := hT1.1
  try (simp only [*])
  have ht1 := hT1.2.2.1
  have tl1 : ((K.map Kd.tl).map natsD).length = K.length := by rw [List.length_map, List.length_map]
  refine ⟨dx1, _, .obj t, .ref t, rfl, rfl, rfl, ?_⟩
  try (simp only [List.length_map, *])
  refine ⟨by show (K.map Kd.tl).length ≤ _; rw [List.length_map]; omega, ?_⟩
  refine lc_run (fun ds acc M' => ∃ (done rest : List Kd), K = done ++ rest ∧ ds = (rest.map Kd.tl).map natsD ∧ acc = done.map (fun k => D.int (k.tl.length : Nat)) ∧ M' = M1) (fun ds acc M' ⟨_, _, _, _, _, e⟩ => by rw [e]; exact ht1) ?_ ?_ ⟨[], K, rfl, rfl, rfl, rfl⟩
  · rintro acc M' ⟨done, rest, hx, hd, rfl, rfl⟩
    cases rest with
    | cons k r => cases hd
    | nil =>
      rw [List.append_nil] at hx
      subst hx
      clear hd
      skip
      intro m nm1
      refine ⟨rfl, d, m, K, R, M, kvs, rfl, up_same, hK, us.ext (Ext.new nm1), fun o O M3 no e3 ho good => ?_⟩
      have eM := (Ext.new (mo := .lst (K.map fun k => D.int (k.tl.length : Nat))) nm1).trans e3
      have hT3 := hT1.ext eM
      have he3 := e1.trans eM.s (S := [r])
      have ht3 := hT3.2.2.1
      obtain ⟨dx3, hp3⟩ := hT3.1
      have oln : (O.map natI).length = O.length := List.length_map _
      simp only [↓jBe, ↓jAb, ho]
      refine ⟨dx3, _, .obj t, .ref t, hp3, rfl, rfl, ?_⟩
      try (simp only [↓jBn,↓jBe,↓jAb,List.length_map,decide_eq_true_eq, *])
      have tk : (tmsK K nm nr1).tl.length = K.length := List.length_map _
      split
      · rename_i c
        refine q2.out (fun φ sφ => ?_) nr1 M3 uf1 l1 hT3 he3
        have all : ∀ x, x < K.length → x ∈ O := fun x hx => Good.all good kids (fun x hx => by have := uf1.rlt x (by omega); omega) sφ _ x (Nat.le_refl _) hx
        have := nodup_le (xs := List.range K.length) (ys := O) List.nodup_range fun x hx => all x (List.mem_range.mp hx)
        rw [List.length_range] at this
        omega
      · rename_i c
        have full : ∀ x, x < K.length → x ∈ O := nodup_full good.1.nd good.1.lt (by omega)
        have lO : O.length ≤ K.length := by
          have := nodup_le (xs := O) (ys := List.range K.length) good.1.nd fun x hx => List.mem_range.mpr (good.1.lt x hx)
          rw [List.length_range] at this
          exact this
        obtain ⟨h, hh, hdp⟩ := Top.sol _ rfl good.1
        have hh2 : ∀ x k, K[x]? = some k → h x = mkN h R x k := fun x k hk => hh x (full x (List.getElem?_eq_some_iff.mp hk).1) k hk
        intro f nf
        have nof : o ≠ f := fresh_ne nf ho
        have nor : o ≠ r := ((hT1.ext (Ext.new nm1)).off no).2.2.2.2
        have nfo := hT3.off nf
        have f0 : M f = none := by
          cases c : M f with
          | none => rfl
          | some w =>
            rw [he3 f w (by simp [nfo.2.2.2.2]) c] at nf
            cases nf
        have hf4 : up M3 f (.dic []) f = some (.dic []) := up_same
        have ho4 : up M3 f (.dic []) o = some (.lst (O.map natI)) := by rw [up_ne nof]; exact ho
        have hT4 := hT3.ext (Ext.new (mo := .dic []) nf)
        have he4 := he3.trans (Ext.new (mo := .dic []) nf).s
        generalize up M3 f (.dic []) = M4 at *
        clear nf hT3 he3 ho ht3 hp3 eM e3 hT hp hT1 hp1 ht1
        try (simp only [*])
        refine for_run (fun ds env M' => ∃ (A B : List Nat) (kv : List (Key × D)) (nr' : List Nat) (x3 x4 x5 : Option D), O = A ++ B ∧ ds = B.map natI ∧ env = [some (.obj p), some (.obj o), some (.obj f), x3, x4, x5] ∧ M' o = some (.lst (O.map natI)) ∧ M' f = some (.dic kv) ∧ (∀ x ∈ A, valA kv (.inl (x : Nat)) = some ((h x).d ν)) ∧ kv.length ≤ A.length ∧ UF nr' R ρ ∧ nr'.length = K.length ∧ TmsAt C M' p a t n r (tmsK K nm nr') ∧ ExtS [r] M M') (fun ds env M' ⟨_, _, _, _, _, _, _, _, _, _, h, _⟩ => h) ?_ ?_ ⟨[], O, [], nr1, none, none, none, rfl, rfl, rfl, ho4, hf4, (fun x hx => by cases hx), Nat.le_refl _, uf1, l1, hT4, he4⟩
        · rintro env M5 ⟨A, B, kv, nr5, x3, x4, x5, hx, hd, rfl, h1, h2, hkv, hkl, uf5, l5, hT5, he5⟩
          cases B with
          | cons _ _ => cases hd
          | nil =>
            rw [List.append_nil] at hx
            subst hx
            clear hd
            obtain ⟨dx5, hp5⟩ := hT5.1
            have ht5 := hT5.2.2.1
            try (simp only [↓jAd,↓jA0,↓jA1,↓jA9,↓jA7,↓jAt,↓jBs,↓jBh,↓jAc,List.getElem?_cons_zero,Int.reducePow,Int.reduceNeg, *])
            refine ⟨dx5, _, .obj t, .ref t, rfl, rfl, rfl, ?_⟩
            have tk5 : (tmsK K nm nr5).tl.length = K.length := List.length_map _
            have in1 : -4611686018427387904 ≤ ((K.length : Nat) : Int) := by omega
            have in2 : ((K.length : Nat) : Int) < 4611686018427387904 := by omega
            have in3 : (rngD 0 K.length).length ≤ 1000000 := by rw [rngD_range0, List.length_map, List.length_range]; omega
            have in4 : ((K.length : Nat) : Int).toNat = K.length := by omega
            try (simp only [↓jBe,↓jAb,List.length_map,Int.reduceNeg,true_and, *])
            rw [rngD_range0]
            refine lc_run (fun ds acc M' => ∃ (done rest : List Nat) (nr' : List Nat), List.range K.length = done ++ rest ∧ ds = rest.map (fun k : Nat => D.int (k : Int)) ∧ acc = done.map (fun x => (h (R x)).d ν) ∧ UF nr' R ρ ∧ nr'.length = K.length ∧ TmsAt C M' p a t n r (tmsK K nm nr') ∧ M' f = some (.dic kv) ∧ ExtS [r] M M') (fun _ _ _ _ => trivial) ?_ ?_ ⟨[], List.range K.length, nr5, rfl, rfl, rfl, uf5, l5, hT5, h2, he5⟩
            · rintro acc M6 ⟨done, rest, nr6, hx, hd, rfl, uf6, l6, hT6, _, he6⟩
              cases rest with
              | cons _ _ => cases hd
              | nil =>
                rw [List.append_nil] at hx
                subst hx
                intro w nw
                have w0 : M w = none := by
                  have wr := (hT6.off nw).2.2.2.2
                  cases c : M w with
                  | none => rfl
                  | some v =>
                    rw [he6 w v (by simp [wr]) c] at nw
                    cases nw
                exact q1.out h w nr6 _ hh2 ⟨O, good.1, full⟩ (fun x hx => Nat.le_trans (hdp x (full x hx)) lO) uf6 l6 (hT6.ext (Ext.new nw)) (he6.off w0) w0 up_same
            · rintro y r0 acc M6 N3 ⟨done, rest, nr6, hx, hd, rfl, uf6, l6, hT6, f6, he6⟩ next3
              cases rest with
              | nil => cases hd
              | cons z rest =>
                injection hd with hd1 hd2
                subst hd1 hd2
                have hz : z < K.length := List.mem_range.mp (by rw [hx]; exact List.mem_append_right _ List.mem_cons_self)
                obtain ⟨dx6, hp6⟩ := hT6.1
                have rz : R z < K.length := by have := uf6.rlt z (by omega); omega
                have vz := hkv (R z) (full _ rz)
                clear h1 h2 hT5 he5
                try (simp only [↓jA0,↓jA8,↓jA1,↓jBu,↓jA9,↓jA7,↓jBm,↓jAk,↓jB1,List.set_cons_zero,List.set_cons_succ,List.getElem?_cons_zero,List.getElem?_cons_succ,if_true, *])
                refine ⟨⟨dx6, _, rfl, rfl⟩, rfl, p, a, t, n, r, tmsK K nm nr6, z, R, ρ, rfl, hT6, nnr, by show z < nr6.length; omega, by show nr6.length ≤ _; omega, uf6, fun nr7 M7 uf7 l7 hT7 e7 => ?_⟩
                have f7 := e7 f _ (by simp [nfo.2.2.2.2]) f6
                have g := next3 (done.map (fun x => (h (R x)).d ν) ++ [(h (R z)).d ν]) M7 ⟨done ++ [z], rest, nr7, by rw [hx, List.append_assoc]; rfl, rfl, by rw [List.map_append]; rfl, uf7, l7.trans l6, hT7, f7, he6.trans e7⟩
                clear next3 f6
                try (simp only [↓jA1,jBw, *])
                all_goals first | exact g | trivial
        · rintro x r0 N2 env M5 ⟨A, B, kv, nr5, x3, x4, x5, hx, hd, rfl, h1, h2, hkv, hkl, uf5, l5, hT5, he5⟩ next2
          cases B with
          | nil => cases hd
          | cons z B =>
            injection hd with hd1 hd2
            subst hd1 hd2
            obtain ⟨dx5, hp5⟩ := hT5.1
            have ha5 := hT5.2.1
            have hn5 := hT5.2.2.2.1
            have ht5 := hT5.2.2.1
            have hz : z < K.length := good.1.lt z (by rw [hx]; exact List.mem_append_right _ List.mem_cons_self)
            have hk : K[z]? = some K[z] := List.getElem?_eq_getElem hz
            have tz := fun y hy => good.1.topo A z B hx _ hk y hy
            have ez := hh2 z _ hk
            generalize K[z] = k at *
            have atu : atI ((tmsK K nm nr5).hd.map D.str) (z : Nat) = some (.str k.hd) := by show atI ((K.map Kd.hd).map D.str) _ = _; rw [atIn, List.getElem?_map, List.getElem?_map, hk]; rfl
            have att : atI ((tmsK K nm nr5).tl.map natsD) (z : Nat) = some (natsD k.tl) := by show atI ((K.map Kd.tl).map natsD) _ = _; rw [atIn, List.getElem?_map, List.getElem?_map, hk]; rfl
            have kl2 : kv.length < 16777216 := by
              have : A.length ≤ O.length := by rw [hx, List.length_append]; omega
              omega
            have nfr : f ≠ r := nfo.2.2.2.2
            have noff := hT5.off (w := f)
            have go : ∀ (M6 : Sto) (nr6 : List Nat) (x4 x5 : Option D), UF nr6 R ρ → nr6.length = K.length → TmsAt C M6 p a t n r (tmsK K nm nr6) → M6 o = some (.lst (O.map natI)) → ExtS [r] M M6 → N2 [some (.obj p), some (.obj o), some (.obj f), some (natI z), x4, x5] (up M6 f (.dic (putA kv (.inl (z : Nat)) ((h z).d ν)))) := fun M6 nr6 x4 x5 u6 l6 t6 o6 e6 => by
              refine next2 _ _ ⟨A ++ [z], B, putA kv (.inl (z : Nat)) ((h z).d ν), nr6, _, _, _, by rw [hx, List.append_assoc]; rfl, rfl, rfl, by rw [up_ne nof]; exact o6, up_same, fun x hx2 => ?_, by rw [List.length_append, List.length_singleton]; exact Nat.le_trans (putA_length _ _ _) (by omega), u6, l6, t6.upd nfo.1 nfo.2.1 nfo.2.2.1 nfo.2.2.2.1 nfo.2.2.2.2, e6.off f0⟩
              rw [valA_put]
              by_cases c : x = z
              · rw [c, if_pos rfl]
              · rw [if_neg (fun q => c (by injection q with q; omega))]
                rcases List.mem_append.mp hx2 with q | q
                · exact hkv x q
                · exact absurd (List.mem_singleton.mp q) c
            clear next2
            cases k with
            | l =>
              have vz := hν z hk
              have g := go M5 nr5 x4 x5 uf5 l5 hT5 h1 he5
              rw [ez] at g
              have g : N2 [some (.obj p), some (.obj o), some (.obj f), some (natI z), x4, x5] (up M5 f (.dic (putA kv (.inl (z : Nat)) (.tup [.str z_letter, ν z])))) := g
              have hh : Kd.l.hd = z_letter := rfl
              rw [hh] at atu
              have hn6 : M5 n = some (.dic nm) := hn5
              clear go hn5
              try (simp only [↓jA3,↓jAi,↓jBp,↓jA0,↓e_c,↓jA8,↓jA1,↓jAf,↓jA9,↓jA7,↓jA6,↓jAt,↓jBs,↓jB7,↓jAc,↓jB1,jBw,jAh,List.set_cons_zero,List.set_cons_succ,List.getElem?_cons_zero,List.getElem?_cons_succ,List.length_cons,List.length_nil,Nat.reduceAdd,Nat.reduceLeDiff,Nat.zero_add,true_and, *])
              refine ⟨dx5, _, .obj a, .ref a, rfl, rfl, rfl, ?_⟩
              try (simp only [↓jA1,↓jAo,↓jAs,↓jAb,if_true,decide_true, *])
              refine ⟨dx5, _, .obj n, .ref n, rfl, rfl, rfl, ?_⟩
              try (simp only [↓jA1,↓jAk,↓jB1,jBw,true_and, *])
              all_goals exact g
            | n a1 =>
              have hh : (Kd.n a1).hd = z_not := rfl
              have htl : natsD (Kd.n a1).tl = .tup [.int (a1 : Nat)] := rfl
              rw [hh] at atu
              rw [htl] at att
              have zz : (z_not = z_letter) = False := eq_false fun e => w_ln e.symm
              have v0 := hkv _ (tz a1 List.mem_cons_self)
              have k0 : a1 < K.length := kids z _ hk a1 List.mem_cons_self
              have ez : (h z).d ν = .tup [.str z_not, (h (R a1)).d ν] := by rw [ez]; rfl
              rw [ez] at go
              clear ez
              try (simp only [↓jA3,↓jAi,↓jBp,↓jA0,↓e_c,↓jA8,↓jA1,↓jAf,↓jA9,↓jA7,↓jA6,↓jAt,↓jBs,↓jB7,↓jAc,↓jB1,jBw,jAh,List.set_cons_zero,List.set_cons_succ,List.getElem?_cons_zero,List.getElem?_cons_succ,List.length_cons,List.length_nil,Nat.reduceAdd,Nat.reduceLeDiff,Nat.zero_add,true_and, *])
              refine ⟨dx5, _, .obj a, .ref a, rfl, rfl, rfl, ?_⟩
              try (simp only [↓jA1,↓jAo,↓jAs,↓jAb,Bool.false_eq_true,if_false,decide_false, *])
              refine ⟨dx5, _, .obj a, .ref a, rfl, rfl, rfl, ?_⟩
              try (simp only [↓jA1,↓jAs,↓jAb, *])
              refine ⟨dx5, _, .obj t, .ref t, rfl, rfl, rfl, ?_⟩
              try (simp only [↓jA0,↓jA8,↓jA1,↓jBu,↓jA9,↓jA7,↓jBm,↓jAs,↓jAk,↓jAb,↓jB1,List.set_cons_zero,List.set_cons_succ,List.getElem?_cons_zero,List.getElem?_cons_succ,List.length_cons,List.length_nil,jC2,jCh,List.nil_append,Nat.reduceLeDiff,Nat.zero_add,if_true,true_and, *])
              refine ⟨⟨dx5, _, rfl, rfl⟩, rfl, p, a, t, n, r, tmsK K nm nr5, a1, R, ρ, rfl, hT5, nnr, by show a1 < nr5.length; omega, by show nr5.length ≤ _; omega, uf5, fun nr6 M6 uf6 l6a hT6 e6 => ?_⟩
              have l6 : nr6.length = K.length := l6a.trans l5
              have hT6 : TmsAt C M6 p a t n r (tmsK K nm nr6) := hT6
              obtain ⟨dx6, hp6⟩ := hT6.1
              have f6 := e6 f _ (by simp [nfr]) h2
              have o6 := e6 o _ (by simp [nor]) h1
              have he6 := he5.trans e6
              clear l6a
              try (simp only [↓jA1,jBw, *])
              intro q nq
              have nqf : f ≠ q := fresh_ne nq f6
              have nqo : o ≠ q := fresh_ne nq o6
              have g := fun mo => go (up M6 q mo) nr6 x4 x5 uf6 l6 (hT6.ext (Ext.new nq)) (by rw [up_ne nqo]; exact o6) (he6.trans (Ext.new nq).s)
              clear go
              try (simp only [↓jCu,↓jC9,↓jAb,jAq,jAh,List.length_cons,List.length_nil,List.nil_append,List.cons_append,Nat.reduceAdd,Nat.reduceLeDiff,Nat.zero_add,if_true,if_false,and_self, *])
            | i a1 a2 =>
              have hh : (Kd.i a1 a2).hd = z_if := rfl
              have htl : natsD (Kd.i a1 a2).tl = .tup [.int (a1 : Nat), .int (a2 : Nat)] := rfl
              rw [hh] at atu
              rw [htl] at att
              have zz : (z_if = z_letter) = False := eq_false fun e => w_li e.symm
              have v0 := hkv _ (tz a1 List.mem_cons_self)
              have k0 : a1 < K.length := kids z _ hk a1 List.mem_cons_self
              have v1 := hkv _ (tz a2 (List.mem_cons_of_mem _ List.mem_cons_self))
              have k1 : a2 < K.length := kids z _ hk a2 (List.mem_cons_of_mem _ List.mem_cons_self)
              have ez : (h z).d ν = .tup [.str z_if, (h (R a1)).d ν, (h (R a2)).d ν] := by rw [ez]; rfl
              rw [ez] at go
              clear ez
              try (simp only [↓jA3,↓jAi,↓jBp,↓jA0,↓e_c,↓jA8,↓jA1,↓jAf,↓jA9,↓jA7,↓jA6,↓jAt,↓jBs,↓jB7,↓jAc,↓jB1,jBw,jAh,List.set_cons_zero,List.set_cons_succ,List.getElem?_cons_zero,List.getElem?_cons_succ,List.length_cons,List.length_nil,Nat.reduceAdd,Nat.reduceLeDiff,Nat.zero_add,true_and, *])
              refine ⟨dx5, _, .obj a, .ref a, rfl, rfl, rfl, ?_⟩
              try (simp only [↓jA1,↓jAo,↓jAs,↓jAb,Bool.false_eq_true,if_false,decide_false, *])
              refine ⟨dx5, _, .obj a, .ref a, rfl, rfl, rfl, ?_⟩
              try (simp only [↓jA1,↓jAs,↓jAb, *])
              refine ⟨dx5, _, .obj t, .ref t, rfl, rfl, rfl, ?_⟩
              try (simp only [↓jA0,↓jA8,↓jA1,↓jBu,↓jA9,↓jA7,↓jBm,↓jAs,↓jAk,↓jAb,↓jB1,List.set_cons_zero,List.set_cons_succ,List.getElem?_cons_zero,List.getElem?_cons_succ,List.length_cons,List.length_nil,jC2,jCh,List.nil_append,List.cons_append,Nat.reduceAdd,Nat.reduceLeDiff,Nat.zero_add,if_true,true_and, *])
              refine ⟨⟨dx5, _, rfl, rfl⟩, rfl, p, a, t, n, r, tmsK K nm nr5, a1, R, ρ, rfl, hT5, nnr, by show a1 < nr5.length; omega, by show nr5.length ≤ _; omega, uf5, fun nr6 M6 uf6 l6a hT6 e6 => ?_⟩
              have l6 : nr6.length = K.length := l6a.trans l5
              have hT6 : TmsAt C M6 p a t n r (tmsK K nm nr6) := hT6
              obtain ⟨dx6, hp6⟩ := hT6.1
              have f6 := e6 f _ (by simp [nfr]) h2
              have o6 := e6 o _ (by simp [nor]) h1
              have he6 := he5.trans e6
              clear l6a
              try (simp only [↓jA1,jBw, *])
              refine ⟨⟨dx6, _, rfl, rfl⟩, rfl, p, a, t, n, r, tmsK K nm nr6, a2, R, ρ, rfl, hT6, nnr, by show a2 < nr6.length; omega, by show nr6.length ≤ _; omega, uf6, fun nr7 M7 uf7 l7a hT7 e7 => ?_⟩
              have l7 : nr7.length = K.length := l7a.trans l6
              have hT7 : TmsAt C M7 p a t n r (tmsK K nm nr7) := hT7
              obtain ⟨dx7, hp7⟩ := hT7.1
              have f7 := e7 f _ (by simp [nfr]) f6
              have o7 := e7 o _ (by simp [nor]) o6
              have he7 := he6.trans e7
              clear l7a
              try (simp only [↓jA1,jBw, *])
              intro q nq
              have nqf : f ≠ q := fresh_ne nq f7
              have nqo : o ≠ q := fresh_ne nq o7
              have g := fun mo => go (up M7 q mo) nr7 x4 x5 uf7 l7 (hT7.ext (Ext.new nq)) (by rw [up_ne nqo]; exact o7) (he7.trans (Ext.new nq).s)
              clear go
              try (simp only [↓jCu,↓jC9,↓jAb,jAq,jAh,List.length_cons,List.length_nil,List.nil_append,List.cons_append,Nat.reduceAdd,Nat.reduceLeDiff,Nat.zero_add,if_true,if_false,and_self, *])
  · rintro y r0 acc M' N ⟨done, rest, hx, hd, rfl, rfl⟩ next
    cases rest with
    | nil => cases hd
    | cons k rest =>
      injection hd with hd1 hd2
      subst hd1 hd2
      have g := next (done.map (fun k => D.int (k.tl.length : Nat)) ++ [.int (k.tl.length : Nat)]) M' ⟨done ++ [k], rest, by rw [hx, List.append_assoc]; rfl, rfl, by rw [List.map_append]; rfl, rfl⟩
      clear next
      have kn : natsD k.tl = .tup (k.tl.map natI) := rfl
      try (simp only [↓jA0,↓jA1,↓jBu,↓jA9,↓jA7,↓jAt,↓jBr,List.set_cons_zero,List.set_cons_succ,List.getElem?_cons_zero,List.getElem?_cons_succ,List.length_map,if_true, *])

def tauY (ys : List Str) (s : Str) : Nat := ys.idxOf s
def Kd.wt : Kd → Nat
  | .l => 0
  | .n _ => 1
  | .i _ _ => 2
def wS (K : List Kd) : Nat := (K.map Kd.wt).sum
structure Two (ys : List Str) (f g : Fm) (K : List Kd) (x y : Nat) : Prop where
  len : ys.length ≤ K.length ∧ K.length ≤ ys.length + f.sz + g.sz
  kids : Kids K
  xl : x < K.length
  yl : y < K.length
  let_ : ∀ z : Nat, K[z]? = some .l → z < ys.length
  of : ∀ z : Nat, z < ys.length → K[z]? = some .l
  val : ∀ (φ : Nat → Fm) (σ : Str → Fm), Str3 K φ → (∀ s ∈ ys, φ (tauY ys s) = σ s) → φ x = f.sub σ ∧ φ y = g.sub σ
  ex : ∀ σ : Str → Fm, ∃ φ, Str3 K φ ∧ ∀ z, z < ys.length → φ z = σ (ys.getD z z_letter)
  ws : wS K + 2 = f.sz + g.sz
  two : f.sz = 1 ∨ g.sz = 1 ∨ (x ≠ y ∧ (∃ k, K[x]? = some k ∧ 1 ≤ k.wt) ∧ ∃ k, K[y]? = some k ∧ 1 ≤ k.wt)
theorem CG.start (K : List Kd) : CG K (fun x => x) [] := fun x k k' h1 h2 => by
  have h2 : K[x]? = some k' := h2
  rw [h1] at h2
  cases h2
  exact ⟨fun h => h, fun _ => ⟨rfl, fun f _ j a b h1 h2 => by rw [h1] at h2; cases h2; rfl⟩⟩
structure Mgu (f g : Fm) (ys : List Str) (σ : Str → Fm) : Prop where
  uni : f.sub σ = g.sub σ
  most : ∀ θ : Str → Fm, f.sub θ = g.sub θ → ∀ s, θ s = (σ s).sub θ
  off : ∀ s, s ∉ ys → σ s = .lt s
  lets : ∀ s ∈ ys, (σ s).All (· ∈ ys)
theorem Mgu.idem {f g : Fm} {ys : List Str} {σ : Str → Fm} (m : Mgu f g ys σ) (s : Str) : (σ s).sub σ = σ s := (m.most σ m.uni s).symm
/- slots of unify: 0 formula, 1 other, 2 terms, 3 table, 4 found, 5 name, 6 x -/
theorem lets_all {P : Str → Prop} : ∀ {f : Fm}, f.All P → ∀ s ∈ f.lets, P s
  | .lt s, h, t, m => by rw [List.mem_singleton.mp m]; exact h
  | .ng p, h, t, m => lets_all (f := p) h t m
  | .im p q, h, t, m => (List.mem_append.mp m).elim (lets_all (f := p) h.1 t) (lets_all (f := q) h.2 t)
theorem UF.range (m : Nat) : UF (List.range m) (fun x => x) fun _ => 0 := by
  have g : ∀ x y : Nat, (List.range m)[x]? = some y → y = x ∧ x < m := fun x y h => by
    have l := (List.getElem?_eq_some_iff.mp h).1
    rw [List.length_range] at l
    rw [List.getElem?_range l] at h
    cases h
    exact ⟨rfl, l⟩
  refine ⟨fun x y h => ?_, fun x h => h, fun x y h => (g x y h).1, fun x h => rfl, fun x y h ne => absurd (g x y h).1 ne, fun x h => ?_, fun x h => rfl⟩
  · rw [List.length_range]
    obtain ⟨rfl, l⟩ := g x y h
    exact l
  · rw [List.length_range] at h
    exact List.getElem?_range h
/- slots of steps_of: 0 proof, 1 steps, 2 _, 3 why -/
def a_steps_of  : ATS :=
    (aSeq (aAsg (aLst aNil) (agName 1))
    (aSeq (aFor (aITup (aVar 0)) (agTup 2 (agCons (agName 2) (agCons (agName 3) agNil))) (aIf (aTest (aOp (ρEq false) (aOp ρIx (aVar 3) (aC (.int 0))) (aC (.str z_detach)))) (aExpr (aLm ρAppend (aVar 1) (aCons (aTup (aCons (aC (.str z_detach)) (aCons (aOp ρIx (aVar 1) (aOp ρIx (aVar 3) (aC (.int 1)))) (aCons (aOp ρIx (aVar 1) (aOp ρIx (aVar 3) (aC (.int 2)))) aNil)))) aNil))) (aExpr (aLm ρAppend (aVar 1) (aCons (aVar 3) aNil)))))
    (aRet (aOp ρIx (aVar 1) (aNeg (aC (.int 1)))))))
/- slots of reasons_of: 0 steps, 1 backwards, 2 waiting, 3 step, 4 reasons, 5 ready, 6 second -/
def a_reasons_of  : ATS :=
    (aSeq (aAsg (aLst aNil) (agName 1))
    (aSeq (aAsg (aLst (aCons (aVar 0) aNil)) (agName 2))
    (aSeq (aWhile (aTruth (aVar 2)) (aSeq (aAsg (aPop (aVar 2)) (agName 3))
    (aSeq (aExpr (aLm ρAppend (aVar 1) (aCons (aVar 3) aNil)))
    (aIf (aTest (aOp (ρEq false) (aOp ρIx (aVar 3) (aC (.int 0))) (aC (.str z_detach)))) (aExpr (aLm ρExtT (aVar 2) (aCons (aSl (aVar 3) (aOSome (aC (.int 1))) aONone) aNil))) aNext))))
    (aSeq (aAsg (aLst aNil) (agName 4))
    (aSeq (aAsg (aLst aNil) (agName 5))
    (aSeq (aFor (aIRevL (aVar 1)) (agName 3) (aSeq (aIf (aTest (aOp (ρEq false) (aOp ρIx (aVar 3) (aC (.int 0))) (aC (.str z_detach)))) (aSeq (aAsg (aPop (aVar 5)) (agName 6))
    (aExpr (aLm ρAppend (aVar 4) (aCons (aTup (aCons (aC (.str z_detach)) (aCons (aPop (aVar 5)) (aCons (aVar 6) aNil)))) aNil)))) (aExpr (aLm ρAppend (aVar 4) (aCons (aVar 3) aNil))))
    (aExpr (aLm ρAppend (aVar 5) (aCons (aOp ρSub (aCB ρLen (aCons (aVar 4) aNil)) (aC (.int 1))) aNil)))))
    (aRet (aVar 4))))))))

inductive Stp where
  | ax (f : Fm) (k : Int)
  | dt (f : Fm) (p q : Stp)
def Stp.d : Stp → D
  | .ax _ k => .tup [.str z_axiom, .int k]
  | .dt _ p q => .tup [.str z_detach, p.d, q.d]
def Stp.f : Stp → Fm
  | .ax f _ => f
  | .dt f _ _ => f
def Stp.len : Stp → Nat
  | .ax _ _ => 1
  | .dt _ p q => p.len + q.len + 1
def Stp.Ok (ks : List Int) : Stp → Prop
  | .ax f k => k ∈ ks ∧ InstOf k f
  | .dt f p q => p.f = .im q.f f ∧ p.Ok ks ∧ q.Ok ks
def Stp.dp : Stp → Nat
  | .ax _ _ => 1
  | .dt _ p q => max p.dp q.dp + 1
theorem Stp.len_pos : ∀ t : Stp, 1 ≤ t.len
  | .ax _ _ => Nat.le_refl _
  | .dt _ p q => by show 1 ≤ p.len + q.len + 1; omega
inductive TrOf (ls : List Ln) : Nat → Stp → Prop
  | ax {k : Nat} {f : Fm} {m : Int} (h : ls[k]? = some (f, .ax m)) : TrOf ls k (.ax f m)
  | dt {k : Nat} {f : Fm} {i j : Nat} {p q : Stp} (h : ls[k]? = some (f, .dt (i : Nat) (j : Nat))) (hi : i < k) (hj : j < k) (a : TrOf ls i p) (b : TrOf ls j q) : TrOf ls k (.dt f p q)
theorem TrOf.one {ls : List Ln} {k : Nat} {t : Stp} (h : TrOf ls k t) : ∀ {t' : Stp}, TrOf ls k t' → t = t' := by
  induction h with
  | ax h =>
    intro t' h'
    cases h' with
    | ax g => rw [h] at g; cases g; rfl
    | dt g _ _ _ _ => rw [h] at g; cases g
  | @dt k f i j p q h hi hj a b ia ib =>
    intro t' h'
    cases h' with
    | ax g => rw [h] at g; cases g
    | @dt _ f' i' j' p' q' g _ _ a' b' =>
      rw [h] at g
      injection g with g
      injection g with g1 g2
      injection g2 with g2 g3
      have e1 : i = i' := by omega
      have e2 : j = j' := by omega
      subst g1 e1 e2
      rw [ia a', ib b']
theorem TrOf.fm {ls : List Ln} {k : Nat} {t : Stp} (h : TrOf ls k t) : ∃ w, ls[k]? = some (t.f, w) := by
  cases h with
  | ax h => exact ⟨_, h⟩
  | dt h _ _ _ _ => exact ⟨_, h⟩
theorem TrOf.ok {ks : List Int} {ls : List Ln} (ar : AllRight ks ls) {k : Nat} {t : Stp} (h : TrOf ls k t) : t.Ok ks := by
  induction h with
  | ax h => exact ar _ _ h
  | @dt k f i j p q h hi hj a b ia ib =>
    obtain ⟨i', j', c, w, u, h1, h2, h3, h4, h5, h6⟩ : RightLn ks ls k (f, .dt i j) := ar _ _ h
    have e1 : i' = i := by omega
    have e2 : j' = j := by omega
    subst e1 e2
    obtain ⟨w1, g1⟩ := a.fm
    obtain ⟨w2, g2⟩ := b.fm
    rw [g1] at h5
    rw [g2] at h6
    injection h5 with h5
    injection h5 with h5 _
    injection h6 with h6
    injection h6 with h6 _
    exact ⟨by rw [h5, h6], ia, ib⟩
theorem TrOf.len {ls : List Ln} {k : Nat} {t : Stp} (h : TrOf ls k t) : t.len + 1 ≤ 2 ^ (k + 1) := by
  induction h with
  | ax h =>
    show 2 ≤ _
    have := Nat.one_le_two_pow (n := by assumption)
    rw [Nat.pow_succ]
    omega
  | @dt k f i j p q h hi hj a b ia ib =>
    have l1 : 2 ^ (i + 1) ≤ 2 ^ k := Nat.pow_le_pow_right (by omega) (by omega)
    have l2 : 2 ^ (j + 1) ≤ 2 ^ k := Nat.pow_le_pow_right (by omega) (by omega)
    show p.len + q.len + 1 + 1 ≤ _
    rw [Nat.pow_succ]
    omega
theorem TrOf.dp {ls : List Ln} {k : Nat} {t : Stp} (h : TrOf ls k t) : t.dp ≤ k + 1 := by
  induction h with
  | ax h => show 1 ≤ _; omega
  | @dt k f i j p q h hi hj a b ia ib =>
    show max p.dp q.dp + 1 ≤ _
    omega
def A_steps_of : ASp := fun ds M Q _ => ∃ (ks : List Int) (ls : List Ln), ds = [.tup (ls.map lnD)] ∧ AllRight ks ls ∧ (∀ l ∈ ls, l.2 ≠ .hy) ∧ ls ≠ [] ∧ ls.length ≤ 1000 ∧ ∀ t M', TrOf ls (ls.length - 1) t → Ext M M' → Q t.d M'
theorem at_stp {ts : List Stp} {i : Nat} {t : Stp} (h : ts[i]? = some t) : atI (ts.map Stp.d) (i : Int) = some t.d := by rw [atIn, List.getElem?_map, h]; rfl
theorem at_lastS {α β : Type} {f : α → β} {zs : List α} {z : α} (h : zs[zs.length - 1]? = some z) : atI (zs.map f) (-1) = some (f z) := by
  have hk := (List.getElem?_eq_some_iff.mp h).1
  unfold atI ixN
  rw [List.length_map, if_neg (by omega), if_pos (by omega)]
  show (zs.map f)[_]? = _
  rw [List.getElem?_map]
  have e : (-1 + (zs.length : Int)).toNat = zs.length - 1 := by omega
  rw [e, h]
  rfl
theorem p_steps_of (ds : List D) (M : Sto) (Q : D → Sto → Prop) (Xa) (hl : ds.length = 1) (h : A_steps_of ds M Q Xa) : a_steps_of ax0 (Done Q) (startA ["proof", "steps", "_", "why"] ds) M := by
  obtain ⟨ks, ls, rfl, ar, nh, hne, hlen, q⟩ := h
  unfold a_steps_of
  try (simp only [↓jAe,↓jAp,↓jAi,↓jA0,↓jA1,↓jA9,↓jA4,↓jAg,↓jB7,jAh,List.set_cons_zero,List.set_cons_succ,List.getElem?_cons_zero,List.length_cons,List.length_nil,List.nil_append,List.cons_append,startA,List.map_cons,List.map_nil,List.replicate_succ,List.replicate_zero,Nat.reduceAdd,Nat.reduceSub,Nat.reduceLeDiff,Nat.zero_add,true_and, *])
  intro p hp
  skip
  refine for_run (fun ds env M' => ∃ (k : Nat) (x2 x3 : Option D) (ts : List Stp), ds = (ls.drop k).map lnD ∧ k ≤ ls.length ∧ env = [some (.tup (ls.map lnD)), some (.obj p), x2, x3] ∧ M' p = some (.lst (ts.map Stp.d)) ∧ ExtB p M M' ∧ ts.length = k ∧ ∀ (i : Nat) t, ts[i]? = some t → TrOf ls i t) (fun _ _ _ _ => trivial) ?_ ?_ ⟨0, none, none, [], rfl, Nat.zero_le _, rfl, up_same, ExtB.upd, rfl, fun i t h => by simp at h⟩
  · rintro env M' ⟨k, x2, x3, ts, hr, hk, rfl, h1, he, hln, htr⟩
    have z := List.drop_eq_nil_iff.mp (List.map_eq_nil_iff.mp hr.symm)
    have hk2 : ts.length = ls.length := by omega
    have pos : 0 < ls.length := List.length_pos_iff.mpr hne
    obtain ⟨t, ht⟩ : ∃ t, ts[ls.length - 1]? = some t := ⟨_, List.getElem?_eq_getElem (by omega)⟩
    have hq := q t M' (htr _ _ ht) (he.ext hp)
    have hat : atI (ts.map Stp.d) (-1) = some t.d := at_lastS (by rw [hk2]; exact ht)
    clear hr q
    try (simp only [↓jAd,↓jA0,↓e_c,↓jA8,↓jA1,↓jCf,↓jAs,↓jAb,List.getElem?_cons_zero,List.getElem?_cons_succ,Int.reduceNeg, *])
    try exact hq
  · rintro d r N env M' ⟨k, x2, x3, ts, hr, hk, rfl, h1, he, hln, htr⟩ next
    have hlt : k < ls.length := by
      rcases Nat.lt_or_ge k ls.length with h | h
      · exact h
      · rw [List.drop_eq_nil_of_le h] at hr; cases hr
    rw [List.drop_eq_getElem_cons hlt] at hr
    rw [List.map_cons] at hr
    injection hr with hr1 hr2
    subst hr1 hr2
    obtain ⟨⟨f, w⟩, hf⟩ : ∃ l, ls[k]? = some l := ⟨_, List.getElem?_eq_getElem hlt⟩
    have hg : ls[k] = (f, w) := by rw [List.getElem?_eq_getElem hlt] at hf; exact Option.some.inj hf
    have hm : (f, w) ∈ ls := by rw [← hg]; exact List.getElem_mem hlt
    rw [hg]
    have hd : lnD (f, w) = .tup [f.d, w.d] := rfl
    have go : ∀ t M2 x2 x3, TrOf ls k t → M2 p = some (.lst (ts.map Stp.d ++ [t.d])) → ExtB p M' M2 → N [some (.tup (ls.map lnD)), some (.obj p), x2, x3] M2 := fun t M2 x2 x3 ht h2 e2 => next _ _ ⟨k + 1, _, _, ts ++ [t], rfl, hlt, rfl, by rw [h2, List.map_append]; rfl, he.trans e2, by rw [List.length_append, List.length_singleton]; omega, fun i u hu => by
      by_cases c : i < ts.length
      · rw [List.getElem?_append_left c] at hu
        exact htr i u hu
      · rw [List.getElem?_append_right (by omega)] at hu
        have l := (List.getElem?_eq_some_iff.mp hu).1
        rw [List.length_singleton] at l
        have e : i - ts.length = 0 := by omega
        rw [e] at hu
        cases hu
        have e3 : i = k := by omega
        rw [e3]
        exact ht⟩
    have zz1 := zad
    cases w with
    | ax n =>
      have hw : (Wy.ax n).d = .tup [.str z_axiom, .int n] := rfl
      have g := fun M2 x2 x3 => go (.ax f n) M2 x2 x3 (.ax hf)
      have e : (Stp.ax f n).d = .tup [.str z_axiom, .int n] := rfl
      rw [e] at g
      clear go next
      try (simp only [↓jAy,↓jA3,↓jAi,↓jBj,↓jBl,↓jBq,↓jA0,↓e_c,↓jA8,↓jA1,↓jAf,↓jA9,↓jA7,↓jA6,↓jAx,↓jAw,↓jAo,↓jAj,↓jAs,↓jAb,jAq,jAm,jAr,jAh,List.set_cons_zero,List.set_cons_succ,List.getElem?_cons_zero,List.getElem?_cons_succ,List.length_cons,List.length_nil,List.length_map,Nat.reduceAdd,Nat.reduceLeDiff,Nat.zero_add,Bool.false_eq_true,if_true,if_false,decide_false,true_and, *])
      exact ⟨by omega, g _ _ _ up_same ExtB.upd⟩
    | hy => exact absurd rfl (nh _ hm)
    | dt i j =>
      have hw : (Wy.dt i j).d = .tup [.str z_detach, .int i, .int j] := rfl
      obtain ⟨i', j', c, w, u, b1, b2, b3, b4, b5, b6⟩ : RightLn ks ls k (f, .dt i j) := ar _ _ hf
      subst b1 b2
      obtain ⟨s, hs⟩ : ∃ t, ts[i']? = some t := ⟨_, List.getElem?_eq_getElem (by omega)⟩
      obtain ⟨t, ht⟩ : ∃ t, ts[j']? = some t := ⟨_, List.getElem?_eq_getElem (by omega)⟩
      have a1 := at_stp hs
      have a2 := at_stp ht
      have g := fun M2 x2 x3 => go (.dt f s t) M2 x2 x3 (.dt hf b3 b4 (htr _ _ hs) (htr _ _ ht))
      have e : (Stp.dt f s t).d = .tup [.str z_detach, s.d, t.d] := rfl
      rw [e] at g
      clear go next b5 b6
      try (simp only [↓jAy,↓jA3,↓jAi,↓jBj,↓jBl,↓jBq,↓jA0,↓e_c,↓jA8,↓jA1,↓jAf,↓jA9,↓jA7,↓jA6,↓jAx,↓jAw,↓jAo,↓jAj,↓jAs,↓jAb,jAq,jAm,jAr,jBf,jAh,List.set_cons_zero,List.set_cons_succ,List.getElem?_cons_zero,List.getElem?_cons_succ,List.length_cons,List.length_nil,List.length_map,Nat.reduceAdd,Nat.reduceLeDiff,Nat.zero_add,if_true,decide_true,true_and, *])
      exact ⟨by omega, g _ _ _ up_same ExtB.upd⟩
def Stp.bw : Stp → List Stp
  | .ax f k => [.ax f k]
  | .dt f p q => .dt f p q :: (q.bw ++ p.bw)
def Stp.po : Stp → List Stp
  | .ax f k => [.ax f k]
  | .dt f p q => p.po ++ (q.po ++ [.dt f p q])
theorem Stp.rev : ∀ t : Stp, t.bw.reverse = t.po
  | .ax _ _ => rfl
  | .dt f p q => by
    show (Stp.dt f p q :: (q.bw ++ p.bw)).reverse = p.po ++ (q.po ++ [.dt f p q])
    rw [List.reverse_cons, List.reverse_append, Stp.rev p, Stp.rev q, List.append_assoc]
theorem Stp.bw_len : ∀ t : Stp, t.bw.length = t.len
  | .ax _ _ => rfl
  | .dt f p q => by
    show (Stp.dt f p q :: (q.bw ++ p.bw)).length = p.len + q.len + 1
    rw [List.length_cons, List.length_append, Stp.bw_len p, Stp.bw_len q]
    omega
theorem Stp.po_ok {ks : List Int} : ∀ {t : Stp}, t.Ok ks → ∀ s ∈ t.po, s.Ok ks
  | .ax f k, h, s, m => by rw [List.mem_singleton.mp m]; exact h
  | .dt f p q, h, s, m => by
    rcases List.mem_append.mp m with m | m
    · exact Stp.po_ok h.2.1 s m
    · rcases List.mem_append.mp m with m | m
      · exact Stp.po_ok h.2.2 s m
      · rw [List.mem_singleton.mp m]; exact h
def Ex : List Stp → List Stp → Stp → Prop
  | S, [], t => S = [t]
  | S, .ax f k :: r, t => Ex (.ax f k :: S) r t
  | S, .dt f p q :: r, t => ∃ S', S = q :: p :: S' ∧ Ex (.dt f p q :: S') r t
theorem Ex.po : ∀ (u : Stp) {S r : List Stp} {t : Stp}, Ex (u :: S) r t → Ex S (u.po ++ r) t
  | .ax f k, S, r, t, h => h
  | .dt f p q, S, r, t, h => by
    show Ex S (p.po ++ (q.po ++ [.dt f p q]) ++ r) t
    rw [List.append_assoc, List.append_assoc]
    exact Ex.po p (Ex.po q ⟨S, rfl, h⟩)
theorem Ex.start (t : Stp) : Ex [] t.po t := by
  have z := Ex.po t (S := []) (r := []) (t := t) rfl
  rw [List.append_nil] at z
  exact z
def Rdy (rs : List Ln) : List Stp → List Nat → Prop
  | [], [] => True
  | t :: S, y :: ys => (∃ w, rs[y]? = some (t.f, w)) ∧ Rdy rs S ys
  | _, _ => False
theorem Rdy.app {rs r : List Ln} : ∀ {S : List Stp} {ys : List Nat}, Rdy rs S ys → Rdy (rs ++ r) S ys
  | [], [], _ => trivial
  | t :: S, y :: ys, ⟨⟨w, h⟩, g⟩ => ⟨⟨w, by rw [List.getElem?_append_left (List.getElem?_eq_some_iff.mp h).1]; exact h⟩, Rdy.app g⟩
  | [], _ :: _, h => h.elim
  | _ :: _, [], h => h.elim
theorem Rdy.len {rs : List Ln} : ∀ {S : List Stp} {ys : List Nat}, Rdy rs S ys → S.length = ys.length
  | [], [], _ => rfl
  | t :: S, y :: ys, ⟨_, g⟩ => by rw [List.length_cons, List.length_cons, Rdy.len g]
  | [], _ :: _, h => h.elim
  | _ :: _, [], h => h.elim
def rsD (l : Ln) : D := l.2.d
def stS (ws : List Stp) : List D := ws.reverse.map Stp.d
theorem stS_cons (g : Stp) (fs : List Stp) : stS (g :: fs) = stS fs ++ [g.d] := by unfold stS; rw [List.reverse_cons, List.map_append]; rfl
theorem stS_len (fs : List Stp) : (stS fs).length = fs.length := by unfold stS; rw [List.length_map, List.length_reverse]
theorem stS_nil : stS [] = [] := rfl
def stN (ys : List Nat) : List D := ys.reverse.map fun y : Nat => D.int (y : Int)
theorem stN_cons (y : Nat) (ys : List Nat) : stN (y :: ys) = stN ys ++ [.int (y : Int)] := by unfold stN; rw [List.reverse_cons, List.map_append]; rfl
theorem stN_len (fs : List Nat) : (stN fs).length = fs.length := by unfold stN; rw [List.length_map, List.length_reverse]
def A_reasons : ASp := fun ds M Q _ => ∃ (ks : List Int) (t : Stp), ds = [t.d] ∧ t.Ok ks ∧ t.len ≤ 1000 ∧ ∀ p (rs : List Ln) M', AllRight ks rs → (∀ l ∈ rs, l.2 ≠ .hy) → rs ≠ [] → rs.length ≤ t.len → (∃ w, rs[rs.length - 1]? = some (t.f, w)) → M p = none → Ext M M' → M' p = some (.lst (rs.map rsD)) → Q (.obj p) M'
theorem bws_cons (t : Stp) (ws : List Stp) : ((t :: ws).map Stp.bw).flatten = t.bw ++ (ws.map Stp.bw).flatten := by rw [List.map_cons, List.flatten_cons]
theorem bws_len : ∀ ws : List Stp, ws.length ≤ (ws.map Stp.bw).flatten.length
  | [] => Nat.zero_le _
  | t :: ws => by
    have := bws_len ws
    have := t.len_pos
    rw [bws_cons, List.length_append, Stp.bw_len, List.length_cons]
    omega
theorem drop1_3s {a b c : D} : List.drop 1 [a, b, c] = [b, c] := rfl
set_option maxHeartbeats 4000000 in
theorem p_reasons_of (ds : List D) (M : Sto) (Q : D → Sto → Prop) (Xa) (hl : ds.length = 1) (h : A_reasons ds M Q Xa) : a_reasons_of ax0 (Done Q) (startA ["steps", "backwards", "waiting", "step", "reasons", "ready", "second"] ds) M := by
  obtain ⟨ks, t, rfl, ok, hlen, q⟩ := h
  unfold a_reasons_of
  try (simp only [↓jAe,↓jAp,↓jAi,↓jA0,↓jA1,↓jA9,↓jA7,↓jA4,jAh,List.set_cons_zero,List.set_cons_succ,List.getElem?_cons_zero,List.length_cons,List.length_nil,List.nil_append,List.cons_append,startA,List.map_cons,List.map_nil,List.replicate_succ,List.replicate_zero,Nat.reduceAdd,Nat.reduceSub,Nat.reduceLeDiff,Nat.zero_add,true_and, *])
  intro b nb
  skip
  intro w nw
  have nwb : w ≠ b := fun z => by subst z; rw [up_same] at nw; cases nw
  have nw0 : M w = none := by rw [up_ne nwb] at nw; exact nw
  have hb0 : (up (up M b (.lst [])) w (.lst [t.d])) b = some (.lst (([] : List Stp).map Stp.d)) := by rw [up_ne nwb.symm]; exact up_same
  have hw0 : (up (up M b (.lst [])) w (.lst [t.d])) w = some (.lst (stS [t])) := up_same
  have e0 : Ext M (up (up M b (.lst [])) w (.lst [t.d])) := (Ext.new nb).trans (Ext.new nw)
  generalize up (up M b (.lst [])) w (.lst [t.d]) = M0 at *
  clear nw
  refine while_runN (fun n env M' => ∃ (bs ws : List Stp) (x3 : Option D), env = [some t.d, some (.obj b), some (.obj w), x3, none, none, none] ∧ M' b = some (.lst (bs.map Stp.d)) ∧ M' w = some (.lst (stS ws)) ∧ Ext M M' ∧ bs ++ (ws.map Stp.bw).flatten = t.bw ∧ n = (ws.map Stp.bw).flatten.length) ?_ ⟨[], [t], none, rfl, hb0, hw0, e0, by rw [bws_cons]; show t.bw ++ [] = _; rw [List.append_nil], rfl⟩
  rintro n N env M' ⟨bs, ws, x3, rfl, h1, h2, he, ho, rfl⟩ next
  have lt := congrArg List.length ho
  rw [List.length_append, Stp.bw_len] at lt
  have lw := bws_len ws
  cases ws with
  | nil =>
    rw [stS_nil] at h2
    have hbs : bs = t.bw := by rw [← ho]; show bs = bs ++ []; rw [List.append_nil]
    subst hbs
    have hrv : (t.bw.map Stp.d).reverse = t.po.map Stp.d := by rw [← List.map_reverse, Stp.rev]
    clear next ho hb0 hw0
    try (simp only [↓jAe,↓jAl,↓jAy,↓jA3,↓jAp,↓jAi,↓jA0,↓e_c,↓jA8,↓jA1,↓jAf,↓jAv,↓jBa,↓jA9,↓jA7,↓jA4,↓jFk,↓jB3,↓jB9,↓jB8,↓jAx,↓jAw,↓jAz,↓jAg,↓jBi,jFc,↓jAb,jAq,jAh,List.set_cons_zero,List.set_cons_succ,List.getElem?_cons_zero,List.getElem?_cons_succ,List.length_nil,List.isEmpty_nil,Nat.reduceLeDiff,Bool.not_true,Bool.false_eq_true,if_false,true_and, *])
    intro r nr
    have nrb := fresh_ne nr h1
    have hb1 : up M' r (.lst []) b = some (.lst (t.bw.map Stp.d)) := by rw [up_ne nrb]; exact h1
    have e1 := he.trans (Ext.new (mo := .lst []) nr)
    have hr1 : up M' r (.lst []) r = some (.lst []) := up_same
    have r0 : M r = none := he.none nr
    generalize up M' r (.lst []) = M1 at *
    clear h1 h2 nr
    skip
    intro y ny
    have nyb := fresh_ne ny hb1
    have nyr : y ≠ r := fun z => by rw [z, hr1] at ny; cases ny
    have hb2 : up M1 y (.lst []) b = some (.lst (t.bw.map Stp.d)) := by rw [up_ne nyb]; exact hb1
    have hr2 : up M1 y (.lst []) r = some (.lst (([] : List Ln).map rsD)) := by rw [up_ne nyr.symm]; exact hr1
    have hy2 : up M1 y (.lst []) y = some (.lst (stN [])) := up_same
    have e2 := e1.trans (Ext.new (mo := .lst []) ny)
    have y0 : M y = none := e1.none ny
    generalize up M1 y (.lst []) = M2 at *
    clear hb1 hr1 ny
    try (simp only [*])
    have pol : t.po.length = t.len := by rw [← Stp.rev, List.length_reverse, Stp.bw_len]
    refine for_run (fun ds env M' => ∃ (x3 x6 : Option D) (S items : List Stp) (rs : List Ln) (ys : List Nat), ds = items.map Stp.d ∧ Ex S items t ∧ (∀ s ∈ items, s.Ok ks) ∧ env = [some t.d, some (.obj b), some (.obj w), x3, some (.obj r), some (.obj y), x6] ∧ M' b = some (.lst (t.bw.map Stp.d)) ∧ M' r = some (.lst (rs.map rsD)) ∧ M' y = some (.lst (stN ys)) ∧ Ext M M' ∧ Rdy rs S ys ∧ AllRight ks rs ∧ (∀ l ∈ rs, l.2 ≠ .hy) ∧ rs.length + items.length = t.len ∧ S.length ≤ rs.length ∧ (∀ z zs, ys = z :: zs → z + 1 = rs.length)) (fun ds env M' ⟨_, _, _, _, _, _, _, _, _, _, h, _⟩ => h) ?_ ?_ ⟨x3, none, [], t.po, [], [], rfl, Ex.start t, Stp.po_ok ok, rfl, hb2, hr2, hy2, e2, trivial, (fun k l h => by simp at h), (fun l h => nomatch h), by rw [pol]; exact Nat.zero_add _, Nat.le_refl _, fun z zs h => nomatch h⟩
    · rintro env M3 ⟨x3, x6, S, items, rs, ys, hd, hex, _, rfl, hb3, hr3, hy3, e3, rdy, ar, nh, hl3, hSl, htop⟩
      cases items with
      | cons _ _ => cases hd
      | nil =>
        clear hd
        have hS : S = [t] := hex
        subst hS
        have ly := rdy.len
        cases ys with
        | nil => cases ly
        | cons z zs =>
          obtain ⟨w1, hw⟩ := rdy.1
          have l := (List.getElem?_eq_some_iff.mp hw).1
          have ez := htop z zs rfl
          have ez2 : z = rs.length - 1 := by omega
          rw [ez2] at hw
          have g := q r rs M3 ar nh (fun e => by rw [e] at l; exact absurd l (Nat.not_lt_zero _)) (by omega) ⟨w1, hw⟩ r0 e3 hr3
          clear htop rdy hex
          try (simp only [↓jAd,↓jA0,↓jA1,List.getElem?_cons_zero,List.getElem?_cons_succ, *])
          try exact g
    · rintro d0 rr N env M3 ⟨x3, x6, S, items, rs, ys, hd, hex, oki, rfl, hb3, hr3, hy3, e3, rdy, ar, nh, hl3, hSl, htop⟩ next
      cases items with
      | nil => cases hd
      | cons u items =>
        rw [List.map_cons] at hd
        injection hd with hd1 hd2
        subst hd1 hd2
        rw [List.length_cons] at hl3
        have oku := oki u List.mem_cons_self
        have oki2 : ∀ s ∈ items, s.Ok ks := fun s h => oki s (List.mem_cons_of_mem _ h)
        have rl : (rs.map rsD).length = rs.length := List.length_map _
        have yl := stN_len ys
        have rdl := rdy.len
        have zz1 := zad
        have nry := nyr.symm
        cases u with
        | ax f k =>
          have hu : (Stp.ax f k).d = .tup [.str z_axiom, .int k] := rfl
          have ar2 : AllRight ks (rs ++ [(f, .ax k)]) := ar.snoc oku
          have nx : ∀ M4, M4 b = some (.lst (t.bw.map Stp.d)) → M4 r = some (.lst (rs.map rsD ++ [.tup [.str z_axiom, .int k]])) → M4 y = some (.lst (stN ys ++ [.int (rs.length : Nat)])) → Ext M M4 → N [some t.d, some (.obj b), some (.obj w), some (.tup [.str z_axiom, .int k]), some (.obj r), some (.obj y), x6] M4 := fun M4 h1 h2 h3 h4 => next _ _ ⟨_, x6, .ax f k :: S, items, rs ++ [(f, .ax k)], rs.length :: ys, rfl, hex, oki2, rfl, h1, by rw [h2, List.map_append]; rfl, by rw [h3, stN_cons], h4, ⟨⟨.ax k, by rw [List.getElem?_append_right (Nat.le_refl _), Nat.sub_self]; rfl⟩, rdy.app⟩, ar2, fun l h => by
            rcases List.mem_append.mp h with h | h
            · exact nh l h
            · rw [List.mem_singleton.mp h]; exact (fun z => nomatch z), by rw [List.length_append, List.length_singleton]; omega, by rw [List.length_cons, List.length_append, List.length_singleton]; omega, fun z zs e => by
            injection e with e1 e2
            rw [List.length_append, List.length_singleton, e1]⟩
          clear next hex rdy htop
          try (simp only [↓jAe,↓jAy,↓jA3,↓jAp,↓jAi,↓jA0,↓e_c,↓jA8,↓jA1,↓jAf,↓jA9,↓jA7,↓jA6,↓jAt,↓jAx,↓jAw,↓jAz,↓jBd,↓jAo,↓jAj,↓jBe,↓jAb,jAq,jAm,jAh,List.set_cons_zero,List.set_cons_succ,List.getElem?_cons_zero,List.getElem?_cons_succ,List.length_cons,List.length_nil,List.length_append,Nat.reduceAdd,Nat.reduceLeDiff,Nat.zero_add,Bool.false_eq_true,if_true,if_false,decide_false,true_and, *])
          have er : ((rs.length + 1 : Nat) : Int) - 1 = (rs.length : Nat) := by omega
          rw [er]
          exact ⟨by omega, by omega, nx _ (by rw [up_ne nyb, up_ne nrb]; exact hb3) (by rw [up_ne nry]; exact up_same) up_same (Ext.upd y0 (Ext.upd r0 e3))⟩
        | dt f p q =>
          have hu : (Stp.dt f p q).d = .tup [.str z_detach, p.d, q.d] := rfl
          obtain ⟨S', rfl, hex⟩ := hex
          cases ys with
          | nil => exact absurd rdl (by rw [List.length_cons]; exact fun z => nomatch z)
          | cons y2 ys => cases ys with
            | nil => exact absurd rdl (by rw [List.length_cons, List.length_cons]; exact fun z => nomatch (Nat.succ.inj z))
            | cons y1 ys =>
              obtain ⟨⟨w2, g2⟩, ⟨w1, g1⟩, rdy⟩ := rdy
              have l1 := (List.getElem?_eq_some_iff.mp g1).1
              have l2 := (List.getElem?_eq_some_iff.mp g2).1
              have rln : RightLn ks rs rs.length (f, .dt (y1 : Nat) (y2 : Nat)) := ⟨y1, y2, q.f, w1, w2, rfl, rfl, l1, l2, by rw [g1, oku.1], g2⟩
              have ar2 : AllRight ks (rs ++ [(f, .dt (y1 : Nat) (y2 : Nat))]) := ar.snoc rln
              rw [List.length_cons, List.length_cons] at hSl
              obtain ⟨A, hA⟩ : ∃ A, A = stN (y1 :: ys) := ⟨_, rfl⟩
              rw [stN_cons, ← hA] at hy3
              have gA : A.getLast? = some (.int (y1 : Nat)) := by rw [hA, stN_cons, List.getLast?_concat]
              have dA : A.dropLast = stN ys := by rw [hA, stN_cons, List.dropLast_concat]
              clear hA
              have nx : ∀ x6 M4, M4 b = some (.lst (t.bw.map Stp.d)) → M4 r = some (.lst (rs.map rsD ++ [.tup [.str z_detach, .int (y1 : Nat), .int (y2 : Nat)]])) → M4 y = some (.lst (stN ys ++ [.int (rs.length : Nat)])) → Ext M M4 → N [some t.d, some (.obj b), some (.obj w), some (.tup [.str z_detach, p.d, q.d]), some (.obj r), some (.obj y), x6] M4 := fun x6 M4 h1 h2 h3 h4 => next _ _ ⟨_, x6, .dt f p q :: S', items, rs ++ [(f, .dt (y1 : Nat) (y2 : Nat))], rs.length :: ys, rfl, hex, oki2, rfl, h1, by rw [h2, List.map_append]; rfl, by rw [h3, stN_cons], h4, ⟨⟨.dt (y1 : Nat) (y2 : Nat), by rw [List.getElem?_append_right (Nat.le_refl _), Nat.sub_self]; rfl⟩, rdy.app⟩, ar2, fun l h => by
                rcases List.mem_append.mp h with h | h
                · exact nh l h
                · rw [List.mem_singleton.mp h]; exact (fun z => nomatch z), by rw [List.length_append, List.length_singleton]; omega, by rw [List.length_cons, List.length_append, List.length_singleton]; omega, fun z zs e => by
                injection e with e1 e2
                rw [List.length_append, List.length_singleton, e1]⟩
              have yl2 := stN_len ys
              rw [List.length_cons, List.length_cons, List.length_cons, List.length_cons] at rdl
              clear next hex rdy htop g1 g2 ar2 rln
              try (simp only [↓jAe,↓jAy,↓jA3,↓jAp,↓jAi,↓jA0,↓e_c,↓jA8,↓jA1,↓jAf,↓jA9,↓jA7,↓jA6,↓jAt,↓jAx,↓jAw,↓jAz,↓jBd,↓jAo,↓jAj,↓jBe,↓jAb,jAq,jAm,jAh,List.set_cons_zero,List.set_cons_succ,List.getElem?_cons_zero,List.getElem?_cons_succ,List.length_cons,List.length_nil,List.length_append,List.getLast?_concat,List.dropLast_concat,List.nil_append,List.cons_append,List.append_assoc,Nat.reduceAdd,Nat.reduceLeDiff,Nat.zero_add,if_true,if_false,decide_true,true_and, *])
              have er : ((rs.length + 1 : Nat) : Int) - 1 = (rs.length : Nat) := by omega
              rw [er]
              refine ⟨by omega, by omega, nx _ _ (by rw [up_ne nyb, up_ne nrb, up_ne nyb, up_ne nyb]; exact hb3) (by rw [up_ne nry]; exact up_same) up_same (Ext.upd y0 (Ext.upd r0 (Ext.upd y0 (Ext.upd y0 e3))))⟩
  | cons g ws =>
    rw [stS_cons] at h2
    rw [bws_cons] at ho next lw lt
    have hst := stS_len ws
    have lw2 := bws_len ws
    rw [List.length_append, Stp.bw_len] at lt next
    have gl := g.len_pos
    cases g with
    | ax f k =>
      have hg : (Stp.ax f k).d = .tup [.str z_axiom, .int k] := rfl
      have zz1 := zad
      have nx : ∀ x3, N [some t.d, some (.obj b), some (.obj w), x3, none, none, none] (up (up M' w (.lst (stS ws))) b (.lst (bs.map Stp.d ++ [.tup [.str z_axiom, .int k]]))) := fun x3 => next _ _ _ (by omega) ⟨bs ++ [.ax f k], ws, x3, rfl, by rw [up_same, List.map_append]; rfl, by rw [up_ne nwb]; exact up_same, Ext.upd nb (Ext.upd nw0 he), by rw [List.append_assoc]; exact ho, rfl⟩
      have nbw := nwb.symm
      clear next ho hb0 hw0
      try (simp only [↓jAe,↓jAl,↓jAy,↓jA3,↓jAp,↓jAi,↓jA0,↓e_c,↓jA8,↓jA1,↓jAf,↓jAv,↓jBa,↓jA9,↓jA7,↓jA4,↓jFk,↓jB3,↓jB9,↓jB8,↓jAx,↓jAw,↓jAz,↓jAg,↓jBi,jFc,↓jAo,↓jAj,↓jAb,jAq,jAm,jAh,List.set_cons_zero,List.set_cons_succ,List.getElem?_cons_zero,List.getElem?_cons_succ,List.length_nil,List.length_map,List.getLast?_concat,List.dropLast_concat,jBg,Nat.reduceLeDiff,Bool.not_false,Bool.false_eq_true,if_true,if_false,decide_false,true_and,and_true, *])
      first | omega | exact ⟨by omega, nx _⟩ | exact ⟨by rw [List.length_map]; omega, nx _⟩
    | dt f p q =>
      have hg : (Stp.dt f p q).d = .tup [.str z_detach, p.d, q.d] := rfl
      have nx : ∀ x3, N [some t.d, some (.obj b), some (.obj w), x3, none, none, none] (up (up (up M' w (.lst (stS ws))) b (.lst (bs.map Stp.d ++ [.tup [.str z_detach, p.d, q.d]]))) w (.lst (stS ws ++ [p.d, q.d]))) := fun x3 => next _ _ _ (by rw [bws_cons, bws_cons, List.length_append, List.length_append, Stp.bw_len, Stp.bw_len]; show q.len + (p.len + _) < p.len + q.len + 1 + _; omega) ⟨bs ++ [.dt f p q], q :: p :: ws, x3, rfl, by rw [up_ne nwb.symm, up_same, List.map_append]; rfl, by rw [up_same, stS_cons, stS_cons, List.append_assoc]; rfl, Ext.upd nw0 (Ext.upd nb (Ext.upd nw0 he)), by rw [bws_cons, bws_cons, ← ho, List.append_assoc]; show bs ++ ([_] ++ _) = bs ++ (Stp.dt f p q :: (q.bw ++ p.bw) ++ _); rw [List.singleton_append, List.cons_append, List.append_assoc], rfl⟩
      have nbw := nwb.symm
      have d3 := @drop1_3s (.str z_detach) p.d q.d
      rw [List.length_cons] at lw
      clear next ho hb0 hw0
      try (simp only [↓jAe,↓jAl,↓jAy,↓jA3,↓jAp,↓jAi,↓jA0,↓e_c,↓jA8,↓jA1,↓jAf,↓jAv,↓jBa,↓jA9,↓jA7,↓jA4,↓jFk,↓jB3,↓jB9,↓jB8,↓jAx,↓jAw,↓jAz,↓jAg,↓jBi,jFc,↓jAo,↓jAj,↓jAb,jAq,jAm,jAh,List.set_cons_zero,List.set_cons_succ,List.getElem?_cons_zero,List.getElem?_cons_succ,List.length_cons,List.length_nil,List.length_map,List.getLast?_concat,List.dropLast_concat,jBg,Nat.reduceAdd,Nat.reduceLeDiff,Nat.zero_add,Bool.not_false,if_true,if_false,decide_true,true_and,and_true, *])
      omega

def z_nul : Str := ""
/- slots of Terms_conditional: 0 self, 1 condition, 2 consequence -/
def a_Terms_conditional (C_Terms : Addr) (A_Terms_added : ASp) : ATS :=
    (aRet (aMeth C_Terms "added" 3 A_Terms_added (aVar 0) (aCons (aC (.str z_if)) (aCons (aTup (aCons (aVar 1) (aCons (aVar 2) aNil))) aNil))))
/- slots of most_general: 0 reasons, 1 terms, 2 places, 3 line, 4 why, 5 place, 6 pattern, 7 formulas, 8 name -/
def a_most_general (C_Terms : Addr) (A_Terms___init__ : ASp) (A_Terms_letter : ASp) (A_Terms_made_same : ASp) (A_Terms_conditional : ASp) (A_axiom : ASp) (A_Terms_entered : ASp) (A_letters : ASp) (A_Terms_solved : ASp) : ATS :=
    (aSeq (aAsg (aMake C_Terms 1 A_Terms___init__ aNil) (agName 1))
    (aSeq (aAsg (aLst aNil) (agName 2))
    (aSeq (aFor (aIEnum (aCons (aVar 0) aNil)) (agTup 2 (agCons (agName 3) (agCons (agName 4) agNil))) (aSeq (aIf (aTest (aOp (ρEq false) (aOp ρIx (aVar 4) (aC (.int 0))) (aC (.str z_detach)))) (aSeq (aAsg (aMeth C_Terms "letter" 2 A_Terms_letter (aVar 1) (aCons (aTupK (aCons (aVar 3) (aCons (aC (.str z_nul)) aNil))) aNil)) (agName 5))
    (aIf (aNot (aTruth (aMeth C_Terms "made_same" 3 A_Terms_made_same (aVar 1) (aCons (aOp ρIx (aVar 2) (aOp ρIx (aVar 4) (aC (.int 1)))) (aCons (aMeth C_Terms "conditional" 3 A_Terms_conditional (aVar 1) (aCons (aOp ρIx (aVar 2) (aOp ρIx (aVar 4) (aC (.int 2)))) (aCons (aVar 5) aNil))) aNil))))) (aRet (aC .non)) aNext)) (aSeq (aAsg (aCall 1 A_axiom (aCons (aOp ρIx (aVar 4) (aC (.int 1))) aNil)) (agName 6))
    (aSeq (aIf (aTest (aOp (ρIsN false) (aVar 6) (aC .non))) (aRet (aC .non)) aNext)
    (aAsg (aMeth C_Terms "entered" 3 A_Terms_entered (aVar 1) (aCons (aVar 6) (aCons (aDc (aITup (aCall 1 A_letters (aCons (aVar 6) aNil))) 8 aYes (aVar 8) (aMeth C_Terms "letter" 2 A_Terms_letter (aVar 1) (aCons (aTupK (aCons (aVar 3) (aCons (aVar 8) aNil))) aNil))) aNil))) (agName 5)))))
    (aExpr (aLm ρAppend (aVar 2) (aCons (aVar 5) aNil)))))
    (aSeq (aAsg (aMeth C_Terms "solved" 1 A_Terms_solved (aVar 1) aNil) (agName 7))
    (aRet (aIfE (aTest (aOp (ρIsN false) (aVar 7) (aC .non))) (aC .non) (aLc (aIList (aVar 2)) 5 aYes (aOp ρIx (aVar 7) (aVar 5)))))))))

theorem Kids.snoc {K : List Kd} {k : Kd} (h : Kids K) (hk : ∀ y ∈ k.tl, y < K.length) : Kids (K ++ [k]) := fun x k' hx y hy => by
  rw [List.length_append, List.length_singleton]
  by_cases c : x < K.length
  · rw [List.getElem?_append_left c] at hx
    have := h x k' hx y hy
    omega
  · rw [List.getElem?_append_right (by omega)] at hx
    have l := (List.getElem?_eq_some_iff.mp hx).1
    rw [List.length_singleton] at l
    have e : x - K.length = 0 := by omega
    rw [e] at hx
    cases hx
    have := hk y hy
    omega
theorem snoc_get {α : Type} {K : List α} {k k' : α} {x : Nat} (h : (K ++ [k])[x]? = some k') : (x < K.length ∧ K[x]? = some k') ∨ (x = K.length ∧ k' = k) := by
  by_cases c : x < K.length
  · rw [List.getElem?_append_left c] at h
    exact .inl ⟨c, h⟩
  · have l := (List.getElem?_eq_some_iff.mp h).1
    rw [List.length_append, List.length_singleton] at l
    have e : x = K.length := by omega
    subst e
    rw [List.getElem?_append_right (Nat.le_refl _), Nat.sub_self] at h
    exact .inr ⟨rfl, (Option.some.inj h).symm⟩
structure NG (K : List Kd) (nm : List (Key × D)) (nr : List Nat) (R ρ : Nat → Nat) (φ : Nat → Fm) (ν : Nat → List Key) (U : List Key → Prop) : Prop where
  uf : UF nr R ρ
  nrl : nr.length = K.length
  kids : Kids K
  cg : CG K R []
  sat : Sat K R φ
  nml : nm.length ≤ K.length
  names : ∀ x : Nat, K[x]? = some .l → valA nm (.inl (x : Nat)) = some (.key (ν x)) ∧ U (ν x)
  inj : ∀ x y : Nat, K[x]? = some .l → K[y]? = some .l → ν x = ν y → x = y
theorem NG.mono {K : List Kd} {nm : List (Key × D)} {nr : List Nat} {R ρ : Nat → Nat} {φ : Nat → Fm} {ν : Nat → List Key} {U U' : List Key → Prop} (h : NG K nm nr R ρ φ ν U) (m : ∀ k, U k → U' k) : NG K nm nr R ρ φ ν U' :=
  ⟨h.uf, h.nrl, h.kids, h.cg, h.sat, h.nml, fun x e => ⟨(h.names x e).1, m _ (h.names x e).2⟩, h.inj⟩
theorem NG.rl {K : List Kd} {nm : List (Key × D)} {nr : List Nat} {R ρ : Nat → Nat} {φ : Nat → Fm} {ν : Nat → List Key} {U : List Key → Prop} (h : NG K nm nr R ρ φ ν U) {x : Nat} (l : x < K.length) : R x < K.length := by
  have := h.uf.rlt x (by rw [h.nrl]; exact l)
  rw [h.nrl] at this
  exact this
def updN {α : Type} (f : Nat → α) (n : Nat) (v : α) : Nat → α := fun x => if x = n then v else f x
theorem updN_same {α : Type} {f : Nat → α} {n : Nat} {v : α} : updN f n v n = v := if_pos rfl
theorem updN_lt {α : Type} {f : Nat → α} {n x : Nat} {v : α} (h : x < n) : updN f n v x = f x := if_neg (by omega)
theorem CG.snoc {K : List Kd} {R : Nat → Nat} {k : Kd} (h : CG K R []) (rl : ∀ x, x < K.length → R x < K.length) (rn : R K.length = K.length) : CG (K ++ [k]) R [] := fun x k1 k2 h1 h2 => by
  rcases snoc_get h1 with ⟨l, g1⟩ | ⟨rfl, rfl⟩
  · rcases snoc_get h2 with ⟨_, g2⟩ | ⟨e, _⟩
    · exact h x k1 k2 g1 g2
    · have := rl x l
      omega
  · rw [rn] at h2
    rcases snoc_get h2 with ⟨l, _⟩ | ⟨_, rfl⟩
    · exact absurd l (Nat.lt_irrefl _)
    · exact ⟨fun z => z, fun _ => ⟨rfl, fun f _ j a b ha hb => by rw [ha] at hb; cases hb; rfl⟩⟩
def KdV (φ : Nat → Fm) (v : Fm) : Kd → Prop
  | .l => True
  | .n a => v = .ng (φ a)
  | .i a b => v = .im (φ a) (φ b)
theorem NG.snoc {K : List Kd} {nm : List (Key × D)} {nr : List Nat} {R ρ : Nat → Nat} {φ : Nat → Fm} {ν : Nat → List Key} {U : List Key → Prop} (h : NG K nm nr R ρ φ ν U) {k : Kd} {v : Fm} (hk : ∀ y ∈ k.tl, y < K.length) (hv : KdV φ v k) :
    UF (nr ++ [nr.length]) R ρ ∧ (nr ++ [nr.length]).length = (K ++ [k]).length ∧ Kids (K ++ [k]) ∧ CG (K ++ [k]) R [] ∧ Sat (K ++ [k]) R (updN φ K.length v) := by
  have rn : R K.length = K.length := h.uf.out _ (by rw [h.nrl]; exact Nat.le_refl _)
  refine ⟨h.uf.new, by rw [List.length_append, List.length_append, h.nrl]; rfl, h.kids.snoc hk, h.cg.snoc (fun x l => h.rl l) rn, h.sat.1.snoc h.kids hk (by cases k <;> exact hv), fun x => ?_⟩
  unfold updN
  by_cases c : x = K.length
  · rw [c, rn]
  · by_cases l : x < K.length
    · have := h.rl l
      rw [if_neg (by omega), if_neg c, h.sat.2]
    · rw [h.uf.out x (by rw [h.nrl]; omega)]
theorem NG.letter {K : List Kd} {nm : List (Key × D)} {nr : List Nat} {R ρ : Nat → Nat} {φ : Nat → Fm} {ν : Nat → List Key} {U : List Key → Prop} (h : NG K nm nr R ρ φ ν U) {key : List Key} (v : Fm) (hn : ¬ U key) :
    NG (K ++ [.l]) (putA nm (.inl (nr.length : Nat)) (.key key)) (nr ++ [nr.length]) R ρ (updN φ K.length v) (updN ν K.length key) (fun k => U k ∨ k = key) := by
  obtain ⟨h1, h2, h3, h4, h5⟩ := h.snoc (k := .l) (v := v) (fun y hy => nomatch hy) trivial
  have old : ∀ x : Nat, (K ++ [Kd.l])[x]? = some .l → (x < K.length ∧ K[x]? = some .l ∧ updN ν K.length key x = ν x) ∨ (x = K.length ∧ updN ν K.length key x = key) := fun x e => by
    rcases snoc_get e with ⟨l, e⟩ | ⟨e, _⟩
    · exact .inl ⟨l, e, updN_lt l⟩
    · exact .inr ⟨e, by rw [e]; exact updN_same⟩
  refine ⟨h1, h2, h3, h4, h5, ?_, fun x e => ?_, fun x y e1 e2 e => ?_⟩
  · rw [List.length_append, List.length_singleton]
    have := putA_length nm (.inl (nr.length : Nat)) (.key key)
    have := h.nml
    omega
  · rcases old x e with ⟨l, e, eν⟩ | ⟨e, eν⟩
    · rw [valA_put, if_neg (fun z => by injection z with z; have := h.nrl; omega), eν]
      exact ⟨(h.names x e).1, .inl (h.names x e).2⟩
    · rw [valA_put, if_pos (by rw [e, h.nrl]), eν]
      exact ⟨rfl, .inr rfl⟩
  · rcases old x e1 with ⟨l1, e1, n1⟩ | ⟨e1, n1⟩
    · rcases old y e2 with ⟨l2, e2, n2⟩ | ⟨e2, n2⟩
      · exact h.inj x y e1 e2 (by rw [← n1, ← n2]; exact e)
      · rw [n1, n2] at e
        exact absurd (e ▸ (h.names x e1).2) hn
    · rcases old y e2 with ⟨l2, e2, n2⟩ | ⟨e2, n2⟩
      · rw [n1, n2] at e
        exact absurd (e ▸ (h.names y e2).2) hn
      · rw [e1, e2]
theorem NG.node {K : List Kd} {nm : List (Key × D)} {nr : List Nat} {R ρ : Nat → Nat} {φ : Nat → Fm} {ν : Nat → List Key} {U : List Key → Prop} (h : NG K nm nr R ρ φ ν U) {k : Kd} {v : Fm} (hk : ∀ y ∈ k.tl, y < K.length) (nl : k ≠ .l) (hv : KdV φ v k) :
    NG (K ++ [k]) nm (nr ++ [nr.length]) R ρ (updN φ K.length v) ν U := by
  obtain ⟨h1, h2, h3, h4, h5⟩ := h.snoc hk hv
  have old : ∀ x : Nat, (K ++ [k])[x]? = some .l → K[x]? = some .l := fun x e => by
    rcases snoc_get e with ⟨l, e⟩ | ⟨_, e⟩
    · exact e
    · exact absurd e.symm nl
  exact ⟨h1, h2, h3, h4, h5, by rw [List.length_append]; have := h.nml; omega, fun x e => h.names x (old x e), fun x y e1 e2 => h.inj x y (old x e1) (old y e2)⟩
theorem nrU_one {nr : List Nat} {K : List Kd} {k : Kd} (h : nr.length ≤ K.length) : nrU nr K.length ++ [(nrU nr K.length).length] = nrU nr (K ++ [k]).length := by
  rw [nrU_len h, nrU_snoc h, List.length_append, List.length_singleton]
theorem NG.ent {nm : List (Key × D)} {R ρ : Nat → Nat} {ν : Nat → List Key} {U : List Key → Prop} {τ : Str → Nat} {σ : Str → Fm} : ∀ (f : Fm) {K : List Kd} {nr : List Nat} {φ : Nat → Fm}, NG K nm nr R ρ φ ν U → (∀ s ∈ f.lets, τ s < K.length ∧ φ (τ s) = σ s) →
    ∃ φ', NG (ent τ f K).1 nm (nrU nr (ent τ f K).1.length) R ρ φ' ν U ∧ (∀ x, x < K.length → φ' x = φ x) ∧ (ent τ f K).2 < (ent τ f K).1.length ∧ φ' (ent τ f K).2 = f.sub σ
  | .lt s, K, nr, φ, h, hs => by
    refine ⟨φ, ?_, fun x _ => rfl, (hs s (List.mem_singleton.mpr rfl)).1, (hs s (List.mem_singleton.mpr rfl)).2⟩
    show NG K nm (nrU nr K.length) R ρ φ ν U
    rw [← h.nrl, nrU_self]
    exact h
  | .ng f, K, nr, φ, h, hs => by
    obtain ⟨φ1, g, a1, a2, a3⟩ := NG.ent f h hs
    have ln := ent_len τ f K
    have e : (AL.ent τ (.ng f) K) = ((AL.ent τ f K).1 ++ [.n (AL.ent τ f K).2], (AL.ent τ f K).1.length) := rfl
    rw [e]
    generalize AL.ent τ f K = E at *
    obtain ⟨K1, x1⟩ := E
    have ln : K.length ≤ K1.length ∧ _ := ln
    have g2 := g.node (k := .n x1) (v := .ng (φ1 x1)) (fun y hy => by rw [List.mem_singleton.mp hy]; exact a2) (fun z => nomatch z) rfl
    rw [nrU_one (by rw [h.nrl]; exact ln.1)] at g2
    refine ⟨_, g2, fun x l => ?_, ?_, ?_⟩
    · rw [updN_lt (show x < K1.length by omega)]
      exact a1 x l
    · show K1.length < (K1 ++ [_]).length
      rw [List.length_append, List.length_singleton]; omega
    · show updN φ1 K1.length _ K1.length = _
      rw [updN_same, show φ1 x1 = f.sub σ from a3]
      rfl
  | .im f f', K, nr, φ, h, hs => by
    obtain ⟨φ1, g, a1, a2, a3⟩ := NG.ent f h (fun s m => hs s (List.mem_append_left _ m))
    have ln := ent_len τ f K
    have e : (AL.ent τ (.im f f') K) = ((AL.ent τ f' (AL.ent τ f K).1).1 ++ [.i (AL.ent τ f K).2 (AL.ent τ f' (AL.ent τ f K).1).2], (AL.ent τ f' (AL.ent τ f K).1).1.length) := rfl
    rw [e]
    generalize AL.ent τ f K = E at *
    obtain ⟨K1, x1⟩ := E
    have ln : K.length ≤ K1.length ∧ _ := ln
    obtain ⟨φ2, g', b1, b2, b3⟩ := NG.ent (σ := σ) f' g (fun s m => ⟨Nat.lt_of_lt_of_le (hs s (List.mem_append_right _ m)).1 ln.1, by rw [a1 _ (hs s (List.mem_append_right _ m)).1]; exact (hs s (List.mem_append_right _ m)).2⟩)
    have ln2 := ent_len τ f' K1
    have hz : nrU (nrU nr K1.length) (AL.ent τ f' K1).1.length = nrU nr (AL.ent τ f' K1).1.length := nrU_nrU (by rw [h.nrl]; exact ln.1) ln2.1
    have g' : NG (AL.ent τ f' K1).1 nm (nrU (nrU nr K1.length) (AL.ent τ f' K1).1.length) R ρ φ2 ν U := g'
    rw [hz] at g'
    show ∃ φ', NG ((AL.ent τ f' K1).1 ++ [.i x1 (AL.ent τ f' K1).2]) nm _ R ρ φ' ν U ∧ _
    generalize AL.ent τ f' K1 = E2 at *
    obtain ⟨K2, x2⟩ := E2
    have ln2 : K1.length ≤ K2.length ∧ _ := ln2
    have a2 : x1 < K1.length := a2
    have b1 : ∀ x, x < K1.length → φ2 x = φ1 x := b1
    have g2 := g'.node (k := .i x1 x2) (v := .im (φ2 x1) (φ2 x2)) (fun y hy => by
      rcases List.mem_cons.mp hy with q | q
      · rw [q]; show x1 < K2.length; omega
      · rw [List.mem_singleton.mp q]; exact b2) (fun z => nomatch z) rfl
    rw [nrU_one (show nr.length ≤ K2.length by rw [h.nrl]; omega)] at g2
    refine ⟨_, g2, fun x l => ?_, ?_, ?_⟩
    · rw [updN_lt (show x < K2.length by omega), b1 x (by omega)]
      exact a1 x l
    · show K2.length < (K2 ++ [_]).length
      rw [List.length_append, List.length_singleton]; omega
    · show updN φ2 K2.length _ K2.length = _
      rw [updN_same, b1 x1 a2, show φ1 x1 = f.sub σ from a3, show φ2 x2 = f'.sub σ from b3]
      rfl
def Nf.sub (φ : Nat → Fm) : Nf → Fm
  | .lt x => φ x
  | .ng p => .ng (p.sub φ)
  | .im p q => .im (p.sub φ) (q.sub φ)
def Nf.All (P : Nat → Prop) : Nf → Prop
  | .lt x => P x
  | .ng p => p.All P
  | .im p q => p.All P ∧ q.All P
theorem sol_inst {K : List Kd} {R : Nat → Nat} {h : Nat → Nf} {φ : Nat → Fm} (hh : ∀ x k, K[x]? = some k → h x = mkN h R x k) (kids : Kids K) (rl : ∀ x, x < K.length → R x < K.length) (sat : Sat K R φ) :
    ∀ (n : Nat) (x : Nat), x < K.length → (h x).dp ≤ n → (h x).sub φ = φ x ∧ (h x).All fun z => K[z]? = some .l
  | 0, x, _, l => by
    have : 1 ≤ (h x).dp := by
      cases h x with
      | lt _ => exact Nat.le_refl _
      | ng p => show 1 ≤ p.dp + 1; omega
      | im p q => show 1 ≤ max p.dp q.dp + 1; omega
    omega
  | n + 1, x, hx, l => by
    have hk : K[x]? = some K[x] := List.getElem?_eq_getElem hx
    have e := hh x _ hk
    have st := sat.1 x _ hk
    have kd := kids x _ hk
    rw [e] at l ⊢
    generalize hc : K[x] = k at *
    cases k with
    | l => exact ⟨rfl, hk⟩
    | n a =>
      have l : (h (R a)).dp + 1 ≤ n + 1 := l
      obtain ⟨i1, i2⟩ := sol_inst hh kids rl sat n (R a) (rl a (kd a List.mem_cons_self)) (by omega)
      refine ⟨?_, i2⟩
      show Fm.ng ((h (R a)).sub φ) = _
      rw [i1, sat.2]
      exact st.symm
    | i a b =>
      have l : max (h (R a)).dp (h (R b)).dp + 1 ≤ n + 1 := l
      obtain ⟨i1, i2⟩ := sol_inst hh kids rl sat n (R a) (rl a (kd a List.mem_cons_self)) (by omega)
      obtain ⟨j1, j2⟩ := sol_inst hh kids rl sat n (R b) (rl b (kd b (List.mem_cons_of_mem _ List.mem_cons_self))) (by omega)
      refine ⟨?_, i2, j2⟩
      show Fm.im ((h (R a)).sub φ) ((h (R b)).sub φ) = _
      rw [i1, j1, sat.2, sat.2]
      exact st.symm

def A_tcond (C : Addr) : ASp := fun ds M Q _ => ∃ (p a t n r : Addr) (K : List Kd) (nm : List (Key × D)) (nr : List Nat) (x y : Nat), ds = [.obj p, .int (x : Nat), .int (y : Nat)] ∧ TmsAt C M p a t n r (tmsK K nm nr) ∧ nr.length = K.length ∧ K.length ≤ 9999 ∧ ∀ M', TmsAt C M' p a t n r (tmsK (K ++ [.i x y]) nm (nr ++ [nr.length])) → ExtS [a, t, r] M M' → Q (.int (K.length : Nat)) M'
theorem TmsAt.ns {C : Addr} {M : Sto} {p a t n r : Addr} {T : Tms} (h : TmsAt C M p a t n r T) : n ≠ a ∧ n ≠ t ∧ n ≠ r := by
  have h1 := h.2.2.2.1
  exact ⟨fun z => by (rw [z, h.2.1] at h1; cases h1), fun z => by (rw [z, h.2.2.1] at h1; cases h1), fun z => by (rw [z, h.2.2.2.2.1] at h1; cases h1)⟩
theorem tms_one {K : List Kd} {nm : List (Key × D)} {nr : List Nat} {k : Kd} : (⟨(tmsK K nm nr).hd ++ [k.hd], (tmsK K nm nr).tl ++ [k.tl], nm, nr ++ [nr.length]⟩ : Tms) = tmsK (K ++ [k]) nm (nr ++ [nr.length]) := by
  unfold tmsK
  rw [List.map_append, List.map_append]
  rfl
theorem tms_new {K : List Kd} {nm nm' : List (Key × D)} {nr : List Nat} {k : Kd} : (⟨(tmsK K nm nr).hd ++ [k.hd], (tmsK K nm nr).tl ++ [k.tl], nm', nr ++ [nr.length]⟩ : Tms) = tmsK (K ++ [k]) nm' (nr ++ [nr.length]) := by
  unfold tmsK
  rw [List.map_append, List.map_append]
  rfl
theorem p_Terms_conditional (C : Addr) (ds : List D) (M : Sto) (Q : D → Sto → Prop) (Xa) (hl : ds.length = 3) (h : A_tcond C ds M Q Xa) : a_Terms_conditional C (A_tadded C) ax0 (Done Q) (startA ["self", "condition", "consequence"] ds) M := by
  obtain ⟨p, a, t, n, r, K, nm, nr, x, y, rfl, hT, hnr, hK, q⟩ := h
  unfold a_Terms_conditional
  obtain ⟨dx, hp⟩ := hT.1
  have nn := hT.ns
  try (simp only [↓jAd,↓jA0,↓e_c,↓jA1,↓jA9,↓jA7,↓jA6,↓jBm,jAh,List.getElem?_cons_zero,List.getElem?_cons_succ,List.length_cons,List.length_nil,List.append_nil,startA,List.map_cons,List.map_nil,List.replicate_zero,Nat.reduceAdd,Nat.reduceSub,Nat.reduceLeDiff,Nat.zero_add,true_and, *])
  refine ⟨⟨dx, _, rfl, rfl⟩, rfl, p, a, t, n, r, tmsK K nm nr, z_if, [x, y], rfl, hT, nn.1, nn.2.1, nn.2.2, by show (K.map Kd.hd).length ≤ _; rw [List.length_map]; omega, by show (K.map Kd.tl).length ≤ _; rw [List.length_map]; omega, by show nr.length ≤ _; omega, fun M1 hT1 e1 => ?_⟩
  show Q (.int (nr.length : Nat)) M1
  rw [hnr]
  have z := tms_one (K := K) (nm := nm) (nr := nr) (k := .i x y)
  exact q M1 (by rw [← z]; exact hT1) e1
def nfD (ν : Nat → List Key) (h : Nf) : D := h.d fun x => .key (ν x)
def A_mostgen (C : Addr) : ASp := fun ds M Q _ => ∃ (g : Addr) (ks : List Int) (ls : List Ln), ds = [.obj g] ∧ M g = some (.lst (ls.map rsD)) ∧ (∀ k ∈ ks, 1 ≤ k ∧ k ≤ 6) ∧ AllRight ks ls ∧ (∀ l ∈ ls, l.2 ≠ .hy) ∧ ls.length ≤ 255 ∧
  ∀ o (gs : List Nf) (ν : Nat → List Key) (φ : Nat → Fm) (L : Nat → Prop) M', M o = none → Ext M M' → M' o = some (.lst (gs.map (nfD ν))) → gs.length = ls.length → (∀ (k : Nat) h, gs[k]? = some h → ∃ w, ls[k]? = some (h.sub φ, w) ∧ h.All L) → (∀ x y, L x → L y → ν x = ν y → x = y) → Q (.obj o) M'
def Ul (m : Nat) (k : List Key) : Prop := ∃ (l : Nat) (s : Str), k = [.inl (l : Nat), .inr s] ∧ l < m
def Ud (m : Nat) (done : List Str) (k : List Key) : Prop := Ul m k ∨ ∃ s ∈ done, k = [.inl (m : Nat), .inr s]
theorem Ud.not {m : Nat} {done : List Str} {s : Str} (h : s ∉ done) : ¬ Ud m done [.inl (m : Nat), .inr s] := by
  rintro (⟨l, t, e, hl⟩ | ⟨t, ht, e⟩)
  · injection e with e1 e2
    injection e1 with e1
    omega
  · injection e with e1 e2
    injection e2 with e2 e3
    injection e2 with e2
    rw [e2] at h
    exact h ht
theorem Ud.all {m : Nat} {done : List Str} {k : List Key} (h : Ud m done k) : Ul (m + 1) k := by
  rcases h with ⟨l, t, e, hl⟩ | ⟨t, ht, e⟩
  · exact ⟨l, t, e, by omega⟩
  · exact ⟨m, t, e, by omega⟩
def PlOk (ls : List Ln) (K : List Kd) (φ : Nat → Fm) (pl : List Nat) : Prop := ∀ (k x : Nat), pl[k]? = some x → x < K.length ∧ ∃ w, ls[k]? = some (φ x, w)
theorem PlOk.mono {ls : List Ln} {K K' : List Kd} {φ φ' : Nat → Fm} {pl : List Nat} (h : PlOk ls K φ pl) (l : K.length ≤ K'.length) (e : ∀ x, x < K.length → φ' x = φ x) : PlOk ls K' φ' pl := fun k x hx => by
  obtain ⟨h1, w, h2⟩ := h k x hx
  exact ⟨by omega, w, by rw [e x h1]; exact h2⟩
theorem PlOk.snoc {ls : List Ln} {K : List Kd} {φ : Nat → Fm} {pl : List Nat} {x : Nat} (h : PlOk ls K φ pl) (l : x < K.length) {w : Wy} (e : ls[pl.length]? = some (φ x, w)) : PlOk ls K φ (pl ++ [x]) := fun k y hy => by
  rcases snoc_get hy with ⟨_, g⟩ | ⟨rfl, rfl⟩
  · exact h k y g
  · exact ⟨l, w, e⟩
set_option maxHeartbeats 4000000 in
theorem p_most_general (C : Addr) (ds : List D) (M : Sto) (Q : D → Sto → Prop) (Xa) (hl : ds.length = 1) (h : A_mostgen C ds M Q Xa) : a_most_general C (A_tinit C) (A_tletter C) (A_tmade C) (A_tcond C) A_paxiom (A_tentered C 48) A_letters (A_tsolved C) ax0 (Done Q) (startA ["reasons", "terms", "places", "line", "why", "place", "pattern", "formulas", "name"] ds) M := by
  obtain ⟨g, ks, ls, rfl, hg, hks, ar, nh, hlen, q⟩ := h
  replace q := Hid.mk q
  unfold a_most_general
  try (simp only [↓jAe,↓jAp,↓jAi,↓jA0,↓jA1,↓jA9,↓jA7,↓jA4,↓jFb,↓jAg,↓jD0,↓jAb,jAh,List.set_cons_zero,List.set_cons_succ,List.getElem?_cons_zero,List.length_cons,List.length_nil,List.nil_append,List.cons_append,startA,List.map_cons,List.map_nil,List.replicate_succ,List.replicate_zero,Nat.reduceAdd,Nat.reduceSub,Nat.reduceLeDiff,Nat.zero_add,true_and,ne_eq, *])
  intro p dx np nxp
  have e0 := Ext.new (mo := .raw (.ins C dx [])) np
  refine ⟨rfl, p, dx, rfl, up_same, fun a t n r M1 na nt nn nr hT1 eb1 => ⟨rfl, ?_⟩⟩
  have e1 : Ext M M1 := fun b o hb => by
    have c : b ≠ p := fresh_ne np hb
    exact eb1 b o c (by rw [up_ne c]; exact hb)
  have ma : ∀ {w}, up M p (.raw (.ins C dx [])) w = none → M w = none := fun {w} h => by
    cases c : M w with
    | none => rfl
    | some v => rw [e0 _ _ c] at h; cases h
  have na := ma na
  have nt := ma nt
  have nn := ma nn
  have nr := ma nr
  clear ma eb1 e0
  have ng0 : ∀ φ ν, NG [] [] [] (fun x => x) (fun _ => 0) φ ν (Ul 0) := fun φ ν => ⟨UF.range 0, rfl, (fun x k h => by simp at h), CG.start [], ⟨fun x k h => by simp at h, fun x => rfl⟩, Nat.le_refl _, (fun x h => by simp at h), fun x y h => by simp at h⟩
  skip
  intro c nc
  have hT2 := hT1.ext (Ext.new (mo := .lst []) nc)
  have c0 : M c = none := e1.none nc
  have e2 := e1.trans (Ext.new (mo := .lst []) nc)
  have hc2 : up M1 c (.lst []) c = some (.lst (([] : List Nat).map natI)) := up_same
  have nca := hT1.off nc
  have ncg : c ≠ g := (fresh_ne c0 hg).symm
  generalize up M1 c (.lst []) = M2 at *
  have hg2 := e2 _ _ hg
  have gS : g ∉ [a, t, r, n] := by
    simp only [List.mem_cons, List.not_mem_nil, or_false, not_or]
    exact ⟨fresh_ne na hg, fresh_ne nt hg, fresh_ne nr hg, fresh_ne nn hg⟩
  have cS : c ∉ [a, t, r, n] := by
    have h := nca
    simp only [List.mem_cons, List.not_mem_nil, or_false, not_or]
    exact ⟨h.2.1, h.2.2.1, h.2.2.2.2, h.2.2.2.1⟩
  have eS : ∀ {A B : Sto}, Ext M A → ExtS [a, t, r, n] A B → Ext M B := fun {A B} h1 h2 b o hb => h2 b o (by
    simp only [List.mem_cons, List.not_mem_nil, or_false, not_or]
    exact ⟨fresh_ne na hb, fresh_ne nt hb, fresh_ne nr hb, fresh_ne nn hb⟩) (h1 b o hb)
  have s3 : ∀ {A B : Sto}, ExtS [a, t, r] A B → ExtS [a, t, r, n] A B := fun h => h.mono (by simp)
  have s1 : ∀ {A B : Sto}, ExtS [r] A B → ExtS [a, t, r, n] A B := fun h => h.mono (by simp)
  clear nc hT1 e1
  try (simp only [*])
  refine for_run (fun ds env M' => ∃ (pre rest : List Ln) (x3 x4 x5 x6 x7 x8 : Option D) (K : List Kd) (nm : List (Key × D)) (nr' : List Nat) (R ρ : Nat → Nat) (φ : Nat → Fm) (ν : Nat → List Key) (pl : List Nat), ls = pre ++ rest ∧ ds = enumD (pre.length : Nat) (rest.map rsD) ∧ env = [some (.obj g), some (.obj p), some (.obj c), x3, x4, x5, x6, x7, x8] ∧ M' g = some (.lst (ls.map rsD)) ∧ M' c = some (.lst (pl.map natI)) ∧ TmsAt C M' p a t n r (tmsK K nm nr') ∧ NG K nm nr' R ρ φ ν (Ul pre.length) ∧ pl.length = pre.length ∧ PlOk ls K φ pl ∧ K.length ≤ 30 * pre.length ∧ Ext M M') (fun ds env M' ⟨_, _, _, _, _, _, _, _, _, _, _, _, _, _, _, _, _, _, _, h, _⟩ => h) ?_ ?_ ⟨[], ls, none, none, none, none, none, none, [], [], [], _, _, fun _ => .lt z_a, fun _ => [], [], rfl, rfl, rfl, hg2, hc2, hT2, ng0 _ _, rfl, (fun k x h => by simp at h), Nat.zero_le _, e2⟩
  · rintro env M3 ⟨pre, rest, x3, x4, x5, x6, x7, x8, K, nm, nr3, R, ρ, φ, ν, pl, hx, hd, rfl, hg3, hc3, hT3, ng, hpl, plok, hK, e3⟩
    cases rest with
    | cons _ _ => cases hd
    | nil =>
      rw [List.append_nil] at hx
      subst hx
      clear hd hT2 hc2 hg2 e2 ng0
      obtain ⟨dx3, hp3⟩ := hT3.1
      try (simp only [↓jAe,↓jAd,↓jAp,↓jAi,↓jA0,↓e_c,↓jA8,↓jA1,↓jAf,↓jCj,↓jA9,↓jBm,↓jCg,↓jAc,↓jC6,↓jAb,List.set_cons_zero,List.set_cons_succ,List.getElem?_cons_zero,List.getElem?_cons_succ, *])
      refine ⟨⟨dx3, _, rfl, rfl⟩, rfl, p, a, t, n, r, K, nm, nr3, R, ρ, fun x => .key (ν x), rfl, hT3, ng.nrl, by omega, ng.kids, ng.uf, fun x hx => (ng.names x hx).1, fun h w nr7 M7 hh ⟨O, top, full⟩ hdp uf7 l7 hT7 e7 w0 hw => ?_, fun hno => absurd ng.sat (hno φ)⟩
      have wc : w ≠ c := fun z => by rw [z, hc3] at w0; cases w0
      have hc7 := e7 c _ (by
        have h := nca.2.2.2.2
        rw [List.mem_singleton]; exact h) hc3
      have e7' := eS e3 (s1 e7)
      have inst := fun x (hx : x < K.length) => sol_inst hh ng.kids (fun x hx => ng.rl hx) ng.sat _ (R x) (ng.rl hx) (Nat.le_refl _)
      have hat : ∀ x, x < K.length → atI ((List.range K.length).map fun x => (h (R x)).d fun x => .key (ν x)) (x : Int) = some (nfD ν (h (R x))) := fun x hx => by
        rw [atIn, List.getElem?_map, List.getElem?_range hx]
        rfl
      have pln : (pl.map natI).length = pl.length := List.length_map _
      clear hT7 hT3 hp3 hc3 uf7 top full hdp e7
      generalize ((List.range K.length).map fun x => (h (R x)).d fun x => D.key (ν x)) = W at *
      try (simp only [jDb,Bool.false_eq_true,if_false, *])
      refine ⟨by omega, ?_⟩
      refine lc_run (fun ds acc M' => ∃ (done rest : List Nat), pl = done ++ rest ∧ ds = rest.map natI ∧ acc = done.map (fun x => nfD ν (h (R x))) ∧ M' = M7) (fun ds acc M' ⟨_, _, _, _, _, e⟩ => by rw [e]; exact hc7) ?_ ?_ ⟨[], pl, rfl, rfl, rfl, rfl⟩
      · rintro acc M' ⟨done, rest, hx, hd, rfl, rfl⟩
        cases rest with
        | cons _ _ => cases hd
        | nil =>
          rw [List.append_nil] at hx
          subst hx
          clear hd
          intro o no
          have hl2 : pl.length = ls.length := hpl
          refine q.out o (pl.map fun x => h (R x)) ν φ (fun z => K[z]? = some .l) _ (e7'.none no) (e7'.trans (Ext.new no)) (by rw [up_same, List.map_map]; rfl) (by rw [List.length_map]; exact hl2) (fun k u hu => ?_) ng.inj
          rw [List.getElem?_map, Option.map_eq_some_iff] at hu
          obtain ⟨x, hx, rfl⟩ := hu
          obtain ⟨xl, w1, h1⟩ := plok k x hx
          have := inst x xl
          exact ⟨w1, by rw [this.1, ng.sat.2]; exact h1, this.2⟩
      · rintro y r0 acc M' N3 ⟨done, rest, hx, hd, rfl, rfl⟩ next3
        cases rest with
        | nil => cases hd
        | cons z rest =>
          injection hd with hd1 hd2
          subst hd1 hd2
          have hz := (plok done.length z (by rw [hx, List.getElem?_append_right (Nat.le_refl _), Nat.sub_self]; rfl)).1
          have az := hat z hz
          have zd : natI z = .int (z : Nat) := rfl
          have g3 := next3 (done.map (fun x => nfD ν (h (R x))) ++ [nfD ν (h (R z))]) M' ⟨done ++ [z], rest, by rw [hx, List.append_assoc]; rfl, rfl, by rw [List.map_append]; rfl, rfl⟩
          clear hat inst next3 plok hx
          try (simp only [↓jA0,↓jA8,↓jA1,↓jBu,↓jAs,↓jAb,List.set_cons_zero,List.set_cons_succ,List.getElem?_cons_zero,List.getElem?_cons_succ,if_true, *])
          all_goals first | exact g3 | trivial
  · rintro d0 r0 N env M3 ⟨pre, rest, x3, x4, x5, x6, x7, x8, K, nm, nr3, R, ρ, φ, ν, pl, hx, hd, rfl, hg3, hc3, hT3, ng, hpl, plok, hK, e3⟩ next
    cases rest with
    | nil => cases hd
    | cons l rest =>
      have hd' : d0 :: r0 = .tup [.int (pre.length : Nat), rsD l] :: enumD ((pre.length : Nat) + 1) (rest.map rsD) := hd
      injection hd' with h1 h2
      subst h1 h2
      clear hd hT2 hc2 hg2 e2 ng0
      obtain ⟨f, w⟩ := l
      have lk : ls[pre.length]? = some (f, w) := by rw [hx, List.getElem?_append_right (Nat.le_refl _), Nat.sub_self]; rfl
      have hr := ar _ _ lk
      have lt : pre.length < 255 := by have := (List.getElem?_eq_some_iff.mp lk).1; omega
      have zz1 := zad
      obtain ⟨dx3, hp3⟩ := hT3.1
      cases w with
      | hy => exact absurd rfl (nh (f, .hy) (by rw [hx]; exact List.mem_append_right _ List.mem_cons_self))
      | ax k =>
        have hw : rsD (f, .ax k) = .tup [.str z_axiom, .int k] := rfl
        obtain ⟨hkm, pt, σ, hpt, hpk, hfs⟩ := hr
        have hk6 := hks k hkm
        try (simp only [↓jAe,↓jAl,↓jAy,↓jAd,↓jA3,↓jAp,↓jAi,↓jBj,↓jBl,↓jBq,↓jA0,↓e_c,↓jA8,↓jA1,↓jAf,↓jAn,↓jAv,↓jA9,↓jA7,↓jFd,jFm,↓jA5,↓jAx,↓jAw,↓jF8,↓jBm,↓jB7,↓jAo,↓jC6,↓jAj,↓jAs,↓jAb,jAm,jAr,jAh,List.set_cons_zero,List.set_cons_succ,List.getElem?_cons_zero,List.getElem?_cons_succ,List.length_cons,List.length_nil,Nat.reduceAdd,Nat.reduceLeDiff,Nat.zero_add,Bool.not_true,Bool.not_eq_eq_eq_not,Bool.false_eq_true,if_false,decide_false,true_and, *])
        refine ⟨rfl, k, rfl, fun _ pt' hp1 hp2 => ?_, fun hb => by omega⟩
        have ept : pt' = pt := by rw [hpk] at hp2; exact (Option.some.inj hp2).symm
        subst ept
        have isn : isNon pt'.d = false := by cases pt' <;> rfl
        have pf := axs_facts hpt
        try (simp only [Bool.false_eq_true,if_false, *])
        refine ⟨⟨dx3, _, rfl, rfl⟩, rfl, pt', rfl, by omega, fun ys M4 nd hys _ e4 => ?_⟩
        have hT4 := hT3.ext e4
        have hg4 := e4 _ _ hg3
        have hc4 := e4 _ _ hc3
        have e34 := e3.trans e4
        have yl : ys.length ≤ 4 := nodup_le (ys := names4) nd fun s hs => lets_all pf.2.2 s ((hys s).mp hs)
        clear hT3 hg3 hc3 e3 e4 hp3
        try (simp only [*])
        intro tb ntb
        have o4 := hT4.off ntb
        have ntc : tb ≠ c := (fresh_ne ntb hc4).symm
        have ntg : tb ≠ g := (fresh_ne ntb hg4).symm
        have tb0 : M tb = none := e34.none ntb
        have tS : tb ∉ [a, t, r, n] := by
          simp only [List.mem_cons, List.not_mem_nil, or_false, not_or]
          exact ⟨o4.2.1, o4.2.2.1, o4.2.2.2.2, o4.2.2.2.1⟩
        refine dc_run (fun ds M' => ∃ (done rest : List Str) (K' : List Kd) (nm' : List (Key × D)) (nr' : List Nat) (φ' : Nat → Fm) (ν' : Nat → List Key) (kv : List (Key × D)) (τ : Str → Nat), ys = done ++ rest ∧ ds = rest.map D.str ∧ M' tb = some (.dic kv) ∧ TmsAt C M' p a t n r (tmsK K' nm' nr') ∧ NG K' nm' nr' R ρ φ' ν' (Ud pre.length done) ∧ K'.length = K.length + done.length ∧ (∀ s ∈ done, valA kv (.inr s) = some (.int (τ s : Nat)) ∧ τ s < K'.length ∧ φ' (τ s) = σ s) ∧ (∀ x, x < K.length → φ' x = φ x) ∧ kv.length ≤ done.length ∧ M' g = some (.lst (ls.map rsD)) ∧ M' c = some (.lst (pl.map natI)) ∧ Ext M M') (fun _ _ _ => trivial) ?_ ?_ ⟨[], ys, K, nm, nr3, φ, ν, [], fun _ => 0, rfl, rfl, up_same, hT4.ext (Ext.new ntb), ng.mono fun k h => .inl h, rfl, (fun s h => nomatch h), fun _ _ => rfl, Nat.le_refl _, (Ext.new ntb) _ _ hg4, (Ext.new ntb) _ _ hc4, e34.trans (Ext.new ntb)⟩
        · rintro M5 ⟨done, rest, K', nm', nr', φ', ν', kv, τ, hy, hd, htb5, hT5, ng', hK', hτ, hφ, hkv, hg5, hc5, e5⟩
          cases rest with
          | cons _ _ => cases hd
          | nil =>
            rw [List.append_nil] at hy
            subst hy
            have hs : ∀ s ∈ pt'.lets, s ∈ ys := fun s h => (hys s).mpr h
            obtain ⟨φ2, ng2, f1, f2, f3⟩ := NG.ent (σ := σ) pt' ng' (fun s h => (hτ s (hs s h)).2)
            have ln := ent_len τ pt' K'
            clear hd hT4 hg4 hc4
            refine ⟨rfl, p, a, t, n, r, tb, pt', K', nm', nr', kv, τ, rfl, by omega, hT5, ng'.nrl, htb5, fun s h => (hτ s (hs s h)).1, by omega, fun M6 hT6 e6 => ?_⟩
            have hg6 := (s3 e6) _ _ gS hg5
            have hc6 := (s3 e6) _ _ cS hc5
            have e6' := eS e5 (s3 e6)
            generalize AL.ent τ pt' K' = E at *
            obtain ⟨K2, x2⟩ := E
            have f2 : x2 < K2.length := f2
            have f3 : φ2 x2 = f := f3.trans hfs.symm
            have ln : K'.length ≤ K2.length ∧ K2.length ≤ K'.length + pt'.sz := ln
            have hT6 : TmsAt C M6 p a t n r (tmsK K2 nm' (nrU nr' K2.length)) := hT6
            have ng2 : NG K2 nm' (nrU nr' K2.length) R ρ φ2 ν' (Ud pre.length ys) := ng2
            have pln : (pl.map natI).length = pl.length := List.length_map _
            have nx := fun x3 x4 x5 x6 x7 x8 => next [some (.obj g), some (.obj p), some (.obj c), x3, x4, x5, x6, x7, x8] (up M6 c (.lst (pl.map natI ++ [.int (x2 : Nat)]))) ⟨pre ++ [(f, .ax k)], rest, x3, x4, x5, x6, x7, x8, K2, nm', nrU nr' K2.length, R, ρ, φ2, ν', pl ++ [x2], by rw [hx, List.append_assoc]; rfl, by rw [List.length_append]; rfl, rfl, by rw [up_ne ncg.symm]; exact hg6, by rw [up_same, List.map_append]; rfl, hT6.upd nca.1 nca.2.1 nca.2.2.1 nca.2.2.2.1 nca.2.2.2.2, by rw [List.length_append]; exact ng2.mono fun k h => h.all, by rw [List.length_append, List.length_append, hpl]; rfl, (plok.mono (by omega) (fun x l => by rw [f1 x (by omega), hφ x l])).snoc f2 (by rw [hpl, f3]; exact lk), by rw [List.length_append, List.length_singleton]; omega, Ext.upd c0 e6'⟩
            clear next hT6 ng2 hτ
            try (simp only [and_true, *])
            first | omega | exact ⟨by omega, nx _ _ _ _ _ _⟩
        · rintro y0 r1 M5 N2 ⟨done, rest, K', nm', nr', φ', ν', kv, τ, hy, hd, htb5, hT5, ng', hK', hτ, hφ, hkv, hg5, hc5, e5⟩ next2
          cases rest with
          | nil => cases hd
          | cons s rest =>
            injection hd with hd1 hd2
            subst hd1 hd2
            have nin : s ∉ done := fun m => by
              rw [hy] at nd
              exact (List.nodup_append.mp nd).2.2 s m s List.mem_cons_self rfl
            have dl : done.length < 4 := by
              rw [hy, List.length_append, List.length_cons] at yl
              omega
            obtain ⟨dx5, hp5⟩ := hT5.1
            have nn5 := hT5.ns
            clear hT4 hg4 hc4 next
            have g6 := ng'.letter (key := [.inl (pre.length : Nat), .inr s]) (σ s) (Ud.not nin)
            have nrl := ng'.nrl
            try (simp only [↓jA0,↓jA1,↓jBu,↓jA9,↓jA7,↓jFd,jFm,↓jBm,jC0,jAh,List.set_cons_zero,List.set_cons_succ,List.getElem?_cons_zero,List.getElem?_cons_succ,List.length_cons,List.length_nil,Nat.reduceAdd,Nat.reduceLeDiff,Nat.zero_add,if_true,true_and, *])
            refine ⟨⟨dx5, _, rfl, rfl⟩, rfl, p, a, t, n, r, tmsK K' nm' nr', .key [.inl (pre.length : Nat), .inr s], rfl, hT5, nn5.1, nn5.2.1, nn5.2.2, by show (K'.map Kd.hd).length ≤ _; rw [List.length_map]; omega, by show (K'.map Kd.tl).length ≤ _; rw [List.length_map]; omega, by show nr'.length ≤ _; omega, by show nm'.length ≤ _; have := ng'.nml; omega, fun M6 hT6 e6 => ?_⟩
            have el : (tmsK K' nm' nr').nr.length = K'.length := nrl
            rw [el]
            have hT6 : TmsAt C M6 p a t n r (tmsK (K' ++ [.l]) (putA nm' (.inl (nr'.length : Nat)) (.key [.inl (pre.length : Nat), .inr s])) (nr' ++ [nr'.length])) := by
              have z := tms_new (K := K') (nm := nm') (nr := nr') (k := .l) (nm' := putA nm' (.inl (nr'.length : Nat)) (.key [.inl (pre.length : Nat), .inr s]))
              rw [← z]
              exact hT6
            have hg6 := e6 _ _ gS hg5
            have hc6 := e6 _ _ cS hc5
            have htb6 := e6 _ _ tS htb5
            have e6 := eS e5 e6
            have v0 : updN φ' K'.length (σ s) K'.length = σ s := updN_same
            have vo : ∀ x, x < K'.length → updN φ' K'.length (σ s) x = φ' x := fun x l => updN_lt l
            have l6 : (K' ++ [Kd.l]).length = K'.length + 1 := by rw [List.length_append]; rfl
            refine ⟨.inr s, kv, rfl, htb6, by omega, next2 _ ⟨done ++ [s], rest, K' ++ [.l], _, nr' ++ [nr'.length], updN φ' K'.length (σ s), updN ν' K'.length [.inl (pre.length : Nat), .inr s], putA kv (.inr s) (.int (K'.length : Nat)), fun u => if u = s then K'.length else τ u, by rw [hy, List.append_assoc]; rfl, rfl, up_same, hT6.upd o4.1 o4.2.1 o4.2.2.1 o4.2.2.2.1 o4.2.2.2.2, g6.mono ?_, by rw [l6, List.length_append, List.length_singleton]; omega, fun u hu => ?_, fun x l => by rw [vo x (by omega), hφ x l], by have := putA_length kv (.inr s) (.int (K'.length : Nat)); rw [List.length_append, List.length_singleton]; omega, by rw [up_ne ntg.symm]; exact hg6, by rw [up_ne ntc.symm]; exact hc6, Ext.upd tb0 e6⟩⟩
            · rintro k (h | h)
              · rcases h with h | ⟨u, h1, h2⟩
                · exact .inl h
                · exact .inr ⟨u, List.mem_append_left _ h1, h2⟩
              · exact .inr ⟨s, List.mem_append_right _ List.mem_cons_self, h⟩
            · show valA _ _ = some (.int ((if u = s then K'.length else τ u : Nat) : Int)) ∧ (if u = s then K'.length else τ u) < _ ∧ updN φ' K'.length (σ s) (if u = s then K'.length else τ u) = σ u
              by_cases e : u = s
              · rw [if_pos e, e, valA_put, if_pos rfl, v0]
                exact ⟨rfl, by omega, rfl⟩
              · have hd2 : u ∈ done := (List.mem_append.mp hu).elim id fun z => absurd (List.mem_singleton.mp z) e
                obtain ⟨t1, t2, t3⟩ := hτ u hd2
                rw [if_neg e, valA_put, if_neg (fun z => e (by injection z)), vo _ t2]
                exact ⟨t1, by omega, t3⟩
      | dt i j =>
        have hw : rsD (f, .dt i j) = .tup [.str z_detach, .int i, .int j] := rfl
        obtain ⟨i', j', cc, w, u, b1, b2, b3, b4, b5, b6⟩ := hr
        subst b1 b2
        have pln : (pl.map natI).length = pl.length := List.length_map _
        obtain ⟨y1, hy1⟩ : ∃ x, pl[i']? = some x := ⟨_, List.getElem?_eq_getElem (by omega)⟩
        obtain ⟨y2, hy2⟩ : ∃ x, pl[j']? = some x := ⟨_, List.getElem?_eq_getElem (by omega)⟩
        have at1 := at_natI hy1
        have at2 := at_natI hy2
        have d1 : natI y1 = .int (y1 : Nat) := rfl
        have d2 : natI y2 = .int (y2 : Nat) := rfl
        obtain ⟨l1, w1, p1⟩ := plok _ _ hy1
        obtain ⟨l2, w2, p2⟩ := plok _ _ hy2
        rw [p1] at b5
        rw [p2] at b6
        have f1 : φ y1 = .im cc f := by injection b5 with b5; injection b5
        have f2 : φ y2 = cc := by injection b6 with b6; injection b6
        have nn3 := hT3.ns
        have g4 := ng.letter (key := [.inl (pre.length : Nat), .inr z_nul]) f (by
          rintro ⟨l, t, e, hl⟩
          injection e with e1 e2
          injection e1 with e1
          omega)
        have nrl := ng.nrl
        try (simp only [↓jAe,↓jAl,↓jAy,↓jAd,↓jA3,↓jAp,↓jAi,↓jBj,↓jBl,↓jBq,↓jA0,↓e_c,↓jA8,↓jA1,↓jAf,↓jAn,↓jAv,↓jA9,↓jA7,↓jFd,jFm,↓jA5,↓jAx,↓jAw,↓jF8,↓jBm,↓jB7,↓jAo,↓jC6,↓jAj,↓jAs,↓jAb,jAm,jAr,jBf,jAh,List.set_cons_zero,List.set_cons_succ,List.getElem?_cons_zero,List.getElem?_cons_succ,List.length_cons,List.length_nil,Nat.reduceAdd,Nat.reduceLeDiff,Nat.zero_add,Bool.not_true,Bool.not_eq_eq_eq_not,if_true,decide_true,true_and, *])
        refine ⟨⟨dx3, _, rfl, rfl⟩, rfl, p, a, t, n, r, tmsK K nm nr3, .key [.inl (pre.length : Nat), .inr z_nul], rfl, hT3, nn3.1, nn3.2.1, nn3.2.2, by show (K.map Kd.hd).length ≤ _; rw [List.length_map]; omega, by show (K.map Kd.tl).length ≤ _; rw [List.length_map]; omega, by show nr3.length ≤ _; omega, by show nm.length ≤ _; have := ng.nml; omega, fun M4 hT4 e4 => ?_⟩
        have el : (tmsK K nm nr3).nr.length = K.length := nrl
        rw [el]
        have hT4 : TmsAt C M4 p a t n r (tmsK (K ++ [.l]) (putA nm (.inl (nr3.length : Nat)) (.key [.inl (pre.length : Nat), .inr z_nul])) (nr3 ++ [nr3.length])) := by
          have z := tms_new (K := K) (nm := nm) (nr := nr3) (k := .l) (nm' := putA nm (.inl (nr3.length : Nat)) (.key [.inl (pre.length : Nat), .inr z_nul]))
          rw [← z]
          exact hT4
        have hg4 := e4 _ _ gS hg3
        have hc4 := e4 _ _ cS hc3
        have e4 := eS e3 e4
        obtain ⟨dx4, hp4⟩ := hT4.1
        generalize putA nm (.inl (nr3.length : Nat)) (.key [.inl (pre.length : Nat), .inr z_nul]) = nm4 at *
        have l4 : (K ++ [Kd.l]).length = K.length + 1 := by rw [List.length_append]; rfl
        have v0 : updN φ K.length f K.length = f := updN_same
        have v2 : updN φ K.length f y2 = cc := by rw [updN_lt l2, f2]
        have v1 : updN φ K.length f y1 = .im cc f := by rw [updN_lt l1, f1]
        have vo : ∀ x, x < K.length → updN φ K.length f x = φ x := fun x l => updN_lt l
        generalize updN φ K.length f = φ4 at *
        generalize updN ν K.length [.inl (pre.length : Nat), .inr z_nul] = ν4 at *
        generalize hK4 : K ++ [Kd.l] = K4 at *
        have nrl4 := g4.nrl
        generalize nr3 ++ [nr3.length] = nr4 at *
        have g4 := g4.mono (U' := Ul (pre.length + 1)) (by
          rintro k (⟨l, s, h1, h2⟩ | h)
          · exact ⟨l, s, h1, by omega⟩
          · exact ⟨pre.length, z_nul, h, by omega⟩)
        have g5 := g4.node (k := .i y2 K.length) (v := .im cc f) (fun y hy => by
          rcases List.mem_cons.mp hy with q | q
          · omega
          · rw [List.mem_singleton.mp q]; omega) (fun z => nomatch z) (by show Fm.im cc f = .im (φ4 y2) (φ4 K.length); rw [v2, v0])
        clear hT3 hg3 hc3 e3 hp3 ng
        try (simp only [↓jA1, *])
        refine ⟨⟨dx4, _, rfl, rfl⟩, ⟨dx4, _, rfl, rfl⟩, rfl, p, a, t, n, r, K4, nm4, nr4, y2, K.length, rfl, hT4, nrl4, by omega, fun M5 hT5 e5 => ?_⟩
        have hg5 := (s3 e5) _ _ gS hg4
        have hc5 := (s3 e5) _ _ cS hc4
        have e5 := eS e4 (s3 e5)
        have l5 : (K4 ++ [Kd.i y2 K.length]).length = K.length + 2 := by rw [List.length_append, l4]; rfl
        have u0 : updN φ4 K4.length (.im cc f) K.length = f := by rw [updN_lt (by omega), v0]
        have u1 : updN φ4 K4.length (.im cc f) y1 = .im cc f := by rw [updN_lt (by omega), v1]
        have u4 : updN φ4 K4.length (.im cc f) K4.length = .im cc f := updN_same
        have uo : ∀ x, x < K.length → updN φ4 K4.length (.im cc f) x = φ x := fun x l => by rw [updN_lt (by omega), vo x l]
        generalize updN φ4 K4.length (.im cc f) = φ5 at *
        generalize K4 ++ [Kd.i y2 K.length] = K5 at *
        have nrl5 := g5.nrl
        generalize nr4 ++ [nr4.length] = nr5 at *
        have nn5 := hT5.ns
        clear hT4 hg4 hc4 e4 hp4 g4
        refine ⟨rfl, p, a, t, n, r, K5, nm4, nr5, y1, K4.length, R, ρ, rfl, hT5, nn5.2.2, by omega, by omega, by omega, nrl5, g5.kids, g5.uf, g5.cg, fun nr6 R' ρ' M6 uf6 l6 hT6 cg6 hxy coarse comp e6 => ?_, fun hno => absurd (by rw [u1, u4]) (hno φ5 g5.sat)⟩
        have g6 : NG K5 nm4 nr6 R' ρ' φ5 ν4 (Ul (pre.length + 1)) := ⟨uf6, l6, g5.kids, cg6, comp φ5 g5.sat (by rw [u1, u4]), g5.nml, g5.names, g5.inj⟩
        have hg6 := (s1 e6) _ _ gS hg5
        have hc6 := (s1 e6) _ _ cS hc5
        have e6 := eS e5 (s1 e6)
        have nx := fun x3 x4 x5 x6 x7 x8 => next [some (.obj g), some (.obj p), some (.obj c), x3, x4, x5, x6, x7, x8] (up M6 c (.lst (pl.map natI ++ [.int (K.length : Nat)]))) ⟨pre ++ [(f, .dt (i' : Nat) (j' : Nat))], rest, x3, x4, x5, x6, x7, x8, K5, nm4, nr6, R', ρ', φ5, ν4, pl ++ [K.length], by rw [hx, List.append_assoc]; rfl, by rw [List.length_append]; rfl, rfl, by rw [up_ne ncg.symm]; exact hg6, by rw [up_same, List.map_append]; rfl, hT6.upd nca.1 nca.2.1 nca.2.2.1 nca.2.2.2.1 nca.2.2.2.2, by rw [List.length_append]; exact g6, by rw [List.length_append, List.length_append, hpl]; rfl, (plok.mono (by omega) uo).snoc (by omega) (by rw [hpl, u0]; exact lk), by rw [List.length_append, List.length_singleton]; omega, Ext.upd c0 e6⟩
        clear next hT5 g5 g6 comp coarse cg6 plok hg5 hc5
        try (simp only [↓jB2,Bool.true_eq_false,if_false,and_true, *])
        first | omega | exact ⟨by omega, nx _ _ _ _ _ _⟩

def z_abcdefghijklmnopqrstuvwxyz : Str := "abcdefghijklmnopqrstuvwxyz"
/- slots of renamed: 0 formula -/
def a_renamed (A_put : ASp) (A_naming : ASp) : ATS :=
    (aRet (aCall 2 A_put (aCons (aVar 0) (aCons (aCall 1 A_naming (aCons (aTup (aCons (aVar 0) aNil)) aNil)) aNil))))
/- slots of naming: 0 formulas, 1 table, 2 formula, 3 waiting, 4 part -/
def a_naming (A_name_at : ASp) : ATS :=
    (aSeq (aAsg aDNewT (agName 1))
    (aSeq (aFor (aITup (aVar 0)) (agName 2) (aSeq (aAsg (aLst (aCons (aVar 2) aNil)) (agName 3))
    (aWhile (aTruth (aVar 3)) (aSeq (aAsg (aPop (aVar 3)) (agName 4))
    (aIf (aTest (aOp (ρEq true) (aOp ρIx (aVar 4) (aC (.int 0))) (aC (.str z_letter)))) (aExpr (aLm ρExtT (aVar 3) (aCons (aTailR (aVar 4)) aNil))) (aIf (aTest (aOp (ρDInK true) (aOp ρIx (aVar 4) (aC (.int 1))) (aVar 1))) (aDPutT (aVar 1) (aOp ρIx (aVar 4) (aC (.int 1))) (aTup (aCons (aC (.str z_letter)) (aCons (aCall 1 A_name_at (aCons (aCB ρLenDT (aCons (aVar 1) aNil)) aNil)) aNil)))) aNext))))))
    (aRet (aVar 1))))
/- slots of name_at: 0 place, 1 many, 2 at -/
def a_name_at  : ATS :=
    (aSeq (aAsg (aCB ρDivmod (aCons (aVar 0) (aCons (aCB ρLen (aCons (aC (.str z_abcdefghijklmnopqrstuvwxyz)) aNil)) aNil))) (agTup 2 (agCons (agName 1) (agCons (agName 2) agNil))))
    (aSeq (aIf (aTest (aOp (ρEq false) (aVar 1) (aC (.int 0)))) (aRet (aOp ρIx (aC (.str z_abcdefghijklmnopqrstuvwxyz)) (aVar 2))) aNext)
    (aRet (aFs2 (aFmt (aOp ρIx (aC (.str z_abcdefghijklmnopqrstuvwxyz)) (aVar 2))) (aFmt (aOp ρSub (aVar 1) (aC (.int 1))))))))
/- slots of general: 0 steps, 1 formulas -/
def a_general (A_most_general : ASp) (A_reasons_of : ASp) (A_renamed : ASp) : ATS :=
    (aSeq (aAsg (aCall 1 A_most_general (aCons (aCall 1 A_reasons_of (aCons (aVar 0) aNil)) aNil)) (agName 1))
    (aRet (aIfE (aTest (aOp (ρIsN false) (aVar 1) (aC .non))) (aC .non) (aCall 1 A_renamed (aCons (aOp ρIx (aVar 1) (aNeg (aC (.int 1)))) aNil)))))
/- slots of put: 0 formula, 1 table -/
def a_putT (A_put : ASp) : ATS :=
    (aSeq (aIf (aTest (aOp (ρEq false) (aOp ρIx (aVar 0) (aC (.int 0))) (aC (.str z_letter)))) (aRet (aDGet2T (aVar 1) (aOp ρIx (aVar 0) (aC (.int 1))) (aVar 0))) aNext)
    (aSeq (aIf (aTest (aOp (ρEq false) (aOp ρIx (aVar 0) (aC (.int 0))) (aC (.str z_not)))) (aRet (aTup (aCons (aC (.str z_not)) (aCons (aCall 2 A_put (aCons (aOp ρIx (aVar 0) (aC (.int 1))) (aCons (aVar 1) aNil))) aNil)))) aNext)
    (aRet (aTup (aCons (aC (.str z_if)) (aCons (aCall 2 A_put (aCons (aOp ρIx (aVar 0) (aC (.int 1))) (aCons (aVar 1) aNil))) (aCons (aCall 2 A_put (aCons (aOp ρIx (aVar 0) (aC (.int 2))) (aCons (aVar 1) aNil))) aNil)))))))

def lets26 : List Nat := (List.range 26).map (97 + ·)
theorem z26 : z_abcdefghijklmnopqrstuvwxyz.cps.toList = lets26 := by decide +kernel
theorem z26l : z_abcdefghijklmnopqrstuvwxyz.length = 26 := by decide +kernel
def letA (k : Int) : Nat := 97 + (k % 26).toNat
theorem at26 {v : Int} (h0 : 0 ≤ v) (h : v < 26) : atI lets26 v = some (97 + v.toNat) := by
  have e : v = ((v.toNat : Nat) : Int) := by omega
  have hk : v.toNat < 26 := by omega
  rw [e, atIn]
  show ((List.range 26).map (97 + ·))[_]? = _
  rw [List.getElem?_map, List.getElem?_range (by omega)]
  rfl
theorem tos_short {k : Int} (h0 : 0 ≤ k) (h : k < 100) : ((toString k : String) : Str).length ≤ 10 := by
  have all : ∀ j : Fin 100, ((toString ((j.val : Nat) : Int) : String) : Str).length ≤ 10 := by decide +kernel
  have e : k = (((⟨k.toNat, by omega⟩ : Fin 100).val : Nat) : Int) := by show k = ((k.toNat : Nat) : Int); omega
  rw [e]
  exact all _
theorem log_short {k : Int} (h0 : 0 ≤ k) (h : k < 100) : k.natAbs.log2 < 1920 := by
  have z : k.natAbs.log2 ≤ k.natAbs := Nat.log2_le_self _
  omega
def nmI (k : Int) : Str := if k / 26 = 0 then ⟨#[letA k]⟩ else ⟨#[letA k]⟩ ++ ((toString (k / 26 - 1) : String) : Str)
def ltD (s : Str) : D := .tup [.str z_letter, .str s]
def A_name_at : ASp := fun ds M Q _ => ∃ k : Int, ds = [.int k] ∧ 0 ≤ k ∧ k ≤ 1000 ∧ Q (.str (nmI k)) M
theorem p_name_at (ds : List D) (M : Sto) (Q : D → Sto → Prop) (Xa) (hl : ds.length = 1) (h : A_name_at ds M Q Xa) : a_name_at ax0 (Done Q) (startA ["place", "many", "at"] ds) M := by
  obtain ⟨k, rfl, h0, h1, q⟩ := h
  unfold a_name_at
  have e26 := z26
  have l26 := z26l
  have hat : atI lets26 (k % 26) = some (letA k) := at26 (Int.emod_nonneg _ (by omega)) (Int.emod_lt_of_pos _ (by omega))
  have hd0 : 0 ≤ k / 26 := Int.ediv_nonneg h0 (by omega)
  have hd1 : k / 26 < 100 := by omega
  have hc : CDiv k 26 := ⟨by omega, by decide⟩
  have h26 : ((26 : Nat) : Int) = 26 := rfl
  unfold nmI at q
  try (simp only [↓jAe,↓jAl,↓jAd,↓jA3,↓jAp,↓jAi,↓jBj,↓jBl,↓jBq,↓jA0,↓e_c,↓jA8,↓jA1,↓jAf,↓jA9,↓jA7,↓jAt,↓jFp,↓jFh,↓jFl,↓jBd,↓jBo,↓jD6,↓jD7,jAh,CDiv,List.set_cons_zero,List.set_cons_succ,List.getElem?_cons_zero,List.getElem?_cons_succ,List.length_cons,List.length_nil,List.nil_append,List.cons_append,startA,List.map_cons,List.map_nil,List.replicate_succ,List.replicate_zero,Nat.reduceAdd,Nat.reduceSub,Nat.reduceLeDiff,Nat.zero_add,Int.reduceLT,decide_eq_true_eq,true_and,and_self, *])
  by_cases c : k / 26 = 0
  · rw [if_pos c] at q
    try (simp only [Int.reduceNeg,Int.reduceSub,if_true, *])
  · rw [if_neg c] at q
    have hs := tos_short (k := k / 26 - 1) (by omega) (by omega)
    have hg := log_short (k := k / 26 - 1) (by omega) (by omega)
    have hl1 : (⟨#[letA k]⟩ : Str).length = 1 := rfl
    have hla : ((⟨#[letA k]⟩ : Str) ++ ((toString (k / 26 - 1) : String) : Str)).length ≤ 16777216 := by rw [Str.length_append]; omega
    try (simp only [Nat.reduceLeDiff,if_false,and_self, *])


theorem valKs_app {kvs r : List (List Key × D)} {k : List Key} : valKs (kvs ++ r) k = (valKs kvs k).or (valKs r k) := by
  unfold valKs
  rw [List.find?_append]
  cases List.find? (fun kv => decide (kv.1 = k)) kvs <;> rfl
theorem putKs_new {kvs : List (List Key × D)} {k : List Key} {v : D} (h : valKs kvs k = none) : putKs kvs k v = kvs ++ [(k, v)] := by
  unfold putKs
  rw [if_neg]
  intro z
  obtain ⟨kv, m, e⟩ := List.any_eq_true.mp z
  unfold valKs at h
  have h := Option.map_eq_none_iff.mp h
  rw [List.find?_eq_none] at h
  exact h kv m e
def Nms (kvs : List (List Key × D)) (ks : List (List Key)) : Prop := (∀ (i : Nat) k, ks[i]? = some k → valKs kvs k = some (ltD (nmI (i : Int)))) ∧ ∀ k, k ∉ ks → valKs kvs k = none
theorem Nms.add {kvs : List (List Key × D)} {ks : List (List Key)} {k : List Key} (h : Nms kvs ks) (n : k ∉ ks) : Nms (putKs kvs k (ltD (nmI (ks.length : Int)))) (ks ++ [k]) := by
  have e0 := h.2 k n
  rw [putKs_new e0]
  refine ⟨fun i u hu => ?_, fun u hu => ?_⟩
  · rcases snoc_get hu with ⟨_, g⟩ | ⟨rfl, rfl⟩
    · rw [valKs_app, h.1 i u g]; rfl
    · rw [valKs_app, e0]
      unfold valKs
      rw [List.find?_cons_of_pos (by simp)]; rfl
  · rw [valKs_app, h.2 u (fun z => hu (List.mem_append_left _ z))]
    have ne : k ≠ u := fun z => hu (by rw [z]; exact List.mem_append_right _ List.mem_cons_self)
    unfold valKs
    rw [List.find?_cons_of_neg (by simpa using ne)]; rfl
def nmV (s : Str) : Nat := match s.cps.toList with
  | [a] => a - 97
  | [a, b] => (b - 48 + 1) * 26 + (a - 97)
  | _ => 0
theorem nm_all : ∀ i : Fin 130, nmV (nmI (i.val : Int)) = i.val := by decide +kernel
theorem nm_inj {i j : Nat} (hi : i < 130) (hj : j < 130) (e : nmI (i : Int) = nmI (j : Int)) : i = j := by
  have h1 := nm_all ⟨i, hi⟩
  have h2 := nm_all ⟨j, hj⟩
  have h1 : nmV (nmI (i : Int)) = i := h1
  have h2 : nmV (nmI (j : Int)) = j := h2
  rw [← h1, ← h2, e]
def Nf.lets : Nf → List Nat
  | .lt x => [x]
  | .ng p => p.lets
  | .im p q => p.lets ++ q.lets
def Nf.sz : Nf → Nat
  | .lt _ => 1
  | .ng p => p.sz + 1
  | .im p q => p.sz + q.sz + 1
def Nf.fm (τ : Nat → Str) : Nf → Fm
  | .lt x => .lt (τ x)
  | .ng p => .ng (p.fm τ)
  | .im p q => .im (p.fm τ) (q.fm τ)
theorem Nf.all {P : Nat → Prop} : ∀ {g : Nf}, g.All P → ∀ x ∈ g.lets, P x
  | .lt x, h, y, m => by rw [List.mem_singleton.mp m]; exact h
  | .ng p, h, y, m => Nf.all (g := p) h y m
  | .im p q, h, y, m => (List.mem_append.mp m).elim (Nf.all (g := p) h.1 y) (Nf.all (g := q) h.2 y)
theorem Nf.sz_pos : ∀ g : Nf, 1 ≤ g.sz
  | .lt _ => Nat.le_refl _
  | .ng p => by show 1 ≤ p.sz + 1; omega
  | .im p q => by show 1 ≤ p.sz + q.sz + 1; omega
theorem Nf.sub_sz (φ : Nat → Fm) : ∀ g : Nf, g.sz ≤ (g.sub φ).sz
  | .lt x => (φ x).sz_pos
  | .ng p => by have := Nf.sub_sz φ p; show p.sz + 1 ≤ (p.sub φ).sz + 1; omega
  | .im p q => by have := Nf.sub_sz φ p; have := Nf.sub_sz φ q; show p.sz + q.sz + 1 ≤ (p.sub φ).sz + (q.sub φ).sz + 1; omega
theorem Nf.fm_sz (τ : Nat → Str) : ∀ g : Nf, (g.fm τ).sz = g.sz
  | .lt x => rfl
  | .ng p => by show (p.fm τ).sz + 1 = p.sz + 1; rw [Nf.fm_sz τ p]
  | .im p q => by show (p.fm τ).sz + (q.fm τ).sz + 1 = p.sz + q.sz + 1; rw [Nf.fm_sz τ p, Nf.fm_sz τ q]
theorem Nf.fm_sub {τ : Nat → Str} {φ : Nat → Fm} {ρ : Str → Fm} : ∀ {g : Nf}, (∀ x ∈ g.lets, ρ (τ x) = φ x) → (g.fm τ).sub ρ = g.sub φ
  | .lt x, h => h x (List.mem_singleton.mpr rfl)
  | .ng p, h => by show Fm.ng ((p.fm τ).sub ρ) = .ng (p.sub φ); rw [Nf.fm_sub (g := p) h]
  | .im p q, h => by show Fm.im ((p.fm τ).sub ρ) ((q.fm τ).sub ρ) = .im (p.sub φ) (q.sub φ); rw [Nf.fm_sub (g := p) fun x m => h x (List.mem_append_left _ m), Nf.fm_sub (g := q) fun x m => h x (List.mem_append_right _ m)]
theorem nfD_lt (ν : Nat → List Key) (x : Nat) : nfD ν (.lt x) = .tup [.str z_letter, .key (ν x)] := rfl
theorem nfD_ng (ν : Nat → List Key) (p : Nf) : nfD ν (.ng p) = .tup [.str z_not, nfD ν p] := rfl
theorem nfD_im (ν : Nat → List Key) (p q : Nf) : nfD ν (.im p q) = .tup [.str z_if, nfD ν p, nfD ν q] := rfl
def nzs (fs : List Nf) : Nat := (fs.map Nf.sz).sum
theorem nzs_cons (g : Nf) (fs : List Nf) : nzs (g :: fs) = g.sz + nzs fs := by unfold nzs; rw [List.map_cons, List.sum_cons]
theorem nzs_len : ∀ fs : List Nf, fs.length ≤ nzs fs
  | [] => Nat.zero_le _
  | g :: fs => by
    have := nzs_len fs
    have := g.sz_pos
    rw [nzs_cons, List.length_cons]
    omega
def stK (ν : Nat → List Key) (fs : List Nf) : List D := fs.reverse.map (nfD ν)
theorem stK_cons (ν : Nat → List Key) (g : Nf) (fs : List Nf) : stK ν (g :: fs) = stK ν fs ++ [nfD ν g] := by unfold stK; rw [List.reverse_cons, List.map_append]; rfl
theorem stK_len (ν : Nat → List Key) (fs : List Nf) : (stK ν fs).length = fs.length := by unfold stK; rw [List.length_map, List.length_reverse]
theorem stK_nil (ν : Nat → List Key) : stK ν [] = [] := rfl
def A_namingT : ASp := fun ds M Q _ => ∃ (ν : Nat → List Key) (g : Nf), ds = [.tup [nfD ν g]] ∧ g.sz ≤ 130 ∧ ∀ t kvs ks M', Ext M M' → M' t = some (.dtt kvs) → Nms kvs ks → (∀ x ∈ g.lets, ν x ∈ ks) → ks.length ≤ g.sz → Q (.obj t) M'
theorem drop1_2r {a b : D} : (List.drop 1 [a, b]).reverse = [b] := rfl
theorem drop1_3r {a b c : D} : (List.drop 1 [a, b, c]).reverse = [c, b] := rfl
set_option maxHeartbeats 4000000 in
theorem p_namingT (ds : List D) (M : Sto) (Q : D → Sto → Prop) (Xa) (hl : ds.length = 1) (h : A_namingT ds M Q Xa) : a_naming A_name_at ax0 (Done Q) (startA ["formulas", "table", "formula", "waiting", "part"] ds) M := by
  obtain ⟨ν, f, rfl, hsz, q⟩ := h
  unfold a_naming
  try (simp only [↓jAe,↓jAp,↓jAi,↓jA0,↓jA1,↓jA9,↓jA7,↓jA4,↓jFi,↓jAg,↓jB7,jAh,List.set_cons_zero,List.set_cons_succ,List.getElem?_cons_zero,List.getElem?_cons_succ,List.length_cons,List.length_nil,jC1,List.nil_append,List.cons_append,startA,List.map_cons,List.map_nil,List.replicate_succ,List.replicate_zero,Nat.reduceAdd,Nat.reduceSub,Nat.reduceLeDiff,Nat.zero_add,true_and, *])
  intro t nt
  skip
  intro p np
  have npt : p ≠ t := fun z => by subst z; rw [up_same] at np; cases np
  have ntp : t ≠ p := npt.symm
  have np0 : M p = none := by rw [up_ne npt] at np; exact np
  have ht0 : (up (up M t (.dtt [])) p (.lst [nfD ν f])) t = some (.dtt []) := by rw [up_ne npt.symm]; exact up_same
  have e0 : Ext M (up (up M t (.dtt [])) p (.lst [nfD ν f])) := (Ext.new nt).trans (Ext.new np)
  refine while_runN (fun n env M' => ∃ (fs : List Nf) (ks : List (List Key)) (kvs : List (List Key × D)) (x4 : Option D), env = [some (.tup [nfD ν f]), some (.obj t), some (nfD ν f), some (.obj p), x4] ∧ M' p = some (.lst (stK ν fs)) ∧ M' t = some (.dtt kvs) ∧ Nms kvs ks ∧ kvs.length = ks.length ∧ Ext M M' ∧ (∀ x ∈ f.lets, ν x ∈ ks ∨ ∃ g ∈ fs, x ∈ g.lets) ∧ ks.length + nzs fs ≤ f.sz ∧ n = nzs fs) ?_ (n := f.sz)
    ⟨[f], [], [], none, rfl, up_same, ht0, ⟨fun i s h => by simp at h, fun s _ => rfl⟩, rfl, e0, fun x m => .inr ⟨f, List.mem_singleton.mpr rfl, m⟩, by rw [nzs_cons]; show 0 + (f.sz + 0) ≤ _; omega, by rw [nzs_cons]; rfl⟩
  rintro n N env M' ⟨fs, ks, kvs, x4, rfl, h1, h2, hn, hlk, he, ho, hk, rfl⟩ next
  cases fs with
  | nil =>
    have q1 := q t kvs ks M' he h2 hn (fun x m => (ho x m).elim id fun ⟨g, hg, _⟩ => nomatch hg) (by omega)
    rw [stK_nil] at h1
    clear next ho hn e0 ht0 q
    try (simp only [↓jAe,↓jAl,↓jAy,↓jAd,↓jA3,↓jAp,↓jAi,↓jA0,↓e_c,↓jA8,↓jA1,↓jAf,↓jAv,↓jBa,↓jA9,↓jA7,↓jA6,↓jFa,↓jFg,↓jFe,↓jA5,↓jAt,↓jAx,↓jAz,↓jBi,↓jF9,↓jAb,jAh,List.set_cons_zero,List.set_cons_succ,List.getElem?_cons_zero,List.getElem?_cons_succ,List.length_cons,List.length_nil,jBt,List.isEmpty_nil,Nat.reduceAdd,Nat.reduceLeDiff,Nat.zero_add,Bool.not_true,Bool.false_eq_true,if_false,true_and,and_self, *])
    try exact q1
  | cons g fs =>
    rw [stK_cons] at h1
    rw [nzs_cons] at hk next
    have hz := g.sz_pos
    have hln := nzs_len fs
    have hst := stK_len ν fs
    cases g with
    | lt s =>
      have z : (Nf.lt s).sz = 1 := rfl
      rw [nfD_lt] at h1
      by_cases c : ν s ∈ ks
      · obtain ⟨i, hi, ei⟩ := List.mem_iff_getElem.mp c
        have hv := hn.1 i (ν s) (by rw [List.getElem?_eq_getElem hi, ei])
        have nx : ∀ x4, N [some (.tup [nfD ν f]), some (.obj t), some (nfD ν f), some (.obj p), x4] (up M' p (.lst (stK ν fs))) := fun x4 => next (nzs fs) _ _ (by omega) ⟨fs, ks, kvs, x4, rfl, up_same, by rw [up_ne npt.symm]; exact h2, hn, hlk, Ext.upd np0 he, fun x m => by
          rcases ho x m with h | ⟨g, hg, h⟩
          · exact .inl h
          · rcases List.mem_cons.mp hg with e | hg
            · subst e
              rw [List.mem_singleton.mp h]
              exact .inl c
            · exact .inr ⟨g, hg, h⟩, by omega, rfl⟩
        clear next ho hn e0 ht0 q
        try (simp only [↓jAe,↓jAl,↓jAy,↓jAd,↓jA3,↓jAp,↓jAi,↓jA0,↓e_c,↓jA8,↓jA1,↓jAf,↓jAv,↓jBa,↓jA9,↓jA7,↓jA6,↓jFa,↓jFn,↓jFg,↓jFj,↓jFe,↓jA5,↓jAt,↓jAx,↓jAz,↓jBi,↓jF9,↓jB0,↓jAj,↓jAb,jAq,jAm,jAr,jAh,List.set_cons_zero,List.set_cons_succ,List.getElem?_cons_zero,List.getElem?_cons_succ,List.length_cons,List.length_nil,jBt,List.getLast?_concat,List.dropLast_concat,jBg,Nat.reduceAdd,Nat.reduceLeDiff,Nat.zero_add,Option.isSome_some,Bool.not_true,Bool.not_false,Bool.not_eq_eq_eq_not,Bool.false_eq_true,Bool.true_eq_false,if_true,if_false,decide_true,true_and, *])
        try exact nx _
      · have hv := hn.2 (ν s) c
        have hadd := hn.add c
        have hput := putKs_new (v := ltD (nmI (ks.length : Int))) hv
        have nx : ∀ x4, N [some (.tup [nfD ν f]), some (.obj t), some (nfD ν f), some (.obj p), x4] (up (up M' p (.lst (stK ν fs))) t (.dtt (putKs kvs (ν s) (ltD (nmI (ks.length : Int)))))) := fun x4 => next (nzs fs) _ _ (by omega) ⟨fs, ks ++ [ν s], _, x4, rfl, by rw [up_ne npt]; exact up_same, up_same, hadd, by rw [hput, List.length_append, List.length_append, hlk]; rfl, Ext.upd nt (Ext.upd np0 he), fun x m => by
          rcases ho x m with h | ⟨g, hg, h⟩
          · exact .inl (List.mem_append_left _ h)
          · rcases List.mem_cons.mp hg with e | hg
            · subst e
              rw [List.mem_singleton.mp h]
              exact .inl (List.mem_append_right _ List.mem_cons_self)
            · exact .inr ⟨g, hg, h⟩, by rw [List.length_append, List.length_singleton]; omega, rfl⟩
        clear next ho hn e0 ht0 q hadd hput
        have hl16 : ks.length < 16777216 := by omega
        try (simp only [↓jAe,↓jAl,↓jAy,↓jAd,↓jA3,↓jAp,↓jAi,↓jA0,↓e_c,↓jA8,↓jA1,↓jAf,↓jAv,↓jBa,↓jA9,↓jA7,↓jA6,↓jFa,↓jFn,↓jFg,↓jFj,↓jFe,↓jA5,↓jAt,↓jAx,↓jAz,↓jBi,↓jF9,↓jB0,↓jAj,↓jAb,jAq,jAm,jAr,jAh,List.set_cons_zero,List.set_cons_succ,List.getElem?_cons_zero,List.getElem?_cons_succ,List.length_cons,List.length_nil,jBt,List.getLast?_concat,List.dropLast_concat,jBg,Nat.reduceAdd,Nat.reduceLeDiff,Nat.zero_add,Option.isSome_none,Bool.not_true,Bool.not_false,Bool.not_eq_eq_eq_not,Bool.false_eq_true,if_true,if_false,decide_true,true_and, *])
        refine ⟨rfl, _, rfl, by omega, by omega, ?_⟩
        unfold ltD at nx
        try (simp only [jAq,if_false,and_self, *])
        all_goals first | omega | exact ⟨by omega, nx _⟩
    | ng a =>
      have z : (Nf.ng a).sz = a.sz + 1 := rfl
      rw [nfD_ng] at h1
      have za := a.sz_pos
      have nx : ∀ x4, N [some (.tup [nfD ν f]), some (.obj t), some (nfD ν f), some (.obj p), x4] (up (up M' p (.lst (stK ν fs))) p (.lst (stK ν fs ++ [nfD ν a]))) := fun x4 => next (nzs (a :: fs)) _ _ (by rw [nzs_cons]; omega) ⟨a :: fs, ks, kvs, x4, rfl, by rw [up_same, stK_cons], by rw [up_ne npt.symm, up_ne npt.symm]; exact h2, hn, hlk, Ext.upd np0 (Ext.upd np0 he), fun x m => by
          rcases ho x m with h | ⟨g, hg, h⟩
          · exact .inl h
          · rcases List.mem_cons.mp hg with e | hg
            · subst e
              exact .inr ⟨a, List.mem_cons_self, h⟩
            · exact .inr ⟨g, List.mem_cons_of_mem _ hg, h⟩, by rw [nzs_cons]; omega, rfl⟩
      clear next ho hn e0 ht0 q
      have d2 := @drop1_2r (.str z_not) (nfD ν a)
      try (simp only [↓jAe,↓jAl,↓jAy,↓jAd,↓jA3,↓jAp,↓jAi,↓jA0,↓e_c,↓jA8,↓jA1,↓jAf,↓jAv,↓jBa,↓jA9,↓jA7,↓jA6,↓jFa,↓jFg,↓jFe,↓jA5,↓jAt,↓jAx,↓jAz,↓jBi,↓jF9,↓jB0,↓jAj,↓jAb,jAq,jAm,jAr,znl,jAh,List.set_cons_zero,List.set_cons_succ,List.getElem?_cons_zero,List.getElem?_cons_succ,List.length_cons,List.length_nil,jBt,List.getLast?_concat,List.dropLast_concat,jBg,Nat.reduceAdd,Nat.reduceLeDiff,Nat.zero_add,Bool.not_false,if_true,decide_false,true_and,and_true, *])
      all_goals omega
    | im a b =>
      have z : (Nf.im a b).sz = a.sz + b.sz + 1 := rfl
      rw [nfD_im] at h1
      have za := a.sz_pos
      have nx : ∀ x4, N [some (.tup [nfD ν f]), some (.obj t), some (nfD ν f), some (.obj p), x4] (up (up M' p (.lst (stK ν fs))) p (.lst (stK ν fs ++ [nfD ν b, nfD ν a]))) := fun x4 => next (nzs (a :: b :: fs)) _ _ (by rw [nzs_cons, nzs_cons]; omega) ⟨a :: b :: fs, ks, kvs, x4, rfl, by rw [up_same, stK_cons, stK_cons, List.append_assoc]; rfl, by rw [up_ne npt.symm, up_ne npt.symm]; exact h2, hn, hlk, Ext.upd np0 (Ext.upd np0 he), fun x m => by
          rcases ho x m with h | ⟨g, hg, h⟩
          · exact .inl h
          · rcases List.mem_cons.mp hg with e | hg
            · subst e
              rcases List.mem_append.mp h with h | h
              · exact .inr ⟨a, List.mem_cons_self, h⟩
              · exact .inr ⟨b, List.mem_cons_of_mem _ List.mem_cons_self, h⟩
            · exact .inr ⟨g, List.mem_cons_of_mem _ (List.mem_cons_of_mem _ hg), h⟩, by rw [nzs_cons, nzs_cons]; omega, rfl⟩
      clear next ho hn e0 ht0 q
      have d2 := @drop1_3r (.str z_if) (nfD ν a) (nfD ν b)
      try (simp only [↓jAe,↓jAl,↓jAy,↓jAd,↓jA3,↓jAp,↓jAi,↓jA0,↓e_c,↓jA8,↓jA1,↓jAf,↓jAv,↓jBa,↓jA9,↓jA7,↓jA6,↓jFa,↓jFg,↓jFe,↓jA5,↓jAt,↓jAx,↓jAz,↓jBi,↓jF9,↓jB0,↓jAj,↓jAb,jAq,jAm,jAr,zil,jAh,List.set_cons_zero,List.set_cons_succ,List.getElem?_cons_zero,List.getElem?_cons_succ,List.length_cons,List.length_nil,jBt,List.getLast?_concat,List.dropLast_concat,jBg,Nat.reduceAdd,Nat.reduceLeDiff,Nat.zero_add,Bool.not_false,if_true,decide_false,true_and,and_true, *])
      all_goals omega
def A_putN (L : Nat) : ASp := fun ds M Q _ => ∃ (ν : Nat → List Key) (g : Nf) (t : Addr) (kvs : List (List Key × D)) (τ : Nat → Str), ds = [nfD ν g, .obj t] ∧ g.sz ≤ L ∧ M t = some (.dtt kvs) ∧ (∀ x ∈ g.lets, valKs kvs (ν x) = some (ltD (τ x))) ∧ Q (g.fm τ).d M
theorem p_putN (L : Nat) (ds : List D) (M : Sto) (Q : D → Sto → Prop) (Xa) (hl : ds.length = 2) (h : A_putN (L + 1) ds M Q Xa) : a_putT (A_putN L) ax0 (Done Q) (startA ["formula", "table"] ds) M := by
  obtain ⟨ν, g, t, kvs, τ, rfl, hL, ht, hσ, q⟩ := h
  unfold a_putT
  cases g with
  | lt s =>
    rw [nfD_lt]
    have e := hσ s (List.mem_singleton.mpr rfl)
    have q1 : Q (ltD (τ s)) M := q
    clear q
    try (simp only [↓jAe,↓jAl,↓jAd,↓jA3,↓jA0,↓e_c,↓jA8,↓jA1,↓jAf,↓jA9,↓jA7,↓jA6,↓jFa,↓jFf,↓jFj,↓jA5,↓jAo,↓jAj,jAm,jAr,zln,jAh,List.getElem?_cons_zero,List.getElem?_cons_succ,List.length_cons,List.length_nil,List.append_nil,startA,List.map_cons,List.map_nil,List.replicate_zero,Nat.reduceAdd,Nat.reduceSub,Nat.reduceLeDiff,Nat.zero_add,Bool.false_eq_true,if_true,if_false,decide_true,decide_false,true_and, *])
    exact q1
  | ng p =>
    have z : (Nf.ng p).sz = p.sz + 1 := rfl
    rw [nfD_ng]
    have q1 : Q (.tup [.str z_not, (p.fm τ).d]) M := q
    clear q
    try (simp only [↓jAe,↓jAl,↓jAd,↓jA3,↓jA0,↓e_c,↓jA8,↓jA1,↓jAf,↓jA9,↓jA7,↓jA6,↓jFa,↓jFf,↓jA5,↓jAo,↓jAj,jAm,jAr,znl,jAh,List.getElem?_cons_zero,List.getElem?_cons_succ,List.length_cons,List.length_nil,List.append_nil,startA,List.map_cons,List.map_nil,List.replicate_zero,Nat.reduceAdd,Nat.reduceSub,Nat.reduceLeDiff,Nat.zero_add,Bool.false_eq_true,if_true,if_false,decide_true,decide_false,true_and, *])
    refine ⟨rfl, ν, p, t, kvs, τ, rfl, by omega, ht, hσ, ?_⟩
    try (simp only [*])
  | im p r =>
    have z : (Nf.im p r).sz = p.sz + r.sz + 1 := rfl
    rw [nfD_im]
    have q1 : Q (.tup [.str z_if, (p.fm τ).d, (r.fm τ).d]) M := q
    clear q
    try (simp only [↓jAe,↓jAl,↓jAd,↓jA3,↓jA0,↓e_c,↓jA8,↓jA1,↓jAf,↓jA9,↓jA7,↓jA6,↓jFa,↓jFf,↓jA5,↓jAo,↓jAj,jAm,jAr,jBf,zil,zin,jAh,List.getElem?_cons_zero,List.getElem?_cons_succ,List.length_cons,List.length_nil,List.append_nil,startA,List.map_cons,List.map_nil,List.replicate_zero,Nat.reduceAdd,Nat.reduceSub,Nat.reduceLeDiff,Nat.zero_add,Bool.false_eq_true,if_false,decide_false,true_and, *])
    refine ⟨rfl, ν, p, t, kvs, τ, rfl, by omega, ht, fun x m => hσ x (List.mem_append_left _ m), ?_⟩
    try (simp only [*])
    refine ⟨rfl, ν, r, t, kvs, τ, rfl, by omega, ht, fun x m => hσ x (List.mem_append_right _ m), ?_⟩
    try (simp only [*])
def A_ren : ASp := fun ds M Q _ => ∃ (ν : Nat → List Key) (g : Nf), ds = [nfD ν g] ∧ g.sz ≤ 130 ∧ ∀ (τ : Nat → Str) M', (∀ x ∈ g.lets, ∀ y ∈ g.lets, τ x = τ y → ν x = ν y) → Ext M M' → Q (g.fm τ).d M'
theorem p_renamed (ds : List D) (M : Sto) (Q : D → Sto → Prop) (Xa) (hl : ds.length = 1) (h : A_ren ds M Q Xa) : a_renamed (A_putN 130) A_namingT ax0 (Done Q) (startA ["formula"] ds) M := by
  obtain ⟨ν, g, rfl, hsz, q⟩ := h
  unfold a_renamed
  try (simp only [↓jAd,↓jA0,↓jA1,↓jA9,↓jA7,↓jA6,↓jA5,jAh,List.getElem?_cons_zero,List.length_cons,List.length_nil,List.append_nil,startA,List.map_cons,List.map_nil,List.replicate_zero,Nat.reduceSub,Nat.reduceLeDiff,Nat.zero_add,true_and, *])
  refine ⟨rfl, ν, g, rfl, hsz, fun t kvs ks M1 e1 ht hn hin hlen => ?_⟩
  have pos : ∀ x ∈ g.lets, ∃ i : Nat, ks[i]? = some (ν x) := fun x m => by
    obtain ⟨i, hi, e⟩ := List.mem_iff_getElem.mp (hin x m)
    exact ⟨i, by rw [List.getElem?_eq_getElem hi, e]⟩
  obtain ⟨τ, hτ⟩ : ∃ τ : Nat → Nat, ∀ x ∈ g.lets, ks[τ x]? = some (ν x) := ⟨fun x => if m : x ∈ g.lets then Classical.choose (pos x m) else 0, fun x m => by show ks[if m : x ∈ g.lets then Classical.choose (pos x m) else 0]? = _; rw [dif_pos m]; exact Classical.choose_spec (pos x m)⟩
  have q1 := q (fun x => nmI (τ x : Int)) M1 (fun x mx y my e => by
    have h1 := hτ x mx
    have h2 := hτ y my
    have l1 := (List.getElem?_eq_some_iff.mp h1).1
    have l2 := (List.getElem?_eq_some_iff.mp h2).1
    rw [nm_inj (by omega) (by omega) e, h2] at h1
    exact (Option.some.inj h1).symm) e1
  refine ⟨rfl, ν, g, t, kvs, fun x => nmI (τ x : Int), rfl, hsz, ht, fun x m => hn.1 _ _ (hτ x m), ?_⟩
  try (simp only [*])
  try exact q1
def A_general (C : Addr) : ASp := fun ds M Q _ => ∃ (ks : List Int) (t : Stp), ds = [t.d] ∧ (∀ k ∈ ks, 1 ≤ k ∧ k ≤ 6) ∧ t.Ok ks ∧ t.len ≤ 255 ∧ t.f.sz ≤ 130 ∧ ∀ (p : Fm) (ρ : Str → Fm) M', t.f = p.sub ρ → p.sz ≤ t.f.sz → Ext M M' → Q p.d M'
theorem p_general (C : Addr) (ds : List D) (M : Sto) (Q : D → Sto → Prop) (Xa) (hl : ds.length = 1) (h : A_general C ds M Q Xa) : a_general (A_mostgen C) A_reasons A_ren ax0 (Done Q) (startA ["steps", "formulas"] ds) M := by
  obtain ⟨ks, t, rfl, hks, ok, hlen, hsz, q⟩ := h
  unfold a_general
  try (simp only [↓jAe,↓jAd,↓jAp,↓jAi,↓jA0,↓e_c,↓jA8,↓jA1,↓jAf,↓jCj,↓jCf,↓jA9,↓jA7,↓jA5,↓jC6,List.set_cons_zero,List.set_cons_succ,List.getElem?_cons_zero,List.getElem?_cons_succ,List.length_cons,List.length_nil,List.nil_append,List.cons_append,startA,List.map_cons,List.map_nil,List.replicate_succ,List.replicate_zero,Nat.reduceAdd,Nat.reduceSub,Nat.zero_add,Int.reduceNeg, *])
  refine ⟨rfl, ks, t, rfl, ok, by omega, fun p rs M1 ar nh hne hrl hlast np e1 hp => ?_⟩
  refine ⟨rfl, p, ks, rs, rfl, hp, hks, ar, nh, by omega, fun o gs ν φ L M2 no e2 ho hgl hgs inj => ?_⟩
  have e12 := e1.trans e2
  obtain ⟨w, hw⟩ := hlast
  obtain ⟨g, hg⟩ : ∃ g, gs[gs.length - 1]? = some g := ⟨_, List.getElem?_eq_getElem (by have := List.length_pos_iff.mpr hne; omega)⟩
  have hat := at_lastS (f := nfD ν) hg
  obtain ⟨w2, h2, hall⟩ := hgs _ _ hg
  rw [hgl, hw] at h2
  have hf : t.f = g.sub φ := by injection h2 with h2; injection h2
  have gsz := Nf.sub_sz φ g
  rw [← hf] at gsz
  clear hgs no np hp hw h2 hg
  try (simp only [↓jA1,↓jAs,↓jAb,jDb,Int.reduceNeg,Bool.false_eq_true,if_false, *])
  refine ⟨rfl, ν, g, rfl, by omega, fun τ M3 hτ e3 => ?_⟩
  have q1 := q (g.fm τ) (fun s => if h : ∃ x, x ∈ g.lets ∧ τ x = s then φ (Classical.choose h) else .lt s) M3 (by
    rw [hf]
    refine (Nf.fm_sub fun x m => ?_).symm
    have h : ∃ y, y ∈ g.lets ∧ τ y = τ x := ⟨x, m, rfl⟩
    show (if h : ∃ y, y ∈ g.lets ∧ τ y = τ x then φ (Classical.choose h) else _) = _
    rw [dif_pos h]
    have z := Classical.choose_spec h
    rw [inj _ _ (Nf.all hall _ z.1) (Nf.all hall x m) (hτ _ z.1 x m z.2)]) (by rw [Nf.fm_sz]; exact gsz) (e12.trans e3)
  try (simp only [*])
  try exact q1

/- slots of _law_tree_of: 0 lines, 1 k -/
def a__law_tree_of (A__law_tree_of : ASp) : ATS :=
    (aSeq (aIf (aTest (aOp (ρEq false) (aOp ρIx (aOp ρIx (aOp ρIx (aVar 0) (aVar 1)) (aC (.int 1))) (aC (.int 0))) (aC (.str z_axiom)))) (aRet (aOp ρIx (aOp ρIx (aVar 0) (aVar 1)) (aC (.int 1)))) aNext)
    (aRet (aTup (aCons (aC (.str z_detach)) (aCons (aCall 2 A__law_tree_of (aCons (aVar 0) (aCons (aOp ρIx (aOp ρIx (aOp ρIx (aVar 0) (aVar 1)) (aC (.int 1))) (aC (.int 1))) aNil))) (aCons (aCall 2 A__law_tree_of (aCons (aVar 0) (aCons (aOp ρIx (aOp ρIx (aOp ρIx (aVar 0) (aVar 1)) (aC (.int 1))) (aC (.int 2))) aNil))) aNil))))))
/- slots of law: 0 script, 1 box, 2 turn, 3 lines, 4 k, 5 pairs, 6 pair, 7 proof, 8 steps, 9 wide -/
def a_lawT (A__law_box : ASp) (A__law_draw : ASp) (A__law_pairs : ASp) (A__law_instance : ASp) (A_steps_of : ASp) (A__law_same : ASp) (A__law_tree_of : ASp) (A_general : ASp) (A__law_matches : ASp) : ATS :=
    (aSeq (aAsg (aCB ρTuple (aCons (aVar 3) aNil)) (agName 7))
    (aSeq (aAsg (aCall 1 A_steps_of (aCons (aVar 7) aNil)) (agName 8))
    (aSeq (aIf (aNot (aTruth (aCall 2 A__law_same (aCons (aVar 8) (aCons (aCall 2 A__law_tree_of (aCons (aVar 3) (aCons (aOp ρSub (aCB ρLen (aCons (aVar 3) aNil)) (aC (.int 1))) aNil))) aNil))))) (aRet (aC (.bl false))) aNext)
    (aSeq (aAsg (aCall 1 A_general (aCons (aVar 8) aNil)) (agName 9))
    (aIf (aOr (aTest (aOp (ρIsN false) (aVar 9) (aC .non))) (aNot (aTruth (aCall 3 A__law_matches (aCons (aVar 9) (aCons (aOp ρIx (aOp ρIx (aVar 7) (aOp ρSub (aCB ρLen (aCons (aVar 7) aNil)) (aC (.int 1)))) (aC (.int 0))) (aCons aDNew aNil))))))) (aRet (aC (.bl false))) aNext)))))
def a_law (A__law_box : ASp) (A__law_draw : ASp) (A__law_pairs : ASp) (A__law_instance : ASp) (A_steps_of : ASp) (A__law_same : ASp) (A__law_tree_of : ASp) (A_general : ASp) (A__law_matches : ASp) : ATS :=
    (aSeq (aAsg (aCall 3 A__law_box (aCons (aVar 0) (aCons (aC (.int 0)) (aCons (aC (.int 63)) aNil)))) (agName 1))
    (aSeq (aFor (aIRng1 (aCons (aC (.int 3)) aNil)) (agName 2) (aSeq (aAsg (aLst aNil) (agName 3))
    (aSeq (aFor (aIRng1 (aCons (aOp ρAdd (aC (.int 1)) (aCall 2 A__law_draw (aCons (aVar 1) (aCons (aC (.int 8)) aNil)))) aNil)) (agName 4) (aSeq (aAsg (aCall 1 A__law_pairs (aCons (aVar 3) aNil)) (agName 5))
    (aIf (aAnd (aTest (aOp ρGt (aCB ρLen (aCons (aVar 5) aNil)) (aC (.int 0)))) (aTest (aOp (ρEq false) (aCall 2 A__law_draw (aCons (aVar 1) (aCons (aC (.int 2)) aNil))) (aC (.int 0))))) (aSeq (aAsg (aOp ρIx (aVar 5) (aOp ρMod (aCB ρInt (aCons (aCall 2 A__law_draw (aCons (aVar 1) (aCons (aC (.int 1000)) aNil))) aNil)) (aCB ρLen (aCons (aVar 5) aNil)))) (agName 6))
    (aExpr (aLm ρAppend (aVar 3) (aCons (aTup (aCons (aOp ρIx (aOp ρIx (aOp ρIx (aVar 3) (aOp ρIx (aVar 6) (aC (.int 0)))) (aC (.int 0))) (aC (.int 2))) (aCons (aTup (aCons (aC (.str z_detach)) (aCons (aOp ρIx (aVar 6) (aC (.int 0))) (aCons (aOp ρIx (aVar 6) (aC (.int 1))) aNil)))) aNil))) aNil)))) (aExpr (aLm ρAppend (aVar 3) (aCons (aCall 3 A__law_instance (aCons (aVar 1) (aCons (aVar 3) (aCons (aLst (aCons (aC (.int 1)) (aCons (aC (.int 2)) (aCons (aC (.int 3)) (aCons (aC (.int 4)) (aCons (aC (.int 5)) (aCons (aC (.int 6)) aNil))))))) aNil)))) aNil))))))
    (a_lawT A__law_box A__law_draw A__law_pairs A__law_instance A_steps_of A__law_same A__law_tree_of A_general A__law_matches))))
    (aRet (aC (.bl true)))))

def A_law : ASp := fun ds M Q _ => ∃ ns : List Int, ds = [.fl (ns.map D.int)] ∧ ∀ M', Q (.bl true) M'
theorem repL_ints {K : PySem.W.Frag} {H : Hp} : ∀ ns : List Int, RepL K H (ns.map D.int) (ns.map V.int)
  | [] => rfl
  | x :: r => ⟨_, _, rfl, rfl, repL_ints r⟩
theorem law_start {K : PySem.W.Frag} {H : Hp} {a : Addr} {ns : List Int} {A : ASp} (ho : Only H) (hs : SqL K H a (ns.map V.int)) (hA : ∀ Q : D → Sto → Prop, (∀ M, Q (.bl true) M) → A [.fl (ns.map D.int)] (fun _ => none) Q xa0) : conc K 1 A [.ref a] H (fun v _ => v = .bl true) (fun _ _ _ => False) := by
  have hf : SqF K H a (ns.map V.int) := by
    rcases hs with (h | ⟨o, h⟩) | h
    · rcases ho a with z | ⟨o, xs, z⟩
      · rw [z] at h; cases h
      · rw [z] at h; cases h
    · exact .inl ⟨o, h⟩
    · exact .inr h
  refine ⟨[.fl (ns.map D.int)], fun _ => none, fun d _ => d = .bl true, xa0, rfl, ⟨_, _, rfl, ⟨a, _, rfl, hf, repL_ints ns⟩, rfl⟩, (fun a mo h => nomatch h), (fun P hP => absurd hP (by simp [tabs])), hA _ fun M => rfl, fun v H' d M' t r q => ?_, fun cls d H' M' fs t r q => q⟩
  subst q
  exact r

theorem Stp.plain : ∀ t : Stp, t.d.plain
  | .ax _ k => ⟨by show 2 ≤ _; decide, trivial, trivial, trivial⟩
  | .dt _ p q => ⟨by show 3 ≤ _; decide, trivial, Stp.plain p, Stp.plain q, trivial⟩
theorem Stp.dep : ∀ t : Stp, t.d.dep ≤ t.dp
  | .ax _ k => Nat.le_refl _
  | .dt _ p q => by
    have := Stp.dep p
    have := Stp.dep q
    show max 0 (max p.d.dep (max q.d.dep 0)) + 1 ≤ max p.dp q.dp + 1
    omega
def A_tree (L : Nat) : ASp := fun ds M Q _ => ∃ (l : Addr) (ls : List Ln) (k : Nat) (t : Stp), ds = [.obj l, .int (k : Nat)] ∧ M l = some (.lst (ls.map lnD)) ∧ TrOf ls k t ∧ t.dp ≤ L ∧ Q t.d M
theorem p__law_tree_of (L : Nat) (ds : List D) (M : Sto) (Q : D → Sto → Prop) (Xa) (hl : ds.length = 2) (h : A_tree (L + 1) ds M Q Xa) : a__law_tree_of (A_tree L) ax0 (Done Q) (startA ["lines", "k"] ds) M := by
  obtain ⟨l, ls, k, t, rfl, hls, ht, hL, q⟩ := h
  unfold a__law_tree_of
  have zz1 := zad
  have zz2 : (z_detach = z_axiom) = False := eq_false (by decide +kernel)
  cases ht with
  | @ax _ f m h =>
    have hat := at_ln h
    have hd : lnD (f, .ax m) = .tup [f.d, .tup [.str z_axiom, .int m]] := rfl
    have q1 : Q (.tup [.str z_axiom, .int m]) M := q
    clear q
    try (simp only [↓jAe,↓jAl,↓jAd,↓jA3,↓jA0,↓e_c,↓jA8,↓jA1,↓jAf,↓jA9,↓jA7,↓jA6,↓jA5,↓jAo,↓jAj,↓jAs,↓jAb,jAm,jAr,jAh,List.getElem?_cons_zero,List.getElem?_cons_succ,List.length_cons,List.length_nil,List.append_nil,startA,List.map_cons,List.map_nil,List.replicate_zero,Nat.reduceAdd,Nat.reduceSub,Nat.reduceLeDiff,Nat.zero_add,if_true,decide_true,true_and, *])
  | @dt _ f i j p r h hi hj a b =>
    have hat := at_ln h
    have hd : lnD (f, .dt (i : Nat) (j : Nat)) = .tup [f.d, .tup [.str z_detach, .int (i : Nat), .int (j : Nat)]] := rfl
    have q1 : Q (.tup [.str z_detach, p.d, r.d]) M := q
    have hL : max p.dp r.dp + 1 ≤ L + 1 := hL
    clear q
    try (simp only [↓jAe,↓jAl,↓jAd,↓jA3,↓jA0,↓e_c,↓jA8,↓jA1,↓jAf,↓jA9,↓jA7,↓jA6,↓jA5,↓jAo,↓jAj,↓jAs,↓jAb,jAm,jAr,jAh,List.getElem?_cons_zero,List.getElem?_cons_succ,List.length_cons,List.length_nil,List.append_nil,startA,List.map_cons,List.map_nil,List.replicate_zero,Nat.reduceAdd,Nat.reduceSub,Nat.reduceLeDiff,Nat.zero_add,Bool.false_eq_true,if_false,decide_false,true_and, *])
    refine ⟨rfl, l, ls, i, p, rfl, hls, a, by omega, ?_⟩
    try (simp only [↓jA1,↓jAj,jAr,jBf, *])
    refine ⟨rfl, l, ls, j, r, rfl, hls, b, by omega, ?_⟩
    try (simp only [*])
theorem TrOf.ex {ks : List Int} {ls : List Ln} (ar : AllRight ks ls) (nh : ∀ l ∈ ls, l.2 ≠ .hy) : ∀ (n k : Nat), k < n → k < ls.length → ∃ t, TrOf ls k t
  | 0, k, h, _ => absurd h (Nat.not_lt_zero _)
  | n + 1, k, hn, hk => by
    obtain ⟨⟨f, w⟩, hf⟩ : ∃ l, ls[k]? = some l := ⟨_, List.getElem?_eq_getElem hk⟩
    have hr := ar _ _ hf
    cases w with
    | ax m => exact ⟨_, .ax hf⟩
    | hy => exact absurd rfl (nh _ (List.mem_of_getElem? hf))
    | dt i j =>
      obtain ⟨i', j', c, w, u, b1, b2, b3, b4, b5, b6⟩ := hr
      subst b1 b2
      obtain ⟨p, hp⟩ := TrOf.ex ar nh n i' (by omega) (by omega)
      obtain ⟨q, hq⟩ := TrOf.ex ar nh n j' (by omega) (by omega)
      exact ⟨_, .dt hf b3 b4 hp hq⟩
def ks6 : List Int := [1, 2, 3, 4, 5, 6]
theorem ks6_ok : ∀ k ∈ ks6, 1 ≤ k ∧ k ≤ 6 := by decide
theorem BoxAt.extX {M M' : Sto} {b d u : Addr} (h : BoxAt M b d) (h1 : b ≠ u) (h2 : d ≠ u) (e : ExtB u M M') : BoxAt M' b d := by
  obtain ⟨zs, n, z1, z2, z3, z4⟩ := h
  exact ⟨zs, n, e _ _ h1 z1, e _ _ h2 z2, z3, z4⟩
set_option maxHeartbeats 4000000 in
theorem p_lawT (C : Addr) {ns : List Int} {b d l : Addr} {ls : List Ln} {x2 x4 x5 x6 x7 x8 x9 : Option D} {M : Sto} {De : AEnds}
    (hb : BoxAt M b d) (hl : M l = some (.lst (ls.map lnD))) (nbl : b ≠ l) (hne : ls ≠ []) (hlen : ls.length ≤ 8) (hlg : ∀ z ∈ ls, Lg z.1) (ar : AllRight ks6 ls) (nh : ∀ z ∈ ls, z.2 ≠ .hy) (next : ∀ x7 x8 x9 M', BoxAt M' b d → De.nx [some (.fl (ns.map D.int)), some (.obj b), x2, some (.obj l), x4, x5, x6, x7, x8, x9] M') :
    a_lawT A_box A_draw A_pairs A_inst A_steps_of (A_same 200) (A_tree 20) (A_general C) (A_matches 130) ax0 De [some (.fl (ns.map D.int)), some (.obj b), x2, some (.obj l), x4, x5, x6, x7, x8, x9] M := by
  have pos : 0 < ls.length := List.length_pos_iff.mpr hne
  obtain ⟨t, ht⟩ := TrOf.ex ar nh ls.length (ls.length - 1) (by omega) (by omega)
  obtain ⟨w, hf⟩ := ht.fm
  have lgt : Lg t.f := hlg _ (List.mem_of_getElem? hf)
  have tl := ht.len
  have td := ht.dp
  have tdep := t.dep
  have ok := ht.ok ar
  have tlen : t.len ≤ 255 := by
    have : 2 ^ (ls.length - 1 + 1) ≤ 2 ^ 8 := Nat.pow_le_pow_right (by omega) (by omega)
    have e : (2 : Nat) ^ 8 = 256 := rfl
    omega
  have hatI : atI (ls.map lnD) ((ls.length - 1 : Nat) : Int) = some (.tup [t.f.d, w.d]) := at_ln hf
  have il : ((ls.length : Int) - 1) = ((ls.length - 1 : Nat) : Int) := by omega
  unfold a_lawT
  try (simp only [↓jAe,↓jAl,↓jAd,↓jA3,↓jAp,↓jAi,↓jA0,↓e_c,↓jA8,↓jA1,↓jAf,↓jAa,↓jAn,↓jAv,↓jA9,↓jA7,↓jB6,↓jA5,↓jAt,↓jBd,↓jC6,↓jAj,↓jBr,↓jBe,↓jC9,↓jAb,jAm,List.set_cons_zero,List.set_cons_succ,List.getElem?_cons_zero,List.getElem?_cons_succ,List.length_map,Bool.not_true,Bool.not_eq_eq_eq_not,if_true, *])
  refine ⟨rfl, ks6, ls, rfl, ar, nh, hne, by omega, fun t' M1 ht' e1 => ?_⟩
  have et := ht'.one ht
  subst et
  have hl1 := e1 _ _ hl
  have hb1 := hb.ext e1
  have ml : (ls.map lnD).length = ls.length := List.length_map _
  try (simp only [*])
  refine ⟨rfl, l, ls, ls.length - 1, t', rfl, hl1, ht, by omega, ?_⟩
  try (simp only [*])
  refine ⟨rfl, t'.d, rfl, t'.plain, by omega, ?_⟩
  try (simp only [↓jB2,Bool.true_eq_false,if_false, *])
  refine ⟨rfl, ks6, t', rfl, ks6_ok, ok, tlen, by have := lgt.1; omega, fun p ρ M2 hp hpz e2 => ?_⟩
  have isn : isNon p.d = false := by cases p <;> rfl
  have hb2 := hb1.ext e2
  have mtT : (mt p t'.f []).1 = true := by
    rw [hp]
    exact (mt_sub p [] (fun s g h => nomatch h)).1
  clear hp
  try (simp only [Bool.false_eq_true,if_false, *])
  intro u nu
  have hb3 := hb2.new (mo := .dic []) nu
  have nbu := hb2.fresh nu
  have hu : up M2 u (.dic []) u = some (.dic (TbD [])) := up_same
  clear e1 hl1 hb1 e2 hb2 nu hl
  generalize up M2 u (.dic []) = M3 at *
  skip
  refine ⟨rfl, p, t'.f, u, [], rfl, by have := lgt.1; omega, hu, by have := lgt.1; show 0 + _ ≤ _; omega, lgt.small, (fun z h => nomatch h), fun M4 h4 e4 => ?_⟩
  have hb4 := hb3.extX nbu.1 nbu.2 e4
  have g := fun x7 x8 x9 => next x7 x8 x9 M4 hb4
  clear next
  try (simp only [↓jB2,Bool.true_eq_false,if_false, *])
  try exact g _ _ _
set_option maxHeartbeats 4000000 in
theorem p_law (C : Addr) (ds : List D) (M : Sto) (Q : D → Sto → Prop) (Xa) (hl : ds.length = 1) (h : A_law ds M Q Xa) : a_law A_box A_draw A_pairs A_inst A_steps_of (A_same 200) (A_tree 20) (A_general C) (A_matches 130) ax0 (Done Q) (startA ["script", "box", "turn", "lines", "k", "pairs", "pair", "proof", "steps", "wide"] ds) M := by
  obtain ⟨ns, rfl, q⟩ := h
  unfold a_law
  try (simp only [↓jAe,↓jAp,↓jAi,↓jA0,↓e_c,↓jA1,↓jA9,↓jA7,↓jA5,↓jAg,↓jBh,List.set_cons_zero,List.set_cons_succ,List.getElem?_cons_zero,List.length_cons,List.length_nil,List.nil_append,List.cons_append,startA,List.map_cons,List.map_nil,List.replicate_succ,List.replicate_zero,Nat.reduceAdd,Nat.reduceSub,Nat.zero_add,Int.reduceLE,Int.reduceLT,Int.reduceToNat,Int.reducePow,Int.reduceNeg,true_and, *])
  refine ⟨rfl, ns, 63, rfl, by omega, by omega, fun b d M1 hb0 hd0 e1 hb => ?_⟩
  clear hb0 hd0 e1
  try (simp only [*])
  refine for_run (fun ds env M' => ∃ (k m : Nat) (x2 x3 x4 x5 x6 x7 x8 x9 : Option D), ds = rngD (k : Int) m ∧ env = [some (.fl (ns.map D.int)), some (.obj b), x2, x3, x4, x5, x6, x7, x8, x9] ∧ BoxAt M' b d) (fun _ _ _ _ => trivial) ?_ ?_ ⟨0, 3, none, none, none, none, none, none, none, none, rfl, rfl, hb⟩
  · rintro env M2 ⟨k, m, x2, x3, x4, x5, x6, x7, x8, x9, hd, rfl, hb2⟩
    clear hd
    try (simp only [↓jAd,↓e_c, *])
  · rintro y r N env M2 ⟨k, m, x2, x3, x4, x5, x6, x7, x8, x9, hd, rfl, hb2⟩ next
    obtain ⟨m, rfl, rfl, rfl⟩ := rngD_cons hd.symm
    have nx : ∀ x3 x4 x5 x6 x7 x8 x9 M', BoxAt M' b d → N [some (.fl (ns.map D.int)), some (.obj b), some (.int (k : Int)), x3, x4, x5, x6, x7, x8, x9] M' := fun x3 x4 x5 x6 x7 x8 x9 M' h => next _ _ ⟨k + 1, m, _, _, _, _, _, _, _, _, by rw [show ((k : Int) + 1) = ((k + 1 : Nat) : Int) by omega], rfl, h⟩
    clear hd next
    replace nx := Hid.mk nx
    try (simp only [↓jAe,↓jAp,↓jAi,↓jA0,↓e_c,↓jA8,↓jA1,↓jA9,↓jA7,↓jA4,↓jA5,↓jAg,↓jBh,jAh,List.set_cons_zero,List.set_cons_succ,List.getElem?_cons_zero,List.getElem?_cons_succ,List.length_nil,Nat.reduceLeDiff,Int.reducePow,Int.reduceNeg,true_and, *])
    intro l nl
    have nbl := hb2.fresh nl
    have hb3 := hb2.new (mo := .lst []) nl
    have hl3 : up M2 l (.lst []) l = some (.lst (([] : List Ln).map lnD)) := up_same
    clear hb2 nl
    generalize up M2 l (.lst []) = M3 at *
    refine ⟨rfl, b, d, 8, rfl, hb3, by omega, fun v M4 v0 v8 hb4 e4 => ?_⟩
    have hl4 := e4 _ _ nbl.1.symm hl3
    clear hb3 hl3 e4
    have hcnt : ∃ n : Nat, 1 + v = (n : Int) ∧ 1 ≤ n ∧ n ≤ 8 := ⟨(1 + v).toNat, by omega, by omega, by omega⟩
    obtain ⟨n, hn, n1, n8⟩ := hcnt
    have hn2 : (n : Int) < 4611686018427387904 := by omega
    try (simp only [↓jCl,Int.reduceNeg,true_and, *])
    refine ⟨by omega, ?_⟩
    refine for_run (fun ds env M' => ∃ (j m : Nat) (x4 x5 x6 : Option D) (ls : List Ln), ds = rngD (j : Int) m ∧ j + m = n ∧ env = [some (.fl (ns.map D.int)), some (.obj b), some (.int (k : Int)), some (.obj l), x4, x5, x6, x7, x8, x9] ∧ BoxAt M' b d ∧ M' l = some (.lst (ls.map lnD)) ∧ ls.length = j ∧ (∀ z ∈ ls, Lg z.1) ∧ AllRight ks6 ls ∧ ∀ z ∈ ls, z.2 ≠ .hy) (fun _ _ _ _ => trivial) ?_ ?_ ⟨0, n, x4, x5, x6, [], by rw [Int.toNat_natCast]; rfl, Nat.zero_add _, rfl, hb4, hl4, rfl, (fun z h => nomatch h), (fun k l h => by simp at h), fun z h => nomatch h⟩
    · rintro env M5 ⟨j, m, x4, x5, x6, ls, hd, hjm, rfl, hb5, hl5, hlen, hlg, ar, nh⟩
      have hz := rngD_nil hd.symm
      subst hz
      clear hd
      have g := p_lawT C (De := { nx := N, rt := Q, bk := aRet (aC (D.bl true)) ax0 (Done Q), ct := N }) (ns := ns) (x2 := some (.int (k : Int))) (x4 := x4) (x5 := x5) (x6 := x6) (x7 := x7) (x8 := x8) (x9 := x9) hb5 hl5 nbl.1 (fun e => by rw [e] at hlen; have : 0 = j := hlen; omega) (by omega) hlg ar nh (fun x7 x8 x9 M' h => nx.out _ _ _ _ _ _ _ M' h)
      exact g
    · rintro y r N2 env M5 ⟨j, m, x4, x5, x6, ls, hd, hjm, rfl, hb5, hl5, hlen, hlg, ar, nh⟩ next2
      obtain ⟨m, rfl, rfl, rfl⟩ := rngD_cons hd.symm
      clear hd hb4 hl4
      have hsm : ∀ z ∈ ls, z.1.Small := fun z h => (hlg z h).small
      have nx2 : ∀ (f : Fm) (w : Wy) x5 x6 M', Lg f → RightLn ks6 ls ls.length (f, w) → w ≠ .hy → BoxAt M' b d → M' l = some (.lst (ls.map lnD ++ [lnD (f, w)])) → N2 [some (.fl (ns.map D.int)), some (.obj b), some (.int (k : Int)), some (.obj l), some (.int (j : Int)), x5, x6, x7, x8, x9] M' := fun f w x5 x6 M' h1 h2 h3 h4 h5 => next2 _ _ ⟨j + 1, m, _, _, _, ls ++ [(f, w)], by rw [show ((j : Int) + 1) = ((j + 1 : Nat) : Int) by omega], by omega, rfl, h4, by rw [h5, List.map_append]; rfl, by rw [List.length_append, hlen]; rfl, fun z hz => by
        rcases List.mem_append.mp hz with h | h
        · exact hlg z h
        · rw [List.mem_singleton.mp h]; exact h1, ar.snoc h2, fun z hz => by
        rcases List.mem_append.mp hz with h | h
        · exact nh z h
        · rw [List.mem_singleton.mp h]; exact h3⟩
      clear next2 hn2
      replace nx2 := Hid.mk nx2
      try (simp only [↓jAe,↓jAy,↓jA3,↓jAp,↓jAi,↓jA0,↓e_c,↓jA8,↓jA1,↓jAf,↓jA2,↓jA9,↓jA7,↓jA6,↓jA4,↓jA5,↓jAt,↓jAx,↓jAw,↓jAb,jAh,List.set_cons_zero,List.set_cons_succ,List.getElem?_cons_zero,List.getElem?_cons_succ,List.length_cons,List.length_nil,Nat.reduceAdd,Nat.reduceLeDiff,Nat.zero_add,Bool.false_eq_true,if_false,true_and, *])
      refine ⟨rfl, l, ls, rfl, hl5, by omega, hsm, fun a ps M6 na e6 ha hps hpl => ?_⟩
      have hl6 := e6 _ _ hl5
      have hb6 := hb5.ext e6
      have nab : a ≠ b := fun z => by
        subst z
        obtain ⟨_, _, z1, _⟩ := hb5
        rw [na] at z1
        cases z1
      have psl : (ps.map prD).length = ps.length := List.length_map _
      clear hb5 hl5 e6 na
      try (simp only [↓jBd,↓jBe,↓jAb,decide_eq_true_eq, *])
      have inst : ∀ (M7 : Sto), BoxAt M7 b d → M7 l = some (.lst (ls.map lnD)) → ∀ x, M7 x = none → Wait 3 A_inst [.obj b, .obj l, .obj x] (up M7 x (.lst [.int 1, .int 2, .int 3, .int 4, .int 5, .int 6])) fun z M1 => match M1 l with
          | some (.lst ds) => ds.length < 16777216 ∧ N2 [some (.fl (ns.map D.int)), some (.obj b), some (.int (k : Int)), some (.obj l), some (.int (j : Int)), some (.obj a), x6, x7, x8, x9] (up M1 l (.lst (ds ++ [z])))
          | _ => False := fun M7 hb7 hl7 x nx7 => by
        have nxb := (hb7.fresh nx7).1
        have hb8 := hb7.new (mo := .lst [.int 1, .int 2, .int 3, .int 4, .int 5, .int 6]) nx7
        have hx8 : (up M7 x (.lst [.int 1, .int 2, .int 3, .int 4, .int 5, .int 6])) x = some (.lst (ks6.map D.int)) := up_same
        have hl8 := (Ext.new (mo := .lst [.int 1, .int 2, .int 3, .int 4, .int 5, .int 6]) nx7) _ _ hl7
        generalize up M7 x (.lst [.int 1, .int 2, .int 3, .int 4, .int 5, .int 6]) = M8 at *
        refine ⟨rfl, b, d, l, x, ls, ks6, rfl, hb8, nbl.1, nxb, hl8, by omega, hlg, hx8, by decide, by decide, ks6_ok, fun f n M9 hf hn hin hb9 e9 => ?_⟩
        have hl9 := e9 _ _ nbl.1.symm hl8
        have g := nx2.out f (.ax n) (some (.obj a)) x6 (up M9 l (.lst (ls.map lnD ++ [lnD (f, .ax n)]))) hf ⟨hn, hin⟩ (fun z => nomatch z) (hb9.upd nbl.1 nbl.2) up_same
        simp only [hl9]
        exact ⟨by rw [List.length_map]; omega, g⟩
      replace inst := Hid.mk inst
      by_cases c4 : (0 : Int) < (ps.length : Int)
      · rw [if_pos c4]
        refine ⟨rfl, b, d, 2, rfl, hb6, by omega, fun v2 M7 w0 w2 hb7 e7 => ?_⟩
        have hl7 := e7 _ _ nbl.1.symm hl6
        have ha7 := e7 _ _ nab ha
        clear hb6 hl6 e7 ha
        try (simp only [↓jBo,decide_eq_true_eq, *])
        by_cases c5 : v2 = 0
        · subst c5
          try (simp only [if_true, *])
          refine ⟨rfl, b, d, 1000, rfl, hb7, by decide, fun v3 M8 u0 u1 hb8 e8 => ?_⟩
          have hl8 := e8 _ _ nbl.1.symm hl7
          have ha8 := e8 _ _ nab ha7
          clear hb7 hl7 e8 ha7
          have hk : (v3 % (ps.length : Int)).toNat < ps.length := by have := Int.emod_lt_of_pos v3 c4; have := Int.emod_nonneg v3 (show (ps.length : Int) ≠ 0 by omega); omega
          obtain ⟨⟨i, j2⟩, hz⟩ : ∃ z, ps[(v3 % (ps.length : Int)).toNat]? = some z := ⟨_, List.getElem?_eq_getElem hk⟩
          obtain ⟨c, e, w, u, g1, g2⟩ := hps _ (List.mem_of_getElem? hz)
          have i1 := (List.getElem?_eq_some_iff.mp g1).1
          have j1 := (List.getElem?_eq_some_iff.mp g2).1
          have at1 : atI (ps.map prD) (v3 % (ps.length : Int)) = some (.tup [.int i, .int j2]) := by
            have z : atI (ps.map prD) (((v3 % (ps.length : Int)).toNat : Nat) : Int) = some (prD (i, j2)) := by rw [atIn, List.getElem?_map, hz]; rfl
            rw [Int.toNat_of_nonneg (Int.emod_nonneg v3 (by omega))] at z
            exact z
          have at2 := at_ln g1
          have hd2 : lnD (Fm.im c e, w) = .tup [.tup [.str z_if, c.d, e.d], w.d] := rfl
          have lge : Lg e := (hlg _ (List.mem_of_getElem? g1)).im.2
          have g := fun x5 x6 => nx2.out e (.dt i j2) x5 x6 (up M8 l (.lst (ls.map lnD ++ [lnD (e, .dt (i : Int) (j2 : Int))]))) lge ⟨i, j2, c, w, u, rfl, rfl, i1, j1, g1, g2⟩ (fun z => nomatch z) (hb8.upd nbl.1 nbl.2) up_same
          have gd : lnD (e, Wy.dt (i : Int) (j2 : Int)) = .tup [e.d, .tup [.str z_detach, .int i, .int j2]] := rfl
          rw [gd] at g
          have hlm : (ls.map lnD).length = ls.length := List.length_map _
          clear inst nx2
          try (simp only [↓jA1,↓e_I,↓jAj,↓jAs,↓jCd,↓jAb,jAm,jAr,jBf,true_and,and_true, *])
          first | omega | exact ⟨by omega, g _ _⟩
        · try (simp only [if_false, *])
          intro x nx7
          exact inst.out M7 hb7 hl7 x nx7
      · rw [if_neg c4]
        skip
        intro x nx7
        exact inst.out M6 hb6 hl6 x nx7

theorem EntsOk.nil {K : PySem.W.Frag} {w : World} : EntsOk K w [] [] := trivial
theorem EntsOk.cons {K : PySem.W.Frag} {w : World} {e : DictEntry} {es : List DictEntry} {k : Key} {d : D} {tab : List (Key × D)} (h1 : keyIs k e.key = true) (h2 : e.hash = keyH w k) (h3 : RepW K d e.val) (h4 : EntsOk K w es tab) : EntsOk K w (e :: es) ((k, d) :: tab) := ⟨h1, h2, h3, h4⟩
theorem WDct.of {K : PySem.W.Frag} {w : World} {a : Addr} {tab : List (Key × D)} {es : Array DictEntry} {n : Nat} (l : K.lookup a = some ⟨.type "dict", none, .dict es n, #[]⟩) (e : EntsOk K w es.toList tab) (low : (a == sysModules) = false) : WDct K w a tab := ⟨⟨es, n, l, e⟩, low⟩
theorem KW.int (i : Int) (t : Tok) : keyIs (.inl i) (.int i t) = true := keyIs_int i t
theorem KW.str (x : Str) (t : Tok) : keyIs (.inr x) (.str x t) = true := keyIs_str x t
theorem PW.nil {K : PySem.W.Frag} : Paired (RepW K) [] [] := .nil
theorem PW.cons {K : PySem.W.Frag} {d : D} {u : Value} {ds : List D} {us : List Value} (h : RepW K d u) (r : Paired (RepW K) ds us) : Paired (RepW K) (d :: ds) (u :: us) := .cons h r

def topS (i : Nat) : Stmt := PySem.Challenge.pw_conceptscript_k83_steps_of_proofs.main.body.getD i (.Pass ⟨0, 0, 0, 0⟩)
def bodS : Stmt → List Stmt
  | .ClassDef _ _ _ b _ _ _ _ _ _ _ => b
  | _ => []
def clsS (i j : Nat) : Stmt := (bodS (topS i)).getD j (.Pass ⟨0, 0, 0, 0⟩)
abbrev s_letters : Stmt := topS 2
theorem sc_letters : FnScope ["formula", "names", "waiting", "part"] ["formula"] (defScope s_letters) := ⟨rfl, rfl, rfl, by decide +kernel, rfl, by decide +kernel, by decide +kernel⟩
abbrev s_put : Stmt := topS 3
theorem sc_put : FnScope ["formula", "table"] ["formula", "table"] (defScope s_put) := ⟨rfl, rfl, rfl, by decide +kernel, rfl, by decide +kernel, by decide +kernel⟩
abbrev s_axiom : Stmt := topS 4
theorem sc_axiom : FnScope ["k"] ["k"] (defScope s_axiom) := ⟨rfl, rfl, rfl, by decide +kernel, rfl, by decide +kernel, by decide +kernel⟩
abbrev s_Terms___init__ : Stmt := clsS 6 0
theorem sc_Terms___init__ : FnScope ["self"] ["self"] (defScope s_Terms___init__) := ⟨rfl, rfl, rfl, by decide +kernel, rfl, by decide +kernel, by decide +kernel⟩
abbrev s_Terms_added : Stmt := clsS 6 1
theorem sc_Terms_added : FnScope ["self", "head", "tail"] ["self", "head", "tail"] (defScope s_Terms_added) := ⟨rfl, rfl, rfl, by decide +kernel, rfl, by decide +kernel, by decide +kernel⟩
abbrev s_Terms_letter : Stmt := clsS 6 2
theorem sc_Terms_letter : FnScope ["self", "name", "x"] ["self", "name"] (defScope s_Terms_letter) := ⟨rfl, rfl, rfl, by decide +kernel, rfl, by decide +kernel, by decide +kernel⟩
abbrev s_Terms_conditional : Stmt := clsS 6 3
theorem sc_Terms_conditional : FnScope ["self", "condition", "consequence"] ["self", "condition", "consequence"] (defScope s_Terms_conditional) := ⟨rfl, rfl, rfl, by decide +kernel, rfl, by decide +kernel, by decide +kernel⟩
abbrev s_Terms_entered : Stmt := clsS 6 4
theorem sc_Terms_entered : FnScope ["self", "formula", "table", "part"] ["self", "formula", "table"] (defScope s_Terms_entered) := ⟨rfl, rfl, rfl, by decide +kernel, rfl, by decide +kernel, by decide +kernel⟩
abbrev s_Terms_root : Stmt := clsS 6 5
theorem sc_Terms_root : FnScope ["self", "x"] ["self", "x"] (defScope s_Terms_root) := ⟨rfl, rfl, rfl, by decide +kernel, rfl, by decide +kernel, by decide +kernel⟩
abbrev s_Terms_made_same : Stmt := clsS 6 6
theorem sc_Terms_made_same : FnScope ["self", "x", "y", "waiting", "first", "second"] ["self", "x", "y"] (defScope s_Terms_made_same) := ⟨rfl, rfl, rfl, by decide +kernel, rfl, by decide +kernel, by decide +kernel⟩
abbrev s_Terms_solved : Stmt := clsS 6 7
theorem sc_Terms_solved : FnScope ["self", "order", "found", "x", "tail", "part"] ["self"] (defScope s_Terms_solved) := ⟨rfl, rfl, rfl, by decide +kernel, rfl, by decide +kernel, by decide +kernel⟩
abbrev s_Terms_users : Stmt := clsS 6 8
theorem sc_Terms_users : FnScope ["self", "found", "x", "tail", "part"] ["self"] (defScope s_Terms_users) := ⟨rfl, rfl, rfl, by decide +kernel, rfl, by decide +kernel, by decide +kernel⟩
abbrev s_parts_first : Stmt := topS 7
theorem sc_parts_first : FnScope ["users", "many", "missing", "order", "place", "whole", "x", "parts"] ["users", "many"] (defScope s_parts_first) := ⟨rfl, rfl, rfl, by decide +kernel, rfl, by decide +kernel, by decide +kernel⟩
abbrev s_renamed : Stmt := topS 10
theorem sc_renamed : FnScope ["formula"] ["formula"] (defScope s_renamed) := ⟨rfl, rfl, rfl, by decide +kernel, rfl, by decide +kernel, by decide +kernel⟩
abbrev s_naming : Stmt := topS 11
theorem sc_naming : FnScope ["formulas", "table", "formula", "waiting", "part"] ["formulas"] (defScope s_naming) := ⟨rfl, rfl, rfl, by decide +kernel, rfl, by decide +kernel, by decide +kernel⟩
abbrev s_name_at : Stmt := topS 12
theorem sc_name_at : FnScope ["place", "many", "at"] ["place"] (defScope s_name_at) := ⟨rfl, rfl, rfl, by decide +kernel, rfl, by decide +kernel, by decide +kernel⟩
abbrev s_steps_of : Stmt := topS 14
theorem sc_steps_of : FnScope ["proof", "steps", "_", "why"] ["proof"] (defScope s_steps_of) := ⟨rfl, rfl, rfl, by decide +kernel, rfl, by decide +kernel, by decide +kernel⟩
abbrev s_general : Stmt := topS 15
theorem sc_general : FnScope ["steps", "formulas"] ["steps"] (defScope s_general) := ⟨rfl, rfl, rfl, by decide +kernel, rfl, by decide +kernel, by decide +kernel⟩
abbrev s_reasons_of : Stmt := topS 16
theorem sc_reasons_of : FnScope ["steps", "backwards", "waiting", "step", "reasons", "ready", "second"] ["steps"] (defScope s_reasons_of) := ⟨rfl, rfl, rfl, by decide +kernel, rfl, by decide +kernel, by decide +kernel⟩
abbrev s_most_general : Stmt := topS 17
theorem sc_most_general : FnScope ["reasons", "terms", "places", "line", "why", "place", "pattern", "formulas", "name"] ["reasons"] (defScope s_most_general) := ⟨rfl, rfl, rfl, by decide +kernel, rfl, by decide +kernel, by decide +kernel⟩
abbrev s__law_cell : Stmt := topS 19
theorem sc__law_cell : FnScope ["script", "k"] ["script", "k"] (defScope s__law_cell) := ⟨rfl, rfl, rfl, by decide +kernel, rfl, by decide +kernel, by decide +kernel⟩
abbrev s__law_digits : Stmt := topS 20
theorem sc__law_digits : FnScope ["script", "first", "last", "digits", "k", "cell", "turn", "seed"] ["script", "first", "last"] (defScope s__law_digits) := ⟨rfl, rfl, rfl, by decide +kernel, rfl, by decide +kernel, by decide +kernel⟩
abbrev s__law_box : Stmt := topS 21
theorem sc__law_box : FnScope ["script", "first", "last"] ["script", "first", "last"] (defScope s__law_box) := ⟨rfl, rfl, rfl, by decide +kernel, rfl, by decide +kernel, by decide +kernel⟩
abbrev s__law_draw : Stmt := topS 22
theorem sc__law_draw : FnScope ["box", "many", "at"] ["box", "many"] (defScope s__law_draw) := ⟨rfl, rfl, rfl, by decide +kernel, rfl, by decide +kernel, by decide +kernel⟩
abbrev s__law_pairs : Stmt := topS 23
theorem sc__law_pairs : FnScope ["lines", "pairs", "i", "j"] ["lines"] (defScope s__law_pairs) := ⟨rfl, rfl, rfl, by decide +kernel, rfl, by decide +kernel, by decide +kernel⟩
abbrev s__law_any : Stmt := topS 24
theorem sc__law_any : FnScope ["box", "room", "many", "kind", "left", "first"] ["box", "room", "many"] (defScope s__law_any) := ⟨rfl, rfl, rfl, by decide +kernel, rfl, by decide +kernel, by decide +kernel⟩
abbrev s__law_parts : Stmt := topS 25
theorem sc__law_parts : FnScope ["formula", "rows", "part"] ["formula"] (defScope s__law_parts) := ⟨rfl, rfl, rfl, by decide +kernel, rfl, by decide +kernel, by decide +kernel⟩
abbrev s__law_put : Stmt := topS 26
theorem sc__law_put : FnScope ["formula", "table", "part"] ["formula", "table"] (defScope s__law_put) := ⟨rfl, rfl, rfl, by decide +kernel, rfl, by decide +kernel, by decide +kernel⟩
abbrev s__law_if : Stmt := topS 27
theorem sc__law_if : FnScope ["rows", "formula", "k"] ["rows"] (defScope s__law_if) := ⟨rfl, rfl, rfl, by decide +kernel, rfl, by decide +kernel, by decide +kernel⟩
abbrev s__law_axiom : Stmt := topS 28
theorem sc__law_axiom : FnScope ["k", "a", "b", "c", "d", "axioms"] ["k"] (defScope s__law_axiom) := ⟨rfl, rfl, rfl, by decide +kernel, rfl, by decide +kernel, by decide +kernel⟩
abbrev s__law_instance : Stmt := topS 29
theorem sc__law_instance : FnScope ["box", "lines", "axioms", "k", "table", "name"] ["box", "lines", "axioms"] (defScope s__law_instance) := ⟨rfl, rfl, rfl, by decide +kernel, rfl, by decide +kernel, by decide +kernel⟩
abbrev s__law_same : Stmt := topS 30
theorem sc__law_same : FnScope ["actual", "expected", "k"] ["actual", "expected"] (defScope s__law_same) := ⟨rfl, rfl, rfl, by decide +kernel, rfl, by decide +kernel, by decide +kernel⟩
abbrev s__law_matches : Stmt := topS 31
theorem sc__law_matches : FnScope ["pattern", "formula", "found", "k"] ["pattern", "formula", "found"] (defScope s__law_matches) := ⟨rfl, rfl, rfl, by decide +kernel, rfl, by decide +kernel, by decide +kernel⟩
abbrev s__law_tree_of : Stmt := topS 32
theorem sc__law_tree_of : FnScope ["lines", "k"] ["lines", "k"] (defScope s__law_tree_of) := ⟨rfl, rfl, rfl, by decide +kernel, rfl, by decide +kernel, by decide +kernel⟩
abbrev s_law : Stmt := topS 33
theorem sc_law : FnScope ["script", "box", "turn", "lines", "k", "pairs", "pair", "proof", "steps", "wide"] ["script"] (defScope s_law) := ⟨rfl, rfl, rfl, by decide +kernel, rfl, by decide +kernel, by decide +kernel⟩
set_option genInjectivity false in
set_option genSizeOfSpec false in
structure Txt (w : World) (K : PySem.W.Frag) (mg : Str → Option Value) where
  f_letters : Addr
  fd_letters : FuncData
  F_letters : Fun K "letters" "letters" s_letters f_letters fd_letters
  m_letters : mg "letters" = some (.ref f_letters)
  b_letters : Binds K fd_letters ["formula"] []
  f_put : Addr
  fd_put : FuncData
  F_put : Fun K "put" "put" s_put f_put fd_put
  m_put : mg "put" = some (.ref f_put)
  b_put : Binds K fd_put ["formula", "table"] []
  f_axiom : Addr
  fd_axiom : FuncData
  F_axiom : Fun K "axiom" "axiom" s_axiom f_axiom fd_axiom
  m_axiom : mg "axiom" = some (.ref f_axiom)
  b_axiom : Binds K fd_axiom ["k"] []
  f_Terms___init__ : Addr
  fd_Terms___init__ : FuncData
  F_Terms___init__ : Fun K "__init__" "Terms.__init__" s_Terms___init__ f_Terms___init__ fd_Terms___init__
  b_Terms___init__ : Binds K fd_Terms___init__ ["self"] []
  f_Terms_added : Addr
  fd_Terms_added : FuncData
  F_Terms_added : Fun K "added" "Terms.added" s_Terms_added f_Terms_added fd_Terms_added
  b_Terms_added : Binds K fd_Terms_added ["self", "head", "tail"] []
  f_Terms_letter : Addr
  fd_Terms_letter : FuncData
  F_Terms_letter : Fun K "letter" "Terms.letter" s_Terms_letter f_Terms_letter fd_Terms_letter
  b_Terms_letter : Binds K fd_Terms_letter ["self", "name"] []
  f_Terms_conditional : Addr
  fd_Terms_conditional : FuncData
  F_Terms_conditional : Fun K "conditional" "Terms.conditional" s_Terms_conditional f_Terms_conditional fd_Terms_conditional
  b_Terms_conditional : Binds K fd_Terms_conditional ["self", "condition", "consequence"] []
  f_Terms_entered : Addr
  fd_Terms_entered : FuncData
  F_Terms_entered : Fun K "entered" "Terms.entered" s_Terms_entered f_Terms_entered fd_Terms_entered
  b_Terms_entered : Binds K fd_Terms_entered ["self", "formula", "table"] []
  f_Terms_root : Addr
  fd_Terms_root : FuncData
  F_Terms_root : Fun K "root" "Terms.root" s_Terms_root f_Terms_root fd_Terms_root
  b_Terms_root : Binds K fd_Terms_root ["self", "x"] []
  f_Terms_made_same : Addr
  fd_Terms_made_same : FuncData
  F_Terms_made_same : Fun K "made_same" "Terms.made_same" s_Terms_made_same f_Terms_made_same fd_Terms_made_same
  b_Terms_made_same : Binds K fd_Terms_made_same ["self", "x", "y"] []
  f_Terms_solved : Addr
  fd_Terms_solved : FuncData
  F_Terms_solved : Fun K "solved" "Terms.solved" s_Terms_solved f_Terms_solved fd_Terms_solved
  b_Terms_solved : Binds K fd_Terms_solved ["self"] []
  f_Terms_users : Addr
  fd_Terms_users : FuncData
  F_Terms_users : Fun K "users" "Terms.users" s_Terms_users f_Terms_users fd_Terms_users
  b_Terms_users : Binds K fd_Terms_users ["self"] []
  f_parts_first : Addr
  fd_parts_first : FuncData
  F_parts_first : Fun K "parts_first" "parts_first" s_parts_first f_parts_first fd_parts_first
  m_parts_first : mg "parts_first" = some (.ref f_parts_first)
  b_parts_first : Binds K fd_parts_first ["users", "many"] []
  f_renamed : Addr
  fd_renamed : FuncData
  F_renamed : Fun K "renamed" "renamed" s_renamed f_renamed fd_renamed
  m_renamed : mg "renamed" = some (.ref f_renamed)
  b_renamed : Binds K fd_renamed ["formula"] []
  f_naming : Addr
  fd_naming : FuncData
  F_naming : Fun K "naming" "naming" s_naming f_naming fd_naming
  m_naming : mg "naming" = some (.ref f_naming)
  b_naming : Binds K fd_naming ["formulas"] []
  f_name_at : Addr
  fd_name_at : FuncData
  F_name_at : Fun K "name_at" "name_at" s_name_at f_name_at fd_name_at
  m_name_at : mg "name_at" = some (.ref f_name_at)
  b_name_at : Binds K fd_name_at ["place"] []
  f_steps_of : Addr
  fd_steps_of : FuncData
  F_steps_of : Fun K "steps_of" "steps_of" s_steps_of f_steps_of fd_steps_of
  m_steps_of : mg "steps_of" = some (.ref f_steps_of)
  b_steps_of : Binds K fd_steps_of ["proof"] []
  f_general : Addr
  fd_general : FuncData
  F_general : Fun K "general" "general" s_general f_general fd_general
  m_general : mg "general" = some (.ref f_general)
  b_general : Binds K fd_general ["steps"] []
  f_reasons_of : Addr
  fd_reasons_of : FuncData
  F_reasons_of : Fun K "reasons_of" "reasons_of" s_reasons_of f_reasons_of fd_reasons_of
  m_reasons_of : mg "reasons_of" = some (.ref f_reasons_of)
  b_reasons_of : Binds K fd_reasons_of ["steps"] []
  f_most_general : Addr
  fd_most_general : FuncData
  F_most_general : Fun K "most_general" "most_general" s_most_general f_most_general fd_most_general
  m_most_general : mg "most_general" = some (.ref f_most_general)
  b_most_general : Binds K fd_most_general ["reasons"] []
  f__law_cell : Addr
  fd__law_cell : FuncData
  F__law_cell : Fun K "_law_cell" "_law_cell" s__law_cell f__law_cell fd__law_cell
  m__law_cell : mg "_law_cell" = some (.ref f__law_cell)
  b__law_cell : Binds K fd__law_cell ["script", "k"] []
  f__law_digits : Addr
  fd__law_digits : FuncData
  F__law_digits : Fun K "_law_digits" "_law_digits" s__law_digits f__law_digits fd__law_digits
  m__law_digits : mg "_law_digits" = some (.ref f__law_digits)
  b__law_digits : Binds K fd__law_digits ["script", "first", "last"] []
  f__law_box : Addr
  fd__law_box : FuncData
  F__law_box : Fun K "_law_box" "_law_box" s__law_box f__law_box fd__law_box
  m__law_box : mg "_law_box" = some (.ref f__law_box)
  b__law_box : Binds K fd__law_box ["script", "first", "last"] []
  f__law_draw : Addr
  fd__law_draw : FuncData
  F__law_draw : Fun K "_law_draw" "_law_draw" s__law_draw f__law_draw fd__law_draw
  m__law_draw : mg "_law_draw" = some (.ref f__law_draw)
  b__law_draw : Binds K fd__law_draw ["box", "many"] []
  f__law_pairs : Addr
  fd__law_pairs : FuncData
  F__law_pairs : Fun K "_law_pairs" "_law_pairs" s__law_pairs f__law_pairs fd__law_pairs
  m__law_pairs : mg "_law_pairs" = some (.ref f__law_pairs)
  b__law_pairs : Binds K fd__law_pairs ["lines"] []
  f__law_any : Addr
  fd__law_any : FuncData
  F__law_any : Fun K "_law_any" "_law_any" s__law_any f__law_any fd__law_any
  m__law_any : mg "_law_any" = some (.ref f__law_any)
  b__law_any : Binds K fd__law_any ["box", "room", "many"] []
  f__law_parts : Addr
  fd__law_parts : FuncData
  F__law_parts : Fun K "_law_parts" "_law_parts" s__law_parts f__law_parts fd__law_parts
  m__law_parts : mg "_law_parts" = some (.ref f__law_parts)
  b__law_parts : Binds K fd__law_parts ["formula"] []
  f__law_put : Addr
  fd__law_put : FuncData
  F__law_put : Fun K "_law_put" "_law_put" s__law_put f__law_put fd__law_put
  m__law_put : mg "_law_put" = some (.ref f__law_put)
  b__law_put : Binds K fd__law_put ["formula", "table"] []
  f__law_if : Addr
  fd__law_if : FuncData
  F__law_if : Fun K "_law_if" "_law_if" s__law_if f__law_if fd__law_if
  m__law_if : mg "_law_if" = some (.ref f__law_if)
  b__law_if : Binds K fd__law_if ["rows"] []
  f__law_axiom : Addr
  fd__law_axiom : FuncData
  F__law_axiom : Fun K "_law_axiom" "_law_axiom" s__law_axiom f__law_axiom fd__law_axiom
  m__law_axiom : mg "_law_axiom" = some (.ref f__law_axiom)
  b__law_axiom : Binds K fd__law_axiom ["k"] []
  f__law_instance : Addr
  fd__law_instance : FuncData
  F__law_instance : Fun K "_law_instance" "_law_instance" s__law_instance f__law_instance fd__law_instance
  m__law_instance : mg "_law_instance" = some (.ref f__law_instance)
  b__law_instance : Binds K fd__law_instance ["box", "lines", "axioms"] []
  f__law_same : Addr
  fd__law_same : FuncData
  F__law_same : Fun K "_law_same" "_law_same" s__law_same f__law_same fd__law_same
  m__law_same : mg "_law_same" = some (.ref f__law_same)
  b__law_same : Binds K fd__law_same ["actual", "expected"] []
  f__law_matches : Addr
  fd__law_matches : FuncData
  F__law_matches : Fun K "_law_matches" "_law_matches" s__law_matches f__law_matches fd__law_matches
  m__law_matches : mg "_law_matches" = some (.ref f__law_matches)
  b__law_matches : Binds K fd__law_matches ["pattern", "formula", "found"] []
  f__law_tree_of : Addr
  fd__law_tree_of : FuncData
  F__law_tree_of : Fun K "_law_tree_of" "_law_tree_of" s__law_tree_of f__law_tree_of fd__law_tree_of
  m__law_tree_of : mg "_law_tree_of" = some (.ref f__law_tree_of)
  b__law_tree_of : Binds K fd__law_tree_of ["lines", "k"] []
  f_law : Addr
  fd_law : FuncData
  F_law : Fun K "law" "law" s_law f_law fd_law
  m_law : mg "law" = some (.ref f_law)
  b_law : Binds K fd_law ["script"] []
  C_Terms : Addr
  mC_Terms : mg "Terms" = some (.ref C_Terms)
  cl_Terms : Cls K C_Terms
  na_Terms_heads : NoAttr K C_Terms "heads"
  na_Terms_tails : NoAttr K C_Terms "tails"
  na_Terms_names : NoAttr K C_Terms "names"
  na_Terms_nearer : NoAttr K C_Terms "nearer"
  mk_Terms : Mk K C_Terms f_Terms___init__
  M_Terms_added : Meth K C_Terms "added" f_Terms_added
  M_Terms_letter : Meth K C_Terms "letter" f_Terms_letter
  M_Terms_conditional : Meth K C_Terms "conditional" f_Terms_conditional
  M_Terms_entered : Meth K C_Terms "entered" f_Terms_entered
  M_Terms_root : Meth K C_Terms "root" f_Terms_root
  M_Terms_made_same : Meth K C_Terms "made_same" f_Terms_made_same
  M_Terms_solved : Meth K C_Terms "solved" f_Terms_solved
  M_Terms_users : Meth K C_Terms "users" f_Terms_users
  n_set : mg "set" = none
  n_sorted : mg "sorted" = none
  n_tuple : mg "tuple" = none
  n_len : mg "len" = none
  n_list : mg "list" = none
  n_zip : mg "zip" = none
  n_range : mg "range" = none
  n_enumerate : mg "enumerate" = none
  n_divmod : mg "divmod" = none
  n_reversed : mg "reversed" = none
  n_int : mg "int" = none
  n_isinstance : mg "isinstance" = none
  n_bool : mg "bool" = none
  n_str : mg "str" = none
  t_SMALL : Tok
  x_SMALL : mg "SMALL" = some (.str z_abcdefghijklmnopqrstuvwxyz t_SMALL)
  d_AXIOMS : Addr
  g_AXIOMS : mg "AXIOMS" = some (.ref d_AXIOMS)
  W_AXIOMS : WDct K w d_AXIOMS t_axioms
section
variable {P : Program} {w : World} {K : PySem.W.Frag} {mg : Str → Option Value} {base : Heap} {k : Nat}
set_option maxHeartbeats 4000000 in
theorem ok_letters (T : Txt w K mg)  {A : ASp}
    (hp : ∀ ds M Q Xa, ds.length = 1 → A ds M Q Xa → a_letters w  ax0 ⟨fun _ M => Q .non M, Q, fun _ _ => False, fun _ _ => False⟩ (startA ["formula", "names", "waiting", "part"] ds) M) :
    FnOk P w K mg base CX0 (k + 1) T.f_letters T.fd_letters ["formula"] (conc K 1 A) := by
  refine fn_abs T.F_letters sc_letters rfl (fun cdv Ar outer s H E hr => ?_) hp
  have hpo : PassesOwn (model P w) (Ar.deeper (PyProof.Rows.envOfC "letters" (defScope s_letters) s.heap.objs.size T.f_letters cdv)) (PyProof.Rows.envOfC "letters" (defScope s_letters) s.heap.objs.size T.f_letters cdv) (fun _ _ => False) := PassesOwn.never
  exact (as_cons (as_set 1 sc_letters.nd (ae_set0 (by rfl) T.n_set (by decide +kernel)))
    (as_cons (as_set 2 sc_letters.nd (ae_lst (aa_cons (ae_var 0) aa_nil)))
    (as_cons (as_while hpo (at_truth (ae_var 2)) (as_cons (as_set 3 sc_letters.nd (ae_pop (ae_var 2)))
    (as_one (as_if (at_cmpR (op_eqA (hu64 hr)) sim_eqA (ae_ix (ae_var 3) ae_int (fun _ _ => rfl)) ae_str (nomark _)) (as_one (as_expr (ae_sadd (ae_var 1) (aa_cons (ae_ix (ae_var 3) ae_int (fun _ _ => rfl)) aa_nil)))) (as_one (as_expr (ae_extT (ae_var 2) (aa_cons (ae_sl (ae_var 3) (ao_some ae_int) ao_none) aa_nil))))))))
    (as_one (as_ret (ae_callTy call_tuple_of sim_tuple (by rfl) T.n_tuple (by decide +kernel) (aa_cons (ae_callB (cr_sortTx rfl) sim_sortTx (by rfl) T.n_sorted (by decide +kernel) (aa_cons (ae_var 1) aa_nil)) aa_nil)))))))
set_option maxHeartbeats 4000000 in
theorem ok_put (T : Txt w K mg) {A_put : ASp} (G_put : FnOk P w K mg base CX0 k T.f_put T.fd_put ["formula", "table"] (conc K 2 A_put)) {A : ASp}
    (hp : ∀ ds M Q Xa, ds.length = 2 → A ds M Q Xa → a_putT A_put ax0 ⟨fun _ M => Q .non M, Q, fun _ _ => False, fun _ _ => False⟩ (startA ["formula", "table"] ds) M) :
    FnOk P w K mg base CX0 (k + 1) T.f_put T.fd_put ["formula", "table"] (conc K 2 A) := by
  refine fn_abs T.F_put sc_put rfl (fun cdv Ar outer s H E hr => ?_) hp
  have hpo : PassesOwn (model P w) (Ar.deeper (PyProof.Rows.envOfC "put" (defScope s_put) s.heap.objs.size T.f_put cdv)) (PyProof.Rows.envOfC "put" (defScope s_put) s.heap.objs.size T.f_put cdv) (fun _ _ => False) := PassesOwn.never
  exact (as_cons (as_if (at_cmpR (op_eqA (hu64 hr)) sim_eqA (ae_ix (ae_var 0) ae_int (fun _ _ => rfl)) ae_str (nomark _)) (as_one (as_ret (ae_dget2T (hu1 hr) (ae_var 1) (ae_ix (ae_var 0) ae_int (fun _ _ => rfl)) (ae_var 0) ⟨rfl, rfl, rfl, rfl⟩))) as_nil)
    (as_cons (as_if (at_cmpR (op_eqA (hu64 hr)) sim_eqA (ae_ix (ae_var 0) ae_int (fun _ _ => rfl)) ae_str (nomark _)) (as_one (as_ret (ae_tup (aa_cons ae_str (aa_cons (ae_call G_put hr (by rfl) T.m_put T.F_put.kp T.b_put (aa_cons (ae_ix (ae_var 0) ae_int (fun _ _ => rfl)) (aa_cons (ae_var 1) aa_nil))) aa_nil))))) as_nil)
    (as_one (as_ret (ae_tup (aa_cons ae_str (aa_cons (ae_call G_put hr (by rfl) T.m_put T.F_put.kp T.b_put (aa_cons (ae_ix (ae_var 0) ae_int (fun _ _ => rfl)) (aa_cons (ae_var 1) aa_nil))) (aa_cons (ae_call G_put hr (by rfl) T.m_put T.F_put.kp T.b_put (aa_cons (ae_ix (ae_var 0) ae_int (fun _ _ => rfl)) (aa_cons (ae_var 1) aa_nil))) aa_nil))))))))
set_option maxHeartbeats 4000000 in
theorem ok_axiom (T : Txt w K mg)  {A : ASp}
    (hp : ∀ ds M Q Xa, ds.length = 1 → A ds M Q Xa → a_axiom  ax0 ⟨fun _ M => Q .non M, Q, fun _ _ => False, fun _ _ => False⟩ (startA ["k"] ds) M) :
    FnOk P w K mg base CX0 (k + 1) T.f_axiom T.fd_axiom ["k"] (conc K 1 A) := by
  refine fn_abs T.F_axiom sc_axiom rfl (fun cdv Ar outer s H E hr => ?_) hp
  have hpo : PassesOwn (model P w) (Ar.deeper (PyProof.Rows.envOfC "axiom" (defScope s_axiom) s.heap.objs.size T.f_axiom cdv)) (PyProof.Rows.envOfC "axiom" (defScope s_axiom) s.heap.objs.size T.f_axiom cdv) (fun _ _ => False) := PassesOwn.never
  exact (as_one (as_ret (ae_wget (by rfl) T.g_AXIOMS T.W_AXIOMS (ae_var 0) ⟨rfl, rfl, rfl, rfl⟩)))
set_option maxHeartbeats 4000000 in
theorem ok_Terms___init__ (T : Txt w K mg)  {A : ASp}
    (hp : ∀ ds M Q Xa, ds.length = 1 → A ds M Q Xa → a_Terms___init__ T.C_Terms ax0 ⟨fun _ M => Q .non M, Q, fun _ _ => False, fun _ _ => False⟩ (startA ["self"] ds) M) :
    FnOk P w K mg base CX0 (k + 1) T.f_Terms___init__ T.fd_Terms___init__ ["self"] (conc K 1 A) := by
  refine fn_abs T.F_Terms___init__ sc_Terms___init__ rfl (fun cdv Ar outer s H E hr => ?_) hp
  have hpo : PassesOwn (model P w) (Ar.deeper (PyProof.Rows.envOfC "Terms.__init__" (defScope s_Terms___init__) s.heap.objs.size T.f_Terms___init__ cdv)) (PyProof.Rows.envOfC "Terms.__init__" (defScope s_Terms___init__) s.heap.objs.size T.f_Terms___init__ cdv) (fun _ _ => False) := PassesOwn.never
  exact (as_cons (as_fld T.cl_Terms T.na_Terms_heads (ae_var 0) (ae_lst aa_nil))
    (as_cons (as_fld T.cl_Terms T.na_Terms_tails (ae_var 0) (ae_lst aa_nil))
    (as_cons (as_fld T.cl_Terms T.na_Terms_names (ae_var 0) ae_dnew)
    (as_one (as_fld T.cl_Terms T.na_Terms_nearer (ae_var 0) (ae_lst aa_nil))))))
set_option maxHeartbeats 4000000 in
theorem ok_Terms_added (T : Txt w K mg)  {A : ASp}
    (hp : ∀ ds M Q Xa, ds.length = 3 → A ds M Q Xa → a_Terms_added T.C_Terms ax0 ⟨fun _ M => Q .non M, Q, fun _ _ => False, fun _ _ => False⟩ (startA ["self", "head", "tail"] ds) M) :
    FnOk P w K mg base CX0 (k + 1) T.f_Terms_added T.fd_Terms_added ["self", "head", "tail"] (conc K 3 A) := by
  refine fn_abs T.F_Terms_added sc_Terms_added rfl (fun cdv Ar outer s H E hr => ?_) hp
  have hpo : PassesOwn (model P w) (Ar.deeper (PyProof.Rows.envOfC "Terms.added" (defScope s_Terms_added) s.heap.objs.size T.f_Terms_added cdv)) (PyProof.Rows.envOfC "Terms.added" (defScope s_Terms_added) s.heap.objs.size T.f_Terms_added cdv) (fun _ _ => False) := PassesOwn.never
  exact (as_cons (as_expr (ae_append (ae_fld T.cl_Terms T.na_Terms_heads (ae_var 0)) (aa_cons (ae_var 1) aa_nil)))
    (as_cons (as_expr (ae_append (ae_fld T.cl_Terms T.na_Terms_tails (ae_var 0)) (aa_cons (ae_var 2) aa_nil)))
    (as_cons (as_expr (ae_append (ae_fld T.cl_Terms T.na_Terms_nearer (ae_var 0)) (aa_cons (ae_callB call_lenA sim_len (by rfl) T.n_len (by decide +kernel) (aa_cons (ae_fld T.cl_Terms T.na_Terms_nearer (ae_var 0)) aa_nil)) aa_nil)))
    (as_one (as_ret (ae_ix (ae_fld T.cl_Terms T.na_Terms_nearer (ae_var 0)) (ae_neg ae_int) (fun _ _ => rfl)))))))
set_option maxHeartbeats 4000000 in
theorem ok_Terms_letter (T : Txt w K mg) {A_Terms_added : ASp} (G_Terms_added : FnOk P w K mg base CX0 k T.f_Terms_added T.fd_Terms_added ["self", "head", "tail"] (conc K 3 A_Terms_added)) {A : ASp}
    (hp : ∀ ds M Q Xa, ds.length = 2 → A ds M Q Xa → a_Terms_letter T.C_Terms A_Terms_added ax0 ⟨fun _ M => Q .non M, Q, fun _ _ => False, fun _ _ => False⟩ (startA ["self", "name", "x"] ds) M) :
    FnOk P w K mg base CX0 (k + 1) T.f_Terms_letter T.fd_Terms_letter ["self", "name"] (conc K 2 A) := by
  refine fn_abs T.F_Terms_letter sc_Terms_letter rfl (fun cdv Ar outer s H E hr => ?_) hp
  have hpo : PassesOwn (model P w) (Ar.deeper (PyProof.Rows.envOfC "Terms.letter" (defScope s_Terms_letter) s.heap.objs.size T.f_Terms_letter cdv)) (PyProof.Rows.envOfC "Terms.letter" (defScope s_Terms_letter) s.heap.objs.size T.f_Terms_letter cdv) (fun _ _ => False) := PassesOwn.never
  exact (as_cons (as_set 2 sc_Terms_letter.nd (ae_meth T.cl_Terms T.M_Terms_added G_Terms_added hr T.b_Terms_added (ae_var 0) (aa_cons ae_str (aa_cons (ae_tup aa_nil) aa_nil))))
    (as_cons (as_dput (hu1 hr) (ae_fld T.cl_Terms T.na_Terms_names (ae_var 0)) (ae_var 2) (ae_var 1))
    (as_one (as_ret (ae_var 2)))))
set_option maxHeartbeats 4000000 in
theorem ok_Terms_conditional (T : Txt w K mg) {A_Terms_added : ASp} (G_Terms_added : FnOk P w K mg base CX0 k T.f_Terms_added T.fd_Terms_added ["self", "head", "tail"] (conc K 3 A_Terms_added)) {A : ASp}
    (hp : ∀ ds M Q Xa, ds.length = 3 → A ds M Q Xa → a_Terms_conditional T.C_Terms A_Terms_added ax0 ⟨fun _ M => Q .non M, Q, fun _ _ => False, fun _ _ => False⟩ (startA ["self", "condition", "consequence"] ds) M) :
    FnOk P w K mg base CX0 (k + 1) T.f_Terms_conditional T.fd_Terms_conditional ["self", "condition", "consequence"] (conc K 3 A) := by
  refine fn_abs T.F_Terms_conditional sc_Terms_conditional rfl (fun cdv Ar outer s H E hr => ?_) hp
  have hpo : PassesOwn (model P w) (Ar.deeper (PyProof.Rows.envOfC "Terms.conditional" (defScope s_Terms_conditional) s.heap.objs.size T.f_Terms_conditional cdv)) (PyProof.Rows.envOfC "Terms.conditional" (defScope s_Terms_conditional) s.heap.objs.size T.f_Terms_conditional cdv) (fun _ _ => False) := PassesOwn.never
  exact (as_one (as_ret (ae_meth T.cl_Terms T.M_Terms_added G_Terms_added hr T.b_Terms_added (ae_var 0) (aa_cons ae_str (aa_cons (ae_tup (aa_cons (ae_var 1) (aa_cons (ae_var 2) aa_nil))) aa_nil)))))
set_option maxHeartbeats 4000000 in
theorem ok_Terms_entered (T : Txt w K mg) {A_Terms_added : ASp} (G_Terms_added : FnOk P w K mg base CX0 k T.f_Terms_added T.fd_Terms_added ["self", "head", "tail"] (conc K 3 A_Terms_added)) {A_Terms_entered : ASp} (G_Terms_entered : FnOk P w K mg base CX0 k T.f_Terms_entered T.fd_Terms_entered ["self", "formula", "table"] (conc K 3 A_Terms_entered)) {A : ASp}
    (hp : ∀ ds M Q Xa, ds.length = 3 → A ds M Q Xa → a_Terms_entered T.C_Terms A_Terms_added A_Terms_entered ax0 ⟨fun _ M => Q .non M, Q, fun _ _ => False, fun _ _ => False⟩ (startA ["self", "formula", "table", "part"] ds) M) :
    FnOk P w K mg base CX0 (k + 1) T.f_Terms_entered T.fd_Terms_entered ["self", "formula", "table"] (conc K 3 A) := by
  refine fn_abs T.F_Terms_entered sc_Terms_entered rfl (fun cdv Ar outer s H E hr => ?_) hp
  have hpo : PassesOwn (model P w) (Ar.deeper (PyProof.Rows.envOfC "Terms.entered" (defScope s_Terms_entered) s.heap.objs.size T.f_Terms_entered cdv)) (PyProof.Rows.envOfC "Terms.entered" (defScope s_Terms_entered) s.heap.objs.size T.f_Terms_entered cdv) (fun _ _ => False) := PassesOwn.never
  exact (as_cons (as_if (at_cmpR (op_eqA (hu64 hr)) sim_eqA (ae_ix (ae_var 1) ae_int (fun _ _ => rfl)) ae_str (nomark _)) (as_one (as_ret (ae_dget (hu1 hr) (ae_var 2) (ae_ix (ae_var 1) ae_int (fun _ _ => rfl)) (fun _ _ => rfl)))) as_nil)
    (as_one (as_ret (ae_meth T.cl_Terms T.M_Terms_added G_Terms_added hr T.b_Terms_added (ae_var 0) (aa_cons (ae_ix (ae_var 1) ae_int (fun _ _ => rfl)) (aa_cons (ae_callTy call_tuple_of sim_tuple (by rfl) T.n_tuple (by decide +kernel) (aa_cons (ae_lc 3 rfl sc_Terms_entered.nd (ai_tup (ae_sl (ae_var 1) (ao_some ae_int) ao_none)) (blkOk_by (N := ["self", "formula", "table", "part"]) (sc := defScope s_Terms_entered) (by decide +kernel)) (fun _ _ _ _ _ => pg_name (i := 3) sc_Terms_entered.nd rfl (Or.inl rfl)) (fun _ _ _ _ _ => ats_nil) (fun _ _ _ _ _ => (ae_meth T.cl_Terms T.M_Terms_entered G_Terms_entered hr T.b_Terms_entered (ae_var 0) (aa_cons (ae_var 3) (aa_cons (ae_var 2) aa_nil))))) aa_nil)) aa_nil))))))
set_option maxHeartbeats 4000000 in
theorem ok_Terms_root (T : Txt w K mg)  {A : ASp}
    (hp : ∀ ds M Q Xa, ds.length = 2 → A ds M Q Xa → a_Terms_root T.C_Terms ax0 ⟨fun _ M => Q .non M, Q, fun _ _ => False, fun _ _ => False⟩ (startA ["self", "x"] ds) M) :
    FnOk P w K mg base CX0 (k + 1) T.f_Terms_root T.fd_Terms_root ["self", "x"] (conc K 2 A) := by
  refine fn_abs T.F_Terms_root sc_Terms_root rfl (fun cdv Ar outer s H E hr => ?_) hp
  have hpo : PassesOwn (model P w) (Ar.deeper (PyProof.Rows.envOfC "Terms.root" (defScope s_Terms_root) s.heap.objs.size T.f_Terms_root cdv)) (PyProof.Rows.envOfC "Terms.root" (defScope s_Terms_root) s.heap.objs.size T.f_Terms_root cdv) (fun _ _ => False) := PassesOwn.never
  exact (as_cons (as_while hpo (at_cmpR (op_neA (hu64 hr)) sim_eqA (ae_ix (ae_fld T.cl_Terms T.na_Terms_nearer (ae_var 0)) (ae_var 1) (fun _ _ => rfl)) (ae_var 1) (nomark _)) (as_cons (as_asg (ae_ix (ae_fld T.cl_Terms T.na_Terms_nearer (ae_var 0)) (ae_ix (ae_fld T.cl_Terms T.na_Terms_nearer (ae_var 0)) (ae_var 1) (fun _ _ => rfl)) (fun _ _ => rfl)) (ag_sub (ae_fld T.cl_Terms T.na_Terms_nearer (ae_var 0)) (ae_var 1)))
    (as_one (as_set 1 sc_Terms_root.nd (ae_ix (ae_fld T.cl_Terms T.na_Terms_nearer (ae_var 0)) (ae_var 1) (fun _ _ => rfl))))))
    (as_one (as_ret (ae_var 1))))
set_option maxHeartbeats 4000000 in
theorem ok_Terms_made_same (T : Txt w K mg) {A_Terms_root : ASp} (G_Terms_root : FnOk P w K mg base CX0 k T.f_Terms_root T.fd_Terms_root ["self", "x"] (conc K 2 A_Terms_root)) {A : ASp}
    (hp : ∀ ds M Q Xa, ds.length = 3 → A ds M Q Xa → a_Terms_made_same T.C_Terms A_Terms_root ax0 ⟨fun _ M => Q .non M, Q, fun _ _ => False, fun _ _ => False⟩ (startA ["self", "x", "y", "waiting", "first", "second"] ds) M) :
    FnOk P w K mg base CX0 (k + 1) T.f_Terms_made_same T.fd_Terms_made_same ["self", "x", "y"] (conc K 3 A) := by
  refine fn_abs T.F_Terms_made_same sc_Terms_made_same rfl (fun cdv Ar outer s H E hr => ?_) hp
  have hpo : PassesOwn (model P w) (Ar.deeper (PyProof.Rows.envOfC "Terms.made_same" (defScope s_Terms_made_same) s.heap.objs.size T.f_Terms_made_same cdv)) (PyProof.Rows.envOfC "Terms.made_same" (defScope s_Terms_made_same) s.heap.objs.size T.f_Terms_made_same cdv) (fun _ _ => False) := PassesOwn.never
  exact (as_cons (as_set 3 sc_Terms_made_same.nd (ae_lst (aa_cons (ae_tup (aa_cons (ae_var 1) (aa_cons (ae_var 2) aa_nil))) aa_nil)))
    (as_cons (as_while hpo (at_truth (ae_var 3)) (as_cons (as_asg (ae_pop (ae_var 3)) (ag_tup rfl (ags_cons (ag_name 4 sc_Terms_made_same.nd) (ags_cons (ag_name 5 sc_Terms_made_same.nd) ags_nil))))
    (as_cons (as_par 4 5 rfl sc_Terms_made_same.nd (aa_cons (ae_meth T.cl_Terms T.M_Terms_root G_Terms_root hr T.b_Terms_root (ae_var 0) (aa_cons (ae_var 4) aa_nil)) (aa_cons (ae_meth T.cl_Terms T.M_Terms_root G_Terms_root hr T.b_Terms_root (ae_var 0) (aa_cons (ae_var 5) aa_nil)) aa_nil)))
    (as_cons (as_if (at_cmpR (op_eqA (hu64 hr)) sim_eqA (ae_var 4) (ae_var 5) (nomark _)) (as_one as_continue) as_nil)
    (as_cons (as_if (at_cmpR (op_eqA (hu64 hr)) sim_eqA (ae_ix (ae_fld T.cl_Terms T.na_Terms_heads (ae_var 0)) (ae_var 4) (fun _ _ => rfl)) ae_str (nomark _)) (as_cons (as_asg (ae_var 5) (ag_sub (ae_fld T.cl_Terms T.na_Terms_nearer (ae_var 0)) (ae_var 4)))
    (as_one as_continue)) as_nil)
    (as_cons (as_asg (ae_var 4) (ag_sub (ae_fld T.cl_Terms T.na_Terms_nearer (ae_var 0)) (ae_var 5)))
    (as_one (as_if (at_cmpR (op_neA (hu64 hr)) sim_eqA (ae_ix (ae_fld T.cl_Terms T.na_Terms_heads (ae_var 0)) (ae_var 5) (fun _ _ => rfl)) ae_str (nomark _)) (as_cons (as_if (at_cmpR (op_neA (hu64 hr)) sim_eqA (ae_ix (ae_fld T.cl_Terms T.na_Terms_heads (ae_var 0)) (ae_var 4) (fun _ _ => rfl)) (ae_ix (ae_fld T.cl_Terms T.na_Terms_heads (ae_var 0)) (ae_var 5) (fun _ _ => rfl)) (nomark _)) (as_one (as_ret ae_bl)) as_nil)
    (as_one (as_expr (ae_extend (ae_var 3) (aa_cons (ae_listZip rfl (aa_cons (ae_ix (ae_fld T.cl_Terms T.na_Terms_tails (ae_var 0)) (ae_var 4) (fun _ _ => rfl)) (aa_cons (ae_ix (ae_fld T.cl_Terms T.na_Terms_tails (ae_var 0)) (ae_var 5) (fun _ _ => rfl)) aa_nil)) (by rfl) T.n_list (by rfl) T.n_zip) aa_nil))))) as_nil))))))))
    (as_one (as_ret ae_bl))))
set_option maxHeartbeats 4000000 in
theorem ok_Terms_solved (T : Txt w K mg) {A_parts_first : ASp} (G_parts_first : FnOk P w K mg base CX0 k T.f_parts_first T.fd_parts_first ["users", "many"] (conc K 2 A_parts_first)) {A_Terms_users : ASp} (G_Terms_users : FnOk P w K mg base CX0 k T.f_Terms_users T.fd_Terms_users ["self"] (conc K 1 A_Terms_users)) {A_Terms_root : ASp} (G_Terms_root : FnOk P w K mg base CX0 k T.f_Terms_root T.fd_Terms_root ["self", "x"] (conc K 2 A_Terms_root)) {A : ASp}
    (hp : ∀ ds M Q Xa, ds.length = 1 → A ds M Q Xa → a_Terms_solved T.C_Terms A_parts_first A_Terms_users A_Terms_root ax0 ⟨fun _ M => Q .non M, Q, fun _ _ => False, fun _ _ => False⟩ (startA ["self", "order", "found", "x", "tail", "part"] ds) M) :
    FnOk P w K mg base CX0 (k + 1) T.f_Terms_solved T.fd_Terms_solved ["self"] (conc K 1 A) := by
  refine fn_abs T.F_Terms_solved sc_Terms_solved rfl (fun cdv Ar outer s H E hr => ?_) hp
  have hpo : PassesOwn (model P w) (Ar.deeper (PyProof.Rows.envOfC "Terms.solved" (defScope s_Terms_solved) s.heap.objs.size T.f_Terms_solved cdv)) (PyProof.Rows.envOfC "Terms.solved" (defScope s_Terms_solved) s.heap.objs.size T.f_Terms_solved cdv) (fun _ _ => False) := PassesOwn.never
  exact (as_cons (as_set 1 sc_Terms_solved.nd (ae_call G_parts_first hr (by rfl) T.m_parts_first T.F_parts_first.kp T.b_parts_first (aa_cons (ae_meth0 T.cl_Terms T.M_Terms_users G_Terms_users hr T.b_Terms_users (ae_var 0)) (aa_cons (ae_lc 4 rfl sc_Terms_solved.nd (ai_list (ae_fld T.cl_Terms T.na_Terms_tails (ae_var 0))) (blkOk_by (N := ["self", "order", "found", "x", "tail", "part"]) (sc := defScope s_Terms_solved) (by decide +kernel)) (fun _ _ _ _ _ => pg_name (i := 4) sc_Terms_solved.nd rfl (Or.inl rfl)) (fun _ _ _ _ _ => ats_nil) (fun _ _ _ _ _ => (ae_callB call_lenA sim_len (by rfl) T.n_len (by decide +kernel) (aa_cons (ae_var 4) aa_nil)))) aa_nil))))
    (as_cons (as_if (at_cmpR op_ltA sim_lt (ae_callB call_lenA sim_len (by rfl) T.n_len (by decide +kernel) (aa_cons (ae_var 1) aa_nil)) (ae_callB call_lenA sim_len (by rfl) T.n_len (by decide +kernel) (aa_cons (ae_fld T.cl_Terms T.na_Terms_tails (ae_var 0)) aa_nil)) (nomark _)) (as_one (as_ret ae_non)) as_nil)
    (as_cons (as_set 2 sc_Terms_solved.nd ae_dnew)
    (as_cons (as_for hpo rfl (ai_list (ae_var 1)) (ag_name 3 sc_Terms_solved.nd) (as_one (as_if (at_cmpR (op_eqA (hu64 hr)) sim_eqA (ae_ix (ae_fld T.cl_Terms T.na_Terms_heads (ae_var 0)) (ae_var 3) (fun _ _ => rfl)) ae_str (nomark _)) (as_one (as_dput (hu1 hr) (ae_var 2) (ae_var 3) (ae_tup (aa_cons ae_str (aa_cons (ae_dget (hu1 hr) (ae_fld T.cl_Terms T.na_Terms_names (ae_var 0)) (ae_var 3) (fun _ _ => rfl)) aa_nil))))) (as_one (as_dput (hu1 hr) (ae_var 2) (ae_var 3) (ae_op op_plus sim_add (ae_tup (aa_cons (ae_ix (ae_fld T.cl_Terms T.na_Terms_heads (ae_var 0)) (ae_var 3) (fun _ _ => rfl)) aa_nil)) (ae_callTy call_tuple_of sim_tuple (by rfl) T.n_tuple (by decide +kernel) (aa_cons (ae_lc 5 rfl sc_Terms_solved.nd (ai_tup (ae_ix (ae_fld T.cl_Terms T.na_Terms_tails (ae_var 0)) (ae_var 3) (fun _ _ => rfl))) (blkOk_by (N := ["self", "order", "found", "x", "tail", "part"]) (sc := defScope s_Terms_solved) (by decide +kernel)) (fun _ _ _ _ _ => pg_name (i := 5) sc_Terms_solved.nd rfl (Or.inl rfl)) (fun _ _ _ _ _ => ats_nil) (fun _ _ _ _ _ => (ae_dget (hu1 hr) (ae_var 2) (ae_meth T.cl_Terms T.M_Terms_root G_Terms_root hr T.b_Terms_root (ae_var 0) (aa_cons (ae_var 5) aa_nil)) (fun _ _ => rfl)))) aa_nil))))))))
    (as_one (as_ret (ae_lc 3 rfl sc_Terms_solved.nd (ai_rng1 (by rfl) T.n_range (aa_cons (ae_callB call_lenA sim_len (by rfl) T.n_len (by decide +kernel) (aa_cons (ae_fld T.cl_Terms T.na_Terms_tails (ae_var 0)) aa_nil)) aa_nil)) (blkOk_by (N := ["self", "order", "found", "x", "tail", "part"]) (sc := defScope s_Terms_solved) (by decide +kernel)) (fun _ _ _ _ _ => pg_name (i := 3) sc_Terms_solved.nd rfl (Or.inl rfl)) (fun _ _ _ _ _ => ats_nil) (fun _ _ _ _ _ => (ae_dget (hu1 hr) (ae_var 2) (ae_meth T.cl_Terms T.M_Terms_root G_Terms_root hr T.b_Terms_root (ae_var 0) (aa_cons (ae_var 3) aa_nil)) (fun _ _ => rfl))))))))))
set_option maxHeartbeats 4000000 in
theorem ok_Terms_users (T : Txt w K mg) {A_Terms_root : ASp} (G_Terms_root : FnOk P w K mg base CX0 k T.f_Terms_root T.fd_Terms_root ["self", "x"] (conc K 2 A_Terms_root)) {A : ASp}
    (hp : ∀ ds M Q Xa, ds.length = 1 → A ds M Q Xa → a_Terms_users T.C_Terms A_Terms_root ax0 ⟨fun _ M => Q .non M, Q, fun _ _ => False, fun _ _ => False⟩ (startA ["self", "found", "x", "tail", "part"] ds) M) :
    FnOk P w K mg base CX0 (k + 1) T.f_Terms_users T.fd_Terms_users ["self"] (conc K 1 A) := by
  refine fn_abs T.F_Terms_users sc_Terms_users rfl (fun cdv Ar outer s H E hr => ?_) hp
  have hpo : PassesOwn (model P w) (Ar.deeper (PyProof.Rows.envOfC "Terms.users" (defScope s_Terms_users) s.heap.objs.size T.f_Terms_users cdv)) (PyProof.Rows.envOfC "Terms.users" (defScope s_Terms_users) s.heap.objs.size T.f_Terms_users cdv) (fun _ _ => False) := PassesOwn.never
  exact (as_cons (as_set 1 sc_Terms_users.nd ae_dnew)
    (as_cons (as_for hpo rfl (ai_enum (by rfl) T.n_enumerate (aa_cons (ae_fld T.cl_Terms T.na_Terms_tails (ae_var 0)) aa_nil)) (ag_tup rfl (ags_cons (ag_name 2 sc_Terms_users.nd) (ags_cons (ag_name 3 sc_Terms_users.nd) ags_nil))) (as_one (as_for hpo rfl (ai_tup (ae_var 3)) (ag_name 4 sc_Terms_users.nd) (as_one (as_expr (ae_append (ae_setd (ae_var 1) (ae_meth T.cl_Terms T.M_Terms_root G_Terms_root hr T.b_Terms_root (ae_var 0) (aa_cons (ae_var 4) aa_nil)) (ae_lst aa_nil) ⟨rfl, rfl, rfl, rfl⟩) (aa_cons (ae_var 2) aa_nil)))))))
    (as_one (as_ret (ae_var 1)))))
set_option maxHeartbeats 4000000 in
theorem ok_parts_first (T : Txt w K mg)  {A : ASp}
    (hp : ∀ ds M Q Xa, ds.length = 2 → A ds M Q Xa → a_parts_first  ax0 ⟨fun _ M => Q .non M, Q, fun _ _ => False, fun _ _ => False⟩ (startA ["users", "many", "missing", "order", "place", "whole", "x", "parts"] ds) M) :
    FnOk P w K mg base CX0 (k + 1) T.f_parts_first T.fd_parts_first ["users", "many"] (conc K 2 A) := by
  refine fn_abs T.F_parts_first sc_parts_first rfl (fun cdv Ar outer s H E hr => ?_) hp
  have hpo : PassesOwn (model P w) (Ar.deeper (PyProof.Rows.envOfC "parts_first" (defScope s_parts_first) s.heap.objs.size T.f_parts_first cdv)) (PyProof.Rows.envOfC "parts_first" (defScope s_parts_first) s.heap.objs.size T.f_parts_first cdv) (fun _ _ => False) := PassesOwn.never
  exact (as_cons (as_set 2 sc_parts_first.nd (ae_callTy call_list_of sim_list (by rfl) T.n_list (by decide +kernel) (aa_cons (ae_var 1) aa_nil)))
    (as_cons (as_setLc2 6 7 3 rfl sc_parts_first.nd rfl rfl (sw_true rfl rfl rfl (by decide +kernel)) (ai_enum (by rfl) T.n_enumerate (aa_cons (ae_var 2) aa_nil)) (blkOk_by (N := ["users", "many", "missing", "order", "place", "whole", "x", "parts"]) (sc := defScope s_parts_first) (by decide +kernel)) (fun _ _ _ _ _ => pg_tup rfl (pgs_cons (pg_name (i := 6) sc_parts_first.nd rfl (Or.inl rfl)) (pgs_cons (pg_name (i := 7) sc_parts_first.nd rfl (Or.inl rfl)) pgs_nil))) (fun _ _ _ _ _ => (ats_one (at_cmpR (op_eqA (hu64 hr)) sim_eqA (ae_var 7) ae_int (nomark _)))) (fun _ _ _ _ _ => (ae_var 6)))
    (as_cons (as_set 4 sc_parts_first.nd ae_int)
    (as_cons (as_while hpo (at_cmpR op_ltA sim_lt (ae_var 4) (ae_callB call_lenA sim_len (by rfl) T.n_len (by decide +kernel) (aa_cons (ae_var 3) aa_nil)) (nomark _)) (as_cons (as_for hpo rfl (ai_list (ae_dget2 (hu1 hr) (ae_var 0) (ae_ix (ae_var 3) (ae_var 4) (fun _ _ => rfl)) (ae_lst aa_nil) ⟨rfl, rfl, rfl, rfl⟩)) (ag_name 5 sc_parts_first.nd) (as_cons (as_subSub (ae_var 2) (ae_var 5) ae_int)
    (as_one (as_if (at_cmpR (op_eqA (hu64 hr)) sim_eqA (ae_ix (ae_var 2) (ae_var 5) (fun _ _ => rfl)) ae_int (nomark _)) (as_one (as_expr (ae_append (ae_var 3) (aa_cons (ae_var 5) aa_nil)))) as_nil))))
    (as_one (as_aug 4 sc_parts_first.nd iop_plus sim_iadd ae_int))))
    (as_one (as_ret (ae_var 3)))))))
set_option maxHeartbeats 4000000 in
theorem ok_renamed (T : Txt w K mg) {A_put : ASp} (G_put : FnOk P w K mg base CX0 k T.f_put T.fd_put ["formula", "table"] (conc K 2 A_put)) {A_naming : ASp} (G_naming : FnOk P w K mg base CX0 k T.f_naming T.fd_naming ["formulas"] (conc K 1 A_naming)) {A : ASp}
    (hp : ∀ ds M Q Xa, ds.length = 1 → A ds M Q Xa → a_renamed A_put A_naming ax0 ⟨fun _ M => Q .non M, Q, fun _ _ => False, fun _ _ => False⟩ (startA ["formula"] ds) M) :
    FnOk P w K mg base CX0 (k + 1) T.f_renamed T.fd_renamed ["formula"] (conc K 1 A) := by
  refine fn_abs T.F_renamed sc_renamed rfl (fun cdv Ar outer s H E hr => ?_) hp
  have hpo : PassesOwn (model P w) (Ar.deeper (PyProof.Rows.envOfC "renamed" (defScope s_renamed) s.heap.objs.size T.f_renamed cdv)) (PyProof.Rows.envOfC "renamed" (defScope s_renamed) s.heap.objs.size T.f_renamed cdv) (fun _ _ => False) := PassesOwn.never
  exact (as_one (as_ret (ae_call G_put hr (by rfl) T.m_put T.F_put.kp T.b_put (aa_cons (ae_var 0) (aa_cons (ae_call G_naming hr (by rfl) T.m_naming T.F_naming.kp T.b_naming (aa_cons (ae_tup (aa_cons (ae_var 0) aa_nil)) aa_nil)) aa_nil)))))
set_option maxHeartbeats 4000000 in
theorem ok_naming (T : Txt w K mg) {A_name_at : ASp} (G_name_at : FnOk P w K mg base CX0 k T.f_name_at T.fd_name_at ["place"] (conc K 1 A_name_at)) {A : ASp}
    (hp : ∀ ds M Q Xa, ds.length = 1 → A ds M Q Xa → a_naming A_name_at ax0 ⟨fun _ M => Q .non M, Q, fun _ _ => False, fun _ _ => False⟩ (startA ["formulas", "table", "formula", "waiting", "part"] ds) M) :
    FnOk P w K mg base CX0 (k + 1) T.f_naming T.fd_naming ["formulas"] (conc K 1 A) := by
  refine fn_abs T.F_naming sc_naming rfl (fun cdv Ar outer s H E hr => ?_) hp
  have hpo : PassesOwn (model P w) (Ar.deeper (PyProof.Rows.envOfC "naming" (defScope s_naming) s.heap.objs.size T.f_naming cdv)) (PyProof.Rows.envOfC "naming" (defScope s_naming) s.heap.objs.size T.f_naming cdv) (fun _ _ => False) := PassesOwn.never
  exact (as_cons (as_set 1 sc_naming.nd ae_dnewT)
    (as_cons (as_for hpo rfl (ai_tup (ae_var 0)) (ag_name 2 sc_naming.nd) (as_cons (as_set 3 sc_naming.nd (ae_lst (aa_cons (ae_var 2) aa_nil)))
    (as_one (as_while hpo (at_truth (ae_var 3)) (as_cons (as_set 4 sc_naming.nd (ae_pop (ae_var 3)))
    (as_one (as_if (at_cmpR (op_neA (hu64 hr)) sim_eqA (ae_ix (ae_var 4) ae_int (fun _ _ => rfl)) ae_str (nomark _)) (as_one (as_expr (ae_extT (ae_var 3) (aa_cons (ae_tailR (ae_var 4)) aa_nil)))) (as_one (as_if (at_dnotinT (hu1 hr) (ae_ix (ae_var 4) ae_int (fun _ _ => rfl)) (ae_var 1)) (as_one (as_dputT (hu1 hr) (ae_var 1) (ae_ix (ae_var 4) ae_int (fun _ _ => rfl)) (ae_tup (aa_cons ae_str (aa_cons (ae_call G_name_at hr (by rfl) T.m_name_at T.F_name_at.kp T.b_name_at (aa_cons (ae_callB call_lenDT sim_lenDT (by rfl) T.n_len (by decide +kernel) (aa_cons (ae_var 1) aa_nil)) aa_nil)) aa_nil))))) as_nil)))))))))
    (as_one (as_ret (ae_var 1)))))
set_option maxHeartbeats 4000000 in
theorem ok_name_at (T : Txt w K mg)  {A : ASp}
    (hp : ∀ ds M Q Xa, ds.length = 1 → A ds M Q Xa → a_name_at  ax0 ⟨fun _ M => Q .non M, Q, fun _ _ => False, fun _ _ => False⟩ (startA ["place", "many", "at"] ds) M) :
    FnOk P w K mg base CX0 (k + 1) T.f_name_at T.fd_name_at ["place"] (conc K 1 A) := by
  refine fn_abs T.F_name_at sc_name_at rfl (fun cdv Ar outer s H E hr => ?_) hp
  have hpo : PassesOwn (model P w) (Ar.deeper (PyProof.Rows.envOfC "name_at" (defScope s_name_at) s.heap.objs.size T.f_name_at cdv)) (PyProof.Rows.envOfC "name_at" (defScope s_name_at) s.heap.objs.size T.f_name_at cdv) (fun _ _ => False) := PassesOwn.never
  exact (as_cons (as_asg (ae_callB call_divmod sim_divmod (by rfl) T.n_divmod (by decide +kernel) (aa_cons (ae_var 0) (aa_cons (ae_callB call_lenA sim_len (by rfl) T.n_len (by decide +kernel) (aa_cons (ae_gstr (by rfl) T.x_SMALL) aa_nil)) aa_nil))) (ag_tup rfl (ags_cons (ag_name 1 sc_name_at.nd) (ags_cons (ag_name 2 sc_name_at.nd) ags_nil))))
    (as_cons (as_if (at_cmpR (op_eqA (hu64 hr)) sim_eqA (ae_var 1) ae_int (nomark _)) (as_one (as_ret (ae_ix (ae_gstr (by rfl) T.x_SMALL) (ae_var 2) (fun _ _ => rfl)))) as_nil)
    (as_one (as_ret (ae_fs2 (ae_fmt (ae_ix (ae_gstr (by rfl) T.x_SMALL) (ae_var 2) (fun _ _ => rfl))) (ae_fmt (ae_op op_sub sim_sub (ae_var 1) ae_int)))))))
set_option maxHeartbeats 4000000 in
theorem ok_steps_of (T : Txt w K mg)  {A : ASp}
    (hp : ∀ ds M Q Xa, ds.length = 1 → A ds M Q Xa → a_steps_of  ax0 ⟨fun _ M => Q .non M, Q, fun _ _ => False, fun _ _ => False⟩ (startA ["proof", "steps", "_", "why"] ds) M) :
    FnOk P w K mg base CX0 (k + 1) T.f_steps_of T.fd_steps_of ["proof"] (conc K 1 A) := by
  refine fn_abs T.F_steps_of sc_steps_of rfl (fun cdv Ar outer s H E hr => ?_) hp
  have hpo : PassesOwn (model P w) (Ar.deeper (PyProof.Rows.envOfC "steps_of" (defScope s_steps_of) s.heap.objs.size T.f_steps_of cdv)) (PyProof.Rows.envOfC "steps_of" (defScope s_steps_of) s.heap.objs.size T.f_steps_of cdv) (fun _ _ => False) := PassesOwn.never
  exact (as_cons (as_set 1 sc_steps_of.nd (ae_lst aa_nil))
    (as_cons (as_for hpo rfl (ai_tup (ae_var 0)) (ag_tup rfl (ags_cons (ag_name 2 sc_steps_of.nd) (ags_cons (ag_name 3 sc_steps_of.nd) ags_nil))) (as_one (as_if (at_cmpR (op_eqA (hu64 hr)) sim_eqA (ae_ix (ae_var 3) ae_int (fun _ _ => rfl)) ae_str (nomark _)) (as_one (as_expr (ae_append (ae_var 1) (aa_cons (ae_tup (aa_cons ae_str (aa_cons (ae_ix (ae_var 1) (ae_ix (ae_var 3) ae_int (fun _ _ => rfl)) (fun _ _ => rfl)) (aa_cons (ae_ix (ae_var 1) (ae_ix (ae_var 3) ae_int (fun _ _ => rfl)) (fun _ _ => rfl)) aa_nil)))) aa_nil)))) (as_one (as_expr (ae_append (ae_var 1) (aa_cons (ae_var 3) aa_nil)))))))
    (as_one (as_ret (ae_ix (ae_var 1) (ae_neg ae_int) (fun _ _ => rfl))))))
set_option maxHeartbeats 4000000 in
theorem ok_general (T : Txt w K mg) {A_most_general : ASp} (G_most_general : FnOk P w K mg base CX0 k T.f_most_general T.fd_most_general ["reasons"] (conc K 1 A_most_general)) {A_reasons_of : ASp} (G_reasons_of : FnOk P w K mg base CX0 k T.f_reasons_of T.fd_reasons_of ["steps"] (conc K 1 A_reasons_of)) {A_renamed : ASp} (G_renamed : FnOk P w K mg base CX0 k T.f_renamed T.fd_renamed ["formula"] (conc K 1 A_renamed)) {A : ASp}
    (hp : ∀ ds M Q Xa, ds.length = 1 → A ds M Q Xa → a_general A_most_general A_reasons_of A_renamed ax0 ⟨fun _ M => Q .non M, Q, fun _ _ => False, fun _ _ => False⟩ (startA ["steps", "formulas"] ds) M) :
    FnOk P w K mg base CX0 (k + 1) T.f_general T.fd_general ["steps"] (conc K 1 A) := by
  refine fn_abs T.F_general sc_general rfl (fun cdv Ar outer s H E hr => ?_) hp
  have hpo : PassesOwn (model P w) (Ar.deeper (PyProof.Rows.envOfC "general" (defScope s_general) s.heap.objs.size T.f_general cdv)) (PyProof.Rows.envOfC "general" (defScope s_general) s.heap.objs.size T.f_general cdv) (fun _ _ => False) := PassesOwn.never
  exact (as_cons (as_set 1 sc_general.nd (ae_call G_most_general hr (by rfl) T.m_most_general T.F_most_general.kp T.b_most_general (aa_cons (ae_call G_reasons_of hr (by rfl) T.m_reasons_of T.F_reasons_of.kp T.b_reasons_of (aa_cons (ae_var 0) aa_nil)) aa_nil)))
    (as_one (as_ret (ae_ifExp (at_cmpR op_isN sim_isN (ae_var 1) ae_non (nomark _)) ae_non (ae_call G_renamed hr (by rfl) T.m_renamed T.F_renamed.kp T.b_renamed (aa_cons (ae_ix (ae_var 1) (ae_neg ae_int) (fun _ _ => rfl)) aa_nil))))))
set_option maxHeartbeats 4000000 in
theorem ok_reasons_of (T : Txt w K mg)  {A : ASp}
    (hp : ∀ ds M Q Xa, ds.length = 1 → A ds M Q Xa → a_reasons_of  ax0 ⟨fun _ M => Q .non M, Q, fun _ _ => False, fun _ _ => False⟩ (startA ["steps", "backwards", "waiting", "step", "reasons", "ready", "second"] ds) M) :
    FnOk P w K mg base CX0 (k + 1) T.f_reasons_of T.fd_reasons_of ["steps"] (conc K 1 A) := by
  refine fn_abs T.F_reasons_of sc_reasons_of rfl (fun cdv Ar outer s H E hr => ?_) hp
  have hpo : PassesOwn (model P w) (Ar.deeper (PyProof.Rows.envOfC "reasons_of" (defScope s_reasons_of) s.heap.objs.size T.f_reasons_of cdv)) (PyProof.Rows.envOfC "reasons_of" (defScope s_reasons_of) s.heap.objs.size T.f_reasons_of cdv) (fun _ _ => False) := PassesOwn.never
  exact (as_cons (as_set 1 sc_reasons_of.nd (ae_lst aa_nil))
    (as_cons (as_set 2 sc_reasons_of.nd (ae_lst (aa_cons (ae_var 0) aa_nil)))
    (as_cons (as_while hpo (at_truth (ae_var 2)) (as_cons (as_set 3 sc_reasons_of.nd (ae_pop (ae_var 2)))
    (as_cons (as_expr (ae_append (ae_var 1) (aa_cons (ae_var 3) aa_nil)))
    (as_one (as_if (at_cmpR (op_eqA (hu64 hr)) sim_eqA (ae_ix (ae_var 3) ae_int (fun _ _ => rfl)) ae_str (nomark _)) (as_one (as_expr (ae_extT (ae_var 2) (aa_cons (ae_sl (ae_var 3) (ao_some ae_int) ao_none) aa_nil)))) as_nil)))))
    (as_cons (as_set 4 sc_reasons_of.nd (ae_lst aa_nil))
    (as_cons (as_set 5 sc_reasons_of.nd (ae_lst aa_nil))
    (as_cons (as_for hpo rfl (ai_revL (by rfl) T.n_reversed (ae_var 1)) (ag_name 3 sc_reasons_of.nd) (as_cons (as_if (at_cmpR (op_eqA (hu64 hr)) sim_eqA (ae_ix (ae_var 3) ae_int (fun _ _ => rfl)) ae_str (nomark _)) (as_cons (as_set 6 sc_reasons_of.nd (ae_pop (ae_var 5)))
    (as_one (as_expr (ae_append (ae_var 4) (aa_cons (ae_tup (aa_cons ae_str (aa_cons (ae_pop (ae_var 5)) (aa_cons (ae_var 6) aa_nil)))) aa_nil))))) (as_one (as_expr (ae_append (ae_var 4) (aa_cons (ae_var 3) aa_nil)))))
    (as_one (as_expr (ae_append (ae_var 5) (aa_cons (ae_op op_sub sim_sub (ae_callB call_lenA sim_len (by rfl) T.n_len (by decide +kernel) (aa_cons (ae_var 4) aa_nil)) ae_int) aa_nil))))))
    (as_one (as_ret (ae_var 4)))))))))
set_option maxHeartbeats 4000000 in
theorem ok_most_general (T : Txt w K mg) {k0 : Nat} (hk0 : k0 + 1 ≤ k) {A_Terms___init__ : ASp} (G_Terms___init__ : FnOk P w K mg base CX0 k0 T.f_Terms___init__ T.fd_Terms___init__ ["self"] (conc K 1 A_Terms___init__)) {A_Terms_letter : ASp} (G_Terms_letter : FnOk P w K mg base CX0 k T.f_Terms_letter T.fd_Terms_letter ["self", "name"] (conc K 2 A_Terms_letter)) {A_Terms_made_same : ASp} (G_Terms_made_same : FnOk P w K mg base CX0 k T.f_Terms_made_same T.fd_Terms_made_same ["self", "x", "y"] (conc K 3 A_Terms_made_same)) {A_Terms_conditional : ASp} (G_Terms_conditional : FnOk P w K mg base CX0 k T.f_Terms_conditional T.fd_Terms_conditional ["self", "condition", "consequence"] (conc K 3 A_Terms_conditional)) {A_axiom : ASp} (G_axiom : FnOk P w K mg base CX0 k T.f_axiom T.fd_axiom ["k"] (conc K 1 A_axiom)) {A_Terms_entered : ASp} (G_Terms_entered : FnOk P w K mg base CX0 k T.f_Terms_entered T.fd_Terms_entered ["self", "formula", "table"] (conc K 3 A_Terms_entered)) {A_letters : ASp} (G_letters : FnOk P w K mg base CX0 k T.f_letters T.fd_letters ["formula"] (conc K 1 A_letters)) {A_Terms_solved : ASp} (G_Terms_solved : FnOk P w K mg base CX0 k T.f_Terms_solved T.fd_Terms_solved ["self"] (conc K 1 A_Terms_solved)) {A : ASp}
    (hp : ∀ ds M Q Xa, ds.length = 1 → A ds M Q Xa → a_most_general T.C_Terms A_Terms___init__ A_Terms_letter A_Terms_made_same A_Terms_conditional A_axiom A_Terms_entered A_letters A_Terms_solved ax0 ⟨fun _ M => Q .non M, Q, fun _ _ => False, fun _ _ => False⟩ (startA ["reasons", "terms", "places", "line", "why", "place", "pattern", "formulas", "name"] ds) M) :
    FnOk P w K mg base CX0 (k + 1) T.f_most_general T.fd_most_general ["reasons"] (conc K 1 A) := by
  refine fn_abs T.F_most_general sc_most_general rfl (fun cdv Ar outer s H E hr => ?_) hp
  have hpo : PassesOwn (model P w) (Ar.deeper (PyProof.Rows.envOfC "most_general" (defScope s_most_general) s.heap.objs.size T.f_most_general cdv)) (PyProof.Rows.envOfC "most_general" (defScope s_most_general) s.heap.objs.size T.f_most_general cdv) (fun _ _ => False) := PassesOwn.never
  exact (as_cons (as_set 1 sc_most_general.nd (ae_make0 T.mk_Terms G_Terms___init__ (hr.mono hk0) (by rfl) T.mC_Terms T.b_Terms___init__))
    (as_cons (as_set 2 sc_most_general.nd (ae_lst aa_nil))
    (as_cons (as_for hpo rfl (ai_enum (by rfl) T.n_enumerate (aa_cons (ae_var 0) aa_nil)) (ag_tup rfl (ags_cons (ag_name 3 sc_most_general.nd) (ags_cons (ag_name 4 sc_most_general.nd) ags_nil))) (as_cons (as_if (at_cmpR (op_eqA (hu64 hr)) sim_eqA (ae_ix (ae_var 4) ae_int (fun _ _ => rfl)) ae_str (nomark _)) (as_cons (as_set 5 sc_most_general.nd (ae_meth T.cl_Terms T.M_Terms_letter G_Terms_letter hr T.b_Terms_letter (ae_var 1) (aa_cons (ae_tupK (aa_cons (ae_var 3) (aa_cons ae_str aa_nil))) aa_nil)))
    (as_one (as_if (at_not (at_truth (ae_meth T.cl_Terms T.M_Terms_made_same G_Terms_made_same hr T.b_Terms_made_same (ae_var 1) (aa_cons (ae_ix (ae_var 2) (ae_ix (ae_var 4) ae_int (fun _ _ => rfl)) (fun _ _ => rfl)) (aa_cons (ae_meth T.cl_Terms T.M_Terms_conditional G_Terms_conditional hr T.b_Terms_conditional (ae_var 1) (aa_cons (ae_ix (ae_var 2) (ae_ix (ae_var 4) ae_int (fun _ _ => rfl)) (fun _ _ => rfl)) (aa_cons (ae_var 5) aa_nil))) aa_nil))))) (as_one (as_ret ae_non)) as_nil))) (as_cons (as_set 6 sc_most_general.nd (ae_call G_axiom hr (by rfl) T.m_axiom T.F_axiom.kp T.b_axiom (aa_cons (ae_ix (ae_var 4) ae_int (fun _ _ => rfl)) aa_nil)))
    (as_cons (as_if (at_cmpR op_isN sim_isN (ae_var 6) ae_non (nomark _)) (as_one (as_ret ae_non)) as_nil)
    (as_one (as_set 5 sc_most_general.nd (ae_meth T.cl_Terms T.M_Terms_entered G_Terms_entered hr T.b_Terms_entered (ae_var 1) (aa_cons (ae_var 6) (aa_cons (ae_dc 8 rfl sc_most_general.nd (ai_tup (ae_call G_letters hr (by rfl) T.m_letters T.F_letters.kp T.b_letters (aa_cons (ae_var 6) aa_nil))) (blkOk_by (N := ["reasons", "terms", "places", "line", "why", "place", "pattern", "formulas", "name"]) (sc := defScope s_most_general) (by decide +kernel)) (fun _ _ _ _ _ => pg_name (i := 8) sc_most_general.nd rfl (Or.inl rfl)) (fun _ _ _ _ _ => ats_nil) (fun _ _ _ _ _ => (ae_var 8)) (fun _ _ _ _ _ => (ae_meth T.cl_Terms T.M_Terms_letter G_Terms_letter hr T.b_Terms_letter (ae_var 1) (aa_cons (ae_tupK (aa_cons (ae_var 3) (aa_cons (ae_var 8) aa_nil))) aa_nil)))) aa_nil))))))))
    (as_one (as_expr (ae_append (ae_var 2) (aa_cons (ae_var 5) aa_nil))))))
    (as_cons (as_set 7 sc_most_general.nd (ae_meth0 T.cl_Terms T.M_Terms_solved G_Terms_solved hr T.b_Terms_solved (ae_var 1)))
    (as_one (as_ret (ae_ifExp (at_cmpR op_isN sim_isN (ae_var 7) ae_non (nomark _)) ae_non (ae_lc 5 rfl sc_most_general.nd (ai_list (ae_var 2)) (blkOk_by (N := ["reasons", "terms", "places", "line", "why", "place", "pattern", "formulas", "name"]) (sc := defScope s_most_general) (by decide +kernel)) (fun _ _ _ _ _ => pg_name (i := 5) sc_most_general.nd rfl (Or.inl rfl)) (fun _ _ _ _ _ => ats_nil) (fun _ _ _ _ _ => (ae_ix (ae_var 7) (ae_var 5) (fun _ _ => rfl)))))))))))
set_option maxHeartbeats 4000000 in
theorem ok__law_cell (T : Txt w K mg)  {A : ASp}
    (hp : ∀ ds M Q Xa, ds.length = 2 → A ds M Q Xa → a__law_cell  ax0 ⟨fun _ M => Q .non M, Q, fun _ _ => False, fun _ _ => False⟩ (startA ["script", "k"] ds) M) :
    FnOk P w K mg base CX0 (k + 1) T.f__law_cell T.fd__law_cell ["script", "k"] (conc K 2 A) := by
  refine fn_abs T.F__law_cell sc__law_cell rfl (fun cdv Ar outer s H E hr => ?_) hp
  have hpo : PassesOwn (model P w) (Ar.deeper (PyProof.Rows.envOfC "_law_cell" (defScope s__law_cell) s.heap.objs.size T.f__law_cell cdv)) (PyProof.Rows.envOfC "_law_cell" (defScope s__law_cell) s.heap.objs.size T.f__law_cell cdv) (fun _ _ => False) := PassesOwn.never
  exact (as_cons (as_if (at_cmpR op_ltA sim_lt (ae_var 1) (ae_callB call_lenA sim_len (by rfl) T.n_len (by decide +kernel) (aa_cons (ae_var 0) aa_nil)) (nomark _)) (as_one (as_ret (ae_ix (ae_var 0) (ae_var 1) (fun _ _ => rfl)))) as_nil)
    (as_one (as_ret ae_int)))
set_option maxHeartbeats 4000000 in
theorem ok__law_digits (T : Txt w K mg) {A__law_cell : ASp} (G__law_cell : FnOk P w K mg base CX0 k T.f__law_cell T.fd__law_cell ["script", "k"] (conc K 2 A__law_cell)) {A : ASp}
    (hp : ∀ ds M Q Xa, ds.length = 3 → A ds M Q Xa → a__law_digits A__law_cell ax0 ⟨fun _ M => Q .non M, Q, fun _ _ => False, fun _ _ => False⟩ (startA ["script", "first", "last", "digits", "k", "cell", "turn", "seed"] ds) M) :
    FnOk P w K mg base CX0 (k + 1) T.f__law_digits T.fd__law_digits ["script", "first", "last"] (conc K 3 A) := by
  refine fn_abs T.F__law_digits sc__law_digits rfl (fun cdv Ar outer s H E hr => ?_) hp
  have hpo : PassesOwn (model P w) (Ar.deeper (PyProof.Rows.envOfC "_law_digits" (defScope s__law_digits) s.heap.objs.size T.f__law_digits cdv)) (PyProof.Rows.envOfC "_law_digits" (defScope s__law_digits) s.heap.objs.size T.f__law_digits cdv) (fun _ _ => False) := PassesOwn.never
  exact (as_cons (as_set 3 sc__law_digits.nd (ae_lst aa_nil))
    (as_cons (as_for hpo rfl (ai_rng2 (by rfl) T.n_range (aa_cons (ae_var 1) (aa_cons (ae_var 2) aa_nil))) (ag_name 4 sc__law_digits.nd) (as_cons (as_set 5 sc__law_digits.nd (ae_call G__law_cell hr (by rfl) T.m__law_cell T.F__law_cell.kp T.b__law_cell (aa_cons (ae_var 0) (aa_cons (ae_var 4) aa_nil))))
    (as_cons (as_if (at_cmpR op_ltA sim_lt (ae_var 5) ae_int (nomark _)) (as_one (as_set 5 sc__law_digits.nd (ae_op op_sub sim_sub ae_int (ae_op op_mul sim_mul ae_int (ae_var 5))))) as_nil)
    (as_one (as_if (at_cmpR op_ge sim_ge (ae_var 5) (ae_op op_pow sim_pow ae_int ae_int) (nomark _)) (as_one (as_for hpo rfl (ai_rng1 (by rfl) T.n_range (aa_cons ae_int aa_nil)) (ag_name 6 sc__law_digits.nd) (as_one (as_if (at_cmpR op_gt sim_gt (ae_var 5) ae_int (nomark _)) (as_cons (as_expr (ae_append (ae_var 3) (aa_cons (ae_op op_mod sim_mod (ae_callTy call_int1 sim_int (by rfl) T.n_int (by decide +kernel) (aa_cons (ae_var 5) aa_nil)) ae_int) aa_nil)))
    (as_one (as_set 5 sc__law_digits.nd (ae_op op_fdiv sim_fdiv (ae_var 5) ae_int)))) as_nil)))) (as_cons (as_set 7 sc__law_digits.nd (ae_op op_mod sim_mod (ae_callTy call_int1 sim_int (by rfl) T.n_int (by decide +kernel) (aa_cons (ae_op op_plus sim_add (ae_op op_plus sim_add (ae_op op_mul sim_mul (ae_var 5) ae_int) (ae_op op_mul sim_mul (ae_var 4) ae_int)) ae_int) aa_nil)) ae_int))
    (as_one (as_for hpo rfl (ai_rng1 (by rfl) T.n_range (aa_cons ae_int aa_nil)) (ag_name 6 sc__law_digits.nd) (as_cons (as_set 7 sc__law_digits.nd (ae_op op_mod sim_mod (ae_callTy call_int1 sim_int (by rfl) T.n_int (by decide +kernel) (aa_cons (ae_op op_plus sim_add (ae_op op_plus sim_add (ae_op op_mul sim_mul (ae_var 7) ae_int) (ae_op op_mul sim_mul ae_int (ae_var 6))) ae_int) aa_nil)) ae_int))
    (as_one (as_expr (ae_append (ae_var 3) (aa_cons (ae_op op_mod sim_mod (ae_callTy call_int1 sim_int (by rfl) T.n_int (by decide +kernel) (aa_cons (ae_op op_fdiv sim_fdiv (ae_var 7) ae_int) aa_nil)) ae_int) aa_nil)))))))))))))
    (as_one (as_ret (ae_var 3)))))
set_option maxHeartbeats 4000000 in
theorem ok__law_box (T : Txt w K mg) {A__law_digits : ASp} (G__law_digits : FnOk P w K mg base CX0 k T.f__law_digits T.fd__law_digits ["script", "first", "last"] (conc K 3 A__law_digits)) {A : ASp}
    (hp : ∀ ds M Q Xa, ds.length = 3 → A ds M Q Xa → a__law_box A__law_digits ax0 ⟨fun _ M => Q .non M, Q, fun _ _ => False, fun _ _ => False⟩ (startA ["script", "first", "last"] ds) M) :
    FnOk P w K mg base CX0 (k + 1) T.f__law_box T.fd__law_box ["script", "first", "last"] (conc K 3 A) := by
  refine fn_abs T.F__law_box sc__law_box rfl (fun cdv Ar outer s H E hr => ?_) hp
  have hpo : PassesOwn (model P w) (Ar.deeper (PyProof.Rows.envOfC "_law_box" (defScope s__law_box) s.heap.objs.size T.f__law_box cdv)) (PyProof.Rows.envOfC "_law_box" (defScope s__law_box) s.heap.objs.size T.f__law_box cdv) (fun _ _ => False) := PassesOwn.never
  exact (as_one (as_ret (ae_lst (aa_cons (ae_call G__law_digits hr (by rfl) T.m__law_digits T.F__law_digits.kp T.b__law_digits (aa_cons (ae_var 0) (aa_cons (ae_var 1) (aa_cons (ae_var 2) aa_nil)))) (aa_cons ae_int aa_nil)))))
set_option maxHeartbeats 4000000 in
theorem ok__law_draw (T : Txt w K mg)  {A : ASp}
    (hp : ∀ ds M Q Xa, ds.length = 2 → A ds M Q Xa → a__law_draw  ax0 ⟨fun _ M => Q .non M, Q, fun _ _ => False, fun _ _ => False⟩ (startA ["box", "many", "at"] ds) M) :
    FnOk P w K mg base CX0 (k + 1) T.f__law_draw T.fd__law_draw ["box", "many"] (conc K 2 A) := by
  refine fn_abs T.F__law_draw sc__law_draw rfl (fun cdv Ar outer s H E hr => ?_) hp
  have hpo : PassesOwn (model P w) (Ar.deeper (PyProof.Rows.envOfC "_law_draw" (defScope s__law_draw) s.heap.objs.size T.f__law_draw cdv)) (PyProof.Rows.envOfC "_law_draw" (defScope s__law_draw) s.heap.objs.size T.f__law_draw cdv) (fun _ _ => False) := PassesOwn.never
  exact (as_cons (as_set 2 sc__law_draw.nd (ae_ix (ae_var 0) ae_int (fun _ _ => rfl)))
    (as_cons (as_asg (ae_op op_plus sim_add (ae_var 2) ae_int) (ag_sub (ae_var 0) ae_int))
    (as_cons (as_if (at_cmpR op_ltA sim_lt (ae_var 2) (ae_callB call_lenA sim_len (by rfl) T.n_len (by decide +kernel) (aa_cons (ae_ix (ae_var 0) ae_int (fun _ _ => rfl)) aa_nil)) (nomark _)) (as_one (as_ret (ae_op op_mod sim_mod (ae_callTy call_int1 sim_int (by rfl) T.n_int (by decide +kernel) (aa_cons (ae_ix (ae_ix (ae_var 0) ae_int (fun _ _ => rfl)) (ae_var 2) (fun _ _ => rfl)) aa_nil)) (ae_var 1)))) as_nil)
    (as_one (as_ret ae_int)))))
set_option maxHeartbeats 4000000 in
theorem ok__law_pairs (T : Txt w K mg)  {A : ASp}
    (hp : ∀ ds M Q Xa, ds.length = 1 → A ds M Q Xa → a__law_pairs  ax0 ⟨fun _ M => Q .non M, Q, fun _ _ => False, fun _ _ => False⟩ (startA ["lines", "pairs", "i", "j"] ds) M) :
    FnOk P w K mg base CX0 (k + 1) T.f__law_pairs T.fd__law_pairs ["lines"] (conc K 1 A) := by
  refine fn_abs T.F__law_pairs sc__law_pairs rfl (fun cdv Ar outer s H E hr => ?_) hp
  have hpo : PassesOwn (model P w) (Ar.deeper (PyProof.Rows.envOfC "_law_pairs" (defScope s__law_pairs) s.heap.objs.size T.f__law_pairs cdv)) (PyProof.Rows.envOfC "_law_pairs" (defScope s__law_pairs) s.heap.objs.size T.f__law_pairs cdv) (fun _ _ => False) := PassesOwn.never
  exact (as_cons (as_set 1 sc__law_pairs.nd (ae_lst aa_nil))
    (as_cons (as_for hpo rfl (ai_rng1 (by rfl) T.n_range (aa_cons (ae_callB call_lenA sim_len (by rfl) T.n_len (by decide +kernel) (aa_cons (ae_var 0) aa_nil)) aa_nil)) (ag_name 2 sc__law_pairs.nd) (as_one (as_if (at_cmpR (op_eqA (hu64 hr)) sim_eqA (ae_ix (ae_ix (ae_ix (ae_var 0) (ae_var 2) (fun _ _ => rfl)) ae_int (fun _ _ => rfl)) ae_int (fun _ _ => rfl)) ae_str (nomark _)) (as_one (as_for hpo rfl (ai_rng1 (by rfl) T.n_range (aa_cons (ae_callB call_lenA sim_len (by rfl) T.n_len (by decide +kernel) (aa_cons (ae_var 0) aa_nil)) aa_nil)) (ag_name 3 sc__law_pairs.nd) (as_one (as_if (at_cmpR (op_eqA (hu64 hr)) sim_eqA (ae_ix (ae_ix (ae_var 0) (ae_var 3) (fun _ _ => rfl)) ae_int (fun _ _ => rfl)) (ae_ix (ae_ix (ae_ix (ae_var 0) (ae_var 2) (fun _ _ => rfl)) ae_int (fun _ _ => rfl)) ae_int (fun _ _ => rfl)) (nomark _)) (as_one (as_expr (ae_append (ae_var 1) (aa_cons (ae_tup (aa_cons (ae_var 2) (aa_cons (ae_var 3) aa_nil))) aa_nil)))) as_nil)))) as_nil)))
    (as_one (as_ret (ae_var 1)))))
set_option maxHeartbeats 4000000 in
theorem ok__law_any (T : Txt w K mg) {A__law_draw : ASp} (G__law_draw : FnOk P w K mg base CX0 k T.f__law_draw T.fd__law_draw ["box", "many"] (conc K 2 A__law_draw)) {A__law_any : ASp} (G__law_any : FnOk P w K mg base CX0 k T.f__law_any T.fd__law_any ["box", "room", "many"] (conc K 3 A__law_any)) {A : ASp}
    (hp : ∀ ds M Q Xa, ds.length = 3 → A ds M Q Xa → a__law_any A__law_draw A__law_any ax0 ⟨fun _ M => Q .non M, Q, fun _ _ => False, fun _ _ => False⟩ (startA ["box", "room", "many", "kind", "left", "first"] ds) M) :
    FnOk P w K mg base CX0 (k + 1) T.f__law_any T.fd__law_any ["box", "room", "many"] (conc K 3 A) := by
  refine fn_abs T.F__law_any sc__law_any rfl (fun cdv Ar outer s H E hr => ?_) hp
  have hpo : PassesOwn (model P w) (Ar.deeper (PyProof.Rows.envOfC "_law_any" (defScope s__law_any) s.heap.objs.size T.f__law_any cdv)) (PyProof.Rows.envOfC "_law_any" (defScope s__law_any) s.heap.objs.size T.f__law_any cdv) (fun _ _ => False) := PassesOwn.never
  exact (as_cons (as_set 3 sc__law_any.nd (ae_call G__law_draw hr (by rfl) T.m__law_draw T.F__law_draw.kp T.b__law_draw (aa_cons (ae_var 0) (aa_cons ae_int aa_nil))))
    (as_cons (as_if (at_w (aw_or (at_cmpR op_ltA sim_lt (ae_var 1) ae_int (nomark _)) (aw_or1 (at_cmpR op_ltA sim_lt (ae_var 3) ae_int (nomark _))))) (as_one (as_ret (ae_tup (aa_cons ae_str (aa_cons (ae_ix ae_str (ae_call G__law_draw hr (by rfl) T.m__law_draw T.F__law_draw.kp T.b__law_draw (aa_cons (ae_var 0) (aa_cons (ae_var 2) aa_nil))) (fun _ _ => rfl)) aa_nil))))) as_nil)
    (as_cons (as_if (at_w (aw_or (at_cmpR op_ltA sim_lt (ae_var 1) ae_int (nomark _)) (aw_or1 (at_cmpR op_ltA sim_lt (ae_var 3) ae_int (nomark _))))) (as_one (as_ret (ae_tup (aa_cons ae_str (aa_cons (ae_call G__law_any hr (by rfl) T.m__law_any T.F__law_any.kp T.b__law_any (aa_cons (ae_var 0) (aa_cons (ae_op op_sub sim_sub (ae_var 1) ae_int) (aa_cons (ae_var 2) aa_nil)))) aa_nil))))) as_nil)
    (as_cons (as_set 4 sc__law_any.nd (ae_op op_plus sim_add ae_int (ae_call G__law_draw hr (by rfl) T.m__law_draw T.F__law_draw.kp T.b__law_draw (aa_cons (ae_var 0) (aa_cons (ae_op op_sub sim_sub (ae_var 1) ae_int) aa_nil)))))
    (as_cons (as_set 5 sc__law_any.nd (ae_call G__law_any hr (by rfl) T.m__law_any T.F__law_any.kp T.b__law_any (aa_cons (ae_var 0) (aa_cons (ae_var 4) (aa_cons (ae_var 2) aa_nil)))))
    (as_one (as_ret (ae_tup (aa_cons ae_str (aa_cons (ae_var 5) (aa_cons (ae_call G__law_any hr (by rfl) T.m__law_any T.F__law_any.kp T.b__law_any (aa_cons (ae_var 0) (aa_cons (ae_op op_sub sim_sub (ae_op op_sub sim_sub (ae_var 1) ae_int) (ae_var 4)) (aa_cons (ae_var 2) aa_nil)))) aa_nil)))))))))))
set_option maxHeartbeats 4000000 in
theorem ok__law_parts (T : Txt w K mg) {A__law_parts : ASp} (G__law_parts : FnOk P w K mg base CX0 k T.f__law_parts T.fd__law_parts ["formula"] (conc K 1 A__law_parts)) {A : ASp}
    (hp : ∀ ds M Q Xa, ds.length = 1 → A ds M Q Xa → a__law_parts A__law_parts ax0 ⟨fun _ M => Q .non M, Q, fun _ _ => False, fun _ _ => False⟩ (startA ["formula", "rows", "part"] ds) M) :
    FnOk P w K mg base CX0 (k + 1) T.f__law_parts T.fd__law_parts ["formula"] (conc K 1 A) := by
  refine fn_abs T.F__law_parts sc__law_parts rfl (fun cdv Ar outer s H E hr => ?_) hp
  have hpo : PassesOwn (model P w) (Ar.deeper (PyProof.Rows.envOfC "_law_parts" (defScope s__law_parts) s.heap.objs.size T.f__law_parts cdv)) (PyProof.Rows.envOfC "_law_parts" (defScope s__law_parts) s.heap.objs.size T.f__law_parts cdv) (fun _ _ => False) := PassesOwn.never
  exact (as_cons (as_set 1 sc__law_parts.nd (ae_lst (aa_cons (ae_var 0) aa_nil)))
    (as_cons (as_for hpo rfl (ai_tup (ae_sl (ae_var 0) (ao_some ae_int) ao_none)) (ag_name 2 sc__law_parts.nd) (as_one (as_if (at_cmpR (op_neA (hu64 hr)) sim_eqA (ae_ix (ae_var 0) ae_int (fun _ _ => rfl)) ae_str (nomark _)) (as_one (as_set 1 sc__law_parts.nd (ae_op op_plus sim_add (ae_var 1) (ae_call G__law_parts hr (by rfl) T.m__law_parts T.F__law_parts.kp T.b__law_parts (aa_cons (ae_var 2) aa_nil))))) as_nil)))
    (as_one (as_ret (ae_var 1)))))
set_option maxHeartbeats 4000000 in
theorem ok__law_put (T : Txt w K mg) {A__law_put : ASp} (G__law_put : FnOk P w K mg base CX0 k T.f__law_put T.fd__law_put ["formula", "table"] (conc K 2 A__law_put)) {A : ASp}
    (hp : ∀ ds M Q Xa, ds.length = 2 → A ds M Q Xa → a__law_put A__law_put ax0 ⟨fun _ M => Q .non M, Q, fun _ _ => False, fun _ _ => False⟩ (startA ["formula", "table", "part"] ds) M) :
    FnOk P w K mg base CX0 (k + 1) T.f__law_put T.fd__law_put ["formula", "table"] (conc K 2 A) := by
  refine fn_abs T.F__law_put sc__law_put rfl (fun cdv Ar outer s H E hr => ?_) hp
  have hpo : PassesOwn (model P w) (Ar.deeper (PyProof.Rows.envOfC "_law_put" (defScope s__law_put) s.heap.objs.size T.f__law_put cdv)) (PyProof.Rows.envOfC "_law_put" (defScope s__law_put) s.heap.objs.size T.f__law_put cdv) (fun _ _ => False) := PassesOwn.never
  exact (as_cons (as_if (at_cmpR (op_eqA (hu64 hr)) sim_eqA (ae_ix (ae_var 0) ae_int (fun _ _ => rfl)) ae_str (nomark _)) (as_one (as_ret (ae_dget2 (hu1 hr) (ae_var 1) (ae_ix (ae_var 0) ae_int (fun _ _ => rfl)) (ae_var 0) ⟨rfl, rfl, rfl, rfl⟩))) as_nil)
    (as_one (as_ret (ae_op op_plus sim_add (ae_tup (aa_cons (ae_ix (ae_var 0) ae_int (fun _ _ => rfl)) aa_nil)) (ae_callTy call_tuple_of sim_tuple (by rfl) T.n_tuple (by decide +kernel) (aa_cons (ae_lc 2 rfl sc__law_put.nd (ai_tup (ae_sl (ae_var 0) (ao_some ae_int) ao_none)) (blkOk_by (N := ["formula", "table", "part"]) (sc := defScope s__law_put) (by decide +kernel)) (fun _ _ _ _ _ => pg_name (i := 2) sc__law_put.nd rfl (Or.inl rfl)) (fun _ _ _ _ _ => ats_nil) (fun _ _ _ _ _ => (ae_call G__law_put hr (by rfl) T.m__law_put T.F__law_put.kp T.b__law_put (aa_cons (ae_var 2) (aa_cons (ae_var 1) aa_nil))))) aa_nil))))))
set_option maxHeartbeats 4000000 in
theorem ok__law_if (T : Txt w K mg)  {A : ASp}
    (hp : ∀ ds M Q Xa, ds.length = 1 → A ds M Q Xa → a__law_if  ax0 ⟨fun _ M => Q .non M, Q, fun _ _ => False, fun _ _ => False⟩ (startA ["rows", "formula", "k"] ds) M) :
    FnOk P w K mg base CX0 (k + 1) T.f__law_if T.fd__law_if ["rows"] (conc K 1 A) := by
  refine fn_abs T.F__law_if sc__law_if rfl (fun cdv Ar outer s H E hr => ?_) hp
  have hpo : PassesOwn (model P w) (Ar.deeper (PyProof.Rows.envOfC "_law_if" (defScope s__law_if) s.heap.objs.size T.f__law_if cdv)) (PyProof.Rows.envOfC "_law_if" (defScope s__law_if) s.heap.objs.size T.f__law_if cdv) (fun _ _ => False) := PassesOwn.never
  exact (as_cons (as_set 1 sc__law_if.nd (ae_ix (ae_var 0) (ae_op op_sub sim_sub (ae_callB call_lenA sim_len (by rfl) T.n_len (by decide +kernel) (aa_cons (ae_var 0) aa_nil)) ae_int) (fun _ _ => rfl)))
    (as_cons (as_for hpo rfl (ai_rng2 (by rfl) T.n_range (aa_cons ae_int (aa_cons (ae_callB call_lenA sim_len (by rfl) T.n_len (by decide +kernel) (aa_cons (ae_var 0) aa_nil)) aa_nil))) (ag_name 2 sc__law_if.nd) (as_one (as_set 1 sc__law_if.nd (ae_tup (aa_cons ae_str (aa_cons (ae_ix (ae_var 0) (ae_op op_sub sim_sub (ae_op op_sub sim_sub (ae_callB call_lenA sim_len (by rfl) T.n_len (by decide +kernel) (aa_cons (ae_var 0) aa_nil)) ae_int) (ae_var 2)) (fun _ _ => rfl)) (aa_cons (ae_var 1) aa_nil)))))))
    (as_one (as_ret (ae_var 1)))))
set_option maxHeartbeats 4000000 in
theorem ok__law_axiom (T : Txt w K mg) {A__law_if : ASp} (G__law_if : FnOk P w K mg base CX0 k T.f__law_if T.fd__law_if ["rows"] (conc K 1 A__law_if)) {A : ASp}
    (hp : ∀ ds M Q Xa, ds.length = 1 → A ds M Q Xa → a__law_axiom A__law_if ax0 ⟨fun _ M => Q .non M, Q, fun _ _ => False, fun _ _ => False⟩ (startA ["k", "a", "b", "c", "d", "axioms"] ds) M) :
    FnOk P w K mg base CX0 (k + 1) T.f__law_axiom T.fd__law_axiom ["k"] (conc K 1 A) := by
  refine fn_abs T.F__law_axiom sc__law_axiom rfl (fun cdv Ar outer s H E hr => ?_) hp
  have hpo : PassesOwn (model P w) (Ar.deeper (PyProof.Rows.envOfC "_law_axiom" (defScope s__law_axiom) s.heap.objs.size T.f__law_axiom cdv)) (PyProof.Rows.envOfC "_law_axiom" (defScope s__law_axiom) s.heap.objs.size T.f__law_axiom cdv) (fun _ _ => False) := PassesOwn.never
  exact (as_cons (as_set 1 sc__law_axiom.nd (ae_tup (aa_cons ae_str (aa_cons ae_str aa_nil))))
    (as_cons (as_set 2 sc__law_axiom.nd (ae_tup (aa_cons ae_str (aa_cons ae_str aa_nil))))
    (as_cons (as_set 3 sc__law_axiom.nd (ae_tup (aa_cons ae_str (aa_cons ae_str aa_nil))))
    (as_cons (as_set 4 sc__law_axiom.nd (ae_tup (aa_cons ae_str (aa_cons ae_str aa_nil))))
    (as_cons (as_set 5 sc__law_axiom.nd (ae_lst (aa_cons (ae_call G__law_if hr (by rfl) T.m__law_if T.F__law_if.kp T.b__law_if (aa_cons (ae_lst (aa_cons (ae_var 1) (aa_cons (ae_var 2) (aa_cons (ae_var 1) aa_nil)))) aa_nil)) (aa_cons (ae_call G__law_if hr (by rfl) T.m__law_if T.F__law_if.kp T.b__law_if (aa_cons (ae_lst (aa_cons (ae_call G__law_if hr (by rfl) T.m__law_if T.F__law_if.kp T.b__law_if (aa_cons (ae_lst (aa_cons (ae_var 3) (aa_cons (ae_var 2) (aa_cons (ae_var 1) aa_nil)))) aa_nil)) (aa_cons (ae_call G__law_if hr (by rfl) T.m__law_if T.F__law_if.kp T.b__law_if (aa_cons (ae_lst (aa_cons (ae_var 3) (aa_cons (ae_var 2) aa_nil))) aa_nil)) (aa_cons (ae_var 3) (aa_cons (ae_var 1) aa_nil))))) aa_nil)) aa_nil))))
    (as_cons (as_expr (ae_append (ae_var 5) (aa_cons (ae_call G__law_if hr (by rfl) T.m__law_if T.F__law_if.kp T.b__law_if (aa_cons (ae_lst (aa_cons (ae_call G__law_if hr (by rfl) T.m__law_if T.F__law_if.kp T.b__law_if (aa_cons (ae_lst (aa_cons (ae_var 4) (aa_cons (ae_var 2) (aa_cons (ae_var 1) aa_nil)))) aa_nil)) (aa_cons (ae_var 2) (aa_cons (ae_var 4) (aa_cons (ae_var 1) aa_nil))))) aa_nil)) aa_nil)))
    (as_cons (as_expr (ae_append (ae_var 5) (aa_cons (ae_call G__law_if hr (by rfl) T.m__law_if T.F__law_if.kp T.b__law_if (aa_cons (ae_lst (aa_cons (ae_call G__law_if hr (by rfl) T.m__law_if T.F__law_if.kp T.b__law_if (aa_cons (ae_lst (aa_cons (ae_var 2) (aa_cons (ae_var 1) aa_nil))) aa_nil)) (aa_cons (ae_tup (aa_cons ae_str (aa_cons (ae_var 1) aa_nil))) (aa_cons (ae_tup (aa_cons ae_str (aa_cons (ae_var 2) aa_nil))) aa_nil)))) aa_nil)) aa_nil)))
    (as_one (as_ret (ae_ix (ae_op op_plus sim_add (ae_var 5) (ae_lst (aa_cons (ae_call G__law_if hr (by rfl) T.m__law_if T.F__law_if.kp T.b__law_if (aa_cons (ae_lst (aa_cons (ae_tup (aa_cons ae_str (aa_cons (ae_tup (aa_cons ae_str (aa_cons (ae_var 1) aa_nil))) aa_nil))) (aa_cons (ae_var 1) aa_nil))) aa_nil)) (aa_cons (ae_call G__law_if hr (by rfl) T.m__law_if T.F__law_if.kp T.b__law_if (aa_cons (ae_lst (aa_cons (ae_var 1) (aa_cons (ae_tup (aa_cons ae_str (aa_cons (ae_tup (aa_cons ae_str (aa_cons (ae_var 1) aa_nil))) aa_nil))) aa_nil))) aa_nil)) aa_nil)))) (ae_op op_sub sim_sub (ae_var 0) ae_int) (fun _ _ => rfl)))))))))))
set_option maxHeartbeats 4000000 in
theorem ok__law_instance (T : Txt w K mg) {A__law_draw : ASp} (G__law_draw : FnOk P w K mg base CX0 k T.f__law_draw T.fd__law_draw ["box", "many"] (conc K 2 A__law_draw)) {A__law_any : ASp} (G__law_any : FnOk P w K mg base CX0 k T.f__law_any T.fd__law_any ["box", "room", "many"] (conc K 3 A__law_any)) {A__law_parts : ASp} (G__law_parts : FnOk P w K mg base CX0 k T.f__law_parts T.fd__law_parts ["formula"] (conc K 1 A__law_parts)) {A__law_put : ASp} (G__law_put : FnOk P w K mg base CX0 k T.f__law_put T.fd__law_put ["formula", "table"] (conc K 2 A__law_put)) {A__law_axiom : ASp} (G__law_axiom : FnOk P w K mg base CX0 k T.f__law_axiom T.fd__law_axiom ["k"] (conc K 1 A__law_axiom)) {A : ASp}
    (hp : ∀ ds M Q Xa, ds.length = 3 → A ds M Q Xa → a__law_instance A__law_draw A__law_any A__law_parts A__law_put A__law_axiom ax0 ⟨fun _ M => Q .non M, Q, fun _ _ => False, fun _ _ => False⟩ (startA ["box", "lines", "axioms", "k", "table", "name"] ds) M) :
    FnOk P w K mg base CX0 (k + 1) T.f__law_instance T.fd__law_instance ["box", "lines", "axioms"] (conc K 3 A) := by
  refine fn_abs T.F__law_instance sc__law_instance rfl (fun cdv Ar outer s H E hr => ?_) hp
  have hpo : PassesOwn (model P w) (Ar.deeper (PyProof.Rows.envOfC "_law_instance" (defScope s__law_instance) s.heap.objs.size T.f__law_instance cdv)) (PyProof.Rows.envOfC "_law_instance" (defScope s__law_instance) s.heap.objs.size T.f__law_instance cdv) (fun _ _ => False) := PassesOwn.never
  exact (as_cons (as_set 3 sc__law_instance.nd (ae_ix (ae_var 2) (ae_call G__law_draw hr (by rfl) T.m__law_draw T.F__law_draw.kp T.b__law_draw (aa_cons (ae_var 0) (aa_cons (ae_callB call_lenA sim_len (by rfl) T.n_len (by decide +kernel) (aa_cons (ae_var 2) aa_nil)) aa_nil))) (fun _ _ => rfl)))
    (as_cons (as_set 4 sc__law_instance.nd ae_dnew)
    (as_cons (as_for hpo rfl (ai_list (ae_lst (aa_cons ae_str (aa_cons ae_str (aa_cons ae_str (aa_cons ae_str aa_nil)))))) (ag_name 5 sc__law_instance.nd) (as_cons (as_dput (hu1 hr) (ae_var 4) (ae_var 5) (ae_call G__law_any hr (by rfl) T.m__law_any T.F__law_any.kp T.b__law_any (aa_cons (ae_var 0) (aa_cons (ae_op op_plus sim_add ae_int (ae_call G__law_draw hr (by rfl) T.m__law_draw T.F__law_draw.kp T.b__law_draw (aa_cons (ae_var 0) (aa_cons ae_int aa_nil)))) (aa_cons ae_int aa_nil)))))
    (as_one (as_if (at_w (aw_and (at_cmpR op_gt sim_gt (ae_callB call_lenA sim_len (by rfl) T.n_len (by decide +kernel) (aa_cons (ae_var 1) aa_nil)) ae_int (nomark _)) (aw_and1 (at_cmpR (op_eqA (hu64 hr)) sim_eqA (ae_call G__law_draw hr (by rfl) T.m__law_draw T.F__law_draw.kp T.b__law_draw (aa_cons (ae_var 0) (aa_cons ae_int aa_nil))) ae_int (nomark _))))) (as_cons (as_dput (hu1 hr) (ae_var 4) (ae_var 5) (ae_ix (ae_ix (ae_var 1) (ae_op op_mod sim_mod (ae_callTy call_int1 sim_int (by rfl) T.n_int (by decide +kernel) (aa_cons (ae_call G__law_draw hr (by rfl) T.m__law_draw T.F__law_draw.kp T.b__law_draw (aa_cons (ae_var 0) (aa_cons ae_int aa_nil))) aa_nil)) (ae_callB call_lenA sim_len (by rfl) T.n_len (by decide +kernel) (aa_cons (ae_var 1) aa_nil))) (fun _ _ => rfl)) ae_int (fun _ _ => rfl)))
    (as_cons (as_if (at_w (aw_and (at_cmpR (op_eqA (hu64 hr)) sim_eqA (ae_ix (ae_dget (hu1 hr) (ae_var 4) (ae_var 5) (fun _ _ => rfl)) ae_int (fun _ _ => rfl)) ae_str (nomark _)) (aw_and1 (at_cmpR (op_eqA (hu64 hr)) sim_eqA (ae_call G__law_draw hr (by rfl) T.m__law_draw T.F__law_draw.kp T.b__law_draw (aa_cons (ae_var 0) (aa_cons ae_int aa_nil))) ae_int (nomark _))))) (as_one (as_dput (hu1 hr) (ae_var 4) (ae_var 5) (ae_ix (ae_dget (hu1 hr) (ae_var 4) (ae_var 5) (fun _ _ => rfl)) (ae_op op_plus sim_add ae_int (ae_call G__law_draw hr (by rfl) T.m__law_draw T.F__law_draw.kp T.b__law_draw (aa_cons (ae_var 0) (aa_cons ae_int aa_nil)))) (fun _ _ => rfl)))) as_nil)
    (as_one (as_if (at_cmpR op_gt sim_gt (ae_callB call_lenA sim_len (by rfl) T.n_len (by decide +kernel) (aa_cons (ae_call G__law_parts hr (by rfl) T.m__law_parts T.F__law_parts.kp T.b__law_parts (aa_cons (ae_dget (hu1 hr) (ae_var 4) (ae_var 5) (fun _ _ => rfl)) aa_nil)) aa_nil)) ae_int (nomark _)) (as_one (as_dput (hu1 hr) (ae_var 4) (ae_var 5) (ae_tup (aa_cons ae_str (aa_cons ae_str aa_nil))))) as_nil)))) as_nil))))
    (as_one (as_ret (ae_tup (aa_cons (ae_call G__law_put hr (by rfl) T.m__law_put T.F__law_put.kp T.b__law_put (aa_cons (ae_call G__law_axiom hr (by rfl) T.m__law_axiom T.F__law_axiom.kp T.b__law_axiom (aa_cons (ae_var 3) aa_nil)) (aa_cons (ae_var 4) aa_nil))) (aa_cons (ae_tup (aa_cons ae_str (aa_cons (ae_var 3) aa_nil))) aa_nil))))))))
set_option maxHeartbeats 4000000 in
theorem ok__law_same (T : Txt w K mg) {A__law_same : ASp} (G__law_same : FnOk P w K mg base CX0 k T.f__law_same T.fd__law_same ["actual", "expected"] (conc K 2 A__law_same)) {A : ASp}
    (hp : ∀ ds M Q Xa, ds.length = 2 → A ds M Q Xa → a__law_same A__law_same ax0 ⟨fun _ M => Q .non M, Q, fun _ _ => False, fun _ _ => False⟩ (startA ["actual", "expected", "k"] ds) M) :
    FnOk P w K mg base CX0 (k + 1) T.f__law_same T.fd__law_same ["actual", "expected"] (conc K 2 A) := by
  refine fn_abs T.F__law_same sc__law_same rfl (fun cdv Ar outer s H E hr => ?_) hp
  have hpo : PassesOwn (model P w) (Ar.deeper (PyProof.Rows.envOfC "_law_same" (defScope s__law_same) s.heap.objs.size T.f__law_same cdv)) (PyProof.Rows.envOfC "_law_same" (defScope s__law_same) s.heap.objs.size T.f__law_same cdv) (fun _ _ => False) := PassesOwn.never
  exact (as_cons (as_if (at_truth (ae_isi (by rfl) T.n_isinstance (by decide +kernel) (ae_var 1) (by rfl) T.n_tuple (by decide +kernel) (by decide +kernel))) (as_cons (as_if (at_w (aw_or (at_not (at_truth (ae_isi (by rfl) T.n_isinstance (by decide +kernel) (ae_var 0) (by rfl) T.n_tuple (by decide +kernel) (by decide +kernel)))) (aw_or1 (at_cmpR (op_neA (hu64 hr)) sim_eqA (ae_callB call_lenA sim_len (by rfl) T.n_len (by decide +kernel) (aa_cons (ae_var 0) aa_nil)) (ae_callB call_lenA sim_len (by rfl) T.n_len (by decide +kernel) (aa_cons (ae_var 1) aa_nil)) (nomark _))))) (as_one (as_ret ae_bl)) as_nil)
    (as_cons (as_for hpo rfl (ai_rng1 (by rfl) T.n_range (aa_cons (ae_callB call_lenA sim_len (by rfl) T.n_len (by decide +kernel) (aa_cons (ae_var 1) aa_nil)) aa_nil)) (ag_name 2 sc__law_same.nd) (as_one (as_if (at_not (at_truth (ae_call G__law_same hr (by rfl) T.m__law_same T.F__law_same.kp T.b__law_same (aa_cons (ae_ix (ae_var 0) (ae_var 2) (fun _ _ => rfl)) (aa_cons (ae_ix (ae_var 1) (ae_var 2) (fun _ _ => rfl)) aa_nil))))) (as_one (as_ret ae_bl)) as_nil)))
    (as_one (as_ret ae_bl)))) as_nil)
    (as_cons (as_if (at_cmpR op_isN sim_isN (ae_var 1) ae_non (nomark _)) (as_one (as_ret (ae_cmpR op_isN sim_isN (ae_var 0) ae_non (nomark _)))) as_nil)
    (as_cons (as_if (at_truth (ae_isi (by rfl) T.n_isinstance (by decide +kernel) (ae_var 1) (by rfl) T.n_bool (by decide +kernel) (by decide +kernel))) (as_one (as_ret (ae_and (ae_isi (by rfl) T.n_isinstance (by decide +kernel) (ae_var 0) (by rfl) T.n_bool (by decide +kernel) (by decide +kernel)) (ae_one (ae_cmpR (op_eqA (hu64 hr)) sim_eqA (ae_var 0) (ae_var 1) (nomark _)))))) as_nil)
    (as_cons (as_if (at_truth (ae_isi (by rfl) T.n_isinstance (by decide +kernel) (ae_var 1) (by rfl) T.n_int (by decide +kernel) (by decide +kernel))) (as_one (as_ret (ae_and (ae_isi (by rfl) T.n_isinstance (by decide +kernel) (ae_var 0) (by rfl) T.n_int (by decide +kernel) (by decide +kernel)) (ae_and (ae_not (ae_isi (by rfl) T.n_isinstance (by decide +kernel) (ae_var 0) (by rfl) T.n_bool (by decide +kernel) (by decide +kernel))) (ae_one (ae_cmpR (op_eqA (hu64 hr)) sim_eqA (ae_var 0) (ae_var 1) (nomark _))))))) as_nil)
    (as_one (as_ret (ae_and (ae_isi (by rfl) T.n_isinstance (by decide +kernel) (ae_var 0) (by rfl) T.n_str (by decide +kernel) (by decide +kernel)) (ae_one (ae_cmpR (op_eqA (hu64 hr)) sim_eqA (ae_var 0) (ae_var 1) (nomark _))))))))))
set_option maxHeartbeats 4000000 in
theorem ok__law_matches (T : Txt w K mg) {A__law_matches : ASp} (G__law_matches : FnOk P w K mg base CX0 k T.f__law_matches T.fd__law_matches ["pattern", "formula", "found"] (conc K 3 A__law_matches)) {A : ASp}
    (hp : ∀ ds M Q Xa, ds.length = 3 → A ds M Q Xa → a__law_matches A__law_matches ax0 ⟨fun _ M => Q .non M, Q, fun _ _ => False, fun _ _ => False⟩ (startA ["pattern", "formula", "found", "k"] ds) M) :
    FnOk P w K mg base CX0 (k + 1) T.f__law_matches T.fd__law_matches ["pattern", "formula", "found"] (conc K 3 A) := by
  refine fn_abs T.F__law_matches sc__law_matches rfl (fun cdv Ar outer s H E hr => ?_) hp
  have hpo : PassesOwn (model P w) (Ar.deeper (PyProof.Rows.envOfC "_law_matches" (defScope s__law_matches) s.heap.objs.size T.f__law_matches cdv)) (PyProof.Rows.envOfC "_law_matches" (defScope s__law_matches) s.heap.objs.size T.f__law_matches cdv) (fun _ _ => False) := PassesOwn.never
  exact (as_cons (as_if (at_cmpR (op_eqA (hu64 hr)) sim_eqA (ae_ix (ae_var 0) ae_int (fun _ _ => rfl)) ae_str (nomark _)) (as_cons (as_if (at_dnotin (hu1 hr) (ae_ix (ae_var 0) ae_int (fun _ _ => rfl)) (ae_var 2)) (as_one (as_dput (hu1 hr) (ae_var 2) (ae_ix (ae_var 0) ae_int (fun _ _ => rfl)) (ae_var 1))) as_nil)
    (as_one (as_ret (ae_cmpR (op_eqA (hu64 hr)) sim_eqA (ae_dget (hu1 hr) (ae_var 2) (ae_ix (ae_var 0) ae_int (fun _ _ => rfl)) (fun _ _ => rfl)) (ae_var 1) (nomark _))))) as_nil)
    (as_cons (as_if (at_cmpR (op_neA (hu64 hr)) sim_eqA (ae_ix (ae_var 0) ae_int (fun _ _ => rfl)) (ae_ix (ae_var 1) ae_int (fun _ _ => rfl)) (nomark _)) (as_one (as_ret ae_bl)) as_nil)
    (as_cons (as_for hpo rfl (ai_rng2 (by rfl) T.n_range (aa_cons ae_int (aa_cons (ae_callB call_lenA sim_len (by rfl) T.n_len (by decide +kernel) (aa_cons (ae_var 0) aa_nil)) aa_nil))) (ag_name 3 sc__law_matches.nd) (as_one (as_if (at_not (at_truth (ae_call G__law_matches hr (by rfl) T.m__law_matches T.F__law_matches.kp T.b__law_matches (aa_cons (ae_ix (ae_var 0) (ae_var 3) (fun _ _ => rfl)) (aa_cons (ae_ix (ae_var 1) (ae_var 3) (fun _ _ => rfl)) (aa_cons (ae_var 2) aa_nil)))))) (as_one (as_ret ae_bl)) as_nil)))
    (as_one (as_ret ae_bl)))))
set_option maxHeartbeats 4000000 in
theorem ok__law_tree_of (T : Txt w K mg) {A__law_tree_of : ASp} (G__law_tree_of : FnOk P w K mg base CX0 k T.f__law_tree_of T.fd__law_tree_of ["lines", "k"] (conc K 2 A__law_tree_of)) {A : ASp}
    (hp : ∀ ds M Q Xa, ds.length = 2 → A ds M Q Xa → a__law_tree_of A__law_tree_of ax0 ⟨fun _ M => Q .non M, Q, fun _ _ => False, fun _ _ => False⟩ (startA ["lines", "k"] ds) M) :
    FnOk P w K mg base CX0 (k + 1) T.f__law_tree_of T.fd__law_tree_of ["lines", "k"] (conc K 2 A) := by
  refine fn_abs T.F__law_tree_of sc__law_tree_of rfl (fun cdv Ar outer s H E hr => ?_) hp
  have hpo : PassesOwn (model P w) (Ar.deeper (PyProof.Rows.envOfC "_law_tree_of" (defScope s__law_tree_of) s.heap.objs.size T.f__law_tree_of cdv)) (PyProof.Rows.envOfC "_law_tree_of" (defScope s__law_tree_of) s.heap.objs.size T.f__law_tree_of cdv) (fun _ _ => False) := PassesOwn.never
  exact (as_cons (as_if (at_cmpR (op_eqA (hu64 hr)) sim_eqA (ae_ix (ae_ix (ae_ix (ae_var 0) (ae_var 1) (fun _ _ => rfl)) ae_int (fun _ _ => rfl)) ae_int (fun _ _ => rfl)) ae_str (nomark _)) (as_one (as_ret (ae_ix (ae_ix (ae_var 0) (ae_var 1) (fun _ _ => rfl)) ae_int (fun _ _ => rfl)))) as_nil)
    (as_one (as_ret (ae_tup (aa_cons ae_str (aa_cons (ae_call G__law_tree_of hr (by rfl) T.m__law_tree_of T.F__law_tree_of.kp T.b__law_tree_of (aa_cons (ae_var 0) (aa_cons (ae_ix (ae_ix (ae_ix (ae_var 0) (ae_var 1) (fun _ _ => rfl)) ae_int (fun _ _ => rfl)) ae_int (fun _ _ => rfl)) aa_nil))) (aa_cons (ae_call G__law_tree_of hr (by rfl) T.m__law_tree_of T.F__law_tree_of.kp T.b__law_tree_of (aa_cons (ae_var 0) (aa_cons (ae_ix (ae_ix (ae_ix (ae_var 0) (ae_var 1) (fun _ _ => rfl)) ae_int (fun _ _ => rfl)) ae_int (fun _ _ => rfl)) aa_nil))) aa_nil)))))))
set_option maxHeartbeats 4000000 in
theorem ok_law (T : Txt w K mg) {A__law_box : ASp} (G__law_box : FnOk P w K mg base CX0 k T.f__law_box T.fd__law_box ["script", "first", "last"] (conc K 3 A__law_box)) {A__law_draw : ASp} (G__law_draw : FnOk P w K mg base CX0 k T.f__law_draw T.fd__law_draw ["box", "many"] (conc K 2 A__law_draw)) {A__law_pairs : ASp} (G__law_pairs : FnOk P w K mg base CX0 k T.f__law_pairs T.fd__law_pairs ["lines"] (conc K 1 A__law_pairs)) {A__law_instance : ASp} (G__law_instance : FnOk P w K mg base CX0 k T.f__law_instance T.fd__law_instance ["box", "lines", "axioms"] (conc K 3 A__law_instance)) {A_steps_of : ASp} (G_steps_of : FnOk P w K mg base CX0 k T.f_steps_of T.fd_steps_of ["proof"] (conc K 1 A_steps_of)) {A__law_same : ASp} (G__law_same : FnOk P w K mg base CX0 k T.f__law_same T.fd__law_same ["actual", "expected"] (conc K 2 A__law_same)) {A__law_tree_of : ASp} (G__law_tree_of : FnOk P w K mg base CX0 k T.f__law_tree_of T.fd__law_tree_of ["lines", "k"] (conc K 2 A__law_tree_of)) {A_general : ASp} (G_general : FnOk P w K mg base CX0 k T.f_general T.fd_general ["steps"] (conc K 1 A_general)) {A__law_matches : ASp} (G__law_matches : FnOk P w K mg base CX0 k T.f__law_matches T.fd__law_matches ["pattern", "formula", "found"] (conc K 3 A__law_matches)) {A : ASp}
    (hp : ∀ ds M Q Xa, ds.length = 1 → A ds M Q Xa → a_law A__law_box A__law_draw A__law_pairs A__law_instance A_steps_of A__law_same A__law_tree_of A_general A__law_matches ax0 ⟨fun _ M => Q .non M, Q, fun _ _ => False, fun _ _ => False⟩ (startA ["script", "box", "turn", "lines", "k", "pairs", "pair", "proof", "steps", "wide"] ds) M) :
    FnOk P w K mg base CX0 (k + 1) T.f_law T.fd_law ["script"] (conc K 1 A) := by
  refine fn_abs T.F_law sc_law rfl (fun cdv Ar outer s H E hr => ?_) hp
  have hpo : PassesOwn (model P w) (Ar.deeper (PyProof.Rows.envOfC "law" (defScope s_law) s.heap.objs.size T.f_law cdv)) (PyProof.Rows.envOfC "law" (defScope s_law) s.heap.objs.size T.f_law cdv) (fun _ _ => False) := PassesOwn.never
  exact (as_cons (as_set 1 sc_law.nd (ae_call G__law_box hr (by rfl) T.m__law_box T.F__law_box.kp T.b__law_box (aa_cons (ae_var 0) (aa_cons ae_int (aa_cons ae_int aa_nil)))))
    (as_cons (as_for hpo rfl (ai_rng1 (by rfl) T.n_range (aa_cons ae_int aa_nil)) (ag_name 2 sc_law.nd) (as_cons (as_set 3 sc_law.nd (ae_lst aa_nil))
    (as_cons (as_for hpo rfl (ai_rng1 (by rfl) T.n_range (aa_cons (ae_op op_plus sim_add ae_int (ae_call G__law_draw hr (by rfl) T.m__law_draw T.F__law_draw.kp T.b__law_draw (aa_cons (ae_var 1) (aa_cons ae_int aa_nil)))) aa_nil)) (ag_name 4 sc_law.nd) (as_cons (as_set 5 sc_law.nd (ae_call G__law_pairs hr (by rfl) T.m__law_pairs T.F__law_pairs.kp T.b__law_pairs (aa_cons (ae_var 3) aa_nil)))
    (as_one (as_if (at_w (aw_and (at_cmpR op_gt sim_gt (ae_callB call_lenA sim_len (by rfl) T.n_len (by decide +kernel) (aa_cons (ae_var 5) aa_nil)) ae_int (nomark _)) (aw_and1 (at_cmpR (op_eqA (hu64 hr)) sim_eqA (ae_call G__law_draw hr (by rfl) T.m__law_draw T.F__law_draw.kp T.b__law_draw (aa_cons (ae_var 1) (aa_cons ae_int aa_nil))) ae_int (nomark _))))) (as_cons (as_set 6 sc_law.nd (ae_ix (ae_var 5) (ae_op op_mod sim_mod (ae_callTy call_int1 sim_int (by rfl) T.n_int (by decide +kernel) (aa_cons (ae_call G__law_draw hr (by rfl) T.m__law_draw T.F__law_draw.kp T.b__law_draw (aa_cons (ae_var 1) (aa_cons ae_int aa_nil))) aa_nil)) (ae_callB call_lenA sim_len (by rfl) T.n_len (by decide +kernel) (aa_cons (ae_var 5) aa_nil))) (fun _ _ => rfl)))
    (as_one (as_expr (ae_append (ae_var 3) (aa_cons (ae_tup (aa_cons (ae_ix (ae_ix (ae_ix (ae_var 3) (ae_ix (ae_var 6) ae_int (fun _ _ => rfl)) (fun _ _ => rfl)) ae_int (fun _ _ => rfl)) ae_int (fun _ _ => rfl)) (aa_cons (ae_tup (aa_cons ae_str (aa_cons (ae_ix (ae_var 6) ae_int (fun _ _ => rfl)) (aa_cons (ae_ix (ae_var 6) ae_int (fun _ _ => rfl)) aa_nil)))) aa_nil))) aa_nil))))) (as_one (as_expr (ae_append (ae_var 3) (aa_cons (ae_call G__law_instance hr (by rfl) T.m__law_instance T.F__law_instance.kp T.b__law_instance (aa_cons (ae_var 1) (aa_cons (ae_var 3) (aa_cons (ae_lst (aa_cons ae_int (aa_cons ae_int (aa_cons ae_int (aa_cons ae_int (aa_cons ae_int (aa_cons ae_int aa_nil))))))) aa_nil)))) aa_nil))))))))
    (as_cons (as_set 7 sc_law.nd (ae_callTy call_tuple_of sim_tuple (by rfl) T.n_tuple (by decide +kernel) (aa_cons (ae_var 3) aa_nil)))
    (as_cons (as_set 8 sc_law.nd (ae_call G_steps_of hr (by rfl) T.m_steps_of T.F_steps_of.kp T.b_steps_of (aa_cons (ae_var 7) aa_nil)))
    (as_cons (as_if (at_not (at_truth (ae_call G__law_same hr (by rfl) T.m__law_same T.F__law_same.kp T.b__law_same (aa_cons (ae_var 8) (aa_cons (ae_call G__law_tree_of hr (by rfl) T.m__law_tree_of T.F__law_tree_of.kp T.b__law_tree_of (aa_cons (ae_var 3) (aa_cons (ae_op op_sub sim_sub (ae_callB call_lenA sim_len (by rfl) T.n_len (by decide +kernel) (aa_cons (ae_var 3) aa_nil)) ae_int) aa_nil))) aa_nil))))) (as_one (as_ret ae_bl)) as_nil)
    (as_cons (as_set 9 sc_law.nd (ae_call G_general hr (by rfl) T.m_general T.F_general.kp T.b_general (aa_cons (ae_var 8) aa_nil)))
    (as_one (as_if (at_w (aw_or (at_cmpR op_isN sim_isN (ae_var 9) ae_non (nomark _)) (aw_or1 (at_not (at_truth (ae_call G__law_matches hr (by rfl) T.m__law_matches T.F__law_matches.kp T.b__law_matches (aa_cons (ae_var 9) (aa_cons (ae_ix (ae_ix (ae_var 7) (ae_op op_sub sim_sub (ae_callB call_lenA sim_len (by rfl) T.n_len (by decide +kernel) (aa_cons (ae_var 7) aa_nil)) ae_int) (fun _ _ => rfl)) ae_int (fun _ _ => rfl)) (aa_cons ae_dnew aa_nil))))))))) (as_one (as_ret ae_bl)) as_nil)))))))))
    (as_one (as_ret ae_bl))))
end
set_option maxHeartbeats 0 in
theorem txt_mk {w : World} {K : PySem.W.Frag} {h : Heap} {mg : Str → Option Value} (X : K.In h) (G : h.Ns mainGlobals mg)
    {C_Terms : Addr} (yTerms : PySem.W.nsIn K mainGlobals "Terms" = some (some (.ref C_Terms))) (ypTerms : PySem.W.plainGet K C_Terms Str.empty = true) (yhTerms : PySem.W.hasDictIn K C_Terms = true) (yoTerms : PySem.W.plainOver K C_Terms = true) (ysTerms : PySem.W.findIn K (.ref C_Terms) "__setattr__" = some (some (.builtin "object.__setattr__")))
    (ynTerms_heads : PySem.W.findIn K (.ref C_Terms) "heads" = some none)
    (ynTerms_tails : PySem.W.findIn K (.ref C_Terms) "tails" = some none)
    (ynTerms_names : PySem.W.findIn K (.ref C_Terms) "names" = some none)
    (ynTerms_nearer : PySem.W.findIn K (.ref C_Terms) "nearer" = some none)
    (ymTerms : PySem.W.makesIn K C_Terms = true) (ykTerms : PySem.W.keepIn K (.ref C_Terms) = true)
    {f0 : Addr} {od0 an0 : Option Addr} {sl0 : Array (Option Value)} {oc0 kV0 dc0 pm0 cd0 ct0 : Value}
    (a0 : PySem.W.nsIn K mainGlobals "letters" = some (some (.ref f0))) (l0 : K.lookup f0 = some ⟨oc0, od0, .func (PySem.W.fnOf "letters" "letters" (defArgs s_letters) (defBody s_letters) (defScope s_letters) .none kV0 dc0 pm0 an0 cd0 ct0), sl0⟩) (c0 : PySem.W.codeIn K cd0 "letters" = true) (k0 : PySem.W.keepIn K (.ref f0) = true)
    {f1 : Addr} {od1 an1 : Option Addr} {sl1 : Array (Option Value)} {oc1 kV1 dc1 pm1 cd1 ct1 : Value}
    (a1 : PySem.W.nsIn K mainGlobals "put" = some (some (.ref f1))) (l1 : K.lookup f1 = some ⟨oc1, od1, .func (PySem.W.fnOf "put" "put" (defArgs s_put) (defBody s_put) (defScope s_put) .none kV1 dc1 pm1 an1 cd1 ct1), sl1⟩) (c1 : PySem.W.codeIn K cd1 "put" = true) (k1 : PySem.W.keepIn K (.ref f1) = true)
    {f2 : Addr} {od2 an2 : Option Addr} {sl2 : Array (Option Value)} {oc2 kV2 dc2 pm2 cd2 ct2 : Value}
    (a2 : PySem.W.nsIn K mainGlobals "axiom" = some (some (.ref f2))) (l2 : K.lookup f2 = some ⟨oc2, od2, .func (PySem.W.fnOf "axiom" "axiom" (defArgs s_axiom) (defBody s_axiom) (defScope s_axiom) .none kV2 dc2 pm2 an2 cd2 ct2), sl2⟩) (c2 : PySem.W.codeIn K cd2 "axiom" = true) (k2 : PySem.W.keepIn K (.ref f2) = true)
    {f3 : Addr} {od3 an3 : Option Addr} {sl3 : Array (Option Value)} {oc3 kV3 dc3 pm3 cd3 ct3 : Value}
    (a3 : PySem.W.findIn K (.ref C_Terms) "__init__" = some (some (.ref f3))) (l3 : K.lookup f3 = some ⟨oc3, od3, .func (PySem.W.fnOf "__init__" "Terms.__init__" (defArgs s_Terms___init__) (defBody s_Terms___init__) (defScope s_Terms___init__) .none kV3 dc3 pm3 an3 cd3 ct3), sl3⟩) (c3 : PySem.W.codeIn K cd3 "Terms.__init__" = true) (k3 : PySem.W.keepIn K (.ref f3) = true) (n3 : PySem.W.isFn K (.ref f3) = true)
    {f4 : Addr} {od4 an4 : Option Addr} {sl4 : Array (Option Value)} {oc4 kV4 dc4 pm4 cd4 ct4 : Value}
    (a4 : PySem.W.findIn K (.ref C_Terms) "added" = some (some (.ref f4))) (l4 : K.lookup f4 = some ⟨oc4, od4, .func (PySem.W.fnOf "added" "Terms.added" (defArgs s_Terms_added) (defBody s_Terms_added) (defScope s_Terms_added) .none kV4 dc4 pm4 an4 cd4 ct4), sl4⟩) (c4 : PySem.W.codeIn K cd4 "Terms.added" = true) (k4 : PySem.W.keepIn K (.ref f4) = true) (n4 : PySem.W.isFn K (.ref f4) = true)
    {f5 : Addr} {od5 an5 : Option Addr} {sl5 : Array (Option Value)} {oc5 kV5 dc5 pm5 cd5 ct5 : Value}
    (a5 : PySem.W.findIn K (.ref C_Terms) "letter" = some (some (.ref f5))) (l5 : K.lookup f5 = some ⟨oc5, od5, .func (PySem.W.fnOf "letter" "Terms.letter" (defArgs s_Terms_letter) (defBody s_Terms_letter) (defScope s_Terms_letter) .none kV5 dc5 pm5 an5 cd5 ct5), sl5⟩) (c5 : PySem.W.codeIn K cd5 "Terms.letter" = true) (k5 : PySem.W.keepIn K (.ref f5) = true) (n5 : PySem.W.isFn K (.ref f5) = true)
    {f6 : Addr} {od6 an6 : Option Addr} {sl6 : Array (Option Value)} {oc6 kV6 dc6 pm6 cd6 ct6 : Value}
    (a6 : PySem.W.findIn K (.ref C_Terms) "conditional" = some (some (.ref f6))) (l6 : K.lookup f6 = some ⟨oc6, od6, .func (PySem.W.fnOf "conditional" "Terms.conditional" (defArgs s_Terms_conditional) (defBody s_Terms_conditional) (defScope s_Terms_conditional) .none kV6 dc6 pm6 an6 cd6 ct6), sl6⟩) (c6 : PySem.W.codeIn K cd6 "Terms.conditional" = true) (k6 : PySem.W.keepIn K (.ref f6) = true) (n6 : PySem.W.isFn K (.ref f6) = true)
    {f7 : Addr} {od7 an7 : Option Addr} {sl7 : Array (Option Value)} {oc7 kV7 dc7 pm7 cd7 ct7 : Value}
    (a7 : PySem.W.findIn K (.ref C_Terms) "entered" = some (some (.ref f7))) (l7 : K.lookup f7 = some ⟨oc7, od7, .func (PySem.W.fnOf "entered" "Terms.entered" (defArgs s_Terms_entered) (defBody s_Terms_entered) (defScope s_Terms_entered) .none kV7 dc7 pm7 an7 cd7 ct7), sl7⟩) (c7 : PySem.W.codeIn K cd7 "Terms.entered" = true) (k7 : PySem.W.keepIn K (.ref f7) = true) (n7 : PySem.W.isFn K (.ref f7) = true)
    {f8 : Addr} {od8 an8 : Option Addr} {sl8 : Array (Option Value)} {oc8 kV8 dc8 pm8 cd8 ct8 : Value}
    (a8 : PySem.W.findIn K (.ref C_Terms) "root" = some (some (.ref f8))) (l8 : K.lookup f8 = some ⟨oc8, od8, .func (PySem.W.fnOf "root" "Terms.root" (defArgs s_Terms_root) (defBody s_Terms_root) (defScope s_Terms_root) .none kV8 dc8 pm8 an8 cd8 ct8), sl8⟩) (c8 : PySem.W.codeIn K cd8 "Terms.root" = true) (k8 : PySem.W.keepIn K (.ref f8) = true) (n8 : PySem.W.isFn K (.ref f8) = true)
    {f9 : Addr} {od9 an9 : Option Addr} {sl9 : Array (Option Value)} {oc9 kV9 dc9 pm9 cd9 ct9 : Value}
    (a9 : PySem.W.findIn K (.ref C_Terms) "made_same" = some (some (.ref f9))) (l9 : K.lookup f9 = some ⟨oc9, od9, .func (PySem.W.fnOf "made_same" "Terms.made_same" (defArgs s_Terms_made_same) (defBody s_Terms_made_same) (defScope s_Terms_made_same) .none kV9 dc9 pm9 an9 cd9 ct9), sl9⟩) (c9 : PySem.W.codeIn K cd9 "Terms.made_same" = true) (k9 : PySem.W.keepIn K (.ref f9) = true) (n9 : PySem.W.isFn K (.ref f9) = true)
    {f10 : Addr} {od10 an10 : Option Addr} {sl10 : Array (Option Value)} {oc10 kV10 dc10 pm10 cd10 ct10 : Value}
    (a10 : PySem.W.findIn K (.ref C_Terms) "solved" = some (some (.ref f10))) (l10 : K.lookup f10 = some ⟨oc10, od10, .func (PySem.W.fnOf "solved" "Terms.solved" (defArgs s_Terms_solved) (defBody s_Terms_solved) (defScope s_Terms_solved) .none kV10 dc10 pm10 an10 cd10 ct10), sl10⟩) (c10 : PySem.W.codeIn K cd10 "Terms.solved" = true) (k10 : PySem.W.keepIn K (.ref f10) = true) (n10 : PySem.W.isFn K (.ref f10) = true)
    {f11 : Addr} {od11 an11 : Option Addr} {sl11 : Array (Option Value)} {oc11 kV11 dc11 pm11 cd11 ct11 : Value}
    (a11 : PySem.W.findIn K (.ref C_Terms) "users" = some (some (.ref f11))) (l11 : K.lookup f11 = some ⟨oc11, od11, .func (PySem.W.fnOf "users" "Terms.users" (defArgs s_Terms_users) (defBody s_Terms_users) (defScope s_Terms_users) .none kV11 dc11 pm11 an11 cd11 ct11), sl11⟩) (c11 : PySem.W.codeIn K cd11 "Terms.users" = true) (k11 : PySem.W.keepIn K (.ref f11) = true) (n11 : PySem.W.isFn K (.ref f11) = true)
    {f12 : Addr} {od12 an12 : Option Addr} {sl12 : Array (Option Value)} {oc12 kV12 dc12 pm12 cd12 ct12 : Value}
    (a12 : PySem.W.nsIn K mainGlobals "parts_first" = some (some (.ref f12))) (l12 : K.lookup f12 = some ⟨oc12, od12, .func (PySem.W.fnOf "parts_first" "parts_first" (defArgs s_parts_first) (defBody s_parts_first) (defScope s_parts_first) .none kV12 dc12 pm12 an12 cd12 ct12), sl12⟩) (c12 : PySem.W.codeIn K cd12 "parts_first" = true) (k12 : PySem.W.keepIn K (.ref f12) = true)
    {f13 : Addr} {od13 an13 : Option Addr} {sl13 : Array (Option Value)} {oc13 kV13 dc13 pm13 cd13 ct13 : Value}
    (a13 : PySem.W.nsIn K mainGlobals "renamed" = some (some (.ref f13))) (l13 : K.lookup f13 = some ⟨oc13, od13, .func (PySem.W.fnOf "renamed" "renamed" (defArgs s_renamed) (defBody s_renamed) (defScope s_renamed) .none kV13 dc13 pm13 an13 cd13 ct13), sl13⟩) (c13 : PySem.W.codeIn K cd13 "renamed" = true) (k13 : PySem.W.keepIn K (.ref f13) = true)
    {f14 : Addr} {od14 an14 : Option Addr} {sl14 : Array (Option Value)} {oc14 kV14 dc14 pm14 cd14 ct14 : Value}
    (a14 : PySem.W.nsIn K mainGlobals "naming" = some (some (.ref f14))) (l14 : K.lookup f14 = some ⟨oc14, od14, .func (PySem.W.fnOf "naming" "naming" (defArgs s_naming) (defBody s_naming) (defScope s_naming) .none kV14 dc14 pm14 an14 cd14 ct14), sl14⟩) (c14 : PySem.W.codeIn K cd14 "naming" = true) (k14 : PySem.W.keepIn K (.ref f14) = true)
    {f15 : Addr} {od15 an15 : Option Addr} {sl15 : Array (Option Value)} {oc15 kV15 dc15 pm15 cd15 ct15 : Value}
    (a15 : PySem.W.nsIn K mainGlobals "name_at" = some (some (.ref f15))) (l15 : K.lookup f15 = some ⟨oc15, od15, .func (PySem.W.fnOf "name_at" "name_at" (defArgs s_name_at) (defBody s_name_at) (defScope s_name_at) .none kV15 dc15 pm15 an15 cd15 ct15), sl15⟩) (c15 : PySem.W.codeIn K cd15 "name_at" = true) (k15 : PySem.W.keepIn K (.ref f15) = true)
    {f16 : Addr} {od16 an16 : Option Addr} {sl16 : Array (Option Value)} {oc16 kV16 dc16 pm16 cd16 ct16 : Value}
    (a16 : PySem.W.nsIn K mainGlobals "steps_of" = some (some (.ref f16))) (l16 : K.lookup f16 = some ⟨oc16, od16, .func (PySem.W.fnOf "steps_of" "steps_of" (defArgs s_steps_of) (defBody s_steps_of) (defScope s_steps_of) .none kV16 dc16 pm16 an16 cd16 ct16), sl16⟩) (c16 : PySem.W.codeIn K cd16 "steps_of" = true) (k16 : PySem.W.keepIn K (.ref f16) = true)
    {f17 : Addr} {od17 an17 : Option Addr} {sl17 : Array (Option Value)} {oc17 kV17 dc17 pm17 cd17 ct17 : Value}
    (a17 : PySem.W.nsIn K mainGlobals "general" = some (some (.ref f17))) (l17 : K.lookup f17 = some ⟨oc17, od17, .func (PySem.W.fnOf "general" "general" (defArgs s_general) (defBody s_general) (defScope s_general) .none kV17 dc17 pm17 an17 cd17 ct17), sl17⟩) (c17 : PySem.W.codeIn K cd17 "general" = true) (k17 : PySem.W.keepIn K (.ref f17) = true)
    {f18 : Addr} {od18 an18 : Option Addr} {sl18 : Array (Option Value)} {oc18 kV18 dc18 pm18 cd18 ct18 : Value}
    (a18 : PySem.W.nsIn K mainGlobals "reasons_of" = some (some (.ref f18))) (l18 : K.lookup f18 = some ⟨oc18, od18, .func (PySem.W.fnOf "reasons_of" "reasons_of" (defArgs s_reasons_of) (defBody s_reasons_of) (defScope s_reasons_of) .none kV18 dc18 pm18 an18 cd18 ct18), sl18⟩) (c18 : PySem.W.codeIn K cd18 "reasons_of" = true) (k18 : PySem.W.keepIn K (.ref f18) = true)
    {f19 : Addr} {od19 an19 : Option Addr} {sl19 : Array (Option Value)} {oc19 kV19 dc19 pm19 cd19 ct19 : Value}
    (a19 : PySem.W.nsIn K mainGlobals "most_general" = some (some (.ref f19))) (l19 : K.lookup f19 = some ⟨oc19, od19, .func (PySem.W.fnOf "most_general" "most_general" (defArgs s_most_general) (defBody s_most_general) (defScope s_most_general) .none kV19 dc19 pm19 an19 cd19 ct19), sl19⟩) (c19 : PySem.W.codeIn K cd19 "most_general" = true) (k19 : PySem.W.keepIn K (.ref f19) = true)
    {f20 : Addr} {od20 an20 : Option Addr} {sl20 : Array (Option Value)} {oc20 kV20 dc20 pm20 cd20 ct20 : Value}
    (a20 : PySem.W.nsIn K mainGlobals "_law_cell" = some (some (.ref f20))) (l20 : K.lookup f20 = some ⟨oc20, od20, .func (PySem.W.fnOf "_law_cell" "_law_cell" (defArgs s__law_cell) (defBody s__law_cell) (defScope s__law_cell) .none kV20 dc20 pm20 an20 cd20 ct20), sl20⟩) (c20 : PySem.W.codeIn K cd20 "_law_cell" = true) (k20 : PySem.W.keepIn K (.ref f20) = true)
    {f21 : Addr} {od21 an21 : Option Addr} {sl21 : Array (Option Value)} {oc21 kV21 dc21 pm21 cd21 ct21 : Value}
    (a21 : PySem.W.nsIn K mainGlobals "_law_digits" = some (some (.ref f21))) (l21 : K.lookup f21 = some ⟨oc21, od21, .func (PySem.W.fnOf "_law_digits" "_law_digits" (defArgs s__law_digits) (defBody s__law_digits) (defScope s__law_digits) .none kV21 dc21 pm21 an21 cd21 ct21), sl21⟩) (c21 : PySem.W.codeIn K cd21 "_law_digits" = true) (k21 : PySem.W.keepIn K (.ref f21) = true)
    {f22 : Addr} {od22 an22 : Option Addr} {sl22 : Array (Option Value)} {oc22 kV22 dc22 pm22 cd22 ct22 : Value}
    (a22 : PySem.W.nsIn K mainGlobals "_law_box" = some (some (.ref f22))) (l22 : K.lookup f22 = some ⟨oc22, od22, .func (PySem.W.fnOf "_law_box" "_law_box" (defArgs s__law_box) (defBody s__law_box) (defScope s__law_box) .none kV22 dc22 pm22 an22 cd22 ct22), sl22⟩) (c22 : PySem.W.codeIn K cd22 "_law_box" = true) (k22 : PySem.W.keepIn K (.ref f22) = true)
    {f23 : Addr} {od23 an23 : Option Addr} {sl23 : Array (Option Value)} {oc23 kV23 dc23 pm23 cd23 ct23 : Value}
    (a23 : PySem.W.nsIn K mainGlobals "_law_draw" = some (some (.ref f23))) (l23 : K.lookup f23 = some ⟨oc23, od23, .func (PySem.W.fnOf "_law_draw" "_law_draw" (defArgs s__law_draw) (defBody s__law_draw) (defScope s__law_draw) .none kV23 dc23 pm23 an23 cd23 ct23), sl23⟩) (c23 : PySem.W.codeIn K cd23 "_law_draw" = true) (k23 : PySem.W.keepIn K (.ref f23) = true)
    {f24 : Addr} {od24 an24 : Option Addr} {sl24 : Array (Option Value)} {oc24 kV24 dc24 pm24 cd24 ct24 : Value}
    (a24 : PySem.W.nsIn K mainGlobals "_law_pairs" = some (some (.ref f24))) (l24 : K.lookup f24 = some ⟨oc24, od24, .func (PySem.W.fnOf "_law_pairs" "_law_pairs" (defArgs s__law_pairs) (defBody s__law_pairs) (defScope s__law_pairs) .none kV24 dc24 pm24 an24 cd24 ct24), sl24⟩) (c24 : PySem.W.codeIn K cd24 "_law_pairs" = true) (k24 : PySem.W.keepIn K (.ref f24) = true)
    {f25 : Addr} {od25 an25 : Option Addr} {sl25 : Array (Option Value)} {oc25 kV25 dc25 pm25 cd25 ct25 : Value}
    (a25 : PySem.W.nsIn K mainGlobals "_law_any" = some (some (.ref f25))) (l25 : K.lookup f25 = some ⟨oc25, od25, .func (PySem.W.fnOf "_law_any" "_law_any" (defArgs s__law_any) (defBody s__law_any) (defScope s__law_any) .none kV25 dc25 pm25 an25 cd25 ct25), sl25⟩) (c25 : PySem.W.codeIn K cd25 "_law_any" = true) (k25 : PySem.W.keepIn K (.ref f25) = true)
    {f26 : Addr} {od26 an26 : Option Addr} {sl26 : Array (Option Value)} {oc26 kV26 dc26 pm26 cd26 ct26 : Value}
    (a26 : PySem.W.nsIn K mainGlobals "_law_parts" = some (some (.ref f26))) (l26 : K.lookup f26 = some ⟨oc26, od26, .func (PySem.W.fnOf "_law_parts" "_law_parts" (defArgs s__law_parts) (defBody s__law_parts) (defScope s__law_parts) .none kV26 dc26 pm26 an26 cd26 ct26), sl26⟩) (c26 : PySem.W.codeIn K cd26 "_law_parts" = true) (k26 : PySem.W.keepIn K (.ref f26) = true)
    {f27 : Addr} {od27 an27 : Option Addr} {sl27 : Array (Option Value)} {oc27 kV27 dc27 pm27 cd27 ct27 : Value}
    (a27 : PySem.W.nsIn K mainGlobals "_law_put" = some (some (.ref f27))) (l27 : K.lookup f27 = some ⟨oc27, od27, .func (PySem.W.fnOf "_law_put" "_law_put" (defArgs s__law_put) (defBody s__law_put) (defScope s__law_put) .none kV27 dc27 pm27 an27 cd27 ct27), sl27⟩) (c27 : PySem.W.codeIn K cd27 "_law_put" = true) (k27 : PySem.W.keepIn K (.ref f27) = true)
    {f28 : Addr} {od28 an28 : Option Addr} {sl28 : Array (Option Value)} {oc28 kV28 dc28 pm28 cd28 ct28 : Value}
    (a28 : PySem.W.nsIn K mainGlobals "_law_if" = some (some (.ref f28))) (l28 : K.lookup f28 = some ⟨oc28, od28, .func (PySem.W.fnOf "_law_if" "_law_if" (defArgs s__law_if) (defBody s__law_if) (defScope s__law_if) .none kV28 dc28 pm28 an28 cd28 ct28), sl28⟩) (c28 : PySem.W.codeIn K cd28 "_law_if" = true) (k28 : PySem.W.keepIn K (.ref f28) = true)
    {f29 : Addr} {od29 an29 : Option Addr} {sl29 : Array (Option Value)} {oc29 kV29 dc29 pm29 cd29 ct29 : Value}
    (a29 : PySem.W.nsIn K mainGlobals "_law_axiom" = some (some (.ref f29))) (l29 : K.lookup f29 = some ⟨oc29, od29, .func (PySem.W.fnOf "_law_axiom" "_law_axiom" (defArgs s__law_axiom) (defBody s__law_axiom) (defScope s__law_axiom) .none kV29 dc29 pm29 an29 cd29 ct29), sl29⟩) (c29 : PySem.W.codeIn K cd29 "_law_axiom" = true) (k29 : PySem.W.keepIn K (.ref f29) = true)
    {f30 : Addr} {od30 an30 : Option Addr} {sl30 : Array (Option Value)} {oc30 kV30 dc30 pm30 cd30 ct30 : Value}
    (a30 : PySem.W.nsIn K mainGlobals "_law_instance" = some (some (.ref f30))) (l30 : K.lookup f30 = some ⟨oc30, od30, .func (PySem.W.fnOf "_law_instance" "_law_instance" (defArgs s__law_instance) (defBody s__law_instance) (defScope s__law_instance) .none kV30 dc30 pm30 an30 cd30 ct30), sl30⟩) (c30 : PySem.W.codeIn K cd30 "_law_instance" = true) (k30 : PySem.W.keepIn K (.ref f30) = true)
    {f31 : Addr} {od31 an31 : Option Addr} {sl31 : Array (Option Value)} {oc31 kV31 dc31 pm31 cd31 ct31 : Value}
    (a31 : PySem.W.nsIn K mainGlobals "_law_same" = some (some (.ref f31))) (l31 : K.lookup f31 = some ⟨oc31, od31, .func (PySem.W.fnOf "_law_same" "_law_same" (defArgs s__law_same) (defBody s__law_same) (defScope s__law_same) .none kV31 dc31 pm31 an31 cd31 ct31), sl31⟩) (c31 : PySem.W.codeIn K cd31 "_law_same" = true) (k31 : PySem.W.keepIn K (.ref f31) = true)
    {f32 : Addr} {od32 an32 : Option Addr} {sl32 : Array (Option Value)} {oc32 kV32 dc32 pm32 cd32 ct32 : Value}
    (a32 : PySem.W.nsIn K mainGlobals "_law_matches" = some (some (.ref f32))) (l32 : K.lookup f32 = some ⟨oc32, od32, .func (PySem.W.fnOf "_law_matches" "_law_matches" (defArgs s__law_matches) (defBody s__law_matches) (defScope s__law_matches) .none kV32 dc32 pm32 an32 cd32 ct32), sl32⟩) (c32 : PySem.W.codeIn K cd32 "_law_matches" = true) (k32 : PySem.W.keepIn K (.ref f32) = true)
    {f33 : Addr} {od33 an33 : Option Addr} {sl33 : Array (Option Value)} {oc33 kV33 dc33 pm33 cd33 ct33 : Value}
    (a33 : PySem.W.nsIn K mainGlobals "_law_tree_of" = some (some (.ref f33))) (l33 : K.lookup f33 = some ⟨oc33, od33, .func (PySem.W.fnOf "_law_tree_of" "_law_tree_of" (defArgs s__law_tree_of) (defBody s__law_tree_of) (defScope s__law_tree_of) .none kV33 dc33 pm33 an33 cd33 ct33), sl33⟩) (c33 : PySem.W.codeIn K cd33 "_law_tree_of" = true) (k33 : PySem.W.keepIn K (.ref f33) = true)
    {f34 : Addr} {od34 an34 : Option Addr} {sl34 : Array (Option Value)} {oc34 kV34 dc34 pm34 cd34 ct34 : Value}
    (a34 : PySem.W.nsIn K mainGlobals "law" = some (some (.ref f34))) (l34 : K.lookup f34 = some ⟨oc34, od34, .func (PySem.W.fnOf "law" "law" (defArgs s_law) (defBody s_law) (defScope s_law) .none kV34 dc34 pm34 an34 cd34 ct34), sl34⟩) (c34 : PySem.W.codeIn K cd34 "law" = true) (k34 : PySem.W.keepIn K (.ref f34) = true)
    (z0 : PySem.W.nsIn K mainGlobals "set" = some none)
    (z1 : PySem.W.nsIn K mainGlobals "sorted" = some none)
    (z2 : PySem.W.nsIn K mainGlobals "tuple" = some none)
    (z3 : PySem.W.nsIn K mainGlobals "len" = some none)
    (z4 : PySem.W.nsIn K mainGlobals "list" = some none)
    (z5 : PySem.W.nsIn K mainGlobals "zip" = some none)
    (z6 : PySem.W.nsIn K mainGlobals "range" = some none)
    (z7 : PySem.W.nsIn K mainGlobals "enumerate" = some none)
    (z8 : PySem.W.nsIn K mainGlobals "divmod" = some none)
    (z9 : PySem.W.nsIn K mainGlobals "reversed" = some none)
    (z10 : PySem.W.nsIn K mainGlobals "int" = some none)
    (z11 : PySem.W.nsIn K mainGlobals "isinstance" = some none)
    (z12 : PySem.W.nsIn K mainGlobals "bool" = some none)
    (z13 : PySem.W.nsIn K mainGlobals "str" = some none)
    {tt0 : Tok} (xc0 : PySem.W.nsIn K mainGlobals "SMALL" = some (some (.str z_abcdefghijklmnopqrstuvwxyz tt0)))
    {e0 : Addr} (xg0 : PySem.W.nsIn K mainGlobals "AXIOMS" = some (some (.ref e0))) (xw0 : WDct K w e0 t_axioms)
    : ∃ T : Txt w K mg, T.f_law = f34 ∧ ∀ (s : Shared) (v : Value), BindsTo s T.fd_law ⟨[v], []⟩ [("script", v)] := by
  have F0 := fun_mk (st := s_letters) l0 c0 k0
  have b0 := F0.binds (ps := ["formula"]) fun _ _ _ _ _ _ us hl => match us, hl with | [_], _ => rfl
  have F1 := fun_mk (st := s_put) l1 c1 k1
  have b1 := F1.binds (ps := ["formula", "table"]) fun _ _ _ _ _ _ us hl => match us, hl with | [_, _], _ => rfl
  have F2 := fun_mk (st := s_axiom) l2 c2 k2
  have b2 := F2.binds (ps := ["k"]) fun _ _ _ _ _ _ us hl => match us, hl with | [_], _ => rfl
  have F3 := fun_mk (st := s_Terms___init__) l3 c3 k3
  have b3 := F3.binds (ps := ["self"]) fun _ _ _ _ _ _ us hl => match us, hl with | [_], _ => rfl
  have F4 := fun_mk (st := s_Terms_added) l4 c4 k4
  have b4 := F4.binds (ps := ["self", "head", "tail"]) fun _ _ _ _ _ _ us hl => match us, hl with | [_, _, _], _ => rfl
  have F5 := fun_mk (st := s_Terms_letter) l5 c5 k5
  have b5 := F5.binds (ps := ["self", "name"]) fun _ _ _ _ _ _ us hl => match us, hl with | [_, _], _ => rfl
  have F6 := fun_mk (st := s_Terms_conditional) l6 c6 k6
  have b6 := F6.binds (ps := ["self", "condition", "consequence"]) fun _ _ _ _ _ _ us hl => match us, hl with | [_, _, _], _ => rfl
  have F7 := fun_mk (st := s_Terms_entered) l7 c7 k7
  have b7 := F7.binds (ps := ["self", "formula", "table"]) fun _ _ _ _ _ _ us hl => match us, hl with | [_, _, _], _ => rfl
  have F8 := fun_mk (st := s_Terms_root) l8 c8 k8
  have b8 := F8.binds (ps := ["self", "x"]) fun _ _ _ _ _ _ us hl => match us, hl with | [_, _], _ => rfl
  have F9 := fun_mk (st := s_Terms_made_same) l9 c9 k9
  have b9 := F9.binds (ps := ["self", "x", "y"]) fun _ _ _ _ _ _ us hl => match us, hl with | [_, _, _], _ => rfl
  have F10 := fun_mk (st := s_Terms_solved) l10 c10 k10
  have b10 := F10.binds (ps := ["self"]) fun _ _ _ _ _ _ us hl => match us, hl with | [_], _ => rfl
  have F11 := fun_mk (st := s_Terms_users) l11 c11 k11
  have b11 := F11.binds (ps := ["self"]) fun _ _ _ _ _ _ us hl => match us, hl with | [_], _ => rfl
  have F12 := fun_mk (st := s_parts_first) l12 c12 k12
  have b12 := F12.binds (ps := ["users", "many"]) fun _ _ _ _ _ _ us hl => match us, hl with | [_, _], _ => rfl
  have F13 := fun_mk (st := s_renamed) l13 c13 k13
  have b13 := F13.binds (ps := ["formula"]) fun _ _ _ _ _ _ us hl => match us, hl with | [_], _ => rfl
  have F14 := fun_mk (st := s_naming) l14 c14 k14
  have b14 := F14.binds (ps := ["formulas"]) fun _ _ _ _ _ _ us hl => match us, hl with | [_], _ => rfl
  have F15 := fun_mk (st := s_name_at) l15 c15 k15
  have b15 := F15.binds (ps := ["place"]) fun _ _ _ _ _ _ us hl => match us, hl with | [_], _ => rfl
  have F16 := fun_mk (st := s_steps_of) l16 c16 k16
  have b16 := F16.binds (ps := ["proof"]) fun _ _ _ _ _ _ us hl => match us, hl with | [_], _ => rfl
  have F17 := fun_mk (st := s_general) l17 c17 k17
  have b17 := F17.binds (ps := ["steps"]) fun _ _ _ _ _ _ us hl => match us, hl with | [_], _ => rfl
  have F18 := fun_mk (st := s_reasons_of) l18 c18 k18
  have b18 := F18.binds (ps := ["steps"]) fun _ _ _ _ _ _ us hl => match us, hl with | [_], _ => rfl
  have F19 := fun_mk (st := s_most_general) l19 c19 k19
  have b19 := F19.binds (ps := ["reasons"]) fun _ _ _ _ _ _ us hl => match us, hl with | [_], _ => rfl
  have F20 := fun_mk (st := s__law_cell) l20 c20 k20
  have b20 := F20.binds (ps := ["script", "k"]) fun _ _ _ _ _ _ us hl => match us, hl with | [_, _], _ => rfl
  have F21 := fun_mk (st := s__law_digits) l21 c21 k21
  have b21 := F21.binds (ps := ["script", "first", "last"]) fun _ _ _ _ _ _ us hl => match us, hl with | [_, _, _], _ => rfl
  have F22 := fun_mk (st := s__law_box) l22 c22 k22
  have b22 := F22.binds (ps := ["script", "first", "last"]) fun _ _ _ _ _ _ us hl => match us, hl with | [_, _, _], _ => rfl
  have F23 := fun_mk (st := s__law_draw) l23 c23 k23
  have b23 := F23.binds (ps := ["box", "many"]) fun _ _ _ _ _ _ us hl => match us, hl with | [_, _], _ => rfl
  have F24 := fun_mk (st := s__law_pairs) l24 c24 k24
  have b24 := F24.binds (ps := ["lines"]) fun _ _ _ _ _ _ us hl => match us, hl with | [_], _ => rfl
  have F25 := fun_mk (st := s__law_any) l25 c25 k25
  have b25 := F25.binds (ps := ["box", "room", "many"]) fun _ _ _ _ _ _ us hl => match us, hl with | [_, _, _], _ => rfl
  have F26 := fun_mk (st := s__law_parts) l26 c26 k26
  have b26 := F26.binds (ps := ["formula"]) fun _ _ _ _ _ _ us hl => match us, hl with | [_], _ => rfl
  have F27 := fun_mk (st := s__law_put) l27 c27 k27
  have b27 := F27.binds (ps := ["formula", "table"]) fun _ _ _ _ _ _ us hl => match us, hl with | [_, _], _ => rfl
  have F28 := fun_mk (st := s__law_if) l28 c28 k28
  have b28 := F28.binds (ps := ["rows"]) fun _ _ _ _ _ _ us hl => match us, hl with | [_], _ => rfl
  have F29 := fun_mk (st := s__law_axiom) l29 c29 k29
  have b29 := F29.binds (ps := ["k"]) fun _ _ _ _ _ _ us hl => match us, hl with | [_], _ => rfl
  have F30 := fun_mk (st := s__law_instance) l30 c30 k30
  have b30 := F30.binds (ps := ["box", "lines", "axioms"]) fun _ _ _ _ _ _ us hl => match us, hl with | [_, _, _], _ => rfl
  have F31 := fun_mk (st := s__law_same) l31 c31 k31
  have b31 := F31.binds (ps := ["actual", "expected"]) fun _ _ _ _ _ _ us hl => match us, hl with | [_, _], _ => rfl
  have F32 := fun_mk (st := s__law_matches) l32 c32 k32
  have b32 := F32.binds (ps := ["pattern", "formula", "found"]) fun _ _ _ _ _ _ us hl => match us, hl with | [_, _, _], _ => rfl
  have F33 := fun_mk (st := s__law_tree_of) l33 c33 k33
  have b33 := F33.binds (ps := ["lines", "k"]) fun _ _ _ _ _ _ us hl => match us, hl with | [_, _], _ => rfl
  have F34 := fun_mk (st := s_law) l34 c34 k34
  have b34 := F34.binds (ps := ["script"]) fun _ _ _ _ _ _ us hl => match us, hl with | [_], _ => rfl
  exact ⟨⟨f0, _, F0, PySem.W.mg_of X G a0, b0, f1, _, F1, PySem.W.mg_of X G a1, b1, f2, _, F2, PySem.W.mg_of X G a2, b2, f3, _, F3, b3, f4, _, F4, b4, f5, _, F5, b5, f6, _, F6, b6, f7, _, F7, b7, f8, _, F8, b8, f9, _, F9, b9, f10, _, F10, b10, f11, _, F11, b11, f12, _, F12, PySem.W.mg_of X G a12, b12, f13, _, F13, PySem.W.mg_of X G a13, b13, f14, _, F14, PySem.W.mg_of X G a14, b14, f15, _, F15, PySem.W.mg_of X G a15, b15, f16, _, F16, PySem.W.mg_of X G a16, b16, f17, _, F17, PySem.W.mg_of X G a17, b17, f18, _, F18, PySem.W.mg_of X G a18, b18, f19, _, F19, PySem.W.mg_of X G a19, b19, f20, _, F20, PySem.W.mg_of X G a20, b20, f21, _, F21, PySem.W.mg_of X G a21, b21, f22, _, F22, PySem.W.mg_of X G a22, b22, f23, _, F23, PySem.W.mg_of X G a23, b23, f24, _, F24, PySem.W.mg_of X G a24, b24, f25, _, F25, PySem.W.mg_of X G a25, b25, f26, _, F26, PySem.W.mg_of X G a26, b26, f27, _, F27, PySem.W.mg_of X G a27, b27, f28, _, F28, PySem.W.mg_of X G a28, b28, f29, _, F29, PySem.W.mg_of X G a29, b29, f30, _, F30, PySem.W.mg_of X G a30, b30, f31, _, F31, PySem.W.mg_of X G a31, b31, f32, _, F32, PySem.W.mg_of X G a32, b32, f33, _, F33, PySem.W.mg_of X G a33, b33, f34, _, F34, PySem.W.mg_of X G a34, b34, C_Terms, PySem.W.mg_of X G yTerms, ⟨ypTerms, yhTerms, yoTerms, ysTerms⟩, ynTerms_heads, ynTerms_tails, ynTerms_names, ynTerms_nearer, ⟨ymTerms, a3, n3, ykTerms⟩, ⟨a4, n4, k4⟩, ⟨a5, n5, k5⟩, ⟨a6, n6, k6⟩, ⟨a7, n7, k7⟩, ⟨a8, n8, k8⟩, ⟨a9, n9, k9⟩, ⟨a10, n10, k10⟩, ⟨a11, n11, k11⟩, PySem.W.mg_none_of X G z0, PySem.W.mg_none_of X G z1, PySem.W.mg_none_of X G z2, PySem.W.mg_none_of X G z3, PySem.W.mg_none_of X G z4, PySem.W.mg_none_of X G z5, PySem.W.mg_none_of X G z6, PySem.W.mg_none_of X G z7, PySem.W.mg_none_of X G z8, PySem.W.mg_none_of X G z9, PySem.W.mg_none_of X G z10, PySem.W.mg_none_of X G z11, PySem.W.mg_none_of X G z12, PySem.W.mg_none_of X G z13, tt0, PySem.W.mg_of X G xc0, e0, PySem.W.mg_of X G xg0, xw0⟩, rfl, fun s v => .of_eq rfl⟩
/- cases: ?yTerms ?ypTerms ?yhTerms ?yoTerms ?ysTerms ?ynTerms_heads ?ynTerms_tails ?ynTerms_names ?ynTerms_nearer ?ymTerms ?ykTerms  ?a0 ?l0 ?c0 ?k0 ?a1 ?l1 ?c1 ?k1 ?a2 ?l2 ?c2 ?k2 ?a3 ?l3 ?c3 ?k3 ?n3 ?a4 ?l4 ?c4 ?k4 ?n4 ?a5 ?l5 ?c5 ?k5 ?n5 ?a6 ?l6 ?c6 ?k6 ?n6 ?a7 ?l7 ?c7 ?k7 ?n7 ?a8 ?l8 ?c8 ?k8 ?n8 ?a9 ?l9 ?c9 ?k9 ?n9 ?a10 ?l10 ?c10 ?k10 ?n10 ?a11 ?l11 ?c11 ?k11 ?n11 ?a12 ?l12 ?c12 ?k12 ?a13 ?l13 ?c13 ?k13 ?a14 ?l14 ?c14 ?k14 ?a15 ?l15 ?c15 ?k15 ?a16 ?l16 ?c16 ?k16 ?a17 ?l17 ?c17 ?k17 ?a18 ?l18 ?c18 ?k18 ?a19 ?l19 ?c19 ?k19 ?a20 ?l20 ?c20 ?k20 ?a21 ?l21 ?c21 ?k21 ?a22 ?l22 ?c22 ?k22 ?a23 ?l23 ?c23 ?k23 ?a24 ?l24 ?c24 ?k24 ?a25 ?l25 ?c25 ?k25 ?a26 ?l26 ?c26 ?k26 ?a27 ?l27 ?c27 ?k27 ?a28 ?l28 ?c28 ?k28 ?a29 ?l29 ?c29 ?k29 ?a30 ?l30 ?c30 ?k30 ?a31 ?l31 ?c31 ?k31 ?a32 ?l32 ?c32 ?k32 ?a33 ?l33 ?c33 ?k33 ?a34 ?l34 ?c34 ?k34 ?z0 ?z1 ?z2 ?z3 ?z4 ?z5 ?z6 ?z7 ?z8 ?z9 ?z10 ?z11 ?z12 ?z13 ?xc0 ?xg0 ?xw0 -/

section
variable {P : Program} {w : World} {K : PySem.W.Frag} {mg : Str → Option Value} {base : Heap}
theorem lev_draw (T : Txt w K mg) : FnOk P w K mg base CX0 1 T.f__law_draw T.fd__law_draw ["box", "many"] (conc K 2 A_draw) := ok__law_draw T p__law_draw
theorem lev_any (T : Txt w K mg) : ∀ L, FnOk P w K mg base CX0 (L + 1) T.f__law_any T.fd__law_any ["box", "room", "many"] (conc K 3 (A_any L))
  | 0 => fn_none fun ds M Q Xa h => by
    obtain ⟨b, d, room, many, _, _, h1, h2, _⟩ := h
    omega
  | L + 1 => ok__law_any T ((lev_draw T).mono (by omega)) (lev_any T L) (p__law_any L)
theorem lev_put (T : Txt w K mg) : ∀ L, FnOk P w K mg base CX0 (L + 1) T.f__law_put T.fd__law_put ["formula", "table"] (conc K 2 (A_put L))
  | 0 => fn_none fun ds M Q Xa h => by
    obtain ⟨f, t, kvs, σ, _, h1, _⟩ := h
    have z := f.sz_pos
    omega
  | L + 1 => ok__law_put T (lev_put T L) (p__law_put L)
theorem lev_same (T : Txt w K mg) : ∀ L, FnOk P w K mg base CX0 (L + 1) T.f__law_same T.fd__law_same ["actual", "expected"] (conc K 2 (A_same L))
  | 0 => fn_none fun ds M Q Xa h => by
    obtain ⟨x, _, _, h1, _⟩ := h
    exact absurd h1 (Nat.not_lt_zero _)
  | L + 1 => ok__law_same T (lev_same T L) (p__law_same L)
theorem lev_box (T : Txt w K mg) : FnOk P w K mg base CX0 3 T.f__law_box T.fd__law_box ["script", "first", "last"] (conc K 3 A_box) := ok__law_box T (ok__law_digits T (ok__law_cell T p__law_cell) p__law_digits) p__law_box
end

section
variable {P : Program} {w : World} {K : PySem.W.Frag} {mg : Str → Option Value} {base : Heap}
theorem lev_parts (T : Txt w K mg) : ∀ L, FnOk P w K mg base CX0 (L + 1) T.f__law_parts T.fd__law_parts ["formula"] (conc K 1 (A_parts L))
  | 0 => fn_none fun ds M Q Xa h => by
    obtain ⟨f, _, h1, _⟩ := h
    have z := f.sz_pos
    omega
  | L + 1 => ok__law_parts T (lev_parts T L) (p__law_parts L)
theorem lev_if (T : Txt w K mg) : FnOk P w K mg base CX0 1 T.f__law_if T.fd__law_if ["rows"] (conc K 1 A_if) := ok__law_if T p__law_if
theorem lev_axiom (T : Txt w K mg) : FnOk P w K mg base CX0 2 T.f__law_axiom T.fd__law_axiom ["k"] (conc K 1 A_axiom) := ok__law_axiom T (lev_if T) p__law_axiom
theorem lev_matches (T : Txt w K mg) : ∀ L, FnOk P w K mg base CX0 (L + 1) T.f__law_matches T.fd__law_matches ["pattern", "formula", "found"] (conc K 3 (A_matches L))
  | 0 => fn_none fun ds M Q Xa h => by
    obtain ⟨p, f, t, tb, _, h1, _⟩ := h
    have z := p.sz_pos
    omega
  | L + 1 => ok__law_matches T (lev_matches T L) (p__law_matches L)
theorem lev_pairs (T : Txt w K mg) : FnOk P w K mg base CX0 1 T.f__law_pairs T.fd__law_pairs ["lines"] (conc K 1 A_pairs) := ok__law_pairs T p__law_pairs
theorem lev_inst (T : Txt w K mg) : FnOk P w K mg base CX0 202 T.f__law_instance T.fd__law_instance ["box", "lines", "axioms"] (conc K 3 A_inst) := ok__law_instance T ((lev_draw T).mono (by omega)) ((lev_any T 10).mono (by omega)) (lev_parts T 200) ((lev_put T 20).mono (by omega)) ((lev_axiom T).mono (by omega)) p__law_instance
theorem lev_tree (T : Txt w K mg) : ∀ L, FnOk P w K mg base CX0 (L + 1) T.f__law_tree_of T.fd__law_tree_of ["lines", "k"] (conc K 2 (A_tree L))
  | 0 => fn_none fun ds M Q Xa h => by
    obtain ⟨l, ls, k, t, _, _, _, h1, _⟩ := h
    cases t with
    | ax _ _ => exact absurd h1 (Nat.not_succ_le_zero _)
    | dt _ p q => exact absurd h1 (Nat.not_succ_le_zero _)
  | L + 1 => ok__law_tree_of T (lev_tree T L) (p__law_tree_of L)
theorem lev_letters (T : Txt w K mg) : FnOk P w K mg base CX0 1 T.f_letters T.fd_letters ["formula"] (conc K 1 A_letters) := ok_letters T p_letters
theorem lev_paxiom (T : Txt w K mg) : FnOk P w K mg base CX0 1 T.f_axiom T.fd_axiom ["k"] (conc K 1 A_paxiom) := ok_axiom T p_axiom
theorem lev_tinit (T : Txt w K mg) : FnOk P w K mg base CX0 1 T.f_Terms___init__ T.fd_Terms___init__ ["self"] (conc K 1 (A_tinit T.C_Terms)) := ok_Terms___init__ T (p_Terms___init__ T.C_Terms)
theorem lev_tadded (T : Txt w K mg) : FnOk P w K mg base CX0 1 T.f_Terms_added T.fd_Terms_added ["self", "head", "tail"] (conc K 3 (A_tadded T.C_Terms)) := ok_Terms_added T (p_Terms_added T.C_Terms)
theorem lev_tletter (T : Txt w K mg) : FnOk P w K mg base CX0 2 T.f_Terms_letter T.fd_Terms_letter ["self", "name"] (conc K 2 (A_tletter T.C_Terms)) := ok_Terms_letter T (lev_tadded T) (p_Terms_letter T.C_Terms)
theorem lev_tcond (T : Txt w K mg) : FnOk P w K mg base CX0 2 T.f_Terms_conditional T.fd_Terms_conditional ["self", "condition", "consequence"] (conc K 3 (A_tcond T.C_Terms)) := ok_Terms_conditional T (lev_tadded T) (p_Terms_conditional T.C_Terms)
theorem lev_tentered (T : Txt w K mg) : ∀ L, FnOk P w K mg base CX0 (L + 1) T.f_Terms_entered T.fd_Terms_entered ["self", "formula", "table"] (conc K 3 (A_tentered T.C_Terms L))
  | 0 => fn_none fun ds M Q Xa h => by
    obtain ⟨p, a, t, n, r, tb, f, K, nm, nr, kvs, τ, _, h1, _⟩ := h
    have z := f.sz_pos
    omega
  | L + 1 => ok_Terms_entered T ((lev_tadded T).mono (by omega)) (lev_tentered T L) (p_Terms_entered T.C_Terms L)
theorem lev_troot (T : Txt w K mg) : FnOk P w K mg base CX0 1 T.f_Terms_root T.fd_Terms_root ["self", "x"] (conc K 2 (A_troot T.C_Terms)) := ok_Terms_root T (p_troot T.C_Terms)
theorem lev_tmade (T : Txt w K mg) : FnOk P w K mg base CX0 2 T.f_Terms_made_same T.fd_Terms_made_same ["self", "x", "y"] (conc K 3 (A_tmade T.C_Terms)) := ok_Terms_made_same T (lev_troot T) (p_tmade T.C_Terms)
theorem lev_tusers (T : Txt w K mg) : FnOk P w K mg base CX0 2 T.f_Terms_users T.fd_Terms_users ["self"] (conc K 1 (A_tusers T.C_Terms)) := ok_Terms_users T (lev_troot T) (p_tusers T.C_Terms)
theorem lev_pfirst (T : Txt w K mg) : FnOk P w K mg base CX0 1 T.f_parts_first T.fd_parts_first ["users", "many"] (conc K 2 A_pfirst) := ok_parts_first T p_parts_first
theorem lev_tsolved (T : Txt w K mg) : FnOk P w K mg base CX0 3 T.f_Terms_solved T.fd_Terms_solved ["self"] (conc K 1 (A_tsolved T.C_Terms)) := ok_Terms_solved T ((lev_pfirst T).mono (by omega)) (lev_tusers T) ((lev_troot T).mono (by omega)) (p_tsolved T.C_Terms)
theorem lev_mostgen (T : Txt w K mg) : FnOk P w K mg base CX0 50 T.f_most_general T.fd_most_general ["reasons"] (conc K 1 (A_mostgen T.C_Terms)) :=
  ok_most_general T (k := 49) (k0 := 1) (by omega) (lev_tinit T) ((lev_tletter T).mono (by omega)) ((lev_tmade T).mono (by omega)) ((lev_tcond T).mono (by omega)) ((lev_paxiom T).mono (by omega)) (lev_tentered T 48) ((lev_letters T).mono (by omega)) ((lev_tsolved T).mono (by omega)) (p_most_general T.C_Terms)
theorem lev_pput (T : Txt w K mg) : ∀ L, FnOk P w K mg base CX0 (L + 1) T.f_put T.fd_put ["formula", "table"] (conc K 2 (A_putN L))
  | 0 => fn_none fun ds M Q Xa h => by
    obtain ⟨ν, g, t, kvs, τ, _, h1, _⟩ := h
    have z := g.sz_pos
    omega
  | L + 1 => ok_put T (lev_pput T L) (p_putN L)
theorem lev_naming (T : Txt w K mg) : FnOk P w K mg base CX0 2 T.f_naming T.fd_naming ["formulas"] (conc K 1 A_namingT) := ok_naming T (ok_name_at T p_name_at) p_namingT
theorem lev_ren (T : Txt w K mg) : FnOk P w K mg base CX0 132 T.f_renamed T.fd_renamed ["formula"] (conc K 1 A_ren) := ok_renamed T (lev_pput T 130) ((lev_naming T).mono (by omega)) p_renamed
theorem lev_reasons (T : Txt w K mg) : FnOk P w K mg base CX0 1 T.f_reasons_of T.fd_reasons_of ["steps"] (conc K 1 A_reasons) := ok_reasons_of T p_reasons_of
theorem lev_general (T : Txt w K mg) : FnOk P w K mg base CX0 133 T.f_general T.fd_general ["steps"] (conc K 1 (A_general T.C_Terms)) := ok_general T ((lev_mostgen T).mono (by omega)) ((lev_reasons T).mono (by omega)) (lev_ren T) (p_general T.C_Terms)
theorem lev_steps (T : Txt w K mg) : FnOk P w K mg base CX0 1 T.f_steps_of T.fd_steps_of ["proof"] (conc K 1 A_steps_of) := ok_steps_of T p_steps_of
theorem lev_law (T : Txt w K mg) : FnOk P w K mg base CX0 203 T.f_law T.fd_law ["script"] (conc K 1 A_law) :=
  ok_law T ((lev_box T).mono (by omega)) ((lev_draw T).mono (by omega)) ((lev_pairs T).mono (by omega)) (lev_inst T) ((lev_steps T).mono (by omega)) ((lev_same T 200).mono (by omega)) ((lev_tree T 20).mono (by omega)) ((lev_general T).mono (by omega)) ((lev_matches T 130).mono (by omega)) (p_law T.C_Terms)
end

set_option maxHeartbeats 0 in
theorem all_mk {l : PySem.W.OpenLaw} {w : World} {fa : Addr} {K : PySem.W.Frag} {h : Heap} {mg : Str → Option Value} (X : K.In h) (G : h.Ns mainGlobals mg) (hfa : mg "law" = some (.ref fa))
    {C_Terms : Addr} (yTerms : PySem.W.nsIn K mainGlobals "Terms" = some (some (.ref C_Terms))) (ypTerms : PySem.W.plainGet K C_Terms Str.empty = true) (yhTerms : PySem.W.hasDictIn K C_Terms = true) (yoTerms : PySem.W.plainOver K C_Terms = true) (ysTerms : PySem.W.findIn K (.ref C_Terms) "__setattr__" = some (some (.builtin "object.__setattr__")))
    (ynTerms_heads : PySem.W.findIn K (.ref C_Terms) "heads" = some none)
    (ynTerms_tails : PySem.W.findIn K (.ref C_Terms) "tails" = some none)
    (ynTerms_names : PySem.W.findIn K (.ref C_Terms) "names" = some none)
    (ynTerms_nearer : PySem.W.findIn K (.ref C_Terms) "nearer" = some none)
    (ymTerms : PySem.W.makesIn K C_Terms = true) (ykTerms : PySem.W.keepIn K (.ref C_Terms) = true)
    {f0 : Addr} {od0 an0 : Option Addr} {sl0 : Array (Option Value)} {oc0 kV0 dc0 pm0 cd0 ct0 : Value}
    (a0 : PySem.W.nsIn K mainGlobals "letters" = some (some (.ref f0))) (l0 : K.lookup f0 = some ⟨oc0, od0, .func (PySem.W.fnOf "letters" "letters" (defArgs s_letters) (defBody s_letters) (defScope s_letters) .none kV0 dc0 pm0 an0 cd0 ct0), sl0⟩) (c0 : PySem.W.codeIn K cd0 "letters" = true) (k0 : PySem.W.keepIn K (.ref f0) = true)
    {f1 : Addr} {od1 an1 : Option Addr} {sl1 : Array (Option Value)} {oc1 kV1 dc1 pm1 cd1 ct1 : Value}
    (a1 : PySem.W.nsIn K mainGlobals "put" = some (some (.ref f1))) (l1 : K.lookup f1 = some ⟨oc1, od1, .func (PySem.W.fnOf "put" "put" (defArgs s_put) (defBody s_put) (defScope s_put) .none kV1 dc1 pm1 an1 cd1 ct1), sl1⟩) (c1 : PySem.W.codeIn K cd1 "put" = true) (k1 : PySem.W.keepIn K (.ref f1) = true)
    {f2 : Addr} {od2 an2 : Option Addr} {sl2 : Array (Option Value)} {oc2 kV2 dc2 pm2 cd2 ct2 : Value}
    (a2 : PySem.W.nsIn K mainGlobals "axiom" = some (some (.ref f2))) (l2 : K.lookup f2 = some ⟨oc2, od2, .func (PySem.W.fnOf "axiom" "axiom" (defArgs s_axiom) (defBody s_axiom) (defScope s_axiom) .none kV2 dc2 pm2 an2 cd2 ct2), sl2⟩) (c2 : PySem.W.codeIn K cd2 "axiom" = true) (k2 : PySem.W.keepIn K (.ref f2) = true)
    {f3 : Addr} {od3 an3 : Option Addr} {sl3 : Array (Option Value)} {oc3 kV3 dc3 pm3 cd3 ct3 : Value}
    (a3 : PySem.W.findIn K (.ref C_Terms) "__init__" = some (some (.ref f3))) (l3 : K.lookup f3 = some ⟨oc3, od3, .func (PySem.W.fnOf "__init__" "Terms.__init__" (defArgs s_Terms___init__) (defBody s_Terms___init__) (defScope s_Terms___init__) .none kV3 dc3 pm3 an3 cd3 ct3), sl3⟩) (c3 : PySem.W.codeIn K cd3 "Terms.__init__" = true) (k3 : PySem.W.keepIn K (.ref f3) = true) (n3 : PySem.W.isFn K (.ref f3) = true)
    {f4 : Addr} {od4 an4 : Option Addr} {sl4 : Array (Option Value)} {oc4 kV4 dc4 pm4 cd4 ct4 : Value}
    (a4 : PySem.W.findIn K (.ref C_Terms) "added" = some (some (.ref f4))) (l4 : K.lookup f4 = some ⟨oc4, od4, .func (PySem.W.fnOf "added" "Terms.added" (defArgs s_Terms_added) (defBody s_Terms_added) (defScope s_Terms_added) .none kV4 dc4 pm4 an4 cd4 ct4), sl4⟩) (c4 : PySem.W.codeIn K cd4 "Terms.added" = true) (k4 : PySem.W.keepIn K (.ref f4) = true) (n4 : PySem.W.isFn K (.ref f4) = true)
    {f5 : Addr} {od5 an5 : Option Addr} {sl5 : Array (Option Value)} {oc5 kV5 dc5 pm5 cd5 ct5 : Value}
    (a5 : PySem.W.findIn K (.ref C_Terms) "letter" = some (some (.ref f5))) (l5 : K.lookup f5 = some ⟨oc5, od5, .func (PySem.W.fnOf "letter" "Terms.letter" (defArgs s_Terms_letter) (defBody s_Terms_letter) (defScope s_Terms_letter) .none kV5 dc5 pm5 an5 cd5 ct5), sl5⟩) (c5 : PySem.W.codeIn K cd5 "Terms.letter" = true) (k5 : PySem.W.keepIn K (.ref f5) = true) (n5 : PySem.W.isFn K (.ref f5) = true)
    {f6 : Addr} {od6 an6 : Option Addr} {sl6 : Array (Option Value)} {oc6 kV6 dc6 pm6 cd6 ct6 : Value}
    (a6 : PySem.W.findIn K (.ref C_Terms) "conditional" = some (some (.ref f6))) (l6 : K.lookup f6 = some ⟨oc6, od6, .func (PySem.W.fnOf "conditional" "Terms.conditional" (defArgs s_Terms_conditional) (defBody s_Terms_conditional) (defScope s_Terms_conditional) .none kV6 dc6 pm6 an6 cd6 ct6), sl6⟩) (c6 : PySem.W.codeIn K cd6 "Terms.conditional" = true) (k6 : PySem.W.keepIn K (.ref f6) = true) (n6 : PySem.W.isFn K (.ref f6) = true)
    {f7 : Addr} {od7 an7 : Option Addr} {sl7 : Array (Option Value)} {oc7 kV7 dc7 pm7 cd7 ct7 : Value}
    (a7 : PySem.W.findIn K (.ref C_Terms) "entered" = some (some (.ref f7))) (l7 : K.lookup f7 = some ⟨oc7, od7, .func (PySem.W.fnOf "entered" "Terms.entered" (defArgs s_Terms_entered) (defBody s_Terms_entered) (defScope s_Terms_entered) .none kV7 dc7 pm7 an7 cd7 ct7), sl7⟩) (c7 : PySem.W.codeIn K cd7 "Terms.entered" = true) (k7 : PySem.W.keepIn K (.ref f7) = true) (n7 : PySem.W.isFn K (.ref f7) = true)
    {f8 : Addr} {od8 an8 : Option Addr} {sl8 : Array (Option Value)} {oc8 kV8 dc8 pm8 cd8 ct8 : Value}
    (a8 : PySem.W.findIn K (.ref C_Terms) "root" = some (some (.ref f8))) (l8 : K.lookup f8 = some ⟨oc8, od8, .func (PySem.W.fnOf "root" "Terms.root" (defArgs s_Terms_root) (defBody s_Terms_root) (defScope s_Terms_root) .none kV8 dc8 pm8 an8 cd8 ct8), sl8⟩) (c8 : PySem.W.codeIn K cd8 "Terms.root" = true) (k8 : PySem.W.keepIn K (.ref f8) = true) (n8 : PySem.W.isFn K (.ref f8) = true)
    {f9 : Addr} {od9 an9 : Option Addr} {sl9 : Array (Option Value)} {oc9 kV9 dc9 pm9 cd9 ct9 : Value}
    (a9 : PySem.W.findIn K (.ref C_Terms) "made_same" = some (some (.ref f9))) (l9 : K.lookup f9 = some ⟨oc9, od9, .func (PySem.W.fnOf "made_same" "Terms.made_same" (defArgs s_Terms_made_same) (defBody s_Terms_made_same) (defScope s_Terms_made_same) .none kV9 dc9 pm9 an9 cd9 ct9), sl9⟩) (c9 : PySem.W.codeIn K cd9 "Terms.made_same" = true) (k9 : PySem.W.keepIn K (.ref f9) = true) (n9 : PySem.W.isFn K (.ref f9) = true)
    {f10 : Addr} {od10 an10 : Option Addr} {sl10 : Array (Option Value)} {oc10 kV10 dc10 pm10 cd10 ct10 : Value}
    (a10 : PySem.W.findIn K (.ref C_Terms) "solved" = some (some (.ref f10))) (l10 : K.lookup f10 = some ⟨oc10, od10, .func (PySem.W.fnOf "solved" "Terms.solved" (defArgs s_Terms_solved) (defBody s_Terms_solved) (defScope s_Terms_solved) .none kV10 dc10 pm10 an10 cd10 ct10), sl10⟩) (c10 : PySem.W.codeIn K cd10 "Terms.solved" = true) (k10 : PySem.W.keepIn K (.ref f10) = true) (n10 : PySem.W.isFn K (.ref f10) = true)
    {f11 : Addr} {od11 an11 : Option Addr} {sl11 : Array (Option Value)} {oc11 kV11 dc11 pm11 cd11 ct11 : Value}
    (a11 : PySem.W.findIn K (.ref C_Terms) "users" = some (some (.ref f11))) (l11 : K.lookup f11 = some ⟨oc11, od11, .func (PySem.W.fnOf "users" "Terms.users" (defArgs s_Terms_users) (defBody s_Terms_users) (defScope s_Terms_users) .none kV11 dc11 pm11 an11 cd11 ct11), sl11⟩) (c11 : PySem.W.codeIn K cd11 "Terms.users" = true) (k11 : PySem.W.keepIn K (.ref f11) = true) (n11 : PySem.W.isFn K (.ref f11) = true)
    {f12 : Addr} {od12 an12 : Option Addr} {sl12 : Array (Option Value)} {oc12 kV12 dc12 pm12 cd12 ct12 : Value}
    (a12 : PySem.W.nsIn K mainGlobals "parts_first" = some (some (.ref f12))) (l12 : K.lookup f12 = some ⟨oc12, od12, .func (PySem.W.fnOf "parts_first" "parts_first" (defArgs s_parts_first) (defBody s_parts_first) (defScope s_parts_first) .none kV12 dc12 pm12 an12 cd12 ct12), sl12⟩) (c12 : PySem.W.codeIn K cd12 "parts_first" = true) (k12 : PySem.W.keepIn K (.ref f12) = true)
    {f13 : Addr} {od13 an13 : Option Addr} {sl13 : Array (Option Value)} {oc13 kV13 dc13 pm13 cd13 ct13 : Value}
    (a13 : PySem.W.nsIn K mainGlobals "renamed" = some (some (.ref f13))) (l13 : K.lookup f13 = some ⟨oc13, od13, .func (PySem.W.fnOf "renamed" "renamed" (defArgs s_renamed) (defBody s_renamed) (defScope s_renamed) .none kV13 dc13 pm13 an13 cd13 ct13), sl13⟩) (c13 : PySem.W.codeIn K cd13 "renamed" = true) (k13 : PySem.W.keepIn K (.ref f13) = true)
    {f14 : Addr} {od14 an14 : Option Addr} {sl14 : Array (Option Value)} {oc14 kV14 dc14 pm14 cd14 ct14 : Value}
    (a14 : PySem.W.nsIn K mainGlobals "naming" = some (some (.ref f14))) (l14 : K.lookup f14 = some ⟨oc14, od14, .func (PySem.W.fnOf "naming" "naming" (defArgs s_naming) (defBody s_naming) (defScope s_naming) .none kV14 dc14 pm14 an14 cd14 ct14), sl14⟩) (c14 : PySem.W.codeIn K cd14 "naming" = true) (k14 : PySem.W.keepIn K (.ref f14) = true)
    {f15 : Addr} {od15 an15 : Option Addr} {sl15 : Array (Option Value)} {oc15 kV15 dc15 pm15 cd15 ct15 : Value}
    (a15 : PySem.W.nsIn K mainGlobals "name_at" = some (some (.ref f15))) (l15 : K.lookup f15 = some ⟨oc15, od15, .func (PySem.W.fnOf "name_at" "name_at" (defArgs s_name_at) (defBody s_name_at) (defScope s_name_at) .none kV15 dc15 pm15 an15 cd15 ct15), sl15⟩) (c15 : PySem.W.codeIn K cd15 "name_at" = true) (k15 : PySem.W.keepIn K (.ref f15) = true)
    {f16 : Addr} {od16 an16 : Option Addr} {sl16 : Array (Option Value)} {oc16 kV16 dc16 pm16 cd16 ct16 : Value}
    (a16 : PySem.W.nsIn K mainGlobals "steps_of" = some (some (.ref f16))) (l16 : K.lookup f16 = some ⟨oc16, od16, .func (PySem.W.fnOf "steps_of" "steps_of" (defArgs s_steps_of) (defBody s_steps_of) (defScope s_steps_of) .none kV16 dc16 pm16 an16 cd16 ct16), sl16⟩) (c16 : PySem.W.codeIn K cd16 "steps_of" = true) (k16 : PySem.W.keepIn K (.ref f16) = true)
    {f17 : Addr} {od17 an17 : Option Addr} {sl17 : Array (Option Value)} {oc17 kV17 dc17 pm17 cd17 ct17 : Value}
    (a17 : PySem.W.nsIn K mainGlobals "general" = some (some (.ref f17))) (l17 : K.lookup f17 = some ⟨oc17, od17, .func (PySem.W.fnOf "general" "general" (defArgs s_general) (defBody s_general) (defScope s_general) .none kV17 dc17 pm17 an17 cd17 ct17), sl17⟩) (c17 : PySem.W.codeIn K cd17 "general" = true) (k17 : PySem.W.keepIn K (.ref f17) = true)
    {f18 : Addr} {od18 an18 : Option Addr} {sl18 : Array (Option Value)} {oc18 kV18 dc18 pm18 cd18 ct18 : Value}
    (a18 : PySem.W.nsIn K mainGlobals "reasons_of" = some (some (.ref f18))) (l18 : K.lookup f18 = some ⟨oc18, od18, .func (PySem.W.fnOf "reasons_of" "reasons_of" (defArgs s_reasons_of) (defBody s_reasons_of) (defScope s_reasons_of) .none kV18 dc18 pm18 an18 cd18 ct18), sl18⟩) (c18 : PySem.W.codeIn K cd18 "reasons_of" = true) (k18 : PySem.W.keepIn K (.ref f18) = true)
    {f19 : Addr} {od19 an19 : Option Addr} {sl19 : Array (Option Value)} {oc19 kV19 dc19 pm19 cd19 ct19 : Value}
    (a19 : PySem.W.nsIn K mainGlobals "most_general" = some (some (.ref f19))) (l19 : K.lookup f19 = some ⟨oc19, od19, .func (PySem.W.fnOf "most_general" "most_general" (defArgs s_most_general) (defBody s_most_general) (defScope s_most_general) .none kV19 dc19 pm19 an19 cd19 ct19), sl19⟩) (c19 : PySem.W.codeIn K cd19 "most_general" = true) (k19 : PySem.W.keepIn K (.ref f19) = true)
    {f20 : Addr} {od20 an20 : Option Addr} {sl20 : Array (Option Value)} {oc20 kV20 dc20 pm20 cd20 ct20 : Value}
    (a20 : PySem.W.nsIn K mainGlobals "_law_cell" = some (some (.ref f20))) (l20 : K.lookup f20 = some ⟨oc20, od20, .func (PySem.W.fnOf "_law_cell" "_law_cell" (defArgs s__law_cell) (defBody s__law_cell) (defScope s__law_cell) .none kV20 dc20 pm20 an20 cd20 ct20), sl20⟩) (c20 : PySem.W.codeIn K cd20 "_law_cell" = true) (k20 : PySem.W.keepIn K (.ref f20) = true)
    {f21 : Addr} {od21 an21 : Option Addr} {sl21 : Array (Option Value)} {oc21 kV21 dc21 pm21 cd21 ct21 : Value}
    (a21 : PySem.W.nsIn K mainGlobals "_law_digits" = some (some (.ref f21))) (l21 : K.lookup f21 = some ⟨oc21, od21, .func (PySem.W.fnOf "_law_digits" "_law_digits" (defArgs s__law_digits) (defBody s__law_digits) (defScope s__law_digits) .none kV21 dc21 pm21 an21 cd21 ct21), sl21⟩) (c21 : PySem.W.codeIn K cd21 "_law_digits" = true) (k21 : PySem.W.keepIn K (.ref f21) = true)
    {f22 : Addr} {od22 an22 : Option Addr} {sl22 : Array (Option Value)} {oc22 kV22 dc22 pm22 cd22 ct22 : Value}
    (a22 : PySem.W.nsIn K mainGlobals "_law_box" = some (some (.ref f22))) (l22 : K.lookup f22 = some ⟨oc22, od22, .func (PySem.W.fnOf "_law_box" "_law_box" (defArgs s__law_box) (defBody s__law_box) (defScope s__law_box) .none kV22 dc22 pm22 an22 cd22 ct22), sl22⟩) (c22 : PySem.W.codeIn K cd22 "_law_box" = true) (k22 : PySem.W.keepIn K (.ref f22) = true)
    {f23 : Addr} {od23 an23 : Option Addr} {sl23 : Array (Option Value)} {oc23 kV23 dc23 pm23 cd23 ct23 : Value}
    (a23 : PySem.W.nsIn K mainGlobals "_law_draw" = some (some (.ref f23))) (l23 : K.lookup f23 = some ⟨oc23, od23, .func (PySem.W.fnOf "_law_draw" "_law_draw" (defArgs s__law_draw) (defBody s__law_draw) (defScope s__law_draw) .none kV23 dc23 pm23 an23 cd23 ct23), sl23⟩) (c23 : PySem.W.codeIn K cd23 "_law_draw" = true) (k23 : PySem.W.keepIn K (.ref f23) = true)
    {f24 : Addr} {od24 an24 : Option Addr} {sl24 : Array (Option Value)} {oc24 kV24 dc24 pm24 cd24 ct24 : Value}
    (a24 : PySem.W.nsIn K mainGlobals "_law_pairs" = some (some (.ref f24))) (l24 : K.lookup f24 = some ⟨oc24, od24, .func (PySem.W.fnOf "_law_pairs" "_law_pairs" (defArgs s__law_pairs) (defBody s__law_pairs) (defScope s__law_pairs) .none kV24 dc24 pm24 an24 cd24 ct24), sl24⟩) (c24 : PySem.W.codeIn K cd24 "_law_pairs" = true) (k24 : PySem.W.keepIn K (.ref f24) = true)
    {f25 : Addr} {od25 an25 : Option Addr} {sl25 : Array (Option Value)} {oc25 kV25 dc25 pm25 cd25 ct25 : Value}
    (a25 : PySem.W.nsIn K mainGlobals "_law_any" = some (some (.ref f25))) (l25 : K.lookup f25 = some ⟨oc25, od25, .func (PySem.W.fnOf "_law_any" "_law_any" (defArgs s__law_any) (defBody s__law_any) (defScope s__law_any) .none kV25 dc25 pm25 an25 cd25 ct25), sl25⟩) (c25 : PySem.W.codeIn K cd25 "_law_any" = true) (k25 : PySem.W.keepIn K (.ref f25) = true)
    {f26 : Addr} {od26 an26 : Option Addr} {sl26 : Array (Option Value)} {oc26 kV26 dc26 pm26 cd26 ct26 : Value}
    (a26 : PySem.W.nsIn K mainGlobals "_law_parts" = some (some (.ref f26))) (l26 : K.lookup f26 = some ⟨oc26, od26, .func (PySem.W.fnOf "_law_parts" "_law_parts" (defArgs s__law_parts) (defBody s__law_parts) (defScope s__law_parts) .none kV26 dc26 pm26 an26 cd26 ct26), sl26⟩) (c26 : PySem.W.codeIn K cd26 "_law_parts" = true) (k26 : PySem.W.keepIn K (.ref f26) = true)
    {f27 : Addr} {od27 an27 : Option Addr} {sl27 : Array (Option Value)} {oc27 kV27 dc27 pm27 cd27 ct27 : Value}
    (a27 : PySem.W.nsIn K mainGlobals "_law_put" = some (some (.ref f27))) (l27 : K.lookup f27 = some ⟨oc27, od27, .func (PySem.W.fnOf "_law_put" "_law_put" (defArgs s__law_put) (defBody s__law_put) (defScope s__law_put) .none kV27 dc27 pm27 an27 cd27 ct27), sl27⟩) (c27 : PySem.W.codeIn K cd27 "_law_put" = true) (k27 : PySem.W.keepIn K (.ref f27) = true)
    {f28 : Addr} {od28 an28 : Option Addr} {sl28 : Array (Option Value)} {oc28 kV28 dc28 pm28 cd28 ct28 : Value}
    (a28 : PySem.W.nsIn K mainGlobals "_law_if" = some (some (.ref f28))) (l28 : K.lookup f28 = some ⟨oc28, od28, .func (PySem.W.fnOf "_law_if" "_law_if" (defArgs s__law_if) (defBody s__law_if) (defScope s__law_if) .none kV28 dc28 pm28 an28 cd28 ct28), sl28⟩) (c28 : PySem.W.codeIn K cd28 "_law_if" = true) (k28 : PySem.W.keepIn K (.ref f28) = true)
    {f29 : Addr} {od29 an29 : Option Addr} {sl29 : Array (Option Value)} {oc29 kV29 dc29 pm29 cd29 ct29 : Value}
    (a29 : PySem.W.nsIn K mainGlobals "_law_axiom" = some (some (.ref f29))) (l29 : K.lookup f29 = some ⟨oc29, od29, .func (PySem.W.fnOf "_law_axiom" "_law_axiom" (defArgs s__law_axiom) (defBody s__law_axiom) (defScope s__law_axiom) .none kV29 dc29 pm29 an29 cd29 ct29), sl29⟩) (c29 : PySem.W.codeIn K cd29 "_law_axiom" = true) (k29 : PySem.W.keepIn K (.ref f29) = true)
    {f30 : Addr} {od30 an30 : Option Addr} {sl30 : Array (Option Value)} {oc30 kV30 dc30 pm30 cd30 ct30 : Value}
    (a30 : PySem.W.nsIn K mainGlobals "_law_instance" = some (some (.ref f30))) (l30 : K.lookup f30 = some ⟨oc30, od30, .func (PySem.W.fnOf "_law_instance" "_law_instance" (defArgs s__law_instance) (defBody s__law_instance) (defScope s__law_instance) .none kV30 dc30 pm30 an30 cd30 ct30), sl30⟩) (c30 : PySem.W.codeIn K cd30 "_law_instance" = true) (k30 : PySem.W.keepIn K (.ref f30) = true)
    {f31 : Addr} {od31 an31 : Option Addr} {sl31 : Array (Option Value)} {oc31 kV31 dc31 pm31 cd31 ct31 : Value}
    (a31 : PySem.W.nsIn K mainGlobals "_law_same" = some (some (.ref f31))) (l31 : K.lookup f31 = some ⟨oc31, od31, .func (PySem.W.fnOf "_law_same" "_law_same" (defArgs s__law_same) (defBody s__law_same) (defScope s__law_same) .none kV31 dc31 pm31 an31 cd31 ct31), sl31⟩) (c31 : PySem.W.codeIn K cd31 "_law_same" = true) (k31 : PySem.W.keepIn K (.ref f31) = true)
    {f32 : Addr} {od32 an32 : Option Addr} {sl32 : Array (Option Value)} {oc32 kV32 dc32 pm32 cd32 ct32 : Value}
    (a32 : PySem.W.nsIn K mainGlobals "_law_matches" = some (some (.ref f32))) (l32 : K.lookup f32 = some ⟨oc32, od32, .func (PySem.W.fnOf "_law_matches" "_law_matches" (defArgs s__law_matches) (defBody s__law_matches) (defScope s__law_matches) .none kV32 dc32 pm32 an32 cd32 ct32), sl32⟩) (c32 : PySem.W.codeIn K cd32 "_law_matches" = true) (k32 : PySem.W.keepIn K (.ref f32) = true)
    {f33 : Addr} {od33 an33 : Option Addr} {sl33 : Array (Option Value)} {oc33 kV33 dc33 pm33 cd33 ct33 : Value}
    (a33 : PySem.W.nsIn K mainGlobals "_law_tree_of" = some (some (.ref f33))) (l33 : K.lookup f33 = some ⟨oc33, od33, .func (PySem.W.fnOf "_law_tree_of" "_law_tree_of" (defArgs s__law_tree_of) (defBody s__law_tree_of) (defScope s__law_tree_of) .none kV33 dc33 pm33 an33 cd33 ct33), sl33⟩) (c33 : PySem.W.codeIn K cd33 "_law_tree_of" = true) (k33 : PySem.W.keepIn K (.ref f33) = true)
    {f34 : Addr} {od34 an34 : Option Addr} {sl34 : Array (Option Value)} {oc34 kV34 dc34 pm34 cd34 ct34 : Value}
    (a34 : PySem.W.nsIn K mainGlobals "law" = some (some (.ref f34))) (l34 : K.lookup f34 = some ⟨oc34, od34, .func (PySem.W.fnOf "law" "law" (defArgs s_law) (defBody s_law) (defScope s_law) .none kV34 dc34 pm34 an34 cd34 ct34), sl34⟩) (c34 : PySem.W.codeIn K cd34 "law" = true) (k34 : PySem.W.keepIn K (.ref f34) = true)
    (z0 : PySem.W.nsIn K mainGlobals "set" = some none)
    (z1 : PySem.W.nsIn K mainGlobals "sorted" = some none)
    (z2 : PySem.W.nsIn K mainGlobals "tuple" = some none)
    (z3 : PySem.W.nsIn K mainGlobals "len" = some none)
    (z4 : PySem.W.nsIn K mainGlobals "list" = some none)
    (z5 : PySem.W.nsIn K mainGlobals "zip" = some none)
    (z6 : PySem.W.nsIn K mainGlobals "range" = some none)
    (z7 : PySem.W.nsIn K mainGlobals "enumerate" = some none)
    (z8 : PySem.W.nsIn K mainGlobals "divmod" = some none)
    (z9 : PySem.W.nsIn K mainGlobals "reversed" = some none)
    (z10 : PySem.W.nsIn K mainGlobals "int" = some none)
    (z11 : PySem.W.nsIn K mainGlobals "isinstance" = some none)
    (z12 : PySem.W.nsIn K mainGlobals "bool" = some none)
    (z13 : PySem.W.nsIn K mainGlobals "str" = some none)
    {tt0 : Tok} (xc0 : PySem.W.nsIn K mainGlobals "SMALL" = some (some (.str z_abcdefghijklmnopqrstuvwxyz tt0)))
    {e0 : Addr} (xg0 : PySem.W.nsIn K mainGlobals "AXIOMS" = some (some (.ref e0))) (xw0 : WDct K w e0 t_axioms)
    : ∃ fd : FuncData, (∀ (s : Shared) (v : Value), BindsTo s fd ⟨[v], []⟩ [("script", v)]) ∧ ∀ base : Heap, K.In base → base.Ns mainGlobals mg → FnOk l.prog w K mg base CX0 203 fa fd ["script"] (conc K 1 A_law) := by
  obtain ⟨T, eT, bT⟩ := txt_mk X G yTerms ypTerms yhTerms yoTerms ysTerms ynTerms_heads ynTerms_tails ynTerms_names ynTerms_nearer ymTerms ykTerms a0 l0 c0 k0 a1 l1 c1 k1 a2 l2 c2 k2 a3 l3 c3 k3 n3 a4 l4 c4 k4 n4 a5 l5 c5 k5 n5 a6 l6 c6 k6 n6 a7 l7 c7 k7 n7 a8 l8 c8 k8 n8 a9 l9 c9 k9 n9 a10 l10 c10 k10 n10 a11 l11 c11 k11 n11 a12 l12 c12 k12 a13 l13 c13 k13 a14 l14 c14 k14 a15 l15 c15 k15 a16 l16 c16 k16 a17 l17 c17 k17 a18 l18 c18 k18 a19 l19 c19 k19 a20 l20 c20 k20 a21 l21 c21 k21 a22 l22 c22 k22 a23 l23 c23 k23 a24 l24 c24 k24 a25 l25 c25 k25 a26 l26 c26 k26 a27 l27 c27 k27 a28 l28 c28 k28 a29 l29 c29 k29 a30 l30 c30 k30 a31 l31 c31 k31 a32 l32 c32 k32 a33 l33 c33 k33 a34 l34 c34 k34 z0 z1 z2 z3 z4 z5 z6 z7 z8 z9 z10 z11 z12 z13 xc0 xg0 xw0
  cases hfa.symm.trans T.m_law
  exact ⟨T.fd_law, bT, fun base _ _ => lev_law T⟩
end AL
open PySem PySem.W PyProof.Rows
set_option maxHeartbeats 0 in
theorem PySem.Challenge.cw_conceptscript_k83_steps_of_proofs_holds : PySem.Challenge.rw_conceptscript_k83_steps_of_proofs.Holds := by
  w_on; o_law; k_head; (case hw => w_witness2)
  k_fill
  refine L2.walk_of (l := PySem.Challenge.rw_conceptscript_k83_steps_of_proofs) (n := 63) (k := 203) (x := "script") (CX := fun _ => L2.CX0) (sp := fun w => AL.conc _ 1 AL.A_law) rfl (by decide) rfl ⟨rfl, by decide, by decide⟩ (fun w h Y => PySem.W.kIn_of Y) ?F (fun _ _ a ns hl ho hS => AL.law_start ho hS fun Q q => ⟨ns, rfl, q⟩) (fun _ _ _ _ _ h => h)
  case F =>
    intro w mg fa h KX G hmg
    refine' AL.all_mk KX G hmg ?yTerms ?ypTerms ?yhTerms ?yoTerms ?ysTerms ?ynTerms_heads ?ynTerms_tails ?ynTerms_names ?ynTerms_nearer ?ymTerms ?ykTerms ?a0 ?l0 ?c0 ?k0 ?a1 ?l1 ?c1 ?k1 ?a2 ?l2 ?c2 ?k2 ?a3 ?l3 ?c3 ?k3 ?n3 ?a4 ?l4 ?c4 ?k4 ?n4 ?a5 ?l5 ?c5 ?k5 ?n5 ?a6 ?l6 ?c6 ?k6 ?n6 ?a7 ?l7 ?c7 ?k7 ?n7 ?a8 ?l8 ?c8 ?k8 ?n8 ?a9 ?l9 ?c9 ?k9 ?n9 ?a10 ?l10 ?c10 ?k10 ?n10 ?a11 ?l11 ?c11 ?k11 ?n11 ?a12 ?l12 ?c12 ?k12 ?a13 ?l13 ?c13 ?k13 ?a14 ?l14 ?c14 ?k14 ?a15 ?l15 ?c15 ?k15 ?a16 ?l16 ?c16 ?k16 ?a17 ?l17 ?c17 ?k17 ?a18 ?l18 ?c18 ?k18 ?a19 ?l19 ?c19 ?k19 ?a20 ?l20 ?c20 ?k20 ?a21 ?l21 ?c21 ?k21 ?a22 ?l22 ?c22 ?k22 ?a23 ?l23 ?c23 ?k23 ?a24 ?l24 ?c24 ?k24 ?a25 ?l25 ?c25 ?k25 ?a26 ?l26 ?c26 ?k26 ?a27 ?l27 ?c27 ?k27 ?a28 ?l28 ?c28 ?k28 ?a29 ?l29 ?c29 ?k29 ?a30 ?l30 ?c30 ?k30 ?a31 ?l31 ?c31 ?k31 ?a32 ?l32 ?c32 ?k32 ?a33 ?l33 ?c33 ?k33 ?a34 ?l34 ?c34 ?k34 ?z0 ?z1 ?z2 ?z3 ?z4 ?z5 ?z6 ?z7 ?z8 ?z9 ?z10 ?z11 ?z12 ?z13 ?xc0 ?xg0 ?xw0
    (case yTerms => k_is)
    (case ypTerms => k_is)
    (case yhTerms => k_is)
    (case yoTerms => k_is)
    (case ysTerms => k_is)
    (case ynTerms_heads => k_is)
    (case ynTerms_tails => k_is)
    (case ynTerms_names => k_is)
    (case ynTerms_nearer => k_is)
    (case ymTerms => k_is)
    (case ykTerms => k_is)
    (case a0 => k_is)
    (case l0 => k_is)
    (case c0 => k_is)
    (case k0 => k_is)
    (case a1 => k_is)
    (case l1 => k_is)
    (case c1 => k_is)
    (case k1 => k_is)
    (case a2 => k_is)
    (case l2 => k_is)
    (case c2 => k_is)
    (case k2 => k_is)
    (case a3 => k_is)
    (case l3 => k_is)
    (case c3 => k_is)
    (case k3 => k_is)
    (case n3 => k_is)
    (case a4 => k_is)
    (case l4 => k_is)
    (case c4 => k_is)
    (case k4 => k_is)
    (case n4 => k_is)
    (case a5 => k_is)
    (case l5 => k_is)
    (case c5 => k_is)
    (case k5 => k_is)
    (case n5 => k_is)
    (case a6 => k_is)
    (case l6 => k_is)
    (case c6 => k_is)
    (case k6 => k_is)
    (case n6 => k_is)
    (case a7 => k_is)
    (case l7 => k_is)
    (case c7 => k_is)
    (case k7 => k_is)
    (case n7 => k_is)
    (case a8 => k_is)
    (case l8 => k_is)
    (case c8 => k_is)
    (case k8 => k_is)
    (case n8 => k_is)
    (case a9 => k_is)
    (case l9 => k_is)
    (case c9 => k_is)
    (case k9 => k_is)
    (case n9 => k_is)
    (case a10 => k_is)
    (case l10 => k_is)
    (case c10 => k_is)
    (case k10 => k_is)
    (case n10 => k_is)
    (case a11 => k_is)
    (case l11 => k_is)
    (case c11 => k_is)
    (case k11 => k_is)
    (case n11 => k_is)
    (case a12 => k_is)
    (case l12 => k_is)
    (case c12 => k_is)
    (case k12 => k_is)
    (case a13 => k_is)
    (case l13 => k_is)
    (case c13 => k_is)
    (case k13 => k_is)
    (case a14 => k_is)
    (case l14 => k_is)
    (case c14 => k_is)
    (case k14 => k_is)
    (case a15 => k_is)
    (case l15 => k_is)
    (case c15 => k_is)
    (case k15 => k_is)
    (case a16 => k_is)
    (case l16 => k_is)
    (case c16 => k_is)
    (case k16 => k_is)
    (case a17 => k_is)
    (case l17 => k_is)
    (case c17 => k_is)
    (case k17 => k_is)
    (case a18 => k_is)
    (case l18 => k_is)
    (case c18 => k_is)
    (case k18 => k_is)
    (case a19 => k_is)
    (case l19 => k_is)
    (case c19 => k_is)
    (case k19 => k_is)
    (case a20 => k_is)
    (case l20 => k_is)
    (case c20 => k_is)
    (case k20 => k_is)
    (case a21 => k_is)
    (case l21 => k_is)
    (case c21 => k_is)
    (case k21 => k_is)
    (case a22 => k_is)
    (case l22 => k_is)
    (case c22 => k_is)
    (case k22 => k_is)
    (case a23 => k_is)
    (case l23 => k_is)
    (case c23 => k_is)
    (case k23 => k_is)
    (case a24 => k_is)
    (case l24 => k_is)
    (case c24 => k_is)
    (case k24 => k_is)
    (case a25 => k_is)
    (case l25 => k_is)
    (case c25 => k_is)
    (case k25 => k_is)
    (case a26 => k_is)
    (case l26 => k_is)
    (case c26 => k_is)
    (case k26 => k_is)
    (case a27 => k_is)
    (case l27 => k_is)
    (case c27 => k_is)
    (case k27 => k_is)
    (case a28 => k_is)
    (case l28 => k_is)
    (case c28 => k_is)
    (case k28 => k_is)
    (case a29 => k_is)
    (case l29 => k_is)
    (case c29 => k_is)
    (case k29 => k_is)
    (case a30 => k_is)
    (case l30 => k_is)
    (case c30 => k_is)
    (case k30 => k_is)
    (case a31 => k_is)
    (case l31 => k_is)
    (case c31 => k_is)
    (case k31 => k_is)
    (case a32 => k_is)
    (case l32 => k_is)
    (case c32 => k_is)
    (case k32 => k_is)
    (case a33 => k_is)
    (case l33 => k_is)
    (case c33 => k_is)
    (case k33 => k_is)
    (case a34 => k_is)
    (case l34 => k_is)
    (case c34 => k_is)
    (case k34 => k_is)
    (case z0 => k_is)
    (case z1 => k_is)
    (case z2 => k_is)
    (case z3 => k_is)
    (case z4 => k_is)
    (case z5 => k_is)
    (case z6 => k_is)
    (case z7 => k_is)
    (case z8 => k_is)
    (case z9 => k_is)
    (case z10 => k_is)
    (case z11 => k_is)
    (case z12 => k_is)
    (case z13 => k_is)
    (case xc0 => k_is)
    (case xg0 => k_is)
    (case xw0 => refine' AL.WDct.of ?xl0 ?xe0 ?xlow0; (case xl0 => k_is); (case xlow0 => decide); (case xe0 => repeat' (first | exact AL.EntsOk.nil | refine' AL.EntsOk.cons ?_ ?_ ?_ ?_ | exact AL.KW.int _ _ | exact AL.KW.str _ _ | exact AL.RepW.int | exact AL.RepW.str | (refine' AL.RepW.tup ?_ ?_ ?_ <;> try k_is) | exact AL.PW.nil | refine' AL.PW.cons ?_ ?_ | decide | rfl)))
