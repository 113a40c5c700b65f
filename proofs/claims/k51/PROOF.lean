import PyProof.Rows.All
import Wide.All
import OpenK.AllK
import Wide.FinOn
import HandS.ForMost
import HandS.Iter
import HandS.Zip0
import HandS.Zip
import PyProof.Draws
import PyProof.StrOps2
import PyProof.ReprRoads
import PyProof.ReprLen
import PyProof.AutoSeq1
import HandS.FStrTup
import PyProof.StrLawsRepr
import HandS.IsInst
import HandS.TupAny
import HandS.SortInts
import HandS.SetFor
import PyProof.Rows.DictTally
import HandS.FStr
import HandS.WordsDict
import HandS.SetBool
import KE.KDictSum
import PyProof.TupleOfGen
import HandS.Style
import HandS.Flow
import HandS.Exc
import HandS.WordsExc
import HandS.Deep
import HandS.SetKeys
import HandS.Set
import HandS.Strs
import HandS.List
import HandS.More
import PyProof.Rows.SortShellAny
import PyProof.Rows.SortStr
import PySem.Challenge.RW_conceptscript_k51_what_holds_in_worlds
set_option Elab.async false
set_option linter.all false
set_option maxRecDepth 100000

namespace AS
open PySem PySem.Spec PyProof.Rows L2
def tx (e : Int × Value) : Str := match e.2 with
  | .str k _ => k
  | _ => Str.empty
def IsTx (w : World) (e : Int × Value) : Prop := ∃ u, e = (hashStr w (tx e), .str (tx e) u)
structure Tab (w : World) (es : Array (Int × Value)) (t : SetTable) (ks : List Str) : Prop where
  all : ∀ e ∈ es.toList, IsTx w e
  mem : (es.toList.map tx).Perm ks
  nd : ks.Nodup
  few : es.size < scanBound
  fit : t.fits es.size = true
  ris : Ris t.place.toList
  led : w.params.followText "set-order" = true ∨ t.led = true
def SetS (w : World) (h : Heap) (a : Addr) (ks : List Str) : Prop := ∃ o es ep t, h.get? a = some o ∧ o.ExactSet ∧ o.data = .set es ep t ∧ Tab w es t ks
section
variable {P : Program} {w : World} {h h' : Heap} {a : Addr} {ks : List Str} {es : Array (Int × Value)} {t : SetTable}
theorem SetS.keep (R : SetS w h a ks) (k : ∀ o, h.get? a = some o → h'.get? a = some o) : SetS w h' a ks := by
  obtain ⟨o, es, ep, t, ho, z⟩ := R
  exact ⟨o, es, ep, t, k o ho, z⟩
theorem Tab.size (T : Tab w es t ks) : es.size = ks.length := by
  have z := T.mem.length_eq
  rw [List.length_map, Array.length_toList] at z
  exact z
theorem Tab.els (T : Tab w es t ks) : ElemsOf (PySem.strKind P w) es.toList := fun e he => by
  obtain ⟨u, z⟩ := T.all e he
  rw [z]
  exact ⟨⟨tx e, strKind_is _ _ _ _, rfl⟩, rfl⟩
theorem is_tx {e : Int × Value} (g : IsTx w e) (k : Str) : (PySem.strKind P w).is k e.2 = decide (tx e = k) := by
  obtain ⟨u, z⟩ := g
  rw [z, KeyKind.is_eq_decide (strKind_is P w (tx e) u) k]
  show decide (k = tx e) = decide (tx e = k)
  exact decide_eq_decide.mpr eq_comm
end
section
variable {P : Program} {w : World} {A : Around} {E : Value → Shared → Prop} {s : Shared} {a : Addr} {ks : List Str}
theorem tail {g : Bool → Sem Unit} (hg : ∀ (b : Bool) (z : Shared) (q : Unit → Shared → Prop), q () z → wpAny (model P w) A (g b) q E z) {o : Obj} {es es1 : Array (Int × Value)} {ep : Nat} {t t2 : SetTable}
    (ho : s.heap.get? a = some o) (hex : o.ExactSet) (hd : o.data = .set es ep t) (T : Tab w es1 t2 ks) {dm : Bool} {R : Option Bool → Shared → Prop}
    (fin : ∀ h2, Heap.SameBut a s.heap h2 → SetS w h2 a ks → R (some true) { s with heap := h2 }) :
    wpAny (model P w) A (do storeSet a es1 t2; if (!dm && t2.tooFull) = true then (do g (relayAll t2 es1 (SetTable.grown es1.size)).2.2; storeSet a (relayAll t2 es1 (SetTable.grown es1.size)).1 (relayAll t2 es1 (SetTable.grown es1.size)).2.1; pure (some true)) else pure (some true)) R E s := by
  have n1 := store_at (es' := es1) (t' := t2) ho hd
  have b1 := Heap.SameBut.update s.heap a (Obj.putSet es1 t2)
  refine wpAny_bind (wpAny_storeSet_of ho hd ?_ (fits_of_scanBound T.few))
  by_cases c : (!dm && t2.tooFull) = true
  · rw [if_pos c]
    have p1 := relayAll_perm t2 es1 (SetTable.grown es1.size)
    have p2 := relayAll_fits t2 es1 (SetTable.grown es1.size)
    have p3 := relayAll_ris t2 es1 (SetTable.grown es1.size)
    have p4 := relayAll_led t2 es1 (SetTable.grown es1.size)
    revert p1 p2 p3 p4
    generalize relayAll t2 es1 (SetTable.grown es1.size) = Z
    obtain ⟨e2, t3, gv⟩ := Z
    intro p1 p2 p3 p4
    dsimp only at p1 p2 p3 p4 ⊢
    have same : e2.size = es1.size := by
      have z := p1.length_eq
      rw [Array.length_toList, Array.length_toList] at z
      exact z
    have T2 : Tab w e2 t3 ks := ⟨fun e he => T.all e (p1.mem_iff.mp he), (p1.map tx).trans T.mem, T.nd, by rw [same]; exact T.few, p2, p3, T.led.imp (fun z => z) fun z => by rw [p4]; exact z⟩
    refine wpAny_bind (hg _ _ _ (wpAny_bind (wpAny_storeSet_of n1 rfl ?_ (fits_of_scanBound T2.few))))
    exact wpAny_pure (fin _ (b1.trans (Heap.SameBut.update _ a _)) ⟨_, e2, _, t3, store_at (es' := e2) (t' := t3) n1 rfl, hex, rfl, T2⟩)
  · rw [if_neg c]
    exact wpAny_pure (fin _ b1 ⟨_, es1, _, t2, n1, hex, rfl, T⟩)
theorem put {k : Str} {u : Tok} {Q : Bool → Shared → Prop} (R : SetS w s.heap a ks) (room : ks.length + 1 < scanBound) (hQ : ∀ b h2, Heap.SameBut a s.heap h2 → SetS w h2 a (if k ∈ ks then ks else k :: ks) → Q b { s with heap := h2 }) :
    wpAny (model P w) A (setAddHashed a (.str k u) (hashStr w k)) Q E s := by
  obtain ⟨o, es, ep, t, ho, hex, hd, T⟩ := R
  have scn : (Value.str k u).scannable = true := rfl
  have els := T.els (P := P)
  unfold setAddHashed setAddHashedIn
  refine wpAny_holding (wpAny_bind (wpAny_setState_of ho hd T.fit ?_))
  dsimp only
  rw [byScan_of scn T.few els]
  simp only [↓reduceIte]
  unfold setAddByScan
  refine wpAny_bind (wpAny_bind (wpAny_rule (wpAny_bind (wpAny_setScan_of (strKind_is P w k u) ho hd T.fit els ?_))))
  cases hf : List.findIdx? (fun e => (PySem.strKind P w).is k e.2) es.toList with
  | some j =>
    dsimp only
    obtain ⟨hj, pj, _⟩ := List.findIdx?_eq_some_iff_getElem.mp hf
    rw [is_tx (T.all _ (List.getElem_mem hj)), decide_eq_true_eq] at pj
    have inn : k ∈ ks := T.mem.mem_iff.mp (List.mem_map.mpr ⟨_, List.getElem_mem hj, pj⟩)
    have q := fun b => hQ b s.heap (Heap.SameBut.refl a s.heap)
    rw [if_pos inn] at q
    exact wpAny_pure (wpAny_pure (q _ ⟨o, es, ep, t, ho, hex, hd, T⟩))
  | none =>
    dsimp only
    have out : k ∉ ks := fun z => by
      obtain ⟨e, he, q⟩ := List.mem_map.mp (T.mem.mem_iff.mpr z)
      have c := List.findIdx?_eq_none_iff.mp hf e he
      rw [is_tx (T.all e he), decide_eq_false_iff_not] at c
      exact c q
    have q := hQ
    rw [if_neg out] at q
    have way : ∀ (b : Bool) {z : Shared} {r : Unit → Shared → Prop}, r () z → wpAny (model P w) A (match b with | true => rule "set.scan.the-table-gave-way" | false => pure ()) r E z := fun b z r y => by
      cases b
      · exact wpAny_pure y
      · exact wpAny_rule y
    have l1 := layNew_perm t es (hashStr w k) (.str k u)
    have l2 := layNew_fits t es (hashStr w k) (.str k u)
    have l3 := layNew_ris t es (hashStr w k) (.str k u) T.ris
    have l4 := layNew_led t es (hashStr w k) (.str k u)
    revert l1 l2 l3 l4
    generalize layNew t es (hashStr w k) (.str k u) = Z
    obtain ⟨e1, t1, dm, gv⟩ := Z
    intro l1 l2 l3 l4
    dsimp only at l1 l2 l3 l4 ⊢
    rw [Array.toList_push] at l1
    have l5 : e1.toList.Perm ((hashStr w k, .str k u) :: es.toList) := l1.trans (List.perm_append_singleton _ _)
    have l6 : (e1.toList.map tx).Perm (k :: ks) := (l5.map tx).trans (List.Perm.cons k T.mem)
    have T1 : Tab w e1 t1 (k :: ks) := by
      refine ⟨fun e he => ?_, l6, List.nodup_cons.mpr ⟨out, T.nd⟩, ?_, l2, l3, T.led.imp (fun z => z) fun z => by rw [l4]; exact z⟩
      · rcases List.mem_cons.mp (l5.mem_iff.mp he) with z | z
        · rw [z]
          exact ⟨u, rfl⟩
        · exact T.all e z
      · have z := l6.length_eq
        rw [List.length_map, Array.length_toList, List.length_cons] at z
        rw [z]
        exact room
    refine wpAny_bind (way _ ?_)
    rw [hashByValue_scannable 8 scn]
    have done : ∀ h2, Heap.SameBut a s.heap h2 → SetS w h2 a (k :: ks) → wpAny (model P w) A (pure true) Q E { s with heap := h2 } := fun h2 z1 z2 => wpAny_pure (q true h2 z1 z2)
    have T0 : Tab w e1 { t1 with plain := false } (k :: ks) := ⟨T1.all, T1.mem, T1.nd, T1.few, SetTable.fits_plain_off T1.fit, T1.ris, T1.led⟩
    generalize plainKind (Value.str k u) = pb
    have go : ∀ (b : Bool) (z : Shared) (r : Unit → Shared → Prop), r () z → wpAny (model P w) A (match b with | true => rule "set.scan.the-table-gave-way" | false => pure ()) r E z := fun b z r y => way b y
    split
    · refine wpAny_bind (wpAny_pure ?_)
      cases pb with
      | true =>
        simp only [↓reduceIte]
        exact tail go ho hex hd T1 done
      | false =>
        simp only [↓reduceIte, Bool.false_eq_true]
        exact tail go ho hex hd T0 done
    · refine wpAny_bind (wpAny_pure ?_)
      simp only [↓reduceIte]
      exact tail go ho hex hd T1 done
end
section
variable {P : Program} {w : World} {A : Around} {R : Result → Shared → Prop} {I : Addr} {fp wr : List Addr} {G : Array GenState → Array GenState → Prop} {n : Nat} {Pv : Nat → Value → Prop} {St : Nat → Shared → Prop}
structure Met (xs : List Str) (i : Nat) (ks : List Str) : Prop where
  sub : ∀ k ∈ ks, k ∈ xs
  has : ∀ k ∈ xs.take i, k ∈ ks
  len : ks.length ≤ i
theorem Met.step {xs ks : List Str} {i : Nat} {k : Str} (m : Met xs i ks) (hk : xs[i]? = some k) : Met xs (i + 1) (if k ∈ ks then ks else k :: ks) := by
  have tk : ∀ y, y ∈ xs.take (i + 1) → y ∈ xs.take i ∨ y = k := fun y hy => by
    rw [List.take_add_one, hk] at hy
    rcases List.mem_append.mp hy with z | z
    · exact .inl z
    · exact .inr (List.mem_singleton.mp z)
  by_cases c : k ∈ ks
  · rw [if_pos c]
    refine ⟨m.sub, fun y hy => ?_, Nat.le_succ_of_le m.len⟩
    rcases tk y hy with z | z
    · exact m.has y z
    · rw [z]; exact c
  · rw [if_neg c]
    refine ⟨fun y hy => ?_, fun y hy => ?_, Nat.succ_le_succ m.len⟩
    · rcases List.mem_cons.mp hy with z | z
      · rw [z]; exact List.mem_of_getElem? hk
      · exact m.sub y z
    · rcases tk y hy with z | z
      · exact List.mem_cons_of_mem _ (m.has y z)
      · rw [z]; exact List.mem_cons_self
end
section
variable {P : Program} {w : World} {A : Around} {E : Value → Shared → Prop} {s : Shared}
def bare (w : World) : Obj := { cls := .type "set", dict := none, data := .set #[] 0 (.fresh 0 0 (!w.params.followText "set-order")) }
theorem made (v : Value) {q : Value → Shared → Prop} (h : q (.ref s.heap.objs.size) { s with heap := s.heap.push (bare w) }) : codeAny (model P w) A (.call (.builtin "set.__new__") ⟨[.type "set", v], []⟩) (wants q E) s := by
  refine codeAny_of_tree ?_
  refine wpAny_bind (wpAny_of_eq (F.newCall_set_1 v) (wpAny_pure ⟨plainId_quiet F.plain_set_new _, codeAny_builtin F.entry_set_new ?_⟩))
  rw [Around.under_plainId F.plain_set_new _]
  have hsub := sub_set_self
  unfold Builtin.«set.__new__» Builtin.Frozenset.newClass
  revert h
  obtain ⟨hp, g, d, tk, os⟩ := s
  intro h
  dsimp only
  wp_walk
  refine wpAny_askSetting (wpAny_pure ?_)
  dsimp only
  simp only [newObj]
  exact wpAny_bind (wpAny_alloc (wpAny_pure (wpAny_pure h)))
end
end AS

namespace AS
open PySem PySem.Spec PyProof.Rows L2
section
variable {P : Program} {w : World} {A : Around} {E : Value → Shared → Prop} {s : Shared} {a : Addr} {ks : List Str}
end
end AS
namespace L2
open PySem PySem.Spec PyProof.Rows
def SetTx (w : World) (a : Addr) (ks : List Str) : HO := .ext fun h => AS.SetS w h a ks
section
variable {X : Cx}
end
end L2

namespace AS
open PySem PySem.Spec PyProof.Rows L2
section
variable {P : Program} {w : World} {A : Around} {E : Value → Shared → Prop} {s : Shared} {a : Addr} {ks : List Str}
end
end AS
namespace L2
open PySem PySem.Spec PyProof.Rows
section
variable {X : Cx} {o e : Expr} {es : List Expr} {to : TE} {t : TA} {apos cpos : Pos}
end
end L2

namespace L2
open PySem PySem.Spec PyProof.Rows
section
variable {X : Cx}
end
end L2

namespace L2
open PySem PySem.Spec PyProof.Rows
section
variable {prog : Program} {w : World} {A : Around} {E : Value → Shared → Prop} {s : Shared} {r d : Addr} {n : Nat} {P : Nat → Value → Prop} {OK : Heap → Prop}
end
section
variable {X : Cx} {e : Expr} {te : TE} {p apos cpos pos : Pos}
end
end L2

set_option maxHeartbeats 2000000
namespace L2
open PySem PySem.Spec PyProof.Rows PpSet
abbrev bareSet (w : World) : Obj := { cls := .type "set", dict := none, data := .set #[] 0 (.fresh 0 0 (!w.params.followText "set-order")) }
structure Members (P : Program) (w : World) (Z : Type) where
  ob : Addr → Z → HO
  nil : Z
  pick : V → Z → Option Z
  born : ∀ (H : Hp) (h : Heap), ObjOk P w H (h.push (bareSet w)) h.objs.size (ob h.objs.size nil)
  more : ∀ (Y : Cx), Y.prog = P → Y.w = w → ∀ (pins : List (Addr × Obj)) (sh : Shared) (τ : St) (H : Hp) (ER : Value → Shared → Prop) (D : Addr) (z z' : Z) (y : V) (v : Value) (R : Value → Shared → Prop), Inv Y pins τ H sh → H D = some (ob D z) → pick y z = some z' → RelV y v →
    (∀ sh', Inv Y pins τ (upd H D (ob D z')) sh' → R .none sh') → wpAny (model Y.prog Y.w) Y.A (call (.builtin "set.add") [.ref D, v]) R ER sh
section
variable {X : Cx} {Z : Type}
variable {elt tg iter : Expr} {ifs : List Expr} {scope : Scope} {own : List (PySem.Str × Nat)} {pos : Pos} {wi : TI} {g : TG} {tt : TT} {te : TE}
end
end L2

namespace AS
open PySem PySem.Spec PyProof.Rows L2
section
variable {P : Program} {w : World} {A : Around} {E : Value → Shared → Prop} {s : Shared}
set_option maxHeartbeats 3200000 in
theorem call_setI {l : Addr} {its : Array Value} {xs : List Int} {Q : Value → Shared → Prop} (hh : A.handled = none) (hl : s.heap.IsList l its) (hi : IntsAre its.toList xs) (few : xs.length + 1 < scanBound)
    (fin : ∀ (h2 : Heap) (tk : Nat) (c : Nat), c ≤ xs.length → SetR w h2 s.heap.objs.size (fun j => decide (j ∈ xs)) c → (∀ b o, b < s.heap.objs.size → s.heap.get? b = some o → h2.get? b = some o) → Q (.ref s.heap.objs.size) { s with heap := h2, toks := tk }) :
    wpAny (model P w) A (call (.type "set") [.ref l]) Q E s := by
  have f1 := F.called_set.made
  have f2 := F.called_set.sub
  have f3 := F.called_set.notType
  have f4 := F.called_set.canCreate
  have f5 := F.typeCall_set_1 (.ref l)
  obtain ⟨c, tl, f6⟩ := F.called_set.mro
  refine wpAny_call (codeAny_of_tree (wpAny_pure ⟨Code.quiet_builtin _ (by decide +kernel), codeAny_builtin F.entry_type_call ?_⟩))
  rw [Around.under_plain (weight_type_call_type "set" [.ref l] []) rfl]
  repeat (any_goals (first | assumption | wp_step))
  refine codeAny_mono (made (.ref l) (E := E) (q := fun x z => x = .ref s.heap.objs.size ∧ z = { s with heap := s.heap.push (bare w) }) ⟨rfl, rfl⟩) fun r z hr => ?_
  match r, hr with
  | .error e, hr => exact hr
  | .ok (.ret x), ⟨e1, e2⟩ =>
    subst e1 e2
    have at0 : (s.heap.push (bare w)).get? s.heap.objs.size = some (bare w) := Heap.get?_push_size _ rfl
    have ty : Shared.TypeIs { s with heap := s.heap.push (bare w) } (.ref s.heap.objs.size) "set" := ⟨_, at0, rfl⟩
    have g1 := F.called_set.init.lookup
    have g2 := F.called_set.init.bind (.ref s.heap.objs.size)
    repeat (any_goals (first | assumption | wp_step))
    refine codeAny_mono (codeAny_call_builtin (R := wants (fun r y => r = .none ∧ ∃ h2 tk c, y = { s with heap := h2, toks := tk } ∧ c ≤ xs.length ∧ SetR w h2 s.heap.objs.size (fun j => decide (j ∈ xs)) c ∧ ∀ b o, b < s.heap.objs.size → s.heap.get? b = some o → h2.get? b = some o) E)
      F.called_set.init.plain F.entry_set_init (check_set_init_1 ty ?_)) fun r y hr => ?_
    · obtain ⟨ol, hol, hcl, nl, hdl⟩ := hl
      obtain ⟨k1, k2, k3, k4⟩ := ol
      dsimp only at hcl hdl
      subst hcl hdl
      have sl : (s.heap.push (bare w)).IsList l its := ⟨_, Heap.get?_push_of_some _ hol, rfl, nl, rfl⟩
      have hol2 := Heap.get?_push_of_some (bare w) hol
      have t1 := F.sub_list_set
      have t2 := F.sub_list_frozenset
      have t3 : (Value.type "list" == Value.type "dict") = false := by decide
      unfold Builtin.«set.__init__» noKeywords Builtin.Frozenset.updateFrom
      generalize hPI : pyIter = PI
      wp_walk
      subst hPI
      refine wpAny_pyIter_list sl ?_
      have lt := Heap.lt_size hol
      have sz : (s.heap.push (bare w)).objs.size = s.heap.objs.size + 1 := Heap.size_push _ _
      have n1 : l ≠ (s.heap.push (bare w)).objs.size := by rw [sz]; exact Nat.ne_of_lt (Nat.lt_succ_of_lt lt)
      have n2 : s.heap.objs.size ∉ [(s.heap.push (bare w)).objs.size, l] := fun z => by
        rcases List.mem_cons.mp z with z | z
        · rw [sz] at z; exact absurd z (Nat.ne_of_lt (Nat.lt_succ_self _))
        · exact absurd (List.mem_singleton.mp z) (Nat.ne_of_gt lt)
      have len : its.size = xs.length := by rw [← Array.length_toList]; exact IntsAre.length hi
      have calm : A.in1.in1.in1.handled = none := by
        show A.handled = none
        exact hh
      refine wpAny_bind (wpAny_runValue ?_)
      refine set_update_ints ((Walks.list calm _ l n1 its).toS) s.heap.objs.size n2 xs len few (fun i v e => by
        obtain ⟨k, t, h1, h2⟩ := IntsAre.at hi i v (by rw [Array.getElem?_toList]; exact e)
        exact ⟨k, t, h2, h1⟩) (its.size - 0) 0 _ rfl (Nat.zero_le _) ⟨⟨_, Heap.get?_push_size _ rfl, rfl, rfl⟩, sl.push _⟩ ?_ ?_
      · have R0 := (setR_fresh (h := s.heap) w)
        have e0 : (fun j : Int => decide (j ∈ xs.take 0)) = fun _ => false := funext fun j => by rw [List.take_zero]; exact decide_eq_false List.not_mem_nil
        rw [e0]
        exact ⟨0, Nat.le_refl _, SetR.at R0 fun o e => Heap.get?_push_of_some _ e⟩
      · intro y c mv m hS
        rw [len] at m
        have c1 : y.gens = s.gens := mv.gens
        have c2 : y.drawn = s.drawn := mv.drawn
        have c3 : y.os = s.os := mv.os
        have old : ∀ b o, b < s.heap.objs.size → s.heap.get? b = some o → y.heap.get? b = some o := fun b o lb e => mv.heap b o (fun z => by
          rcases List.mem_cons.mp z with z | z
          · exact absurd z (Nat.ne_of_lt lb)
          · have z := List.mem_singleton.mp z
            rw [sz] at z
            exact absurd z (Nat.ne_of_lt (Nat.lt_succ_of_lt lb))) (Heap.get?_push_of_some _ (Heap.get?_push_of_some _ e))
        refine wpAny_pure (wpAny_pure ⟨rfl, y.heap, y.toks, c, ?_, m, hS, old⟩)
        obtain ⟨y1, y2, y3, y4, y5⟩ := y
        dsimp only at c1 c2 c3 ⊢
        rw [c1, c2, c3]
    · match r, hr with
      | .error e, hr => exact hr
      | .ok (.ret x), ⟨e1, h2, tk, ks, e2, k1, k2, k3⟩ =>
        subst e1 e2
        repeat (any_goals (first | assumption | wp_step))
        exact fin h2 tk ks k1 k2 k3
end
end AS
namespace L2
open PySem PySem.Spec PyProof.Rows
def rSetI (K : PySem.W.Frag) (w : World) : List V → Hp → VK → Prop := fun xs H Q => ∃ (l : Addr) (ns : List Int), xs = [V.ref l] ∧ SqL K H l (ns.map V.int) ∧ ns.length + 1 < scanBound ∧
  ∀ (a : Addr) (c : Nat), H a = none → c ≤ ns.length → Q (.ref a) (upd H a (SetO w a (fun j => decide (j ∈ ns)) c))
theorem cr_setI {X : Cx} (hc : X.calm = true) : CallR X (.type "set") (rSetI X.K X.w) := by
  intro pins s σ H xs us Q I r h
  obtain ⟨l, ns, rfl, hl, few, q⟩ := h
  rw [Vals.ref1 r]
  obtain ⟨its, rv, pl, hz⟩ := I.list hl
  refine AS.call_setI (P := X.prog) (w := X.w) (I.ok.hd hc) pl.isList (by simpa using ints_vals rv) few fun h2 tk c hcl R k => ?_
  exact ⟨.ref s.heap.objs.size, upd H s.heap.objs.size (SetO X.w s.heap.objs.size (fun j => decide (j ∈ ns)) c), I.laid (t' := tk) (fun b o e => k b o (Heap.lt_size e) e) (Nat.le_refl _) (setO_new R), rfl, q _ c (I.hok.fresh (Nat.le_refl _)) hcl⟩
end L2

set_option maxHeartbeats 2000000
namespace HT
open PySem PySem.Spec PyProof.Rows
section
variable {prog : Program} {w : World} {A : Around} {E : Value → Shared → Prop} {s : Shared}
end
end HT
namespace L2
open PySem PySem.Spec PyProof.Rows
end L2

namespace EN
open PySem PySem.Spec PyProof.Rows L2
def reps (z : Str) (n : Nat) : Str := ⟨(List.replicate n z.cps).foldl (· ++ ·) #[]⟩
theorem fits {a b : Nat} (h1 : a ≤ 1000) (h2 : b ≤ 1000) : a * b ≤ 1000000 := Nat.mul_le_mul h1 h2
end EN

namespace GU
open PySem PySem.Spec PyProof.Rows L2
abbrev NoG (A : Around) : Prop := A.guards = some []
structure FnG (P : Program) (w : World) (K : PySem.W.Frag) (mg : Str → Option Value) (base : Heap) (k : Nat) (f : Addr) (fd : FuncData) (ps : List Str) (sp : Sp) : Prop where
  arity : ∀ xs H Q E, sp xs H Q E → xs.length = ps.length
  go : ∀ (A : Around) (out : List Env) (sh : Shared) (H : Hp) (ar : Args) (us : List Value) (xs : List V) (Q : VK) (E : XK), Room k A → NoG A → Env0 P w K mg base A out sh H → BindsTo sh fd ar (ps.zip us) → Vals xs us → sp xs H Q E →
    codeAny (model P w) A (.call (.ref f) ar) (CR CX0 out P w H sh Q E) sh
section
variable {P : Program} {w : World} {K : PySem.W.Frag} {mg : Str → Option Value} {base : Heap} {j k : Nat} {f : Addr} {fd : FuncData} {ps : List Str} {sp : Sp}
theorem FnG.of (F : FnOk P w K mg base CX0 k f fd ps sp) : FnG P w K mg base k f fd ps sp := ⟨F.len, fun A out sh H ar us xs Q E hr _ e b r z => F.run A out sh H ar us xs Q E hr e b r z⟩
theorem FnG.up (F : FnG P w K mg base j f fd ps sp) (h : j ≤ k) : FnG P w K mg base k f fd ps sp := ⟨F.arity, fun A out sh H ar us xs Q E hr => F.go A out sh H ar us xs Q E (hr.mono h)⟩
end
section
variable {X : Cx} {k : Nat} {f : Addr} {fd : FuncData} {ps : List Str} {sp : Sp} {x : Str} {p pos : Pos} {e : Expr} {es : List Expr} {t : TA}
end
end GU

namespace AL
open PySem PySem.Spec L2

inductive D where
  | non | bl (b : Bool) | int (i : Int) | str (x : Str) | tup (xs : List D) | obj (a : Addr) | fl (xs : List D)
inductive MO where
  | lst (xs : List D)
  | dic (kvs : List (Key × D))
  | raw (o : HO)
  | dif (od : Obj) (ws : List (Key × V)) (kvs : List (Key × D))
abbrev Sto := Addr → Option MO
def up (M : Sto) (a : Addr) (o : MO) : Sto := fun b => if b = a then some o else M b
theorem up_same {M : Sto} {a : Addr} {o : MO} : up M a o a = some o := by unfold up; rw [if_pos rfl]
theorem up_ne {M : Sto} {a b : Addr} {o : MO} (h : b ≠ a) : up M a o b = M b := by unfold up; rw [if_neg h]
def lstAt (M : Sto) (p : Addr) (k : List D → Prop) : Prop := match M p with
  | some (.lst ds) => k ds
  | _ => False
def dicAt (M : Sto) (p : Addr) (k : List (Key × D) → Prop) : Prop := match M p with
  | some (.dic ds) => k ds
  | _ => False
def optAt {α : Type} (o : Option α) (k : α → Prop) : Prop := match o with
  | some x => k x
  | none => False
theorem lstAt_ex {M : Sto} {p : Addr} {k : List D → Prop} (h : lstAt M p k) : ∃ ds, M p = some (.lst ds) ∧ k ds := by
  unfold lstAt at h
  split at h
  · exact ⟨_, by assumption, h⟩
  · exact h.elim
theorem optAt_ex {α : Type} {o : Option α} {k : α → Prop} (h : optAt o k) : ∃ x, o = some x ∧ k x := by
  cases o with
  | none => exact h.elim
  | some x => exact ⟨x, rfl, h⟩
def New (mo : MO) (M : Sto) (Q : D → Sto → Prop) : Prop := ∀ p, M p = none → Q (.obj p) (up M p mo)
def SqF (K : PySem.W.Frag) (H : Hp) (a : Addr) (xs : List V) : Prop :=
  (∃ o, H a = some (.frz o (.lst xs))) ∨
    ∃ (o : Obj) (its : Array Value) (n : Nat), K.lookup a = some o ∧ o.cls = .type "list" ∧ o.dict = none ∧ o.data = .seq its n ∧ its.size ≤ sizeLine ∧ Vals xs its.toList
theorem SqF.l {K : PySem.W.Frag} {H : Hp} {a : Addr} {xs : List V} (h : SqF K H a xs) : SqL K H a xs := by
  rcases h with ⟨o, h⟩ | h
  · exact .inl (.inr ⟨o, h⟩)
  · exact .inr h
def Fz : HO → Prop
  | .tup _ => True
  | .frz _ (.dK _) => False
  | .frz _ _ => True
  | _ => False
def Kp (H H' : Hp) : Prop := ∀ a o, Fz o → H a = some o → H' a = some o
theorem Kp.sqT {K : PySem.W.Frag} {H H' : Hp} (k : Kp H H') {a : Addr} {vs : List V} (e : SqT K H a vs) : SqT K H' a vs := by
  rcases e with (e | ⟨u, e⟩) | e
  · exact .inl (.inl (k a _ trivial e))
  · exact .inl (.inr ⟨u, k a _ trivial e⟩)
  · exact .inr e
theorem Kp.sqF {K : PySem.W.Frag} {H H' : Hp} (k : Kp H H') {a : Addr} {vs : List V} (e : SqF K H a vs) : SqF K H' a vs := by
  rcases e with ⟨u, e⟩ | e
  · exact .inl ⟨u, k a _ trivial e⟩
  · exact .inr e
mutual
def Rep (K : PySem.W.Frag) (H : Hp) : D → V → Prop
  | .non, v => v = .non
  | .bl b, v => v = .bl b
  | .int i, v => v = .int i
  | .str x, v => v = .str x
  | .tup ds, v => ∃ a vs, v = .ref a ∧ SqT K H a vs ∧ RepL K H ds vs
  | .obj a, v => v = .ref a
  | .fl ds, v => ∃ a vs, v = .ref a ∧ SqF K H a vs ∧ RepL K H ds vs
def RepL (K : PySem.W.Frag) (H : Hp) : List D → List V → Prop
  | [], vs => vs = []
  | d :: ds, vs => ∃ v r, vs = v :: r ∧ Rep K H d v ∧ RepL K H ds r
end
mutual
theorem Rep.mono {K : PySem.W.Frag} {H H' : Hp} (hT : Kp H H') : ∀ (d : D) (v : V), Rep K H d v → Rep K H' d v
  | .non, _, h => h
  | .bl _, _, h => h
  | .int _, _, h => h
  | .str _, _, h => h
  | .obj _, _, h => h
  | .tup ds, v, h => by
    obtain ⟨a, vs, e, t, r⟩ := h
    exact ⟨a, vs, e, hT.sqT t, RepL.mono hT ds vs r⟩
  | .fl ds, v, h => by
    obtain ⟨a, vs, e, t, r⟩ := h
    exact ⟨a, vs, e, hT.sqF t, RepL.mono hT ds vs r⟩
theorem RepL.mono {K : PySem.W.Frag} {H H' : Hp} (hT : Kp H H') : ∀ (ds : List D) (vs : List V), RepL K H ds vs → RepL K H' ds vs
  | [], _, h => h
  | d :: ds, vs, h => by
    obtain ⟨v, r, e, h1, h2⟩ := h
    exact ⟨v, r, e, Rep.mono hT d v h1, RepL.mono hT ds r h2⟩
end
section
variable {K : PySem.W.Frag} {H H' : Hp}
theorem RepL.length : ∀ {ds : List D} {vs : List V}, RepL K H ds vs → ds.length = vs.length
  | [], _, h => by cases (show _ = [] from h); rfl
  | d :: ds, _, h => by
    obtain ⟨v, r, rfl, _, h2⟩ := h
    rw [List.length_cons, List.length_cons, RepL.length h2]
theorem RepL.get : ∀ {ds : List D} {vs : List V} {i : Nat} {d : D}, RepL K H ds vs → ds[i]? = some d → ∃ v, vs[i]? = some v ∧ Rep K H d v
  | [], _, _, _, _, e => by simp at e
  | d :: ds, _, 0, _, h, e => by
    obtain ⟨v, r, rfl, h1, _⟩ := h
    cases (Option.some.inj e)
    exact ⟨v, rfl, h1⟩
  | d :: ds, _, i + 1, _, h, e => by
    obtain ⟨v, r, rfl, _, h2⟩ := h
    exact RepL.get (i := i) h2 e
theorem RepL.set : ∀ {ds : List D} {vs : List V} (i : Nat) {d : D} {v : V}, RepL K H ds vs → Rep K H d v → RepL K H (ds.set i d) (vs.set i v)
  | [], _, _, _, _, h, _ => by cases (show _ = [] from h); rfl
  | d :: ds, _, 0, _, _, h, q => by
    obtain ⟨v, r, rfl, _, h2⟩ := h
    exact ⟨_, r, rfl, q, h2⟩
  | d :: ds, _, i + 1, _, _, h, q => by
    obtain ⟨v, r, rfl, h1, h2⟩ := h
    exact ⟨v, _, rfl, h1, RepL.set i h2 q⟩
theorem RepL.append : ∀ {ds es : List D} {vs ws : List V}, RepL K H ds vs → RepL K H es ws → RepL K H (ds ++ es) (vs ++ ws)
  | [], _, _, _, h, q => by cases (show _ = [] from h); exact q
  | d :: ds, _, _, _, h, q => by
    obtain ⟨v, r, rfl, h1, h2⟩ := h
    exact ⟨v, _, rfl, h1, RepL.append h2 q⟩
theorem RepL.one {d : D} {v : V} (h : Rep K H d v) : RepL K H [d] [v] := ⟨v, [], rfl, h, rfl⟩
theorem RepL.take : ∀ {ds : List D} {vs : List V} (n : Nat), RepL K H ds vs → RepL K H (ds.take n) (vs.take n)
  | [], _, n, h => by cases (show _ = [] from h); rw [List.take_nil, List.take_nil]; rfl
  | d :: ds, _, 0, h => by rw [List.take_zero, List.take_zero]; rfl
  | d :: ds, _, n + 1, h => by
    obtain ⟨v, r, rfl, h1, h2⟩ := h
    exact ⟨v, _, rfl, h1, RepL.take n h2⟩
theorem RepL.drop : ∀ {ds : List D} {vs : List V} (n : Nat), RepL K H ds vs → RepL K H (ds.drop n) (vs.drop n)
  | [], _, n, h => by cases (show _ = [] from h); rw [List.drop_nil, List.drop_nil]; rfl
  | d :: ds, _, 0, h => h
  | d :: ds, _, n + 1, h => by
    obtain ⟨v, r, rfl, h1, h2⟩ := h
    exact RepL.drop n h2
theorem RepL.reverse : ∀ {ds : List D} {vs : List V}, RepL K H ds vs → RepL K H ds.reverse vs.reverse
  | [], _, h => by cases (show _ = [] from h); rfl
  | d :: ds, _, h => by
    obtain ⟨v, r, rfl, h1, h2⟩ := h
    rw [List.reverse_cons, List.reverse_cons]
    exact RepL.append (RepL.reverse h2) (RepL.one h1)
theorem RepL.dropLast {ds : List D} {vs : List V} (h : RepL K H ds vs) : RepL K H ds.dropLast vs.dropLast := by
  rw [List.dropLast_eq_take, List.dropLast_eq_take, h.length]
  exact h.take _
theorem RepL.of_ints : ∀ (xs : List Int), RepL K H (xs.map D.int) (xs.map V.int)
  | [] => rfl
  | x :: xs => ⟨_, _, rfl, rfl, RepL.of_ints xs⟩
end
abbrev RepK (K : PySem.W.Frag) (H : Hp) : List (Key × D) → List (Key × V) → Prop := Paired fun p q => p.1 = q.1 ∧ Rep K H p.2 q.2
def MOk (K : PySem.W.Frag) (H : Hp) (a : Addr) : MO → Prop
  | .lst ds => ∃ vs, H a = some (.lst vs) ∧ RepL K H ds vs
  | .dic kvs => ∃ ws, H a = some (.dK ws) ∧ RepK K H kvs ws
  | .raw o => H a = some o ∧ ¬ Fz o
  | .dif od ws kvs => H a = some (.frz od (.dK ws)) ∧ RepK K H kvs ws
def Abs (K : PySem.W.Frag) (M : Sto) (H : Hp) : Prop := ∀ a mo, M a = some mo → MOk K H a mo
abbrev AEnv := List (Option D)
def RepS (K : PySem.W.Frag) (H : Hp) (env : AEnv) (σ : L2.St) : Prop := env.length = σ.length ∧ ∀ (i : Nat) (d : D), env[i]? = some (some d) → ∃ v, σ[i]? = some (some v) ∧ Rep K H d v
structure Tr (K : PySem.W.Frag) (M : Sto) (H : Hp) (M' : Sto) (H' : Hp) : Prop where
  abs : Abs K M' H'
  keep : ∀ b o, H b = some o → M b = none → H' b = some o ∧ M' b = none
section
variable {K : PySem.W.Frag} {M M1 M2 : Sto} {H H1 H2 : Hp}
theorem Tr.refl (h : Abs K M H) : Tr K M H M H := ⟨h, fun _ _ h1 h2 => ⟨h1, h2⟩⟩
theorem Tr.trans (a : Tr K M H M1 H1) (b : Tr K M1 H1 M2 H2) : Tr K M H M2 H2 := ⟨b.abs, fun c o h1 h2 => let ⟨h3, h4⟩ := a.keep c o h1 h2; b.keep c o h3 h4⟩
theorem Abs.fzFree (h : Abs K M H) {a : Addr} {o : HO} (f : Fz o) (e : H a = some o) : M a = none := by
  cases q : M a with
  | none => rfl
  | some mo =>
    have z := h a mo q
    cases mo with
    | lst ds => obtain ⟨ws, z, _⟩ := z; rw [z] at e; cases e; exact f.elim
    | dic ds => obtain ⟨ws, z, _⟩ := z; rw [z] at e; cases e; exact f.elim
    | raw o => rw [z.1] at e; cases e; exact absurd f z.2
    | dif od ws ds => obtain ⟨z, _⟩ := z; rw [z] at e; cases e; exact f.elim
theorem Tr.kp (t : Tr K M H M1 H1) (h : Abs K M H) : Kp H H1 := fun a o f e => (t.keep a o e (h.fzFree f e)).1
theorem Tr.sqT (t : Tr K M H M1 H1) (h : Abs K M H) {a : Addr} {vs : List V} (e : SqT K H a vs) : SqT K H1 a vs := (t.kp h).sqT e
theorem Tr.rep (t : Tr K M H M1 H1) (h : Abs K M H) {d : D} {v : V} (r : Rep K H d v) : Rep K H1 d v := Rep.mono (t.kp h) d v r
theorem Tr.repL (t : Tr K M H M1 H1) (h : Abs K M H) {d : List D} {v : List V} (r : RepL K H d v) : RepL K H1 d v := RepL.mono (t.kp h) d v r
theorem Tr.repS (t : Tr K M H M1 H1) (h : Abs K M H) {env : AEnv} {σ : L2.St} (r : RepS K H env σ) : RepS K H1 env σ :=
  ⟨r.1, fun i d e => let ⟨v, h1, h2⟩ := r.2 i d e; ⟨v, h1, t.rep h h2⟩⟩
theorem Abs.fresh (h : Abs K M H) {p : Addr} (hp : H p = none) : M p = none := by
  cases q : M p with
  | none => rfl
  | some mo =>
    have z := h p mo q
    cases mo with
    | lst ds => obtain ⟨ws, z, _⟩ := z; rw [hp] at z; cases z
    | dic ds => obtain ⟨ws, z, _⟩ := z; rw [hp] at z; cases z
    | raw o => have z1 := z.1; rw [hp] at z1; cases z1
    | dif od ws ds => obtain ⟨z, _⟩ := z; rw [hp] at z; cases z
theorem Kp.new {p : Addr} {o : HO} (hp : H p = none) : Kp H (upd H p o) := fun a u _ e => by rw [upd_ne (ne_of_none e hp)]; exact e
theorem Kp.write (h : Abs K M H) {p : Addr} {o : HO} {m0 : MO} (hp : M p = some m0) : Kp H (upd H p o) := fun a u f e => by
  have n : a ≠ p := fun z => by
    subst z
    rw [h.fzFree f e] at hp
    cases hp
  rw [upd_ne n]
  exact e
theorem Kp.updL {p : Addr} {vs ws : List V} (hp : H p = some (.lst vs)) : Kp H (upd H p (.lst ws)) := fun a u f e => by
  have n : a ≠ p := fun z => by
    subst z
    rw [hp] at e
    cases e
    exact f.elim
  rw [upd_ne n]
  exact e
theorem MOk.mono {H' : Hp} {a : Addr} (ha : ∀ o, H a = some o → H' a = some o) (hT : Kp H H') : ∀ {mo : MO}, MOk K H a mo → MOk K H' a mo
  | .lst ds, ⟨vs, e, r⟩ => ⟨vs, ha _ e, RepL.mono hT ds vs r⟩
  | .dic kvs, ⟨ws, e, r⟩ => ⟨ws, ha _ e, Paired.mapP r fun p q z => ⟨z.1, Rep.mono hT _ _ z.2⟩⟩
  | .raw o, ⟨e, n⟩ => ⟨ha _ e, n⟩
  | .dif od ws kvs, ⟨e, r⟩ => ⟨ha _ e, Paired.mapP r fun p q z => ⟨z.1, Rep.mono hT _ _ z.2⟩⟩
theorem Tr.newT (h : Abs K M H) {p : Addr} {o : HO} (hp : H p = none) : Tr K M H M (upd H p o) := by
  refine ⟨fun a mo e => ?_, fun b u e n => ⟨by rw [upd_ne (ne_of_none e hp)]; exact e, n⟩⟩
  exact (h a mo e).mono (fun u q => by rw [upd_ne (ne_of_none q hp)]; exact q) (Kp.new hp)
theorem Tr.newM (h : Abs K M H) {p : Addr} {o : HO} {mo : MO} (hp : H p = none) (hm : MOk K (upd H p o) p mo) : Tr K M H (up M p mo) (upd H p o) := by
  refine ⟨fun a m e => ?_, fun b u e n => ?_⟩
  · by_cases ha : a = p
    · subst ha
      rw [up_same] at e
      cases e
      exact hm
    · rw [up_ne ha] at e
      exact (h a m e).mono (fun u q => by rw [upd_ne (ne_of_none q hp)]; exact q) (Kp.new hp)
  · have nb := ne_of_none e hp
    exact ⟨by rw [upd_ne nb]; exact e, by rw [up_ne nb]; exact n⟩
theorem Tr.write (h : Abs K M H) {p : Addr} {o : HO} {mo m0 : MO} (hp : M p = some m0) (hm : MOk K (upd H p o) p mo) : Tr K M H (up M p mo) (upd H p o) := by
  have hT : Kp H (upd H p o) := Kp.write h hp
  refine ⟨fun a m e => ?_, fun b u e n => ?_⟩
  · by_cases ha : a = p
    · subst ha
      rw [up_same] at e
      cases e
      exact hm
    · rw [up_ne ha] at e
      exact (h a m e).mono (fun u q => by rw [upd_ne ha]; exact q) hT
  · have nb : b ≠ p := fun z => by subst z; rw [hp] at n; cases n
    exact ⟨by rw [upd_ne nb]; exact e, by rw [up_ne nb]; exact n⟩
theorem repL_write (h : Abs K M H) {p : Addr} {o : HO} {m0 : MO} (hp : M p = some m0) {d : List D} {v : List V} (r : RepL K H d v) : RepL K (upd H p o) d v := RepL.mono (Kp.write h hp) d v r
theorem repL_new {p : Addr} {o : HO} (hp : H p = none) {d : List D} {v : List V} (r : RepL K H d v) : RepL K (upd H p o) d v := RepL.mono (Kp.new hp) d v r
theorem rep_newT {p : Addr} {ds : List D} {vs : List V} (hp : H p = none) (r : RepL K H ds vs) : Rep K (upd H p (.tup vs)) (.tup ds) (.ref p) := ⟨p, vs, rfl, .inl (.inl upd_same), repL_new hp r⟩
theorem RepS.get {env : AEnv} {σ : L2.St} (h : RepS K H env σ) {i : Nat} {d : D} (e : env[i]? = some (some d)) : ∃ v, σ[i]? = some (some v) ∧ Rep K H d v := h.2 i d e
theorem RepS.set {env : AEnv} {σ : L2.St} (h : RepS K H env σ) {i : Nat} {d : D} {v : V} (r : Rep K H d v) : RepS K H (env.set i (some d)) (σ.set i (some v)) := by
  refine ⟨by rw [List.length_set, List.length_set, h.1], fun j d' e => ?_⟩
  by_cases hj : i = j
  · subst hj
    by_cases hl : i < env.length
    · rw [List.getElem?_set_self hl] at e
      cases e
      exact ⟨v, by rw [List.getElem?_set_self (by rw [← h.1]; exact hl)], r⟩
    · rw [List.getElem?_eq_none (by rw [List.length_set]; omega)] at e
      cases e
  · rw [List.getElem?_set_ne hj] at e
    obtain ⟨v', q1, q2⟩ := h.2 j d' e
    exact ⟨v', by rw [List.getElem?_set_ne hj]; exact q1, q2⟩
end

abbrev AX := Value → List (Str × D) → AEnv → Sto → Prop
def RepX (K : PySem.W.Frag) (H : Hp) : Option Addr → List (Str × D) → Prop
  | none, fs => fs = []
  | some a, fs => ∃ ws : List (Str × V), H a = some (.xd ws) ∧ Paired (fun (p : Str × D) (q : Str × V) => p.1 = q.1 ∧ Rep K H p.2 q.2) fs ws
def XC (K : PySem.W.Frag) (W : WX) (ax : AX) (M : Sto) (H : Hp) : Prop := ∀ σ' env' H' M' cls d fs, Tr K M H M' H' → RepS K H' env' σ' → RepX K H' d fs → ax cls fs env' M' → W cls d σ' H'
theorem XC.next {K : PySem.W.Frag} {W : WX} {ax : AX} {M M1 : Sto} {H H1 : Hp} (x : XC K W ax M H) (t : Tr K M H M1 H1) : XC K W ax M1 H1 :=
  fun σ' env' H' M' cls d fs t' r x' a => x σ' env' H' M' cls d fs (t.trans t') r x' a
def ax0 : AX := fun _ _ _ _ => False
theorem XC.no {K : PySem.W.Frag} {W : WX} {M : Sto} {H : Hp} : XC K W ax0 M H := fun _ _ _ _ _ _ _ _ _ _ z => z.elim
structure Stt (K : PySem.W.Frag) (W : WX) (ax : AX) (env : AEnv) (M : Sto) (σ : L2.St) (H : Hp) : Prop where
  rs : RepS K H env σ
  abs : Abs K M H
  xc : XC K W ax M H
section
variable {K : PySem.W.Frag} {W : WX} {ax : AX} {env env' : AEnv} {M M1 : Sto} {σ σ' : L2.St} {H H1 : Hp}
theorem Stt.next (s : Stt K W ax env M σ H) (t : Tr K M H M1 H1) : Stt K W ax env M1 σ H1 := ⟨t.repS s.abs s.rs, t.abs, s.xc.next t⟩
theorem Stt.at_ (s : Stt K W ax env M σ H) (t : Tr K M H M1 H1) (r : RepS K H1 env' σ') : Stt K W ax env' M1 σ' H1 := ⟨r, t.abs, s.xc.next t⟩
end

abbrev ATE := AX → AEnv → Sto → (D → Sto → Prop) → Prop
abbrev ATT := AX → AEnv → Sto → (Bool → Sto → Prop) → Prop
abbrev ATA := AX → AEnv → Sto → (List D → Sto → Prop) → Prop
structure AEnds where
  nx : AEnv → Sto → Prop
  rt : D → Sto → Prop
  bk : AEnv → Sto → Prop := fun _ _ => False
  ct : AEnv → Sto → Prop := fun _ _ => False
abbrev ATS := AX → AEnds → AEnv → Sto → Prop
abbrev ATG := D → AX → AEnv → Sto → (AEnv → Sto → Prop) → Prop
abbrev ATI := AX → AEnv → Sto → (List D → (Sto → Prop) → Sto → Prop) → Prop
section
variable (K : PySem.W.Frag) (W : WX)
def cE (a : ATE) : TE := fun σ H Q => ∃ ax env M Qa, Stt K W ax env M σ H ∧ a ax env M Qa ∧ ∀ v H' d M', Tr K M H M' H' → Rep K H' d v → Qa d M' → Q v H'
def cT (a : ATT) : TT := fun σ H Q => ∃ ax env M Qa, Stt K W ax env M σ H ∧ a ax env M Qa ∧ ∀ b H' M', Tr K M H M' H' → Qa b M' → Q b H'
def cA (a : ATA) : TA := fun σ H Q => ∃ ax env M Qa, Stt K W ax env M σ H ∧ a ax env M Qa ∧ ∀ vs H' ds M', Tr K M H M' H' → RepL K H' ds vs → Qa ds M' → Q vs H'
structure EndsOk (M : Sto) (H : Hp) (D : AEnds) (Dc : Ends) : Prop where
  nx : ∀ σ' H' env' M', Tr K M H M' H' → RepS K H' env' σ' → D.nx env' M' → Dc.nx σ' H'
  bk : ∀ σ' H' env' M', Tr K M H M' H' → RepS K H' env' σ' → D.bk env' M' → Dc.bk σ' H'
  ct : ∀ σ' H' env' M', Tr K M H M' H' → RepS K H' env' σ' → D.ct env' M' → Dc.ct σ' H'
  rt : ∀ v H' d M', Tr K M H M' H' → Rep K H' d v → D.rt d M' → Dc.rt v H'
def cS (a : ATS) : TS := fun Dc σ H => ∃ ax env M D, Stt K W ax env M σ H ∧ a ax D env M ∧ EndsOk K M H D Dc
def cG (g : ATG) : TG := fun v σ H Q => ∃ d ax env M Qa, Stt K W ax env M σ H ∧ Rep K H d v ∧ g d ax env M Qa ∧ ∀ σ' H' env' M', Tr K M H M' H' → RepS K H' env' σ' → Qa env' M' → Q σ' H'
def ItSim (J : It) (items : List D) (chk : Sto → Prop) (M1 : Sto) (H1 : Hp) : Prop := ∀ i M H, Tr K M1 H1 M H → chk M →
  (∀ d, items[i]? = some d → J.go i H ∧ ∀ x H', J.yld i H x H' → Tr K M H M H' ∧ Rep K H' d x) ∧ (items[i]? = none → J.stop i H)
def cI (a : ATI) : TI := fun σ H R => ∃ ax env M Ra, Stt K W ax env M σ H ∧ a ax env M Ra ∧ ∀ J items chk M' H', Tr K M H M' H' → ItSim K J items chk M' H' → Ra items chk M' → R J H'
end
theorem EndsOk.next {K : PySem.W.Frag} {M M1 : Sto} {H H1 : Hp} {D : AEnds} {Dc : Ends} (e : EndsOk K M H D Dc) (t : Tr K M H M1 H1) : EndsOk K M1 H1 D Dc :=
  ⟨fun σ' H' env' M' t' => e.nx σ' H' env' M' (t.trans t'), fun σ' H' env' M' t' => e.bk σ' H' env' M' (t.trans t'), fun σ' H' env' M' t' => e.ct σ' H' env' M' (t.trans t'), fun v H' d M' t' => e.rt v H' d M' (t.trans t')⟩

theorem PE.imp {X : Cx} {e : Expr} {t u : TE} (h : PE X e t) (k : ∀ σ H Q, u σ H Q → t σ H Q) : PE X e u := ⟨fun pins s σ H Q I q => h.run pins s σ H Q I (k σ H Q q)⟩
theorem PT.imp {X : Cx} {e : Expr} {t u : TT} (h : PT X e t) (k : ∀ σ H Q, u σ H Q → t σ H Q) : PT X e u := ⟨fun pins s σ H Q I q => h.run pins s σ H Q I (k σ H Q q)⟩
theorem PW.imp {X : Cx} {e : Expr} {t u : TT} (h : PW X e t) (k : ∀ σ H Q, u σ H Q → t σ H Q) : PW X e u := ⟨fun wh pins s σ H Q I q => h.run wh pins s σ H Q I (k σ H Q q)⟩
theorem PA.imp {X : Cx} {e : List Expr} {t u : TA} (h : PA X e t) (k : ∀ σ H Q, u σ H Q → t σ H Q) : PA X e u := ⟨fun pos pins s σ H Q I q => h.run pos pins s σ H Q I (k σ H Q q)⟩
theorem PS.imp {X : Cx} {e : Stmt} {t u : TS} (h : PS X e t) (k : ∀ D σ H, u D σ H → t D σ H) : PS X e u := ⟨fun pins s σ H D I q => h.run pins s σ H D I (k D σ H q)⟩
theorem PSs.imp {X : Cx} {e : List Stmt} {t u : TS} (h : PSs X e t) (k : ∀ D σ H, u D σ H → t D σ H) : PSs X e u := ⟨fun pins s σ H D I q => h.run pins s σ H D I (k D σ H q)⟩
theorem PG.imp {X : Cx} {e : Expr} {t u : TG} (h : PG X e t) (k : ∀ v σ H Q, u v σ H Q → t v σ H Q) : PG X e u := ⟨fun pins s σ H v w Q I r q => h.run pins s σ H v w Q I r (k v σ H Q q)⟩
theorem PI.imp {X : Cx} {g e : Expr} {t u : TI} (h : PI X g e t) (k : ∀ σ H Q, u σ H Q → t σ H Q) : PI X g e u := ⟨fun pins s σ H Q I q => h.run pins s σ H Q I (k σ H Q q)⟩

section
variable {K : PySem.W.Frag} {W : WX}
def aVar (i : Nat) : ATE := fun _ env M Q => optAt env[i]? fun o => optAt o fun d => Q d M
def aC (d : D) : ATE := fun _ _ M Q => Q d M
abbrev AR2 := D → D → Sto → (D → Sto → Prop) → Prop
abbrev ARs := List D → Sto → (D → Sto → Prop) → Prop
def SimR (K : PySem.W.Frag) (r : R2) (ρ : AR2) : Prop := ∀ x y dx dy H M (Q : D → Sto → Prop) (Qc : VK), Abs K M H → Rep K H dx x → Rep K H dy y → ρ dx dy M Q →
  (∀ v H' d M', Tr K M H M' H' → Rep K H' d v → Q d M' → Qc v H') → r x y H Qc
def SimC (K : PySem.W.Frag) (r : List V → Hp → VK → Prop) (ρ : ARs) : Prop := ∀ xs ds H M (Q : D → Sto → Prop) (Qc : VK), Abs K M H → RepL K H ds xs → ρ ds M Q →
  (∀ v H' d M', Tr K M H M' H' → Rep K H' d v → Q d M' → Qc v H') → r xs H Qc
def aOp (ρ : AR2) (a b : ATE) : ATE := fun ax env M Q => a ax env M fun x M1 => b ax env M1 fun y M2 => ρ x y M2 Q
theorem s_var {i : Nat} {σ : L2.St} {H : Hp} {Q : VK} (h : cE K W (aVar i) σ H Q) : tVar i σ H Q := by
  obtain ⟨ax, env, M, Qa, S, q, k⟩ := h
  obtain ⟨o, e, q⟩ := optAt_ex q
  obtain ⟨d, rfl, q⟩ := optAt_ex q
  obtain ⟨v, e', r⟩ := S.rs.get e
  exact ⟨v, e', k v H d M (Tr.refl S.abs) r q⟩
theorem s_c {d : D} {v : V} (hr : ∀ H, Rep K H d v) {σ : L2.St} {H : Hp} {Q : VK} (h : cE K W (aC d) σ H Q) : tC v σ H Q := by
  obtain ⟨ax, env, M, Qa, S, q, k⟩ := h
  exact k v H d M (Tr.refl S.abs) (hr H) q
theorem s_op {r : R2} {ρ : AR2} (hr : SimR K r ρ) {a b : ATE} {σ : L2.St} {H : Hp} {Q : VK} (h : cE K W (aOp ρ a b) σ H Q) : tOp r (cE K W a) (cE K W b) σ H Q := by
  obtain ⟨ax, env, M, Qa, S, q, k⟩ := h
  refine ⟨ax, env, M, _, S, q, fun x H1 dx M1 t1 r1 q1 => ?_⟩
  refine ⟨ax, env, M1, _, S.next t1, q1, fun y H2 dy M2 t2 r2 q2 => ?_⟩
  exact hr x y dx dy H2 M2 Qa _ t2.abs (t2.rep t1.abs r1) r2 q2 fun v H' d M' t3 r3 q3 => k v H' d M' ((t1.trans t2).trans t3) r3 q3
variable {X : Cx} {a b : Expr} {α β : ATE} {pos : Pos}
abbrev AE (X : Cx) (W : WX) (e : Expr) (a : ATE) : Prop := PE X e (cE X.K W a)
abbrev AT (X : Cx) (W : WX) (e : Expr) (a : ATT) : Prop := PT X e (cT X.K W a)
abbrev AW (X : Cx) (W : WX) (e : Expr) (a : ATT) : Prop := PW X e (cT X.K W a)
abbrev AA (X : Cx) (W : WX) (e : List Expr) (a : ATA) : Prop := PA X e (cA X.K W a)
abbrev AS (X : Cx) (W : WX) (e : Stmt) (a : ATS) : Prop := PS X e (cS X.K W a)
abbrev ASs (X : Cx) (W : WX) (e : List Stmt) (a : ATS) : Prop := PSs X e (cS X.K W a)
abbrev AG (X : Cx) (W : WX) (e : Expr) (a : ATG) : Prop := PG X e (cG X.K W a)
abbrev AI (X : Cx) (W : WX) (g e : Expr) (a : ATI) : Prop := PI X g e (cI X.K W a)
theorem ae_var (i : Nat) {x : Str} {pos : Pos} (hN : X.N[i]? = some x := by rfl) (hv : Vis X.env.scope x := by first | exact Or.inl rfl | exact Or.inr (Or.inl rfl) | exact Or.inr (Or.inr rfl)) (hd : (x == ("__debug__" : Str)) = false := by decide)
    (hcd : (x == ("__classdict__" : Str)) = false := by decide) : AE X W (.Name x pos) (aVar i) := PE.imp (pe_var hN hv hd hcd) fun _ _ _ => s_var
theorem ae_int {i j pos} : AE X W (.Constant (.int i) j pos) (aC (.int i)) := PE.imp pe_int fun _ _ _ h => s_c (d := .int i) (v := .int i) (fun _ => rfl) h
theorem ae_bl {i j pos} : AE X W (.Constant (.bool i) j pos) (aC (.bl i)) := PE.imp pe_bl fun _ _ _ h => s_c (d := .bl i) (v := .bl i) (fun _ => rfl) h
theorem ae_non {j pos} : AE X W (.Constant .none j pos) (aC .non) := PE.imp pe_non fun _ _ _ h => s_c (d := .non) (v := .non) (fun _ => rfl) h
theorem ae_str {x j pos} : AE X W (.Constant (.str x) j pos) (aC (.str x)) := PE.imp pe_str fun _ _ _ h => s_c (d := .str x) (v := .str x) (fun _ => rfl) h
theorem ae_op {op : Operator} {r : R2} {ρ : AR2} (ho : OpR X (binaryOp op) r) (hr : SimR X.K r ρ) (ha : AE X W a α) (hb : AE X W b β) : AE X W (.BinOp a op b pos) (aOp ρ α β) := PE.imp (pe_op ho ha hb) fun _ _ _ => s_op hr
theorem ae_cmpR {op : CmpOp} {r : R2} {ρ : AR2} (ho : OpR X (compareOp op) r) (hr : SimR X.K r ρ) (ha : AE X W a α) (hb : AE X W b β) (hm : behindInMarks op b = false) : AE X W (.Compare a [op] [b] pos) (aOp ρ α β) := PE.imp (pe_cmpR ho ha hb hm) fun _ _ _ => s_op hr
end

section
variable {K : PySem.W.Frag} {X : Cx}
def rPlus (K : PySem.W.Frag) : R2 := fun x y H Q => (rI0 fun i j => .int (i + j)) x y H Q ∨ (∃ i j, x = .str i ∧ y = .str j ∧ i.length + j.length ≤ sizeLine ∧ Q (.str (i ++ j)) H) ∨ rCat x y H Q ∨ rCatA K x y H Q
theorem op_plus : OpR X (binaryOp .Add) (rPlus X.K) := op_add.or (op_add_str.or (op_cat.or op_catA))
def ρAdd : AR2 := fun x y M Q => match x, y with
  | .int i, .int j => Q (.int (i + j)) M
  | .str i, .str j => i.length + j.length ≤ sizeLine ∧ Q (.str (i ++ j)) M
  | .tup ds, .tup es => ds.length + es.length ≤ sizeLine ∧ Q (.tup (ds ++ es)) M
  | .obj p, .obj q => lstAt M p fun ds => lstAt M q fun es => ds.length + es.length ≤ sizeLine ∧ New (.lst (ds ++ es)) M Q
  | _, _ => False
theorem sim_add : SimR K (rPlus K) ρAdd := by
  intro x y dx dy H M Q Qc ab rx ry q k
  cases dx with
  | int i =>
    cases dy with
    | int j =>
      cases (show x = V.int i from rx)
      cases (show y = V.int j from ry)
      exact .inl ⟨i, j, rfl, rfl, k _ H (.int (i + j)) M (Tr.refl ab) rfl q⟩
    | _ => exact False.elim q
  | str i =>
    cases dy with
    | str j =>
      cases (show x = V.str i from rx)
      cases (show y = V.str j from ry)
      obtain ⟨z, q⟩ := q
      exact .inr (.inl ⟨i, j, rfl, rfl, z, k _ H (.str (i ++ j)) M (Tr.refl ab) rfl q⟩)
    | _ => exact False.elim q
  | tup ds =>
    cases dy with
    | tup es =>
      obtain ⟨z, q⟩ := q
      obtain ⟨p, vs, rfl, hp, hv⟩ := rx
      obtain ⟨p', ws, rfl, hp', hw⟩ := ry
      have l1 := hv.length
      have l2 := hw.length
      refine .inr (.inr (.inr ⟨p, p', vs, ws, rfl, rfl, hp, hp', by omega, fun e => ?_, fun _ e => ?_, fun _ _ o ho => ?_⟩))
      · subst e
        have e0 : ds = [] := List.eq_nil_of_length_eq_zero l1
        subst e0
        exact k _ H (.tup ([] ++ es)) M (Tr.refl ab) ⟨p', ws, rfl, hp', hw⟩ q
      · subst e
        have e0 : es = [] := List.eq_nil_of_length_eq_zero l2
        subst e0
        exact k _ H (.tup (ds ++ [])) M (Tr.refl ab) ⟨p, vs, rfl, hp, by rw [List.append_nil]; exact hv⟩ q
      · exact k _ _ (.tup (ds ++ es)) M (Tr.newT ab ho) (rep_newT ho (hv.append hw)) q
    | _ => exact False.elim q
  | obj p =>
    cases dy with
    | obj p' =>
      obtain ⟨ds, m1, q⟩ := lstAt_ex q
      obtain ⟨es, m2, z, q⟩ := lstAt_ex q
      cases (show x = V.ref p from rx)
      cases (show y = V.ref p' from ry)
      obtain ⟨vs, h1, r1⟩ := ab p _ m1
      obtain ⟨ws, h2, r2⟩ := ab p' _ m2
      have l1 := r1.length
      have l2 := r2.length
      refine .inr (.inr (.inl ⟨p, p', vs, ws, rfl, rfl, h1, h2, by omega, fun o ho => ?_⟩))
      exact k _ _ (.obj o) _ (Tr.newM (mo := .lst (ds ++ es)) ab ho ⟨_, upd_same, repL_new ho (r1.append r2)⟩) rfl (q o (ab.fresh ho))
    | _ => exact False.elim q
  | _ => exact False.elim q
def ρI (C : Int → Int → Prop) (g : Int → Int → D) : AR2 := fun x y M Q => match x, y with
  | .int i, .int j => C i j ∧ Q (g i j) M
  | _, _ => False
def ρI0 (g : Int → Int → D) : AR2 := fun x y M Q => match x, y with
  | .int i, .int j => Q (g i j) M
  | _, _ => False
theorem sim_I {C : Int → Int → Prop} {g : Int → Int → D} {gv : Int → Int → V} (hg : ∀ H i j, Rep K H (g i j) (gv i j)) : SimR K (rI C gv) (ρI C g) := by
  intro x y dx dy H M Q Qc ab rx ry q k
  cases dx with
  | int i =>
    cases dy with
    | int j =>
      cases (show x = V.int i from rx)
      cases (show y = V.int j from ry)
      exact ⟨i, j, rfl, rfl, q.1, k _ H _ M (Tr.refl ab) (hg H i j) q.2⟩
    | _ => exact False.elim q
  | _ => exact False.elim q
theorem sim_I0 {g : Int → Int → D} {gv : Int → Int → V} (hg : ∀ H i j, Rep K H (g i j) (gv i j)) : SimR K (rI0 gv) (ρI0 g) := by
  intro x y dx dy H M Q Qc ab rx ry q k
  cases dx with
  | int i =>
    cases dy with
    | int j =>
      cases (show x = V.int i from rx)
      cases (show y = V.int j from ry)
      exact ⟨i, j, rfl, rfl, k _ H _ M (Tr.refl ab) (hg H i j) q⟩
    | _ => exact False.elim q
  | _ => exact False.elim q
abbrev ρSub : AR2 := ρI0 fun i j => .int (i - j)
abbrev ρMul : AR2 := ρI CMul fun i j => .int (i * j)
abbrev ρMod : AR2 := ρI (fun _ j => 0 < j) fun i j => .int (i % j)
abbrev ρFdiv : AR2 := ρI CDiv fun i j => .int (i / j)
abbrev ρPow : AR2 := ρI CPow fun i j => .int (i ^ j.toNat)
theorem sim_sub : SimR K (rI0 fun i j => .int (i - j)) ρSub := sim_I0 fun _ _ _ => rfl
theorem sim_mul : SimR K (rI CMul fun i j => .int (i * j)) ρMul := sim_I fun _ _ _ => rfl
theorem sim_mod : SimR K (rI (fun _ j => 0 < j) fun i j => .int (i % j)) ρMod := sim_I fun _ _ _ => rfl
theorem sim_fdiv : SimR K (rI CDiv fun i j => .int (i / j)) ρFdiv := sim_I fun _ _ _ => rfl
theorem sim_pow : SimR K (rI CPow fun i j => .int (i ^ j.toNat)) ρPow := sim_I fun _ _ _ => rfl
def rLtA : R2 := fun x y H Q => (rI0 fun i j => .bl (decide (i < j))) x y H Q ∨ ∃ i j, x = .str i ∧ y = .str j ∧ Q (.bl (decide (i.cps.toList < j.cps.toList))) H
theorem op_ltA : OpR X (compareOp .Lt) rLtA := op_lt.or op_lt_str
def ρIS (g : Int → Int → Bool) (f : Str → Str → Bool) : AR2 := fun x y M Q => match x, y with
  | .int i, .int j => Q (.bl (g i j)) M
  | .str i, .str j => Q (.bl (f i j)) M
  | _, _ => False
abbrev ρLt : AR2 := ρIS (fun i j => decide (i < j)) (fun i j => decide (i.cps.toList < j.cps.toList))
abbrev ρGt : AR2 := ρI0 fun i j => .bl (decide (j < i))
abbrev ρGe : AR2 := ρI0 fun i j => .bl (decide (j ≤ i))
theorem sim_IS {g : Int → Int → Bool} {f : Str → Str → Bool} : SimR K (fun x y H Q => (rI0 fun i j => .bl (g i j)) x y H Q ∨ ∃ i j, x = .str i ∧ y = .str j ∧ Q (.bl (f i j)) H) (ρIS g f) := by
  intro x y dx dy H M Q Qc ab rx ry q k
  cases dx with
  | int i =>
    cases dy with
    | int j =>
      cases (show x = V.int i from rx)
      cases (show y = V.int j from ry)
      exact .inl ⟨i, j, rfl, rfl, k _ H (.bl _) M (Tr.refl ab) rfl q⟩
    | _ => exact False.elim q
  | str i =>
    cases dy with
    | str j =>
      cases (show x = V.str i from rx)
      cases (show y = V.str j from ry)
      exact .inr ⟨i, j, rfl, rfl, k _ H (.bl _) M (Tr.refl ab) rfl q⟩
    | _ => exact False.elim q
  | _ => exact False.elim q
theorem sim_lt : SimR K rLtA ρLt := sim_IS
theorem sim_gt : SimR K (rI0 fun i j => .bl (decide (j < i))) ρGt := sim_I0 fun _ _ _ => rfl
theorem sim_ge : SimR K (rI0 fun i j => .bl (decide (j ≤ i))) ρGe := sim_I0 fun _ _ _ => rfl
mutual
def D.py : D → Option PyData
  | .non => some .none
  | .bl b => some (.bool b)
  | .int i => some (.int i)
  | .str x => some (.str x)
  | .tup ds => (D.pys ds).map .tuple
  | .obj _ => none
  | .fl _ => none
def D.pys : List D → Option (List PyData)
  | [] => some []
  | d :: ds => d.py.bind fun p => (D.pys ds).map fun ps => p :: ps
end
mutual
theorem Rep.dp {H : Hp} : ∀ (d : D) (v : V) (p : PyData), Rep K H d v → d.py = some p → Dp K H v p
  | .non, v, p, h, e => by cases (Option.some.inj e); cases (show v = V.non from h); exact .non
  | .bl b, v, p, h, e => by cases (Option.some.inj e); cases (show v = V.bl b from h); exact .bl b
  | .int i, v, p, h, e => by cases (Option.some.inj e); cases (show v = V.int i from h); exact .int i
  | .str i, v, p, h, e => by cases (Option.some.inj e); cases (show v = V.str i from h); exact .str i
  | .obj _, v, p, h, e => by cases e
  | .fl _, v, p, h, e => by cases e
  | .tup ds, v, p, h, e => by
    obtain ⟨a, vs, rfl, hT, hl⟩ := h
    rw [D.py, Option.map_eq_some_iff] at e
    obtain ⟨ps, e, rfl⟩ := e
    exact .tup hT (RepL.dp ds vs ps hl e)
theorem RepL.dp {H : Hp} : ∀ (ds : List D) (vs : List V) (ps : List PyData), RepL K H ds vs → D.pys ds = some ps → DpAll K H vs ps
  | [], vs, ps, h, e => by cases (show vs = [] from h); cases (Option.some.inj e); exact .nil
  | d :: ds, vs, ps, h, e => by
    obtain ⟨v, r, rfl, h1, h2⟩ := h
    rw [D.pys, Option.bind_eq_some_iff] at e
    obtain ⟨p, e1, e⟩ := e
    rw [Option.map_eq_some_iff] at e
    obtain ⟨ps', e2, rfl⟩ := e
    exact .cons (Rep.dp d v p h1 e1) (RepL.dp ds r ps' h2 e2)
end
def pyM (M : Sto) : D → Option PyData
  | .obj a => match M a with
    | some (.lst ds) => (D.pys ds).map .list
    | _ => none
  | d => d.py
theorem Rep.dpM {H : Hp} {M : Sto} (ab : Abs K M H) {d : D} {v : V} {p : PyData} (h : Rep K H d v) (e : pyM M d = some p) : Dp K H v p := by
  cases d with
  | obj a =>
    cases (show v = V.ref a from h)
    have e' : (match M a with | some (.lst ds) => (D.pys ds).map PyData.list | _ => none) = some p := e
    cases m : M a with
    | none => rw [m] at e'; cases e'
    | some mo =>
      cases mo with
      | dic kvs => rw [m] at e'; cases e'
      | raw o => rw [m] at e'; cases e'
      | dif od ws kvs => rw [m] at e'; cases e'
      | lst ds =>
        rw [m] at e'
        obtain ⟨ps, e2, rfl⟩ := Option.map_eq_some_iff.mp (show (D.pys ds).map PyData.list = some p from e')
        obtain ⟨vs, h1, r1⟩ := ab a _ m
        exact .lst (SqL.of h1) (RepL.dp ds vs ps r1 e2)
  | non => exact Rep.dp _ v p h e
  | bl b => exact Rep.dp _ v p h e
  | int b => exact Rep.dp _ v p h e
  | str b => exact Rep.dp _ v p h e
  | tup b => exact Rep.dp _ v p h e
  | fl b => cases e
def ρEqv (neg : Bool) : AR2 := fun x y M Q => ∃ p q, pyM M x = some p ∧ pyM M y = some q ∧ SeqAt.shaped p = true ∧ SeqAt.shaped q = true ∧ Q (.bl (if neg then !PyData.eqv p q else PyData.eqv p q)) M
def ρEq (neg : Bool) : AR2 := fun x y M Q => match x, y with
  | .str a, .str b => Q (.bl (if neg then !decide (a = b) else decide (a = b))) M
  | .int a, .int b => Q (.bl (if neg then !decide (a = b) else decide (a = b))) M
  | .bl a, .bl b => Q (.bl (if neg then !decide (a = b) else decide (a = b))) M
  | x, y => ρEqv neg x y M Q
def rEqA (K : PySem.W.Frag) (neg : Bool) : R2 := fun x y H Q => (if neg then rNe x y H Q else rEq x y H Q) ∨ (if neg then rNeD K x y H Q else rEqD K x y H Q)
theorem op_eqA (hu : X.A.units + 64 < cLine) : OpR X (compareOp .Eq) (rEqA X.K false) := op_eq.or (op_eqD hu)
theorem op_neA (hu : X.A.units + 64 < cLine) : OpR X (compareOp .NotEq) (rEqA X.K true) := op_ne.or (op_neD hu)
theorem sim_eqA {neg : Bool} : SimR K (rEqA K neg) (ρEq neg) := by
  intro x y dx dy H M Q Qc ab rx ry q k
  unfold ρEq at q
  split at q
  · rename_i a b
    cases (show x = V.str a from rx)
    cases (show y = V.str b from ry)
    refine .inl ?_
    cases neg with
    | true => exact ⟨rfl, k _ H (.bl _) M (Tr.refl ab) rfl (by rw [dec_str, Bool.beq_eq_decide_eq]; exact q)⟩
    | false => exact ⟨rfl, k _ H (.bl _) M (Tr.refl ab) rfl (by rw [dec_str, Bool.beq_eq_decide_eq]; exact q)⟩
  · rename_i a b
    cases (show x = V.int a from rx)
    cases (show y = V.int b from ry)
    refine .inl ?_
    cases neg with
    | true => exact ⟨rfl, k _ H (.bl _) M (Tr.refl ab) rfl (by rw [dec_int, Bool.beq_eq_decide_eq]; exact q)⟩
    | false => exact ⟨rfl, k _ H (.bl _) M (Tr.refl ab) rfl (by rw [dec_int, Bool.beq_eq_decide_eq]; exact q)⟩
  · rename_i a b
    cases (show x = V.bl a from rx)
    cases (show y = V.bl b from ry)
    refine .inl ?_
    cases neg with
    | true => exact ⟨rfl, k _ H (.bl _) M (Tr.refl ab) rfl (by rw [dec_bl, Bool.beq_eq_decide_eq]; exact q)⟩
    | false => exact ⟨rfl, k _ H (.bl _) M (Tr.refl ab) rfl (by rw [dec_bl, Bool.beq_eq_decide_eq]; exact q)⟩
  · obtain ⟨p, p', e1, e2, s1, s2, q⟩ := q
    refine .inr ?_
    cases neg with
    | true => exact ⟨p, p', rx.dpM ab e1, ry.dpM ab e2, s1, s2, k _ H (.bl _) M (Tr.refl ab) rfl q⟩
    | false => exact ⟨p, p', rx.dpM ab e1, ry.dpM ab e2, s1, s2, k _ H (.bl _) M (Tr.refl ab) rfl q⟩
def isNon : D → Bool
  | .non => true | .bl _ => false | .int _ => false | .str _ => false | .tup _ => false | .obj _ => false | .fl _ => false
def ρIsN (neg : Bool) : AR2 := fun x y M Q => isNon y = true ∧ Q (.bl (if neg then !isNon x else isNon x)) M
theorem rep_non {H : Hp} {d : D} {v : V} (h : Rep K H d v) : decide (v = V.non) = isNon d := by
  cases d with
  | non => cases (show v = V.non from h); rfl
  | bl b => cases (show v = V.bl b from h); rfl
  | int b => cases (show v = V.int b from h); rfl
  | str b => cases (show v = V.str b from h); rfl
  | obj b => cases (show v = V.ref b from h); rfl
  | tup ds => obtain ⟨a, vs, rfl, _⟩ := h; rfl
  | fl ds => obtain ⟨a, vs, rfl, _⟩ := h; rfl
theorem rep_isNon {H : Hp} {d : D} {v : V} (h : Rep K H d v) (e : isNon d = true) : v = V.non := by
  cases d with
  | non => exact h
  | _ => cases e
theorem sim_isN : SimR K (fun x y H Q => y = .non ∧ Q (.bl (decide (x = .non))) H) (ρIsN false) := by
  intro x y dx dy H M Q Qc ab rx ry q k
  refine ⟨rep_isNon ry q.1, k _ H (.bl (decide (x = .non))) M (Tr.refl ab) rfl ?_⟩
  rw [rep_non rx]
  exact q.2
def flatD : D → Bool
  | .non => true | .bl _ => true | .int _ => true | .str _ => true | _ => false
def eqF : D → D → Bool
  | .non, .non => true
  | .bl a, .bl b => a == b
  | .bl a, .int b => (if a then 1 else 0) == b
  | .int a, .bl b => a == (if b then 1 else 0)
  | .int a, .int b => a == b
  | .str a, .str b => decide (a = b)
  | _, _ => false
theorem flat_rep {H : Hp} {d : D} {v : V} (h : Rep K H d v) (f : flatD d = true) : flatV v = true := by
  cases d with
  | non => cases (show v = V.non from h); rfl
  | bl b => cases (show v = V.bl b from h); rfl
  | int b => cases (show v = V.int b from h); rfl
  | str b => cases (show v = V.str b from h); rfl
  | obj b => cases f
  | tup ds => cases f
  | fl ds => cases f
theorem eqF_rep {H : Hp} {d e : D} {v w : V} (h : Rep K H d v) (h' : Rep K H e w) (f : flatD d = true) (f' : flatD e = true) : eqV v w = eqF d e := by
  cases d with
  | obj b => cases f
  | tup ds => cases f
  | fl ds => cases f
  | non =>
    cases (show v = V.non from h)
    cases e with
    | obj b => cases f'
    | tup ds => cases f'
    | fl ds => cases f'
    | non => cases (show w = V.non from h'); rfl
    | bl b => cases (show w = V.bl b from h'); rfl
    | int b => cases (show w = V.int b from h'); rfl
    | str b => cases (show w = V.str b from h'); rfl
  | bl b =>
    cases (show v = V.bl b from h)
    cases e with
    | obj b => cases f'
    | tup ds => cases f'
    | fl ds => cases f'
    | non => cases (show w = V.non from h'); rfl
    | bl b => cases (show w = V.bl b from h'); rfl
    | int b => cases (show w = V.int b from h'); rfl
    | str b => cases (show w = V.str b from h'); rfl
  | int b =>
    cases (show v = V.int b from h)
    cases e with
    | obj b => cases f'
    | tup ds => cases f'
    | fl ds => cases f'
    | non => cases (show w = V.non from h'); rfl
    | bl b => cases (show w = V.bl b from h'); rfl
    | int b => cases (show w = V.int b from h'); rfl
    | str b => cases (show w = V.str b from h'); rfl
  | str b =>
    cases (show v = V.str b from h)
    cases e with
    | obj b => cases f'
    | tup ds => cases f'
    | fl ds => cases f'
    | non => cases (show w = V.non from h'); rfl
    | bl b => cases (show w = V.bl b from h'); rfl
    | int b => cases (show w = V.int b from h'); rfl
    | str c => cases (show w = V.str c from h'); exact Bool.beq_eq_decide_eq b c
theorem flats_rep {H : Hp} : ∀ {ds : List D} {vs : List V}, RepL K H ds vs → ds.all flatD = true → vs.all flatV = true
  | [], vs, h, _ => by cases (show vs = [] from h); rfl
  | d :: ds, _, h, f => by
    obtain ⟨v, r, rfl, h1, h2⟩ := h
    rw [List.all_cons, Bool.and_eq_true] at f ⊢
    exact ⟨flat_rep h1 f.1, flats_rep h2 f.2⟩
theorem inF_rep {H : Hp} {x : V} {dx : D} (hx : Rep K H dx x) (fx : flatD dx = true) : ∀ {ds : List D} {vs : List V}, RepL K H ds vs → ds.all flatD = true → inV x vs = ds.any fun y => eqF y dx
  | [], vs, h, _ => by cases (show vs = [] from h); rfl
  | d :: ds, _, h, f => by
    obtain ⟨v, r, rfl, h1, h2⟩ := h
    rw [List.all_cons, Bool.and_eq_true] at f
    show (eqV v x || inV x r) = _
    rw [eqF_rep h1 hx f.1 fx, inF_rep hx fx h2 f.2, List.any_cons]
def rInA (K : PySem.W.Frag) (neg : Bool) : R2 := fun x y H Q => rIn K neg x y H Q ∨ (if neg then rNotInD K x y H Q else rInD K x y H Q) ∨ ∃ (c : Nat) (z : Str), x = .str ⟨#[c]⟩ ∧ y = .str z ∧ Q (.bl (if neg then !decide (c ∈ z.cps.toList) else decide (c ∈ z.cps.toList))) H
theorem op_inA (hu : X.A.units + 65 < cLine) : OpR X (compareOp .In) (rInA X.K false) := op_in_seq.or ((op_inD hu).or op_in_sign)
theorem op_notInA (hu : X.A.units + 65 < cLine) : OpR X (compareOp .NotIn) (rInA X.K true) := op_notIn_seq.or ((op_notInD hu).or op_notIn_sign)
def ρIn (neg : Bool) : AR2 := fun x y M Q => match y with
  | .tup ds => flatD x = true ∧ ds.all flatD = true ∧ Q (.bl (if neg then !(ds.any fun y => eqF y x) else ds.any fun y => eqF y x)) M
  | .obj a => lstAt M a fun ds => ((flatD x = true ∧ ds.all flatD = true ∧ Q (.bl (if neg then !(ds.any fun y => eqF y x) else ds.any fun y => eqF y x)) M) ∨
      ∃ p ps, x.py = some p ∧ D.pys ds = some ps ∧ SeqAt.shaped p = true ∧ SeqAt.shaped (.list ps) = true ∧ Q (.bl (if neg then !(ps.any fun z => PyData.eqv z p) else ps.any fun z => PyData.eqv z p)) M)
  | .str z => ∃ c : Nat, x = .str ⟨#[c]⟩ ∧ Q (.bl (if neg then !decide (c ∈ z.cps.toList) else decide (c ∈ z.cps.toList))) M
  | _ => False
theorem sim_in {neg : Bool} : SimR K (rInA K neg) (ρIn neg) := by
  intro x y dx dy H M Q Qc ab rx ry q k
  cases dy with
  | tup ds =>
    obtain ⟨f, fs, q⟩ := q
    obtain ⟨p, vs, rfl, hp, hv⟩ := ry
    refine .inl ⟨p, vs, rfl, .inr hp, flat_rep rx f, flats_rep hv fs, k _ H (.bl _) M (Tr.refl ab) rfl ?_⟩
    rw [inF_rep rx f hv fs]
    exact q
  | obj a =>
    obtain ⟨ds, m, q⟩ := lstAt_ex q
    cases (show y = V.ref a from ry)
    obtain ⟨vs, h1, hv⟩ := ab a _ m
    rcases q with ⟨f, fs, q⟩ | ⟨p, ps, e1, e2, s1, s2, q⟩
    · refine .inl ⟨a, vs, rfl, .inl (SqL.of h1), flat_rep rx f, flats_rep hv fs, k _ H (.bl _) M (Tr.refl ab) rfl ?_⟩
      rw [inF_rep rx f hv fs]
      exact q
    · refine .inr (.inl ?_)
      cases neg with
      | true => exact ⟨p, ps, Rep.dp dx x p rx e1, .lst (SqL.of h1) (RepL.dp ds vs ps hv e2), s1, s2, k _ H (.bl _) M (Tr.refl ab) rfl q⟩
      | false => exact ⟨p, ps, Rep.dp dx x p rx e1, .lst (SqL.of h1) (RepL.dp ds vs ps hv e2), s1, s2, k _ H (.bl _) M (Tr.refl ab) rfl q⟩
  | str z =>
    obtain ⟨c, rfl, q⟩ := q
    cases (show x = V.str _ from rx)
    cases (show y = V.str _ from ry)
    exact .inr (.inr ⟨c, z, rfl, rfl, k _ H (.bl _) M (Tr.refl ab) rfl q⟩)
  | _ => exact q.elim
def ρIx : AR2 := fun x y M Q => match x, y with
  | .tup ds, .int i => optAt (atI ds i) fun d => Q d M
  | .str z, .int i => z.length ≤ sizeLine ∧ optAt (atI z.cps.toList i) fun c => Q (.str ⟨#[c]⟩) M
  | .obj a, .int i => lstAt M a fun ds => optAt (atI ds i) fun d => Q d M
  | .fl ds, .int i => optAt (atI ds i) fun d => Q d M
  | _, _ => False
theorem rep_at {H : Hp} {ds : List D} {vs : List V} {i : Int} {d : D} (h : RepL K H ds vs) (e : atI ds i = some d) : ∃ v, atI vs i = some v ∧ Rep K H d v := by
  unfold atI at e ⊢
  rw [Option.bind_eq_some_iff] at e
  obtain ⟨j, e1, e2⟩ := e
  obtain ⟨v, e3, r⟩ := h.get e2
  exact ⟨v, by rw [← h.length, e1]; exact e3, r⟩
theorem sim_ix : SimR K (rIx K) ρIx := by
  intro x y dx dy H M Q Qc ab rx ry q k
  cases dx with
  | tup ds =>
    cases dy with
    | int i =>
      obtain ⟨d, e, q⟩ := optAt_ex q
      obtain ⟨p, vs, rfl, hp, hv⟩ := rx
      cases (show y = V.int i from ry)
      obtain ⟨v, e', r⟩ := rep_at hv e
      exact .inr (.inl ⟨p, vs, i, v, rfl, rfl, hp, e', k v H d M (Tr.refl ab) r q⟩)
    | _ => exact False.elim q
  | str z =>
    cases dy with
    | int i =>
      obtain ⟨l, q⟩ := q
      obtain ⟨c, e, q⟩ := optAt_ex q
      cases (show x = V.str z from rx)
      cases (show y = V.int i from ry)
      exact .inr (.inr ⟨z, i, c, rfl, rfl, l, e, k _ H (.str _) M (Tr.refl ab) rfl q⟩)
    | _ => exact False.elim q
  | obj a =>
    cases dy with
    | int i =>
      obtain ⟨ds, m, q⟩ := lstAt_ex q
      obtain ⟨d, e, q⟩ := optAt_ex q
      cases (show x = V.ref a from rx)
      cases (show y = V.int i from ry)
      obtain ⟨vs, h1, hv⟩ := ab a _ m
      obtain ⟨v, e', r⟩ := rep_at hv e
      exact .inl ⟨a, vs, i, v, rfl, rfl, SqL.of h1, e', k v H d M (Tr.refl ab) r q⟩
    | _ => exact False.elim q
  | fl ds =>
    cases dy with
    | int i =>
      obtain ⟨d, e, q⟩ := optAt_ex q
      obtain ⟨p, vs, rfl, hp, hv⟩ := rx
      cases (show y = V.int i from ry)
      obtain ⟨v, e', r⟩ := rep_at hv e
      exact .inl ⟨p, vs, i, v, rfl, rfl, hp.l, e', k v H d M (Tr.refl ab) r q⟩
    | _ => exact False.elim q
  | _ => exact False.elim q
theorem ae_ix {W : WX} {a b : Expr} {α β : ATE} {pos : Pos} (ha : AE X W a α) (hb : AE X W b β) (hs : PlainIx b) : AE X W (.Subscript a b pos) (aOp ρIx α β) := PE.imp (pe_ix ix_seq ha hb hs) fun _ _ _ => s_op sim_ix
end

section
variable {W : WX} {X : Cx} {a b c : Expr} {α β γ : ATE} {A B : ATT} {rest : List Expr} {pos : Pos}
def aTest (a : ATE) : ATT := fun ax env M Q => a ax env M fun x M1 => match x with
  | .bl b => Q b M1
  | _ => False
theorem at_cmpR {op : CmpOp} {r : R2} {ρ : AR2} (ho : OpR X (compareOp op) r) (hr : SimR X.K r ρ) (ha : AE X W a α) (hb : AE X W b β) (hm : behindInMarks op b = false) : AT X W (.Compare a [op] [b] pos) (aTest (aOp ρ α β)) :=
  PT.imp (pt_cmpR ho ha hb hm) fun σ H Q h => by
    obtain ⟨ax, env, M, Qa, S, q, k⟩ := h
    refine s_op hr (ρ := ρ) ⟨ax, env, M, _, S, q, fun v H' d M' t r q => ?_⟩
    cases d with
    | bl b => cases (show v = V.bl b from r); exact ⟨b, rfl, k b H' M' t q⟩
    | _ => exact False.elim q
def aTruth (a : ATE) : ATT := fun ax env M Q => a ax env M fun x M1 => match x with
  | .non => Q false M1
  | .bl b => Q b M1
  | .int i => Q (i != 0) M1
  | .str z => z.length ≤ sizeLine ∧ Q ((z.length : Int) != 0) M1
  | .tup ds => Q (!ds.isEmpty) M1
  | .obj p => match M1 p with
    | some (.lst ds) => Q (!ds.isEmpty) M1
    | some (.dic kvs) => Q (!kvs.isEmpty) M1
    | _ => False
  | .fl _ => False
theorem isEmpty_rep {K : PySem.W.Frag} {H : Hp} {ds : List D} {vs : List V} (h : RepL K H ds vs) : vs.isEmpty = ds.isEmpty := by
  cases ds with
  | nil => cases (show vs = [] from h); rfl
  | cons d ds => obtain ⟨v, r, rfl, _⟩ := h; rfl
theorem isEmpty_repK {K : PySem.W.Frag} {H : Hp} {ds : List (Key × D)} {vs : List (Key × V)} (h : RepK K H ds vs) : vs.isEmpty = ds.isEmpty := by
  cases h <;> rfl
theorem at_truth (ha : AE X W a α) (he : ∀ whole, isTrue a X.env whole = (do let v ← whole; standAt a.pos; holding [v] (truthy v)) := by intro _; rfl) : AT X W a (aTruth α) :=
  PT.imp (pt_truth ha he) fun σ H Q h => by
    obtain ⟨ax, env, M, Qa, S, q, k⟩ := h
    refine ⟨ax, env, M, _, S, q, fun v H' d M' t r q => ?_⟩
    cases d with
    | non => cases (show v = V.non from r); exact ⟨false, rfl, k _ H' M' t q⟩
    | bl b => cases (show v = V.bl b from r); exact ⟨b, rfl, k _ H' M' t q⟩
    | int i => cases (show v = V.int i from r); exact ⟨_, rfl, k _ H' M' t q⟩
    | str z => cases (show v = V.str z from r); exact ⟨_, ⟨q.1, rfl⟩, k _ H' M' t q.2⟩
    | tup ds =>
      obtain ⟨p, vs, rfl, hp, hv⟩ := r
      exact ⟨_, .inr (.inl ⟨vs, hp, by rw [isEmpty_rep hv]⟩), k _ H' M' t q⟩
    | obj p =>
      cases (show v = V.ref p from r)
      have q' : (match M' p with | some (.lst ds) => Qa (!ds.isEmpty) M' | some (.dic kvs) => Qa (!kvs.isEmpty) M' | _ => False) := q
      split at q'
      · rename_i m
        obtain ⟨vs, h1, hv⟩ := t.abs p _ m
        exact ⟨_, .inl ⟨vs, SqL.of h1, by rw [isEmpty_rep hv]⟩, k _ H' M' t q'⟩
      · rename_i m
        obtain ⟨vs, h1, hv⟩ := t.abs p _ m
        exact ⟨_, .inr (.inr ⟨vs, h1, by rw [isEmpty_repK hv]⟩), k _ H' M' t q'⟩
      · exact q'.elim
    | fl ds => exact False.elim q
def aAnd (A B : ATT) : ATT := fun ax env M Q => A ax env M fun c M1 => if c = true then B ax env M1 Q else Q false M1
def aOr (A B : ATT) : ATT := fun ax env M Q => A ax env M fun c M1 => if c = true then Q true M1 else B ax env M1 Q
def aNot (A : ATT) : ATT := fun ax env M Q => A ax env M fun c M1 => Q (!c) M1
theorem aw_and1 (ha : AT X W a A) : AW X W (.BoolOp .And [a] pos) A := pw_and1 ha
theorem aw_or1 (ha : AT X W a A) : AW X W (.BoolOp .Or [a] pos) A := pw_or1 ha
theorem aw_and (ha : AT X W a A) (hb : AW X W (.BoolOp .And (b :: rest) pos) B) : AW X W (.BoolOp .And (a :: b :: rest) pos) (aAnd A B) := PW.imp (pw_and ha hb) fun σ H Q h => by
  obtain ⟨ax, env, M, Qa, S, q, k⟩ := h
  refine ⟨ax, env, M, _, S, q, fun c H1 M1 t q => ?_⟩
  cases c with
  | true => exact ⟨ax, env, M1, Qa, S.next t, q, fun b H' M' t' q => k b H' M' (t.trans t') q⟩
  | false => exact k false H1 M1 t q
theorem aw_or (ha : AT X W a A) (hb : AW X W (.BoolOp .Or (b :: rest) pos) B) : AW X W (.BoolOp .Or (a :: b :: rest) pos) (aOr A B) := PW.imp (pw_or ha hb) fun σ H Q h => by
  obtain ⟨ax, env, M, Qa, S, q, k⟩ := h
  refine ⟨ax, env, M, _, S, q, fun c H1 M1 t q => ?_⟩
  cases c with
  | false => exact ⟨ax, env, M1, Qa, S.next t, q, fun b H' M' t' q => k b H' M' (t.trans t') q⟩
  | true => exact k true H1 M1 t q
theorem at_w (h : AW X W a A) : AT X W a A := PW.pt h
theorem at_not (ha : AT X W a A) : AT X W (.UnaryOp .Not a pos) (aNot A) := PT.imp (pt_not ha) fun σ H Q h => by
  obtain ⟨ax, env, M, Qa, S, q, k⟩ := h
  exact ⟨ax, env, M, _, S, q, fun c H1 M1 t q => k _ H1 M1 t q⟩
def aChain (ρ ρ' : AR2) (a b c : ATE) : ATE := fun ax env M Q => a ax env M fun x M1 => b ax env M1 fun y M2 => ρ x y M2 fun z M3 => match z with
  | .bl k => if k = true then c ax env M3 fun w M4 => ρ' y w M4 Q else Q (.bl false) M3
  | _ => False
def aTru1 (d : D) (M : Sto) (Q : Bool → Prop) : Prop := match d with
  | .non => Q false
  | .bl b => Q b
  | .int i => Q (i != 0)
  | .str z => z.length ≤ sizeLine ∧ Q ((z.length : Int) != 0)
  | .tup ds => Q (!ds.isEmpty)
  | .obj p => match M p with
    | some (.lst ds) => Q (!ds.isEmpty)
    | some (.dic kvs) => Q (!kvs.isEmpty)
    | _ => False
  | .fl _ => False
theorem tru1_rep {K : PySem.W.Frag} {M : Sto} {H : Hp} (ab : Abs K M H) {d : D} {v : V} (r : Rep K H d v) {Q : Bool → Prop} (q : aTru1 d M Q) : ∃ k, TruV K v H k ∧ Q k := by
  cases d with
  | non => cases (show v = V.non from r); exact ⟨false, rfl, q⟩
  | bl b => cases (show v = V.bl b from r); exact ⟨b, rfl, q⟩
  | int i => cases (show v = V.int i from r); exact ⟨_, rfl, q⟩
  | str z => cases (show v = V.str z from r); exact ⟨_, ⟨q.1, rfl⟩, q.2⟩
  | tup ds =>
    obtain ⟨p, vs, rfl, hp, hv⟩ := r
    exact ⟨_, .inr (.inl ⟨vs, hp, by rw [isEmpty_rep hv]⟩), q⟩
  | obj p =>
    cases (show v = V.ref p from r)
    have q' : (match M p with | some (.lst ds) => Q (!ds.isEmpty) | some (.dic kvs) => Q (!kvs.isEmpty) | _ => False) := q
    split at q'
    · rename_i m
      obtain ⟨vs, h1, hv⟩ := ab p _ m
      exact ⟨_, .inl ⟨vs, SqL.of h1, by rw [isEmpty_rep hv]⟩, q'⟩
    · rename_i m
      obtain ⟨vs, h1, hv⟩ := ab p _ m
      exact ⟨_, .inr (.inr ⟨vs, h1, by rw [isEmpty_repK hv]⟩), q'⟩
    · exact q'.elim
  | fl ds => exact False.elim q
def aOrV (a b : ATE) : ATE := fun ax env M Q => a ax env M fun x M1 => aTru1 x M1 fun k => if k = true then Q x M1 else b ax env M1 Q
def aAndV (a b : ATE) : ATE := fun ax env M Q => a ax env M fun x M1 => aTru1 x M1 fun k => if k = true then b ax env M1 Q else Q x M1
def aNotV (a : ATE) : ATE := fun ax env M Q => a ax env M fun x M1 => aTru1 x M1 fun k => Q (.bl (!k)) M1
theorem ae_one {op} (h : AE X W a α) : AE X W (.BoolOp op [a] pos) α := pe_one h
theorem ae_and (ha : AE X W a α) (hb : AE X W (.BoolOp .And (b :: rest) pos) β) : AE X W (.BoolOp .And (a :: b :: rest) pos) (aAndV α β) := PE.imp (pe_andT ha hb) fun σ H Q h => by
  obtain ⟨ax, env, M, Qa, S, q, k⟩ := h
  refine ⟨ax, env, M, _, S, q, fun x H1 dx M1 t r q => ?_⟩
  obtain ⟨b, tv, q⟩ := tru1_rep t.abs r q
  refine ⟨b, tv, ?_⟩
  cases b with
  | false => exact k x H1 dx M1 t r q
  | true => exact ⟨ax, env, M1, Qa, S.next t, q, fun v H' d M' t' r' q => k v H' d M' (t.trans t') r' q⟩
theorem ae_not (ha : AE X W a α) : AE X W (.UnaryOp .Not a pos) (aNotV α) := PE.imp (pe_notT ha) fun σ H Q h => by
  obtain ⟨ax, env, M, Qa, S, q, k⟩ := h
  refine ⟨ax, env, M, _, S, q, fun x H1 dx M1 t r q => ?_⟩
  obtain ⟨b, tv, q⟩ := tru1_rep t.abs r q
  exact ⟨b, tv, k _ H1 (.bl (!b)) M1 t rfl q⟩
def aIfE (A : ATT) (a b : ATE) : ATE := fun ax env M Q => A ax env M fun c M1 => if c = true then a ax env M1 Q else b ax env M1 Q
def aNeg (a : ATE) : ATE := fun ax env M Q => a ax env M fun x M1 => match x with
  | .int i => Q (.int (-i)) M1
  | _ => False
end

section
variable {W : WX} {X : Cx} {e : Expr} {es : List Expr} {α β : ATE} {τ : ATA} {pos : Pos} {x : Str} {p : Pos}
def aNil : ATA := fun _ _ M Q => Q [] M
def aCons (a : ATE) (r : ATA) : ATA := fun ax env M Q => a ax env M fun x M1 => r ax env M1 fun xs M2 => Q (x :: xs) M2
theorem aa_nil : AA X W [] aNil := PA.imp pa_nil fun σ H Q h => by
  obtain ⟨ax, env, M, Qa, S, q, k⟩ := h
  exact k [] H [] M (Tr.refl S.abs) rfl q
theorem aa_cons (ha : AE X W e α) (hr : AA X W es τ) (hs : starEach (e :: es) X.env = (false, eval e X.env) :: starEach es X.env := by rfl) : AA X W (e :: es) (aCons α τ) := PA.imp (pa_cons ha hr hs) fun σ H Q h => by
  obtain ⟨ax, env, M, Qa, S, q, k⟩ := h
  refine ⟨ax, env, M, _, S, q, fun v H1 d M1 t r q => ?_⟩
  exact ⟨ax, env, M1, _, S.next t, q, fun vs H2 ds M2 t2 r2 q2 => k (v :: vs) H2 (d :: ds) M2 (t.trans t2) ⟨v, vs, rfl, t2.rep t.abs r, r2⟩ q2⟩
def aTup (τ : ATA) : ATE := fun ax env M Q => τ ax env M fun ds M1 => ds.length ≤ sizeLine ∧ Q (.tup ds) M1
def aLst (τ : ATA) : ATE := fun ax env M Q => τ ax env M fun ds M1 => ds.length ≤ sizeLine ∧ New (.lst ds) M1 Q
theorem ae_tup {x1} (h : AA X W es τ) : AE X W (.Tuple es x1 pos) (aTup τ) := PE.imp (pe_tup h) fun σ H Q h => by
  obtain ⟨ax, env, M, Qa, S, q, k⟩ := h
  refine ⟨ax, env, M, _, S, q, fun vs H1 ds M1 t r q => ?_⟩
  refine ⟨by rw [← r.length]; exact q.1, fun p hp => ?_⟩
  exact k _ _ (.tup ds) M1 (t.trans (Tr.newT t.abs hp)) (rep_newT hp r) q.2
theorem ae_lst (h : AA X W es τ) : AE X W (.List es pos) (aLst τ) := PE.imp (pe_lst h) fun σ H Q h => by
  obtain ⟨ax, env, M, Qa, S, q, k⟩ := h
  refine ⟨ax, env, M, _, S, q, fun vs H1 ds M1 t r q => ?_⟩
  refine ⟨by rw [← r.length]; exact q.1, fun p hp => ?_⟩
  exact k _ _ (.obj p) _ (t.trans (Tr.newM (mo := .lst ds) t.abs hp ⟨vs, upd_same, repL_new hp r⟩)) rfl (q.2 p (t.abs.fresh hp))
def aDNew : ATE := fun _ _ M Q => New (.dic []) M Q
abbrev ASp := List D → Sto → (D → Sto → Prop) → (Value → List (Str × D) → Sto → Prop) → Prop
def conc (K : PySem.W.Frag) (n : Nat) (A : ASp) : Sp := fun vs H Q E => ∃ ds M Qa Xa, vs.length = n ∧ RepL K H ds vs ∧ Abs K M H ∧ A ds M Qa Xa ∧ (∀ v H' d M', Tr K M H M' H' → Rep K H' d v → Qa d M' → Q v H') ∧
  ∀ cls d H' M' fs, Tr K M H M' H' → RepX K H' d fs → Xa cls fs M' → E cls d H'
def xa0 : Value → List (Str × D) → Sto → Prop := fun _ _ _ => False
def Wait (n : Nat) (A : ASp) (ds : List D) (M : Sto) (Q : D → Sto → Prop) : Prop := ds.length = n ∧ A ds M Q xa0
def aCall (n : Nat) (A : ASp) (τ : ATA) : ATE := fun ax env M Q => τ ax env M fun ds M1 => Wait n A ds M1 Q
variable {CX : CXT} {k : Nat} {f : Addr} {fd : FuncData} {ps : List Str} {A : ASp} {n : Nat}
theorem s_call {K : PySem.W.Frag} {σ : L2.St} {H : Hp} {Q : VK} (h : cE K W (aCall n A τ) σ H Q) : tCall (conc K n A) [] E0 (cA K W τ) σ H Q := by
  obtain ⟨ax, env, M, Qa, S, q, k⟩ := h
  refine ⟨ax, env, M, _, S, q, fun vs H1 ds M1 t r q => ?_⟩
  show conc K n A (vs ++ []) H1 Q E0
  rw [List.append_nil]
  exact ⟨ds, M1, Qa, xa0, by rw [← r.length]; exact q.1, r, t.abs, q.2, fun v H' d M' t' r' q' => k v H' d M' (t.trans t') r' q', fun cls d H' M' fs t' rx q' => q'.elim⟩
theorem ae_call (F : FnOk X.prog X.w X.K X.mg X.base CX0 k f fd ps (conc X.K n A)) (hr : Room k X.A) (hg : Gl X x) (hm : X.mg x = some (.ref f)) (hk : PySem.W.keepIn X.K (.ref f) = true) (hb : Binds X.K fd ps [])
    (ha : AA X W (e :: es) τ) (hdb : (x == ("__debug__" : Str)) = false := by decide) (he : starEach (e :: es) X.env = (false, eval e X.env) :: starEach es X.env := by rfl) (hpl : (backTo pos (starEach es X.env)).any (·.1) = false := by rfl) :
    AE X W (.Call (.Name x p) (e :: es) [] pos) (aCall n A τ) :=
  PE.imp (pe_call F hr hg hm hk hb .nil pass0 ha hdb he hpl) fun _ _ _ => s_call
def aCB (ρ : ARs) (τ : ATA) : ATE := fun ax env M Q => τ ax env M fun ds M1 => ρ ds M1 Q
theorem s_cb {K : PySem.W.Frag} {r : List V → Hp → VK → Prop} {ρ : ARs} (hr : SimC K r ρ) {σ : L2.St} {H : Hp} {Q : VK} (h : cE K W (aCB ρ τ) σ H Q) : tCB r (cA K W τ) σ H Q := by
  obtain ⟨ax, env, M, Qa, S, q, k⟩ := h
  refine ⟨ax, env, M, _, S, q, fun vs H1 ds M1 t r' q => ?_⟩
  exact hr vs ds H1 M1 Qa _ t.abs r' q fun v H' d M' t' r2 q' => k v H' d M' (t.trans t') r2 q'
variable {id T : String} {r : List V → Hp → VK → Prop} {ρ : ARs}
theorem ae_callB (hc : CallR X (.builtin id) r) (hs : SimC X.K r ρ) (hg : Gl X x) (hm : X.mg x = none) (hv : bootBuiltins x = some (.builtin id)) (ha : AA X W (e :: es) τ) (hn : x ≠ "__name__" := by decide) (hdb : (x == ("__debug__" : Str)) = false := by decide)
    (he : starEach (e :: es) X.env = (false, eval e X.env) :: starEach es X.env := by rfl) (hpl : (backTo pos (starEach es X.env)).any (·.1) = false := by rfl) : AE X W (.Call (.Name x p) (e :: es) [] pos) (aCB ρ τ) :=
  PE.imp (pe_callB hc hg hm hv ha hn hdb he hpl) fun _ _ _ => s_cb hs
theorem ae_callTy (hc : CallR X (.type T) r) (hs : SimC X.K r ρ) (hg : Gl X x) (hm : X.mg x = none) (hv : bootBuiltins x = some (.type T)) (ha : AA X W (e :: es) τ) (hn : x ≠ "__name__" := by decide) (hdb : (x == ("__debug__" : Str)) = false := by decide)
    (he : starEach (e :: es) X.env = (false, eval e X.env) :: starEach es X.env := by rfl) (hpl : (backTo pos (starEach es X.env)).any (·.1) = false := by rfl) : AE X W (.Call (.Name x p) (e :: es) [] pos) (aCB ρ τ) :=
  PE.imp (pe_callTy hc hg hm hv ha hn hdb he hpl) fun _ _ _ => s_cb hs
variable {K : PySem.W.Frag}
def rLenA (K : PySem.W.Frag) : List V → Hp → VK → Prop := fun xs H Q => (∃ p ys, xs = [.ref p] ∧ (SqL K H p ys ∨ SqT K H p ys) ∧ Q (.int ys.length) H) ∨ (∃ z, xs = [.str z] ∧ z.length ≤ sizeLine ∧ Q (.int z.length) H)
theorem call_lenA : CallR X (.builtin "len") (rLenA X.K) := call_len_seq.or call_len_str
def ρLen : ARs := fun ds M Q => match ds with
  | [.tup ds] => Q (.int ds.length) M
  | [.str z] => z.length ≤ sizeLine ∧ Q (.int z.length) M
  | [.fl ds] => Q (.int ds.length) M
  | [.obj p] => lstAt M p fun ds => Q (.int ds.length) M
  | _ => False
theorem repL1 {H : Hp} {d : D} {xs : List V} (h : RepL K H [d] xs) : ∃ v, xs = [v] ∧ Rep K H d v := by
  obtain ⟨v, r, rfl, h1, h2⟩ := h
  cases (show r = [] from h2)
  exact ⟨v, rfl, h1⟩
theorem repL2 {H : Hp} {d e : D} {xs : List V} (h : RepL K H [d, e] xs) : ∃ v w, xs = [v, w] ∧ Rep K H d v ∧ Rep K H e w := by
  obtain ⟨v, r, rfl, h1, h2⟩ := h
  obtain ⟨w, rfl, h3⟩ := repL1 h2
  exact ⟨v, w, rfl, h1, h3⟩
theorem sim_len : SimC K (rLenA K) ρLen := by
  intro xs ds H M Q Qc ab rx q k
  unfold ρLen at q
  split at q
  · obtain ⟨v, rfl, r1⟩ := repL1 rx
    obtain ⟨p, vs, rfl, hp, hv⟩ := r1
    exact .inl ⟨p, vs, rfl, .inr hp, k _ H (.int _) M (Tr.refl ab) rfl (by rw [← hv.length]; exact q)⟩
  · obtain ⟨v, rfl, r1⟩ := repL1 rx
    cases (show v = V.str _ from r1)
    exact .inr ⟨_, rfl, q.1, k _ H (.int _) M (Tr.refl ab) rfl q.2⟩
  · obtain ⟨v, rfl, r1⟩ := repL1 rx
    obtain ⟨p, vs, rfl, hp, hv⟩ := r1
    exact .inl ⟨p, vs, rfl, .inl hp.l, k _ H (.int _) M (Tr.refl ab) rfl (by rw [← hv.length]; exact q)⟩
  · obtain ⟨v, rfl, r1⟩ := repL1 rx
    cases (show v = V.ref _ from r1)
    obtain ⟨ds, m, q⟩ := lstAt_ex q
    obtain ⟨vs, h1, hv⟩ := ab _ _ m
    exact .inl ⟨_, vs, rfl, .inl (SqL.of h1), k _ H (.int _) M (Tr.refl ab) rfl (by rw [← hv.length]; exact q)⟩
  · exact q.elim
def ρInt : ARs := fun ds M Q => match ds with
  | [.int i] => Q (.int i) M
  | [.bl b] => Q (.int (if b then 1 else 0)) M
  | _ => False
theorem sim_int : SimC K (fun xs H Q => (∃ i, xs = [.int i] ∧ Q (.int i) H) ∨ ∃ k, xs = [.bl k] ∧ Q (.int (if k then 1 else 0)) H) ρInt := by
  intro xs ds H M Q Qc ab rx q k
  unfold ρInt at q
  split at q
  · obtain ⟨v, rfl, r1⟩ := repL1 rx
    cases (show v = V.int _ from r1)
    exact .inl ⟨_, rfl, k _ H (.int _) M (Tr.refl ab) rfl q⟩
  · obtain ⟨v, rfl, r1⟩ := repL1 rx
    cases (show v = V.bl _ from r1)
    exact .inr ⟨_, rfl, k _ H (.int _) M (Tr.refl ab) rfl q⟩
  · exact q.elim
def ρTuple : ARs := fun ds M Q => match ds with
  | [.tup ds] => Q (.tup ds) M
  | [.obj p] => lstAt M p fun ds => Q (.tup ds) M
  | _ => False
theorem sim_tuple : SimC K (fun xs H Q => ∃ p ys, xs = [.ref p] ∧ ((SqL K H p ys ∧ ∀ l, H l = none → Q (.ref l) (upd H l (.tup ys))) ∨ (SqT K H p ys ∧ Q (.ref p) H))) ρTuple := by
  intro xs ds H M Q Qc ab rx q k
  unfold ρTuple at q
  split at q
  · obtain ⟨v, rfl, r1⟩ := repL1 rx
    obtain ⟨p, vs, rfl, hp, hv⟩ := r1
    exact ⟨p, vs, rfl, .inr ⟨hp, k _ H (.tup _) M (Tr.refl ab) ⟨p, vs, rfl, hp, hv⟩ q⟩⟩
  · obtain ⟨v, rfl, r1⟩ := repL1 rx
    cases (show v = V.ref _ from r1)
    obtain ⟨ds, m, q⟩ := lstAt_ex q
    obtain ⟨vs, h1, hv⟩ := ab _ _ m
    exact ⟨_, vs, rfl, .inl ⟨SqL.of h1, fun l hl => k _ _ (.tup ds) M (Tr.newT ab hl) (rep_newT hl hv) q⟩⟩
  · exact q.elim
def ρList : ARs := fun ds M Q => match ds with
  | [.tup ds] => New (.lst ds) M Q
  | [.obj p] => lstAt M p fun ds => New (.lst ds) M Q
  | _ => False
theorem sim_list : SimC K (fun xs H Q => ∃ p ys, xs = [.ref p] ∧ (SqL K H p ys ∨ SqT K H p ys) ∧ ∀ l, H l = none → Q (.ref l) (upd H l (.lst ys))) ρList := by
  intro xs ds H M Q Qc ab rx q k
  unfold ρList at q
  split at q
  · rename_i ds
    obtain ⟨v, rfl, r1⟩ := repL1 rx
    obtain ⟨p, vs, rfl, hp, hv⟩ := r1
    exact ⟨p, vs, rfl, .inr hp, fun l hl => k _ _ (.obj l) _ (Tr.newM (mo := .lst ds) ab hl ⟨vs, upd_same, repL_new hl hv⟩) rfl (q l (ab.fresh hl))⟩
  · obtain ⟨v, rfl, r1⟩ := repL1 rx
    cases (show v = V.ref _ from r1)
    obtain ⟨ds, m, q⟩ := lstAt_ex q
    obtain ⟨vs, h1, hv⟩ := ab _ _ m
    exact ⟨_, vs, rfl, .inl (SqL.of h1), fun l hl => k _ _ (.obj l) _ (Tr.newM (mo := .lst ds) ab hl ⟨vs, upd_same, repL_new hl hv⟩) rfl (q l (ab.fresh hl))⟩
  · exact q.elim
def tyN (M : Sto) : D → String
  | .non => "NoneType" | .bl _ => "bool" | .int _ => "int" | .str _ => "str" | .tup _ => "tuple"
  | .obj p => match M p with
    | some (.lst _) => "list"
    | some (.dic _) => "dict"
    | _ => ""
  | .fl _ => ""
def aIsi (T : String) (a : ATE) : ATE := fun ax env M Q => a ax env M fun x M1 => optAt (kitB (tyN M1 x) T) fun b => Q (.bl b) M1
theorem rep_ty {M : Sto} {H : Hp} (ab : Abs K M H) {d : D} {v : V} (h : Rep K H d v) (hne : tyN M d ≠ "") : TyX K H v (.type (tyN M d)) := by
  cases d with
  | non => cases (show v = V.non from h); exact .base .non
  | bl b => cases (show v = V.bl b from h); exact .base (.bl b)
  | int b => cases (show v = V.int b from h); exact .base (.int b)
  | str b => cases (show v = V.str b from h); exact .base (.str b)
  | tup ds =>
    obtain ⟨a, vs, rfl, hT, _⟩ := h
    rcases hT with (hT | ⟨o, hT⟩) | ⟨o, its, n, hk, hc, _⟩
    · exact .base (.tup hT)
    · exact .fTuple hT
    · exact .kTuple hk hc
  | obj p =>
    cases (show v = V.ref p from h)
    cases m : M p with
    | none =>
      refine absurd ?_ hne
      show (match M p with | some (.lst _) => "list" | some (.dic _) => "dict" | _ => "") = ""
      rw [m]
    | some mo =>
      have z := ab p mo m
      cases mo with
      | lst ds =>
        obtain ⟨vs, h1, _⟩ := z
        have e : tyN M (.obj p) = "list" := by
          show (match M p with | some (.lst _) => "list" | some (.dic _) => "dict" | _ => "") = "list"
          rw [m]
        rw [e]
        exact .base (.lst h1)
      | dic ds =>
        obtain ⟨vs, h1, _⟩ := z
        have e : tyN M (.obj p) = "dict" := by
          show (match M p with | some (.lst _) => "list" | some (.dic _) => "dict" | _ => "") = "dict"
          rw [m]
        rw [e]
        exact .base (.dK h1)
      | raw o =>
        refine absurd ?_ hne
        show (match M p with | some (.lst _) => "list" | some (.dic _) => "dict" | _ => "") = ""
        rw [m]
      | dif od ws kvs =>
        refine absurd ?_ hne
        show (match M p with | some (.lst _) => "list" | some (.dic _) => "dict" | _ => "") = ""
        rw [m]
  | fl ds => exact absurd rfl hne
theorem ae_isi {y : Str} {py : Pos} {α : ATE} (hg : Gl X x) (hm : X.mg x = none) (hv : bootBuiltins x = some (.builtin "isinstance")) (ha : AE X W e α) (gy : Gl X y) (my : X.mg y = none) (vy : bootBuiltins y = some (.type T)) (hT : ∀ b, kitB "" T ≠ some b)
    (ny : y ≠ "__name__" := by decide) (dy : (y == ("__debug__" : Str)) = false := by decide) (hn : x ≠ "__name__" := by decide) (hdb : (x == ("__debug__" : Str)) = false := by decide)
    (h1 : starEach [e, .Name y py] X.env = (false, eval e X.env) :: starEach [.Name y py] X.env := by rfl) (h2 : starEach [.Name y py] X.env = (false, eval (.Name y py) X.env) :: starEach [] X.env := by rfl) (hpl : (backTo pos (starEach [.Name y py] X.env)).any (·.1) = false := by rfl) :
    AE X W (.Call (.Name x p) [e, .Name y py] [] pos) (aIsi T α) :=
  PE.imp (pe_callB call_isi hg hm hv (pa_cons ha (pa_cons (pe_bltn (v := .ty T) gy my vy rfl ny dy) pa_nil h2) h1) hn hdb h1 hpl) fun σ H Q h => by
    obtain ⟨ax, env, M, Qa, S, q, k⟩ := h
    refine ⟨ax, env, M, _, S, q, fun v H1 d M1 t r q => ?_⟩
    obtain ⟨b, e, q⟩ := optAt_ex q
    refine ⟨v, .ty T, .type (tyN M1 d), .type T, b, rfl, .ty T, rep_ty t.abs r fun z => ?_, kit_ty e, k _ H1 (.bl b) M1 t rfl q⟩
    rw [z] at e
    exact hT b e
end

section
variable {W : WX} {X : Cx} {e : Expr} {α β : ATE} {pos : Pos} {K : PySem.W.Frag}
abbrev ATO := AX → AEnv → Sto → (Option Int → Sto → Prop) → Prop
theorem PO.imp {X : Cx} {e : Option Expr} {t u : TO} (h : PO X e t) (k : ∀ σ H Q, u σ H Q → t σ H Q) : PO X e u := ⟨fun pins s σ H Q I q => h.run pins s σ H Q I (k σ H Q q)⟩
def aONone : ATO := fun _ _ M Q => Q none M
def aOSome (a : ATE) : ATO := fun ax env M Q => a ax env M fun x M1 => match x with
  | .int i => Q (some i) M1
  | _ => False
def cutL {α : Type} (xs : List α) (lo hi : Option Int) : List α := (xs.drop (HT.sIx xs.length 0 lo)).take (HT.sIx xs.length xs.length hi - HT.sIx xs.length 0 lo)
def aSl (a : ATE) (l h : ATO) : ATE := fun ax env M Q => a ax env M fun x M1 => l ax env M1 fun lo M2 => h ax env M2 fun hi M3 => match x with
  | .tup ds => Q (.tup (cutL ds lo hi)) M3
  | .str z => z.length ≤ sizeLine ∧ Q (.str (cutS z lo hi)) M3
  | .obj p => lstAt M3 p fun ds => New (.lst (cutL ds lo hi)) M3 Q
  | _ => False
def aRev (a : ATE) : ATE := fun ax env M Q => a ax env M fun x M1 => match x with
  | .obj p => lstAt M1 p fun ds => New (.lst ds.reverse) M1 Q
  | _ => False
end

section
variable {W : WX} {X : Cx} {e : Expr} {es : List Expr} {o : Expr} {α β : ATE} {τ : ATA} {pos apos cpos : Pos} {name : Str} {K : PySem.W.Frag}
def aLm (ρ : Addr → List D → List D → Sto → (D → Sto → Prop) → Prop) (a : ATE) (τ : ATA) : ATE := fun ax env M Q => a ax env M fun x M1 => match x with
  | .obj p => lstAt M1 p fun _ => τ ax env M1 fun xs M2 => lstAt M2 p fun ds => ρ p ds xs M2 Q
  | _ => False
def SimM (K : PySem.W.Frag) (r : V → List V → Hp → VK → Prop) (ρ : Addr → List D → List D → Sto → (D → Sto → Prop) → Prop) : Prop := ∀ p ds xs vs H M (Q : D → Sto → Prop) (Qc : VK), Abs K M H → M p = some (.lst ds) → RepL K H xs vs → ρ p ds xs M Q →
  (∀ v H' d M', Tr K M H M' H' → Rep K H' d v → Q d M' → Qc v H') → r (.ref p) vs H Qc
theorem s_lm {r : V → List V → Hp → VK → Prop} {ρ : Addr → List D → List D → Sto → (D → Sto → Prop) → Prop} (hr : SimM K r ρ) {σ : L2.St} {H : Hp} {Q : VK} (h : cE K W (aLm ρ α τ) σ H Q) : tBM K "list" r (cE K W α) (cA K W τ) σ H Q := by
  obtain ⟨ax, env, M, Qa, S, q, k⟩ := h
  refine ⟨ax, env, M, _, S, q, fun x H1 dx M1 t r q => ?_⟩
  cases dx with
  | obj p =>
    cases (show x = V.ref p from r)
    obtain ⟨ds, m, q⟩ := lstAt_ex q
    obtain ⟨vs, h1, hv⟩ := t.abs p _ m
    refine ⟨.inl ⟨rfl, _, SqL.of h1⟩, ax, env, M1, _, S.next t, q, fun vs H2 xs M2 t2 r2 q2 => ?_⟩
    obtain ⟨ds, m, q2⟩ := lstAt_ex q2
    exact hr p ds xs vs H2 M2 Qa _ t2.abs m r2 q2 fun v H' d M' t' r' q' => k v H' d M' ((t.trans t2).trans t') r' q'
  | _ => exact False.elim q
def ρAppend : Addr → List D → List D → Sto → (D → Sto → Prop) → Prop := fun p ds xs M Q => match xs with
  | [x] => ds.length < sizeLine ∧ Q .non (up M p (.lst (ds ++ [x])))
  | _ => False
theorem sim_append : SimM K rAppend ρAppend := by
  intro p ds xs vs H M Q Qc ab m rx q k
  unfold ρAppend at q
  split at q
  · rename_i x
    obtain ⟨v, rfl, r1⟩ := repL1 rx
    obtain ⟨ws, h1, hv⟩ := ab p _ m
    exact ⟨p, ws, v, rfl, rfl, h1, by rw [← hv.length]; exact q.1, k _ _ .non _ (Tr.write (mo := .lst (ds ++ [x])) ab m ⟨_, upd_same, repL_write ab m (hv.append (RepL.one r1))⟩) rfl q.2⟩
  · exact q.elim
def ρExtend : Addr → List D → List D → Sto → (D → Sto → Prop) → Prop := fun p ds xs M Q => match xs with
  | [.obj q] => lstAt M q fun es => ds.length + es.length ≤ sizeLine ∧ Q .non (up M p (.lst (ds ++ es)))
  | _ => False
theorem ae_append (ha : AE X W o α) (hb : AA X W (e :: es) τ) (hbase : attributeBase o "append" X.env (eval o X.env) = eval o X.env := by rfl)
    (hfew : ((backTo cpos (starEach (e :: es) X.env)).all (fun x => !x.1) && (backToKw cpos (keywordEach [] X.env)).all (fun x => x.1.isSome)
      && decide ((e :: es).length + ([] : List Keyword).length + (if ([] : List Keyword).isEmpty then 0 else 1) < 30)) = true := by rfl)
    (hline : (apos.endLine == cpos.line) = true := by rfl) (hs : starEach (e :: es) X.env = (false, eval e X.env) :: starEach es X.env := by rfl) (hplain : (backTo cpos (starEach es X.env)).any (·.1) = false := by rfl) :
    AE X W (.Call (.Attribute o "append" apos) (e :: es) [] cpos) (aLm ρAppend α τ) :=
  PE.imp (pe_bm PySem.F.plainAttrs_list PySem.F.slot_list_append PySem.F.type_list_append mt_append ha hb hbase hfew hline hs hplain) fun _ _ _ => s_lm sim_append
def aPop (a : ATE) : ATE := fun ax env M Q => a ax env M fun x M1 => match x with
  | .obj p => lstAt M1 p fun ds => optAt ds.getLast? fun d => Q d (up M1 p (.lst ds.dropLast))
  | _ => False
def strsOf : List D → Option (List Str)
  | [] => some []
  | .str x :: r => (strsOf r).map fun xs => x :: xs
  | _ :: _ => none
def strsM (M : Sto) : D → Option (List Str)
  | .tup ds => strsOf ds
  | .obj p => match M p with
    | some (.lst ds) => strsOf ds
    | _ => none
  | _ => none
theorem strsOf_map : ∀ (xs : List Str), strsOf (xs.map D.str) = some xs
  | [] => rfl
  | x :: xs => by show (strsOf (xs.map D.str)).map (fun ys => x :: ys) = _; rw [strsOf_map xs]; rfl
def aJoin (a b : ATE) : ATE := fun ax env M Q => a ax env M fun x M1 => match x with
  | .str z => b ax env M1 fun y M2 => optAt (strsM M2 y) fun xs => (xs.map (·.length)).sum + xs.length * z.length ≤ 16777216 ∧ Q (.str (Txt.join z xs)) M2
  | _ => False
end

section
variable {W : WX} {X : Cx} {o i value : Expr} {α β γ : ATE} {pos pos' apos cpos : Pos} {K : PySem.W.Frag}
def keyD : D → Option Key
  | .int i => some (.inl i)
  | .str x => some (.inr x)
  | _ => none
def valA (kvs : List (Key × D)) (k : Key) : Option D := (kvs.find? fun kv => decide (kv.1 = k)).map (·.2)
def putA (kvs : List (Key × D)) (k : Key) (v : D) : List (Key × D) :=
  if (kvs.any fun kv => decide (kv.1 = k)) = true then kvs.map (fun kv => if kv.1 = k then (kv.1, v) else kv) else kvs ++ [(k, v)]
def ρDGet : AR2 := fun x y M Q => match x with
  | .obj a => dicAt M a fun kvs => optAt (keyD y) fun k => optAt (valA kvs k) fun d => Q d M
  | _ => False
def ρDIn (neg : Bool) : AR2 := fun y x M Q => match x with
  | .obj a => dicAt M a fun kvs => optAt (keyD y) fun k => Q (.bl (if neg then !(valA kvs k).isSome else (valA kvs k).isSome)) M
  | _ => False
def aDGet2 (a b c : ATE) : ATE := fun ax env M Q => a ax env M fun x M1 => match x with
  | .obj p => dicAt M1 p fun _ => b ax env M1 fun y M2 => c ax env M2 fun z M3 => dicAt M3 p fun kvs => optAt (keyD y) fun k => Q ((valA kvs k).getD z) M3
  | _ => False
end

section
variable {W : WX} {X : Cx} {st : Stmt} {rest body orelse : List Stmt} {e tg : Expr} {α β : ATE} {A : ATT} {t u : ATS} {g : ATG} {pos pos' : Pos}
def aNext : ATS := fun _ D env M => D.nx env M
def aSeq (t u : ATS) : ATS := fun ax D env M => t ax { D with nx := u ax D } env M
theorem as_nil : ASs X W [] aNext := PSs.imp pss_nil fun D σ H h => by
  obtain ⟨ax, env, M, Da, S, q, k⟩ := h
  exact k.nx σ H env M (Tr.refl S.abs) S.rs q
theorem as_cons (h1 : AS X W st t) (h2 : ASs X W rest u) : ASs X W (st :: rest) (aSeq t u) := PSs.imp (pss_cons h1 h2) fun D σ H h => by
  obtain ⟨ax, env, M, Da, S, q, k⟩ := h
  refine ⟨ax, env, M, _, S, q, ⟨fun σ' H' env' M' tr rs q => ?_, k.bk, k.ct, k.rt⟩⟩
  exact ⟨ax, env', M', Da, S.at_ tr rs, q, k.next tr⟩
theorem as_one (h1 : AS X W st t) : ASs X W [st] t := pss_one h1
def aBreak : ATS := fun _ D env M => D.bk env M
def aCont : ATS := fun _ D env M => D.ct env M
def aExpr (a : ATE) : ATS := fun ax D env M => a ax env M fun _ M1 => D.nx env M1
theorem as_expr (he : AE X W e α) (hs : swapsWith e none pos.line X.env = pure false := by rfl) : AS X W (.Expr e pos) (aExpr α) := PS.imp (ps_expr he hs) fun D σ H h => by
  obtain ⟨ax, env, M, Da, S, q, k⟩ := h
  exact ⟨ax, env, M, _, S, q, fun v H' d M' t r q => k.nx σ H' env M' t (S.next t).rs q⟩
def aRet (a : ATE) : ATS := fun ax D env M => a ax env M D.rt
theorem as_ret (he : AE X W e α) : AS X W (.Return (some e) pos) (aRet α) := PS.imp (ps_ret he) fun D σ H h => by
  obtain ⟨ax, env, M, Da, S, q, k⟩ := h
  exact ⟨ax, env, M, _, S, q, k.rt⟩
def aRetN : ATS := fun _ D _ M => D.rt .non M
def aIf (A : ATT) (t u : ATS) : ATS := fun ax D env M => A ax env M fun b M1 => if b = true then t ax D env M1 else u ax D env M1
theorem as_if {c : Expr} {a b : List Stmt} (hc : AT X W c A) (ha : ASs X W a t) (hb : ASs X W b u) : AS X W (.If c a b pos) (aIf A t u) := PS.imp (ps_if hc ha hb) fun D σ H h => by
  obtain ⟨ax, env, M, Da, S, q, k⟩ := h
  refine ⟨ax, env, M, _, S, q, fun b H1 M1 tr q => ?_⟩
  cases b with
  | true => exact ⟨ax, env, M1, Da, S.next tr, q, k.next tr⟩
  | false => exact ⟨ax, env, M1, Da, S.next tr, q, k.next tr⟩
def aNever : ATS := fun _ _ _ _ => False
def agName (i : Nat) : ATG := fun d _ env M Q => Q (env.set i (some d)) M
theorem ag_name (i : Nat) {x : Str} (hN : X.N.Nodup) (hi : X.N[i]? = some x := by rfl) (hx : Loc X.env.scope x := by first | exact .inl rfl | exact .inr rfl) (hf : X.fn x = true ∨ X.env.scope.names.lookup x = some .local := by first | exact .inl rfl | exact .inr rfl | assumption) : AG X W (.Name x pos) (agName i) :=
  PG.imp (pg_name hN hi hx hf) fun v σ H Q h => by
    obtain ⟨d, ax, env, M, Qa, S, r, q, k⟩ := h
    exact k _ H _ M (Tr.refl S.abs) (S.rs.set r) q
abbrev ATGs := List D → AX → AEnv → Sto → (AEnv → Sto → Prop) → Prop
def cGs (K : PySem.W.Frag) (W : WX) (g : ATGs) : TGs := fun vs σ H Q => ∃ ds ax env M Qa, Stt K W ax env M σ H ∧ RepL K H ds vs ∧ g ds ax env M Qa ∧ ∀ σ' H' env' M', Tr K M H M' H' → RepS K H' env' σ' → Qa env' M' → Q σ' H'
abbrev AGs (X : Cx) (W : WX) (ts : List Expr) (g : ATGs) : Prop := PGs X ts (cGs X.K W g)
theorem PGs.imp {X : Cx} {e : List Expr} {t u : TGs} (h : PGs X e t) (k : ∀ v σ H Q, u v σ H Q → t v σ H Q) : PGs X e u := ⟨fun pins s σ H v w Q I r q => h.run pins s σ H v w Q I r (k v σ H Q q)⟩
def agNil : ATGs := fun ds _ env M Q => match ds with
  | [] => Q env M
  | _ => False
def agCons (g : ATG) (r : ATGs) : ATGs := fun ds ax env M Q => match ds with
  | d :: ds => g d ax env M fun env1 M1 => r ds ax env1 M1 Q
  | _ => False
theorem ags_nil : AGs X W [] agNil := PGs.imp pgs_nil fun v σ H Q h => by
  obtain ⟨ds, ax, env, M, Qa, S, r, q, k⟩ := h
  cases ds with
  | nil => exact ⟨r, k σ H env M (Tr.refl S.abs) S.rs q⟩
  | cons d ds => exact q.elim
theorem ags_cons {es : List Expr} {r : ATGs} (h1 : AG X W e g) (h2 : AGs X W es r) (hs : (assignEach (e :: es) X.env).map (·.2) = assign e X.env :: (assignEach es X.env).map (·.2) := by rfl) : AGs X W (e :: es) (agCons g r) := PGs.imp (pgs_cons h1 h2 hs) fun v σ H Q h => by
  obtain ⟨ds, ax, env, M, Qa, S, r, q, k⟩ := h
  cases ds with
  | nil => exact q.elim
  | cons d ds =>
    obtain ⟨v, vs, rfl, r1, r2⟩ := r
    refine ⟨v, vs, rfl, d, ax, env, M, _, S, r1, q, fun σ1 H1 env1 M1 t rs q => ?_⟩
    exact ⟨ds, ax, env1, M1, Qa, S.at_ t rs, t.repL S.abs r2, q, fun σ' H' env' M' t' => k σ' H' env' M' (t.trans t')⟩
def agTup (n : Nat) (g : ATGs) : ATG := fun d ax env M Q => match d with
  | .tup ds => ds.length = n ∧ g ds ax env M Q
  | _ => False
theorem ag_tup {es : List Expr} {k : Nat} {r : ATGs} {n : Nat} (hc : X.calm = true) (h : AGs X W es r)
    (hn : (assignEach es X.env).length = n := by rfl) (hst : (assignEach es X.env).findIdx? (·.1) = none := by rfl) : AG X W (.Tuple es k pos) (agTup n r) := PG.imp (pg_tup hc h hn hst) fun v σ H Q h => by
  obtain ⟨d, ax, env, M, Qa, S, r, q, k⟩ := h
  cases d with
  | tup ds =>
    obtain ⟨p, vs, rfl, hp, hv⟩ := r
    exact ⟨p, vs, rfl, hp, by rw [← hv.length]; exact q.1, ds, ax, env, M, Qa, S, hv, q.2, k⟩
  | _ => exact False.elim q
def aAsg (a : ATE) (g : ATG) : ATS := fun ax D env M => a ax env M fun d M1 => g d ax env M1 D.nx
theorem as_asg (he : AE X W e α) (hg : AG X W tg g) (hs : swapsWithSole [tg] e pos.line X.env = pure false := by rfl) (hw : swappedStores [tg] e X.env = pure none := by rfl)
    (h1 : (assignEach [tg] X.env).map (·.2) = [assign tg X.env] := by rfl) : AS X W (.Assign [tg] e pos) (aAsg α g) := PS.imp (ps_asg he hg hs hw h1) fun D σ H h => by
  obtain ⟨ax, env, M, Da, S, q, k⟩ := h
  refine ⟨ax, env, M, _, S, q, fun v H1 d M1 t r q => ?_⟩
  exact ⟨d, ax, env, M1, _, S.next t, r, q, fun σ' H' env' M' t' => k.nx σ' H' env' M' (t.trans t')⟩
theorem as_set (i : Nat) {x : Str} (hN : X.N.Nodup) (he : AE X W e α) (hi : X.N[i]? = some x := by rfl) (hx : Loc X.env.scope x := by first | exact .inl rfl | exact .inr rfl) (hs : swapsWith e (some (.Name x pos')) pos.line X.env = pure false := by rfl) (hf : X.fn x = true ∨ X.env.scope.names.lookup x = some .local := by first | exact .inl rfl | exact .inr rfl | assumption) :
    AS X W (.Assign [.Name x pos'] e pos) (aAsg α (agName i)) := PS.imp (ps_set hN hi hx he hs hf) fun D σ H h => by
  obtain ⟨ax, env, M, Da, S, q, k⟩ := h
  exact ⟨ax, env, M, _, S, q, fun v H1 d M1 t r q => k.nx _ H1 _ M1 t ((S.next t).rs.set r) q⟩
def agSub (a b : ATE) : ATG := fun d ax env M Q => a ax env M fun x M1 => b ax env M1 fun y M2 => match x, y with
  | .obj p, .int i => lstAt M2 p fun ds => optAt (ixN ds.length i) fun j => Q env (up M2 p (.lst (ds.set j d)))
  | _, _ => False
theorem ag_sub {o i : Expr} (ho : AE X W o α) (hi : AE X W i β)
    (ha : ∀ v, assign (.Subscript o i pos) X.env v = (do
      let ov ← holding [v] (eval o X.env)
      let iv ← holding [v, ov] (eval i X.env)
      standAt pos
      holding [v, ov, iv] (setItem ov iv v)
      release [v, ov, iv] []) := by intro _; rfl) : AG X W (.Subscript o i pos) (agSub α β) := PG.imp (pg_sub ho hi set_list ha) fun v σ H Q h => by
  obtain ⟨d, ax, env, M, Qa, S, r, q, k⟩ := h
  refine ⟨ax, env, M, _, S, q, fun x H1 dx M1 t1 rx q => ?_⟩
  refine ⟨ax, env, M1, _, S.next t1, q, fun y H2 dy M2 t2 ry q => ?_⟩
  cases dx with
  | obj p =>
    cases dy with
    | int i =>
      obtain ⟨ds, m, q⟩ := lstAt_ex q
      obtain ⟨j, e, q⟩ := optAt_ex q
      cases (show x = V.ref p from rx)
      cases (show y = V.int i from ry)
      obtain ⟨vs, h1, hv⟩ := t2.abs p _ m
      have t := t1.trans t2
      have rd := t.rep S.abs r
      have tw := Tr.write (mo := .lst (ds.set j d)) t2.abs m ⟨_, upd_same, repL_write t2.abs m (hv.set j rd)⟩
      exact ⟨p, vs, i, j, rfl, rfl, h1, by rw [← hv.length]; exact e, k σ _ env _ (t.trans tw) ((S.next t).next tw).rs q⟩
    | _ => exact False.elim q
  | _ => exact False.elim q
def aDPut (a b c : ATE) : ATS := fun ax D env M => c ax env M fun z M1 => a ax env M1 fun x M2 => b ax env M2 fun y M3 => match x with
  | .obj p => dicAt M3 p fun kvs => optAt (keyD y) fun k => kvs.length < sizeLine ∧ D.nx env (up M3 p (.dic (putA kvs k z)))
  | _ => False
def aAug (ρ : AR2) (i : Nat) (a : ATE) : ATS := fun ax D env M => optAt env[i]? fun o => optAt o fun x => a ax env M fun y M1 => ρ x y M1 fun z M2 => D.nx (env.set i (some z)) M2
def ρIAdd : AR2 := fun x y M Q => match x, y with
  | .int i, .int j => Q (.int (i + j)) M
  | .str i, .str j => i.length + j.length ≤ sizeLine ∧ Q (.str (i ++ j)) M
  | .obj p, .obj q => lstAt M p fun ds => lstAt M q fun es => ds.length + es.length ≤ sizeLine ∧ Q (.obj p) (up M p (.lst (ds ++ es)))
  | _, _ => False
end

section
variable {W : WX} {X : Cx} {body : List Stmt} {e tg iter : Expr} {α β : ATE} {A : ATT} {t u : ATS} {g : ATG} {ι : ATI} {pos pos' : Pos}
def aForGo (chk : Sto → Prop) (g : ATG) (b : ATS) (ax : AX) (De : AEnds) : List D → AEnv → Sto → Prop
  | [], env, M => chk M ∧ De.nx env M
  | d :: r, env, M => chk M ∧ g d ax env M fun env1 M1 => b ax ⟨aForGo chk g b ax De r, De.rt, De.nx, aForGo chk g b ax De r⟩ env1 M1
def aFor (ι : ATI) (g : ATG) (b : ATS) : ATS := fun ax D env M => ι ax env M fun items chk M1 => aForGo chk g b ax D items env M1
theorem drop_at {α : Type} {l : List α} {i : Nat} {x : α} {r : List α} (h : l.drop i = x :: r) : l[i]? = some x ∧ l.drop (i + 1) = r ∧ i < l.length := by
  have hi : i < l.length := by
    by_cases hi : i < l.length
    · exact hi
    · rw [List.drop_eq_nil_of_le (by omega)] at h
      cases h
  rw [List.drop_eq_getElem_cons hi] at h
  injection h with h1 h2
  exact ⟨by rw [List.getElem?_eq_getElem hi, h1], h2, hi⟩
theorem drop_end {α : Type} {l : List α} {i : Nat} (h : l.drop i = []) : l[i]? = none := List.getElem?_eq_none (List.drop_eq_nil_iff.mp h)
theorem s_for {K : PySem.W.Frag} {D : Ends} {σ : L2.St} {H : Hp} (h : cS K W (aFor ι g t) D σ H) : tFor (cI K W ι) (cG K W g) (cS K W t) D σ H := by
  obtain ⟨ax, env, M, Da, S, q, k⟩ := h
  refine ⟨ax, env, M, _, S, q, fun J items chk M1 H1 t1 sim q => ?_⟩
  refine ⟨fun i m σ' H' => m = items.length - i ∧ ∃ env' M', Tr K M1 H1 M' H' ∧ RepS K H' env' σ' ∧ aForGo chk g t ax Da (items.drop i) env' M', ⟨items.length, rfl, env, M1, Tr.refl t1.abs, (S.next t1).rs, q⟩, ?_⟩
  rintro i m σ2 H2 ⟨rfl, env2, M2, t2, rs2, q2⟩
  cases hd : items.drop i with
  | nil =>
    rw [hd] at q2
    exact .inl ⟨(sim i M2 H2 t2 q2.1).2 (drop_end hd), k.nx σ2 H2 env2 M2 (t1.trans t2) rs2 q2.2⟩
  | cons d r =>
    rw [hd] at q2
    obtain ⟨hi, hr, hl⟩ := drop_at hd
    obtain ⟨go, yld⟩ := (sim i M2 H2 t2 q2.1).1 d hi
    refine .inr ⟨go, fun σ' H' => ∃ env' M', Tr K M1 H1 M' H' ∧ RepS K H' env' σ' ∧ aForGo chk g t ax Da (items.drop (i + 1)) env' M', fun σ' H' z => ⟨items.length - (i + 1), by omega, rfl, z⟩, fun x H3 y => ?_⟩
    obtain ⟨t3, r3⟩ := yld x H3 y
    have t23 := t2.trans t3
    refine ⟨d, ax, env2, M2, _, (S.at_ (t1.trans t2) rs2).next t3, r3, q2.2, fun σ4 H4 env4 M4 t4 rs4 q4 => ?_⟩
    have t24 := t23.trans t4
    have t14 := t1.trans t24
    refine ⟨ax, env4, M4, _, S.at_ t14 rs4, q4, ⟨fun σ' H' env' M' t' rs q => ⟨env', M', t24.trans t', rs, by rw [hr]; exact q⟩, fun σ' H' env' M' t' rs q => k.nx σ' H' env' M' (t14.trans t') rs q, fun σ' H' env' M' t' rs q => ⟨env', M', t24.trans t', rs, by rw [hr]; exact q⟩, fun v H' d M' t' r q => k.rt v H' d M' (t14.trans t') r q⟩⟩
theorem as_for (hp : PassesOwn (model X.prog X.w) X.A X.env X.xe) (hc : X.calm = true) (hi : AI X W tg iter ι) (hg : AG X W tg g) (hb : ASs X W body t)
    (hs : ∀ x, foldedSetIterable iter X.env x = pure x := by intro _; rfl) : AS X W (.For tg iter body [] pos) (aFor ι g t) := PS.imp (ps_for hp hc hi hg hb hs) fun _ _ _ => s_for

def aIList (a : ATE) : ATI := fun ax env M R => a ax env M fun x M1 => match x with
  | .obj p => lstAt M1 p fun ds => R ds (fun M => M p = some (.lst ds)) M1
  | _ => False
def aITup (a : ATE) : ATI := fun ax env M R => a ax env M fun x M1 => match x with
  | .tup ds => R ds (fun _ => True) M1
  | _ => False
theorem itsim_list {K : PySem.W.Frag} {p : Addr} {ds : List D} {M1 : Sto} {H1 : Hp} : ItSim K (Itl K p) ds (fun M => M p = some (.lst ds)) M1 H1 := fun i M H t m => by
  obtain ⟨vs, h1, hv⟩ := t.abs p _ m
  refine ⟨fun d e => ?_, fun e => ?_⟩
  · obtain ⟨v, e', r⟩ := hv.get e
    refine ⟨⟨vs, v, SqL.of h1, e'⟩, fun x H' y => ?_⟩
    obtain ⟨rfl, y⟩ := y
    have z := y vs (SqL.of h1)
    rw [e'] at z
    cases z
    exact ⟨Tr.refl t.abs, r⟩
  · refine ⟨vs, SqL.of h1, ?_⟩
    rw [← hv.length]
    exact List.getElem?_eq_none_iff.mp e
theorem itsim_tup {K : PySem.W.Frag} {p : Addr} {ds : List D} {vs : List V} {M1 : Sto} {H1 : Hp} (ab : Abs K M1 H1) (hp : SqT K H1 p vs) (hv : RepL K H1 ds vs) : ItSim K (Itt K p) ds (fun _ => True) M1 H1 := fun i M H t _ => by
  have hp' := t.sqT ab hp
  have hv' := t.repL ab hv
  refine ⟨fun d e => ?_, fun e => ?_⟩
  · obtain ⟨v, e', r⟩ := hv'.get e
    refine ⟨⟨vs, v, hp', e'⟩, fun x H' y => ?_⟩
    obtain ⟨rfl, y⟩ := y
    have z := y vs hp'
    rw [e'] at z
    cases z
    exact ⟨Tr.refl t.abs, r⟩
  · refine ⟨vs, hp', ?_⟩
    rw [← hv'.length]
    exact List.getElem?_eq_none_iff.mp e
theorem ai_list (ha : AE X W e α) : AI X W tg e (aIList α) := PI.imp (pi_list ha) fun σ H R h => by
  obtain ⟨ax, env, M, Ra, S, q, k⟩ := h
  refine ⟨ax, env, M, _, S, q, fun x H1 dx M1 t r q => ?_⟩
  cases dx with
  | obj p =>
    cases (show x = V.ref p from r)
    obtain ⟨ds, m, q⟩ := lstAt_ex q
    obtain ⟨vs, h1, hv⟩ := t.abs p _ m
    exact ⟨p, rfl, ⟨vs, SqL.of h1⟩, k _ ds _ M1 H1 t itsim_list q⟩
  | _ => exact False.elim q
theorem ai_tup (ha : AE X W e α) : AI X W tg e (aITup α) := PI.imp (pi_tup ha) fun σ H R h => by
  obtain ⟨ax, env, M, Ra, S, q, k⟩ := h
  refine ⟨ax, env, M, _, S, q, fun x H1 dx M1 t r q => ?_⟩
  cases dx with
  | tup ds =>
    obtain ⟨p, vs, rfl, hp, hv⟩ := r
    exact ⟨p, rfl, ⟨vs, hp⟩, k _ ds _ M1 H1 t (itsim_tup t.abs hp hv) q⟩
  | _ => exact False.elim q
def rngD : Int → Nat → List D
  | _, 0 => []
  | lo, n + 1 => .int lo :: rngD (lo + 1) n
theorem rngD_get : ∀ (n : Nat) (lo : Int) (i : Nat), (rngD lo n)[i]? = if i < n then some (.int (lo + i)) else none
  | 0, _, _ => by simp [rngD]
  | n + 1, lo, 0 => by simp [rngD]
  | n + 1, lo, i + 1 => by
    rw [rngD, List.getElem?_cons_succ, rngD_get n (lo + 1) i]
    by_cases h : i < n
    · rw [if_pos h, if_pos (by omega)]
      congr 2
      omega
    · rw [if_neg h, if_neg (by omega)]
theorem rngD_length : ∀ (n : Nat) (lo : Int), (rngD lo n).length = n
  | 0, _ => rfl
  | n + 1, lo => by rw [rngD, List.length_cons, rngD_length n]
theorem itsim_rng {K : PySem.W.Frag} {lo : Int} {n : Nat} {M1 : Sto} {H1 : Hp} : ItSim K (Itr lo n) (rngD lo n) (fun _ => True) M1 H1 := fun i M H t _ => by
  refine ⟨fun d e => ?_, fun e => ?_⟩
  · rw [rngD_get] at e
    by_cases h : i < n
    · rw [if_pos h] at e
      cases e
      refine ⟨h, fun x H' y => ?_⟩
      obtain ⟨rfl, rfl⟩ := y
      exact ⟨Tr.refl t.abs, rfl⟩
    · rw [if_neg h] at e
      cases e
  · have z := List.getElem?_eq_none_iff.mp e
    rw [rngD_length] at z
    exact z
def aIRng1 (τ : ATA) : ATI := fun ax env M R => τ ax env M fun ds M1 => match ds with
  | [.int j] => -(2 ^ 62) ≤ j ∧ j < 2 ^ 62 ∧ R (rngD 0 j.toNat) (fun _ => True) M1
  | _ => False
def aIRng2 (τ : ATA) : ATI := fun ax env M R => τ ax env M fun ds M1 => match ds with
  | [.int i, .int j] => (-(2 ^ 62) ≤ i ∧ i < 2 ^ 62 ∧ -(2 ^ 62) ≤ j ∧ j < 2 ^ 62) ∧ R (rngD i (j - i).toNat) (fun _ => True) M1
  | _ => False
theorem ai_rng1 {a : Expr} {τ : ATA} {p : Pos} (hg : Gl X "range") (hm : X.mg "range" = none) (ha : AA X W [a] τ) (hs : starEach [a] X.env = [(false, eval a X.env)] := by rfl) : AI X W tg (.Call (.Name "range" p) [a] [] pos) (aIRng1 τ) :=
  PI.imp (pi_range1 hg hm ha hs) fun σ H R h => by
    obtain ⟨ax, env, M, Ra, S, q, k⟩ := h
    refine ⟨ax, env, M, _, S, q, fun vs H1 ds M1 t r q => ?_⟩
    split at q
    · obtain ⟨v, rfl, r1⟩ := repL1 r
      cases (show v = V.int _ from r1)
      exact ⟨_, rfl, q.1, q.2.1, k _ _ _ M1 H1 t itsim_rng q.2.2⟩
    · exact q.elim
theorem ai_rng2 {a b : Expr} {τ : ATA} {p : Pos} (hg : Gl X "range") (hm : X.mg "range" = none) (ha : AA X W [a, b] τ) (hs : starEach [a, b] X.env = [(false, eval a X.env), (false, eval b X.env)] := by rfl) (hs2 : starEach [b] X.env = [(false, eval b X.env)] := by rfl) :
    AI X W tg (.Call (.Name "range" p) [a, b] [] pos) (aIRng2 τ) :=
  PI.imp (pi_range2 hg hm ha hs hs2) fun σ H R h => by
    obtain ⟨ax, env, M, Ra, S, q, k⟩ := h
    refine ⟨ax, env, M, _, S, q, fun vs H1 ds M1 t r q => ?_⟩
    split at q
    · obtain ⟨v, w, rfl, r1, r2⟩ := repL2 r
      cases (show v = V.int _ from r1)
      cases (show w = V.int _ from r2)
      exact ⟨_, _, rfl, q.1, k _ _ _ M1 H1 t itsim_rng q.2⟩
    · exact q.elim
end

section
variable {W : WX} {X : Cx} {K : PySem.W.Frag}
theorem abs_updL {M : Sto} {H : Hp} (ab : Abs K M H) {p : Addr} {vs ws : List V} (hp : H p = some (.lst vs)) (mp : M p = none) : Abs K M (upd H p (.lst ws)) := fun a mo m => by
  have na : a ≠ p := fun z => by subst z; rw [mp] at m; cases m
  exact (ab a mo m).mono (fun u q => by rw [upd_ne na]; exact q) (Kp.updL hp)
def aLcGo (chk : Sto → Prop) (i : Nat) (t : ATT) (e : ATE) (ax : AX) (env : AEnv) : List D → List D → Sto → (List D → Sto → Prop) → Prop
  | [], acc, M, Q => chk M ∧ Q acc M
  | d :: r, acc, M, Q => chk M ∧ t ax (env.set i (some d)) M fun b M1 => if b = true then e ax (env.set i (some d)) M1 fun y M2 => aLcGo chk i t e ax env r (acc ++ [y]) M2 Q else aLcGo chk i t e ax env r acc M1 Q
def aLc (ι : ATI) (i : Nat) (t : ATT) (e : ATE) : ATE := fun ax env M Q => ι ax env M fun items chk M1 => items.length ≤ 1000000 ∧ aLcGo chk i t e ax env items [] M1 fun acc M2 => New (.lst acc) M2 Q
theorem s_lc {i : Nat} {ι : ATI} {t : ATT} {e : ATE} {σ : L2.St} {H : Hp} {Q : VK} (h : cE K W (aLc ι i t e) σ H Q) : tLc (cI K W ι) (gName i) (cT K W t) (cE K W e) [i] σ H Q := by
  obtain ⟨ax, env, M, Qa, S, q, k⟩ := h
  refine ⟨ax, env, M, _, S, q, fun J items chk M1 H1 t1 sim q => ?_⟩
  obtain ⟨hlen, q⟩ := q
  intro D hD
  have md : M1 D = none := t1.abs.fresh hD
  let Qf : List AL.D → Sto → Prop := fun acc M2 => ∀ p, M2 p = none → Qa (.obj p) (up M2 p (.lst acc))
  let Inv : Nat → Hp → Prop := fun i' H' => ∃ M' acc vs, Tr K M1 H1 M' H' ∧ H' D = some (.lst vs) ∧ M' D = none ∧ RepL K H' acc vs ∧ acc.length ≤ i' ∧ aLcGo chk i t e ax env (items.drop i') acc M' Qf
  refine ⟨fun i' m H' => m = items.length - i' ∧ Inv i' H', ⟨items.length, rfl, M1, [], [], Tr.newT t1.abs hD, upd_same, md, rfl, Nat.le_refl _, q⟩, ?_⟩
  rintro i' m H2 ⟨rfl, M2, acc, vs, t2, hD2, md2, ra, hl, q2⟩
  cases hd : items.drop i' with
  | nil =>
    rw [hd] at q2
    refine .inl ⟨(sim i' M2 H2 t2 q2.1).2 (drop_end hd), ?_⟩
    refine k (.ref D) H2 (.obj D) (up M2 D (.lst acc)) (t1.trans ?_) rfl (q2.2 D md2)
    refine ⟨fun a mo m => ?_, fun b o e1 n => ?_⟩
    · by_cases ha : a = D
      · subst ha
        rw [up_same] at m
        cases m
        exact ⟨vs, hD2, ra⟩
      · rw [up_ne ha] at m
        exact t2.abs a mo m
    · obtain ⟨z1, z2⟩ := t2.keep b o e1 n
      exact ⟨z1, by rw [up_ne (ne_of_none e1 hD)]; exact z2⟩
  | cons d r =>
    rw [hd] at q2
    obtain ⟨hi, hr, hlt⟩ := drop_at hd
    obtain ⟨go, yld⟩ := (sim i' M2 H2 t2 q2.1).1 d hi
    refine .inr ⟨go, Inv (i' + 1), fun H' z => ⟨items.length - (i' + 1), by omega, rfl, z⟩, fun x H3 y => ?_⟩
    obtain ⟨t3, r3⟩ := yld x H3 y
    have t13 := t1.trans (t2.trans t3)
    have S3 : Stt K W ax (env.set i (some d)) M2 ((wipe σ [i]).set i (some x)) H3 := by
      have rs := (S.next t13).rs.set (i := i) r3
      have e1 : (wipe σ [i]).set i (some x) = σ.set i (some x) := by
        show (σ.set i none).set i (some x) = σ.set i (some x)
        rw [List.set_set]
      rw [e1]
      exact S.at_ t13 rs
    show wipe ((wipe σ [i]).set i (some x)) [i] = wipe σ [i] ∧ _
    refine ⟨?_, ax, _, M2, _, S3, q2.2, fun b H4 M4 t4 q4 => ?_⟩
    · show ((σ.set i none).set i (some x)).set i none = σ.set i none
      rw [List.set_set, List.set_set]
    obtain ⟨hD3, _⟩ := t3.keep D _ hD2 md2
    obtain ⟨hD4, md4⟩ := t4.keep D _ hD3 md2
    have ra4 : RepL K H4 acc vs := t4.repL t3.abs (t3.repL t2.abs ra)
    have t24 := t2.trans (t3.trans t4)
    cases b with
    | false => exact ⟨M4, acc, vs, t24, hD4, md4, ra4, by omega, by rw [hr]; exact q4⟩
    | true =>
      refine ⟨ax, _, M4, _, S3.next t4, q4, fun v H5 dv M5 t5 r5 q5 => ?_⟩
      obtain ⟨hD5, md5⟩ := t5.keep D _ hD4 md4
      have ra5 : RepL K H5 acc vs := t5.repL t4.abs ra4
      have t25 := t24.trans t5
      refine ⟨vs, hD5, ?_, M5, acc ++ [dv], vs ++ [v], ⟨abs_updL t5.abs hD5 md5, fun b o e1 n => ?_⟩, upd_same, md5, ?_, ?_, by rw [hr]; exact q5⟩
      · rw [← ra5.length]
        exact Nat.lt_of_le_of_lt hl (Nat.lt_of_lt_of_le hlt (Nat.le_trans hlen (by decide)))
      · obtain ⟨z1, z2⟩ := t25.keep b o e1 n
        exact ⟨by rw [upd_ne (ne_of_none e1 hD)]; exact z1, z2⟩
      · exact RepL.mono (Kp.updL hD5) _ _ (ra5.append (RepL.one r5))
      · rw [List.length_append, List.length_singleton]
        omega
abbrev ATTs (X : Cx) (W : WX) (es : List Expr) (t : ATT) : Prop := PTs X es (cT X.K W t)
def aYes : ATT := fun _ _ M Q => Q true M
theorem PTs.imp {X : Cx} {e : List Expr} {t u : TT} (h : PTs X e t) (k : ∀ σ H Q, u σ H Q → t σ H Q) : PTs X e u := ⟨fun pins s σ H Q I q => h.run pins s σ H Q I (k σ H Q q)⟩
theorem ats_nil : ATTs X W [] aYes := PTs.imp pts_nil fun σ H Q h => by
  obtain ⟨ax, env, M, Qa, S, q, k⟩ := h
  exact k true H M (Tr.refl S.abs) q
theorem ats_one {c : Expr} {t : ATT} (h : AT X W c t) : ATTs X W [c] t := pts_one h
theorem ae_lc {x : Str} (i : Nat) {elt iter : Expr} {ifs : List Expr} {scope : Scope} {pos px : Pos} {ι : ATI} {t : ATT} {e : ATE} (hc : X.calm = true) (hN : X.N.Nodup) (hi : AI X W (.Name x px) iter ι) (ok : BlkOk X.N X.env.scope scope [(x, i)])
    (hg : ∀ (s : Shared) (H : Hp) (C : Addr) (cl : List (Str × Addr)) (fp : List Addr), PG (X.blk s H scope (compEnvC scope cl C X.env) fp) (.Name x px) (gName i)) (ht : ∀ (s : Shared) (H : Hp) (C : Addr) (cl : List (Str × Addr)) (fp : List Addr), ATTs (X.blk s H scope (compEnvC scope cl C X.env) fp) W ifs t)
    (he : ∀ (s : Shared) (H : Hp) (C : Addr) (cl : List (Str × Addr)) (fp : List Addr), AE (X.blk s H scope (compEnvC scope cl C X.env) fp) W elt e) (hs : ∀ x, foldedSetIterable iter X.env x = pure x := by intro _; rfl) :
    AE X W (.ListComp elt [⟨.Name x px, iter, ifs, 0⟩] scope pos) (aLc ι i t e) := PE.imp (pe_lc (own := [(x, i)]) hc hN hi ok hg ht he hs) fun _ _ _ => s_lc
theorem as_setLc {x : Str} (i j : Nat) {y : Str} {py : Pos} {elt iter : Expr} {ifs : List Expr} {scope : Scope} {pos px spos : Pos} {ι : ATI} {t : ATT} {e : ATE} (hc : X.calm = true) (hN : X.N.Nodup) (hy : X.N[j]? = some y) (hyl : X.env.scope.names.lookup y = some .local)
    (hsw : swapsWith (.ListComp elt [⟨.Name x px, iter, ifs, 0⟩] scope pos) (some (.Name y py)) spos.line X.env = pure true) (hi : AI X W (.Name x px) iter ι) (ok : BlkOk X.N X.env.scope scope [(x, i)])
    (hg : ∀ (s : Shared) (H : Hp) (C : Addr) (cl : List (Str × Addr)) (fp : List Addr), PG (X.blk s H scope (compEnvC scope cl C X.env) fp) (.Name x px) (gName i)) (ht : ∀ (s : Shared) (H : Hp) (C : Addr) (cl : List (Str × Addr)) (fp : List Addr), ATTs (X.blk s H scope (compEnvC scope cl C X.env) fp) W ifs t)
    (he : ∀ (s : Shared) (H : Hp) (C : Addr) (cl : List (Str × Addr)) (fp : List Addr), AE (X.blk s H scope (compEnvC scope cl C X.env) fp) W elt e) (hs : ∀ x, foldedSetIterable iter X.env x = pure x := by intro _; rfl) :
    AS X W (.Assign [.Name y py] (.ListComp elt [⟨.Name x px, iter, ifs, 0⟩] scope pos) spos) (aAsg (aLc ι i t e) (agName j)) := PS.imp (ps_setLc (i := j) (own := [(x, i)]) hc hN hy hyl hsw hi ok hg ht he hs) fun D σ H h => by
  obtain ⟨ax, env, M, Da, S, q, k⟩ := h
  exact s_lc (W := W) ⟨ax, env, M, _, S, q, fun v H1 d M1 t r q => k.nx _ H1 _ M1 t ((S.next t).rs.set r) q⟩
end

section
variable {P : Program} {w : World} {K : PySem.W.Frag} {mg : Str → Option Value} {base : Heap}
def W0 : WX := fun _ _ _ _ => False
def startA (N : List Str) (ds : List D) : AEnv := ds.map some ++ List.replicate (N.length - ds.length) none
theorem start_rep {H : Hp} {N : List Str} {ds : List D} {vs : List V} (r : RepL K H ds vs) : RepS K H (startA N ds) (L2.start N vs) := by
  have l := r.length
  refine ⟨?_, fun i d e => ?_⟩
  · unfold startA L2.start
    rw [List.length_append, List.length_append, List.length_map, List.length_map, List.length_replicate, List.length_replicate, l]
  · unfold startA at e
    unfold L2.start
    by_cases hi : i < ds.length
    · rw [List.getElem?_append_left (by rw [List.length_map]; exact hi), List.getElem?_map, Option.map_eq_some_iff] at e
      obtain ⟨d', e1, e2⟩ := e
      cases e2
      obtain ⟨v, e3, rv⟩ := r.get e1
      exact ⟨v, by rw [List.getElem?_append_left (by rw [List.length_map]; omega), List.getElem?_map, e3]; rfl, rv⟩
    · rw [List.getElem?_append_right (by rw [List.length_map]; omega)] at e
      have z := List.mem_of_getElem? e
      rw [List.mem_replicate] at z
      cases z.2
theorem fn_abs {x qual : Str} {st : Stmt} {f : Addr} {fd : FuncData} {N ps : List Str} {k n : Nat} {A : ASp} {a : ATS} (F : Fun K x qual st f fd) (S : FnScope N ps (defScope st)) (hn : ps.length = n)
    (hbody : ∀ (cdv : Value) (A : Around) (outer : List Env) (s : Shared) (H : Hp) (E : XK), Room k (A.deeper (PyProof.Rows.envOfC qual (defScope st) s.heap.objs.size f cdv)) → ASs (cxOf CX0 P w K mg base N qual (defScope st) f cdv A outer s H E).nox W0 (defBody st) a)
    (hp : ∀ ds M Q Xa, ds.length = n → A ds M Q Xa → a ax0 { nx := fun _ M => Q .non M, rt := Q } (startA N ds) M) : FnOk P w K mg base CX0 (k + 1) f fd ps (conc K n A) := by
  refine F.ok S (fun vs H Q E h => ?_) (fun cdv Ar outer s H vs Q E hr h => ?_)
  · obtain ⟨ds, M, Qa, Xa, e, _⟩ := h
    rw [e, hn]
  · obtain ⟨ds, M, Qa, Xa, e, r, ab, q, k1, _⟩ := h
    refine ⟨_, hbody cdv Ar outer s H E hr, ax0, startA N ds, M, { nx := fun _ M => Qa .non M, rt := Qa }, ⟨start_rep r, ab, XC.no⟩, hp ds M Qa Xa (by rw [r.length]; exact e) q, ⟨fun σ' H' env' M' t rs q => k1 .non H' .non M' t rfl q, fun _ _ _ _ _ _ z => z.elim, fun _ _ _ _ _ _ z => z.elim, fun v H' d M' t r q => k1 v H' d M' t r q⟩⟩
end

theorem hu64 {k : Nat} {A : Around} (r : Room k A) : A.units + 64 < cLine := r.units
theorem hu65 {k : Nat} {A : Around} (r : Room k A) : A.units + 65 < cLine := by have := r.un; omega
section
variable {W : WX} {X : Cx} {o e : Expr} {α β : ATE} {pos apos cpos : Pos}
end

section
variable {X : Cx} {W : WX} {e f o : Expr} {α β γ : ATE} {τ : ATA} {p p2 q2 pos apos cpos : Pos}
def aSortSet (α : ATE) : ATE := fun ax env M Q => α ax env M fun x M1 => match x with
  | .obj p => lstAt M1 p fun ds => optAt (strsOf ds) fun xs => xs.length ≤ 4000 ∧ ∀ ys : List Str, ys.Nodup → (∀ k, k ∈ ys ↔ k ∈ xs) → PyProof.Rows.sortedS ys = true → New (.lst (ys.map D.str)) M1 Q
  | _ => False
def ρSortS : ARs := fun ds M Q => match ds with
  | [.obj p] => lstAt M p fun ds => optAt (strsOf ds) fun xs => xs.length < 64 ∧ ∀ ys : List Str, ys.Perm xs → PyProof.Rows.sortedS ys = true → New (.lst (ys.map D.str)) M Q
  | _ => False
def aSetd (a b c : ATE) : ATE := fun ax env M Q => a ax env M fun x M1 => match x with
  | .obj p => dicAt M1 p fun _ => b ax env M1 fun y M2 => c ax env M2 fun z M3 => dicAt M3 p fun kvs => optAt (keyD y) fun k => kvs.length < sizeLine ∧ match valA kvs k with
    | some v => Q v M3
    | none => Q z (up M3 p (.dic (putA kvs k z)))
  | _ => False
def intsOf : List D → Option (List Int)
  | [] => some []
  | .int i :: r => (intsOf r).map fun xs => i :: xs
  | _ => none
theorem intsOf_map : ∀ xs : List Int, intsOf (xs.map D.int) = some xs
  | [] => rfl
  | x :: xs => by show (intsOf (xs.map D.int)).map (fun ys => x :: ys) = _; rw [intsOf_map xs]; rfl
def ρMaxI : ARs := fun ds M Q => match ds with
  | [.obj p] => lstAt M p fun ds => optAt (intsOf ds) fun xs => 0 < xs.length ∧ ∀ m, m ∈ xs → (∀ y, y ∈ xs → y ≤ m) → Q (.int m) M
  | _ => False
end

section
variable {X : Cx} {W : WX} {K : PySem.W.Frag}
def aPairs : List (Str × ATE) → AX → AEnv → Sto → (List (Key × D) → Sto → Prop) → Prop
  | [], _, _, M, Q => Q [] M
  | (s, a) :: r, ax, env, M, Q => a ax env M fun y M1 => aPairs r ax env M1 fun kvs M2 => Q ((.inr s, y) :: kvs) M2
def mergeA (kvs : List (Key × D)) (more : List (Key × D)) : List (Key × D) := more.foldl (fun acc kv => putA acc kv.1 kv.2) kvs
def aDisp (prs : List (Str × ATE)) : ATE := fun ax env M Q => ∀ p, M p = none → aPairs prs ax env (up M p (.dic [])) fun kvs M2 => M2 p = some (.dic []) ∧ kvs.length ≤ 15 ∧ Q (.obj p) (up M2 p (.dic (mergeA [] kvs)))
end

section
variable {W : WX} {X : Cx} {K : PySem.W.Frag}
def enumD : Int → List D → List D
  | _, [] => []
  | k, d :: r => .tup [.int k, d] :: enumD (k + 1) r
def aIEnum (τ : ATA) : ATI := fun ax env M R => τ ax env M fun ds M1 => match ds with
  | [.tup ds] => R (enumD 0 ds) (fun _ => True) M1
  | [.obj p] => lstAt M1 p fun ds => R (enumD 0 ds) (fun M => M p = some (.lst ds)) M1
  | _ => False
theorem rep_pair {H : Hp} {T : Addr} {d e : D} {v w : V} (hT : H T = none) (h1 : Rep K H d v) (h2 : Rep K H e w) : Rep K (upd H T (.tup [v, w])) (.tup [d, e]) (.ref T) := rep_newT hT ⟨v, [w], rfl, h1, RepL.one h2⟩
def zipD : List D → List D → List D
  | d :: r, e :: s => .tup [d, e] :: zipD r s
  | _, _ => []
theorem zipD_some : ∀ {ds es : List D} {i : Nat} {x : D}, (zipD ds es)[i]? = some x → ∃ d e, ds[i]? = some d ∧ es[i]? = some e ∧ x = .tup [d, e]
  | [], _, _, _, h => by simp [zipD] at h
  | _ :: _, [], _, _, h => by simp [zipD] at h
  | d :: r, e :: s, 0, x, h => ⟨d, e, rfl, rfl, by simpa [zipD] using h.symm⟩
  | d :: r, e :: s, i + 1, x, h => zipD_some (ds := r) (es := s) (i := i) (by simpa [zipD] using h)
theorem zipD_none : ∀ {ds es : List D} {i : Nat}, (zipD ds es)[i]? = none → ds.length ≤ i ∨ es.length ≤ i
  | [], _, _, _ => .inl (Nat.zero_le _)
  | _ :: _, [], _, _ => .inr (Nat.zero_le _)
  | d :: r, e :: s, 0, h => by simp [zipD] at h
  | d :: r, e :: s, i + 1, h => by
    rcases zipD_none (ds := r) (es := s) (i := i) (by simpa [zipD] using h) with q | q
    · exact .inl (Nat.succ_le_succ q)
    · exact .inr (Nat.succ_le_succ q)
def aIZip (τ : ATA) : ATI := fun ax env M R => τ ax env M fun ds M1 => match ds with
  | [.tup ds, .tup es] => R (zipD ds es) (fun _ => True) M1
  | [.obj p, .obj q] => lstAt M1 p fun ds => lstAt M1 q fun es => R (zipD ds es) (fun M => M p = some (.lst ds) ∧ M q = some (.lst es)) M1
  | _ => False
theorem itsim_zipL {p q : Addr} {ds es : List D} {M1 : Sto} {H1 : Hp} : ItSim K (Itz K p q) (zipD ds es) (fun M => M p = some (.lst ds) ∧ M q = some (.lst es)) M1 H1 := fun i M H t m => by
  obtain ⟨vs, h1, hv⟩ := t.abs p _ m.1
  obtain ⟨ws, h2, hw⟩ := t.abs q _ m.2
  refine ⟨fun d e => ?_, fun e => ?_⟩
  · obtain ⟨d1, d2, e1, e2, rfl⟩ := zipD_some e
    obtain ⟨v, e1', r1⟩ := hv.get e1
    obtain ⟨w, e2', r2⟩ := hw.get e2
    refine ⟨⟨vs, ws, v, w, SqL.of h1, SqL.of h2, e1', e2'⟩, fun x H' y => ?_⟩
    obtain ⟨T, v', w', rfl, hT, rfl, y1, y2⟩ := y
    cases e1'.symm.trans (y1 vs (SqL.of h1))
    cases e2'.symm.trans (y2 ws (SqL.of h2))
    exact ⟨Tr.newT t.abs hT, rep_pair hT r1 r2⟩
  · refine ⟨vs, ws, SqL.of h1, SqL.of h2, ?_⟩
    rw [← hv.length, ← hw.length]
    exact zipD_none e
theorem itsim_zipT {p q : Addr} {ds es : List D} {vs ws : List V} {M1 : Sto} {H1 : Hp} (ab : Abs K M1 H1) (hp : SqT K H1 p vs) (hv : RepL K H1 ds vs) (hq : SqT K H1 q ws) (hw : RepL K H1 es ws) : ItSim K (RZ.ItzT K p q) (zipD ds es) (fun _ => True) M1 H1 := fun i M H t m => by
  have hp' := t.sqT ab hp
  have hv' := t.repL ab hv
  have hq' := t.sqT ab hq
  have hw' := t.repL ab hw
  refine ⟨fun d e => ?_, fun e => ?_⟩
  · obtain ⟨d1, d2, e1, e2, rfl⟩ := zipD_some e
    obtain ⟨v, e1', r1⟩ := hv'.get e1
    obtain ⟨w, e2', r2⟩ := hw'.get e2
    refine ⟨⟨vs, ws, v, w, hp', hq', e1', e2'⟩, fun x H' y => ?_⟩
    obtain ⟨T, v', w', rfl, hT, rfl, y1, y2⟩ := y
    cases e1'.symm.trans (y1 vs hp')
    cases e2'.symm.trans (y2 ws hq')
    exact ⟨Tr.newT t.abs hT, rep_pair hT r1 r2⟩
  · refine ⟨vs, ws, hp', hq', ?_⟩
    rw [← hv'.length, ← hw'.length]
    exact zipD_none e
theorem ai_zip {a b : Expr} {τ : ATA} {p pos tp : Pos} {es : List Expr} {kk : Nat} (hg : Gl X "zip") (hm : X.mg "zip" = none) (ha : AA X W [a, b] τ) (hs : starEach [a, b] X.env = (false, eval a X.env) :: starEach [b] X.env := by rfl) (hpl : (backTo pos (starEach [b] X.env)).any (·.1) = false := by rfl) :
    AI X W (.Tuple es kk tp) (.Call (.Name "zip" p) [a, b] [] pos) (aIZip τ) :=
  PI.imp (RZ.pi_zipA hg hm ha hs hpl) fun σ H R h => by
    obtain ⟨ax, env, M, Ra, S, q, k⟩ := h
    refine ⟨ax, env, M, _, S, q, fun vs H1 ds M1 t r q => ?_⟩
    split at q
    · obtain ⟨v, w, rfl, r1, r2⟩ := repL2 r
      obtain ⟨b, ws, rfl, hp, hv⟩ := r1
      obtain ⟨c, us, rfl, hq, hw⟩ := r2
      exact ⟨b, c, ws, us, rfl, .inr ⟨hp, hq, k _ _ _ M1 H1 t (itsim_zipT t.abs hp hv hq hw) q⟩⟩
    · obtain ⟨v, w, rfl, r1, r2⟩ := repL2 r
      cases (show v = V.ref _ from r1)
      cases (show w = V.ref _ from r2)
      obtain ⟨ds, m, q⟩ := lstAt_ex q
      obtain ⟨es, m2, q⟩ := lstAt_ex q
      obtain ⟨ws, h1, hv⟩ := t.abs _ _ m
      obtain ⟨us, h2, hw⟩ := t.abs _ _ m2
      exact ⟨_, _, ws, us, rfl, .inl ⟨SqL.of h1, SqL.of h2, k _ _ _ M1 H1 t itsim_zipL q⟩⟩
    · exact q.elim
end
section
variable {W : WX} {X : Cx} {K : PySem.W.Frag}
def aLc2Go (chk : Sto → Prop) (i j : Nat) (t : ATT) (e : ATE) (ax : AX) (env : AEnv) : List D → List D → Sto → (List D → Sto → Prop) → Prop
  | [], acc, M, Q => chk M ∧ Q acc M
  | .tup [d, c] :: r, acc, M, Q => chk M ∧ t ax ((env.set i (some d)).set j (some c)) M fun b M1 => if b = true then e ax ((env.set i (some d)).set j (some c)) M1 fun y M2 => aLc2Go chk i j t e ax env r (acc ++ [y]) M2 Q else aLc2Go chk i j t e ax env r acc M1 Q
  | _ :: _, _, _, _ => False
def aLc2 (ι : ATI) (i j : Nat) (t : ATT) (e : ATE) : ATE := fun ax env M Q => ι ax env M fun items chk M1 => i ≠ j ∧ items.length ≤ 1000000 ∧ aLc2Go chk i j t e ax env items [] M1 fun acc M2 => New (.lst acc) M2 Q
abbrev gPair (K : PySem.W.Frag) (i j : Nat) : TG := gTup K 2 (gCons (gName i) (gCons (gName j) gNil))
theorem set_pair {σ : L2.St} {i j : Nat} (n : i ≠ j) (v w : V) : ((wipe σ [i, j]).set i (some v)).set j (some w) = (σ.set i (some v)).set j (some w) := by
  show (((σ.set j none).set i none).set i (some v)).set j (some w) = _
  rw [List.set_set, List.set_comm _ _ n.symm, List.set_set]
theorem wipe_pair {σ : L2.St} {i j : Nat} (n : i ≠ j) (v w : V) : wipe ((σ.set i (some v)).set j (some w)) [i, j] = wipe σ [i, j] := by
  show (((σ.set i (some v)).set j (some w)).set j none).set i none = (σ.set j none).set i none
  rw [List.set_set, List.set_comm _ _ n, List.set_set]
theorem lc2_cons {chk : Sto → Prop} {i j : Nat} {t : ATT} {e : ATE} {ax : AX} {env : AEnv} {d : D} {r acc : List D} {M : Sto} {Q : List D → Sto → Prop} (h : aLc2Go chk i j t e ax env (d :: r) acc M Q) : ∃ a b, d = .tup [a, b] ∧
    chk M ∧ t ax ((env.set i (some a)).set j (some b)) M fun k M1 => if k = true then e ax ((env.set i (some a)).set j (some b)) M1 fun y M2 => aLc2Go chk i j t e ax env r (acc ++ [y]) M2 Q else aLc2Go chk i j t e ax env r acc M1 Q := by
  match d, h with
  | .tup [a, b], h => exact ⟨a, b, rfl, h⟩
theorem s_lc2 {i j : Nat} {ι : ATI} {t : ATT} {e : ATE} {σ : L2.St} {H : Hp} {Q : VK} (h : cE K W (aLc2 ι i j t e) σ H Q) : tLc (cI K W ι) (gPair K i j) (cT K W t) (cE K W e) [i, j] σ H Q := by
  obtain ⟨ax, env, M, Qa, S, q, k⟩ := h
  refine ⟨ax, env, M, _, S, q, fun J items chk M1 H1 t1 sim q => ?_⟩
  obtain ⟨nij, hlen, q⟩ := q
  intro D hD
  have md : M1 D = none := t1.abs.fresh hD
  let Qf : List AL.D → Sto → Prop := fun acc M2 => ∀ p, M2 p = none → Qa (.obj p) (up M2 p (.lst acc))
  let Inv : Nat → Hp → Prop := fun i' H' => ∃ M' acc vs, Tr K M1 H1 M' H' ∧ H' D = some (.lst vs) ∧ M' D = none ∧ RepL K H' acc vs ∧ acc.length ≤ i' ∧ aLc2Go chk i j t e ax env (items.drop i') acc M' Qf
  refine ⟨fun i' m H' => m = items.length - i' ∧ Inv i' H', ⟨items.length, rfl, M1, [], [], Tr.newT t1.abs hD, upd_same, md, rfl, Nat.le_refl _, q⟩, ?_⟩
  rintro i' m H2 ⟨rfl, M2, acc, vs, t2, hD2, md2, ra, hl, q2⟩
  cases hd : items.drop i' with
  | nil =>
    rw [hd] at q2
    refine .inl ⟨(sim i' M2 H2 t2 q2.1).2 (drop_end hd), ?_⟩
    refine k (.ref D) H2 (.obj D) (up M2 D (.lst acc)) (t1.trans ?_) rfl (q2.2 D md2)
    refine ⟨fun a mo m => ?_, fun b o e1 n => ?_⟩
    · by_cases ha : a = D
      · subst ha
        rw [up_same] at m
        cases m
        exact ⟨vs, hD2, ra⟩
      · rw [up_ne ha] at m
        exact t2.abs a mo m
    · obtain ⟨z1, z2⟩ := t2.keep b o e1 n
      exact ⟨z1, by rw [up_ne (ne_of_none e1 hD)]; exact z2⟩
  | cons d r =>
    rw [hd] at q2
    obtain ⟨d1, d2, rfl, q2⟩ := lc2_cons q2
    obtain ⟨hi, hr, hlt⟩ := drop_at hd
    obtain ⟨go, yld⟩ := (sim i' M2 H2 t2 q2.1).1 _ hi
    refine .inr ⟨go, Inv (i' + 1), fun H' z => ⟨items.length - (i' + 1), by omega, rfl, z⟩, fun x H3 y => ?_⟩
    obtain ⟨t3, r3⟩ := yld x H3 y
    obtain ⟨a, us, rfl, hT, hu⟩ := r3
    obtain ⟨v1, v2, rfl, rv1, rv2⟩ := repL2 hu
    have t13 := t1.trans (t2.trans t3)
    have S3 : Stt K W ax ((env.set i (some d1)).set j (some d2)) M2 ((σ.set i (some v1)).set j (some v2)) H3 := S.at_ t13 (((S.next t13).rs.set (i := i) rv1).set (i := j) rv2)
    refine ⟨a, [v1, v2], rfl, hT, rfl, v1, [v2], rfl, ?_⟩
    show ∃ v r, [v2] = v :: r ∧ _
    refine ⟨v2, [], rfl, ?_⟩
    show [] = [] ∧ _
    refine ⟨rfl, ?_⟩
    rw [set_pair nij]
    refine ⟨wipe_pair nij v1 v2, ax, _, M2, _, S3, q2.2, fun b H4 M4 t4 q4 => ?_⟩
    obtain ⟨hD3, _⟩ := t3.keep D _ hD2 md2
    obtain ⟨hD4, md4⟩ := t4.keep D _ hD3 md2
    have ra4 : RepL K H4 acc vs := t4.repL t3.abs (t3.repL t2.abs ra)
    have t24 := t2.trans (t3.trans t4)
    cases b with
    | false => exact ⟨M4, acc, vs, t24, hD4, md4, ra4, by omega, by rw [hr]; exact q4⟩
    | true =>
      refine ⟨ax, _, M4, _, S3.next t4, q4, fun v H5 dv M5 t5 r5 q5 => ?_⟩
      obtain ⟨hD5, md5⟩ := t5.keep D _ hD4 md4
      have ra5 : RepL K H5 acc vs := t5.repL t4.abs ra4
      have t25 := t24.trans t5
      refine ⟨vs, hD5, ?_, M5, acc ++ [dv], vs ++ [v], ⟨abs_updL t5.abs hD5 md5, fun b o e1 n => ?_⟩, upd_same, md5, ?_, ?_, by rw [hr]; exact q5⟩
      · rw [← ra5.length]
        exact Nat.lt_of_le_of_lt hl (Nat.lt_of_lt_of_le hlt (Nat.le_trans hlen (by decide)))
      · obtain ⟨z1, z2⟩ := t25.keep b o e1 n
        exact ⟨by rw [upd_ne (ne_of_none e1 hD)]; exact z1, z2⟩
      · exact RepL.mono (Kp.updL hD5) _ _ (ra5.append (RepL.one r5))
      · rw [List.length_append, List.length_singleton]
        omega
theorem ae_lc2 {x y : Str} (i j : Nat) {elt iter : Expr} {ifs : List Expr} {scope : Scope} {pos px py pt : Pos} {kk : Nat} {ι : ATI} {t : ATT} {e : ATE} (hc : X.calm = true) (hN : X.N.Nodup) (hi : AI X W (.Tuple [.Name x px, .Name y py] kk pt) iter ι) (ok : BlkOk X.N X.env.scope scope [(x, i), (y, j)])
    (hg : ∀ (s : Shared) (H : Hp) (C : Addr) (cl : List (Str × Addr)) (fp : List Addr), PG (X.blk s H scope (compEnvC scope cl C X.env) fp) (.Tuple [.Name x px, .Name y py] kk pt) (gPair X.K i j))
    (ht : ∀ (s : Shared) (H : Hp) (C : Addr) (cl : List (Str × Addr)) (fp : List Addr), ATTs (X.blk s H scope (compEnvC scope cl C X.env) fp) W ifs t)
    (he : ∀ (s : Shared) (H : Hp) (C : Addr) (cl : List (Str × Addr)) (fp : List Addr), AE (X.blk s H scope (compEnvC scope cl C X.env) fp) W elt e) (hs : ∀ x, foldedSetIterable iter X.env x = pure x := by intro _; rfl) :
    AE X W (.ListComp elt [⟨.Tuple [.Name x px, .Name y py] kk pt, iter, ifs, 0⟩] scope pos) (aLc2 ι i j t e) := PE.imp (pe_lc (own := [(x, i), (y, j)]) hc hN hi ok hg ht he hs) fun _ _ _ => s_lc2
end
section
variable {K : PySem.W.Frag}
def blsOf : List D → Option (List Bool)
  | [] => some []
  | .bl x :: r => (blsOf r).map fun xs => x :: xs
  | _ :: _ => none
theorem blsOf_map : ∀ (xs : List Bool), blsOf (xs.map D.bl) = some xs
  | [] => rfl
  | x :: xs => by show (blsOf (xs.map D.bl)).map (fun ys => x :: ys) = _; rw [blsOf_map xs]; rfl
theorem blsOf_rep {H : Hp} : ∀ {ds : List D} {xs : List Bool} {vs : List V}, blsOf ds = some xs → RepL K H ds vs → vs = xs.map V.bl
  | [], xs, vs, e, h => by cases (Option.some.inj e); exact h
  | .bl x :: r, xs, vs, e, h => by
    obtain ⟨ys, e1, rfl⟩ := Option.map_eq_some_iff.mp (show (blsOf r).map (fun xs => x :: xs) = some xs from e)
    obtain ⟨v, w, rfl, h1, h2⟩ := h
    cases (show v = V.bl x from h1)
    rw [blsOf_rep e1 h2, List.map_cons]
  | .non :: _, _, _, e, _ => by cases e
  | .str _ :: _, _, _, e, _ => by cases e
  | .int _ :: _, _, _, e, _ => by cases e
  | .tup _ :: _, _, _, e, _ => by cases e
  | .obj _ :: _, _, _, e, _ => by cases e
  | .fl _ :: _, _, _, e, _ => by cases e
def ρAny : ARs := fun ds M Q => match ds with
  | [.obj p] => lstAt M p fun ds => optAt (blsOf ds) fun bs => Q (.bl (bs.any id)) M
  | _ => False
def ρAll : ARs := fun ds M Q => match ds with
  | [.obj p] => lstAt M p fun ds => optAt (blsOf ds) fun bs => Q (.bl (bs.all id)) M
  | _ => False
theorem sim_any : SimC K (rAny K) ρAny := by
  intro xs ds H M Q Qc ab rx q k
  unfold ρAny at q
  split at q
  · obtain ⟨v, rfl, r1⟩ := repL1 rx
    cases (show v = V.ref _ from r1)
    obtain ⟨ds, m, q⟩ := lstAt_ex q
    obtain ⟨bs, e, q⟩ := optAt_ex q
    obtain ⟨vs, h1, hv⟩ := ab _ _ m
    cases blsOf_rep e hv
    exact ⟨_, bs, rfl, SqL.of h1, k _ H (.bl _) M (Tr.refl ab) rfl q⟩
  · exact q.elim
def ρMulS : AR2 := fun x y M Q => match x, y with
  | .str z, .int k => 0 ≤ k ∧ k ≤ 1000 ∧ z.length ≤ 1000 ∧ Q (.str (EN.reps z k.toNat)) M
  | x, y => ρMul x y M Q
end

section
variable {W : WX} {X : Cx} {K : PySem.W.Frag} {e o : Expr} {es : List Expr} {α : ATE} {τ : ATA} {pos p apos cpos : Pos} {x : Str}
def aSet0 (w : World) : ATE := fun _ _ M Q => ∀ p, M p = none → Q (.obj p) (up M p (.raw (SetTx w p [])))
def aSAdd (w : World) (a : ATE) (τ : ATA) : ATE := fun ax env M Q => a ax env M fun x M1 => match x with
  | .obj p => (∃ ks, M1 p = some (.raw (SetTx w p ks))) ∧ τ ax env M1 fun xs M2 => match xs with
    | [.str k] => ∃ ks, M2 p = some (.raw (SetTx w p ks)) ∧ ks.length ≤ 4000 ∧ Q .non (up M2 p (.raw (SetTx w p (if k ∈ ks then ks else k :: ks))))
    | _ => False
  | _ => False
def ρSortTx (w : World) : ARs := fun ds M Q => match ds with
  | [.obj p] => ∃ ks, M p = some (.raw (SetTx w p ks)) ∧ ∀ ys : List Str, ys.Perm ks → PyProof.Rows.sortedS ys = true → New (.lst (ys.map D.str)) M Q
  | _ => False
def ρSortD : ARs := fun ds M Q => match ds with
  | [.obj p] => dicAt M p fun kvs => ∃ ks : List Str, kvs.map (·.1) = ks.map Sum.inr ∧ ks.length < 64 ∧ ∀ ys : List Str, ys.Perm ks → PyProof.Rows.sortedS ys = true → New (.lst (ys.map D.str)) M Q
  | _ => False
def pysM (M : Sto) : List D → Option (List PyData)
  | [] => some []
  | d :: ds => (pyM M d).bind fun p => (pysM M ds).map fun ps => p :: ps
def pyM2 (M : Sto) : D → Option PyData
  | .obj a => match M a with
    | some (.lst ds) => (pysM M ds).map .list
    | _ => none
  | d => d.py
theorem RepL.dpM {H : Hp} {M : Sto} (ab : Abs K M H) : ∀ {ds : List D} {vs : List V} {ps : List PyData}, RepL K H ds vs → pysM M ds = some ps → DpAll K H vs ps
  | [], vs, ps, h, e => by cases (show vs = [] from h); cases (Option.some.inj e); exact .nil
  | d :: ds, vs, ps, h, e => by
    obtain ⟨v, r, rfl, h1, h2⟩ := h
    rw [pysM, Option.bind_eq_some_iff] at e
    obtain ⟨p, e1, e⟩ := e
    rw [Option.map_eq_some_iff] at e
    obtain ⟨ps', e2, rfl⟩ := e
    exact .cons (Rep.dpM ab h1 e1) (RepL.dpM ab h2 e2)
def isRef : D → Bool
  | .tup _ => true
  | .obj _ => true
  | _ => false
def ρRepr : ARs := fun ds M Q => match ds with
  | [d] => ∃ p, isRef d = true ∧ pyM2 M d = some p ∧ p.showable = true ∧ p.hasDict = false ∧ p.depth ≤ 64 ∧ p.shown.length ≤ sizeLine ∧ Q (.str p.shown) M
  | _ => False
end
section
variable {P : Program} {w : World} {K : PySem.W.Frag} {mg : Str → Option Value} {base : Heap}
end
section
variable {W : WX} {X : Cx} {k n : Nat} {f : Addr} {fd : FuncData} {ps : List Str} {A : ASp} {x : Str} {p pos : Pos} {e : Expr} {es : List Expr} {τ : ATA}
end

section
variable {W : WX} {X : Cx} {K : PySem.W.Frag} {e o : Expr} {es : List Expr} {α : ATE} {τ : ATA} {pos p apos cpos : Pos} {x : Str}
def ρExtT : Addr → List D → List D → Sto → (D → Sto → Prop) → Prop := fun p ds xs M Q => match xs with
  | [.tup es] => ds.length + es.length ≤ sizeLine ∧ Q .non (up M p (.lst (ds ++ es)))
  | _ => False
end

section
variable {W : WX} {X : Cx} {K : PySem.W.Frag}
def aScGo2 (chk : Sto → Prop) (i j : Nat) (t : ATT) (e : ATE) (ax : AX) (env : AEnv) : List D → List Int → Sto → (List Int → Sto → Prop) → Prop
  | [], acc, M, Q => chk M ∧ Q acc M
  | .tup [d, c] :: r, acc, M, Q => chk M ∧ t ax ((env.set i (some d)).set j (some c)) M fun b M1 => if b = true then e ax ((env.set i (some d)).set j (some c)) M1 fun y M2 => match y with
      | .int k => aScGo2 chk i j t e ax env r (acc ++ [k]) M2 Q
      | _ => False
    else aScGo2 chk i j t e ax env r acc M1 Q
  | _ :: _, _, _, _ => False
def aSc2 (w : World) (ι : ATI) (i j : Nat) (t : ATT) (e : ATE) : ATE := fun ax env M Q => ι ax env M fun items chk M1 => i ≠ j ∧ items.length ≤ 4000 ∧ aScGo2 chk i j t e ax env items [] M1 fun acc M2 =>
  ∀ (p : Addr) (n : Nat), n ≤ acc.length → M2 p = none → Q (.obj p) (up M2 p (.raw (SetO w p (fun k => decide (k ∈ acc)) n)))
def ρSortZ (w : World) : ARs := fun ds M Q => match ds with
  | [.obj p] => ∃ S n, M p = some (.raw (SetO w p S n)) ∧ n < 64 ∧ ∀ ns : List Int, ns.Pairwise (· < ·) → (∀ k : Int, k ∈ ns ↔ S k = true) → New (.lst (ns.map D.int)) M Q
  | _ => False
theorem of_ints {H : Hp} : ∀ ns : List Int, RepL K H (ns.map D.int) (ns.map V.int)
  | [] => rfl
  | x :: r => ⟨_, _, rfl, rfl, of_ints r⟩
def aTupVals (a : ATE) : ATE := fun ax env M Q => a ax env M fun x M1 => match x with
  | .obj p => dicAt M1 p fun kvs => Q (.tup (kvs.map (·.2))) M1
  | _ => False
end

section
open PySem PySem.Spec L2 PyProof.Rows
def RepW (K : PySem.W.Frag) (d : D) (u : Value) : Prop := ∃ v, RelV v u ∧ ∀ H, Rep K H d v
def EntsOk (K : PySem.W.Frag) (w : World) : List DictEntry → List (Key × D) → Prop
  | [], [] => True
  | e :: es, (k, d) :: tab => keyIs k e.key = true ∧ e.hash = keyH w k ∧ RepW K d e.val ∧ EntsOk K w es tab
  | _, _ => False
structure WDct (K : PySem.W.Frag) (w : World) (a : Addr) (tab : List (Key × D)) : Prop where
  ents : ∃ es n, K.lookup a = some ⟨.type "dict", none, .dict es n, #[]⟩ ∧ EntsOk K w es.toList tab
  low : (a == sysModules) = false
theorem RepW.int {K : PySem.W.Frag} {i : Int} {t : Tok} : RepW K (.int i) (.int i t) := ⟨.int i, ⟨t, rfl⟩, fun _ => rfl⟩
theorem RepW.str {K : PySem.W.Frag} {x : Str} {t : Tok} : RepW K (.str x) (.str x t) := ⟨.str x, ⟨t, rfl⟩, fun _ => rfl⟩
theorem repW_all {K : PySem.W.Frag} : ∀ {ds : List D} {us : List Value}, Paired (RepW K) ds us → ∃ vs, Vals vs us ∧ ∀ H, RepL K H ds vs
  | _, _, .nil => ⟨[], .nil, fun _ => rfl⟩
  | _, _, .cons ⟨v, r, q⟩ h => by
    obtain ⟨vs, r2, q2⟩ := repW_all h
    exact ⟨v :: vs, .cons r r2, fun H => ⟨v, vs, rfl, q H, q2 H⟩⟩
theorem RepW.tup {K : PySem.W.Frag} {ds : List D} {a : Addr} {dd : Option Addr} {its : Array Value} {n : Nat} {sl : Array (Option Value)} (h : K.lookup a = some ⟨.type "tuple", dd, .seq its n, sl⟩) (z : its.size ≤ sizeLine) (q : Paired (RepW K) ds its.toList) : RepW K (.tup ds) (.ref a) := by
  obtain ⟨vs, r, q2⟩ := repW_all q
  exact ⟨.ref a, rfl, fun H => ⟨a, vs, rfl, .inr ⟨_, its, n, h, rfl, rfl, z, r⟩, q2 H⟩⟩
section
variable {P : Program} {w : World} {K : PySem.W.Frag}
end
section
variable {W : WX} {X : Cx} {K : PySem.W.Frag}
def aWGet (tab : List (Key × D)) (α : ATE) : ATE := fun ax env M Q => α ax env M fun y M1 => optAt (keyD y) fun k => Q ((valA tab k).getD .non) M1
def aWIx (tab : List (Key × D)) (α : ATE) : ATE := fun ax env M Q => α ax env M fun y M1 => optAt (keyD y) fun k => optAt (valA tab k) fun d => Q d M1
end
end

set_option maxHeartbeats 2000000
namespace ZL
open PySem PySem.Spec PyProof.Rows L2
open PySem.Sem (wp)
section
variable {prog : Program} {w : World} {A : Around} {E : Value → Shared → Prop} {s : Shared}
end
end ZL
namespace ZL
open PySem PySem.Spec PyProof.Rows L2
open PySem.Sem (wp)
inductive Laid : Hp → List (V × V) → List V → Hp → Prop where
  | nil {G : Hp} : Laid G [] [] G
  | cons {G G' : Hp} {T : Addr} {x y : V} {r : List (V × V)} {vs : List V} (h : G T = none) (l : Laid (upd G T (.tup [x, y])) r vs G') : Laid G ((x, y) :: r) (.ref T :: vs) G'
theorem Laid.snoc {G G' : Hp} {r : List (V × V)} {vs : List V} {T : Addr} {x y : V} (l : Laid G r vs G') (h : G' T = none) : Laid G (r ++ [(x, y)]) (vs ++ [.ref T]) (upd G' T (.tup [x, y])) := by
  induction l with
  | nil => exact .cons h .nil
  | cons h1 l ih => exact .cons h1 (ih h)
section
variable {X : Cx} {pins : List (Addr × Obj)} {σ : L2.St}
end
end ZL
namespace ZL
open PySem PySem.Spec PyProof.Rows L2
open PySem.Sem (wp)
section
variable {X : Cx} {pins : List (Addr × Obj)} {σ : L2.St} {H : Hp}
end
end ZL

section
variable {W : WX} {X : Cx} {K : PySem.W.Frag}
def aListZip (τ : ATA) : ATE := fun ax env M Q => τ ax env M fun xs M1 => match xs with
  | [.tup ds, .tup es] => ds.length = es.length ∧ ds.length ≤ 1000 ∧ New (.lst (zipD ds es)) M1 Q
  | _ => False
end
section
open PySem PySem.Spec L2 PyProof.Rows
section
variable {W : WX} {X : Cx} {K : PySem.W.Frag}
end
end

section
variable {K : PySem.W.Frag} {M M' : Sto} {H H' : Hp} {p : Addr} {kvs : List (Key × D)} {ws : List (Key × V)} {od : Obj}
end
section
variable {W : WX} {X : Cx} {K : PySem.W.Frag}
def keyB : Key → D
  | .inl i => .int i
  | .inr s => .str s
def aIDif (a : ATE) : ATI := fun ax env M R => a ax env M fun x M1 => match x with
  | .obj p => ∃ od ws kvs, M1 p = some (.dif od ws kvs) ∧ R (kvs.map fun kv => keyB kv.1) (fun M => M p = some (.dif od ws kvs)) M1
  | _ => False
def ρDGetF : AR2 := fun x y M Q => match x with
  | .obj p => ∃ od ws kvs, M p = some (.dif od ws kvs) ∧ optAt (keyD y) fun k => optAt (valA kvs k) fun d => Q d M
  | _ => False
end

def rInTD (K : PySem.W.Frag) (neg : Bool) : R2 := fun x y H Q => ∃ d ds, Dp K H x d ∧ Dp K H y (.tuple ds) ∧ SeqAt.shaped d = true ∧ SeqAt.shaped (.tuple ds) = true ∧ Q (.bl (if neg then !(ds.any fun z => PyData.eqv z d) else ds.any fun z => PyData.eqv z d)) H
section
variable {X : Cx} {W : WX} {K : PySem.W.Frag}
theorem op_inTD (hu : X.A.units + 65 < cLine) : OpR X (compareOp .In) (rInTD X.K false) := by
  intro pins s σ H x y v u Q I rx ry h
  obtain ⟨d, ds, hd, he, sd, se, q⟩ := h
  obtain ⟨as, r1⟩ := Dp.reads I d x v hd rx
  obtain ⟨bs, r2⟩ := Dp.reads I (.tuple ds) y u he ry
  exact SeqAt.in_tuple_reads r2 r1 (SeqAt.canLay_of_shaped se) (SeqAt.canLay_of_shaped sd) (PyProof.Rows.room_in_shaped sd hu) ⟨.bl _, H, I, rfl, q⟩
def ρInT (neg : Bool) : AR2 := fun x y M Q => match y with
  | .tup ds => ∃ p ps, x.py = some p ∧ D.pys ds = some ps ∧ SeqAt.shaped p = true ∧ SeqAt.shaped (.tuple ps) = true ∧ Q (.bl (if neg then !(ps.any fun z => PyData.eqv z p) else ps.any fun z => PyData.eqv z p)) M
  | _ => False
theorem sim_inT {neg : Bool} : SimR K (rInTD K neg) (ρInT neg) := by
  intro x y dx dy H M Q Qc ab rx ry q k
  cases dy with
  | tup ds =>
    obtain ⟨p, ps, e1, e2, s1, s2, q⟩ := q
    obtain ⟨a, vs, rfl, hT, hv⟩ := ry
    exact ⟨p, ps, Rep.dp dx x p rx e1, .tup hT (RepL.dp ds vs ps hv e2), s1, s2, k _ H (.bl _) M (Tr.refl ab) rfl q⟩
  | _ => exact q.elim
theorem bool_beq (a b : Bool) : (Value.bool a == Value.bool b) = decide (a = b) := by
  cases a <;> cases b <;> decide
theorem op_notB : OpR X (compareOp .IsNot) (fun x y H Q => ∃ a b, x = .bl a ∧ y = .bl b ∧ Q (.bl (!decide (a = b))) H) := by
  intro pins s σ H x y v u Q I rx ry h
  obtain ⟨a, b, rfl, rfl, q⟩ := h
  cases (show v = Value.bool a from rx)
  cases (show u = Value.bool b from ry)
  exact wpAny_isNot_plain rfl (fin_bl I q (congrArg not (bool_beq a b).symm))
def ρIsB (neg : Bool) : AR2 := fun x y M Q => match x, y with
  | .bl a, .bl b => Q (.bl (if neg then !decide (a = b) else decide (a = b))) M
  | _, _ => False
theorem sim_notB : SimR K (fun x y H Q => ∃ a b, x = .bl a ∧ y = .bl b ∧ Q (.bl (!decide (a = b))) H) (ρIsB true) := by
  intro x y dx dy H M Q Qc ab rx ry q k
  unfold ρIsB at q
  split at q
  · cases (show x = V.bl _ from rx)
    cases (show y = V.bl _ from ry)
    exact ⟨_, _, rfl, rfl, k _ H (.bl _) M (Tr.refl ab) rfl q⟩
  · exact q.elim
def ρSortI : ARs := fun ds M Q => match ds with
  | [.obj p] => lstAt M p fun ds => ∃ ns : List Int, ds = ns.map D.int ∧ ∀ ys : List Int, ys.Perm ns → ys.Pairwise (· ≤ ·) → New (.lst (ys.map D.int)) M Q
  | _ => False
theorem repL_intsV {H : Hp} : ∀ {ns : List Int} {vs : List V}, RepL K H (ns.map D.int) vs → vs = ns.map V.int
  | [], vs, h => h
  | n :: ns, vs, h => by
    obtain ⟨v, r, rfl, h1, h2⟩ := h
    cases (show v = V.int n from h1)
    rw [repL_intsV h2]
    rfl
theorem sim_sortI : SimC K (rSortedI K) ρSortI := by
  intro vs ds H M Q Qc ab r q k
  unfold ρSortI at q
  split at q
  · rename_i p
    obtain ⟨v, rfl, rv⟩ := repL1 r
    cases (show v = V.ref p from rv)
    obtain ⟨ds, m, q⟩ := lstAt_ex q
    obtain ⟨ns, rfl, q⟩ := q
    obtain ⟨us, h1, ru⟩ := ab p _ m
    rw [repL_intsV ru] at h1
    refine ⟨p, ns, rfl, SqL.of h1, fun ys b pm so hb => ?_⟩
    exact k (.ref b) _ (.obj b) _ (Tr.newM (mo := .lst (ys.map D.int)) ab hb ⟨ys.map V.int, upd_same, of_ints ys⟩) rfl (q ys pm so b (ab.fresh hb))
  · exact q.elim
def aSortSetI (α : ATE) : ATE := fun ax env M Q => α ax env M fun x M1 => match x with
  | .obj p => lstAt M1 p fun ds => ∃ ns : List Int, ds = ns.map D.int ∧ ns.length < 64 ∧ ∀ zs : List Int, zs.Pairwise (· < ·) → (∀ k, k ∈ zs ↔ k ∈ ns) → New (.lst (zs.map D.int)) M1 Q
  | _ => False
theorem ae_sortSetI {e : Expr} {α : ATE} {p p2 pos q2 : Pos} (hc : X.calm = true) (hg1 : Gl X "sorted") (hm1 : X.mg "sorted" = none) (hg2 : Gl X "set") (hm2 : X.mg "set" = none) (ha : AE X W e α)
    (w1 : starEach [.Call (.Name "set" p2) [e] [] q2] X.env = (false, eval (.Call (.Name "set" p2) [e] [] q2) X.env) :: starEach [] X.env := by rfl) (w2 : (backTo pos (starEach [] X.env)).any (·.1) = false := by rfl)
    (w3 : starEach [e] X.env = (false, eval e X.env) :: starEach [] X.env := by rfl) (w4 : (backTo q2 (starEach [] X.env)).any (·.1) = false := by rfl) :
    AE X W (.Call (.Name "sorted" p) [.Call (.Name "set" p2) [e] [] q2] [] pos) (aSortSetI α) :=
  PE.imp (pe_callB (cr_sortedSet hc) hg1 hm1 (by decide +kernel) (pa_cons (pe_callTy (cr_setI hc) hg2 hm2 (by decide +kernel) (pa_cons ha pa_nil w3) (by decide) (by decide) w3 w4) pa_nil w1) (by decide) (by decide) w1 w2) fun σ H Q h => by
    obtain ⟨ax, env, M, Qa, S, q, k⟩ := h
    refine ⟨ax, env, M, _, S, q, fun x H1 dx M1 t1 r q => ?_⟩
    cases dx with
    | obj p =>
      cases (show x = V.ref p from r)
      obtain ⟨ds, m, q⟩ := lstAt_ex q
      obtain ⟨ns, rfl, few, q⟩ := q
      obtain ⟨vs, h1, rv⟩ := t1.abs p _ m
      rw [repL_intsV rv] at h1
      refine ⟨p, ns, rfl, SqL.of h1, by unfold PySem.scanBound; omega, fun a c ha hcl => ?_⟩
      refine ⟨a, _, c, rfl, upd_same, by omega, fun zs b so mem _ hb => ?_⟩
      have t2 : Tr X.K M1 H1 M1 (upd H1 a (SetO X.w a (fun j => decide (j ∈ ns)) c)) := Tr.newT t1.abs ha
      have t3 := Tr.newM (mo := .lst (zs.map D.int)) t2.abs hb ⟨zs.map V.int, upd_same, of_ints zs⟩
      exact k (.ref b) _ (.obj b) _ ((t1.trans t2).trans t3) rfl (q zs so (fun z => (mem z).trans decide_eq_true_iff) b (t2.abs.fresh hb))
    | _ => exact False.elim q
end

section
variable {W : WX} {X : Cx} {K : PySem.W.Frag} {e o : Expr} {es : List Expr} {α β : ATE} {τ : ATA} {pos p apos cpos : Pos} {x : Str}
def aTailR (a : ATE) : ATE := fun ax env M Q => a ax env M fun x M1 => match x with
  | .tup ds => Q (.tup (ds.drop 1).reverse) M1
  | _ => False
def ρDivmod : ARs := fun ds M Q => match ds with
  | [.int i, .int j] => CDiv i j ∧ Q (.tup [.int (i / j), .int (i % j)]) M
  | _ => False
def ρStrI : ARs := fun ds M Q => match ds with
  | [.int i] => i.natAbs.log2 < 1920 ∧ Q (.str (toString i)) M
  | _ => False
def ρLenD : ARs := fun ds M Q => match ds with
  | [.obj p] => dicAt M p fun kvs => Q (.int kvs.length) M
  | _ => False
def aFmt (a : ATE) : ATE := fun ax env M Q => a ax env M fun x M1 => match x with
  | .str y => y.length ≤ sizeLine ∧ Q (.str y) M1
  | .int i => i.natAbs.log2 < 1920 ∧ Q (.str (toString i)) M1
  | _ => False
def aFs2 (a b : ATE) : ATE := fun ax env M Q => a ax env M fun x M1 => match x with
  | .str y => y.length ≤ sizeLine ∧ b ax env M1 fun x2 M2 => match x2 with
    | .str z => (y ++ z).length ≤ sizeLine ∧ Q (.str (y ++ z)) M2
    | _ => False
  | _ => False
end

def z_letter : Str := "letter"
def z_abcdefgh : Str := "abcdefgh"
def z_not : Str := "not"
def z_if : Str := "if"
def z_a : Str := "a"
def z_b : Str := "b"
def z_c : Str := "c"
def z_d : Str := "d"
def z_e : Str := "e"
def z_f : Str := "f"
def z_g : Str := "g"
def z_h : Str := "h"
theorem zln : (z_letter = z_not) = False := eq_false (by decide +kernel)
theorem znl : (z_not = z_letter) = False := eq_false (by decide +kernel)
theorem zli : (z_letter = z_if) = False := eq_false (by decide +kernel)
theorem zil : (z_if = z_letter) = False := eq_false (by decide +kernel)
theorem zni : (z_not = z_if) = False := eq_false (by decide +kernel)
theorem zin : (z_if = z_not) = False := eq_false (by decide +kernel)

section
variable {ax : AX} {De : AEnds} {env : AEnv} {M : Sto} {Q : D → Sto → Prop} {R : Bool → Sto → Prop} {L : List D → Sto → Prop} {N : AEnv → Sto → Prop} {d x y : D} {o : Option D} {α β γ : ATE} {A B : ATT} {t u : ATS} {τ : ATA} {g : ATG} {ρ : AR2} {i : Nat}
theorem e_seq : aSeq t u ax De env M = t ax ⟨u ax De, De.rt, De.bk, De.ct⟩ env M := rfl
theorem e_next : aNext ax De env M = De.nx env M := rfl
theorem e_break : aBreak ax De env M = De.bk env M := rfl
theorem e_cont : aCont ax De env M = De.ct env M := rfl
theorem e_expr : aExpr α ax De env M = α ax env M (fun _ M1 => De.nx env M1) := rfl
theorem e_ret : aRet α ax De env M = α ax env M De.rt := rfl
theorem e_retN : aRetN ax De env M = De.rt .non M := rfl
theorem e_if : aIf A t u ax De env M = A ax env M (fun b M1 => if b = true then t ax De env M1 else u ax De env M1) := rfl
theorem e_never : aNever ax De env M = False := rfl
theorem e_asg : aAsg α g ax De env M = α ax env M (fun d M1 => g d ax env M1 De.nx) := rfl
theorem e_name : agName i d ax env M N = N (env.set i (some d)) M := rfl
theorem e_agtup {n : Nat} {gs : ATGs} {ds : List D} : agTup n gs (.tup ds) ax env M N = (ds.length = n ∧ gs ds ax env M N) := rfl
theorem e_agcons {gs : ATGs} {ds : List D} : agCons g gs (d :: ds) ax env M N = g d ax env M (fun env1 M1 => gs ds ax env1 M1 N) := rfl
theorem e_agnil : agNil [] ax env M N = N env M := rfl
theorem e_agsub : agSub α β d ax env M N = α ax env M (fun x M1 => β ax env M1 fun y M2 => match x, y with
  | .obj p, .int i => lstAt M2 p fun ds => optAt (ixN ds.length i) fun j => N env (up M2 p (.lst (ds.set j d)))
  | _, _ => False) := rfl
theorem e_aug : aAug ρ i α ax De env M = optAt env[i]? fun o => optAt o fun x => α ax env M fun y M1 => ρ x y M1 fun z M2 => De.nx (env.set i (some z)) M2 := rfl
theorem e_dput : aDPut α β γ ax De env M = γ ax env M fun z M1 => α ax env M1 fun x M2 => β ax env M2 fun y M3 => match x with
  | .obj p => dicAt M3 p fun kvs => optAt (keyD y) fun k => kvs.length < sizeLine ∧ De.nx env (up M3 p (.dic (putA kvs k z)))
  | _ => False := rfl
theorem e_var : aVar i ax env M Q = optAt env[i]? fun o => optAt o fun d => Q d M := rfl
theorem e_c : aC d ax env M Q = Q d M := rfl
theorem e_op : aOp ρ α β ax env M Q = α ax env M fun x M1 => β ax env M1 fun y M2 => ρ x y M2 Q := rfl
theorem e_some {α : Type} {x : α} {k : α → Prop} : optAt (some x) k = k x := rfl
theorem e_none {α : Type} {k : α → Prop} : optAt none k = False := rfl
theorem e_test : aTest α ax env M R = α ax env M fun x M1 => match x with
  | .bl b => R b M1
  | _ => False := rfl
theorem e_and : aAnd A B ax env M R = A ax env M fun c M1 => if c = true then B ax env M1 R else R false M1 := rfl
theorem e_or : aOr A B ax env M R = A ax env M fun c M1 => if c = true then R true M1 else B ax env M1 R := rfl
theorem e_not : aNot A ax env M R = A ax env M fun c M1 => R (!c) M1 := rfl
theorem e_yes : aYes ax env M R = R true M := rfl
theorem e_truth : aTruth α ax env M R = α ax env M fun x M1 => aTru1 x M1 fun b => R b M1 := by
  unfold aTruth
  congr 1
theorem e_tru_bl {b : Bool} {P : Bool → Prop} : aTru1 (.bl b) M P = P b := rfl
theorem e_tru_int {i : Int} {P : Bool → Prop} : aTru1 (.int i) M P = P (i != 0) := rfl
theorem e_tru_non {P : Bool → Prop} : aTru1 .non M P = P false := rfl
theorem e_tru_str {z : Str} {P : Bool → Prop} : aTru1 (.str z) M P = (z.length ≤ sizeLine ∧ P ((z.length : Int) != 0)) := rfl
theorem e_tru_tup {ds : List D} {P : Bool → Prop} : aTru1 (.tup ds) M P = P (!ds.isEmpty) := rfl
theorem e_tru_obj {p : Addr} {P : Bool → Prop} : aTru1 (.obj p) M P = (match M p with
    | some (.lst ds) => P (!ds.isEmpty)
    | some (.dic kvs) => P (!kvs.isEmpty)
    | _ => False) := rfl
theorem e_chain {ρ' : AR2} : aChain ρ ρ' α β γ ax env M Q = α ax env M fun x M1 => β ax env M1 fun y M2 => ρ x y M2 fun z M3 => match z with
  | .bl k => if k = true then γ ax env M3 fun w M4 => ρ' y w M4 Q else Q (.bl false) M3
  | _ => False := rfl
theorem e_orV : aOrV α β ax env M Q = α ax env M fun x M1 => aTru1 x M1 fun k => if k = true then Q x M1 else β ax env M1 Q := rfl
theorem e_andV : aAndV α β ax env M Q = α ax env M fun x M1 => aTru1 x M1 fun k => if k = true then β ax env M1 Q else Q x M1 := rfl
theorem e_notV : aNotV α ax env M Q = α ax env M fun x M1 => aTru1 x M1 fun k => Q (.bl (!k)) M1 := rfl
theorem e_ifE : aIfE A α β ax env M Q = A ax env M fun c M1 => if c = true then α ax env M1 Q else β ax env M1 Q := rfl
theorem e_neg : aNeg α ax env M Q = α ax env M fun x M1 => match x with
  | .int i => Q (.int (-i)) M1
  | _ => False := rfl
theorem e_nil : aNil ax env M L = L [] M := rfl
theorem e_cons : aCons α τ ax env M L = α ax env M fun x M1 => τ ax env M1 fun xs M2 => L (x :: xs) M2 := rfl
theorem e_tup : aTup τ ax env M Q = τ ax env M fun ds M1 => ds.length ≤ sizeLine ∧ Q (.tup ds) M1 := rfl
theorem e_lst : aLst τ ax env M Q = τ ax env M fun ds M1 => ds.length ≤ sizeLine ∧ New (.lst ds) M1 Q := rfl
theorem e_dnew : aDNew ax env M Q = New (.dic []) M Q := rfl
theorem e_call {n : Nat} {S : ASp} : aCall n S τ ax env M Q = τ ax env M fun ds M1 => Wait n S ds M1 Q := rfl
theorem e_cb {r : ARs} : aCB r τ ax env M Q = τ ax env M fun ds M1 => r ds M1 Q := rfl
theorem e_isi {T : String} : aIsi T α ax env M Q = α ax env M fun x M1 => optAt (kitB (tyN M1 x) T) fun b => Q (.bl b) M1 := rfl
theorem e_sl {l h : ATO} : aSl α l h ax env M Q = α ax env M fun x M1 => l ax env M1 fun lo M2 => h ax env M2 fun hi M3 => match x with
  | .tup ds => Q (.tup (cutL ds lo hi)) M3
  | .str z => z.length ≤ sizeLine ∧ Q (.str (cutS z lo hi)) M3
  | .obj p => lstAt M3 p fun ds => New (.lst (cutL ds lo hi)) M3 Q
  | _ => False := rfl
theorem e_onone {P : Option Int → Sto → Prop} : aONone ax env M P = P none M := rfl
theorem e_osome {P : Option Int → Sto → Prop} : aOSome α ax env M P = α ax env M fun x M1 => match x with
  | .int i => P (some i) M1
  | _ => False := rfl
theorem e_rev : aRev α ax env M Q = α ax env M fun x M1 => match x with
  | .obj p => lstAt M1 p fun ds => New (.lst ds.reverse) M1 Q
  | _ => False := rfl
theorem e_lm {r : Addr → List D → List D → Sto → (D → Sto → Prop) → Prop} : aLm r α τ ax env M Q = α ax env M fun x M1 => match x with
  | .obj p => lstAt M1 p fun _ => τ ax env M1 fun xs M2 => lstAt M2 p fun ds => r p ds xs M2 Q
  | _ => False := rfl
theorem e_append {p : Addr} {ds : List D} : ρAppend p ds [x] M Q = (ds.length < sizeLine ∧ Q .non (up M p (.lst (ds ++ [x])))) := rfl
theorem e_extend {p q : Addr} {ds : List D} : ρExtend p ds [.obj q] M Q = lstAt M q fun es => ds.length + es.length ≤ sizeLine ∧ Q .non (up M p (.lst (ds ++ es))) := rfl
theorem e_pop : aPop α ax env M Q = α ax env M fun x M1 => match x with
  | .obj p => lstAt M1 p fun ds => optAt ds.getLast? fun d => Q d (up M1 p (.lst ds.dropLast))
  | _ => False := rfl
theorem e_join : aJoin α β ax env M Q = α ax env M fun x M1 => match x with
  | .str z => β ax env M1 fun y M2 => optAt (strsM M2 y) fun xs => (xs.map (·.length)).sum + xs.length * z.length ≤ 16777216 ∧ Q (.str (Txt.join z xs)) M2
  | _ => False := rfl
theorem e_dget2 : aDGet2 α β γ ax env M Q = α ax env M fun x M1 => match x with
  | .obj p => dicAt M1 p fun _ => β ax env M1 fun y M2 => γ ax env M2 fun z M3 => dicAt M3 p fun kvs => optAt (keyD y) fun k => Q ((valA kvs k).getD z) M3
  | _ => False := rfl
theorem e_sortSet : aSortSet α ax env M Q = α ax env M fun x M1 => match x with
  | .obj p => lstAt M1 p fun ds => optAt (strsOf ds) fun xs => xs.length ≤ 4000 ∧ ∀ ys : List Str, ys.Nodup → (∀ k, k ∈ ys ↔ k ∈ xs) → PyProof.Rows.sortedS ys = true → New (.lst (ys.map D.str)) M1 Q
  | _ => False := rfl
theorem e_sortS {p : Addr} : ρSortS [.obj p] M Q = lstAt M p fun ds => optAt (strsOf ds) fun xs => xs.length < 64 ∧ ∀ ys : List Str, ys.Perm xs → PyProof.Rows.sortedS ys = true → New (.lst (ys.map D.str)) M Q := rfl
theorem e_setd : aSetd α β γ ax env M Q = α ax env M fun x M1 => match x with
  | .obj p => dicAt M1 p fun _ => β ax env M1 fun y M2 => γ ax env M2 fun z M3 => dicAt M3 p fun kvs => optAt (keyD y) fun k => kvs.length < sizeLine ∧ match valA kvs k with
    | some v => Q v M3
    | none => Q z (up M3 p (.dic (putA kvs k z)))
  | _ => False := rfl
theorem e_maxI {p : Addr} : ρMaxI [.obj p] M Q = lstAt M p fun ds => optAt (intsOf ds) fun xs => 0 < xs.length ∧ ∀ m, m ∈ xs → (∀ y, y ∈ xs → y ≤ m) → Q (.int m) M := rfl
theorem e_disp {prs : List (Str × ATE)} : aDisp prs ax env M Q = ∀ p, M p = none → aPairs prs ax env (up M p (.dic [])) fun kvs M2 => M2 p = some (.dic []) ∧ kvs.length ≤ 15 ∧ Q (.obj p) (up M2 p (.dic (mergeA [] kvs))) := rfl
theorem e_pairN {P : List (Key × D) → Sto → Prop} : aPairs [] ax env M P = P [] M := rfl
theorem e_pairC {P : List (Key × D) → Sto → Prop} {s : Str} {r : List (Str × ATE)} : aPairs ((s, α) :: r) ax env M P = α ax env M fun y M1 => aPairs r ax env M1 fun kvs M2 => P ((.inr s, y) :: kvs) M2 := rfl
theorem e_for {ι : ATI} : aFor ι g t ax De env M = ι ax env M fun items chk M1 => aForGo chk g t ax De items env M1 := rfl
theorem e_forN {chk : Sto → Prop} : aForGo chk g t ax De [] env M = (chk M ∧ De.nx env M) := rfl
theorem e_forC {chk : Sto → Prop} {r : List D} : aForGo chk g t ax De (d :: r) env M = (chk M ∧ g d ax env M fun env1 M1 => t ax ⟨aForGo chk g t ax De r, De.rt, De.nx, aForGo chk g t ax De r⟩ env1 M1) := rfl
theorem e_ilist {P : List D → (Sto → Prop) → Sto → Prop} : aIList α ax env M P = α ax env M fun x M1 => match x with
  | .obj p => lstAt M1 p fun ds => P ds (fun M => M p = some (.lst ds)) M1
  | _ => False := rfl
theorem e_itup {P : List D → (Sto → Prop) → Sto → Prop} : aITup α ax env M P = α ax env M fun x M1 => match x with
  | .tup ds => P ds (fun _ => True) M1
  | _ => False := rfl
theorem e_rng1 {P : List D → (Sto → Prop) → Sto → Prop} : aIRng1 τ ax env M P = τ ax env M fun ds M1 => match ds with
  | [.int j] => -(2 ^ 62) ≤ j ∧ j < 2 ^ 62 ∧ P (rngD 0 j.toNat) (fun _ => True) M1
  | _ => False := rfl
theorem e_rng2 {P : List D → (Sto → Prop) → Sto → Prop} : aIRng2 τ ax env M P = τ ax env M fun ds M1 => match ds with
  | [.int i, .int j] => (-(2 ^ 62) ≤ i ∧ i < 2 ^ 62 ∧ -(2 ^ 62) ≤ j ∧ j < 2 ^ 62) ∧ P (rngD i (j - i).toNat) (fun _ => True) M1
  | _ => False := rfl
theorem e_lc {ι : ATI} {e : ATE} : aLc ι i A e ax env M Q = ι ax env M fun items chk M1 => items.length ≤ 1000000 ∧ aLcGo chk i A e ax env items [] M1 fun acc M2 => New (.lst acc) M2 Q := rfl
theorem e_lc2 {ι : ATI} {e : ATE} {j : Nat} : aLc2 ι i j A e ax env M Q = ι ax env M fun items chk M1 => i ≠ j ∧ items.length ≤ 1000000 ∧ aLc2Go chk i j A e ax env items [] M1 fun acc M2 => New (.lst acc) M2 Q := rfl
theorem e_lc2N {chk : Sto → Prop} {e : ATE} {acc : List D} {j : Nat} : aLc2Go chk i j A e ax env [] acc M L = (chk M ∧ L acc M) := rfl
theorem e_ienum {P : List D → (Sto → Prop) → Sto → Prop} : aIEnum τ ax env M P = τ ax env M fun ds M1 => match ds with
  | [.tup ds] => P (enumD 0 ds) (fun _ => True) M1
  | [.obj p] => lstAt M1 p fun ds => P (enumD 0 ds) (fun M => M p = some (.lst ds)) M1
  | _ => False := rfl
theorem e_izip {P : List D → (Sto → Prop) → Sto → Prop} : aIZip τ ax env M P = τ ax env M fun ds M1 => match ds with
  | [.tup ds, .tup es] => P (zipD ds es) (fun _ => True) M1
  | [.obj p, .obj q] => lstAt M1 p fun ds => lstAt M1 q fun es => P (zipD ds es) (fun M => M p = some (.lst ds) ∧ M q = some (.lst es)) M1
  | _ => False := rfl
theorem e_anyB {p : Addr} : ρAny [.obj p] M Q = lstAt M p fun ds => optAt (blsOf ds) fun bs => Q (.bl (bs.any id)) M := rfl
theorem e_allB {p : Addr} : ρAll [.obj p] M Q = lstAt M p fun ds => optAt (blsOf ds) fun bs => Q (.bl (bs.all id)) M := rfl
theorem e_mulS {z : Str} {k : Int} : ρMulS (.str z) (.int k) M Q = (0 ≤ k ∧ k ≤ 1000 ∧ z.length ≤ 1000 ∧ Q (.str (EN.reps z k.toNat)) M) := rfl
theorem e_set0 {w : World} : aSet0 w ax env M Q = ∀ p, M p = none → Q (.obj p) (up M p (.raw (SetTx w p []))) := rfl
theorem e_sadd {w : World} : aSAdd w α τ ax env M Q = α ax env M fun x M1 => match x with
  | .obj p => (∃ ks, M1 p = some (.raw (SetTx w p ks))) ∧ τ ax env M1 fun xs M2 => match xs with
    | [.str k] => ∃ ks, M2 p = some (.raw (SetTx w p ks)) ∧ ks.length ≤ 4000 ∧ Q .non (up M2 p (.raw (SetTx w p (if k ∈ ks then ks else k :: ks))))
    | _ => False
  | _ => False := rfl
theorem e_sortTx {w : World} {p : Addr} : ρSortTx w [.obj p] M Q = ∃ ks, M p = some (.raw (SetTx w p ks)) ∧ ∀ ys : List Str, ys.Perm ks → PyProof.Rows.sortedS ys = true → New (.lst (ys.map D.str)) M Q := rfl
theorem e_sortD {p : Addr} : ρSortD [.obj p] M Q = dicAt M p fun kvs => ∃ ks : List Str, kvs.map (·.1) = ks.map Sum.inr ∧ ks.length < 64 ∧ ∀ ys : List Str, ys.Perm ks → PyProof.Rows.sortedS ys = true → New (.lst (ys.map D.str)) M Q := rfl
theorem e_repr : ρRepr [d] M Q = ∃ p, isRef d = true ∧ pyM2 M d = some p ∧ p.showable = true ∧ p.hasDict = false ∧ p.depth ≤ 64 ∧ p.shown.length ≤ sizeLine ∧ Q (.str p.shown) M := rfl
theorem e_lcN {chk : Sto → Prop} {e : ATE} {acc : List D} : aLcGo chk i A e ax env [] acc M L = (chk M ∧ L acc M) := rfl
theorem e_lcC {chk : Sto → Prop} {e : ATE} {acc r : List D} : aLcGo chk i A e ax env (d :: r) acc M L = (chk M ∧ A ax (env.set i (some d)) M fun b M1 => if b = true then e ax (env.set i (some d)) M1 fun y M2 => aLcGo chk i A e ax env r (acc ++ [y]) M2 L else aLcGo chk i A e ax env r acc M1 L) := rfl
theorem e_add_int {i j : Int} : ρAdd (.int i) (.int j) M Q = Q (.int (i + j)) M := rfl
theorem e_add_str {i j : Str} : ρAdd (.str i) (.str j) M Q = (i.length + j.length ≤ sizeLine ∧ Q (.str (i ++ j)) M) := rfl
theorem e_add_tup {i j : List D} : ρAdd (.tup i) (.tup j) M Q = (i.length + j.length ≤ sizeLine ∧ Q (.tup (i ++ j)) M) := rfl
theorem e_add_obj {p q : Addr} : ρAdd (.obj p) (.obj q) M Q = lstAt M p fun ds => lstAt M q fun es => ds.length + es.length ≤ sizeLine ∧ New (.lst (ds ++ es)) M Q := rfl
theorem e_iadd_int {i j : Int} : ρIAdd (.int i) (.int j) M Q = Q (.int (i + j)) M := rfl
theorem e_iadd_str {i j : Str} : ρIAdd (.str i) (.str j) M Q = (i.length + j.length ≤ sizeLine ∧ Q (.str (i ++ j)) M) := rfl
theorem e_iadd_obj {p q : Addr} : ρIAdd (.obj p) (.obj q) M Q = lstAt M p fun ds => lstAt M q fun es => ds.length + es.length ≤ sizeLine ∧ Q (.obj p) (up M p (.lst (ds ++ es))) := rfl
theorem e_I {C : Int → Int → Prop} {f : Int → Int → D} {i j : Int} : ρI C f (.int i) (.int j) M Q = (C i j ∧ Q (f i j) M) := rfl
theorem e_I0 {f : Int → Int → D} {i j : Int} : ρI0 f (.int i) (.int j) M Q = Q (f i j) M := rfl
theorem e_IS_int {f : Int → Int → Bool} {h : Str → Str → Bool} {i j : Int} : ρIS f h (.int i) (.int j) M Q = Q (.bl (f i j)) M := rfl
theorem e_IS_str {f : Int → Int → Bool} {h : Str → Str → Bool} {i j : Str} : ρIS f h (.str i) (.str j) M Q = Q (.bl (h i j)) M := rfl
theorem e_eq_str {i j : Str} : ρEq false (.str i) (.str j) M Q = Q (.bl (decide (i = j))) M := rfl
theorem e_ne_str {i j : Str} : ρEq true (.str i) (.str j) M Q = Q (.bl (!decide (i = j))) M := rfl
theorem e_eq_int {i j : Int} : ρEq false (.int i) (.int j) M Q = Q (.bl (decide (i = j))) M := rfl
theorem e_ne_int {i j : Int} : ρEq true (.int i) (.int j) M Q = Q (.bl (!decide (i = j))) M := rfl
theorem e_eq_bl {i j : Bool} : ρEq false (.bl i) (.bl j) M Q = Q (.bl (decide (i = j))) M := rfl
theorem e_ne_bl {i j : Bool} : ρEq true (.bl i) (.bl j) M Q = Q (.bl (!decide (i = j))) M := rfl
theorem e_isN : ρIsN false x .non M Q = Q (.bl (isNon x)) M := by
  unfold ρIsN
  exact propext ⟨fun h => h.2, fun h => ⟨rfl, h⟩⟩
theorem e_notN : ρIsN true x .non M Q = Q (.bl (!isNon x)) M := by
  unfold ρIsN
  exact propext ⟨fun h => h.2, fun h => ⟨rfl, h⟩⟩
theorem e_ix_tup {ds : List D} {i : Int} : ρIx (.tup ds) (.int i) M Q = optAt (atI ds i) fun d => Q d M := rfl
theorem e_ix_fl {ds : List D} {i : Int} : ρIx (.fl ds) (.int i) M Q = optAt (atI ds i) fun d => Q d M := rfl
theorem e_ix_str {z : Str} {i : Int} : ρIx (.str z) (.int i) M Q = (z.length ≤ sizeLine ∧ optAt (atI z.cps.toList i) fun c => Q (.str ⟨#[c]⟩) M) := rfl
theorem e_ix_obj {p : Addr} {i : Int} : ρIx (.obj p) (.int i) M Q = lstAt M p fun ds => optAt (atI ds i) fun d => Q d M := rfl
theorem e_in_tup {ds : List D} : ρIn false x (.tup ds) M Q = (flatD x = true ∧ ds.all flatD = true ∧ Q (.bl (ds.any fun y => eqF y x)) M) := rfl
theorem e_nin_tup {ds : List D} : ρIn true x (.tup ds) M Q = (flatD x = true ∧ ds.all flatD = true ∧ Q (.bl (!ds.any fun y => eqF y x)) M) := rfl
theorem e_len_tup {ds : List D} : ρLen [.tup ds] M Q = Q (.int ds.length) M := rfl
theorem e_len_fl {ds : List D} : ρLen [.fl ds] M Q = Q (.int ds.length) M := rfl
theorem e_len_str {z : Str} : ρLen [.str z] M Q = (z.length ≤ sizeLine ∧ Q (.int z.length) M) := rfl
theorem e_len_obj {p : Addr} : ρLen [.obj p] M Q = lstAt M p fun ds => Q (.int ds.length) M := rfl
theorem e_int_int {i : Int} : ρInt [.int i] M Q = Q (.int i) M := rfl
theorem e_tuple_tup {ds : List D} : ρTuple [.tup ds] M Q = Q (.tup ds) M := rfl
theorem e_tuple_obj {p : Addr} : ρTuple [.obj p] M Q = lstAt M p fun ds => Q (.tup ds) M := rfl
theorem e_list_tup {ds : List D} : ρList [.tup ds] M Q = New (.lst ds) M Q := rfl
theorem e_list_obj {p : Addr} : ρList [.obj p] M Q = lstAt M p fun ds => New (.lst ds) M Q := rfl
theorem e_dget {p : Addr} : ρDGet (.obj p) y M Q = dicAt M p fun kvs => optAt (keyD y) fun k => optAt (valA kvs k) fun d => Q d M := rfl
theorem e_din {p : Addr} : ρDIn false y (.obj p) M Q = dicAt M p fun kvs => optAt (keyD y) fun k => Q (.bl (valA kvs k).isSome) M := rfl
theorem e_dnin {p : Addr} : ρDIn true y (.obj p) M Q = dicAt M p fun kvs => optAt (keyD y) fun k => Q (.bl (!(valA kvs k).isSome)) M := rfl
theorem e_lstAt {p : Addr} {k : List D → Prop} : lstAt M p k = (match M p with
  | some (.lst ds) => k ds
  | _ => False) := rfl
theorem e_dicAt {p : Addr} {k : List (Key × D) → Prop} : dicAt M p k = (match M p with
  | some (.dic ds) => k ds
  | _ => False) := rfl
theorem e_key_int {i : Int} : keyD (.int i) = some (.inl i) := rfl
theorem e_key_str {i : Str} : keyD (.str i) = some (.inr i) := rfl
theorem e_up {p q : Addr} {mo : MO} : up M p mo q = if q = p then some mo else M q := rfl
theorem e_ty_str {z : Str} : tyN M (.str z) = "str" := rfl
theorem e_ty_tup {ds : List D} : tyN M (.tup ds) = "tuple" := rfl
theorem e_ty_int {z : Int} : tyN M (.int z) = "int" := rfl
theorem e_ty_bl {z : Bool} : tyN M (.bl z) = "bool" := rfl
theorem e_ty_non : tyN M .non = "NoneType" := rfl
end
theorem atI0 {α : Type} {a : α} {r : List α} : atI (a :: r) 0 = some a := atI_nat (j := 0) rfl
theorem atI1 {α : Type} {a b : α} {r : List α} : atI (a :: b :: r) 1 = some b := atI_nat (j := 1) rfl
theorem atI2 {α : Type} {a b c : α} {r : List α} : atI (a :: b :: c :: r) 2 = some c := atI_nat (j := 2) rfl
theorem atI3 {α : Type} {a b c d : α} {r : List α} : atI (a :: b :: c :: d :: r) 3 = some d := atI_nat (j := 3) rfl
theorem atIL {α : Type} {a : α} {r : List α} : atI (r ++ [a]) (-1) = some a := atI_last r a
theorem atIn {α : Type} {r : List α} {n : Nat} : atI r (n : Int) = r[n]? := by
  cases e : r[n]? with
  | some x => exact atI_nat e
  | none =>
    have h := List.getElem?_eq_none_iff.mp e
    unfold atI ixN
    rw [if_pos (by omega), if_neg (by omega)]
    rfl
theorem ixN0 {n : Nat} : ixN (n + 1) 0 = some 0 := by unfold ixN; rw [if_pos (by omega), if_pos (by omega)]; rfl
theorem ixN1 {n : Nat} : ixN (n + 2) 1 = some 1 := by unfold ixN; rw [if_pos (by omega), if_pos (by omega)]; rfl
theorem cut_from1 {α : Type} {a : α} {r : List α} : cutL (a :: r) (some 1) none = r := by
  unfold cutL
  rw [show HT.sIx (a :: r).length 0 (some 1) = 1 by
    show min (1 : Int).toNat (a :: r).length = 1
    rw [List.length_cons]
    have : (1 : Int).toNat = 1 := rfl
    omega, HT.sIx_none]
  show r.take ((a :: r).length - 1) = r
  rw [List.length_cons, Nat.add_sub_cancel, List.take_length]
theorem e_ite_or {a b : Prop} [Decidable a] [Decidable b] {X Y : Prop} : (if a then X else if b then X else Y) = if a ∨ b then X else Y := by
  by_cases ha : a
  · rw [if_pos ha, if_pos (Or.inl ha)]
  · rw [if_neg ha]
    by_cases hb : b
    · rw [if_pos hb, if_pos (Or.inr hb)]
    · rw [if_neg hb, if_neg (fun h => h.elim ha hb)]
theorem e_ite_and {a b : Prop} [Decidable a] [Decidable b] {X Y : Prop} : (if a then (if b then X else Y) else Y) = if a ∧ b then X else Y := by
  by_cases ha : a
  · rw [if_pos ha]
    by_cases hb : b
    · rw [if_pos hb, if_pos ⟨ha, hb⟩]
    · rw [if_neg hb, if_neg fun h => hb h.2]
  · rw [if_neg ha, if_neg fun h => ha h.1]
theorem isEmpty_snoc {α : Type} {l : List α} {a : α} : (l ++ [a]).isEmpty = false := by cases l <;> rfl
theorem cpow1018 : CPow 10 18 = True := eq_true ⟨by decide, by decide, by decide⟩
theorem sizeLine_eq : sizeLine = 16777216 := rfl
theorem in_non : isNon .non = true := rfl
theorem in_tup {a : List D} : isNon (.tup a) = false := rfl
theorem in_str {a : Str} : isNon (.str a) = false := rfl
theorem in_int {a : Int} : isNon (.int a) = false := rfl
theorem in_bl {a : Bool} : isNon (.bl a) = false := rfl
theorem in_obj {a : Addr} : isNon (.obj a) = false := rfl
theorem in_fl {a : List D} : isNon (.fl a) = false := rfl
theorem kb_strstr : kitB "str" "str" = some true := by decide +kernel
theorem kb_tupstr : kitB "tuple" "str" = some false := by decide +kernel
theorem kb_tuptup : kitB "tuple" "tuple" = some true := by decide +kernel
theorem kb_strtup : kitB "str" "tuple" = some false := by decide +kernel
theorem kb_inttup : kitB "int" "tuple" = some false := by decide +kernel
theorem kb_bltup : kitB "bool" "tuple" = some false := by decide +kernel
theorem kb_nontup : kitB "NoneType" "tuple" = some false := by decide +kernel
theorem kb_strbl : kitB "str" "bool" = some false := by decide +kernel
theorem kb_strint : kitB "str" "int" = some false := by decide +kernel
theorem kb_intbl : kitB "int" "bool" = some false := by decide +kernel
theorem kb_intint : kitB "int" "int" = some true := by decide +kernel
theorem kb_blbl : kitB "bool" "bool" = some true := by decide +kernel
theorem kb_blint : kitB "bool" "int" = some true := by decide +kernel
theorem kb_nonbl : kitB "NoneType" "bool" = some false := by decide +kernel
theorem kb_nonint : kitB "NoneType" "int" = some false := by decide +kernel
theorem kb_nonstr : kitB "NoneType" "str" = some false := by decide +kernel
theorem kb_intstr : kitB "int" "str" = some false := by decide +kernel
theorem kb_blstr : kitB "bool" "str" = some false := by decide +kernel
theorem kb_tupbl : kitB "tuple" "bool" = some false := by decide +kernel
theorem kb_tupint : kitB "tuple" "int" = some false := by decide +kernel


def Ext (M M' : Sto) : Prop := ∀ a mo, M a = some mo → M' a = some mo
def ExtB (b : Addr) (M M' : Sto) : Prop := ∀ a mo, a ≠ b → M a = some mo → M' a = some mo
theorem Ext.refl (M : Sto) : Ext M M := fun _ _ h => h
theorem Ext.trans {M M1 M2 : Sto} (a : Ext M M1) (b : Ext M1 M2) : Ext M M2 := fun c o h => b c o (a c o h)
theorem Ext.new {M : Sto} {p : Addr} {mo : MO} (h : M p = none) : Ext M (up M p mo) := fun a o e => by
  have n : a ≠ p := fun z => by subst z; rw [h] at e; cases e
  rw [up_ne n]
  exact e
theorem ExtB.refl (b : Addr) (M : Sto) : ExtB b M M := fun _ _ _ h => h
theorem ExtB.trans {b : Addr} {M M1 M2 : Sto} (x : ExtB b M M1) (y : ExtB b M1 M2) : ExtB b M M2 := fun c o n h => y c o n (x c o n h)
theorem Ext.b {b : Addr} {M M' : Sto} (x : Ext M M') : ExtB b M M' := fun c o _ h => x c o h
theorem ExtB.new {b : Addr} {M : Sto} {p : Addr} {mo : MO} (h : M p = none) : ExtB b M (up M p mo) := (Ext.new h).b
theorem ExtB.upd {b : Addr} {M : Sto} {mo : MO} : ExtB b M (up M b mo) := fun a o n e => by rw [up_ne n]; exact e
theorem fresh_ne {M : Sto} {p a : Addr} {mo : MO} (h : M p = none) (e : M a = some mo) : a ≠ p := fun z => by subst z; rw [h] at e; cases e
theorem Ext.upd {M M' : Sto} {p : Addr} {mo : MO} (h : M p = none) (e : Ext M M') : Ext M (up M' p mo) := fun a o m => by
  rw [up_ne (fresh_ne h m)]
  exact e a o m
theorem Ext.none {M M' : Sto} {p : Addr} (e : Ext M M') (h : M' p = none) : M p = none := by
  cases z : M p with
  | none => rfl
  | some mo => rw [e _ _ z] at h; cases h
theorem for_run {chk : Sto → Prop} {g : ATG} {t : ATS} {ax : AX} {De : AEnds} (I : List D → AEnv → Sto → Prop) (hc : ∀ ds env M, I ds env M → chk M) (hn : ∀ env M, I [] env M → De.nx env M)
    (turn : ∀ d r N env M, I (d :: r) env M → (∀ env' M', I r env' M' → N env' M') → g d ax env M fun env1 M1 => t ax ⟨N, De.rt, De.nx, N⟩ env1 M1) : ∀ {ds : List D} {env : AEnv} {M : Sto}, I ds env M → aForGo chk g t ax De ds env M
  | [], env, M, h => ⟨hc _ _ _ h, hn env M h⟩
  | d :: r, env, M, h => ⟨hc _ _ _ h, turn d r _ env M h fun env' M' i => for_run I hc hn turn i⟩
theorem lc_run {chk : Sto → Prop} {i : Nat} {t : ATT} {e : ATE} {ax : AX} {env : AEnv} {Q : List D → Sto → Prop} (I : List D → List D → Sto → Prop) (hc : ∀ ds acc M, I ds acc M → chk M) (hn : ∀ acc M, I [] acc M → Q acc M)
    (turn : ∀ d r acc M (N : List D → Sto → Prop), I (d :: r) acc M → (∀ acc' M', I r acc' M' → N acc' M') → t ax (env.set i (some d)) M fun b M1 => if b = true then e ax (env.set i (some d)) M1 fun y M2 => N (acc ++ [y]) M2 else N acc M1) :
    ∀ {ds acc : List D} {M : Sto}, I ds acc M → aLcGo chk i t e ax env ds acc M Q
  | [], acc, M, h => ⟨hc _ _ _ h, hn acc M h⟩
  | d :: r, acc, M, h => ⟨hc _ _ _ h, turn d r acc M _ h fun acc' M' i => lc_run I hc hn turn i⟩
theorem lc2_run {chk : Sto → Prop} {i j : Nat} {t : ATT} {e : ATE} {ax : AX} {env : AEnv} {Q : List D → Sto → Prop} (I : List D → List D → Sto → Prop) (hc : ∀ ds acc M, I ds acc M → chk M) (hn : ∀ acc M, I [] acc M → Q acc M)
    (turn : ∀ d r acc M (N : List D → Sto → Prop), I (d :: r) acc M → (∀ acc' M', I r acc' M' → N acc' M') → ∃ a b, d = .tup [a, b] ∧ t ax ((env.set i (some a)).set j (some b)) M fun k M1 => if k = true then e ax ((env.set i (some a)).set j (some b)) M1 fun y M2 => N (acc ++ [y]) M2 else N acc M1) :
    ∀ {ds acc : List D} {M : Sto}, I ds acc M → aLc2Go chk i j t e ax env ds acc M Q
  | [], acc, M, h => ⟨hc _ _ _ h, hn acc M h⟩
  | d :: r, acc, M, h => by
    obtain ⟨a, b, rfl, z⟩ := turn d r acc M (fun acc' M' => aLc2Go chk i j t e ax env r acc' M' Q) h fun acc' M' i => lc2_run I hc hn turn i
    exact ⟨hc _ _ _ h, z⟩
theorem fn_none {P : Program} {w : World} {K : PySem.W.Frag} {mg : Str → Option Value} {base : Heap} {k n : Nat} {f : Addr} {fd : FuncData} {ps : List Str} {A : ASp} (h : ∀ ds M Q Xa, ¬ A ds M Q Xa) : FnOk P w K mg base CX0 k f fd ps (conc K n A) := by
  have no : ∀ vs H Q E, ¬ conc K n A vs H Q E := fun vs H Q E z => by
    obtain ⟨ds, M, Qa, Xa, _, _, _, q, _⟩ := z
    exact h _ _ _ _ q
  exact ⟨fun vs H Q E z => absurd z (no vs H Q E), fun A outer s H args us vs Q E _ _ _ _ z => absurd z (no vs H Q E)⟩
theorem valA_pos {k : Key} {v : D} {r : List (Key × D)} : valA ((k, v) :: r) k = some v := by unfold valA; rw [List.find?_cons_of_pos (by simp)]; rfl
theorem valA_neg {k j : Key} {v : D} {r : List (Key × D)} (h : ¬ j = k) : valA ((j, v) :: r) k = valA r k := by unfold valA; rw [List.find?_cons_of_neg (by simpa using h)]
theorem valA_map (k j : Key) (y : D) : ∀ kvs : List (Key × D), valA (kvs.map fun kv => if kv.1 = k then (kv.1, y) else kv) j = (valA kvs j).map fun x => if j = k then y else x
  | [] => rfl
  | (a, x) :: r => by
    have ih := valA_map k j y r
    rw [List.map_cons]
    by_cases h : a = j
    · subst h
      by_cases hk : a = k
      · subst hk
        show valA ((if a = a then (a, y) else (a, x)) :: _) a = _
        rw [if_pos rfl, valA_pos, valA_pos, Option.map_some, if_pos rfl]
      · show valA ((if a = k then (a, y) else (a, x)) :: _) a = _
        rw [if_neg hk, valA_pos, valA_pos, Option.map_some, if_neg hk]
    · have e : valA ((if a = k then (a, y) else (a, x)) :: r.map fun kv => if kv.1 = k then (kv.1, y) else kv) j = valA (r.map fun kv => if kv.1 = k then (kv.1, y) else kv) j := by
        split
        · exact valA_neg h
        · exact valA_neg h
      show valA ((if a = k then (a, y) else (a, x)) :: r.map fun kv => if kv.1 = k then (kv.1, y) else kv) j = _
      rw [e, ih, valA_neg h]
theorem valA_any (k : Key) : ∀ kvs : List (Key × D), (kvs.any fun kv => decide (kv.1 = k)) = (valA kvs k).isSome
  | [] => rfl
  | (a, x) :: r => by
    rw [List.any_cons, valA_any k r]
    by_cases h : a = k
    · subst h
      rw [valA_pos, decide_eq_true rfl]
      rfl
    · rw [valA_neg h, decide_eq_false h, Bool.false_or]
theorem valA_snoc (k j : Key) (y : D) : ∀ kvs : List (Key × D), valA kvs k = none → valA (kvs ++ [(k, y)]) j = if j = k then some y else valA kvs j
  | [], _ => by
    by_cases h : k = j
    · subst h; rw [if_pos rfl]; exact valA_pos
    · rw [if_neg fun e => h e.symm]; exact valA_neg h
  | (a, x) :: r, h0 => by
    have ha : ¬ a = k := fun e => by subst e; rw [valA_pos] at h0; cases h0
    rw [valA_neg ha] at h0
    have ih := valA_snoc k j y r h0
    rw [List.cons_append]
    by_cases h : a = j
    · subst h
      rw [valA_pos, valA_pos, if_neg ha]
    · rw [valA_neg h, valA_neg h, ih]
theorem valA_put (kvs : List (Key × D)) (k j : Key) (y : D) : valA (putA kvs k y) j = if j = k then some y else valA kvs j := by
  unfold putA
  rw [valA_any]
  cases h : valA kvs k with
  | none =>
    rw [if_neg (by simp)]
    exact valA_snoc k j y kvs h
  | some v =>
    rw [if_pos (show (some v).isSome = true from rfl), valA_map]
    by_cases e : j = k
    · subst e
      rw [h, if_pos rfl, Option.map_some, if_pos rfl]
    · rw [if_neg e]
      cases valA kvs j with
      | none => rfl
      | some w => rw [Option.map_some, if_neg e]
section
variable {ax : AX} {De : AEnds} {env : AEnv} {M : Sto} {Q : D → Sto → Prop} {d x y : D}
theorem e_extT {p : Addr} {ds es : List D} : ρExtT p ds [.tup es] M Q = (ds.length + es.length ≤ sizeLine ∧ Q .non (up M p (.lst (ds ++ es)))) := rfl
theorem e_sc2 {w : World} {ι : ATI} {e : ATE} {A : ATT} {i j : Nat} : aSc2 w ι i j A e ax env M Q = ι ax env M fun items chk M1 => i ≠ j ∧ items.length ≤ 4000 ∧ aScGo2 chk i j A e ax env items [] M1 fun acc M2 =>
  ∀ (p : Addr) (n : Nat), n ≤ acc.length → M2 p = none → Q (.obj p) (up M2 p (.raw (SetO w p (fun k => decide (k ∈ acc)) n))) := rfl
theorem e_sortZ {w : World} {p : Addr} : ρSortZ w [.obj p] M Q = ∃ S n, M p = some (.raw (SetO w p S n)) ∧ n < 64 ∧ ∀ ns : List Int, ns.Pairwise (· < ·) → (∀ k : Int, k ∈ ns ↔ S k = true) → New (.lst (ns.map D.int)) M Q := rfl
theorem e_tupVals {α : ATE} : aTupVals α ax env M Q = α ax env M fun x M1 => match x with
  | .obj p => dicAt M1 p fun kvs => Q (.tup (kvs.map (·.2))) M1
  | _ => False := rfl
end
section
variable {ax : AX} {De : AEnds} {env : AEnv} {M : Sto} {Q : D → Sto → Prop} {d x y : D} {α : ATE} {τ : ATA}
theorem e_wget {tab : List (Key × D)} : aWGet tab α ax env M Q = α ax env M fun y M1 => optAt (keyD y) fun k => Q ((valA tab k).getD .non) M1 := rfl
theorem e_wix {tab : List (Key × D)} : aWIx tab α ax env M Q = α ax env M fun y M1 => optAt (keyD y) fun k => optAt (valA tab k) fun d => Q d M1 := rfl
theorem e_listZip : aListZip τ ax env M Q = τ ax env M fun xs M1 => match xs with
  | [.tup ds, .tup es] => ds.length = es.length ∧ ds.length ≤ 1000 ∧ New (.lst (zipD ds es)) M1 Q
  | _ => False := rfl
theorem zipD_nil {es : List D} : zipD [] es = [] := rfl
theorem zipD_cons {d e : D} {ds es : List D} : zipD (d :: ds) (e :: es) = .tup [d, e] :: zipD ds es := rfl
end

section
variable {ax : AX} {De : AEnds} {env : AEnv} {M : Sto} {Q : D → Sto → Prop} {d x y : D} {α : ATE} {τ : ATA}
theorem e_dgetF {p : Addr} : ρDGetF (.obj p) y M Q = (match M p with
  | some (.dif od ws kvs) => optAt (keyD y) fun k => optAt (valA kvs k) fun d => Q d M
  | _ => False) := by
  show (∃ od ws kvs, M p = some (.dif od ws kvs) ∧ optAt (keyD y) fun k => optAt (valA kvs k) fun d => Q d M) = _
  cases h : M p with
  | none => simp
  | some mo =>
    cases mo with
    | dif od ws kvs =>
      refine propext ⟨fun ⟨od', ws', kvs', e, z⟩ => ?_, fun z => ⟨od, ws, kvs, rfl, z⟩⟩
      cases e
      exact z
    | _ => simp
theorem e_idif {R : List D → (Sto → Prop) → Sto → Prop} : aIDif α ax env M R = α ax env M fun x M1 => match x with
  | .obj p => ∃ od ws kvs, M1 p = some (.dif od ws kvs) ∧ R (kvs.map fun kv => keyB kv.1) (fun M => M p = some (.dif od ws kvs)) M1
  | _ => False := rfl
end

section
variable {ax : AX} {De : AEnds} {env : AEnv} {M : Sto} {Q : D → Sto → Prop} {d x y : D} {α : ATE} {τ : ATA}
theorem e_isB {n a b : Bool} : ρIsB n (.bl a) (.bl b) M Q = Q (.bl (if n then !decide (a = b) else decide (a = b))) M := rfl
theorem e_sortI {p : Addr} : ρSortI [.obj p] M Q = lstAt M p fun ds => ∃ ns : List Int, ds = ns.map D.int ∧ ∀ ys : List Int, ys.Perm ns → ys.Pairwise (· ≤ ·) → New (.lst (ys.map D.int)) M Q := rfl
theorem e_sortSetI : aSortSetI α ax env M Q = α ax env M fun x M1 => match x with
  | .obj p => lstAt M1 p fun ds => ∃ ns : List Int, ds = ns.map D.int ∧ ns.length < 64 ∧ ∀ zs : List Int, zs.Pairwise (· < ·) → (∀ k, k ∈ zs ↔ k ∈ ns) → New (.lst (zs.map D.int)) M1 Q
  | _ => False := rfl
end

section
variable {ax : AX} {De : AEnds} {env : AEnv} {M : Sto} {Q : D → Sto → Prop} {d x y : D} {α β : ATE} {τ : ATA}
theorem e_tailR : aTailR α ax env M Q = α ax env M fun x M1 => match x with
  | .tup ds => Q (.tup (ds.drop 1).reverse) M1
  | _ => False := rfl
theorem e_divmod {i j : Int} : ρDivmod [.int i, .int j] M Q = (CDiv i j ∧ Q (.tup [.int (i / j), .int (i % j)]) M) := rfl
theorem e_strI {i : Int} : ρStrI [.int i] M Q = (i.natAbs.log2 < 1920 ∧ Q (.str (toString i)) M) := rfl
theorem e_lenD {p : Addr} : ρLenD [.obj p] M Q = dicAt M p fun kvs => Q (.int kvs.length) M := rfl
theorem e_fmt : aFmt α ax env M Q = α ax env M fun x M1 => match x with
  | .str y => y.length ≤ sizeLine ∧ Q (.str y) M1
  | .int i => i.natAbs.log2 < 1920 ∧ Q (.str (toString i)) M1
  | _ => False := rfl
theorem e_fs2 : aFs2 α β ax env M Q = α ax env M fun x M1 => match x with
  | .str y => y.length ≤ sizeLine ∧ β ax env M1 fun x2 M2 => match x2 with
    | .str z => (y ++ z).length ≤ sizeLine ∧ Q (.str (y ++ z)) M2
    | _ => False
  | _ => False := rfl
end

/- slots of _law_cell: 0 script, 1 k -/
def a__law_cell  : ATS :=
    (aSeq (aIf (aTest (aOp ρLt (aVar 1) (aCB ρLen (aCons (aVar 0) aNil)))) (aRet (aOp ρIx (aVar 0) (aVar 1))) aNext)
    (aRet (aC (.int 0))))
/- slots of _law_digits: 0 script, 1 first, 2 last, 3 digits, 4 k, 5 cell, 6 turn, 7 seed -/
def a__law_digits (A__law_cell : ASp) : ATS :=
    (aSeq (aAsg (aLst aNil) (agName 3))
    (aSeq (aFor (aIRng2 (aCons (aVar 1) (aCons (aVar 2) aNil))) (agName 4) (aSeq (aAsg (aCall 2 A__law_cell (aCons (aVar 0) (aCons (aVar 4) aNil))) (agName 5))
    (aSeq (aIf (aTest (aOp ρLt (aVar 5) (aC (.int 0)))) (aAsg (aOp ρSub (aC (.int 1)) (aOp ρMul (aC (.int 2)) (aVar 5))) (agName 5)) aNext)
    (aIf (aTest (aOp ρGe (aVar 5) (aOp ρPow (aC (.int 10)) (aC (.int 18))))) (aFor (aIRng1 (aCons (aC (.int 60)) aNil)) (agName 6) (aIf (aTest (aOp ρGt (aVar 5) (aC (.int 0)))) (aSeq (aExpr (aLm ρAppend (aVar 3) (aCons (aOp ρMod (aCB ρInt (aCons (aVar 5) aNil)) (aC (.int 1000))) aNil)))
    (aAsg (aOp ρFdiv (aVar 5) (aC (.int 1000))) (agName 5))) aNext)) (aSeq (aAsg (aOp ρMod (aCB ρInt (aCons (aOp ρAdd (aOp ρAdd (aOp ρMul (aVar 5) (aC (.int 48271))) (aOp ρMul (aVar 4) (aC (.int 69621)))) (aC (.int 11))) aNil)) (aC (.int 2147483647))) (agName 7))
    (aFor (aIRng1 (aCons (aC (.int 12)) aNil)) (agName 6) (aSeq (aAsg (aOp ρMod (aCB ρInt (aCons (aOp ρAdd (aOp ρAdd (aOp ρMul (aVar 7) (aC (.int 16807))) (aOp ρMul (aC (.int 7)) (aVar 6))) (aC (.int 1))) aNil)) (aC (.int 2147483647))) (agName 7))
    (aExpr (aLm ρAppend (aVar 3) (aCons (aOp ρMod (aCB ρInt (aCons (aOp ρFdiv (aVar 7) (aC (.int 997))) aNil)) (aC (.int 1000))) aNil))))))))))
    (aRet (aVar 3))))
/- slots of _law_box: 0 script, 1 first, 2 last -/
def a__law_box (A__law_digits : ASp) : ATS :=
    (aRet (aLst (aCons (aCall 3 A__law_digits (aCons (aVar 0) (aCons (aVar 1) (aCons (aVar 2) aNil)))) (aCons (aC (.int 0)) aNil))))
/- slots of _law_draw: 0 box, 1 many, 2 at -/
def a__law_draw  : ATS :=
    (aSeq (aAsg (aOp ρIx (aVar 0) (aC (.int 1))) (agName 2))
    (aSeq (aAsg (aOp ρAdd (aVar 2) (aC (.int 1))) (agSub (aVar 0) (aC (.int 1))))
    (aSeq (aIf (aTest (aOp ρLt (aVar 2) (aCB ρLen (aCons (aOp ρIx (aVar 0) (aC (.int 0))) aNil)))) (aRet (aOp ρMod (aCB ρInt (aCons (aOp ρIx (aOp ρIx (aVar 0) (aC (.int 0))) (aVar 2)) aNil)) (aVar 1))) aNext)
    (aRet (aC (.int 0))))))
/- slots of _law_put: 0 formula, 1 table, 2 part -/
/- slots of _law_any: 0 box, 1 room, 2 many, 3 kind, 4 left, 5 first -/
def a__law_any (A__law_draw : ASp) (A__law_any : ASp) : ATS :=
    (aSeq (aAsg (aCall 2 A__law_draw (aCons (aVar 0) (aCons (aC (.int 8)) aNil))) (agName 3))
    (aSeq (aIf (aOr (aTest (aOp ρLt (aVar 1) (aC (.int 2)))) (aTest (aOp ρLt (aVar 3) (aC (.int 2))))) (aRet (aTup (aCons (aC (.str z_letter)) (aCons (aOp ρIx (aC (.str z_abcdefgh)) (aCall 2 A__law_draw (aCons (aVar 0) (aCons (aVar 2) aNil)))) aNil)))) aNext)
    (aSeq (aIf (aOr (aTest (aOp ρLt (aVar 1) (aC (.int 3)))) (aTest (aOp ρLt (aVar 3) (aC (.int 4))))) (aRet (aTup (aCons (aC (.str z_not)) (aCons (aCall 3 A__law_any (aCons (aVar 0) (aCons (aOp ρSub (aVar 1) (aC (.int 1))) (aCons (aVar 2) aNil)))) aNil)))) aNext)
    (aSeq (aAsg (aOp ρAdd (aC (.int 1)) (aCall 2 A__law_draw (aCons (aVar 0) (aCons (aOp ρSub (aVar 1) (aC (.int 2))) aNil)))) (agName 4))
    (aSeq (aAsg (aCall 3 A__law_any (aCons (aVar 0) (aCons (aVar 4) (aCons (aVar 2) aNil)))) (agName 5))
    (aRet (aTup (aCons (aC (.str z_if)) (aCons (aVar 5) (aCons (aCall 3 A__law_any (aCons (aVar 0) (aCons (aOp ρSub (aOp ρSub (aVar 1) (aC (.int 1))) (aVar 4)) (aCons (aVar 2) aNil)))) aNil))))))))))
/- slots of _law_lettered: 0 box, 1 room, 2 many, 3 names, 4 table, 5 name -/
/- slots of _law_text: 0 formula, 1 first -/
/- slots of _law_same: 0 actual, 1 expected, 2 k -/
def a__law_same (A__law_same : ASp) : ATS :=
    (aSeq (aIf (aTruth (aIsi "tuple" (aVar 1))) (aSeq (aIf (aOr (aNot (aTruth (aIsi "tuple" (aVar 0)))) (aTest (aOp (ρEq true) (aCB ρLen (aCons (aVar 0) aNil)) (aCB ρLen (aCons (aVar 1) aNil))))) (aRet (aC (.bl false))) aNext)
    (aSeq (aFor (aIRng1 (aCons (aCB ρLen (aCons (aVar 1) aNil)) aNil)) (agName 2) (aIf (aNot (aTruth (aCall 2 A__law_same (aCons (aOp ρIx (aVar 0) (aVar 2)) (aCons (aOp ρIx (aVar 1) (aVar 2)) aNil))))) (aRet (aC (.bl false))) aNext))
    (aRet (aC (.bl true))))) aNext)
    (aSeq (aIf (aTest (aOp (ρIsN false) (aVar 1) (aC .non))) (aRet (aOp (ρIsN false) (aVar 0) (aC .non))) aNext)
    (aSeq (aIf (aTruth (aIsi "bool" (aVar 1))) (aRet (aAndV (aIsi "bool" (aVar 0)) (aOp (ρEq false) (aVar 0) (aVar 1)))) aNext)
    (aSeq (aIf (aTruth (aIsi "int" (aVar 1))) (aRet (aAndV (aIsi "int" (aVar 0)) (aAndV (aNotV (aIsi "bool" (aVar 0))) (aOp (ρEq false) (aVar 0) (aVar 1))))) aNext)
    (aRet (aAndV (aIsi "str" (aVar 0)) (aOp (ρEq false) (aVar 0) (aVar 1))))))))

theorem rngD_cons {lo : Int} {n : Nat} {d : D} {r : List D} (h : rngD lo n = d :: r) : ∃ m, n = m + 1 ∧ d = .int lo ∧ r = rngD (lo + 1) m := by
  cases n with
  | zero => cases h
  | succ m =>
    rw [rngD] at h
    injection h with h1 h2
    exact ⟨m, rfl, h1.symm, h2.symm⟩
theorem rngD_nil {lo : Int} {n : Nat} (h : rngD lo n = []) : n = 0 := by
  cases n with
  | zero => rfl
  | succ m => cases h
theorem atI_int {zs : List Int} {i : Int} (h0 : 0 ≤ i) (h : i < (zs.length : Int)) : ∃ z, atI (zs.map D.int) i = some (.int z) := by
  have hk : i.toNat < zs.length := by omega
  have e : i = ((i.toNat : Nat) : Int) := by omega
  rw [e, atIn, List.getElem?_map, List.getElem?_eq_getElem hk]
  exact ⟨_, rfl⟩
theorem ExtB.ext {M M' : Sto} {p : Addr} (h : M p = none) (e : ExtB p M M') : Ext M M' := fun a o m => e a o (fresh_ne h m) m
theorem map_snoc (zs : List Int) (z : Int) : zs.map D.int ++ [.int z] = (zs ++ [z]).map D.int := by rw [List.map_append]; rfl
def BoxAt (M : Sto) (b d : Addr) : Prop := ∃ (zs : List Int) (at_ : Int), M b = some (.lst [.obj d, .int at_]) ∧ M d = some (.lst (zs.map D.int)) ∧ 0 ≤ at_ ∧ d ≠ b
theorem BoxAt.ext {M M' : Sto} {b d : Addr} (h : BoxAt M b d) (e : Ext M M') : BoxAt M' b d := by
  obtain ⟨zs, at_, h1, h2, h3, h4⟩ := h
  exact ⟨zs, at_, e _ _ h1, e _ _ h2, h3, h4⟩
theorem BoxAt.upd {M : Sto} {b d p : Addr} {mo : MO} (h : BoxAt M b d) (h1 : b ≠ p) (h2 : d ≠ p) : BoxAt (up M p mo) b d := by
  obtain ⟨zs, at_, z1, z2, z3, z4⟩ := h
  exact ⟨zs, at_, by rw [up_ne h1]; exact z1, by rw [up_ne h2]; exact z2, z3, z4⟩
theorem BoxAt.fresh {M : Sto} {b d p : Addr} (h : BoxAt M b d) (hp : M p = none) : b ≠ p ∧ d ≠ p := by
  obtain ⟨zs, at_, z1, z2, z3, z4⟩ := h
  exact ⟨fresh_ne hp z1, fresh_ne hp z2⟩
theorem BoxAt.new {M : Sto} {b d p : Addr} {mo : MO} (h : BoxAt M b d) (hp : M p = none) : BoxAt (up M p mo) b d := h.upd (h.fresh hp).1 (h.fresh hp).2
def A_draw : ASp := fun ds M Q _ => ∃ b d n, ds = [.obj b, .int n] ∧ BoxAt M b d ∧ 0 < n ∧ ∀ v M', 0 ≤ v → v < n → BoxAt M' b d → ExtB b M M' → Q (.int v) M'
theorem p__law_draw (ds : List D) (M : Sto) (Q : D → Sto → Prop) (Xa) (hl : ds.length = 2) (h : A_draw ds M Q Xa) : a__law_draw ax0 ⟨fun _ M => Q .non M, Q, fun _ _ => False, fun _ _ => False⟩ (startA ["box", "many", "at"] ds) M := by
  obtain ⟨b, d, n, rfl, ⟨zs, at_, hb, hd, h0, hne⟩, hn, q⟩ := h
  have fin : ∀ v, 0 ≤ v → v < n → Q (.int v) (up M b (.lst [.obj d, .int (at_ + 1)])) := fun v h1 h2 => q v _ h1 h2 ⟨zs, at_ + 1, up_same, by rw [up_ne hne]; exact hd, by omega, hne⟩ ExtB.upd
  unfold a__law_draw
  try (simp only [↓e_seq, ↓e_next, ↓e_break, ↓e_cont, ↓e_expr, ↓e_ret, ↓e_retN, ↓e_if, ↓e_never, ↓e_asg, ↓e_name, ↓e_agtup, ↓e_agcons, ↓e_agnil, ↓e_agsub, ↓e_aug, ↓e_dput, ↓e_var, ↓e_c, ↓e_op, ↓e_some, ↓e_none, ↓e_test, ↓e_and, ↓e_or, ↓e_not, ↓e_yes, ↓e_truth,   ↓e_tru_bl, ↓e_tru_int, ↓e_tru_non, ↓e_tru_str, ↓e_tru_tup, ↓e_tru_obj, ↓e_chain, ↓e_orV, ↓e_andV, ↓e_notV, ↓e_ifE, ↓e_neg, ↓e_nil, ↓e_cons, ↓e_tup, ↓e_lst, ↓e_dnew, ↓e_call, ↓e_cb, ↓e_isi, ↓e_sl, ↓e_onone, ↓e_osome, ↓e_rev, ↓e_lm, ↓e_append, ↓e_extend, ↓e_pop, ↓e_join, ↓e_dget2, ↓e_sortSet, ↓e_sortS, ↓e_setd, strsOf_map, ↓e_maxI, ↓e_disp, ↓e_pairN, ↓e_pairC, intsOf_map, ↓e_for, ↓e_ilist, ↓e_itup, ↓e_rng1, ↓e_rng2, ↓e_lc, ↓e_lc2, e_lc2N, ↓e_ienum, ↓e_izip, ↓e_anyB, ↓e_allB, ↓e_mulS, blsOf_map, ↓e_set0, ↓e_sadd, ↓e_sortTx, ↓e_sortD, ↓e_repr, ↓e_extT, ↓e_sc2, ↓e_sortZ, ↓e_tupVals, ↓e_wget, ↓e_wix, ↓e_listZip, zipD_nil, zipD_cons, ↓e_dgetF, ↓e_idif,   ↓e_add_int, ↓e_add_str, ↓e_add_tup, ↓e_add_obj, ↓e_iadd_int, ↓e_iadd_str, ↓e_iadd_obj, ↓e_I, ↓e_I0, ↓e_IS_int, ↓e_IS_str, ↓e_eq_str, ↓e_ne_str, ↓e_eq_int, ↓e_ne_int, ↓e_eq_bl, ↓e_ne_bl, ↓e_isN, ↓e_notN, ↓e_ix_tup, ↓e_ix_fl, ↓e_ix_str, ↓e_ix_obj, ↓e_in_tup, ↓e_nin_tup, ↓e_len_tup, ↓e_len_fl, ↓e_len_str, ↓e_len_obj, ↓e_int_int, ↓e_tuple_tup, ↓e_tuple_obj, ↓e_list_tup, ↓e_list_obj, ↓e_dget, ↓e_din, ↓e_dnin, ↓e_lstAt, ↓e_dicAt,   e_key_int, e_key_str, e_up, e_ty_str, e_ty_tup, e_ty_int, e_ty_bl, e_ty_non, atI0, atI1, atI2, atI3, atIL, ixN0, ixN1, cut_from1, e_ite_or, e_ite_and, zln, znl, zli, zil, zni, zin, sizeLine_eq, CMul, CDiv, cpow1018, true_or, or_true, kb_strstr, kb_tupstr, kb_tuptup, kb_strtup, kb_inttup, kb_bltup, kb_nontup, kb_strbl, kb_strint, kb_intbl, kb_intint, kb_blbl, kb_blint, kb_nonbl, kb_nonint, kb_nonstr, kb_intstr, kb_blstr, kb_tupbl, kb_tupint,   List.set_cons_zero, List.set_cons_succ, List.set_nil, List.getElem?_cons_zero, List.getElem?_cons_succ, List.getElem?_nil, List.length_cons, List.length_nil, List.length_map, List.length_append, e_lcN, e_lcC, e_forN, e_forC, List.getLast?_concat, List.dropLast_concat, List.nil_append, List.cons_append, List.append_nil, List.append_assoc, List.reverse_cons, List.reverse_nil, List.isEmpty_nil, List.isEmpty_cons, isEmpty_snoc, List.any_cons, List.any_nil, List.all_cons, List.all_nil, flatD, eqF, in_non, in_tup, in_str, in_int, in_bl, in_obj, in_fl, startA, List.map_cons, List.map_nil, List.replicate_succ, List.replicate_zero,   Nat.reduceAdd, Nat.reduceSub, Nat.reduceLeDiff, Nat.zero_add, Int.reduceLE, Int.reduceLT, Int.reduceToNat, Int.reducePow, Int.reduceNeg, Int.reduceAdd, Int.reduceSub,   Option.isSome_some, Option.isSome_none, Bool.not_true, Bool.not_false, Bool.not_eq_true', Bool.not_eq_eq_eq_not, Bool.not_eq_true, Bool.false_eq_true, Bool.true_eq_false, Bool.and_true, Bool.true_and, Bool.or_false, Bool.false_or, Bool.or_true, Bool.true_or, Bool.and_false, Bool.false_and, if_true, if_false, ite_true, ite_false, reduceIte, reduceCtorEq, decide_true, decide_false, decide_eq_true_eq, decide_eq_false_iff_not, true_and, and_true, eq_self, ne_eq, not_false_eq_true, not_true_eq_false, and_self, *])
  split
  · rename_i hlt
    obtain ⟨z, hz⟩ := atI_int h0 hlt
    try (simp only [↓e_seq, ↓e_next, ↓e_break, ↓e_cont, ↓e_expr, ↓e_ret, ↓e_retN, ↓e_if, ↓e_never, ↓e_asg, ↓e_name, ↓e_agtup, ↓e_agcons, ↓e_agnil, ↓e_agsub, ↓e_aug, ↓e_dput, ↓e_var, ↓e_c, ↓e_op, ↓e_some, ↓e_none, ↓e_test, ↓e_and, ↓e_or, ↓e_not, ↓e_yes, ↓e_truth,   ↓e_tru_bl, ↓e_tru_int, ↓e_tru_non, ↓e_tru_str, ↓e_tru_tup, ↓e_tru_obj, ↓e_chain, ↓e_orV, ↓e_andV, ↓e_notV, ↓e_ifE, ↓e_neg, ↓e_nil, ↓e_cons, ↓e_tup, ↓e_lst, ↓e_dnew, ↓e_call, ↓e_cb, ↓e_isi, ↓e_sl, ↓e_onone, ↓e_osome, ↓e_rev, ↓e_lm, ↓e_append, ↓e_extend, ↓e_pop, ↓e_join, ↓e_dget2, ↓e_sortSet, ↓e_sortS, ↓e_setd, strsOf_map, ↓e_maxI, ↓e_disp, ↓e_pairN, ↓e_pairC, intsOf_map, ↓e_for, ↓e_ilist, ↓e_itup, ↓e_rng1, ↓e_rng2, ↓e_lc, ↓e_lc2, e_lc2N, ↓e_ienum, ↓e_izip, ↓e_anyB, ↓e_allB, ↓e_mulS, blsOf_map, ↓e_set0, ↓e_sadd, ↓e_sortTx, ↓e_sortD, ↓e_repr, ↓e_extT, ↓e_sc2, ↓e_sortZ, ↓e_tupVals, ↓e_wget, ↓e_wix, ↓e_listZip, zipD_nil, zipD_cons, ↓e_dgetF, ↓e_idif,   ↓e_add_int, ↓e_add_str, ↓e_add_tup, ↓e_add_obj, ↓e_iadd_int, ↓e_iadd_str, ↓e_iadd_obj, ↓e_I, ↓e_I0, ↓e_IS_int, ↓e_IS_str, ↓e_eq_str, ↓e_ne_str, ↓e_eq_int, ↓e_ne_int, ↓e_eq_bl, ↓e_ne_bl, ↓e_isN, ↓e_notN, ↓e_ix_tup, ↓e_ix_fl, ↓e_ix_str, ↓e_ix_obj, ↓e_in_tup, ↓e_nin_tup, ↓e_len_tup, ↓e_len_fl, ↓e_len_str, ↓e_len_obj, ↓e_int_int, ↓e_tuple_tup, ↓e_tuple_obj, ↓e_list_tup, ↓e_list_obj, ↓e_dget, ↓e_din, ↓e_dnin, ↓e_lstAt, ↓e_dicAt,   e_key_int, e_key_str, e_up, e_ty_str, e_ty_tup, e_ty_int, e_ty_bl, e_ty_non, atI0, atI1, atI2, atI3, atIL, ixN0, ixN1, cut_from1, e_ite_or, e_ite_and, zln, znl, zli, zil, zni, zin, sizeLine_eq, CMul, CDiv, cpow1018, true_or, or_true, kb_strstr, kb_tupstr, kb_tuptup, kb_strtup, kb_inttup, kb_bltup, kb_nontup, kb_strbl, kb_strint, kb_intbl, kb_intint, kb_blbl, kb_blint, kb_nonbl, kb_nonint, kb_nonstr, kb_intstr, kb_blstr, kb_tupbl, kb_tupint,   List.set_cons_zero, List.set_cons_succ, List.set_nil, List.getElem?_cons_zero, List.getElem?_cons_succ, List.getElem?_nil, List.length_cons, List.length_nil, List.length_map, List.length_append, e_lcN, e_lcC, e_forN, e_forC, List.getLast?_concat, List.dropLast_concat, List.nil_append, List.cons_append, List.append_nil, List.append_assoc, List.reverse_cons, List.reverse_nil, List.isEmpty_nil, List.isEmpty_cons, isEmpty_snoc, List.any_cons, List.any_nil, List.all_cons, List.all_nil, flatD, eqF, in_non, in_tup, in_str, in_int, in_bl, in_obj, in_fl, startA, List.map_cons, List.map_nil, List.replicate_succ, List.replicate_zero,   Nat.reduceAdd, Nat.reduceSub, Nat.reduceLeDiff, Nat.zero_add, Int.reduceLE, Int.reduceLT, Int.reduceToNat, Int.reducePow, Int.reduceNeg, Int.reduceAdd, Int.reduceSub,   Option.isSome_some, Option.isSome_none, Bool.not_true, Bool.not_false, Bool.not_eq_true', Bool.not_eq_eq_eq_not, Bool.not_eq_true, Bool.false_eq_true, Bool.true_eq_false, Bool.and_true, Bool.true_and, Bool.or_false, Bool.false_or, Bool.or_true, Bool.true_or, Bool.and_false, Bool.false_and, if_true, if_false, ite_true, ite_false, reduceIte, reduceCtorEq, decide_true, decide_false, decide_eq_true_eq, decide_eq_false_iff_not, true_and, and_true, eq_self, ne_eq, not_false_eq_true, not_true_eq_false, and_self, *])
    exact fin _ (Int.emod_nonneg _ (by omega)) (Int.emod_lt_of_pos _ hn)
  · trivial
def A_cell : ASp := fun ds M Q _ => ∃ (ns : List Int) (k : Int), ds = [.fl (ns.map D.int), .int k] ∧ 0 ≤ k ∧ ∀ v, Q (.int v) M
theorem p__law_cell (ds : List D) (M : Sto) (Q : D → Sto → Prop) (Xa) (hl : ds.length = 2) (h : A_cell ds M Q Xa) : a__law_cell ax0 ⟨fun _ M => Q .non M, Q, fun _ _ => False, fun _ _ => False⟩ (startA ["script", "k"] ds) M := by
  obtain ⟨ns, k, rfl, h0, q⟩ := h
  unfold a__law_cell
  try (simp only [↓e_seq, ↓e_next, ↓e_break, ↓e_cont, ↓e_expr, ↓e_ret, ↓e_retN, ↓e_if, ↓e_never, ↓e_asg, ↓e_name, ↓e_agtup, ↓e_agcons, ↓e_agnil, ↓e_agsub, ↓e_aug, ↓e_dput, ↓e_var, ↓e_c, ↓e_op, ↓e_some, ↓e_none, ↓e_test, ↓e_and, ↓e_or, ↓e_not, ↓e_yes, ↓e_truth,   ↓e_tru_bl, ↓e_tru_int, ↓e_tru_non, ↓e_tru_str, ↓e_tru_tup, ↓e_tru_obj, ↓e_chain, ↓e_orV, ↓e_andV, ↓e_notV, ↓e_ifE, ↓e_neg, ↓e_nil, ↓e_cons, ↓e_tup, ↓e_lst, ↓e_dnew, ↓e_call, ↓e_cb, ↓e_isi, ↓e_sl, ↓e_onone, ↓e_osome, ↓e_rev, ↓e_lm, ↓e_append, ↓e_extend, ↓e_pop, ↓e_join, ↓e_dget2, ↓e_sortSet, ↓e_sortS, ↓e_setd, strsOf_map, ↓e_maxI, ↓e_disp, ↓e_pairN, ↓e_pairC, intsOf_map, ↓e_for, ↓e_ilist, ↓e_itup, ↓e_rng1, ↓e_rng2, ↓e_lc, ↓e_lc2, e_lc2N, ↓e_ienum, ↓e_izip, ↓e_anyB, ↓e_allB, ↓e_mulS, blsOf_map, ↓e_set0, ↓e_sadd, ↓e_sortTx, ↓e_sortD, ↓e_repr, ↓e_extT, ↓e_sc2, ↓e_sortZ, ↓e_tupVals, ↓e_wget, ↓e_wix, ↓e_listZip, zipD_nil, zipD_cons, ↓e_dgetF, ↓e_idif,   ↓e_add_int, ↓e_add_str, ↓e_add_tup, ↓e_add_obj, ↓e_iadd_int, ↓e_iadd_str, ↓e_iadd_obj, ↓e_I, ↓e_I0, ↓e_IS_int, ↓e_IS_str, ↓e_eq_str, ↓e_ne_str, ↓e_eq_int, ↓e_ne_int, ↓e_eq_bl, ↓e_ne_bl, ↓e_isN, ↓e_notN, ↓e_ix_tup, ↓e_ix_fl, ↓e_ix_str, ↓e_ix_obj, ↓e_in_tup, ↓e_nin_tup, ↓e_len_tup, ↓e_len_fl, ↓e_len_str, ↓e_len_obj, ↓e_int_int, ↓e_tuple_tup, ↓e_tuple_obj, ↓e_list_tup, ↓e_list_obj, ↓e_dget, ↓e_din, ↓e_dnin, ↓e_lstAt, ↓e_dicAt,   e_key_int, e_key_str, e_up, e_ty_str, e_ty_tup, e_ty_int, e_ty_bl, e_ty_non, atI0, atI1, atI2, atI3, atIL, ixN0, ixN1, cut_from1, e_ite_or, e_ite_and, zln, znl, zli, zil, zni, zin, sizeLine_eq, CMul, CDiv, cpow1018, true_or, or_true, kb_strstr, kb_tupstr, kb_tuptup, kb_strtup, kb_inttup, kb_bltup, kb_nontup, kb_strbl, kb_strint, kb_intbl, kb_intint, kb_blbl, kb_blint, kb_nonbl, kb_nonint, kb_nonstr, kb_intstr, kb_blstr, kb_tupbl, kb_tupint,   List.set_cons_zero, List.set_cons_succ, List.set_nil, List.getElem?_cons_zero, List.getElem?_cons_succ, List.getElem?_nil, List.length_cons, List.length_nil, List.length_map, List.length_append, e_lcN, e_lcC, e_forN, e_forC, List.getLast?_concat, List.dropLast_concat, List.nil_append, List.cons_append, List.append_nil, List.append_assoc, List.reverse_cons, List.reverse_nil, List.isEmpty_nil, List.isEmpty_cons, isEmpty_snoc, List.any_cons, List.any_nil, List.all_cons, List.all_nil, flatD, eqF, in_non, in_tup, in_str, in_int, in_bl, in_obj, in_fl, startA, List.map_cons, List.map_nil, List.replicate_succ, List.replicate_zero,   Nat.reduceAdd, Nat.reduceSub, Nat.reduceLeDiff, Nat.zero_add, Int.reduceLE, Int.reduceLT, Int.reduceToNat, Int.reducePow, Int.reduceNeg, Int.reduceAdd, Int.reduceSub,   Option.isSome_some, Option.isSome_none, Bool.not_true, Bool.not_false, Bool.not_eq_true', Bool.not_eq_eq_eq_not, Bool.not_eq_true, Bool.false_eq_true, Bool.true_eq_false, Bool.and_true, Bool.true_and, Bool.or_false, Bool.false_or, Bool.or_true, Bool.true_or, Bool.and_false, Bool.false_and, if_true, if_false, ite_true, ite_false, reduceIte, reduceCtorEq, decide_true, decide_false, decide_eq_true_eq, decide_eq_false_iff_not, true_and, and_true, eq_self, ne_eq, not_false_eq_true, not_true_eq_false, and_self, *])
  split
  · rename_i hlt
    obtain ⟨z, hz⟩ := atI_int h0 hlt
    try (simp only [↓e_seq, ↓e_next, ↓e_break, ↓e_cont, ↓e_expr, ↓e_ret, ↓e_retN, ↓e_if, ↓e_never, ↓e_asg, ↓e_name, ↓e_agtup, ↓e_agcons, ↓e_agnil, ↓e_agsub, ↓e_aug, ↓e_dput, ↓e_var, ↓e_c, ↓e_op, ↓e_some, ↓e_none, ↓e_test, ↓e_and, ↓e_or, ↓e_not, ↓e_yes, ↓e_truth,   ↓e_tru_bl, ↓e_tru_int, ↓e_tru_non, ↓e_tru_str, ↓e_tru_tup, ↓e_tru_obj, ↓e_chain, ↓e_orV, ↓e_andV, ↓e_notV, ↓e_ifE, ↓e_neg, ↓e_nil, ↓e_cons, ↓e_tup, ↓e_lst, ↓e_dnew, ↓e_call, ↓e_cb, ↓e_isi, ↓e_sl, ↓e_onone, ↓e_osome, ↓e_rev, ↓e_lm, ↓e_append, ↓e_extend, ↓e_pop, ↓e_join, ↓e_dget2, ↓e_sortSet, ↓e_sortS, ↓e_setd, strsOf_map, ↓e_maxI, ↓e_disp, ↓e_pairN, ↓e_pairC, intsOf_map, ↓e_for, ↓e_ilist, ↓e_itup, ↓e_rng1, ↓e_rng2, ↓e_lc, ↓e_lc2, e_lc2N, ↓e_ienum, ↓e_izip, ↓e_anyB, ↓e_allB, ↓e_mulS, blsOf_map, ↓e_set0, ↓e_sadd, ↓e_sortTx, ↓e_sortD, ↓e_repr, ↓e_extT, ↓e_sc2, ↓e_sortZ, ↓e_tupVals, ↓e_wget, ↓e_wix, ↓e_listZip, zipD_nil, zipD_cons, ↓e_dgetF, ↓e_idif,   ↓e_add_int, ↓e_add_str, ↓e_add_tup, ↓e_add_obj, ↓e_iadd_int, ↓e_iadd_str, ↓e_iadd_obj, ↓e_I, ↓e_I0, ↓e_IS_int, ↓e_IS_str, ↓e_eq_str, ↓e_ne_str, ↓e_eq_int, ↓e_ne_int, ↓e_eq_bl, ↓e_ne_bl, ↓e_isN, ↓e_notN, ↓e_ix_tup, ↓e_ix_fl, ↓e_ix_str, ↓e_ix_obj, ↓e_in_tup, ↓e_nin_tup, ↓e_len_tup, ↓e_len_fl, ↓e_len_str, ↓e_len_obj, ↓e_int_int, ↓e_tuple_tup, ↓e_tuple_obj, ↓e_list_tup, ↓e_list_obj, ↓e_dget, ↓e_din, ↓e_dnin, ↓e_lstAt, ↓e_dicAt,   e_key_int, e_key_str, e_up, e_ty_str, e_ty_tup, e_ty_int, e_ty_bl, e_ty_non, atI0, atI1, atI2, atI3, atIL, ixN0, ixN1, cut_from1, e_ite_or, e_ite_and, zln, znl, zli, zil, zni, zin, sizeLine_eq, CMul, CDiv, cpow1018, true_or, or_true, kb_strstr, kb_tupstr, kb_tuptup, kb_strtup, kb_inttup, kb_bltup, kb_nontup, kb_strbl, kb_strint, kb_intbl, kb_intint, kb_blbl, kb_blint, kb_nonbl, kb_nonint, kb_nonstr, kb_intstr, kb_blstr, kb_tupbl, kb_tupint,   List.set_cons_zero, List.set_cons_succ, List.set_nil, List.getElem?_cons_zero, List.getElem?_cons_succ, List.getElem?_nil, List.length_cons, List.length_nil, List.length_map, List.length_append, e_lcN, e_lcC, e_forN, e_forC, List.getLast?_concat, List.dropLast_concat, List.nil_append, List.cons_append, List.append_nil, List.append_assoc, List.reverse_cons, List.reverse_nil, List.isEmpty_nil, List.isEmpty_cons, isEmpty_snoc, List.any_cons, List.any_nil, List.all_cons, List.all_nil, flatD, eqF, in_non, in_tup, in_str, in_int, in_bl, in_obj, in_fl, startA, List.map_cons, List.map_nil, List.replicate_succ, List.replicate_zero,   Nat.reduceAdd, Nat.reduceSub, Nat.reduceLeDiff, Nat.zero_add, Int.reduceLE, Int.reduceLT, Int.reduceToNat, Int.reducePow, Int.reduceNeg, Int.reduceAdd, Int.reduceSub,   Option.isSome_some, Option.isSome_none, Bool.not_true, Bool.not_false, Bool.not_eq_true', Bool.not_eq_eq_eq_not, Bool.not_eq_true, Bool.false_eq_true, Bool.true_eq_false, Bool.and_true, Bool.true_and, Bool.or_false, Bool.false_or, Bool.or_true, Bool.true_or, Bool.and_false, Bool.false_and, if_true, if_false, ite_true, ite_false, reduceIte, reduceCtorEq, decide_true, decide_false, decide_eq_true_eq, decide_eq_false_iff_not, true_and, and_true, eq_self, ne_eq, not_false_eq_true, not_true_eq_false, and_self, *])
  · trivial
def A_digits : ASp := fun ds M Q _ => ∃ (ns : List Int) (n : Int), ds = [.fl (ns.map D.int), .int 0, .int n] ∧ 0 ≤ n ∧ n ≤ 63 ∧ ∀ p (zs : List Int) M', M p = none → Ext M M' → M' p = some (.lst (zs.map D.int)) → Q (.obj p) M'
theorem p__law_digits (ds : List D) (M : Sto) (Q : D → Sto → Prop) (Xa) (hl : ds.length = 3) (h : A_digits ds M Q Xa) : a__law_digits A_cell ax0 ⟨fun _ M => Q .non M, Q, fun _ _ => False, fun _ _ => False⟩ (startA ["script", "first", "last", "digits", "k", "cell", "turn", "seed"] ds) M := by
  obtain ⟨ns, n, rfl, h0, h1, q⟩ := h
  unfold a__law_digits
  try (simp only [↓e_seq, ↓e_next, ↓e_break, ↓e_cont, ↓e_expr, ↓e_ret, ↓e_retN, ↓e_if, ↓e_never, ↓e_asg, ↓e_name, ↓e_agtup, ↓e_agcons, ↓e_agnil, ↓e_agsub, ↓e_aug, ↓e_dput, ↓e_var, ↓e_c, ↓e_op, ↓e_some, ↓e_none, ↓e_test, ↓e_and, ↓e_or, ↓e_not, ↓e_yes, ↓e_truth,   ↓e_tru_bl, ↓e_tru_int, ↓e_tru_non, ↓e_tru_str, ↓e_tru_tup, ↓e_tru_obj, ↓e_chain, ↓e_orV, ↓e_andV, ↓e_notV, ↓e_ifE, ↓e_neg, ↓e_nil, ↓e_cons, ↓e_tup, ↓e_lst, ↓e_dnew, ↓e_call, ↓e_cb, ↓e_isi, ↓e_sl, ↓e_onone, ↓e_osome, ↓e_rev, ↓e_lm, ↓e_append, ↓e_extend, ↓e_pop, ↓e_join, ↓e_dget2, ↓e_sortSet, ↓e_sortS, ↓e_setd, strsOf_map, ↓e_maxI, ↓e_disp, ↓e_pairN, ↓e_pairC, intsOf_map, ↓e_for, ↓e_ilist, ↓e_itup, ↓e_rng1, ↓e_rng2, ↓e_lc, ↓e_lc2, e_lc2N, ↓e_ienum, ↓e_izip, ↓e_anyB, ↓e_allB, ↓e_mulS, blsOf_map, ↓e_set0, ↓e_sadd, ↓e_sortTx, ↓e_sortD, ↓e_repr, ↓e_extT, ↓e_sc2, ↓e_sortZ, ↓e_tupVals, ↓e_wget, ↓e_wix, ↓e_listZip, zipD_nil, zipD_cons, ↓e_dgetF, ↓e_idif,   ↓e_add_int, ↓e_add_str, ↓e_add_tup, ↓e_add_obj, ↓e_iadd_int, ↓e_iadd_str, ↓e_iadd_obj, ↓e_I, ↓e_I0, ↓e_IS_int, ↓e_IS_str, ↓e_eq_str, ↓e_ne_str, ↓e_eq_int, ↓e_ne_int, ↓e_eq_bl, ↓e_ne_bl, ↓e_isN, ↓e_notN, ↓e_ix_tup, ↓e_ix_fl, ↓e_ix_str, ↓e_ix_obj, ↓e_in_tup, ↓e_nin_tup, ↓e_len_tup, ↓e_len_fl, ↓e_len_str, ↓e_len_obj, ↓e_int_int, ↓e_tuple_tup, ↓e_tuple_obj, ↓e_list_tup, ↓e_list_obj, ↓e_dget, ↓e_din, ↓e_dnin, ↓e_lstAt, ↓e_dicAt,   e_key_int, e_key_str, e_up, e_ty_str, e_ty_tup, e_ty_int, e_ty_bl, e_ty_non, atI0, atI1, atI2, atI3, atIL, ixN0, ixN1, cut_from1, e_ite_or, e_ite_and, zln, znl, zli, zil, zni, zin, sizeLine_eq, CMul, CDiv, cpow1018, true_or, or_true, kb_strstr, kb_tupstr, kb_tuptup, kb_strtup, kb_inttup, kb_bltup, kb_nontup, kb_strbl, kb_strint, kb_intbl, kb_intint, kb_blbl, kb_blint, kb_nonbl, kb_nonint, kb_nonstr, kb_intstr, kb_blstr, kb_tupbl, kb_tupint,   List.set_cons_zero, List.set_cons_succ, List.set_nil, List.getElem?_cons_zero, List.getElem?_cons_succ, List.getElem?_nil, List.length_cons, List.length_nil, List.length_map, List.length_append, e_lcN, e_lcC, e_forN, e_forC, List.getLast?_concat, List.dropLast_concat, List.nil_append, List.cons_append, List.append_nil, List.append_assoc, List.reverse_cons, List.reverse_nil, List.isEmpty_nil, List.isEmpty_cons, isEmpty_snoc, List.any_cons, List.any_nil, List.all_cons, List.all_nil, flatD, eqF, in_non, in_tup, in_str, in_int, in_bl, in_obj, in_fl, startA, List.map_cons, List.map_nil, List.replicate_succ, List.replicate_zero,   Nat.reduceAdd, Nat.reduceSub, Nat.reduceLeDiff, Nat.zero_add, Int.reduceLE, Int.reduceLT, Int.reduceToNat, Int.reducePow, Int.reduceNeg, Int.reduceAdd, Int.reduceSub,   Option.isSome_some, Option.isSome_none, Bool.not_true, Bool.not_false, Bool.not_eq_true', Bool.not_eq_eq_eq_not, Bool.not_eq_true, Bool.false_eq_true, Bool.true_eq_false, Bool.and_true, Bool.true_and, Bool.or_false, Bool.false_or, Bool.or_true, Bool.true_or, Bool.and_false, Bool.false_and, if_true, if_false, ite_true, ite_false, reduceIte, reduceCtorEq, decide_true, decide_false, decide_eq_true_eq, decide_eq_false_iff_not, true_and, and_true, eq_self, ne_eq, not_false_eq_true, not_true_eq_false, and_self, *])
  intro p hp
  try (simp only [↓e_seq, ↓e_next, ↓e_break, ↓e_cont, ↓e_expr, ↓e_ret, ↓e_retN, ↓e_if, ↓e_never, ↓e_asg, ↓e_name, ↓e_agtup, ↓e_agcons, ↓e_agnil, ↓e_agsub, ↓e_aug, ↓e_dput, ↓e_var, ↓e_c, ↓e_op, ↓e_some, ↓e_none, ↓e_test, ↓e_and, ↓e_or, ↓e_not, ↓e_yes, ↓e_truth,   ↓e_tru_bl, ↓e_tru_int, ↓e_tru_non, ↓e_tru_str, ↓e_tru_tup, ↓e_tru_obj, ↓e_chain, ↓e_orV, ↓e_andV, ↓e_notV, ↓e_ifE, ↓e_neg, ↓e_nil, ↓e_cons, ↓e_tup, ↓e_lst, ↓e_dnew, ↓e_call, ↓e_cb, ↓e_isi, ↓e_sl, ↓e_onone, ↓e_osome, ↓e_rev, ↓e_lm, ↓e_append, ↓e_extend, ↓e_pop, ↓e_join, ↓e_dget2, ↓e_sortSet, ↓e_sortS, ↓e_setd, strsOf_map, ↓e_maxI, ↓e_disp, ↓e_pairN, ↓e_pairC, intsOf_map, ↓e_for, ↓e_ilist, ↓e_itup, ↓e_rng1, ↓e_rng2, ↓e_lc, ↓e_lc2, e_lc2N, ↓e_ienum, ↓e_izip, ↓e_anyB, ↓e_allB, ↓e_mulS, blsOf_map, ↓e_set0, ↓e_sadd, ↓e_sortTx, ↓e_sortD, ↓e_repr, ↓e_extT, ↓e_sc2, ↓e_sortZ, ↓e_tupVals, ↓e_wget, ↓e_wix, ↓e_listZip, zipD_nil, zipD_cons, ↓e_dgetF, ↓e_idif,   ↓e_add_int, ↓e_add_str, ↓e_add_tup, ↓e_add_obj, ↓e_iadd_int, ↓e_iadd_str, ↓e_iadd_obj, ↓e_I, ↓e_I0, ↓e_IS_int, ↓e_IS_str, ↓e_eq_str, ↓e_ne_str, ↓e_eq_int, ↓e_ne_int, ↓e_eq_bl, ↓e_ne_bl, ↓e_isN, ↓e_notN, ↓e_ix_tup, ↓e_ix_fl, ↓e_ix_str, ↓e_ix_obj, ↓e_in_tup, ↓e_nin_tup, ↓e_len_tup, ↓e_len_fl, ↓e_len_str, ↓e_len_obj, ↓e_int_int, ↓e_tuple_tup, ↓e_tuple_obj, ↓e_list_tup, ↓e_list_obj, ↓e_dget, ↓e_din, ↓e_dnin, ↓e_lstAt, ↓e_dicAt,   e_key_int, e_key_str, e_up, e_ty_str, e_ty_tup, e_ty_int, e_ty_bl, e_ty_non, atI0, atI1, atI2, atI3, atIL, ixN0, ixN1, cut_from1, e_ite_or, e_ite_and, zln, znl, zli, zil, zni, zin, sizeLine_eq, CMul, CDiv, cpow1018, true_or, or_true, kb_strstr, kb_tupstr, kb_tuptup, kb_strtup, kb_inttup, kb_bltup, kb_nontup, kb_strbl, kb_strint, kb_intbl, kb_intint, kb_blbl, kb_blint, kb_nonbl, kb_nonint, kb_nonstr, kb_intstr, kb_blstr, kb_tupbl, kb_tupint,   List.set_cons_zero, List.set_cons_succ, List.set_nil, List.getElem?_cons_zero, List.getElem?_cons_succ, List.getElem?_nil, List.length_cons, List.length_nil, List.length_map, List.length_append, e_lcN, e_lcC, e_forN, e_forC, List.getLast?_concat, List.dropLast_concat, List.nil_append, List.cons_append, List.append_nil, List.append_assoc, List.reverse_cons, List.reverse_nil, List.isEmpty_nil, List.isEmpty_cons, isEmpty_snoc, List.any_cons, List.any_nil, List.all_cons, List.all_nil, flatD, eqF, in_non, in_tup, in_str, in_int, in_bl, in_obj, in_fl, startA, List.map_cons, List.map_nil, List.replicate_succ, List.replicate_zero,   Nat.reduceAdd, Nat.reduceSub, Nat.reduceLeDiff, Nat.zero_add, Int.reduceLE, Int.reduceLT, Int.reduceToNat, Int.reducePow, Int.reduceNeg, Int.reduceAdd, Int.reduceSub,   Option.isSome_some, Option.isSome_none, Bool.not_true, Bool.not_false, Bool.not_eq_true', Bool.not_eq_eq_eq_not, Bool.not_eq_true, Bool.false_eq_true, Bool.true_eq_false, Bool.and_true, Bool.true_and, Bool.or_false, Bool.false_or, Bool.or_true, Bool.true_or, Bool.and_false, Bool.false_and, if_true, if_false, ite_true, ite_false, reduceIte, reduceCtorEq, decide_true, decide_false, decide_eq_true_eq, decide_eq_false_iff_not, true_and, and_true, eq_self, ne_eq, not_false_eq_true, not_true_eq_false, and_self, *])
  refine ⟨⟨by omega, by omega⟩, ?_⟩
  refine for_run (fun ds env M' => ∃ lo m x4 x5 x6 x7 zs, ds = rngD lo m ∧ 0 ≤ lo ∧ lo ≤ 100 ∧ lo + m ≤ 100 ∧ env = [some (.fl (ns.map D.int)), some (.int 0), some (.int n), some (.obj p), x4, x5, x6, x7] ∧ M' p = some (.lst (zs.map D.int)) ∧ ExtB p M M' ∧ zs.length + 60 * m ≤ 10000) (fun _ _ _ _ => trivial) ?_ ?_ ⟨0, _, none, none, none, none, [], rfl, by omega, by omega, by omega, rfl, up_same, ExtB.upd, by simp; omega⟩
  · rintro env M' ⟨lo, m, x4, x5, x6, x7, zs, _, _, _, _, rfl, hp', he, _⟩
    try (simp only [↓e_seq, ↓e_next, ↓e_break, ↓e_cont, ↓e_expr, ↓e_ret, ↓e_retN, ↓e_if, ↓e_never, ↓e_asg, ↓e_name, ↓e_agtup, ↓e_agcons, ↓e_agnil, ↓e_agsub, ↓e_aug, ↓e_dput, ↓e_var, ↓e_c, ↓e_op, ↓e_some, ↓e_none, ↓e_test, ↓e_and, ↓e_or, ↓e_not, ↓e_yes, ↓e_truth,   ↓e_tru_bl, ↓e_tru_int, ↓e_tru_non, ↓e_tru_str, ↓e_tru_tup, ↓e_tru_obj, ↓e_chain, ↓e_orV, ↓e_andV, ↓e_notV, ↓e_ifE, ↓e_neg, ↓e_nil, ↓e_cons, ↓e_tup, ↓e_lst, ↓e_dnew, ↓e_call, ↓e_cb, ↓e_isi, ↓e_sl, ↓e_onone, ↓e_osome, ↓e_rev, ↓e_lm, ↓e_append, ↓e_extend, ↓e_pop, ↓e_join, ↓e_dget2, ↓e_sortSet, ↓e_sortS, ↓e_setd, strsOf_map, ↓e_maxI, ↓e_disp, ↓e_pairN, ↓e_pairC, intsOf_map, ↓e_for, ↓e_ilist, ↓e_itup, ↓e_rng1, ↓e_rng2, ↓e_lc, ↓e_lc2, e_lc2N, ↓e_ienum, ↓e_izip, ↓e_anyB, ↓e_allB, ↓e_mulS, blsOf_map, ↓e_set0, ↓e_sadd, ↓e_sortTx, ↓e_sortD, ↓e_repr, ↓e_extT, ↓e_sc2, ↓e_sortZ, ↓e_tupVals, ↓e_wget, ↓e_wix, ↓e_listZip, zipD_nil, zipD_cons, ↓e_dgetF, ↓e_idif,   ↓e_add_int, ↓e_add_str, ↓e_add_tup, ↓e_add_obj, ↓e_iadd_int, ↓e_iadd_str, ↓e_iadd_obj, ↓e_I, ↓e_I0, ↓e_IS_int, ↓e_IS_str, ↓e_eq_str, ↓e_ne_str, ↓e_eq_int, ↓e_ne_int, ↓e_eq_bl, ↓e_ne_bl, ↓e_isN, ↓e_notN, ↓e_ix_tup, ↓e_ix_fl, ↓e_ix_str, ↓e_ix_obj, ↓e_in_tup, ↓e_nin_tup, ↓e_len_tup, ↓e_len_fl, ↓e_len_str, ↓e_len_obj, ↓e_int_int, ↓e_tuple_tup, ↓e_tuple_obj, ↓e_list_tup, ↓e_list_obj, ↓e_dget, ↓e_din, ↓e_dnin, ↓e_lstAt, ↓e_dicAt,   e_key_int, e_key_str, e_up, e_ty_str, e_ty_tup, e_ty_int, e_ty_bl, e_ty_non, atI0, atI1, atI2, atI3, atIL, ixN0, ixN1, cut_from1, e_ite_or, e_ite_and, zln, znl, zli, zil, zni, zin, sizeLine_eq, CMul, CDiv, cpow1018, true_or, or_true, kb_strstr, kb_tupstr, kb_tuptup, kb_strtup, kb_inttup, kb_bltup, kb_nontup, kb_strbl, kb_strint, kb_intbl, kb_intint, kb_blbl, kb_blint, kb_nonbl, kb_nonint, kb_nonstr, kb_intstr, kb_blstr, kb_tupbl, kb_tupint,   List.set_cons_zero, List.set_cons_succ, List.set_nil, List.getElem?_cons_zero, List.getElem?_cons_succ, List.getElem?_nil, List.length_cons, List.length_nil, List.length_map, List.length_append, e_lcN, e_lcC, e_forN, e_forC, List.getLast?_concat, List.dropLast_concat, List.nil_append, List.cons_append, List.append_nil, List.append_assoc, List.reverse_cons, List.reverse_nil, List.isEmpty_nil, List.isEmpty_cons, isEmpty_snoc, List.any_cons, List.any_nil, List.all_cons, List.all_nil, flatD, eqF, in_non, in_tup, in_str, in_int, in_bl, in_obj, in_fl, startA, List.map_cons, List.map_nil, List.replicate_succ, List.replicate_zero,   Nat.reduceAdd, Nat.reduceSub, Nat.reduceLeDiff, Nat.zero_add, Int.reduceLE, Int.reduceLT, Int.reduceToNat, Int.reducePow, Int.reduceNeg, Int.reduceAdd, Int.reduceSub,   Option.isSome_some, Option.isSome_none, Bool.not_true, Bool.not_false, Bool.not_eq_true', Bool.not_eq_eq_eq_not, Bool.not_eq_true, Bool.false_eq_true, Bool.true_eq_false, Bool.and_true, Bool.true_and, Bool.or_false, Bool.false_or, Bool.or_true, Bool.true_or, Bool.and_false, Bool.false_and, if_true, if_false, ite_true, ite_false, reduceIte, reduceCtorEq, decide_true, decide_false, decide_eq_true_eq, decide_eq_false_iff_not, true_and, and_true, eq_self, ne_eq, not_false_eq_true, not_true_eq_false, and_self, *])
    exact q p zs M' hp (he.ext hp) hp'
  · rintro d r N env M' ⟨lo, m, x4, x5, x6, x7, zs, hd, hlo, hlo1, hlo2, rfl, hp', he, hz⟩ next
    obtain ⟨m, rfl, rfl, rfl⟩ := rngD_cons hd.symm
    try (simp only [↓e_seq, ↓e_next, ↓e_break, ↓e_cont, ↓e_expr, ↓e_ret, ↓e_retN, ↓e_if, ↓e_never, ↓e_asg, ↓e_name, ↓e_agtup, ↓e_agcons, ↓e_agnil, ↓e_agsub, ↓e_aug, ↓e_dput, ↓e_var, ↓e_c, ↓e_op, ↓e_some, ↓e_none, ↓e_test, ↓e_and, ↓e_or, ↓e_not, ↓e_yes, ↓e_truth,   ↓e_tru_bl, ↓e_tru_int, ↓e_tru_non, ↓e_tru_str, ↓e_tru_tup, ↓e_tru_obj, ↓e_chain, ↓e_orV, ↓e_andV, ↓e_notV, ↓e_ifE, ↓e_neg, ↓e_nil, ↓e_cons, ↓e_tup, ↓e_lst, ↓e_dnew, ↓e_call, ↓e_cb, ↓e_isi, ↓e_sl, ↓e_onone, ↓e_osome, ↓e_rev, ↓e_lm, ↓e_append, ↓e_extend, ↓e_pop, ↓e_join, ↓e_dget2, ↓e_sortSet, ↓e_sortS, ↓e_setd, strsOf_map, ↓e_maxI, ↓e_disp, ↓e_pairN, ↓e_pairC, intsOf_map, ↓e_for, ↓e_ilist, ↓e_itup, ↓e_rng1, ↓e_rng2, ↓e_lc, ↓e_lc2, e_lc2N, ↓e_ienum, ↓e_izip, ↓e_anyB, ↓e_allB, ↓e_mulS, blsOf_map, ↓e_set0, ↓e_sadd, ↓e_sortTx, ↓e_sortD, ↓e_repr, ↓e_extT, ↓e_sc2, ↓e_sortZ, ↓e_tupVals, ↓e_wget, ↓e_wix, ↓e_listZip, zipD_nil, zipD_cons, ↓e_dgetF, ↓e_idif,   ↓e_add_int, ↓e_add_str, ↓e_add_tup, ↓e_add_obj, ↓e_iadd_int, ↓e_iadd_str, ↓e_iadd_obj, ↓e_I, ↓e_I0, ↓e_IS_int, ↓e_IS_str, ↓e_eq_str, ↓e_ne_str, ↓e_eq_int, ↓e_ne_int, ↓e_eq_bl, ↓e_ne_bl, ↓e_isN, ↓e_notN, ↓e_ix_tup, ↓e_ix_fl, ↓e_ix_str, ↓e_ix_obj, ↓e_in_tup, ↓e_nin_tup, ↓e_len_tup, ↓e_len_fl, ↓e_len_str, ↓e_len_obj, ↓e_int_int, ↓e_tuple_tup, ↓e_tuple_obj, ↓e_list_tup, ↓e_list_obj, ↓e_dget, ↓e_din, ↓e_dnin, ↓e_lstAt, ↓e_dicAt,   e_key_int, e_key_str, e_up, e_ty_str, e_ty_tup, e_ty_int, e_ty_bl, e_ty_non, atI0, atI1, atI2, atI3, atIL, ixN0, ixN1, cut_from1, e_ite_or, e_ite_and, zln, znl, zli, zil, zni, zin, sizeLine_eq, CMul, CDiv, cpow1018, true_or, or_true, kb_strstr, kb_tupstr, kb_tuptup, kb_strtup, kb_inttup, kb_bltup, kb_nontup, kb_strbl, kb_strint, kb_intbl, kb_intint, kb_blbl, kb_blint, kb_nonbl, kb_nonint, kb_nonstr, kb_intstr, kb_blstr, kb_tupbl, kb_tupint,   List.set_cons_zero, List.set_cons_succ, List.set_nil, List.getElem?_cons_zero, List.getElem?_cons_succ, List.getElem?_nil, List.length_cons, List.length_nil, List.length_map, List.length_append, e_lcN, e_lcC, e_forN, e_forC, List.getLast?_concat, List.dropLast_concat, List.nil_append, List.cons_append, List.append_nil, List.append_assoc, List.reverse_cons, List.reverse_nil, List.isEmpty_nil, List.isEmpty_cons, isEmpty_snoc, List.any_cons, List.any_nil, List.all_cons, List.all_nil, flatD, eqF, in_non, in_tup, in_str, in_int, in_bl, in_obj, in_fl, startA, List.map_cons, List.map_nil, List.replicate_succ, List.replicate_zero,   Nat.reduceAdd, Nat.reduceSub, Nat.reduceLeDiff, Nat.zero_add, Int.reduceLE, Int.reduceLT, Int.reduceToNat, Int.reducePow, Int.reduceNeg, Int.reduceAdd, Int.reduceSub,   Option.isSome_some, Option.isSome_none, Bool.not_true, Bool.not_false, Bool.not_eq_true', Bool.not_eq_eq_eq_not, Bool.not_eq_true, Bool.false_eq_true, Bool.true_eq_false, Bool.and_true, Bool.true_and, Bool.or_false, Bool.false_or, Bool.or_true, Bool.true_or, Bool.and_false, Bool.false_and, if_true, if_false, ite_true, ite_false, reduceIte, reduceCtorEq, decide_true, decide_false, decide_eq_true_eq, decide_eq_false_iff_not, true_and, and_true, eq_self, ne_eq, not_false_eq_true, not_true_eq_false, and_self, *])
    refine ⟨rfl, ns, lo, rfl, hlo, fun v => ?_⟩
    try (simp only [↓e_seq, ↓e_next, ↓e_break, ↓e_cont, ↓e_expr, ↓e_ret, ↓e_retN, ↓e_if, ↓e_never, ↓e_asg, ↓e_name, ↓e_agtup, ↓e_agcons, ↓e_agnil, ↓e_agsub, ↓e_aug, ↓e_dput, ↓e_var, ↓e_c, ↓e_op, ↓e_some, ↓e_none, ↓e_test, ↓e_and, ↓e_or, ↓e_not, ↓e_yes, ↓e_truth,   ↓e_tru_bl, ↓e_tru_int, ↓e_tru_non, ↓e_tru_str, ↓e_tru_tup, ↓e_tru_obj, ↓e_chain, ↓e_orV, ↓e_andV, ↓e_notV, ↓e_ifE, ↓e_neg, ↓e_nil, ↓e_cons, ↓e_tup, ↓e_lst, ↓e_dnew, ↓e_call, ↓e_cb, ↓e_isi, ↓e_sl, ↓e_onone, ↓e_osome, ↓e_rev, ↓e_lm, ↓e_append, ↓e_extend, ↓e_pop, ↓e_join, ↓e_dget2, ↓e_sortSet, ↓e_sortS, ↓e_setd, strsOf_map, ↓e_maxI, ↓e_disp, ↓e_pairN, ↓e_pairC, intsOf_map, ↓e_for, ↓e_ilist, ↓e_itup, ↓e_rng1, ↓e_rng2, ↓e_lc, ↓e_lc2, e_lc2N, ↓e_ienum, ↓e_izip, ↓e_anyB, ↓e_allB, ↓e_mulS, blsOf_map, ↓e_set0, ↓e_sadd, ↓e_sortTx, ↓e_sortD, ↓e_repr, ↓e_extT, ↓e_sc2, ↓e_sortZ, ↓e_tupVals, ↓e_wget, ↓e_wix, ↓e_listZip, zipD_nil, zipD_cons, ↓e_dgetF, ↓e_idif,   ↓e_add_int, ↓e_add_str, ↓e_add_tup, ↓e_add_obj, ↓e_iadd_int, ↓e_iadd_str, ↓e_iadd_obj, ↓e_I, ↓e_I0, ↓e_IS_int, ↓e_IS_str, ↓e_eq_str, ↓e_ne_str, ↓e_eq_int, ↓e_ne_int, ↓e_eq_bl, ↓e_ne_bl, ↓e_isN, ↓e_notN, ↓e_ix_tup, ↓e_ix_fl, ↓e_ix_str, ↓e_ix_obj, ↓e_in_tup, ↓e_nin_tup, ↓e_len_tup, ↓e_len_fl, ↓e_len_str, ↓e_len_obj, ↓e_int_int, ↓e_tuple_tup, ↓e_tuple_obj, ↓e_list_tup, ↓e_list_obj, ↓e_dget, ↓e_din, ↓e_dnin, ↓e_lstAt, ↓e_dicAt,   e_key_int, e_key_str, e_up, e_ty_str, e_ty_tup, e_ty_int, e_ty_bl, e_ty_non, atI0, atI1, atI2, atI3, atIL, ixN0, ixN1, cut_from1, e_ite_or, e_ite_and, zln, znl, zli, zil, zni, zin, sizeLine_eq, CMul, CDiv, cpow1018, true_or, or_true, kb_strstr, kb_tupstr, kb_tuptup, kb_strtup, kb_inttup, kb_bltup, kb_nontup, kb_strbl, kb_strint, kb_intbl, kb_intint, kb_blbl, kb_blint, kb_nonbl, kb_nonint, kb_nonstr, kb_intstr, kb_blstr, kb_tupbl, kb_tupint,   List.set_cons_zero, List.set_cons_succ, List.set_nil, List.getElem?_cons_zero, List.getElem?_cons_succ, List.getElem?_nil, List.length_cons, List.length_nil, List.length_map, List.length_append, e_lcN, e_lcC, e_forN, e_forC, List.getLast?_concat, List.dropLast_concat, List.nil_append, List.cons_append, List.append_nil, List.append_assoc, List.reverse_cons, List.reverse_nil, List.isEmpty_nil, List.isEmpty_cons, isEmpty_snoc, List.any_cons, List.any_nil, List.all_cons, List.all_nil, flatD, eqF, in_non, in_tup, in_str, in_int, in_bl, in_obj, in_fl, startA, List.map_cons, List.map_nil, List.replicate_succ, List.replicate_zero,   Nat.reduceAdd, Nat.reduceSub, Nat.reduceLeDiff, Nat.zero_add, Int.reduceLE, Int.reduceLT, Int.reduceToNat, Int.reducePow, Int.reduceNeg, Int.reduceAdd, Int.reduceSub,   Option.isSome_some, Option.isSome_none, Bool.not_true, Bool.not_false, Bool.not_eq_true', Bool.not_eq_eq_eq_not, Bool.not_eq_true, Bool.false_eq_true, Bool.true_eq_false, Bool.and_true, Bool.true_and, Bool.or_false, Bool.false_or, Bool.or_true, Bool.true_or, Bool.and_false, Bool.false_and, if_true, if_false, ite_true, ite_false, reduceIte, reduceCtorEq, decide_true, decide_false, decide_eq_true_eq, decide_eq_false_iff_not, true_and, and_true, eq_self, ne_eq, not_false_eq_true, not_true_eq_false, and_self, *])
    split <;> split
    iterate 2
      · refine for_run (fun ds env M'' => ∃ l2 m2 w x6 zs2, ds = rngD l2 m2 ∧ env = [some (.fl (ns.map D.int)), some (.int 0), some (.int n), some (.obj p), some (.int lo), some (.int w), x6, x7] ∧ M'' p = some (.lst (zs2.map D.int)) ∧ ExtB p M M'' ∧ zs2.length + m2 ≤ zs.length + 60) (fun _ _ _ _ => trivial) ?_ ?_ ⟨0, 60, _, x6, zs, rfl, rfl, hp', he, by omega⟩
        · rintro env M'' ⟨l2, m2, w, x6, zs2, hd2, rfl, hp2, he2, hz2⟩
          have z := rngD_nil hd2.symm
          subst z
          exact next _ _ ⟨lo + 1, m, _, _, _, _, zs2, rfl, by omega, by omega, by omega, rfl, hp2, he2, by omega⟩
        · rintro d r N2 env M'' ⟨l2, m2, w, x6, zs2, hd2, rfl, hp2, he2, hz2⟩ next2
          obtain ⟨m2, rfl, rfl, rfl⟩ := rngD_cons hd2.symm
          try (simp only [↓e_seq, ↓e_next, ↓e_break, ↓e_cont, ↓e_expr, ↓e_ret, ↓e_retN, ↓e_if, ↓e_never, ↓e_asg, ↓e_name, ↓e_agtup, ↓e_agcons, ↓e_agnil, ↓e_agsub, ↓e_aug, ↓e_dput, ↓e_var, ↓e_c, ↓e_op, ↓e_some, ↓e_none, ↓e_test, ↓e_and, ↓e_or, ↓e_not, ↓e_yes, ↓e_truth,   ↓e_tru_bl, ↓e_tru_int, ↓e_tru_non, ↓e_tru_str, ↓e_tru_tup, ↓e_tru_obj, ↓e_chain, ↓e_orV, ↓e_andV, ↓e_notV, ↓e_ifE, ↓e_neg, ↓e_nil, ↓e_cons, ↓e_tup, ↓e_lst, ↓e_dnew, ↓e_call, ↓e_cb, ↓e_isi, ↓e_sl, ↓e_onone, ↓e_osome, ↓e_rev, ↓e_lm, ↓e_append, ↓e_extend, ↓e_pop, ↓e_join, ↓e_dget2, ↓e_sortSet, ↓e_sortS, ↓e_setd, strsOf_map, ↓e_maxI, ↓e_disp, ↓e_pairN, ↓e_pairC, intsOf_map, ↓e_for, ↓e_ilist, ↓e_itup, ↓e_rng1, ↓e_rng2, ↓e_lc, ↓e_lc2, e_lc2N, ↓e_ienum, ↓e_izip, ↓e_anyB, ↓e_allB, ↓e_mulS, blsOf_map, ↓e_set0, ↓e_sadd, ↓e_sortTx, ↓e_sortD, ↓e_repr, ↓e_extT, ↓e_sc2, ↓e_sortZ, ↓e_tupVals, ↓e_wget, ↓e_wix, ↓e_listZip, zipD_nil, zipD_cons, ↓e_dgetF, ↓e_idif,   ↓e_add_int, ↓e_add_str, ↓e_add_tup, ↓e_add_obj, ↓e_iadd_int, ↓e_iadd_str, ↓e_iadd_obj, ↓e_I, ↓e_I0, ↓e_IS_int, ↓e_IS_str, ↓e_eq_str, ↓e_ne_str, ↓e_eq_int, ↓e_ne_int, ↓e_eq_bl, ↓e_ne_bl, ↓e_isN, ↓e_notN, ↓e_ix_tup, ↓e_ix_fl, ↓e_ix_str, ↓e_ix_obj, ↓e_in_tup, ↓e_nin_tup, ↓e_len_tup, ↓e_len_fl, ↓e_len_str, ↓e_len_obj, ↓e_int_int, ↓e_tuple_tup, ↓e_tuple_obj, ↓e_list_tup, ↓e_list_obj, ↓e_dget, ↓e_din, ↓e_dnin, ↓e_lstAt, ↓e_dicAt,   e_key_int, e_key_str, e_up, e_ty_str, e_ty_tup, e_ty_int, e_ty_bl, e_ty_non, atI0, atI1, atI2, atI3, atIL, ixN0, ixN1, cut_from1, e_ite_or, e_ite_and, zln, znl, zli, zil, zni, zin, sizeLine_eq, CMul, CDiv, cpow1018, true_or, or_true, kb_strstr, kb_tupstr, kb_tuptup, kb_strtup, kb_inttup, kb_bltup, kb_nontup, kb_strbl, kb_strint, kb_intbl, kb_intint, kb_blbl, kb_blint, kb_nonbl, kb_nonint, kb_nonstr, kb_intstr, kb_blstr, kb_tupbl, kb_tupint,   List.set_cons_zero, List.set_cons_succ, List.set_nil, List.getElem?_cons_zero, List.getElem?_cons_succ, List.getElem?_nil, List.length_cons, List.length_nil, List.length_map, List.length_append, e_lcN, e_lcC, e_forN, e_forC, List.getLast?_concat, List.dropLast_concat, List.nil_append, List.cons_append, List.append_nil, List.append_assoc, List.reverse_cons, List.reverse_nil, List.isEmpty_nil, List.isEmpty_cons, isEmpty_snoc, List.any_cons, List.any_nil, List.all_cons, List.all_nil, flatD, eqF, in_non, in_tup, in_str, in_int, in_bl, in_obj, in_fl, startA, List.map_cons, List.map_nil, List.replicate_succ, List.replicate_zero,   Nat.reduceAdd, Nat.reduceSub, Nat.reduceLeDiff, Nat.zero_add, Int.reduceLE, Int.reduceLT, Int.reduceToNat, Int.reducePow, Int.reduceNeg, Int.reduceAdd, Int.reduceSub,   Option.isSome_some, Option.isSome_none, Bool.not_true, Bool.not_false, Bool.not_eq_true', Bool.not_eq_eq_eq_not, Bool.not_eq_true, Bool.false_eq_true, Bool.true_eq_false, Bool.and_true, Bool.true_and, Bool.or_false, Bool.false_or, Bool.or_true, Bool.true_or, Bool.and_false, Bool.false_and, if_true, if_false, ite_true, ite_false, reduceIte, reduceCtorEq, decide_true, decide_false, decide_eq_true_eq, decide_eq_false_iff_not, true_and, and_true, eq_self, ne_eq, not_false_eq_true, not_true_eq_false, and_self, *])
          split
          · refine ⟨by omega, ?_⟩
            refine next2 _ _ ⟨l2 + 1, m2, _, _, zs2 ++ [w % 1000], rfl, rfl, ?_, he2.trans ExtB.upd, ?_⟩
            · rw [up_same, map_snoc]
            · rw [List.length_append, List.length_singleton]
              omega
          · exact next2 _ _ ⟨l2 + 1, m2, _, _, zs2, rfl, rfl, hp2, he2, by omega⟩
      · refine for_run (fun ds env M'' => ∃ l2 m2 x5 x6 sd zs2, ds = rngD l2 m2 ∧ env = [some (.fl (ns.map D.int)), some (.int 0), some (.int n), some (.obj p), some (.int lo), x5, x6, some (.int sd)] ∧ M'' p = some (.lst (zs2.map D.int)) ∧ ExtB p M M'' ∧ zs2.length + m2 ≤ zs.length + 12) (fun _ _ _ _ => trivial) ?_ ?_ ⟨0, 12, _, x6, _, zs, rfl, rfl, hp', he, by omega⟩
        · rintro env M'' ⟨l2, m2, x5, x6, sd, zs2, hd2, rfl, hp2, he2, hz2⟩
          have z := rngD_nil hd2.symm
          subst z
          exact next _ _ ⟨lo + 1, m, _, _, _, _, zs2, rfl, by omega, by omega, by omega, rfl, hp2, he2, by omega⟩
        · rintro d r N2 env M'' ⟨l2, m2, x5, x6, sd, zs2, hd2, rfl, hp2, he2, hz2⟩ next2
          obtain ⟨m2, rfl, rfl, rfl⟩ := rngD_cons hd2.symm
          try (simp only [↓e_seq, ↓e_next, ↓e_break, ↓e_cont, ↓e_expr, ↓e_ret, ↓e_retN, ↓e_if, ↓e_never, ↓e_asg, ↓e_name, ↓e_agtup, ↓e_agcons, ↓e_agnil, ↓e_agsub, ↓e_aug, ↓e_dput, ↓e_var, ↓e_c, ↓e_op, ↓e_some, ↓e_none, ↓e_test, ↓e_and, ↓e_or, ↓e_not, ↓e_yes, ↓e_truth,   ↓e_tru_bl, ↓e_tru_int, ↓e_tru_non, ↓e_tru_str, ↓e_tru_tup, ↓e_tru_obj, ↓e_chain, ↓e_orV, ↓e_andV, ↓e_notV, ↓e_ifE, ↓e_neg, ↓e_nil, ↓e_cons, ↓e_tup, ↓e_lst, ↓e_dnew, ↓e_call, ↓e_cb, ↓e_isi, ↓e_sl, ↓e_onone, ↓e_osome, ↓e_rev, ↓e_lm, ↓e_append, ↓e_extend, ↓e_pop, ↓e_join, ↓e_dget2, ↓e_sortSet, ↓e_sortS, ↓e_setd, strsOf_map, ↓e_maxI, ↓e_disp, ↓e_pairN, ↓e_pairC, intsOf_map, ↓e_for, ↓e_ilist, ↓e_itup, ↓e_rng1, ↓e_rng2, ↓e_lc, ↓e_lc2, e_lc2N, ↓e_ienum, ↓e_izip, ↓e_anyB, ↓e_allB, ↓e_mulS, blsOf_map, ↓e_set0, ↓e_sadd, ↓e_sortTx, ↓e_sortD, ↓e_repr, ↓e_extT, ↓e_sc2, ↓e_sortZ, ↓e_tupVals, ↓e_wget, ↓e_wix, ↓e_listZip, zipD_nil, zipD_cons, ↓e_dgetF, ↓e_idif,   ↓e_add_int, ↓e_add_str, ↓e_add_tup, ↓e_add_obj, ↓e_iadd_int, ↓e_iadd_str, ↓e_iadd_obj, ↓e_I, ↓e_I0, ↓e_IS_int, ↓e_IS_str, ↓e_eq_str, ↓e_ne_str, ↓e_eq_int, ↓e_ne_int, ↓e_eq_bl, ↓e_ne_bl, ↓e_isN, ↓e_notN, ↓e_ix_tup, ↓e_ix_fl, ↓e_ix_str, ↓e_ix_obj, ↓e_in_tup, ↓e_nin_tup, ↓e_len_tup, ↓e_len_fl, ↓e_len_str, ↓e_len_obj, ↓e_int_int, ↓e_tuple_tup, ↓e_tuple_obj, ↓e_list_tup, ↓e_list_obj, ↓e_dget, ↓e_din, ↓e_dnin, ↓e_lstAt, ↓e_dicAt,   e_key_int, e_key_str, e_up, e_ty_str, e_ty_tup, e_ty_int, e_ty_bl, e_ty_non, atI0, atI1, atI2, atI3, atIL, ixN0, ixN1, cut_from1, e_ite_or, e_ite_and, zln, znl, zli, zil, zni, zin, sizeLine_eq, CMul, CDiv, cpow1018, true_or, or_true, kb_strstr, kb_tupstr, kb_tuptup, kb_strtup, kb_inttup, kb_bltup, kb_nontup, kb_strbl, kb_strint, kb_intbl, kb_intint, kb_blbl, kb_blint, kb_nonbl, kb_nonint, kb_nonstr, kb_intstr, kb_blstr, kb_tupbl, kb_tupint,   List.set_cons_zero, List.set_cons_succ, List.set_nil, List.getElem?_cons_zero, List.getElem?_cons_succ, List.getElem?_nil, List.length_cons, List.length_nil, List.length_map, List.length_append, e_lcN, e_lcC, e_forN, e_forC, List.getLast?_concat, List.dropLast_concat, List.nil_append, List.cons_append, List.append_nil, List.append_assoc, List.reverse_cons, List.reverse_nil, List.isEmpty_nil, List.isEmpty_cons, isEmpty_snoc, List.any_cons, List.any_nil, List.all_cons, List.all_nil, flatD, eqF, in_non, in_tup, in_str, in_int, in_bl, in_obj, in_fl, startA, List.map_cons, List.map_nil, List.replicate_succ, List.replicate_zero,   Nat.reduceAdd, Nat.reduceSub, Nat.reduceLeDiff, Nat.zero_add, Int.reduceLE, Int.reduceLT, Int.reduceToNat, Int.reducePow, Int.reduceNeg, Int.reduceAdd, Int.reduceSub,   Option.isSome_some, Option.isSome_none, Bool.not_true, Bool.not_false, Bool.not_eq_true', Bool.not_eq_eq_eq_not, Bool.not_eq_true, Bool.false_eq_true, Bool.true_eq_false, Bool.and_true, Bool.true_and, Bool.or_false, Bool.false_or, Bool.or_true, Bool.true_or, Bool.and_false, Bool.false_and, if_true, if_false, ite_true, ite_false, reduceIte, reduceCtorEq, decide_true, decide_false, decide_eq_true_eq, decide_eq_false_iff_not, true_and, and_true, eq_self, ne_eq, not_false_eq_true, not_true_eq_false, and_self, *])
          refine ⟨by omega, ?_⟩
          refine next2 _ _ ⟨l2 + 1, m2, _, _, _, zs2 ++ [(sd * 16807 + 7 * l2 + 1) % 2147483647 / 997 % 1000], rfl, rfl, ?_, he2.trans ExtB.upd, ?_⟩
          · rw [up_same, map_snoc]
          · rw [List.length_append, List.length_singleton]
            omega
def A_box : ASp := fun ds M Q _ => ∃ (ns : List Int) (n : Int), ds = [.fl (ns.map D.int), .int 0, .int n] ∧ 0 ≤ n ∧ n ≤ 63 ∧ ∀ b d M', M b = none → M d = none → Ext M M' → BoxAt M' b d → Q (.obj b) M'
theorem p__law_box (ds : List D) (M : Sto) (Q : D → Sto → Prop) (Xa) (hl : ds.length = 3) (h : A_box ds M Q Xa) : a__law_box A_digits ax0 ⟨fun _ M => Q .non M, Q, fun _ _ => False, fun _ _ => False⟩ (startA ["script", "first", "last"] ds) M := by
  obtain ⟨ns, n, rfl, h0, h1, q⟩ := h
  unfold a__law_box
  try (simp only [↓e_seq, ↓e_next, ↓e_break, ↓e_cont, ↓e_expr, ↓e_ret, ↓e_retN, ↓e_if, ↓e_never, ↓e_asg, ↓e_name, ↓e_agtup, ↓e_agcons, ↓e_agnil, ↓e_agsub, ↓e_aug, ↓e_dput, ↓e_var, ↓e_c, ↓e_op, ↓e_some, ↓e_none, ↓e_test, ↓e_and, ↓e_or, ↓e_not, ↓e_yes, ↓e_truth,   ↓e_tru_bl, ↓e_tru_int, ↓e_tru_non, ↓e_tru_str, ↓e_tru_tup, ↓e_tru_obj, ↓e_chain, ↓e_orV, ↓e_andV, ↓e_notV, ↓e_ifE, ↓e_neg, ↓e_nil, ↓e_cons, ↓e_tup, ↓e_lst, ↓e_dnew, ↓e_call, ↓e_cb, ↓e_isi, ↓e_sl, ↓e_onone, ↓e_osome, ↓e_rev, ↓e_lm, ↓e_append, ↓e_extend, ↓e_pop, ↓e_join, ↓e_dget2, ↓e_sortSet, ↓e_sortS, ↓e_setd, strsOf_map, ↓e_maxI, ↓e_disp, ↓e_pairN, ↓e_pairC, intsOf_map, ↓e_for, ↓e_ilist, ↓e_itup, ↓e_rng1, ↓e_rng2, ↓e_lc, ↓e_lc2, e_lc2N, ↓e_ienum, ↓e_izip, ↓e_anyB, ↓e_allB, ↓e_mulS, blsOf_map, ↓e_set0, ↓e_sadd, ↓e_sortTx, ↓e_sortD, ↓e_repr, ↓e_extT, ↓e_sc2, ↓e_sortZ, ↓e_tupVals, ↓e_wget, ↓e_wix, ↓e_listZip, zipD_nil, zipD_cons, ↓e_dgetF, ↓e_idif,   ↓e_add_int, ↓e_add_str, ↓e_add_tup, ↓e_add_obj, ↓e_iadd_int, ↓e_iadd_str, ↓e_iadd_obj, ↓e_I, ↓e_I0, ↓e_IS_int, ↓e_IS_str, ↓e_eq_str, ↓e_ne_str, ↓e_eq_int, ↓e_ne_int, ↓e_eq_bl, ↓e_ne_bl, ↓e_isN, ↓e_notN, ↓e_ix_tup, ↓e_ix_fl, ↓e_ix_str, ↓e_ix_obj, ↓e_in_tup, ↓e_nin_tup, ↓e_len_tup, ↓e_len_fl, ↓e_len_str, ↓e_len_obj, ↓e_int_int, ↓e_tuple_tup, ↓e_tuple_obj, ↓e_list_tup, ↓e_list_obj, ↓e_dget, ↓e_din, ↓e_dnin, ↓e_lstAt, ↓e_dicAt,   e_key_int, e_key_str, e_up, e_ty_str, e_ty_tup, e_ty_int, e_ty_bl, e_ty_non, atI0, atI1, atI2, atI3, atIL, ixN0, ixN1, cut_from1, e_ite_or, e_ite_and, zln, znl, zli, zil, zni, zin, sizeLine_eq, CMul, CDiv, cpow1018, true_or, or_true, kb_strstr, kb_tupstr, kb_tuptup, kb_strtup, kb_inttup, kb_bltup, kb_nontup, kb_strbl, kb_strint, kb_intbl, kb_intint, kb_blbl, kb_blint, kb_nonbl, kb_nonint, kb_nonstr, kb_intstr, kb_blstr, kb_tupbl, kb_tupint,   List.set_cons_zero, List.set_cons_succ, List.set_nil, List.getElem?_cons_zero, List.getElem?_cons_succ, List.getElem?_nil, List.length_cons, List.length_nil, List.length_map, List.length_append, e_lcN, e_lcC, e_forN, e_forC, List.getLast?_concat, List.dropLast_concat, List.nil_append, List.cons_append, List.append_nil, List.append_assoc, List.reverse_cons, List.reverse_nil, List.isEmpty_nil, List.isEmpty_cons, isEmpty_snoc, List.any_cons, List.any_nil, List.all_cons, List.all_nil, flatD, eqF, in_non, in_tup, in_str, in_int, in_bl, in_obj, in_fl, startA, List.map_cons, List.map_nil, List.replicate_succ, List.replicate_zero,   Nat.reduceAdd, Nat.reduceSub, Nat.reduceLeDiff, Nat.zero_add, Int.reduceLE, Int.reduceLT, Int.reduceToNat, Int.reducePow, Int.reduceNeg, Int.reduceAdd, Int.reduceSub,   Option.isSome_some, Option.isSome_none, Bool.not_true, Bool.not_false, Bool.not_eq_true', Bool.not_eq_eq_eq_not, Bool.not_eq_true, Bool.false_eq_true, Bool.true_eq_false, Bool.and_true, Bool.true_and, Bool.or_false, Bool.false_or, Bool.or_true, Bool.true_or, Bool.and_false, Bool.false_and, if_true, if_false, ite_true, ite_false, reduceIte, reduceCtorEq, decide_true, decide_false, decide_eq_true_eq, decide_eq_false_iff_not, true_and, and_true, eq_self, ne_eq, not_false_eq_true, not_true_eq_false, and_self, *])
  refine ⟨rfl, ns, n, rfl, h0, h1, fun p zs M' hp e hz => ?_⟩
  try (simp only [↓e_seq, ↓e_next, ↓e_break, ↓e_cont, ↓e_expr, ↓e_ret, ↓e_retN, ↓e_if, ↓e_never, ↓e_asg, ↓e_name, ↓e_agtup, ↓e_agcons, ↓e_agnil, ↓e_agsub, ↓e_aug, ↓e_dput, ↓e_var, ↓e_c, ↓e_op, ↓e_some, ↓e_none, ↓e_test, ↓e_and, ↓e_or, ↓e_not, ↓e_yes, ↓e_truth,   ↓e_tru_bl, ↓e_tru_int, ↓e_tru_non, ↓e_tru_str, ↓e_tru_tup, ↓e_tru_obj, ↓e_chain, ↓e_orV, ↓e_andV, ↓e_notV, ↓e_ifE, ↓e_neg, ↓e_nil, ↓e_cons, ↓e_tup, ↓e_lst, ↓e_dnew, ↓e_call, ↓e_cb, ↓e_isi, ↓e_sl, ↓e_onone, ↓e_osome, ↓e_rev, ↓e_lm, ↓e_append, ↓e_extend, ↓e_pop, ↓e_join, ↓e_dget2, ↓e_sortSet, ↓e_sortS, ↓e_setd, strsOf_map, ↓e_maxI, ↓e_disp, ↓e_pairN, ↓e_pairC, intsOf_map, ↓e_for, ↓e_ilist, ↓e_itup, ↓e_rng1, ↓e_rng2, ↓e_lc, ↓e_lc2, e_lc2N, ↓e_ienum, ↓e_izip, ↓e_anyB, ↓e_allB, ↓e_mulS, blsOf_map, ↓e_set0, ↓e_sadd, ↓e_sortTx, ↓e_sortD, ↓e_repr, ↓e_extT, ↓e_sc2, ↓e_sortZ, ↓e_tupVals, ↓e_wget, ↓e_wix, ↓e_listZip, zipD_nil, zipD_cons, ↓e_dgetF, ↓e_idif,   ↓e_add_int, ↓e_add_str, ↓e_add_tup, ↓e_add_obj, ↓e_iadd_int, ↓e_iadd_str, ↓e_iadd_obj, ↓e_I, ↓e_I0, ↓e_IS_int, ↓e_IS_str, ↓e_eq_str, ↓e_ne_str, ↓e_eq_int, ↓e_ne_int, ↓e_eq_bl, ↓e_ne_bl, ↓e_isN, ↓e_notN, ↓e_ix_tup, ↓e_ix_fl, ↓e_ix_str, ↓e_ix_obj, ↓e_in_tup, ↓e_nin_tup, ↓e_len_tup, ↓e_len_fl, ↓e_len_str, ↓e_len_obj, ↓e_int_int, ↓e_tuple_tup, ↓e_tuple_obj, ↓e_list_tup, ↓e_list_obj, ↓e_dget, ↓e_din, ↓e_dnin, ↓e_lstAt, ↓e_dicAt,   e_key_int, e_key_str, e_up, e_ty_str, e_ty_tup, e_ty_int, e_ty_bl, e_ty_non, atI0, atI1, atI2, atI3, atIL, ixN0, ixN1, cut_from1, e_ite_or, e_ite_and, zln, znl, zli, zil, zni, zin, sizeLine_eq, CMul, CDiv, cpow1018, true_or, or_true, kb_strstr, kb_tupstr, kb_tuptup, kb_strtup, kb_inttup, kb_bltup, kb_nontup, kb_strbl, kb_strint, kb_intbl, kb_intint, kb_blbl, kb_blint, kb_nonbl, kb_nonint, kb_nonstr, kb_intstr, kb_blstr, kb_tupbl, kb_tupint,   List.set_cons_zero, List.set_cons_succ, List.set_nil, List.getElem?_cons_zero, List.getElem?_cons_succ, List.getElem?_nil, List.length_cons, List.length_nil, List.length_map, List.length_append, e_lcN, e_lcC, e_forN, e_forC, List.getLast?_concat, List.dropLast_concat, List.nil_append, List.cons_append, List.append_nil, List.append_assoc, List.reverse_cons, List.reverse_nil, List.isEmpty_nil, List.isEmpty_cons, isEmpty_snoc, List.any_cons, List.any_nil, List.all_cons, List.all_nil, flatD, eqF, in_non, in_tup, in_str, in_int, in_bl, in_obj, in_fl, startA, List.map_cons, List.map_nil, List.replicate_succ, List.replicate_zero,   Nat.reduceAdd, Nat.reduceSub, Nat.reduceLeDiff, Nat.zero_add, Int.reduceLE, Int.reduceLT, Int.reduceToNat, Int.reducePow, Int.reduceNeg, Int.reduceAdd, Int.reduceSub,   Option.isSome_some, Option.isSome_none, Bool.not_true, Bool.not_false, Bool.not_eq_true', Bool.not_eq_eq_eq_not, Bool.not_eq_true, Bool.false_eq_true, Bool.true_eq_false, Bool.and_true, Bool.true_and, Bool.or_false, Bool.false_or, Bool.or_true, Bool.true_or, Bool.and_false, Bool.false_and, if_true, if_false, ite_true, ite_false, reduceIte, reduceCtorEq, decide_true, decide_false, decide_eq_true_eq, decide_eq_false_iff_not, true_and, and_true, eq_self, ne_eq, not_false_eq_true, not_true_eq_false, and_self, *])
  intro b hb
  have hne := fresh_ne hb hz
  have hb0 : M b = none := by
    cases z : M b with
    | none => rfl
    | some mo => rw [e _ _ z] at hb; cases hb
  exact q b p _ hb0 hp (e.trans (Ext.new hb)) ⟨zs, 0, up_same, by rw [up_ne hne]; exact hz, by omega, hne⟩

inductive Fm where
  | lt (s : Str) | ng (p : Fm) | im (p q : Fm)
  deriving DecidableEq
def Fm.d : Fm → D
  | .lt s => .tup [.str z_letter, .str s]
  | .ng p => .tup [.str z_not, p.d]
  | .im p q => .tup [.str z_if, p.d, q.d]
def Fm.All (P : Str → Prop) : Fm → Prop
  | .lt s => P s
  | .ng p => p.All P
  | .im p q => p.All P ∧ q.All P
def Fm.sz : Fm → Nat
  | .lt _ => 1
  | .ng p => p.sz + 1
  | .im p q => p.sz + q.sz + 1
def Fm.sub (σ : Str → Fm) : Fm → Fm
  | .lt s => σ s
  | .ng p => .ng (p.sub σ)
  | .im p q => .im (p.sub σ) (q.sub σ)
theorem Fm.d_lt (s : Str) : (Fm.lt s).d = .tup [.str z_letter, .str s] := rfl
theorem Fm.d_ng (p : Fm) : (Fm.ng p).d = .tup [.str z_not, p.d] := rfl
theorem Fm.d_im (p q : Fm) : (Fm.im p q).d = .tup [.str z_if, p.d, q.d] := rfl
theorem Fm.All.mono {P R : Str → Prop} (h : ∀ s, P s → R s) : ∀ {f : Fm}, f.All P → f.All R
  | .lt s, a => h s a
  | .ng p, a => Fm.All.mono (f := p) h a
  | .im p q, a => ⟨Fm.All.mono (f := p) h a.1, Fm.All.mono (f := q) h a.2⟩
theorem Fm.sz_pos : ∀ f : Fm, 1 ≤ f.sz
  | .lt _ => Nat.le_refl _
  | .ng p => Nat.le_add_left _ _
  | .im p q => Nat.le_add_left _ _
def lets8 : List Nat := [97, 98, 99, 100, 101, 102, 103, 104]
theorem z8 : z_abcdefgh.cps.toList = lets8 := by decide +kernel
theorem z8l : z_abcdefgh.length ≤ 16777216 := by decide +kernel
def L8 (s : Str) : Prop := ∃ c ∈ lets8, s = ⟨#[c]⟩
theorem at8 {v : Int} (h0 : 0 ≤ v) (h : v < 8) : ∃ c ∈ lets8, atI lets8 v = some c := by
  have e : v = ((v.toNat : Nat) : Int) := by omega
  have hk : v.toNat < lets8.length := by show v.toNat < 8; omega
  rw [e, atIn, List.getElem?_eq_getElem hk]
  exact ⟨_, List.getElem_mem hk, rfl⟩
abbrev Done (Q : D → Sto → Prop) : AEnds := ⟨fun _ M => Q .non M, Q, fun _ _ => False, fun _ _ => False⟩
def A_any (L : Nat) : ASp := fun ds M Q _ => ∃ b d room many, ds = [.obj b, .int room, .int many] ∧ BoxAt M b d ∧ 1 ≤ room ∧ room ≤ (L : Int) ∧ 1 ≤ many ∧ many ≤ 8 ∧ ∀ (f : Fm) M', f.All L8 → (f.sz : Int) ≤ room → BoxAt M' b d → ExtB b M M' → Q f.d M'
theorem p__law_any (L : Nat) (ds : List D) (M : Sto) (Q : D → Sto → Prop) (Xa) (hl : ds.length = 3) (h : A_any (L + 1) ds M Q Xa) : a__law_any A_draw (A_any L) ax0 (Done Q) (startA ["box", "room", "many", "kind", "left", "first"] ds) M := by
  obtain ⟨b, d, room, many, rfl, hb, hr, hL, hm, hm8, q⟩ := h
  unfold a__law_any
  try (simp only [↓e_seq, ↓e_next, ↓e_break, ↓e_cont, ↓e_expr, ↓e_ret, ↓e_retN, ↓e_if, ↓e_never, ↓e_asg, ↓e_name, ↓e_agtup, ↓e_agcons, ↓e_agnil, ↓e_agsub, ↓e_aug, ↓e_dput, ↓e_var, ↓e_c, ↓e_op, ↓e_some, ↓e_none, ↓e_test, ↓e_and, ↓e_or, ↓e_not, ↓e_yes, ↓e_truth,   ↓e_tru_bl, ↓e_tru_int, ↓e_tru_non, ↓e_tru_str, ↓e_tru_tup, ↓e_tru_obj, ↓e_chain, ↓e_orV, ↓e_andV, ↓e_notV, ↓e_ifE, ↓e_neg, ↓e_nil, ↓e_cons, ↓e_tup, ↓e_lst, ↓e_dnew, ↓e_call, ↓e_cb, ↓e_isi, ↓e_sl, ↓e_onone, ↓e_osome, ↓e_rev, ↓e_lm, ↓e_append, ↓e_extend, ↓e_pop, ↓e_join, ↓e_dget2, ↓e_sortSet, ↓e_sortS, ↓e_setd, strsOf_map, ↓e_maxI, ↓e_disp, ↓e_pairN, ↓e_pairC, intsOf_map, ↓e_for, ↓e_ilist, ↓e_itup, ↓e_rng1, ↓e_rng2, ↓e_lc, ↓e_lc2, e_lc2N, ↓e_ienum, ↓e_izip, ↓e_anyB, ↓e_allB, ↓e_mulS, blsOf_map, ↓e_set0, ↓e_sadd, ↓e_sortTx, ↓e_sortD, ↓e_repr, ↓e_extT, ↓e_sc2, ↓e_sortZ, ↓e_tupVals, ↓e_wget, ↓e_wix, ↓e_listZip, zipD_nil, zipD_cons, ↓e_dgetF, ↓e_idif,   ↓e_add_int, ↓e_add_str, ↓e_add_tup, ↓e_add_obj, ↓e_iadd_int, ↓e_iadd_str, ↓e_iadd_obj, ↓e_I, ↓e_I0, ↓e_IS_int, ↓e_IS_str, ↓e_eq_str, ↓e_ne_str, ↓e_eq_int, ↓e_ne_int, ↓e_eq_bl, ↓e_ne_bl, ↓e_isN, ↓e_notN, ↓e_ix_tup, ↓e_ix_fl, ↓e_ix_str, ↓e_ix_obj, ↓e_in_tup, ↓e_nin_tup, ↓e_len_tup, ↓e_len_fl, ↓e_len_str, ↓e_len_obj, ↓e_int_int, ↓e_tuple_tup, ↓e_tuple_obj, ↓e_list_tup, ↓e_list_obj, ↓e_dget, ↓e_din, ↓e_dnin, ↓e_lstAt, ↓e_dicAt,   e_key_int, e_key_str, e_up, e_ty_str, e_ty_tup, e_ty_int, e_ty_bl, e_ty_non, atI0, atI1, atI2, atI3, atIL, ixN0, ixN1, cut_from1, e_ite_or, e_ite_and, zln, znl, zli, zil, zni, zin, sizeLine_eq, CMul, CDiv, cpow1018, true_or, or_true, kb_strstr, kb_tupstr, kb_tuptup, kb_strtup, kb_inttup, kb_bltup, kb_nontup, kb_strbl, kb_strint, kb_intbl, kb_intint, kb_blbl, kb_blint, kb_nonbl, kb_nonint, kb_nonstr, kb_intstr, kb_blstr, kb_tupbl, kb_tupint,   List.set_cons_zero, List.set_cons_succ, List.set_nil, List.getElem?_cons_zero, List.getElem?_cons_succ, List.getElem?_nil, List.length_cons, List.length_nil, List.length_map, List.length_append, e_lcN, e_lcC, e_forN, e_forC, List.getLast?_concat, List.dropLast_concat, List.nil_append, List.cons_append, List.append_nil, List.append_assoc, List.reverse_cons, List.reverse_nil, List.isEmpty_nil, List.isEmpty_cons, isEmpty_snoc, List.any_cons, List.any_nil, List.all_cons, List.all_nil, flatD, eqF, in_non, in_tup, in_str, in_int, in_bl, in_obj, in_fl, startA, List.map_cons, List.map_nil, List.replicate_succ, List.replicate_zero,   Nat.reduceAdd, Nat.reduceSub, Nat.reduceLeDiff, Nat.zero_add, Int.reduceLE, Int.reduceLT, Int.reduceToNat, Int.reducePow, Int.reduceNeg, Int.reduceAdd, Int.reduceSub,   Option.isSome_some, Option.isSome_none, Bool.not_true, Bool.not_false, Bool.not_eq_true', Bool.not_eq_eq_eq_not, Bool.not_eq_true, Bool.false_eq_true, Bool.true_eq_false, Bool.and_true, Bool.true_and, Bool.or_false, Bool.false_or, Bool.or_true, Bool.true_or, Bool.and_false, Bool.false_and, if_true, if_false, ite_true, ite_false, reduceIte, reduceCtorEq, decide_true, decide_false, decide_eq_true_eq, decide_eq_false_iff_not, true_and, and_true, eq_self, ne_eq, not_false_eq_true, not_true_eq_false, and_self, *])
  refine ⟨rfl, b, d, 8, rfl, hb, by decide, fun kind M1 hk0 hk8 hb1 e1 => ?_⟩
  try (simp only [↓e_seq, ↓e_next, ↓e_break, ↓e_cont, ↓e_expr, ↓e_ret, ↓e_retN, ↓e_if, ↓e_never, ↓e_asg, ↓e_name, ↓e_agtup, ↓e_agcons, ↓e_agnil, ↓e_agsub, ↓e_aug, ↓e_dput, ↓e_var, ↓e_c, ↓e_op, ↓e_some, ↓e_none, ↓e_test, ↓e_and, ↓e_or, ↓e_not, ↓e_yes, ↓e_truth,   ↓e_tru_bl, ↓e_tru_int, ↓e_tru_non, ↓e_tru_str, ↓e_tru_tup, ↓e_tru_obj, ↓e_chain, ↓e_orV, ↓e_andV, ↓e_notV, ↓e_ifE, ↓e_neg, ↓e_nil, ↓e_cons, ↓e_tup, ↓e_lst, ↓e_dnew, ↓e_call, ↓e_cb, ↓e_isi, ↓e_sl, ↓e_onone, ↓e_osome, ↓e_rev, ↓e_lm, ↓e_append, ↓e_extend, ↓e_pop, ↓e_join, ↓e_dget2, ↓e_sortSet, ↓e_sortS, ↓e_setd, strsOf_map, ↓e_maxI, ↓e_disp, ↓e_pairN, ↓e_pairC, intsOf_map, ↓e_for, ↓e_ilist, ↓e_itup, ↓e_rng1, ↓e_rng2, ↓e_lc, ↓e_lc2, e_lc2N, ↓e_ienum, ↓e_izip, ↓e_anyB, ↓e_allB, ↓e_mulS, blsOf_map, ↓e_set0, ↓e_sadd, ↓e_sortTx, ↓e_sortD, ↓e_repr, ↓e_extT, ↓e_sc2, ↓e_sortZ, ↓e_tupVals, ↓e_wget, ↓e_wix, ↓e_listZip, zipD_nil, zipD_cons, ↓e_dgetF, ↓e_idif,   ↓e_add_int, ↓e_add_str, ↓e_add_tup, ↓e_add_obj, ↓e_iadd_int, ↓e_iadd_str, ↓e_iadd_obj, ↓e_I, ↓e_I0, ↓e_IS_int, ↓e_IS_str, ↓e_eq_str, ↓e_ne_str, ↓e_eq_int, ↓e_ne_int, ↓e_eq_bl, ↓e_ne_bl, ↓e_isN, ↓e_notN, ↓e_ix_tup, ↓e_ix_fl, ↓e_ix_str, ↓e_ix_obj, ↓e_in_tup, ↓e_nin_tup, ↓e_len_tup, ↓e_len_fl, ↓e_len_str, ↓e_len_obj, ↓e_int_int, ↓e_tuple_tup, ↓e_tuple_obj, ↓e_list_tup, ↓e_list_obj, ↓e_dget, ↓e_din, ↓e_dnin, ↓e_lstAt, ↓e_dicAt,   e_key_int, e_key_str, e_up, e_ty_str, e_ty_tup, e_ty_int, e_ty_bl, e_ty_non, atI0, atI1, atI2, atI3, atIL, ixN0, ixN1, cut_from1, e_ite_or, e_ite_and, zln, znl, zli, zil, zni, zin, sizeLine_eq, CMul, CDiv, cpow1018, true_or, or_true, kb_strstr, kb_tupstr, kb_tuptup, kb_strtup, kb_inttup, kb_bltup, kb_nontup, kb_strbl, kb_strint, kb_intbl, kb_intint, kb_blbl, kb_blint, kb_nonbl, kb_nonint, kb_nonstr, kb_intstr, kb_blstr, kb_tupbl, kb_tupint,   List.set_cons_zero, List.set_cons_succ, List.set_nil, List.getElem?_cons_zero, List.getElem?_cons_succ, List.getElem?_nil, List.length_cons, List.length_nil, List.length_map, List.length_append, e_lcN, e_lcC, e_forN, e_forC, List.getLast?_concat, List.dropLast_concat, List.nil_append, List.cons_append, List.append_nil, List.append_assoc, List.reverse_cons, List.reverse_nil, List.isEmpty_nil, List.isEmpty_cons, isEmpty_snoc, List.any_cons, List.any_nil, List.all_cons, List.all_nil, flatD, eqF, in_non, in_tup, in_str, in_int, in_bl, in_obj, in_fl, startA, List.map_cons, List.map_nil, List.replicate_succ, List.replicate_zero,   Nat.reduceAdd, Nat.reduceSub, Nat.reduceLeDiff, Nat.zero_add, Int.reduceLE, Int.reduceLT, Int.reduceToNat, Int.reducePow, Int.reduceNeg, Int.reduceAdd, Int.reduceSub,   Option.isSome_some, Option.isSome_none, Bool.not_true, Bool.not_false, Bool.not_eq_true', Bool.not_eq_eq_eq_not, Bool.not_eq_true, Bool.false_eq_true, Bool.true_eq_false, Bool.and_true, Bool.true_and, Bool.or_false, Bool.false_or, Bool.or_true, Bool.true_or, Bool.and_false, Bool.false_and, if_true, if_false, ite_true, ite_false, reduceIte, reduceCtorEq, decide_true, decide_false, decide_eq_true_eq, decide_eq_false_iff_not, true_and, and_true, eq_self, ne_eq, not_false_eq_true, not_true_eq_false, and_self, *])
  split
  · refine ⟨rfl, b, d, many, rfl, hb1, by omega, fun v M2 hv0 hv1 hb2 e2 => ?_⟩
    obtain ⟨c, hc, hat⟩ := at8 hv0 (by omega : v < 8)
    have h8 := z8
    have h8l := z8l
    try (simp only [↓e_seq, ↓e_next, ↓e_break, ↓e_cont, ↓e_expr, ↓e_ret, ↓e_retN, ↓e_if, ↓e_never, ↓e_asg, ↓e_name, ↓e_agtup, ↓e_agcons, ↓e_agnil, ↓e_agsub, ↓e_aug, ↓e_dput, ↓e_var, ↓e_c, ↓e_op, ↓e_some, ↓e_none, ↓e_test, ↓e_and, ↓e_or, ↓e_not, ↓e_yes, ↓e_truth,   ↓e_tru_bl, ↓e_tru_int, ↓e_tru_non, ↓e_tru_str, ↓e_tru_tup, ↓e_tru_obj, ↓e_chain, ↓e_orV, ↓e_andV, ↓e_notV, ↓e_ifE, ↓e_neg, ↓e_nil, ↓e_cons, ↓e_tup, ↓e_lst, ↓e_dnew, ↓e_call, ↓e_cb, ↓e_isi, ↓e_sl, ↓e_onone, ↓e_osome, ↓e_rev, ↓e_lm, ↓e_append, ↓e_extend, ↓e_pop, ↓e_join, ↓e_dget2, ↓e_sortSet, ↓e_sortS, ↓e_setd, strsOf_map, ↓e_maxI, ↓e_disp, ↓e_pairN, ↓e_pairC, intsOf_map, ↓e_for, ↓e_ilist, ↓e_itup, ↓e_rng1, ↓e_rng2, ↓e_lc, ↓e_lc2, e_lc2N, ↓e_ienum, ↓e_izip, ↓e_anyB, ↓e_allB, ↓e_mulS, blsOf_map, ↓e_set0, ↓e_sadd, ↓e_sortTx, ↓e_sortD, ↓e_repr, ↓e_extT, ↓e_sc2, ↓e_sortZ, ↓e_tupVals, ↓e_wget, ↓e_wix, ↓e_listZip, zipD_nil, zipD_cons, ↓e_dgetF, ↓e_idif,   ↓e_add_int, ↓e_add_str, ↓e_add_tup, ↓e_add_obj, ↓e_iadd_int, ↓e_iadd_str, ↓e_iadd_obj, ↓e_I, ↓e_I0, ↓e_IS_int, ↓e_IS_str, ↓e_eq_str, ↓e_ne_str, ↓e_eq_int, ↓e_ne_int, ↓e_eq_bl, ↓e_ne_bl, ↓e_isN, ↓e_notN, ↓e_ix_tup, ↓e_ix_fl, ↓e_ix_str, ↓e_ix_obj, ↓e_in_tup, ↓e_nin_tup, ↓e_len_tup, ↓e_len_fl, ↓e_len_str, ↓e_len_obj, ↓e_int_int, ↓e_tuple_tup, ↓e_tuple_obj, ↓e_list_tup, ↓e_list_obj, ↓e_dget, ↓e_din, ↓e_dnin, ↓e_lstAt, ↓e_dicAt,   e_key_int, e_key_str, e_up, e_ty_str, e_ty_tup, e_ty_int, e_ty_bl, e_ty_non, atI0, atI1, atI2, atI3, atIL, ixN0, ixN1, cut_from1, e_ite_or, e_ite_and, zln, znl, zli, zil, zni, zin, sizeLine_eq, CMul, CDiv, cpow1018, true_or, or_true, kb_strstr, kb_tupstr, kb_tuptup, kb_strtup, kb_inttup, kb_bltup, kb_nontup, kb_strbl, kb_strint, kb_intbl, kb_intint, kb_blbl, kb_blint, kb_nonbl, kb_nonint, kb_nonstr, kb_intstr, kb_blstr, kb_tupbl, kb_tupint,   List.set_cons_zero, List.set_cons_succ, List.set_nil, List.getElem?_cons_zero, List.getElem?_cons_succ, List.getElem?_nil, List.length_cons, List.length_nil, List.length_map, List.length_append, e_lcN, e_lcC, e_forN, e_forC, List.getLast?_concat, List.dropLast_concat, List.nil_append, List.cons_append, List.append_nil, List.append_assoc, List.reverse_cons, List.reverse_nil, List.isEmpty_nil, List.isEmpty_cons, isEmpty_snoc, List.any_cons, List.any_nil, List.all_cons, List.all_nil, flatD, eqF, in_non, in_tup, in_str, in_int, in_bl, in_obj, in_fl, startA, List.map_cons, List.map_nil, List.replicate_succ, List.replicate_zero,   Nat.reduceAdd, Nat.reduceSub, Nat.reduceLeDiff, Nat.zero_add, Int.reduceLE, Int.reduceLT, Int.reduceToNat, Int.reducePow, Int.reduceNeg, Int.reduceAdd, Int.reduceSub,   Option.isSome_some, Option.isSome_none, Bool.not_true, Bool.not_false, Bool.not_eq_true', Bool.not_eq_eq_eq_not, Bool.not_eq_true, Bool.false_eq_true, Bool.true_eq_false, Bool.and_true, Bool.true_and, Bool.or_false, Bool.false_or, Bool.or_true, Bool.true_or, Bool.and_false, Bool.false_and, if_true, if_false, ite_true, ite_false, reduceIte, reduceCtorEq, decide_true, decide_false, decide_eq_true_eq, decide_eq_false_iff_not, true_and, and_true, eq_self, ne_eq, not_false_eq_true, not_true_eq_false, and_self, *])
    exact q (.lt ⟨#[c]⟩) M2 ⟨c, hc, rfl⟩ (by show (1 : Int) ≤ room; omega) hb2 (e1.trans e2)
  · rename_i hc1
    split
    · rename_i hc2
      refine ⟨rfl, b, d, room - 1, many, rfl, hb1, by omega, by omega, hm, hm8, fun f M2 hf hs hb2 e2 => ?_⟩
      try (simp only [↓e_seq, ↓e_next, ↓e_break, ↓e_cont, ↓e_expr, ↓e_ret, ↓e_retN, ↓e_if, ↓e_never, ↓e_asg, ↓e_name, ↓e_agtup, ↓e_agcons, ↓e_agnil, ↓e_agsub, ↓e_aug, ↓e_dput, ↓e_var, ↓e_c, ↓e_op, ↓e_some, ↓e_none, ↓e_test, ↓e_and, ↓e_or, ↓e_not, ↓e_yes, ↓e_truth,   ↓e_tru_bl, ↓e_tru_int, ↓e_tru_non, ↓e_tru_str, ↓e_tru_tup, ↓e_tru_obj, ↓e_chain, ↓e_orV, ↓e_andV, ↓e_notV, ↓e_ifE, ↓e_neg, ↓e_nil, ↓e_cons, ↓e_tup, ↓e_lst, ↓e_dnew, ↓e_call, ↓e_cb, ↓e_isi, ↓e_sl, ↓e_onone, ↓e_osome, ↓e_rev, ↓e_lm, ↓e_append, ↓e_extend, ↓e_pop, ↓e_join, ↓e_dget2, ↓e_sortSet, ↓e_sortS, ↓e_setd, strsOf_map, ↓e_maxI, ↓e_disp, ↓e_pairN, ↓e_pairC, intsOf_map, ↓e_for, ↓e_ilist, ↓e_itup, ↓e_rng1, ↓e_rng2, ↓e_lc, ↓e_lc2, e_lc2N, ↓e_ienum, ↓e_izip, ↓e_anyB, ↓e_allB, ↓e_mulS, blsOf_map, ↓e_set0, ↓e_sadd, ↓e_sortTx, ↓e_sortD, ↓e_repr, ↓e_extT, ↓e_sc2, ↓e_sortZ, ↓e_tupVals, ↓e_wget, ↓e_wix, ↓e_listZip, zipD_nil, zipD_cons, ↓e_dgetF, ↓e_idif,   ↓e_add_int, ↓e_add_str, ↓e_add_tup, ↓e_add_obj, ↓e_iadd_int, ↓e_iadd_str, ↓e_iadd_obj, ↓e_I, ↓e_I0, ↓e_IS_int, ↓e_IS_str, ↓e_eq_str, ↓e_ne_str, ↓e_eq_int, ↓e_ne_int, ↓e_eq_bl, ↓e_ne_bl, ↓e_isN, ↓e_notN, ↓e_ix_tup, ↓e_ix_fl, ↓e_ix_str, ↓e_ix_obj, ↓e_in_tup, ↓e_nin_tup, ↓e_len_tup, ↓e_len_fl, ↓e_len_str, ↓e_len_obj, ↓e_int_int, ↓e_tuple_tup, ↓e_tuple_obj, ↓e_list_tup, ↓e_list_obj, ↓e_dget, ↓e_din, ↓e_dnin, ↓e_lstAt, ↓e_dicAt,   e_key_int, e_key_str, e_up, e_ty_str, e_ty_tup, e_ty_int, e_ty_bl, e_ty_non, atI0, atI1, atI2, atI3, atIL, ixN0, ixN1, cut_from1, e_ite_or, e_ite_and, zln, znl, zli, zil, zni, zin, sizeLine_eq, CMul, CDiv, cpow1018, true_or, or_true, kb_strstr, kb_tupstr, kb_tuptup, kb_strtup, kb_inttup, kb_bltup, kb_nontup, kb_strbl, kb_strint, kb_intbl, kb_intint, kb_blbl, kb_blint, kb_nonbl, kb_nonint, kb_nonstr, kb_intstr, kb_blstr, kb_tupbl, kb_tupint,   List.set_cons_zero, List.set_cons_succ, List.set_nil, List.getElem?_cons_zero, List.getElem?_cons_succ, List.getElem?_nil, List.length_cons, List.length_nil, List.length_map, List.length_append, e_lcN, e_lcC, e_forN, e_forC, List.getLast?_concat, List.dropLast_concat, List.nil_append, List.cons_append, List.append_nil, List.append_assoc, List.reverse_cons, List.reverse_nil, List.isEmpty_nil, List.isEmpty_cons, isEmpty_snoc, List.any_cons, List.any_nil, List.all_cons, List.all_nil, flatD, eqF, in_non, in_tup, in_str, in_int, in_bl, in_obj, in_fl, startA, List.map_cons, List.map_nil, List.replicate_succ, List.replicate_zero,   Nat.reduceAdd, Nat.reduceSub, Nat.reduceLeDiff, Nat.zero_add, Int.reduceLE, Int.reduceLT, Int.reduceToNat, Int.reducePow, Int.reduceNeg, Int.reduceAdd, Int.reduceSub,   Option.isSome_some, Option.isSome_none, Bool.not_true, Bool.not_false, Bool.not_eq_true', Bool.not_eq_eq_eq_not, Bool.not_eq_true, Bool.false_eq_true, Bool.true_eq_false, Bool.and_true, Bool.true_and, Bool.or_false, Bool.false_or, Bool.or_true, Bool.true_or, Bool.and_false, Bool.false_and, if_true, if_false, ite_true, ite_false, reduceIte, reduceCtorEq, decide_true, decide_false, decide_eq_true_eq, decide_eq_false_iff_not, true_and, and_true, eq_self, ne_eq, not_false_eq_true, not_true_eq_false, and_self, *])
      exact q (.ng f) M2 hf (by show ((f.sz + 1 : Nat) : Int) ≤ room; omega) hb2 (e1.trans e2)
    · refine ⟨rfl, b, d, room - 2, rfl, hb1, by omega, fun v M2 hv0 hv1 hb2 e2 => ?_⟩
      try (simp only [↓e_seq, ↓e_next, ↓e_break, ↓e_cont, ↓e_expr, ↓e_ret, ↓e_retN, ↓e_if, ↓e_never, ↓e_asg, ↓e_name, ↓e_agtup, ↓e_agcons, ↓e_agnil, ↓e_agsub, ↓e_aug, ↓e_dput, ↓e_var, ↓e_c, ↓e_op, ↓e_some, ↓e_none, ↓e_test, ↓e_and, ↓e_or, ↓e_not, ↓e_yes, ↓e_truth,   ↓e_tru_bl, ↓e_tru_int, ↓e_tru_non, ↓e_tru_str, ↓e_tru_tup, ↓e_tru_obj, ↓e_chain, ↓e_orV, ↓e_andV, ↓e_notV, ↓e_ifE, ↓e_neg, ↓e_nil, ↓e_cons, ↓e_tup, ↓e_lst, ↓e_dnew, ↓e_call, ↓e_cb, ↓e_isi, ↓e_sl, ↓e_onone, ↓e_osome, ↓e_rev, ↓e_lm, ↓e_append, ↓e_extend, ↓e_pop, ↓e_join, ↓e_dget2, ↓e_sortSet, ↓e_sortS, ↓e_setd, strsOf_map, ↓e_maxI, ↓e_disp, ↓e_pairN, ↓e_pairC, intsOf_map, ↓e_for, ↓e_ilist, ↓e_itup, ↓e_rng1, ↓e_rng2, ↓e_lc, ↓e_lc2, e_lc2N, ↓e_ienum, ↓e_izip, ↓e_anyB, ↓e_allB, ↓e_mulS, blsOf_map, ↓e_set0, ↓e_sadd, ↓e_sortTx, ↓e_sortD, ↓e_repr, ↓e_extT, ↓e_sc2, ↓e_sortZ, ↓e_tupVals, ↓e_wget, ↓e_wix, ↓e_listZip, zipD_nil, zipD_cons, ↓e_dgetF, ↓e_idif,   ↓e_add_int, ↓e_add_str, ↓e_add_tup, ↓e_add_obj, ↓e_iadd_int, ↓e_iadd_str, ↓e_iadd_obj, ↓e_I, ↓e_I0, ↓e_IS_int, ↓e_IS_str, ↓e_eq_str, ↓e_ne_str, ↓e_eq_int, ↓e_ne_int, ↓e_eq_bl, ↓e_ne_bl, ↓e_isN, ↓e_notN, ↓e_ix_tup, ↓e_ix_fl, ↓e_ix_str, ↓e_ix_obj, ↓e_in_tup, ↓e_nin_tup, ↓e_len_tup, ↓e_len_fl, ↓e_len_str, ↓e_len_obj, ↓e_int_int, ↓e_tuple_tup, ↓e_tuple_obj, ↓e_list_tup, ↓e_list_obj, ↓e_dget, ↓e_din, ↓e_dnin, ↓e_lstAt, ↓e_dicAt,   e_key_int, e_key_str, e_up, e_ty_str, e_ty_tup, e_ty_int, e_ty_bl, e_ty_non, atI0, atI1, atI2, atI3, atIL, ixN0, ixN1, cut_from1, e_ite_or, e_ite_and, zln, znl, zli, zil, zni, zin, sizeLine_eq, CMul, CDiv, cpow1018, true_or, or_true, kb_strstr, kb_tupstr, kb_tuptup, kb_strtup, kb_inttup, kb_bltup, kb_nontup, kb_strbl, kb_strint, kb_intbl, kb_intint, kb_blbl, kb_blint, kb_nonbl, kb_nonint, kb_nonstr, kb_intstr, kb_blstr, kb_tupbl, kb_tupint,   List.set_cons_zero, List.set_cons_succ, List.set_nil, List.getElem?_cons_zero, List.getElem?_cons_succ, List.getElem?_nil, List.length_cons, List.length_nil, List.length_map, List.length_append, e_lcN, e_lcC, e_forN, e_forC, List.getLast?_concat, List.dropLast_concat, List.nil_append, List.cons_append, List.append_nil, List.append_assoc, List.reverse_cons, List.reverse_nil, List.isEmpty_nil, List.isEmpty_cons, isEmpty_snoc, List.any_cons, List.any_nil, List.all_cons, List.all_nil, flatD, eqF, in_non, in_tup, in_str, in_int, in_bl, in_obj, in_fl, startA, List.map_cons, List.map_nil, List.replicate_succ, List.replicate_zero,   Nat.reduceAdd, Nat.reduceSub, Nat.reduceLeDiff, Nat.zero_add, Int.reduceLE, Int.reduceLT, Int.reduceToNat, Int.reducePow, Int.reduceNeg, Int.reduceAdd, Int.reduceSub,   Option.isSome_some, Option.isSome_none, Bool.not_true, Bool.not_false, Bool.not_eq_true', Bool.not_eq_eq_eq_not, Bool.not_eq_true, Bool.false_eq_true, Bool.true_eq_false, Bool.and_true, Bool.true_and, Bool.or_false, Bool.false_or, Bool.or_true, Bool.true_or, Bool.and_false, Bool.false_and, if_true, if_false, ite_true, ite_false, reduceIte, reduceCtorEq, decide_true, decide_false, decide_eq_true_eq, decide_eq_false_iff_not, true_and, and_true, eq_self, ne_eq, not_false_eq_true, not_true_eq_false, and_self, *])
      refine ⟨rfl, b, d, 1 + v, many, rfl, hb2, by omega, by omega, hm, hm8, fun f M3 hf hs hb3 e3 => ?_⟩
      try (simp only [↓e_seq, ↓e_next, ↓e_break, ↓e_cont, ↓e_expr, ↓e_ret, ↓e_retN, ↓e_if, ↓e_never, ↓e_asg, ↓e_name, ↓e_agtup, ↓e_agcons, ↓e_agnil, ↓e_agsub, ↓e_aug, ↓e_dput, ↓e_var, ↓e_c, ↓e_op, ↓e_some, ↓e_none, ↓e_test, ↓e_and, ↓e_or, ↓e_not, ↓e_yes, ↓e_truth,   ↓e_tru_bl, ↓e_tru_int, ↓e_tru_non, ↓e_tru_str, ↓e_tru_tup, ↓e_tru_obj, ↓e_chain, ↓e_orV, ↓e_andV, ↓e_notV, ↓e_ifE, ↓e_neg, ↓e_nil, ↓e_cons, ↓e_tup, ↓e_lst, ↓e_dnew, ↓e_call, ↓e_cb, ↓e_isi, ↓e_sl, ↓e_onone, ↓e_osome, ↓e_rev, ↓e_lm, ↓e_append, ↓e_extend, ↓e_pop, ↓e_join, ↓e_dget2, ↓e_sortSet, ↓e_sortS, ↓e_setd, strsOf_map, ↓e_maxI, ↓e_disp, ↓e_pairN, ↓e_pairC, intsOf_map, ↓e_for, ↓e_ilist, ↓e_itup, ↓e_rng1, ↓e_rng2, ↓e_lc, ↓e_lc2, e_lc2N, ↓e_ienum, ↓e_izip, ↓e_anyB, ↓e_allB, ↓e_mulS, blsOf_map, ↓e_set0, ↓e_sadd, ↓e_sortTx, ↓e_sortD, ↓e_repr, ↓e_extT, ↓e_sc2, ↓e_sortZ, ↓e_tupVals, ↓e_wget, ↓e_wix, ↓e_listZip, zipD_nil, zipD_cons, ↓e_dgetF, ↓e_idif,   ↓e_add_int, ↓e_add_str, ↓e_add_tup, ↓e_add_obj, ↓e_iadd_int, ↓e_iadd_str, ↓e_iadd_obj, ↓e_I, ↓e_I0, ↓e_IS_int, ↓e_IS_str, ↓e_eq_str, ↓e_ne_str, ↓e_eq_int, ↓e_ne_int, ↓e_eq_bl, ↓e_ne_bl, ↓e_isN, ↓e_notN, ↓e_ix_tup, ↓e_ix_fl, ↓e_ix_str, ↓e_ix_obj, ↓e_in_tup, ↓e_nin_tup, ↓e_len_tup, ↓e_len_fl, ↓e_len_str, ↓e_len_obj, ↓e_int_int, ↓e_tuple_tup, ↓e_tuple_obj, ↓e_list_tup, ↓e_list_obj, ↓e_dget, ↓e_din, ↓e_dnin, ↓e_lstAt, ↓e_dicAt,   e_key_int, e_key_str, e_up, e_ty_str, e_ty_tup, e_ty_int, e_ty_bl, e_ty_non, atI0, atI1, atI2, atI3, atIL, ixN0, ixN1, cut_from1, e_ite_or, e_ite_and, zln, znl, zli, zil, zni, zin, sizeLine_eq, CMul, CDiv, cpow1018, true_or, or_true, kb_strstr, kb_tupstr, kb_tuptup, kb_strtup, kb_inttup, kb_bltup, kb_nontup, kb_strbl, kb_strint, kb_intbl, kb_intint, kb_blbl, kb_blint, kb_nonbl, kb_nonint, kb_nonstr, kb_intstr, kb_blstr, kb_tupbl, kb_tupint,   List.set_cons_zero, List.set_cons_succ, List.set_nil, List.getElem?_cons_zero, List.getElem?_cons_succ, List.getElem?_nil, List.length_cons, List.length_nil, List.length_map, List.length_append, e_lcN, e_lcC, e_forN, e_forC, List.getLast?_concat, List.dropLast_concat, List.nil_append, List.cons_append, List.append_nil, List.append_assoc, List.reverse_cons, List.reverse_nil, List.isEmpty_nil, List.isEmpty_cons, isEmpty_snoc, List.any_cons, List.any_nil, List.all_cons, List.all_nil, flatD, eqF, in_non, in_tup, in_str, in_int, in_bl, in_obj, in_fl, startA, List.map_cons, List.map_nil, List.replicate_succ, List.replicate_zero,   Nat.reduceAdd, Nat.reduceSub, Nat.reduceLeDiff, Nat.zero_add, Int.reduceLE, Int.reduceLT, Int.reduceToNat, Int.reducePow, Int.reduceNeg, Int.reduceAdd, Int.reduceSub,   Option.isSome_some, Option.isSome_none, Bool.not_true, Bool.not_false, Bool.not_eq_true', Bool.not_eq_eq_eq_not, Bool.not_eq_true, Bool.false_eq_true, Bool.true_eq_false, Bool.and_true, Bool.true_and, Bool.or_false, Bool.false_or, Bool.or_true, Bool.true_or, Bool.and_false, Bool.false_and, if_true, if_false, ite_true, ite_false, reduceIte, reduceCtorEq, decide_true, decide_false, decide_eq_true_eq, decide_eq_false_iff_not, true_and, and_true, eq_self, ne_eq, not_false_eq_true, not_true_eq_false, and_self, *])
      refine ⟨rfl, b, d, room - 1 - (1 + v), many, rfl, hb3, by omega, by omega, hm, hm8, fun g M4 hg hs2 hb4 e4 => ?_⟩
      try (simp only [↓e_seq, ↓e_next, ↓e_break, ↓e_cont, ↓e_expr, ↓e_ret, ↓e_retN, ↓e_if, ↓e_never, ↓e_asg, ↓e_name, ↓e_agtup, ↓e_agcons, ↓e_agnil, ↓e_agsub, ↓e_aug, ↓e_dput, ↓e_var, ↓e_c, ↓e_op, ↓e_some, ↓e_none, ↓e_test, ↓e_and, ↓e_or, ↓e_not, ↓e_yes, ↓e_truth,   ↓e_tru_bl, ↓e_tru_int, ↓e_tru_non, ↓e_tru_str, ↓e_tru_tup, ↓e_tru_obj, ↓e_chain, ↓e_orV, ↓e_andV, ↓e_notV, ↓e_ifE, ↓e_neg, ↓e_nil, ↓e_cons, ↓e_tup, ↓e_lst, ↓e_dnew, ↓e_call, ↓e_cb, ↓e_isi, ↓e_sl, ↓e_onone, ↓e_osome, ↓e_rev, ↓e_lm, ↓e_append, ↓e_extend, ↓e_pop, ↓e_join, ↓e_dget2, ↓e_sortSet, ↓e_sortS, ↓e_setd, strsOf_map, ↓e_maxI, ↓e_disp, ↓e_pairN, ↓e_pairC, intsOf_map, ↓e_for, ↓e_ilist, ↓e_itup, ↓e_rng1, ↓e_rng2, ↓e_lc, ↓e_lc2, e_lc2N, ↓e_ienum, ↓e_izip, ↓e_anyB, ↓e_allB, ↓e_mulS, blsOf_map, ↓e_set0, ↓e_sadd, ↓e_sortTx, ↓e_sortD, ↓e_repr, ↓e_extT, ↓e_sc2, ↓e_sortZ, ↓e_tupVals, ↓e_wget, ↓e_wix, ↓e_listZip, zipD_nil, zipD_cons, ↓e_dgetF, ↓e_idif,   ↓e_add_int, ↓e_add_str, ↓e_add_tup, ↓e_add_obj, ↓e_iadd_int, ↓e_iadd_str, ↓e_iadd_obj, ↓e_I, ↓e_I0, ↓e_IS_int, ↓e_IS_str, ↓e_eq_str, ↓e_ne_str, ↓e_eq_int, ↓e_ne_int, ↓e_eq_bl, ↓e_ne_bl, ↓e_isN, ↓e_notN, ↓e_ix_tup, ↓e_ix_fl, ↓e_ix_str, ↓e_ix_obj, ↓e_in_tup, ↓e_nin_tup, ↓e_len_tup, ↓e_len_fl, ↓e_len_str, ↓e_len_obj, ↓e_int_int, ↓e_tuple_tup, ↓e_tuple_obj, ↓e_list_tup, ↓e_list_obj, ↓e_dget, ↓e_din, ↓e_dnin, ↓e_lstAt, ↓e_dicAt,   e_key_int, e_key_str, e_up, e_ty_str, e_ty_tup, e_ty_int, e_ty_bl, e_ty_non, atI0, atI1, atI2, atI3, atIL, ixN0, ixN1, cut_from1, e_ite_or, e_ite_and, zln, znl, zli, zil, zni, zin, sizeLine_eq, CMul, CDiv, cpow1018, true_or, or_true, kb_strstr, kb_tupstr, kb_tuptup, kb_strtup, kb_inttup, kb_bltup, kb_nontup, kb_strbl, kb_strint, kb_intbl, kb_intint, kb_blbl, kb_blint, kb_nonbl, kb_nonint, kb_nonstr, kb_intstr, kb_blstr, kb_tupbl, kb_tupint,   List.set_cons_zero, List.set_cons_succ, List.set_nil, List.getElem?_cons_zero, List.getElem?_cons_succ, List.getElem?_nil, List.length_cons, List.length_nil, List.length_map, List.length_append, e_lcN, e_lcC, e_forN, e_forC, List.getLast?_concat, List.dropLast_concat, List.nil_append, List.cons_append, List.append_nil, List.append_assoc, List.reverse_cons, List.reverse_nil, List.isEmpty_nil, List.isEmpty_cons, isEmpty_snoc, List.any_cons, List.any_nil, List.all_cons, List.all_nil, flatD, eqF, in_non, in_tup, in_str, in_int, in_bl, in_obj, in_fl, startA, List.map_cons, List.map_nil, List.replicate_succ, List.replicate_zero,   Nat.reduceAdd, Nat.reduceSub, Nat.reduceLeDiff, Nat.zero_add, Int.reduceLE, Int.reduceLT, Int.reduceToNat, Int.reducePow, Int.reduceNeg, Int.reduceAdd, Int.reduceSub,   Option.isSome_some, Option.isSome_none, Bool.not_true, Bool.not_false, Bool.not_eq_true', Bool.not_eq_eq_eq_not, Bool.not_eq_true, Bool.false_eq_true, Bool.true_eq_false, Bool.and_true, Bool.true_and, Bool.or_false, Bool.false_or, Bool.or_true, Bool.true_or, Bool.and_false, Bool.false_and, if_true, if_false, ite_true, ite_false, reduceIte, reduceCtorEq, decide_true, decide_false, decide_eq_true_eq, decide_eq_false_iff_not, true_and, and_true, eq_self, ne_eq, not_false_eq_true, not_true_eq_false, and_self, *])
      exact q (.im f g) M4 ⟨hf, hg⟩ (by show ((f.sz + g.sz + 1 : Nat) : Int) ≤ room; omega) hb4 (((e1.trans e2).trans e3).trans e4)
def names8 : List Str := [z_a, z_b, z_c, z_d, z_e, z_f, z_g, z_h]
theorem L8_names {s : Str} (h : L8 s) : s ∈ names8 := by
  obtain ⟨c, hc, rfl⟩ := h
  have all : ∀ c ∈ lets8, (⟨#[c]⟩ : Str) ∈ names8 := by decide +kernel
  exact all c hc
theorem atI_any {α : Type} {xs : List α} {i : Int} (h0 : 0 ≤ i) (h : i < (xs.length : Int)) : ∃ x, atI xs i = some x ∧ xs[i.toNat]? = some x := by
  have hk : i.toNat < xs.length := by omega
  have e : i = ((i.toNat : Nat) : Int) := by omega
  refine ⟨xs[i.toNat], ?_, List.getElem?_eq_getElem hk⟩
  have z : atI xs ((i.toNat : Nat) : Int) = xs[i.toNat]? := atIn
  rw [← e, List.getElem?_eq_getElem hk] at z
  exact z
mutual
def D.dep : D → Nat
  | .tup ds => D.deps ds + 1
  | _ => 0
def D.deps : List D → Nat
  | [] => 0
  | d :: r => max d.dep (D.deps r)
end
mutual
def D.plain : D → Prop
  | .tup ds => ds.length ≤ 1000000 ∧ D.plains ds
  | .obj _ => False
  | .fl _ => False
  | _ => True
def D.plains : List D → Prop
  | [] => True
  | d :: r => d.plain ∧ D.plains r
end
theorem deps_mem : ∀ {ds : List D} {i : Nat} {d : D}, ds[i]? = some d → d.dep ≤ D.deps ds
  | [], _, _, e => by simp at e
  | d :: r, 0, _, e => by cases (Option.some.inj e); exact Nat.le_max_left _ _
  | d :: r, i + 1, _, e => Nat.le_trans (deps_mem (ds := r) (i := i) e) (Nat.le_max_right _ _)
theorem plains_mem : ∀ {ds : List D} {i : Nat} {d : D}, ds[i]? = some d → D.plains ds → d.plain
  | [], _, _, e, _ => by simp at e
  | d :: r, 0, _, e, h => by cases (Option.some.inj e); exact h.1
  | d :: r, i + 1, _, e, h => plains_mem (ds := r) (i := i) e h.2
theorem Fm.plain : ∀ f : Fm, f.d.plain
  | .lt _ => ⟨(by show 2 ≤ 1000000; omega), trivial, trivial, trivial⟩
  | .ng p => ⟨(by show 2 ≤ 1000000; omega), trivial, Fm.plain p, trivial⟩
  | .im p q => ⟨(by show 3 ≤ 1000000; omega), trivial, Fm.plain p, Fm.plain q, trivial⟩
theorem Fm.dep : ∀ f : Fm, f.d.dep ≤ f.sz
  | .lt _ => Nat.le_refl _
  | .ng p => by
    have h := Fm.dep p
    show max 0 (max p.d.dep 0) + 1 ≤ p.sz + 1
    omega
  | .im p q => by
    have h := Fm.dep p
    have h2 := Fm.dep q
    show max 0 (max p.d.dep (max q.d.dep 0)) + 1 ≤ p.sz + q.sz + 1
    omega
def A_same (L : Nat) : ASp := fun ds M Q _ => ∃ x, ds = [x, x] ∧ x.plain ∧ x.dep < L ∧ Q (.bl true) M
theorem p__law_same (L : Nat) (ds : List D) (M : Sto) (Q : D → Sto → Prop) (Xa) (hl : ds.length = 2) (h : A_same (L + 1) ds M Q Xa) : a__law_same (A_same L) ax0 (Done Q) (startA ["actual", "expected", "k"] ds) M := by
  obtain ⟨x, rfl, hp, hd, q⟩ := h
  unfold a__law_same
  cases x with
  | non => try (simp only [↓e_seq, ↓e_next, ↓e_break, ↓e_cont, ↓e_expr, ↓e_ret, ↓e_retN, ↓e_if, ↓e_never, ↓e_asg, ↓e_name, ↓e_agtup, ↓e_agcons, ↓e_agnil, ↓e_agsub, ↓e_aug, ↓e_dput, ↓e_var, ↓e_c, ↓e_op, ↓e_some, ↓e_none, ↓e_test, ↓e_and, ↓e_or, ↓e_not, ↓e_yes, ↓e_truth,   ↓e_tru_bl, ↓e_tru_int, ↓e_tru_non, ↓e_tru_str, ↓e_tru_tup, ↓e_tru_obj, ↓e_chain, ↓e_orV, ↓e_andV, ↓e_notV, ↓e_ifE, ↓e_neg, ↓e_nil, ↓e_cons, ↓e_tup, ↓e_lst, ↓e_dnew, ↓e_call, ↓e_cb, ↓e_isi, ↓e_sl, ↓e_onone, ↓e_osome, ↓e_rev, ↓e_lm, ↓e_append, ↓e_extend, ↓e_pop, ↓e_join, ↓e_dget2, ↓e_sortSet, ↓e_sortS, ↓e_setd, strsOf_map, ↓e_maxI, ↓e_disp, ↓e_pairN, ↓e_pairC, intsOf_map, ↓e_for, ↓e_ilist, ↓e_itup, ↓e_rng1, ↓e_rng2, ↓e_lc, ↓e_lc2, e_lc2N, ↓e_ienum, ↓e_izip, ↓e_anyB, ↓e_allB, ↓e_mulS, blsOf_map, ↓e_set0, ↓e_sadd, ↓e_sortTx, ↓e_sortD, ↓e_repr, ↓e_extT, ↓e_sc2, ↓e_sortZ, ↓e_tupVals, ↓e_wget, ↓e_wix, ↓e_listZip, zipD_nil, zipD_cons, ↓e_dgetF, ↓e_idif,   ↓e_add_int, ↓e_add_str, ↓e_add_tup, ↓e_add_obj, ↓e_iadd_int, ↓e_iadd_str, ↓e_iadd_obj, ↓e_I, ↓e_I0, ↓e_IS_int, ↓e_IS_str, ↓e_eq_str, ↓e_ne_str, ↓e_eq_int, ↓e_ne_int, ↓e_eq_bl, ↓e_ne_bl, ↓e_isN, ↓e_notN, ↓e_ix_tup, ↓e_ix_fl, ↓e_ix_str, ↓e_ix_obj, ↓e_in_tup, ↓e_nin_tup, ↓e_len_tup, ↓e_len_fl, ↓e_len_str, ↓e_len_obj, ↓e_int_int, ↓e_tuple_tup, ↓e_tuple_obj, ↓e_list_tup, ↓e_list_obj, ↓e_dget, ↓e_din, ↓e_dnin, ↓e_lstAt, ↓e_dicAt,   e_key_int, e_key_str, e_up, e_ty_str, e_ty_tup, e_ty_int, e_ty_bl, e_ty_non, atI0, atI1, atI2, atI3, atIL, ixN0, ixN1, cut_from1, e_ite_or, e_ite_and, zln, znl, zli, zil, zni, zin, sizeLine_eq, CMul, CDiv, cpow1018, true_or, or_true, kb_strstr, kb_tupstr, kb_tuptup, kb_strtup, kb_inttup, kb_bltup, kb_nontup, kb_strbl, kb_strint, kb_intbl, kb_intint, kb_blbl, kb_blint, kb_nonbl, kb_nonint, kb_nonstr, kb_intstr, kb_blstr, kb_tupbl, kb_tupint,   List.set_cons_zero, List.set_cons_succ, List.set_nil, List.getElem?_cons_zero, List.getElem?_cons_succ, List.getElem?_nil, List.length_cons, List.length_nil, List.length_map, List.length_append, e_lcN, e_lcC, e_forN, e_forC, List.getLast?_concat, List.dropLast_concat, List.nil_append, List.cons_append, List.append_nil, List.append_assoc, List.reverse_cons, List.reverse_nil, List.isEmpty_nil, List.isEmpty_cons, isEmpty_snoc, List.any_cons, List.any_nil, List.all_cons, List.all_nil, flatD, eqF, in_non, in_tup, in_str, in_int, in_bl, in_obj, in_fl, startA, List.map_cons, List.map_nil, List.replicate_succ, List.replicate_zero,   Nat.reduceAdd, Nat.reduceSub, Nat.reduceLeDiff, Nat.zero_add, Int.reduceLE, Int.reduceLT, Int.reduceToNat, Int.reducePow, Int.reduceNeg, Int.reduceAdd, Int.reduceSub,   Option.isSome_some, Option.isSome_none, Bool.not_true, Bool.not_false, Bool.not_eq_true', Bool.not_eq_eq_eq_not, Bool.not_eq_true, Bool.false_eq_true, Bool.true_eq_false, Bool.and_true, Bool.true_and, Bool.or_false, Bool.false_or, Bool.or_true, Bool.true_or, Bool.and_false, Bool.false_and, if_true, if_false, ite_true, ite_false, reduceIte, reduceCtorEq, decide_true, decide_false, decide_eq_true_eq, decide_eq_false_iff_not, true_and, and_true, eq_self, ne_eq, not_false_eq_true, not_true_eq_false, and_self, *])
  | bl b => try (simp only [↓e_seq, ↓e_next, ↓e_break, ↓e_cont, ↓e_expr, ↓e_ret, ↓e_retN, ↓e_if, ↓e_never, ↓e_asg, ↓e_name, ↓e_agtup, ↓e_agcons, ↓e_agnil, ↓e_agsub, ↓e_aug, ↓e_dput, ↓e_var, ↓e_c, ↓e_op, ↓e_some, ↓e_none, ↓e_test, ↓e_and, ↓e_or, ↓e_not, ↓e_yes, ↓e_truth,   ↓e_tru_bl, ↓e_tru_int, ↓e_tru_non, ↓e_tru_str, ↓e_tru_tup, ↓e_tru_obj, ↓e_chain, ↓e_orV, ↓e_andV, ↓e_notV, ↓e_ifE, ↓e_neg, ↓e_nil, ↓e_cons, ↓e_tup, ↓e_lst, ↓e_dnew, ↓e_call, ↓e_cb, ↓e_isi, ↓e_sl, ↓e_onone, ↓e_osome, ↓e_rev, ↓e_lm, ↓e_append, ↓e_extend, ↓e_pop, ↓e_join, ↓e_dget2, ↓e_sortSet, ↓e_sortS, ↓e_setd, strsOf_map, ↓e_maxI, ↓e_disp, ↓e_pairN, ↓e_pairC, intsOf_map, ↓e_for, ↓e_ilist, ↓e_itup, ↓e_rng1, ↓e_rng2, ↓e_lc, ↓e_lc2, e_lc2N, ↓e_ienum, ↓e_izip, ↓e_anyB, ↓e_allB, ↓e_mulS, blsOf_map, ↓e_set0, ↓e_sadd, ↓e_sortTx, ↓e_sortD, ↓e_repr, ↓e_extT, ↓e_sc2, ↓e_sortZ, ↓e_tupVals, ↓e_wget, ↓e_wix, ↓e_listZip, zipD_nil, zipD_cons, ↓e_dgetF, ↓e_idif,   ↓e_add_int, ↓e_add_str, ↓e_add_tup, ↓e_add_obj, ↓e_iadd_int, ↓e_iadd_str, ↓e_iadd_obj, ↓e_I, ↓e_I0, ↓e_IS_int, ↓e_IS_str, ↓e_eq_str, ↓e_ne_str, ↓e_eq_int, ↓e_ne_int, ↓e_eq_bl, ↓e_ne_bl, ↓e_isN, ↓e_notN, ↓e_ix_tup, ↓e_ix_fl, ↓e_ix_str, ↓e_ix_obj, ↓e_in_tup, ↓e_nin_tup, ↓e_len_tup, ↓e_len_fl, ↓e_len_str, ↓e_len_obj, ↓e_int_int, ↓e_tuple_tup, ↓e_tuple_obj, ↓e_list_tup, ↓e_list_obj, ↓e_dget, ↓e_din, ↓e_dnin, ↓e_lstAt, ↓e_dicAt,   e_key_int, e_key_str, e_up, e_ty_str, e_ty_tup, e_ty_int, e_ty_bl, e_ty_non, atI0, atI1, atI2, atI3, atIL, ixN0, ixN1, cut_from1, e_ite_or, e_ite_and, zln, znl, zli, zil, zni, zin, sizeLine_eq, CMul, CDiv, cpow1018, true_or, or_true, kb_strstr, kb_tupstr, kb_tuptup, kb_strtup, kb_inttup, kb_bltup, kb_nontup, kb_strbl, kb_strint, kb_intbl, kb_intint, kb_blbl, kb_blint, kb_nonbl, kb_nonint, kb_nonstr, kb_intstr, kb_blstr, kb_tupbl, kb_tupint,   List.set_cons_zero, List.set_cons_succ, List.set_nil, List.getElem?_cons_zero, List.getElem?_cons_succ, List.getElem?_nil, List.length_cons, List.length_nil, List.length_map, List.length_append, e_lcN, e_lcC, e_forN, e_forC, List.getLast?_concat, List.dropLast_concat, List.nil_append, List.cons_append, List.append_nil, List.append_assoc, List.reverse_cons, List.reverse_nil, List.isEmpty_nil, List.isEmpty_cons, isEmpty_snoc, List.any_cons, List.any_nil, List.all_cons, List.all_nil, flatD, eqF, in_non, in_tup, in_str, in_int, in_bl, in_obj, in_fl, startA, List.map_cons, List.map_nil, List.replicate_succ, List.replicate_zero,   Nat.reduceAdd, Nat.reduceSub, Nat.reduceLeDiff, Nat.zero_add, Int.reduceLE, Int.reduceLT, Int.reduceToNat, Int.reducePow, Int.reduceNeg, Int.reduceAdd, Int.reduceSub,   Option.isSome_some, Option.isSome_none, Bool.not_true, Bool.not_false, Bool.not_eq_true', Bool.not_eq_eq_eq_not, Bool.not_eq_true, Bool.false_eq_true, Bool.true_eq_false, Bool.and_true, Bool.true_and, Bool.or_false, Bool.false_or, Bool.or_true, Bool.true_or, Bool.and_false, Bool.false_and, if_true, if_false, ite_true, ite_false, reduceIte, reduceCtorEq, decide_true, decide_false, decide_eq_true_eq, decide_eq_false_iff_not, true_and, and_true, eq_self, ne_eq, not_false_eq_true, not_true_eq_false, and_self, *])
  | int i => try (simp only [↓e_seq, ↓e_next, ↓e_break, ↓e_cont, ↓e_expr, ↓e_ret, ↓e_retN, ↓e_if, ↓e_never, ↓e_asg, ↓e_name, ↓e_agtup, ↓e_agcons, ↓e_agnil, ↓e_agsub, ↓e_aug, ↓e_dput, ↓e_var, ↓e_c, ↓e_op, ↓e_some, ↓e_none, ↓e_test, ↓e_and, ↓e_or, ↓e_not, ↓e_yes, ↓e_truth,   ↓e_tru_bl, ↓e_tru_int, ↓e_tru_non, ↓e_tru_str, ↓e_tru_tup, ↓e_tru_obj, ↓e_chain, ↓e_orV, ↓e_andV, ↓e_notV, ↓e_ifE, ↓e_neg, ↓e_nil, ↓e_cons, ↓e_tup, ↓e_lst, ↓e_dnew, ↓e_call, ↓e_cb, ↓e_isi, ↓e_sl, ↓e_onone, ↓e_osome, ↓e_rev, ↓e_lm, ↓e_append, ↓e_extend, ↓e_pop, ↓e_join, ↓e_dget2, ↓e_sortSet, ↓e_sortS, ↓e_setd, strsOf_map, ↓e_maxI, ↓e_disp, ↓e_pairN, ↓e_pairC, intsOf_map, ↓e_for, ↓e_ilist, ↓e_itup, ↓e_rng1, ↓e_rng2, ↓e_lc, ↓e_lc2, e_lc2N, ↓e_ienum, ↓e_izip, ↓e_anyB, ↓e_allB, ↓e_mulS, blsOf_map, ↓e_set0, ↓e_sadd, ↓e_sortTx, ↓e_sortD, ↓e_repr, ↓e_extT, ↓e_sc2, ↓e_sortZ, ↓e_tupVals, ↓e_wget, ↓e_wix, ↓e_listZip, zipD_nil, zipD_cons, ↓e_dgetF, ↓e_idif,   ↓e_add_int, ↓e_add_str, ↓e_add_tup, ↓e_add_obj, ↓e_iadd_int, ↓e_iadd_str, ↓e_iadd_obj, ↓e_I, ↓e_I0, ↓e_IS_int, ↓e_IS_str, ↓e_eq_str, ↓e_ne_str, ↓e_eq_int, ↓e_ne_int, ↓e_eq_bl, ↓e_ne_bl, ↓e_isN, ↓e_notN, ↓e_ix_tup, ↓e_ix_fl, ↓e_ix_str, ↓e_ix_obj, ↓e_in_tup, ↓e_nin_tup, ↓e_len_tup, ↓e_len_fl, ↓e_len_str, ↓e_len_obj, ↓e_int_int, ↓e_tuple_tup, ↓e_tuple_obj, ↓e_list_tup, ↓e_list_obj, ↓e_dget, ↓e_din, ↓e_dnin, ↓e_lstAt, ↓e_dicAt,   e_key_int, e_key_str, e_up, e_ty_str, e_ty_tup, e_ty_int, e_ty_bl, e_ty_non, atI0, atI1, atI2, atI3, atIL, ixN0, ixN1, cut_from1, e_ite_or, e_ite_and, zln, znl, zli, zil, zni, zin, sizeLine_eq, CMul, CDiv, cpow1018, true_or, or_true, kb_strstr, kb_tupstr, kb_tuptup, kb_strtup, kb_inttup, kb_bltup, kb_nontup, kb_strbl, kb_strint, kb_intbl, kb_intint, kb_blbl, kb_blint, kb_nonbl, kb_nonint, kb_nonstr, kb_intstr, kb_blstr, kb_tupbl, kb_tupint,   List.set_cons_zero, List.set_cons_succ, List.set_nil, List.getElem?_cons_zero, List.getElem?_cons_succ, List.getElem?_nil, List.length_cons, List.length_nil, List.length_map, List.length_append, e_lcN, e_lcC, e_forN, e_forC, List.getLast?_concat, List.dropLast_concat, List.nil_append, List.cons_append, List.append_nil, List.append_assoc, List.reverse_cons, List.reverse_nil, List.isEmpty_nil, List.isEmpty_cons, isEmpty_snoc, List.any_cons, List.any_nil, List.all_cons, List.all_nil, flatD, eqF, in_non, in_tup, in_str, in_int, in_bl, in_obj, in_fl, startA, List.map_cons, List.map_nil, List.replicate_succ, List.replicate_zero,   Nat.reduceAdd, Nat.reduceSub, Nat.reduceLeDiff, Nat.zero_add, Int.reduceLE, Int.reduceLT, Int.reduceToNat, Int.reducePow, Int.reduceNeg, Int.reduceAdd, Int.reduceSub,   Option.isSome_some, Option.isSome_none, Bool.not_true, Bool.not_false, Bool.not_eq_true', Bool.not_eq_eq_eq_not, Bool.not_eq_true, Bool.false_eq_true, Bool.true_eq_false, Bool.and_true, Bool.true_and, Bool.or_false, Bool.false_or, Bool.or_true, Bool.true_or, Bool.and_false, Bool.false_and, if_true, if_false, ite_true, ite_false, reduceIte, reduceCtorEq, decide_true, decide_false, decide_eq_true_eq, decide_eq_false_iff_not, true_and, and_true, eq_self, ne_eq, not_false_eq_true, not_true_eq_false, and_self, *])
  | str s => try (simp only [↓e_seq, ↓e_next, ↓e_break, ↓e_cont, ↓e_expr, ↓e_ret, ↓e_retN, ↓e_if, ↓e_never, ↓e_asg, ↓e_name, ↓e_agtup, ↓e_agcons, ↓e_agnil, ↓e_agsub, ↓e_aug, ↓e_dput, ↓e_var, ↓e_c, ↓e_op, ↓e_some, ↓e_none, ↓e_test, ↓e_and, ↓e_or, ↓e_not, ↓e_yes, ↓e_truth,   ↓e_tru_bl, ↓e_tru_int, ↓e_tru_non, ↓e_tru_str, ↓e_tru_tup, ↓e_tru_obj, ↓e_chain, ↓e_orV, ↓e_andV, ↓e_notV, ↓e_ifE, ↓e_neg, ↓e_nil, ↓e_cons, ↓e_tup, ↓e_lst, ↓e_dnew, ↓e_call, ↓e_cb, ↓e_isi, ↓e_sl, ↓e_onone, ↓e_osome, ↓e_rev, ↓e_lm, ↓e_append, ↓e_extend, ↓e_pop, ↓e_join, ↓e_dget2, ↓e_sortSet, ↓e_sortS, ↓e_setd, strsOf_map, ↓e_maxI, ↓e_disp, ↓e_pairN, ↓e_pairC, intsOf_map, ↓e_for, ↓e_ilist, ↓e_itup, ↓e_rng1, ↓e_rng2, ↓e_lc, ↓e_lc2, e_lc2N, ↓e_ienum, ↓e_izip, ↓e_anyB, ↓e_allB, ↓e_mulS, blsOf_map, ↓e_set0, ↓e_sadd, ↓e_sortTx, ↓e_sortD, ↓e_repr, ↓e_extT, ↓e_sc2, ↓e_sortZ, ↓e_tupVals, ↓e_wget, ↓e_wix, ↓e_listZip, zipD_nil, zipD_cons, ↓e_dgetF, ↓e_idif,   ↓e_add_int, ↓e_add_str, ↓e_add_tup, ↓e_add_obj, ↓e_iadd_int, ↓e_iadd_str, ↓e_iadd_obj, ↓e_I, ↓e_I0, ↓e_IS_int, ↓e_IS_str, ↓e_eq_str, ↓e_ne_str, ↓e_eq_int, ↓e_ne_int, ↓e_eq_bl, ↓e_ne_bl, ↓e_isN, ↓e_notN, ↓e_ix_tup, ↓e_ix_fl, ↓e_ix_str, ↓e_ix_obj, ↓e_in_tup, ↓e_nin_tup, ↓e_len_tup, ↓e_len_fl, ↓e_len_str, ↓e_len_obj, ↓e_int_int, ↓e_tuple_tup, ↓e_tuple_obj, ↓e_list_tup, ↓e_list_obj, ↓e_dget, ↓e_din, ↓e_dnin, ↓e_lstAt, ↓e_dicAt,   e_key_int, e_key_str, e_up, e_ty_str, e_ty_tup, e_ty_int, e_ty_bl, e_ty_non, atI0, atI1, atI2, atI3, atIL, ixN0, ixN1, cut_from1, e_ite_or, e_ite_and, zln, znl, zli, zil, zni, zin, sizeLine_eq, CMul, CDiv, cpow1018, true_or, or_true, kb_strstr, kb_tupstr, kb_tuptup, kb_strtup, kb_inttup, kb_bltup, kb_nontup, kb_strbl, kb_strint, kb_intbl, kb_intint, kb_blbl, kb_blint, kb_nonbl, kb_nonint, kb_nonstr, kb_intstr, kb_blstr, kb_tupbl, kb_tupint,   List.set_cons_zero, List.set_cons_succ, List.set_nil, List.getElem?_cons_zero, List.getElem?_cons_succ, List.getElem?_nil, List.length_cons, List.length_nil, List.length_map, List.length_append, e_lcN, e_lcC, e_forN, e_forC, List.getLast?_concat, List.dropLast_concat, List.nil_append, List.cons_append, List.append_nil, List.append_assoc, List.reverse_cons, List.reverse_nil, List.isEmpty_nil, List.isEmpty_cons, isEmpty_snoc, List.any_cons, List.any_nil, List.all_cons, List.all_nil, flatD, eqF, in_non, in_tup, in_str, in_int, in_bl, in_obj, in_fl, startA, List.map_cons, List.map_nil, List.replicate_succ, List.replicate_zero,   Nat.reduceAdd, Nat.reduceSub, Nat.reduceLeDiff, Nat.zero_add, Int.reduceLE, Int.reduceLT, Int.reduceToNat, Int.reducePow, Int.reduceNeg, Int.reduceAdd, Int.reduceSub,   Option.isSome_some, Option.isSome_none, Bool.not_true, Bool.not_false, Bool.not_eq_true', Bool.not_eq_eq_eq_not, Bool.not_eq_true, Bool.false_eq_true, Bool.true_eq_false, Bool.and_true, Bool.true_and, Bool.or_false, Bool.false_or, Bool.or_true, Bool.true_or, Bool.and_false, Bool.false_and, if_true, if_false, ite_true, ite_false, reduceIte, reduceCtorEq, decide_true, decide_false, decide_eq_true_eq, decide_eq_false_iff_not, true_and, and_true, eq_self, ne_eq, not_false_eq_true, not_true_eq_false, and_self, *])
  | obj a => exact hp.elim
  | fl a => exact hp.elim
  | tup xs =>
    have hx := hp.1
    have hdd : D.deps xs + 1 < L + 1 := hd
    try (simp only [↓e_seq, ↓e_next, ↓e_break, ↓e_cont, ↓e_expr, ↓e_ret, ↓e_retN, ↓e_if, ↓e_never, ↓e_asg, ↓e_name, ↓e_agtup, ↓e_agcons, ↓e_agnil, ↓e_agsub, ↓e_aug, ↓e_dput, ↓e_var, ↓e_c, ↓e_op, ↓e_some, ↓e_none, ↓e_test, ↓e_and, ↓e_or, ↓e_not, ↓e_yes, ↓e_truth,   ↓e_tru_bl, ↓e_tru_int, ↓e_tru_non, ↓e_tru_str, ↓e_tru_tup, ↓e_tru_obj, ↓e_chain, ↓e_orV, ↓e_andV, ↓e_notV, ↓e_ifE, ↓e_neg, ↓e_nil, ↓e_cons, ↓e_tup, ↓e_lst, ↓e_dnew, ↓e_call, ↓e_cb, ↓e_isi, ↓e_sl, ↓e_onone, ↓e_osome, ↓e_rev, ↓e_lm, ↓e_append, ↓e_extend, ↓e_pop, ↓e_join, ↓e_dget2, ↓e_sortSet, ↓e_sortS, ↓e_setd, strsOf_map, ↓e_maxI, ↓e_disp, ↓e_pairN, ↓e_pairC, intsOf_map, ↓e_for, ↓e_ilist, ↓e_itup, ↓e_rng1, ↓e_rng2, ↓e_lc, ↓e_lc2, e_lc2N, ↓e_ienum, ↓e_izip, ↓e_anyB, ↓e_allB, ↓e_mulS, blsOf_map, ↓e_set0, ↓e_sadd, ↓e_sortTx, ↓e_sortD, ↓e_repr, ↓e_extT, ↓e_sc2, ↓e_sortZ, ↓e_tupVals, ↓e_wget, ↓e_wix, ↓e_listZip, zipD_nil, zipD_cons, ↓e_dgetF, ↓e_idif,   ↓e_add_int, ↓e_add_str, ↓e_add_tup, ↓e_add_obj, ↓e_iadd_int, ↓e_iadd_str, ↓e_iadd_obj, ↓e_I, ↓e_I0, ↓e_IS_int, ↓e_IS_str, ↓e_eq_str, ↓e_ne_str, ↓e_eq_int, ↓e_ne_int, ↓e_eq_bl, ↓e_ne_bl, ↓e_isN, ↓e_notN, ↓e_ix_tup, ↓e_ix_fl, ↓e_ix_str, ↓e_ix_obj, ↓e_in_tup, ↓e_nin_tup, ↓e_len_tup, ↓e_len_fl, ↓e_len_str, ↓e_len_obj, ↓e_int_int, ↓e_tuple_tup, ↓e_tuple_obj, ↓e_list_tup, ↓e_list_obj, ↓e_dget, ↓e_din, ↓e_dnin, ↓e_lstAt, ↓e_dicAt,   e_key_int, e_key_str, e_up, e_ty_str, e_ty_tup, e_ty_int, e_ty_bl, e_ty_non, atI0, atI1, atI2, atI3, atIL, ixN0, ixN1, cut_from1, e_ite_or, e_ite_and, zln, znl, zli, zil, zni, zin, sizeLine_eq, CMul, CDiv, cpow1018, true_or, or_true, kb_strstr, kb_tupstr, kb_tuptup, kb_strtup, kb_inttup, kb_bltup, kb_nontup, kb_strbl, kb_strint, kb_intbl, kb_intint, kb_blbl, kb_blint, kb_nonbl, kb_nonint, kb_nonstr, kb_intstr, kb_blstr, kb_tupbl, kb_tupint,   List.set_cons_zero, List.set_cons_succ, List.set_nil, List.getElem?_cons_zero, List.getElem?_cons_succ, List.getElem?_nil, List.length_cons, List.length_nil, List.length_map, List.length_append, e_lcN, e_lcC, e_forN, e_forC, List.getLast?_concat, List.dropLast_concat, List.nil_append, List.cons_append, List.append_nil, List.append_assoc, List.reverse_cons, List.reverse_nil, List.isEmpty_nil, List.isEmpty_cons, isEmpty_snoc, List.any_cons, List.any_nil, List.all_cons, List.all_nil, flatD, eqF, in_non, in_tup, in_str, in_int, in_bl, in_obj, in_fl, startA, List.map_cons, List.map_nil, List.replicate_succ, List.replicate_zero,   Nat.reduceAdd, Nat.reduceSub, Nat.reduceLeDiff, Nat.zero_add, Int.reduceLE, Int.reduceLT, Int.reduceToNat, Int.reducePow, Int.reduceNeg, Int.reduceAdd, Int.reduceSub,   Option.isSome_some, Option.isSome_none, Bool.not_true, Bool.not_false, Bool.not_eq_true', Bool.not_eq_eq_eq_not, Bool.not_eq_true, Bool.false_eq_true, Bool.true_eq_false, Bool.and_true, Bool.true_and, Bool.or_false, Bool.false_or, Bool.or_true, Bool.true_or, Bool.and_false, Bool.false_and, if_true, if_false, ite_true, ite_false, reduceIte, reduceCtorEq, decide_true, decide_false, decide_eq_true_eq, decide_eq_false_iff_not, true_and, and_true, eq_self, ne_eq, not_false_eq_true, not_true_eq_false, and_self, *])
    refine ⟨by omega, by omega, ?_⟩
    refine for_run (fun ds env M' => ∃ lo m x2, ds = rngD lo m ∧ env = [some (.tup xs), some (.tup xs), x2] ∧ 0 ≤ lo ∧ lo + m = xs.length ∧ M' = M) (fun _ _ _ _ => trivial) ?_ ?_ ⟨0, _, none, rfl, rfl, by omega, by omega, rfl⟩
    · rintro env M' ⟨lo, m, x2, _, rfl, _, _, rfl⟩
      try (simp only [↓e_seq, ↓e_next, ↓e_break, ↓e_cont, ↓e_expr, ↓e_ret, ↓e_retN, ↓e_if, ↓e_never, ↓e_asg, ↓e_name, ↓e_agtup, ↓e_agcons, ↓e_agnil, ↓e_agsub, ↓e_aug, ↓e_dput, ↓e_var, ↓e_c, ↓e_op, ↓e_some, ↓e_none, ↓e_test, ↓e_and, ↓e_or, ↓e_not, ↓e_yes, ↓e_truth,   ↓e_tru_bl, ↓e_tru_int, ↓e_tru_non, ↓e_tru_str, ↓e_tru_tup, ↓e_tru_obj, ↓e_chain, ↓e_orV, ↓e_andV, ↓e_notV, ↓e_ifE, ↓e_neg, ↓e_nil, ↓e_cons, ↓e_tup, ↓e_lst, ↓e_dnew, ↓e_call, ↓e_cb, ↓e_isi, ↓e_sl, ↓e_onone, ↓e_osome, ↓e_rev, ↓e_lm, ↓e_append, ↓e_extend, ↓e_pop, ↓e_join, ↓e_dget2, ↓e_sortSet, ↓e_sortS, ↓e_setd, strsOf_map, ↓e_maxI, ↓e_disp, ↓e_pairN, ↓e_pairC, intsOf_map, ↓e_for, ↓e_ilist, ↓e_itup, ↓e_rng1, ↓e_rng2, ↓e_lc, ↓e_lc2, e_lc2N, ↓e_ienum, ↓e_izip, ↓e_anyB, ↓e_allB, ↓e_mulS, blsOf_map, ↓e_set0, ↓e_sadd, ↓e_sortTx, ↓e_sortD, ↓e_repr, ↓e_extT, ↓e_sc2, ↓e_sortZ, ↓e_tupVals, ↓e_wget, ↓e_wix, ↓e_listZip, zipD_nil, zipD_cons, ↓e_dgetF, ↓e_idif,   ↓e_add_int, ↓e_add_str, ↓e_add_tup, ↓e_add_obj, ↓e_iadd_int, ↓e_iadd_str, ↓e_iadd_obj, ↓e_I, ↓e_I0, ↓e_IS_int, ↓e_IS_str, ↓e_eq_str, ↓e_ne_str, ↓e_eq_int, ↓e_ne_int, ↓e_eq_bl, ↓e_ne_bl, ↓e_isN, ↓e_notN, ↓e_ix_tup, ↓e_ix_fl, ↓e_ix_str, ↓e_ix_obj, ↓e_in_tup, ↓e_nin_tup, ↓e_len_tup, ↓e_len_fl, ↓e_len_str, ↓e_len_obj, ↓e_int_int, ↓e_tuple_tup, ↓e_tuple_obj, ↓e_list_tup, ↓e_list_obj, ↓e_dget, ↓e_din, ↓e_dnin, ↓e_lstAt, ↓e_dicAt,   e_key_int, e_key_str, e_up, e_ty_str, e_ty_tup, e_ty_int, e_ty_bl, e_ty_non, atI0, atI1, atI2, atI3, atIL, ixN0, ixN1, cut_from1, e_ite_or, e_ite_and, zln, znl, zli, zil, zni, zin, sizeLine_eq, CMul, CDiv, cpow1018, true_or, or_true, kb_strstr, kb_tupstr, kb_tuptup, kb_strtup, kb_inttup, kb_bltup, kb_nontup, kb_strbl, kb_strint, kb_intbl, kb_intint, kb_blbl, kb_blint, kb_nonbl, kb_nonint, kb_nonstr, kb_intstr, kb_blstr, kb_tupbl, kb_tupint,   List.set_cons_zero, List.set_cons_succ, List.set_nil, List.getElem?_cons_zero, List.getElem?_cons_succ, List.getElem?_nil, List.length_cons, List.length_nil, List.length_map, List.length_append, e_lcN, e_lcC, e_forN, e_forC, List.getLast?_concat, List.dropLast_concat, List.nil_append, List.cons_append, List.append_nil, List.append_assoc, List.reverse_cons, List.reverse_nil, List.isEmpty_nil, List.isEmpty_cons, isEmpty_snoc, List.any_cons, List.any_nil, List.all_cons, List.all_nil, flatD, eqF, in_non, in_tup, in_str, in_int, in_bl, in_obj, in_fl, startA, List.map_cons, List.map_nil, List.replicate_succ, List.replicate_zero,   Nat.reduceAdd, Nat.reduceSub, Nat.reduceLeDiff, Nat.zero_add, Int.reduceLE, Int.reduceLT, Int.reduceToNat, Int.reducePow, Int.reduceNeg, Int.reduceAdd, Int.reduceSub,   Option.isSome_some, Option.isSome_none, Bool.not_true, Bool.not_false, Bool.not_eq_true', Bool.not_eq_eq_eq_not, Bool.not_eq_true, Bool.false_eq_true, Bool.true_eq_false, Bool.and_true, Bool.true_and, Bool.or_false, Bool.false_or, Bool.or_true, Bool.true_or, Bool.and_false, Bool.false_and, if_true, if_false, ite_true, ite_false, reduceIte, reduceCtorEq, decide_true, decide_false, decide_eq_true_eq, decide_eq_false_iff_not, true_and, and_true, eq_self, ne_eq, not_false_eq_true, not_true_eq_false, and_self, *])
    · rintro d r N env M' ⟨lo, m, x2, hd2, rfl, hlo, hm, rfl⟩ next
      obtain ⟨m, rfl, rfl, rfl⟩ := rngD_cons hd2.symm
      obtain ⟨x, hat, hget⟩ := atI_any (xs := xs) hlo (by omega)
      try (simp only [↓e_seq, ↓e_next, ↓e_break, ↓e_cont, ↓e_expr, ↓e_ret, ↓e_retN, ↓e_if, ↓e_never, ↓e_asg, ↓e_name, ↓e_agtup, ↓e_agcons, ↓e_agnil, ↓e_agsub, ↓e_aug, ↓e_dput, ↓e_var, ↓e_c, ↓e_op, ↓e_some, ↓e_none, ↓e_test, ↓e_and, ↓e_or, ↓e_not, ↓e_yes, ↓e_truth,   ↓e_tru_bl, ↓e_tru_int, ↓e_tru_non, ↓e_tru_str, ↓e_tru_tup, ↓e_tru_obj, ↓e_chain, ↓e_orV, ↓e_andV, ↓e_notV, ↓e_ifE, ↓e_neg, ↓e_nil, ↓e_cons, ↓e_tup, ↓e_lst, ↓e_dnew, ↓e_call, ↓e_cb, ↓e_isi, ↓e_sl, ↓e_onone, ↓e_osome, ↓e_rev, ↓e_lm, ↓e_append, ↓e_extend, ↓e_pop, ↓e_join, ↓e_dget2, ↓e_sortSet, ↓e_sortS, ↓e_setd, strsOf_map, ↓e_maxI, ↓e_disp, ↓e_pairN, ↓e_pairC, intsOf_map, ↓e_for, ↓e_ilist, ↓e_itup, ↓e_rng1, ↓e_rng2, ↓e_lc, ↓e_lc2, e_lc2N, ↓e_ienum, ↓e_izip, ↓e_anyB, ↓e_allB, ↓e_mulS, blsOf_map, ↓e_set0, ↓e_sadd, ↓e_sortTx, ↓e_sortD, ↓e_repr, ↓e_extT, ↓e_sc2, ↓e_sortZ, ↓e_tupVals, ↓e_wget, ↓e_wix, ↓e_listZip, zipD_nil, zipD_cons, ↓e_dgetF, ↓e_idif,   ↓e_add_int, ↓e_add_str, ↓e_add_tup, ↓e_add_obj, ↓e_iadd_int, ↓e_iadd_str, ↓e_iadd_obj, ↓e_I, ↓e_I0, ↓e_IS_int, ↓e_IS_str, ↓e_eq_str, ↓e_ne_str, ↓e_eq_int, ↓e_ne_int, ↓e_eq_bl, ↓e_ne_bl, ↓e_isN, ↓e_notN, ↓e_ix_tup, ↓e_ix_fl, ↓e_ix_str, ↓e_ix_obj, ↓e_in_tup, ↓e_nin_tup, ↓e_len_tup, ↓e_len_fl, ↓e_len_str, ↓e_len_obj, ↓e_int_int, ↓e_tuple_tup, ↓e_tuple_obj, ↓e_list_tup, ↓e_list_obj, ↓e_dget, ↓e_din, ↓e_dnin, ↓e_lstAt, ↓e_dicAt,   e_key_int, e_key_str, e_up, e_ty_str, e_ty_tup, e_ty_int, e_ty_bl, e_ty_non, atI0, atI1, atI2, atI3, atIL, ixN0, ixN1, cut_from1, e_ite_or, e_ite_and, zln, znl, zli, zil, zni, zin, sizeLine_eq, CMul, CDiv, cpow1018, true_or, or_true, kb_strstr, kb_tupstr, kb_tuptup, kb_strtup, kb_inttup, kb_bltup, kb_nontup, kb_strbl, kb_strint, kb_intbl, kb_intint, kb_blbl, kb_blint, kb_nonbl, kb_nonint, kb_nonstr, kb_intstr, kb_blstr, kb_tupbl, kb_tupint,   List.set_cons_zero, List.set_cons_succ, List.set_nil, List.getElem?_cons_zero, List.getElem?_cons_succ, List.getElem?_nil, List.length_cons, List.length_nil, List.length_map, List.length_append, e_lcN, e_lcC, e_forN, e_forC, List.getLast?_concat, List.dropLast_concat, List.nil_append, List.cons_append, List.append_nil, List.append_assoc, List.reverse_cons, List.reverse_nil, List.isEmpty_nil, List.isEmpty_cons, isEmpty_snoc, List.any_cons, List.any_nil, List.all_cons, List.all_nil, flatD, eqF, in_non, in_tup, in_str, in_int, in_bl, in_obj, in_fl, startA, List.map_cons, List.map_nil, List.replicate_succ, List.replicate_zero,   Nat.reduceAdd, Nat.reduceSub, Nat.reduceLeDiff, Nat.zero_add, Int.reduceLE, Int.reduceLT, Int.reduceToNat, Int.reducePow, Int.reduceNeg, Int.reduceAdd, Int.reduceSub,   Option.isSome_some, Option.isSome_none, Bool.not_true, Bool.not_false, Bool.not_eq_true', Bool.not_eq_eq_eq_not, Bool.not_eq_true, Bool.false_eq_true, Bool.true_eq_false, Bool.and_true, Bool.true_and, Bool.or_false, Bool.false_or, Bool.or_true, Bool.true_or, Bool.and_false, Bool.false_and, if_true, if_false, ite_true, ite_false, reduceIte, reduceCtorEq, decide_true, decide_false, decide_eq_true_eq, decide_eq_false_iff_not, true_and, and_true, eq_self, ne_eq, not_false_eq_true, not_true_eq_false, and_self, *])
      refine ⟨rfl, _, rfl, plains_mem hget hp.2, Nat.lt_of_le_of_lt (deps_mem hget) (by omega), ?_⟩
      try (simp only [↓e_seq, ↓e_next, ↓e_break, ↓e_cont, ↓e_expr, ↓e_ret, ↓e_retN, ↓e_if, ↓e_never, ↓e_asg, ↓e_name, ↓e_agtup, ↓e_agcons, ↓e_agnil, ↓e_agsub, ↓e_aug, ↓e_dput, ↓e_var, ↓e_c, ↓e_op, ↓e_some, ↓e_none, ↓e_test, ↓e_and, ↓e_or, ↓e_not, ↓e_yes, ↓e_truth,   ↓e_tru_bl, ↓e_tru_int, ↓e_tru_non, ↓e_tru_str, ↓e_tru_tup, ↓e_tru_obj, ↓e_chain, ↓e_orV, ↓e_andV, ↓e_notV, ↓e_ifE, ↓e_neg, ↓e_nil, ↓e_cons, ↓e_tup, ↓e_lst, ↓e_dnew, ↓e_call, ↓e_cb, ↓e_isi, ↓e_sl, ↓e_onone, ↓e_osome, ↓e_rev, ↓e_lm, ↓e_append, ↓e_extend, ↓e_pop, ↓e_join, ↓e_dget2, ↓e_sortSet, ↓e_sortS, ↓e_setd, strsOf_map, ↓e_maxI, ↓e_disp, ↓e_pairN, ↓e_pairC, intsOf_map, ↓e_for, ↓e_ilist, ↓e_itup, ↓e_rng1, ↓e_rng2, ↓e_lc, ↓e_lc2, e_lc2N, ↓e_ienum, ↓e_izip, ↓e_anyB, ↓e_allB, ↓e_mulS, blsOf_map, ↓e_set0, ↓e_sadd, ↓e_sortTx, ↓e_sortD, ↓e_repr, ↓e_extT, ↓e_sc2, ↓e_sortZ, ↓e_tupVals, ↓e_wget, ↓e_wix, ↓e_listZip, zipD_nil, zipD_cons, ↓e_dgetF, ↓e_idif,   ↓e_add_int, ↓e_add_str, ↓e_add_tup, ↓e_add_obj, ↓e_iadd_int, ↓e_iadd_str, ↓e_iadd_obj, ↓e_I, ↓e_I0, ↓e_IS_int, ↓e_IS_str, ↓e_eq_str, ↓e_ne_str, ↓e_eq_int, ↓e_ne_int, ↓e_eq_bl, ↓e_ne_bl, ↓e_isN, ↓e_notN, ↓e_ix_tup, ↓e_ix_fl, ↓e_ix_str, ↓e_ix_obj, ↓e_in_tup, ↓e_nin_tup, ↓e_len_tup, ↓e_len_fl, ↓e_len_str, ↓e_len_obj, ↓e_int_int, ↓e_tuple_tup, ↓e_tuple_obj, ↓e_list_tup, ↓e_list_obj, ↓e_dget, ↓e_din, ↓e_dnin, ↓e_lstAt, ↓e_dicAt,   e_key_int, e_key_str, e_up, e_ty_str, e_ty_tup, e_ty_int, e_ty_bl, e_ty_non, atI0, atI1, atI2, atI3, atIL, ixN0, ixN1, cut_from1, e_ite_or, e_ite_and, zln, znl, zli, zil, zni, zin, sizeLine_eq, CMul, CDiv, cpow1018, true_or, or_true, kb_strstr, kb_tupstr, kb_tuptup, kb_strtup, kb_inttup, kb_bltup, kb_nontup, kb_strbl, kb_strint, kb_intbl, kb_intint, kb_blbl, kb_blint, kb_nonbl, kb_nonint, kb_nonstr, kb_intstr, kb_blstr, kb_tupbl, kb_tupint,   List.set_cons_zero, List.set_cons_succ, List.set_nil, List.getElem?_cons_zero, List.getElem?_cons_succ, List.getElem?_nil, List.length_cons, List.length_nil, List.length_map, List.length_append, e_lcN, e_lcC, e_forN, e_forC, List.getLast?_concat, List.dropLast_concat, List.nil_append, List.cons_append, List.append_nil, List.append_assoc, List.reverse_cons, List.reverse_nil, List.isEmpty_nil, List.isEmpty_cons, isEmpty_snoc, List.any_cons, List.any_nil, List.all_cons, List.all_nil, flatD, eqF, in_non, in_tup, in_str, in_int, in_bl, in_obj, in_fl, startA, List.map_cons, List.map_nil, List.replicate_succ, List.replicate_zero,   Nat.reduceAdd, Nat.reduceSub, Nat.reduceLeDiff, Nat.zero_add, Int.reduceLE, Int.reduceLT, Int.reduceToNat, Int.reducePow, Int.reduceNeg, Int.reduceAdd, Int.reduceSub,   Option.isSome_some, Option.isSome_none, Bool.not_true, Bool.not_false, Bool.not_eq_true', Bool.not_eq_eq_eq_not, Bool.not_eq_true, Bool.false_eq_true, Bool.true_eq_false, Bool.and_true, Bool.true_and, Bool.or_false, Bool.false_or, Bool.or_true, Bool.true_or, Bool.and_false, Bool.false_and, if_true, if_false, ite_true, ite_false, reduceIte, reduceCtorEq, decide_true, decide_false, decide_eq_true_eq, decide_eq_false_iff_not, true_and, and_true, eq_self, ne_eq, not_false_eq_true, not_true_eq_false, and_self, *])
      exact next _ _ ⟨lo + 1, m, _, rfl, rfl, by omega, by omega, rfl⟩

def Fm.py : Fm → PyData
  | .lt s => .tuple [.str z_letter, .str s]
  | .ng p => .tuple [.str z_not, p.py]
  | .im p q => .tuple [.str z_if, p.py, q.py]
theorem Fm.d_py : ∀ f : Fm, f.d.py = some f.py
  | .lt s => rfl
  | .ng p => by
    show (((some (PyData.str z_not)).bind fun a => ((p.d.py).bind fun b => (some []).map fun ps => b :: ps).map fun ps => a :: ps)).map PyData.tuple = _
    rw [Fm.d_py p]
    rfl
  | .im p q => by
    show (((some (PyData.str z_if)).bind fun a => ((p.d.py).bind fun b => (q.d.py.bind fun c => (some []).map fun ps => c :: ps).map fun ps => b :: ps).map fun ps => a :: ps)).map PyData.tuple = _
    rw [Fm.d_py p, Fm.d_py q]
    rfl
theorem zl_ok : PyData.strOk z_letter = true := by decide +kernel
theorem zn_ok : PyData.strOk z_not = true := by decide +kernel
theorem zi_ok : PyData.strOk z_if = true := by decide +kernel
theorem Fm.lay {P : Str → Prop} (hP : ∀ s, P s → PyData.strOk s = true) : ∀ f : Fm, f.All P → f.py.canLay0 = true
  | .lt s, h => by
    show (PyData.strOk z_letter && (PyData.strOk s && true)) = true
    rw [zl_ok, hP s h]
    rfl
  | .ng p, h => by
    show (PyData.strOk z_not && (p.py.canLay0 && true)) = true
    rw [zn_ok, Fm.lay hP p h]
    rfl
  | .im p q, h => by
    show (PyData.strOk z_if && (p.py.canLay0 && (q.py.canLay0 && true))) = true
    rw [zi_ok, Fm.lay hP p h.1, Fm.lay hP q h.2]
    rfl
theorem Fm.pdep : ∀ f : Fm, f.py.depth ≤ f.sz
  | .lt s => Nat.le_refl 1
  | .ng p => by
    have z := Fm.pdep p
    show max 0 (max p.py.depth 0) + 1 ≤ p.sz + 1
    omega
  | .im p q => by
    have z := Fm.pdep p
    have z2 := Fm.pdep q
    show max 0 (max p.py.depth (max q.py.depth 0)) + 1 ≤ p.sz + q.sz + 1
    omega
def Fm.Small (f : Fm) : Prop := f.py.depth ≤ 64 ∧ f.py.canLay0 = true
theorem tag_ne {a b : Str} (h : (a == b) = false) (xs ys : List PyData) : PyData.eqv (.tuple (.str a :: xs)) (.tuple (.str b :: ys)) = false := by
  show ((a == b) && PyData.eqvAll xs ys) = false
  rw [h]
  rfl
theorem Fm.eqv_py : ∀ f g : Fm, PyData.eqv f.py g.py = decide (f = g)
  | .lt s, .lt t => by
    show ((z_letter == z_letter) && ((s == t) && true)) = _
    by_cases h : s = t
    · subst h
      rw [decide_eq_true rfl, beq_self_eq_true, beq_self_eq_true]
      rfl
    · rw [decide_eq_false (fun z => h (by injection z)), show (s == t) = false from beq_eq_false_iff_ne.mpr h, Bool.false_and, Bool.and_false]
  | .ng p, .ng q => by
    show ((z_not == z_not) && (PyData.eqv p.py q.py && true)) = _
    rw [Fm.eqv_py p q, beq_self_eq_true, Bool.true_and, Bool.and_true]
    exact decide_eq_decide.mpr ⟨fun h => by rw [h], fun h => by injection h⟩
  | .im p q, .im p' q' => by
    show ((z_if == z_if) && (PyData.eqv p.py p'.py && (PyData.eqv q.py q'.py && true))) = _
    rw [Fm.eqv_py p p', Fm.eqv_py q q', beq_self_eq_true, Bool.true_and, Bool.and_true, ← Bool.decide_and]
    exact decide_eq_decide.mpr ⟨fun h => by rw [h.1, h.2], fun h => by injection h with h1 h2; exact ⟨h1, h2⟩⟩
  | .lt s, .ng q => by
    exact (tag_ne (a := z_letter) (b := z_not) (by decide +kernel) _ _).trans (decide_eq_false (fun z => by cases z)).symm
  | .lt s, .im p q => by
    exact (tag_ne (a := z_letter) (b := z_if) (by decide +kernel) _ _).trans (decide_eq_false (fun z => by cases z)).symm
  | .ng q, .lt s => by
    exact (tag_ne (a := z_not) (b := z_letter) (by decide +kernel) _ _).trans (decide_eq_false (fun z => by cases z)).symm
  | .ng q, .im p q' => by
    exact (tag_ne (a := z_not) (b := z_if) (by decide +kernel) _ _).trans (decide_eq_false (fun z => by cases z)).symm
  | .im p q, .lt s => by
    exact (tag_ne (a := z_if) (b := z_letter) (by decide +kernel) _ _).trans (decide_eq_false (fun z => by cases z)).symm
  | .im p q, .ng s => by
    exact (tag_ne (a := z_if) (b := z_not) (by decide +kernel) _ _).trans (decide_eq_false (fun z => by cases z)).symm
theorem Fm.Small.shaped {f : Fm} (h : f.Small) : SeqAt.shaped f.py = true := by
  show (f.py.canLay0 && decide (f.py.depth ≤ 64)) = true
  rw [h.2, decide_eq_true h.1]
  rfl
def z_axiom : Str := "axiom"
def z_detach : Str := "detach"
def z_hypothesis : Str := "hypothesis"
/- slots of _law_parts: 0 formula, 1 rows, 2 part -/
/- slots of _law_if: 0 rows, 1 formula, 2 k -/
/- slots of _law_axiom: 0 k, 1 a, 2 b, 3 c, 4 d, 5 axioms -/
/- slots of _law_matches: 0 pattern, 1 formula, 2 found, 3 k -/
/- slots of _law_line_fault: 0 proof, 1 k, 2 formula, 3 why, 4 rule -/
/- slots of _law_fault: 0 proof, 1 k, 2 reason -/
/- slots of _law_pairs: 0 lines, 1 pairs, 2 i, 3 j -/
/- slots of _law_instance: 0 box, 1 lines, 2 axioms, 3 k, 4 table, 5 name -/
/- slots of _law_proof: 0 box, 1 many, 2 axioms, 3 lines, 4 k, 5 kind, 6 pairs, 7 formula, 8 rules, 9 pair, 10 line -/
/- slots of _law_hypotheses: 0 proof, 1 rows, 2 line -/
/- slots of _law_tree_size: 0 proof, 1 sizes, 2 line -/
/- slots of _law_true: 0 formula, 1 row -/
def ifs : Fm → List Fm → Fm
  | f, [] => f
  | f, g :: r => .im f (ifs g r)
def axs : List Fm :=
  let a := Fm.lt z_a; let b := Fm.lt z_b; let c := Fm.lt z_c; let d := Fm.lt z_d
  [.im a (.im b a), .im (.im c (.im b a)) (.im (.im c b) (.im c a)), .im (.im d (.im b a)) (.im b (.im d a)), .im (.im b a) (.im (.ng a) (.ng b)), .im (.ng (.ng a)) a, .im a (.ng (.ng a))]
theorem Fm.Small.ng {p : Fm} (h : (Fm.ng p).Small) : p.Small := by
  have h1 : max 0 (max p.py.depth 0) + 1 ≤ 64 := h.1
  have h2 : (PyData.strOk z_not && (p.py.canLay0 && true)) = true := h.2
  rw [Bool.and_true, Bool.and_eq_true] at h2
  exact ⟨by omega, h2.2⟩
theorem Fm.Small.im {p q : Fm} (h : (Fm.im p q).Small) : p.Small ∧ q.Small := by
  have h1 : max 0 (max p.py.depth (max q.py.depth 0)) + 1 ≤ 64 := h.1
  have h2 : (PyData.strOk z_if && (p.py.canLay0 && (q.py.canLay0 && true))) = true := h.2
  rw [Bool.and_true, Bool.and_eq_true, Bool.and_eq_true] at h2
  exact ⟨⟨by omega, h2.2.1⟩, ⟨by omega, h2.2.2⟩⟩
def Fm.tr (row : List Str) : Fm → Bool
  | .lt s => row.any fun y => decide (y = s)
  | .ng p => !p.tr row
  | .im p q => q.tr row || !p.tr row
inductive Wy where
  | ax (k : Int) | hy | dt (i j : Int)
  deriving DecidableEq
def Wy.d : Wy → D
  | .ax k => .tup [.str z_axiom, .int k]
  | .hy => .tup [.str z_hypothesis]
  | .dt i j => .tup [.str z_detach, .int i, .int j]
abbrev Ln := Fm × Wy
theorem pys_fms : ∀ fs : List Fm, D.pys (fs.map Fm.d) = some (fs.map Fm.py)
  | [] => rfl
  | f :: r => by
    show (f.d.py).bind (fun p => (D.pys (r.map Fm.d)).map fun ps => p :: ps) = _
    rw [Fm.d_py, pys_fms r]
    rfl
theorem layAll_fms : ∀ {fs : List Fm}, (∀ g ∈ fs, g.Small) → PyData.canLayAll0 (fs.map Fm.py) = true
  | [], _ => rfl
  | f :: r, h => by
    show (f.py.canLay0 && PyData.canLayAll0 (r.map Fm.py)) = true
    rw [(h f List.mem_cons_self).2, layAll_fms fun g hg => h g (List.mem_cons_of_mem _ hg)]
    rfl
theorem depAll_fms : ∀ {fs : List Fm}, (∀ g ∈ fs, g.py.depth ≤ 63) → PyData.depthAll (fs.map Fm.py) ≤ 63
  | [], _ => Nat.zero_le _
  | f :: r, h => Nat.max_le.mpr ⟨h f List.mem_cons_self, depAll_fms fun g hg => h g (List.mem_cons_of_mem _ hg)⟩
theorem any_fms (f : Fm) : ∀ fs : List Fm, ((fs.map Fm.py).any fun z => PyData.eqv z f.py) = decide (f ∈ fs)
  | [] => rfl
  | g :: r => by
    rw [List.map_cons, List.any_cons, any_fms f r, Fm.eqv_py, ← Bool.decide_or]
    exact decide_eq_decide.mpr ⟨fun h => h.elim (fun h => h ▸ List.mem_cons_self) (List.mem_cons_of_mem _), fun h => (List.mem_cons.mp h).imp Eq.symm id⟩
def Fm.Tiny (f : Fm) : Prop := f.py.depth ≤ 60 ∧ f.py.canLay0 = true
theorem Fm.Tiny.small {f : Fm} (h : f.Tiny) : f.Small := ⟨by have := h.1; omega, h.2⟩
theorem in_fms {n : Bool} {f : Fm} {fs : List Fm} {a : Addr} {M : Sto} {Q : D → Sto → Prop} (hm : M a = some (.lst (fs.map Fm.d))) (hf : f.Tiny) (hs : ∀ g ∈ fs, g.Tiny) (q : Q (.bl (if n then !decide (f ∈ fs) else decide (f ∈ fs))) M) : ρIn n f.d (.obj a) M Q := by
  show lstAt M a fun ds => _
  unfold lstAt
  rw [hm]
  refine .inr ⟨f.py, fs.map Fm.py, Fm.d_py f, pys_fms fs, hf.small.shaped, ?_, by rw [any_fms]; exact q⟩
  show (PyData.canLayAll0 (fs.map Fm.py) && decide (PyData.depthAll (fs.map Fm.py) + 1 ≤ 64)) = true
  have z := depAll_fms (fs := fs) fun g hg => by have := (hs g hg).1; omega
  rw [layAll_fms fun g hg => (hs g hg).small, decide_eq_true (by omega)]
  rfl
def hyStep (acc : List Fm) (l : Ln) : List Fm := if l.2 = .hy ∧ l.1 ∉ acc then acc ++ [l.1] else acc
def hys (ls : List Ln) : List Fm := ls.foldl hyStep []
theorem L8_ok {s : Str} (h : L8 s) : PyData.strOk s = true := by
  have all : ∀ s ∈ names8, PyData.strOk s = true := by decide +kernel
  exact all s (L8_names h)
def Lg (f : Fm) : Prop := f.sz ≤ 120 ∧ f.py.depth ≤ 12 ∧ f.All L8
def G9 (f : Fm) : Prop := f.sz ≤ 9 ∧ f.All L8
theorem Lg.tiny {f : Fm} (h : Lg f) : f.Tiny := ⟨by have := h.2.1; omega, Fm.lay (fun s h => L8_ok h) f h.2.2⟩
theorem Lg.small {f : Fm} (h : Lg f) : f.Small := h.tiny.small
theorem Lg.im {p q : Fm} (h : Lg (.im p q)) : Lg p ∧ Lg q := by
  have h1 : p.sz + q.sz + 1 ≤ 120 := h.1
  have h2 : max 0 (max p.py.depth (max q.py.depth 0)) + 1 ≤ 12 := h.2.1
  exact ⟨⟨by omega, by omega, h.2.2.1⟩, ⟨by omega, by omega, h.2.2.2⟩⟩
theorem G9.lg {f : Fm} (h : G9 f) : Lg f := ⟨by have := h.1; omega, by have := Fm.pdep f; have := h.1; omega, h.2⟩
theorem G9.small {f : Fm} (h : G9 f) : f.Small := h.lg.small
def InstOf (k : Int) (f : Fm) : Prop := ∃ p σ, p ∈ axs ∧ axs[(k - 1).toNat]? = some p ∧ f = p.sub σ
def TOk (kvs : List (Key × D)) : Prop := ∀ s v, valA kvs (.inr s) = some v → ∃ u, v = Fm.d u ∧ G9 u
theorem TOk.put {kvs : List (Key × D)} {n : Str} {f : Fm} (h : ∀ s v, s ≠ n → valA kvs (.inr s) = some v → ∃ u, v = Fm.d u ∧ G9 u) (hf : G9 f) : TOk (putA kvs (.inr n) f.d) := fun s v hv => by
  rw [valA_put] at hv
  by_cases e : s = n
  · subst e
    rw [if_pos rfl] at hv
    exact ⟨f, (Option.some.inj hv).symm, hf⟩
  · rw [if_neg (fun z => e (Sum.inr.inj z))] at hv
    exact h s v e hv
theorem TOk.sub {kvs : List (Key × D)} (h : TOk kvs) : ∃ σ : Str → Fm, (∀ s, (valA kvs (.inr s)).getD (Fm.lt s).d = (σ s).d) ∧ ∀ s, G9 (σ s) ∨ σ s = .lt s := by
  have one : ∀ s, ∃ u : Fm, (valA kvs (.inr s)).getD (Fm.lt s).d = u.d ∧ (G9 u ∨ u = .lt s) := fun s => by
    cases hv : valA kvs (.inr s) with
    | none => exact ⟨.lt s, rfl, .inr rfl⟩
    | some v =>
      obtain ⟨u, rfl, hu⟩ := h s v hv
      exact ⟨u, rfl, .inl hu⟩
  exact ⟨fun s => Classical.choose (one s), fun s => (Classical.choose_spec (one s)).1, fun s => (Classical.choose_spec (one s)).2⟩
def RightLn (ks : List Int) (ls : List Ln) (k : Nat) (l : Ln) : Prop := match l.2 with
  | .ax n => n ∈ ks ∧ InstOf n l.1
  | .hy => True
  | .dt i j => ∃ (i' j' : Nat) (c : Fm) (w u : Wy), i = (i' : Int) ∧ j = (j' : Int) ∧ i' < k ∧ j' < k ∧ ls[i']? = some (.im c l.1, w) ∧ ls[j']? = some (c, u)
def AllRight (ks : List Int) (ls : List Ln) : Prop := ∀ (k : Nat) (l : Ln), ls[k]? = some l → RightLn ks ls k l
theorem RightLn.app {ks : List Int} {ls r : List Ln} {k : Nat} {l : Ln} (h : RightLn ks ls k l) : RightLn ks (ls ++ r) k l := by
  obtain ⟨f, w⟩ := l
  cases w with
  | ax n => exact h
  | hy => trivial
  | dt i j =>
    obtain ⟨i', j', c, w, u, h1, h2, h3, h4, h5, h6⟩ := h
    have a1 := (List.getElem?_eq_some_iff.mp h5).1
    have a2 := (List.getElem?_eq_some_iff.mp h6).1
    exact ⟨i', j', c, w, u, h1, h2, h3, h4, by rw [List.getElem?_append_left a1]; exact h5, by rw [List.getElem?_append_left a2]; exact h6⟩
theorem AllRight.snoc {ks : List Int} {ls : List Ln} {l : Ln} (h : AllRight ks ls) (hl : RightLn ks ls ls.length l) : AllRight ks (ls ++ [l]) := fun k z hz => by
  by_cases hk : k < ls.length
  · rw [List.getElem?_append_left hk] at hz
    exact (h k z hz).app
  · rw [List.getElem?_append_right (by omega)] at hz
    have e : k - ls.length = 0 := by
      rcases Nat.eq_zero_or_pos (k - ls.length) with e | e
      · exact e
      · rw [List.getElem?_eq_none (by rw [List.length_singleton]; omega)] at hz
        cases hz
    rw [e] at hz
    have hz' : l = z := Option.some.inj hz
    subst hz'
    have e2 : k = ls.length := by omega
    subst e2
    exact hl.app
/- slots of _law_names: 0 formula, 1 part -/
def Fm.lets : Fm → List Str
  | .lt s => [s]
  | .ng p => p.lets
  | .im p q => p.lets ++ q.lets
def z_positive : Str := "positive"
def z_minimal : Str := "minimal"
/- slots of match: 0 pattern, 1 formula, 2 table, 3 waiting, 4 wanted, 5 given -/
/- slots of axiom: 0 k -/
/- slots of is_instance: 0 k, 1 formula, 2 pattern -/
/- slots of numbers: 0 strength -/
/- slots of holds: 0 model, 1 world, 2 formula, 3 strength -/
def a_holds (A_holding : ASp) : ATS :=
    (aRet (aOp ρIx (aCall 3 A_holding (aCons (aVar 0) (aCons (aVar 2) (aCons (aVar 3) aNil)))) (aVar 1)))
/- slots of holding: 0 model, 1 formula, 2 strength, 3 _, 4 later, 5 true, 6 broken, 7 conditions, 8 consequences, 9 faults, 10 held, 11 first, 12 second, 13 world, 14 formulas, 15 seen -/
def a_holding (A_holding : ASp) : ATS :=
    (aSeq (aAsg (aVar 0) (agTup 4 (agCons (agName 3) (agCons (agName 4) (agCons (agName 5) (agCons (agName 6) agNil))))))
    (aSeq (aIf (aTest (aOp (ρEq false) (aOp ρIx (aVar 1) (aC (.int 0))) (aC (.str z_if)))) (aSeq (aAsg (aCall 3 A_holding (aCons (aVar 0) (aCons (aOp ρIx (aVar 1) (aC (.int 1))) (aCons (aVar 2) aNil)))) (agName 7))
    (aSeq (aAsg (aCall 3 A_holding (aCons (aVar 0) (aCons (aOp ρIx (aVar 1) (aC (.int 2))) (aCons (aVar 2) aNil)))) (agName 8))
    (aAsg (aLc2 (aIZip (aCons (aVar 7) (aCons (aVar 8) aNil))) 11 12 aYes (aAndV (aVar 11) (aNotV (aVar 12)))) (agName 9)))) (aIf (aAnd (aTest (aOp (ρEq false) (aOp ρIx (aVar 1) (aC (.int 0))) (aC (.str z_not)))) (aTest (aOp (ρEq false) (aVar 2) (aC (.str z_minimal))))) (aSeq (aAsg (aCall 3 A_holding (aCons (aVar 0) (aCons (aOp ρIx (aVar 1) (aC (.int 1))) (aCons (aVar 2) aNil)))) (agName 10))
    (aAsg (aLc (aIRng1 (aCons (aCB ρLen (aCons (aVar 4) aNil)) aNil)) 13 aYes (aAndV (aOp ρIx (aVar 10) (aVar 13)) (aOp (ρIn true) (aVar 13) (aVar 6)))) (agName 9))) (aRet (aLc (aITup (aVar 5)) 14 aYes (aOp (ρInT false) (aVar 1) (aVar 14))))))
    (aRet (aLc (aITup (aVar 4)) 15 aYes (aNotV (aCB ρAny (aCons (aLc (aITup (aVar 15)) 13 aYes (aOp ρIx (aVar 9) (aVar 13))) aNil)))))))
/- slots of _law_holds: 0 model, 1 world, 2 formula, 3 strength, 4 later -/
def a__law_holds (A__law_holds : ASp) : ATS :=
    (aSeq (aIf (aOr (aTest (aOp (ρEq false) (aOp ρIx (aVar 2) (aC (.int 0))) (aC (.str z_letter)))) (aAnd (aTest (aOp (ρEq false) (aOp ρIx (aVar 2) (aC (.int 0))) (aC (.str z_not)))) (aTest (aOp (ρEq false) (aVar 3) (aC (.str z_positive)))))) (aRet (aOp (ρInT false) (aVar 2) (aOp ρIx (aOp ρIx (aVar 0) (aC (.int 2))) (aVar 1)))) aNext)
    (aSeq (aFor (aITup (aOp ρIx (aOp ρIx (aVar 0) (aC (.int 1))) (aVar 1))) (agName 4) (aIf (aTest (aOp (ρEq false) (aOp ρIx (aVar 2) (aC (.int 0))) (aC (.str z_not)))) (aIf (aAnd (aTruth (aCall 4 A__law_holds (aCons (aVar 0) (aCons (aVar 4) (aCons (aOp ρIx (aVar 2) (aC (.int 1))) (aCons (aVar 3) aNil)))))) (aTest (aOp (ρIn true) (aVar 4) (aOp ρIx (aVar 0) (aC (.int 3)))))) (aRet (aC (.bl false))) aNext) (aIf (aAnd (aTruth (aCall 4 A__law_holds (aCons (aVar 0) (aCons (aVar 4) (aCons (aOp ρIx (aVar 2) (aC (.int 1))) (aCons (aVar 3) aNil)))))) (aNot (aTruth (aCall 4 A__law_holds (aCons (aVar 0) (aCons (aVar 4) (aCons (aOp ρIx (aVar 2) (aC (.int 2))) (aCons (aVar 3) aNil)))))))) (aRet (aC (.bl false))) aNext)))
    (aRet (aC (.bl true)))))

def z_model : Str := "model"
structure Mdl where
  later : List (List Nat)
  giv : List (List Fm)
  brk : List Nat
def natsD (l : List Nat) : D := .tup (l.map fun k : Nat => D.int (k : Int))
def fmsD (r : List Fm) : D := .tup (r.map Fm.d)
def Mdl.d (m : Mdl) : D := .tup [.str z_model, .tup (m.later.map natsD), .tup (m.giv.map fmsD), natsD m.brk]
structure Mdl.Ok (m : Mdl) : Prop where
  inn : ∀ r ∈ m.later, ∀ v ∈ r, v < m.later.length
  len : m.giv.length = m.later.length
  tiny : ∀ r ∈ m.giv, ∀ g ∈ r, g.Tiny
def frc (pos : Bool) (m : Mdl) : Fm → Nat → Bool
  | .lt s, w => decide (Fm.lt s ∈ m.giv.getD w [])
  | .ng p, w => if pos = true then decide (Fm.ng p ∈ m.giv.getD w []) else (m.later.getD w []).all fun v => !(frc pos m p v && !decide (v ∈ m.brk))
  | .im p q, w => (m.later.getD w []).all fun v => !(frc pos m p v && !frc pos m q v)
theorem Fm.Tiny.ng {p : Fm} (h : (Fm.ng p).Tiny) : p.Tiny := ⟨by
  have h1 : max 0 (max p.py.depth 0) + 1 ≤ 60 := h.1
  omega, h.small.ng.2⟩
theorem Fm.Tiny.im {p q : Fm} (h : (Fm.im p q).Tiny) : p.Tiny ∧ q.Tiny := by
  have h1 : max 0 (max p.py.depth (max q.py.depth 0)) + 1 ≤ 60 := h.1
  exact ⟨⟨by omega, h.small.im.1.2⟩, ⟨by omega, h.small.im.2.2⟩⟩
theorem in_fmsT {f : Fm} {fs : List Fm} {M : Sto} {Q : D → Sto → Prop} (hf : f.Tiny) (hs : ∀ g ∈ fs, g.Tiny) (q : Q (.bl (decide (f ∈ fs))) M) : ρInT false f.d (fmsD fs) M Q := by
  have e : ρInT false f.d (fmsD fs) M Q = ∃ p ps, f.d.py = some p ∧ D.pys (fs.map Fm.d) = some ps ∧ SeqAt.shaped p = true ∧ SeqAt.shaped (.tuple ps) = true ∧ Q (.bl (ps.any fun z => PyData.eqv z p)) M := rfl
  rw [e]
  refine ⟨f.py, fs.map Fm.py, Fm.d_py f, pys_fms fs, hf.small.shaped, ?_, ?_⟩
  · show (PyData.canLayAll0 (fs.map Fm.py) && decide (PyData.depthAll (fs.map Fm.py) + 1 ≤ 64)) = true
    have z := depAll_fms (fs := fs) fun g hg => by have := (hs g hg).1; omega
    rw [layAll_fms fun g hg => (hs g hg).small, decide_eq_true (by omega)]
    rfl
  · rw [any_fms]
    exact q
theorem nats_flat (l : List Nat) : (l.map fun k : Nat => D.int (k : Int)).all flatD = true := by
  rw [List.all_map]
  exact List.all_eq_true.mpr fun x _ => rfl
theorem nats_any (l : List Nat) (v : Nat) : ((l.map fun k : Nat => D.int (k : Int)).any fun y => eqF y (.int (v : Int))) = decide (v ∈ l) := by
  induction l with
  | nil => rfl
  | cons a l ih =>
    rw [List.map_cons, List.any_cons, ih]
    have e : eqF (.int (a : Int)) (.int (v : Int)) = decide (v = a) := by
      show ((a : Int) == (v : Int)) = _
      by_cases c : v = a
      · subst c
        rw [decide_eq_true rfl, beq_self_eq_true]
      · rw [decide_eq_false c]
        exact beq_eq_false_iff_ne.mpr fun z => c (by omega)
    rw [e, ← Bool.decide_or]
    exact decide_eq_decide.mpr List.mem_cons.symm
theorem at_row {α : Type} {f : α → D} {rs : List α} {w : Nat} {r : α} (h : rs[w]? = some r) : atI (rs.map f) (w : Int) = some (f r) := by
  rw [atIn, List.getElem?_map, h]
  rfl
theorem zpm : (z_positive = z_minimal) = False := eq_false (by decide +kernel)
theorem zmp : (z_minimal = z_positive) = False := eq_false (by decide +kernel)
def A_lholds (L : Nat) : ASp := fun ds M Q _ => ∃ (m : Mdl) (w : Nat) (f : Fm) (pos : Bool), ds = [m.d, .int w, f.d, .str (if pos = true then z_positive else z_minimal)] ∧ f.sz ≤ L ∧ f.Tiny ∧ w < m.later.length ∧ m.Ok ∧ Q (.bl (frc pos m f w)) M
theorem p__law_holds (L : Nat) (ds : List D) (M : Sto) (Q : D → Sto → Prop) (Xa) (hl : ds.length = 4) (h : A_lholds (L + 1) ds M Q Xa) : a__law_holds (A_lholds L) ax0 (Done Q) (startA ["model", "world", "formula", "strength", "later"] ds) M := by
  obtain ⟨m, w, f, pos, rfl, hL, hf, hw, ok, q⟩ := h
  unfold a__law_holds
  obtain ⟨row, hrow⟩ : ∃ r, m.later[w]? = some r := ⟨_, List.getElem?_eq_getElem hw⟩
  obtain ⟨gr, hgr⟩ : ∃ r, m.giv[w]? = some r := ⟨_, List.getElem?_eq_getElem (by rw [ok.len]; exact hw)⟩
  have row0 : m.later.getD w [] = row := by rw [List.getD_eq_getElem?_getD, hrow]; rfl
  have gr0 : m.giv.getD w [] = gr := by rw [List.getD_eq_getElem?_getD, hgr]; rfl
  have a1 := at_row (f := natsD) hrow
  have a2 := at_row (f := fmsD) hgr
  have i1 : ∀ M Q, ρIx m.d (.int 1) M Q = Q (.tup (m.later.map natsD)) M := fun _ _ => rfl
  have i2 : ∀ M Q, ρIx m.d (.int 2) M Q = Q (.tup (m.giv.map fmsD)) M := fun _ _ => rfl
  have i3 : ∀ M Q, ρIx m.d (.int 3) M Q = Q (natsD m.brk) M := fun _ _ => rfl
  have i4 : ∀ (v : Nat) M Q, ρIn true (.int (v : Int)) (natsD m.brk) M Q = Q (.bl (!decide (v ∈ m.brk))) M := fun v M Q => by
    show (true = true ∧ (m.brk.map fun k : Nat => D.int (k : Int)).all flatD = true ∧ Q (.bl (!((m.brk.map fun k : Nat => D.int (k : Int)).any fun y => eqF y (.int (v : Int))))) M) = _
    rw [nats_flat, nats_any]
    exact propext ⟨fun z => z.2.2, fun z => ⟨rfl, rfl, z⟩⟩
  have gt := ok.tiny gr (List.mem_of_getElem? hgr)
  have inn := ok.inn row (List.mem_of_getElem? hrow)
  have nr : natsD row = .tup (row.map fun k : Nat => D.int (k : Int)) := rfl
  have z1 := zpm
  have z2 := zmp
  cases f with
  | lt s =>
    have hfd := Fm.d_lt s
    have e : frc pos m (.lt s) w = decide (Fm.lt s ∈ gr) := by
      show decide (Fm.lt s ∈ m.giv.getD w []) = _
      rw [gr0]
    rw [e] at q
    have go := in_fmsT (M := M) (Q := Q) hf gt q
    rw [hfd] at go
    clear e q
    try (simp only [↓e_seq, ↓e_next, ↓e_break, ↓e_cont, ↓e_expr, ↓e_ret, ↓e_retN, ↓e_if, ↓e_never, ↓e_asg, ↓e_name, ↓e_agtup, ↓e_agcons, ↓e_agnil, ↓e_agsub, ↓e_aug, ↓e_dput, ↓e_var, ↓e_c, ↓e_op, ↓e_some, ↓e_none, ↓e_test, ↓e_and, ↓e_or, ↓e_not, ↓e_yes, ↓e_truth,   ↓e_tru_bl, ↓e_tru_int, ↓e_tru_non, ↓e_tru_str, ↓e_tru_tup, ↓e_tru_obj, ↓e_chain, ↓e_orV, ↓e_andV, ↓e_notV, ↓e_ifE, ↓e_neg, ↓e_nil, ↓e_cons, ↓e_tup, ↓e_lst, ↓e_dnew, ↓e_call, ↓e_cb, ↓e_isi, ↓e_sl, ↓e_onone, ↓e_osome, ↓e_rev, ↓e_lm, ↓e_append, ↓e_extend, ↓e_pop, ↓e_join, ↓e_dget2, ↓e_sortSet, ↓e_sortS, ↓e_setd, strsOf_map, ↓e_maxI, ↓e_disp, ↓e_pairN, ↓e_pairC, intsOf_map, ↓e_for, ↓e_ilist, ↓e_itup, ↓e_rng1, ↓e_rng2, ↓e_lc, ↓e_lc2, e_lc2N, ↓e_ienum, ↓e_izip, ↓e_anyB, ↓e_allB, ↓e_mulS, blsOf_map, ↓e_set0, ↓e_sadd, ↓e_sortTx, ↓e_sortD, ↓e_repr, ↓e_extT, ↓e_sc2, ↓e_sortZ, ↓e_tupVals, ↓e_wget, ↓e_wix, ↓e_listZip, zipD_nil, zipD_cons, ↓e_dgetF, ↓e_idif, ↓e_isB, ↓e_sortI, ↓e_sortSetI,   ↓e_add_int, ↓e_add_str, ↓e_add_tup, ↓e_add_obj, ↓e_iadd_int, ↓e_iadd_str, ↓e_iadd_obj, ↓e_I, ↓e_I0, ↓e_IS_int, ↓e_IS_str, ↓e_eq_str, ↓e_ne_str, ↓e_eq_int, ↓e_ne_int, ↓e_eq_bl, ↓e_ne_bl, ↓e_isN, ↓e_notN, ↓e_ix_tup, ↓e_ix_fl, ↓e_ix_str, ↓e_ix_obj, ↓e_in_tup, ↓e_nin_tup, ↓e_len_tup, ↓e_len_fl, ↓e_len_str, ↓e_len_obj, ↓e_int_int, ↓e_tuple_tup, ↓e_tuple_obj, ↓e_list_tup, ↓e_list_obj, ↓e_dget, ↓e_din, ↓e_dnin, ↓e_lstAt, ↓e_dicAt,   e_key_int, e_key_str, e_up, e_ty_str, e_ty_tup, e_ty_int, e_ty_bl, e_ty_non, atI0, atI1, atI2, atI3, atIL, ixN0, ixN1, cut_from1, e_ite_or, e_ite_and, zln, znl, zli, zil, zni, zin, sizeLine_eq, CMul, CDiv, cpow1018, true_or, or_true, kb_strstr, kb_tupstr, kb_tuptup, kb_strtup, kb_inttup, kb_bltup, kb_nontup, kb_strbl, kb_strint, kb_intbl, kb_intint, kb_blbl, kb_blint, kb_nonbl, kb_nonint, kb_nonstr, kb_intstr, kb_blstr, kb_tupbl, kb_tupint,   List.set_cons_zero, List.set_cons_succ, List.set_nil, List.getElem?_cons_zero, List.getElem?_cons_succ, List.getElem?_nil, List.length_cons, List.length_nil, List.length_map, List.length_append, e_lcN, e_lcC, e_forN, e_forC, List.getLast?_concat, List.dropLast_concat, List.nil_append, List.cons_append, List.append_nil, List.append_assoc, List.reverse_cons, List.reverse_nil, List.isEmpty_nil, List.isEmpty_cons, isEmpty_snoc, List.any_cons, List.any_nil, List.all_cons, List.all_nil, flatD, eqF, in_non, in_tup, in_str, in_int, in_bl, in_obj, in_fl, startA, List.map_cons, List.map_nil, List.replicate_succ, List.replicate_zero,   Nat.reduceAdd, Nat.reduceSub, Nat.reduceLeDiff, Nat.zero_add, Int.reduceLE, Int.reduceLT, Int.reduceToNat, Int.reducePow, Int.reduceNeg, Int.reduceAdd, Int.reduceSub,   Option.isSome_some, Option.isSome_none, Bool.not_true, Bool.not_false, Bool.not_eq_true', Bool.not_eq_eq_eq_not, Bool.not_eq_true, Bool.false_eq_true, Bool.true_eq_false, Bool.and_true, Bool.true_and, Bool.or_false, Bool.false_or, Bool.or_true, Bool.true_or, Bool.and_false, Bool.false_and, if_true, if_false, ite_true, ite_false, reduceIte, reduceCtorEq, decide_true, decide_false, decide_eq_true_eq, decide_eq_false_iff_not, true_and, and_true, eq_self, ne_eq, not_false_eq_true, not_true_eq_false, and_self, *])
  | ng p =>
    have hfd := Fm.d_ng p
    have z0 : (Fm.ng p).sz = p.sz + 1 := rfl
    cases pos with
    | true =>
      have e : frc true m (.ng p) w = decide (Fm.ng p ∈ gr) := by
        show (if true = true then decide (Fm.ng p ∈ m.giv.getD w []) else _) = _
        rw [gr0, if_pos rfl]
      rw [e] at q
      have go := in_fmsT (M := M) (Q := Q) hf gt q
      rw [hfd] at go
      clear e q
      try (simp only [↓e_seq, ↓e_next, ↓e_break, ↓e_cont, ↓e_expr, ↓e_ret, ↓e_retN, ↓e_if, ↓e_never, ↓e_asg, ↓e_name, ↓e_agtup, ↓e_agcons, ↓e_agnil, ↓e_agsub, ↓e_aug, ↓e_dput, ↓e_var, ↓e_c, ↓e_op, ↓e_some, ↓e_none, ↓e_test, ↓e_and, ↓e_or, ↓e_not, ↓e_yes, ↓e_truth,   ↓e_tru_bl, ↓e_tru_int, ↓e_tru_non, ↓e_tru_str, ↓e_tru_tup, ↓e_tru_obj, ↓e_chain, ↓e_orV, ↓e_andV, ↓e_notV, ↓e_ifE, ↓e_neg, ↓e_nil, ↓e_cons, ↓e_tup, ↓e_lst, ↓e_dnew, ↓e_call, ↓e_cb, ↓e_isi, ↓e_sl, ↓e_onone, ↓e_osome, ↓e_rev, ↓e_lm, ↓e_append, ↓e_extend, ↓e_pop, ↓e_join, ↓e_dget2, ↓e_sortSet, ↓e_sortS, ↓e_setd, strsOf_map, ↓e_maxI, ↓e_disp, ↓e_pairN, ↓e_pairC, intsOf_map, ↓e_for, ↓e_ilist, ↓e_itup, ↓e_rng1, ↓e_rng2, ↓e_lc, ↓e_lc2, e_lc2N, ↓e_ienum, ↓e_izip, ↓e_anyB, ↓e_allB, ↓e_mulS, blsOf_map, ↓e_set0, ↓e_sadd, ↓e_sortTx, ↓e_sortD, ↓e_repr, ↓e_extT, ↓e_sc2, ↓e_sortZ, ↓e_tupVals, ↓e_wget, ↓e_wix, ↓e_listZip, zipD_nil, zipD_cons, ↓e_dgetF, ↓e_idif, ↓e_isB, ↓e_sortI, ↓e_sortSetI,   ↓e_add_int, ↓e_add_str, ↓e_add_tup, ↓e_add_obj, ↓e_iadd_int, ↓e_iadd_str, ↓e_iadd_obj, ↓e_I, ↓e_I0, ↓e_IS_int, ↓e_IS_str, ↓e_eq_str, ↓e_ne_str, ↓e_eq_int, ↓e_ne_int, ↓e_eq_bl, ↓e_ne_bl, ↓e_isN, ↓e_notN, ↓e_ix_tup, ↓e_ix_fl, ↓e_ix_str, ↓e_ix_obj, ↓e_in_tup, ↓e_nin_tup, ↓e_len_tup, ↓e_len_fl, ↓e_len_str, ↓e_len_obj, ↓e_int_int, ↓e_tuple_tup, ↓e_tuple_obj, ↓e_list_tup, ↓e_list_obj, ↓e_dget, ↓e_din, ↓e_dnin, ↓e_lstAt, ↓e_dicAt,   e_key_int, e_key_str, e_up, e_ty_str, e_ty_tup, e_ty_int, e_ty_bl, e_ty_non, atI0, atI1, atI2, atI3, atIL, ixN0, ixN1, cut_from1, e_ite_or, e_ite_and, zln, znl, zli, zil, zni, zin, sizeLine_eq, CMul, CDiv, cpow1018, true_or, or_true, kb_strstr, kb_tupstr, kb_tuptup, kb_strtup, kb_inttup, kb_bltup, kb_nontup, kb_strbl, kb_strint, kb_intbl, kb_intint, kb_blbl, kb_blint, kb_nonbl, kb_nonint, kb_nonstr, kb_intstr, kb_blstr, kb_tupbl, kb_tupint,   List.set_cons_zero, List.set_cons_succ, List.set_nil, List.getElem?_cons_zero, List.getElem?_cons_succ, List.getElem?_nil, List.length_cons, List.length_nil, List.length_map, List.length_append, e_lcN, e_lcC, e_forN, e_forC, List.getLast?_concat, List.dropLast_concat, List.nil_append, List.cons_append, List.append_nil, List.append_assoc, List.reverse_cons, List.reverse_nil, List.isEmpty_nil, List.isEmpty_cons, isEmpty_snoc, List.any_cons, List.any_nil, List.all_cons, List.all_nil, flatD, eqF, in_non, in_tup, in_str, in_int, in_bl, in_obj, in_fl, startA, List.map_cons, List.map_nil, List.replicate_succ, List.replicate_zero,   Nat.reduceAdd, Nat.reduceSub, Nat.reduceLeDiff, Nat.zero_add, Int.reduceLE, Int.reduceLT, Int.reduceToNat, Int.reducePow, Int.reduceNeg, Int.reduceAdd, Int.reduceSub,   Option.isSome_some, Option.isSome_none, Bool.not_true, Bool.not_false, Bool.not_eq_true', Bool.not_eq_eq_eq_not, Bool.not_eq_true, Bool.false_eq_true, Bool.true_eq_false, Bool.and_true, Bool.true_and, Bool.or_false, Bool.false_or, Bool.or_true, Bool.true_or, Bool.and_false, Bool.false_and, if_true, if_false, ite_true, ite_false, reduceIte, reduceCtorEq, decide_true, decide_false, decide_eq_true_eq, decide_eq_false_iff_not, true_and, and_true, eq_self, ne_eq, not_false_eq_true, not_true_eq_false, and_self, *])
    | false =>
      have e : frc false m (.ng p) w = row.all fun v => !(frc false m p v && !decide (v ∈ m.brk)) := by
        show (if false = true then _ else (m.later.getD w []).all fun v => !(frc false m p v && !decide (v ∈ m.brk))) = _
        rw [row0, if_neg Bool.false_ne_true]
      rw [e] at q
      clear e gt a2 gr0 hgr
      try (simp only [↓e_seq, ↓e_next, ↓e_break, ↓e_cont, ↓e_expr, ↓e_ret, ↓e_retN, ↓e_if, ↓e_never, ↓e_asg, ↓e_name, ↓e_agtup, ↓e_agcons, ↓e_agnil, ↓e_agsub, ↓e_aug, ↓e_dput, ↓e_var, ↓e_c, ↓e_op, ↓e_some, ↓e_none, ↓e_test, ↓e_and, ↓e_or, ↓e_not, ↓e_yes, ↓e_truth,   ↓e_tru_bl, ↓e_tru_int, ↓e_tru_non, ↓e_tru_str, ↓e_tru_tup, ↓e_tru_obj, ↓e_chain, ↓e_orV, ↓e_andV, ↓e_notV, ↓e_ifE, ↓e_neg, ↓e_nil, ↓e_cons, ↓e_tup, ↓e_lst, ↓e_dnew, ↓e_call, ↓e_cb, ↓e_isi, ↓e_sl, ↓e_onone, ↓e_osome, ↓e_rev, ↓e_lm, ↓e_append, ↓e_extend, ↓e_pop, ↓e_join, ↓e_dget2, ↓e_sortSet, ↓e_sortS, ↓e_setd, strsOf_map, ↓e_maxI, ↓e_disp, ↓e_pairN, ↓e_pairC, intsOf_map, ↓e_for, ↓e_ilist, ↓e_itup, ↓e_rng1, ↓e_rng2, ↓e_lc, ↓e_lc2, e_lc2N, ↓e_ienum, ↓e_izip, ↓e_anyB, ↓e_allB, ↓e_mulS, blsOf_map, ↓e_set0, ↓e_sadd, ↓e_sortTx, ↓e_sortD, ↓e_repr, ↓e_extT, ↓e_sc2, ↓e_sortZ, ↓e_tupVals, ↓e_wget, ↓e_wix, ↓e_listZip, zipD_nil, zipD_cons, ↓e_dgetF, ↓e_idif, ↓e_isB, ↓e_sortI, ↓e_sortSetI,   ↓e_add_int, ↓e_add_str, ↓e_add_tup, ↓e_add_obj, ↓e_iadd_int, ↓e_iadd_str, ↓e_iadd_obj, ↓e_I, ↓e_I0, ↓e_IS_int, ↓e_IS_str, ↓e_eq_str, ↓e_ne_str, ↓e_eq_int, ↓e_ne_int, ↓e_eq_bl, ↓e_ne_bl, ↓e_isN, ↓e_notN, ↓e_ix_tup, ↓e_ix_fl, ↓e_ix_str, ↓e_ix_obj, ↓e_in_tup, ↓e_nin_tup, ↓e_len_tup, ↓e_len_fl, ↓e_len_str, ↓e_len_obj, ↓e_int_int, ↓e_tuple_tup, ↓e_tuple_obj, ↓e_list_tup, ↓e_list_obj, ↓e_dget, ↓e_din, ↓e_dnin, ↓e_lstAt, ↓e_dicAt,   e_key_int, e_key_str, e_up, e_ty_str, e_ty_tup, e_ty_int, e_ty_bl, e_ty_non, atI0, atI1, atI2, atI3, atIL, ixN0, ixN1, cut_from1, e_ite_or, e_ite_and, zln, znl, zli, zil, zni, zin, sizeLine_eq, CMul, CDiv, cpow1018, true_or, or_true, kb_strstr, kb_tupstr, kb_tuptup, kb_strtup, kb_inttup, kb_bltup, kb_nontup, kb_strbl, kb_strint, kb_intbl, kb_intint, kb_blbl, kb_blint, kb_nonbl, kb_nonint, kb_nonstr, kb_intstr, kb_blstr, kb_tupbl, kb_tupint,   List.set_cons_zero, List.set_cons_succ, List.set_nil, List.getElem?_cons_zero, List.getElem?_cons_succ, List.getElem?_nil, List.length_cons, List.length_nil, List.length_map, List.length_append, e_lcN, e_lcC, e_forN, e_forC, List.getLast?_concat, List.dropLast_concat, List.nil_append, List.cons_append, List.append_nil, List.append_assoc, List.reverse_cons, List.reverse_nil, List.isEmpty_nil, List.isEmpty_cons, isEmpty_snoc, List.any_cons, List.any_nil, List.all_cons, List.all_nil, flatD, eqF, in_non, in_tup, in_str, in_int, in_bl, in_obj, in_fl, startA, List.map_cons, List.map_nil, List.replicate_succ, List.replicate_zero,   Nat.reduceAdd, Nat.reduceSub, Nat.reduceLeDiff, Nat.zero_add, Int.reduceLE, Int.reduceLT, Int.reduceToNat, Int.reducePow, Int.reduceNeg, Int.reduceAdd, Int.reduceSub,   Option.isSome_some, Option.isSome_none, Bool.not_true, Bool.not_false, Bool.not_eq_true', Bool.not_eq_eq_eq_not, Bool.not_eq_true, Bool.false_eq_true, Bool.true_eq_false, Bool.and_true, Bool.true_and, Bool.or_false, Bool.false_or, Bool.or_true, Bool.true_or, Bool.and_false, Bool.false_and, if_true, if_false, ite_true, ite_false, reduceIte, reduceCtorEq, decide_true, decide_false, decide_eq_true_eq, decide_eq_false_iff_not, true_and, and_true, eq_self, ne_eq, not_false_eq_true, not_true_eq_false, and_self, *])
      refine for_run (fun ds env M' => ∃ (rest : List Nat) (x4 : Option D), ds = rest.map (fun k : Nat => D.int (k : Int)) ∧ env = [some m.d, some (.int w), some (.tup [.str z_not, p.d]), some (.str z_minimal), x4] ∧ M' = M ∧ (∀ v ∈ rest, v < m.later.length) ∧ (row.all fun v => !(frc false m p v && !decide (v ∈ m.brk))) = rest.all fun v => !(frc false m p v && !decide (v ∈ m.brk))) (fun _ _ _ _ => trivial) ?_ ?_ ⟨row, none, rfl, rfl, rfl, inn, rfl⟩
      · rintro env M' ⟨rest, x4, hr, rfl, rfl, _, he⟩
        have z := List.map_eq_nil_iff.mp hr.symm
        subst z
        rw [he] at q
        have q' : Q (.bl true) M' := q
        clear hr q he
        try (simp only [↓e_seq, ↓e_next, ↓e_break, ↓e_cont, ↓e_expr, ↓e_ret, ↓e_retN, ↓e_if, ↓e_never, ↓e_asg, ↓e_name, ↓e_agtup, ↓e_agcons, ↓e_agnil, ↓e_agsub, ↓e_aug, ↓e_dput, ↓e_var, ↓e_c, ↓e_op, ↓e_some, ↓e_none, ↓e_test, ↓e_and, ↓e_or, ↓e_not, ↓e_yes, ↓e_truth,   ↓e_tru_bl, ↓e_tru_int, ↓e_tru_non, ↓e_tru_str, ↓e_tru_tup, ↓e_tru_obj, ↓e_chain, ↓e_orV, ↓e_andV, ↓e_notV, ↓e_ifE, ↓e_neg, ↓e_nil, ↓e_cons, ↓e_tup, ↓e_lst, ↓e_dnew, ↓e_call, ↓e_cb, ↓e_isi, ↓e_sl, ↓e_onone, ↓e_osome, ↓e_rev, ↓e_lm, ↓e_append, ↓e_extend, ↓e_pop, ↓e_join, ↓e_dget2, ↓e_sortSet, ↓e_sortS, ↓e_setd, strsOf_map, ↓e_maxI, ↓e_disp, ↓e_pairN, ↓e_pairC, intsOf_map, ↓e_for, ↓e_ilist, ↓e_itup, ↓e_rng1, ↓e_rng2, ↓e_lc, ↓e_lc2, e_lc2N, ↓e_ienum, ↓e_izip, ↓e_anyB, ↓e_allB, ↓e_mulS, blsOf_map, ↓e_set0, ↓e_sadd, ↓e_sortTx, ↓e_sortD, ↓e_repr, ↓e_extT, ↓e_sc2, ↓e_sortZ, ↓e_tupVals, ↓e_wget, ↓e_wix, ↓e_listZip, zipD_nil, zipD_cons, ↓e_dgetF, ↓e_idif, ↓e_isB, ↓e_sortI, ↓e_sortSetI,   ↓e_add_int, ↓e_add_str, ↓e_add_tup, ↓e_add_obj, ↓e_iadd_int, ↓e_iadd_str, ↓e_iadd_obj, ↓e_I, ↓e_I0, ↓e_IS_int, ↓e_IS_str, ↓e_eq_str, ↓e_ne_str, ↓e_eq_int, ↓e_ne_int, ↓e_eq_bl, ↓e_ne_bl, ↓e_isN, ↓e_notN, ↓e_ix_tup, ↓e_ix_fl, ↓e_ix_str, ↓e_ix_obj, ↓e_in_tup, ↓e_nin_tup, ↓e_len_tup, ↓e_len_fl, ↓e_len_str, ↓e_len_obj, ↓e_int_int, ↓e_tuple_tup, ↓e_tuple_obj, ↓e_list_tup, ↓e_list_obj, ↓e_dget, ↓e_din, ↓e_dnin, ↓e_lstAt, ↓e_dicAt,   e_key_int, e_key_str, e_up, e_ty_str, e_ty_tup, e_ty_int, e_ty_bl, e_ty_non, atI0, atI1, atI2, atI3, atIL, ixN0, ixN1, cut_from1, e_ite_or, e_ite_and, zln, znl, zli, zil, zni, zin, sizeLine_eq, CMul, CDiv, cpow1018, true_or, or_true, kb_strstr, kb_tupstr, kb_tuptup, kb_strtup, kb_inttup, kb_bltup, kb_nontup, kb_strbl, kb_strint, kb_intbl, kb_intint, kb_blbl, kb_blint, kb_nonbl, kb_nonint, kb_nonstr, kb_intstr, kb_blstr, kb_tupbl, kb_tupint,   List.set_cons_zero, List.set_cons_succ, List.set_nil, List.getElem?_cons_zero, List.getElem?_cons_succ, List.getElem?_nil, List.length_cons, List.length_nil, List.length_map, List.length_append, e_lcN, e_lcC, e_forN, e_forC, List.getLast?_concat, List.dropLast_concat, List.nil_append, List.cons_append, List.append_nil, List.append_assoc, List.reverse_cons, List.reverse_nil, List.isEmpty_nil, List.isEmpty_cons, isEmpty_snoc, List.any_cons, List.any_nil, List.all_cons, List.all_nil, flatD, eqF, in_non, in_tup, in_str, in_int, in_bl, in_obj, in_fl, startA, List.map_cons, List.map_nil, List.replicate_succ, List.replicate_zero,   Nat.reduceAdd, Nat.reduceSub, Nat.reduceLeDiff, Nat.zero_add, Int.reduceLE, Int.reduceLT, Int.reduceToNat, Int.reducePow, Int.reduceNeg, Int.reduceAdd, Int.reduceSub,   Option.isSome_some, Option.isSome_none, Bool.not_true, Bool.not_false, Bool.not_eq_true', Bool.not_eq_eq_eq_not, Bool.not_eq_true, Bool.false_eq_true, Bool.true_eq_false, Bool.and_true, Bool.true_and, Bool.or_false, Bool.false_or, Bool.or_true, Bool.true_or, Bool.and_false, Bool.false_and, if_true, if_false, ite_true, ite_false, reduceIte, reduceCtorEq, decide_true, decide_false, decide_eq_true_eq, decide_eq_false_iff_not, true_and, and_true, eq_self, ne_eq, not_false_eq_true, not_true_eq_false, and_self, *])
      · rintro d r N env M' ⟨rest, x4, hr, rfl, rfl, hin, he⟩ next
        cases rest with
        | nil => cases hr
        | cons v rest =>
          rw [List.map_cons] at hr
          injection hr with hr1 hr2
          subst hr1 hr2
          rw [List.all_cons] at he
          have hv := hin v List.mem_cons_self
          try (simp only [↓e_seq, ↓e_next, ↓e_break, ↓e_cont, ↓e_expr, ↓e_ret, ↓e_retN, ↓e_if, ↓e_never, ↓e_asg, ↓e_name, ↓e_agtup, ↓e_agcons, ↓e_agnil, ↓e_agsub, ↓e_aug, ↓e_dput, ↓e_var, ↓e_c, ↓e_op, ↓e_some, ↓e_none, ↓e_test, ↓e_and, ↓e_or, ↓e_not, ↓e_yes, ↓e_truth,   ↓e_tru_bl, ↓e_tru_int, ↓e_tru_non, ↓e_tru_str, ↓e_tru_tup, ↓e_tru_obj, ↓e_chain, ↓e_orV, ↓e_andV, ↓e_notV, ↓e_ifE, ↓e_neg, ↓e_nil, ↓e_cons, ↓e_tup, ↓e_lst, ↓e_dnew, ↓e_call, ↓e_cb, ↓e_isi, ↓e_sl, ↓e_onone, ↓e_osome, ↓e_rev, ↓e_lm, ↓e_append, ↓e_extend, ↓e_pop, ↓e_join, ↓e_dget2, ↓e_sortSet, ↓e_sortS, ↓e_setd, strsOf_map, ↓e_maxI, ↓e_disp, ↓e_pairN, ↓e_pairC, intsOf_map, ↓e_for, ↓e_ilist, ↓e_itup, ↓e_rng1, ↓e_rng2, ↓e_lc, ↓e_lc2, e_lc2N, ↓e_ienum, ↓e_izip, ↓e_anyB, ↓e_allB, ↓e_mulS, blsOf_map, ↓e_set0, ↓e_sadd, ↓e_sortTx, ↓e_sortD, ↓e_repr, ↓e_extT, ↓e_sc2, ↓e_sortZ, ↓e_tupVals, ↓e_wget, ↓e_wix, ↓e_listZip, zipD_nil, zipD_cons, ↓e_dgetF, ↓e_idif, ↓e_isB, ↓e_sortI, ↓e_sortSetI,   ↓e_add_int, ↓e_add_str, ↓e_add_tup, ↓e_add_obj, ↓e_iadd_int, ↓e_iadd_str, ↓e_iadd_obj, ↓e_I, ↓e_I0, ↓e_IS_int, ↓e_IS_str, ↓e_eq_str, ↓e_ne_str, ↓e_eq_int, ↓e_ne_int, ↓e_eq_bl, ↓e_ne_bl, ↓e_isN, ↓e_notN, ↓e_ix_tup, ↓e_ix_fl, ↓e_ix_str, ↓e_ix_obj, ↓e_in_tup, ↓e_nin_tup, ↓e_len_tup, ↓e_len_fl, ↓e_len_str, ↓e_len_obj, ↓e_int_int, ↓e_tuple_tup, ↓e_tuple_obj, ↓e_list_tup, ↓e_list_obj, ↓e_dget, ↓e_din, ↓e_dnin, ↓e_lstAt, ↓e_dicAt,   e_key_int, e_key_str, e_up, e_ty_str, e_ty_tup, e_ty_int, e_ty_bl, e_ty_non, atI0, atI1, atI2, atI3, atIL, ixN0, ixN1, cut_from1, e_ite_or, e_ite_and, zln, znl, zli, zil, zni, zin, sizeLine_eq, CMul, CDiv, cpow1018, true_or, or_true, kb_strstr, kb_tupstr, kb_tuptup, kb_strtup, kb_inttup, kb_bltup, kb_nontup, kb_strbl, kb_strint, kb_intbl, kb_intint, kb_blbl, kb_blint, kb_nonbl, kb_nonint, kb_nonstr, kb_intstr, kb_blstr, kb_tupbl, kb_tupint,   List.set_cons_zero, List.set_cons_succ, List.set_nil, List.getElem?_cons_zero, List.getElem?_cons_succ, List.getElem?_nil, List.length_cons, List.length_nil, List.length_map, List.length_append, e_lcN, e_lcC, e_forN, e_forC, List.getLast?_concat, List.dropLast_concat, List.nil_append, List.cons_append, List.append_nil, List.append_assoc, List.reverse_cons, List.reverse_nil, List.isEmpty_nil, List.isEmpty_cons, isEmpty_snoc, List.any_cons, List.any_nil, List.all_cons, List.all_nil, flatD, eqF, in_non, in_tup, in_str, in_int, in_bl, in_obj, in_fl, startA, List.map_cons, List.map_nil, List.replicate_succ, List.replicate_zero,   Nat.reduceAdd, Nat.reduceSub, Nat.reduceLeDiff, Nat.zero_add, Int.reduceLE, Int.reduceLT, Int.reduceToNat, Int.reducePow, Int.reduceNeg, Int.reduceAdd, Int.reduceSub,   Option.isSome_some, Option.isSome_none, Bool.not_true, Bool.not_false, Bool.not_eq_true', Bool.not_eq_eq_eq_not, Bool.not_eq_true, Bool.false_eq_true, Bool.true_eq_false, Bool.and_true, Bool.true_and, Bool.or_false, Bool.false_or, Bool.or_true, Bool.true_or, Bool.and_false, Bool.false_and, if_true, if_false, ite_true, ite_false, reduceIte, reduceCtorEq, decide_true, decide_false, decide_eq_true_eq, decide_eq_false_iff_not, true_and, and_true, eq_self, ne_eq, not_false_eq_true, not_true_eq_false, and_self, *])
          refine ⟨rfl, m, v, p, false, rfl, by omega, hf.ng, hv, ok, ?_⟩
          cases c1 : frc false m p v with
          | false =>
            rw [c1] at he
            have go := next [some m.d, some (.int w), some (.tup [.str z_not, p.d]), some (.str z_minimal), some (.int v)] M' ⟨rest, _, rfl, rfl, rfl, fun u hu => hin u (List.mem_cons_of_mem _ hu), he⟩
            clear next he q
            try (simp only [↓e_seq, ↓e_next, ↓e_break, ↓e_cont, ↓e_expr, ↓e_ret, ↓e_retN, ↓e_if, ↓e_never, ↓e_asg, ↓e_name, ↓e_agtup, ↓e_agcons, ↓e_agnil, ↓e_agsub, ↓e_aug, ↓e_dput, ↓e_var, ↓e_c, ↓e_op, ↓e_some, ↓e_none, ↓e_test, ↓e_and, ↓e_or, ↓e_not, ↓e_yes, ↓e_truth,   ↓e_tru_bl, ↓e_tru_int, ↓e_tru_non, ↓e_tru_str, ↓e_tru_tup, ↓e_tru_obj, ↓e_chain, ↓e_orV, ↓e_andV, ↓e_notV, ↓e_ifE, ↓e_neg, ↓e_nil, ↓e_cons, ↓e_tup, ↓e_lst, ↓e_dnew, ↓e_call, ↓e_cb, ↓e_isi, ↓e_sl, ↓e_onone, ↓e_osome, ↓e_rev, ↓e_lm, ↓e_append, ↓e_extend, ↓e_pop, ↓e_join, ↓e_dget2, ↓e_sortSet, ↓e_sortS, ↓e_setd, strsOf_map, ↓e_maxI, ↓e_disp, ↓e_pairN, ↓e_pairC, intsOf_map, ↓e_for, ↓e_ilist, ↓e_itup, ↓e_rng1, ↓e_rng2, ↓e_lc, ↓e_lc2, e_lc2N, ↓e_ienum, ↓e_izip, ↓e_anyB, ↓e_allB, ↓e_mulS, blsOf_map, ↓e_set0, ↓e_sadd, ↓e_sortTx, ↓e_sortD, ↓e_repr, ↓e_extT, ↓e_sc2, ↓e_sortZ, ↓e_tupVals, ↓e_wget, ↓e_wix, ↓e_listZip, zipD_nil, zipD_cons, ↓e_dgetF, ↓e_idif, ↓e_isB, ↓e_sortI, ↓e_sortSetI,   ↓e_add_int, ↓e_add_str, ↓e_add_tup, ↓e_add_obj, ↓e_iadd_int, ↓e_iadd_str, ↓e_iadd_obj, ↓e_I, ↓e_I0, ↓e_IS_int, ↓e_IS_str, ↓e_eq_str, ↓e_ne_str, ↓e_eq_int, ↓e_ne_int, ↓e_eq_bl, ↓e_ne_bl, ↓e_isN, ↓e_notN, ↓e_ix_tup, ↓e_ix_fl, ↓e_ix_str, ↓e_ix_obj, ↓e_in_tup, ↓e_nin_tup, ↓e_len_tup, ↓e_len_fl, ↓e_len_str, ↓e_len_obj, ↓e_int_int, ↓e_tuple_tup, ↓e_tuple_obj, ↓e_list_tup, ↓e_list_obj, ↓e_dget, ↓e_din, ↓e_dnin, ↓e_lstAt, ↓e_dicAt,   e_key_int, e_key_str, e_up, e_ty_str, e_ty_tup, e_ty_int, e_ty_bl, e_ty_non, atI0, atI1, atI2, atI3, atIL, ixN0, ixN1, cut_from1, e_ite_or, e_ite_and, zln, znl, zli, zil, zni, zin, sizeLine_eq, CMul, CDiv, cpow1018, true_or, or_true, kb_strstr, kb_tupstr, kb_tuptup, kb_strtup, kb_inttup, kb_bltup, kb_nontup, kb_strbl, kb_strint, kb_intbl, kb_intint, kb_blbl, kb_blint, kb_nonbl, kb_nonint, kb_nonstr, kb_intstr, kb_blstr, kb_tupbl, kb_tupint,   List.set_cons_zero, List.set_cons_succ, List.set_nil, List.getElem?_cons_zero, List.getElem?_cons_succ, List.getElem?_nil, List.length_cons, List.length_nil, List.length_map, List.length_append, e_lcN, e_lcC, e_forN, e_forC, List.getLast?_concat, List.dropLast_concat, List.nil_append, List.cons_append, List.append_nil, List.append_assoc, List.reverse_cons, List.reverse_nil, List.isEmpty_nil, List.isEmpty_cons, isEmpty_snoc, List.any_cons, List.any_nil, List.all_cons, List.all_nil, flatD, eqF, in_non, in_tup, in_str, in_int, in_bl, in_obj, in_fl, startA, List.map_cons, List.map_nil, List.replicate_succ, List.replicate_zero,   Nat.reduceAdd, Nat.reduceSub, Nat.reduceLeDiff, Nat.zero_add, Int.reduceLE, Int.reduceLT, Int.reduceToNat, Int.reducePow, Int.reduceNeg, Int.reduceAdd, Int.reduceSub,   Option.isSome_some, Option.isSome_none, Bool.not_true, Bool.not_false, Bool.not_eq_true', Bool.not_eq_eq_eq_not, Bool.not_eq_true, Bool.false_eq_true, Bool.true_eq_false, Bool.and_true, Bool.true_and, Bool.or_false, Bool.false_or, Bool.or_true, Bool.true_or, Bool.and_false, Bool.false_and, if_true, if_false, ite_true, ite_false, reduceIte, reduceCtorEq, decide_true, decide_false, decide_eq_true_eq, decide_eq_false_iff_not, true_and, and_true, eq_self, ne_eq, not_false_eq_true, not_true_eq_false, and_self, *])
            simp
          | true =>
            rw [c1] at he
            by_cases c2 : v ∈ m.brk
            · have d2 : decide (v ∈ m.brk) = true := decide_eq_true c2
              rw [d2] at he
              have go := next [some m.d, some (.int w), some (.tup [.str z_not, p.d]), some (.str z_minimal), some (.int v)] M' ⟨rest, _, rfl, rfl, rfl, fun u hu => hin u (List.mem_cons_of_mem _ hu), he⟩
              clear next he q
              try (simp only [↓e_seq, ↓e_next, ↓e_break, ↓e_cont, ↓e_expr, ↓e_ret, ↓e_retN, ↓e_if, ↓e_never, ↓e_asg, ↓e_name, ↓e_agtup, ↓e_agcons, ↓e_agnil, ↓e_agsub, ↓e_aug, ↓e_dput, ↓e_var, ↓e_c, ↓e_op, ↓e_some, ↓e_none, ↓e_test, ↓e_and, ↓e_or, ↓e_not, ↓e_yes, ↓e_truth,   ↓e_tru_bl, ↓e_tru_int, ↓e_tru_non, ↓e_tru_str, ↓e_tru_tup, ↓e_tru_obj, ↓e_chain, ↓e_orV, ↓e_andV, ↓e_notV, ↓e_ifE, ↓e_neg, ↓e_nil, ↓e_cons, ↓e_tup, ↓e_lst, ↓e_dnew, ↓e_call, ↓e_cb, ↓e_isi, ↓e_sl, ↓e_onone, ↓e_osome, ↓e_rev, ↓e_lm, ↓e_append, ↓e_extend, ↓e_pop, ↓e_join, ↓e_dget2, ↓e_sortSet, ↓e_sortS, ↓e_setd, strsOf_map, ↓e_maxI, ↓e_disp, ↓e_pairN, ↓e_pairC, intsOf_map, ↓e_for, ↓e_ilist, ↓e_itup, ↓e_rng1, ↓e_rng2, ↓e_lc, ↓e_lc2, e_lc2N, ↓e_ienum, ↓e_izip, ↓e_anyB, ↓e_allB, ↓e_mulS, blsOf_map, ↓e_set0, ↓e_sadd, ↓e_sortTx, ↓e_sortD, ↓e_repr, ↓e_extT, ↓e_sc2, ↓e_sortZ, ↓e_tupVals, ↓e_wget, ↓e_wix, ↓e_listZip, zipD_nil, zipD_cons, ↓e_dgetF, ↓e_idif, ↓e_isB, ↓e_sortI, ↓e_sortSetI,   ↓e_add_int, ↓e_add_str, ↓e_add_tup, ↓e_add_obj, ↓e_iadd_int, ↓e_iadd_str, ↓e_iadd_obj, ↓e_I, ↓e_I0, ↓e_IS_int, ↓e_IS_str, ↓e_eq_str, ↓e_ne_str, ↓e_eq_int, ↓e_ne_int, ↓e_eq_bl, ↓e_ne_bl, ↓e_isN, ↓e_notN, ↓e_ix_tup, ↓e_ix_fl, ↓e_ix_str, ↓e_ix_obj, ↓e_in_tup, ↓e_nin_tup, ↓e_len_tup, ↓e_len_fl, ↓e_len_str, ↓e_len_obj, ↓e_int_int, ↓e_tuple_tup, ↓e_tuple_obj, ↓e_list_tup, ↓e_list_obj, ↓e_dget, ↓e_din, ↓e_dnin, ↓e_lstAt, ↓e_dicAt,   e_key_int, e_key_str, e_up, e_ty_str, e_ty_tup, e_ty_int, e_ty_bl, e_ty_non, atI0, atI1, atI2, atI3, atIL, ixN0, ixN1, cut_from1, e_ite_or, e_ite_and, zln, znl, zli, zil, zni, zin, sizeLine_eq, CMul, CDiv, cpow1018, true_or, or_true, kb_strstr, kb_tupstr, kb_tuptup, kb_strtup, kb_inttup, kb_bltup, kb_nontup, kb_strbl, kb_strint, kb_intbl, kb_intint, kb_blbl, kb_blint, kb_nonbl, kb_nonint, kb_nonstr, kb_intstr, kb_blstr, kb_tupbl, kb_tupint,   List.set_cons_zero, List.set_cons_succ, List.set_nil, List.getElem?_cons_zero, List.getElem?_cons_succ, List.getElem?_nil, List.length_cons, List.length_nil, List.length_map, List.length_append, e_lcN, e_lcC, e_forN, e_forC, List.getLast?_concat, List.dropLast_concat, List.nil_append, List.cons_append, List.append_nil, List.append_assoc, List.reverse_cons, List.reverse_nil, List.isEmpty_nil, List.isEmpty_cons, isEmpty_snoc, List.any_cons, List.any_nil, List.all_cons, List.all_nil, flatD, eqF, in_non, in_tup, in_str, in_int, in_bl, in_obj, in_fl, startA, List.map_cons, List.map_nil, List.replicate_succ, List.replicate_zero,   Nat.reduceAdd, Nat.reduceSub, Nat.reduceLeDiff, Nat.zero_add, Int.reduceLE, Int.reduceLT, Int.reduceToNat, Int.reducePow, Int.reduceNeg, Int.reduceAdd, Int.reduceSub,   Option.isSome_some, Option.isSome_none, Bool.not_true, Bool.not_false, Bool.not_eq_true', Bool.not_eq_eq_eq_not, Bool.not_eq_true, Bool.false_eq_true, Bool.true_eq_false, Bool.and_true, Bool.true_and, Bool.or_false, Bool.false_or, Bool.or_true, Bool.true_or, Bool.and_false, Bool.false_and, if_true, if_false, ite_true, ite_false, reduceIte, reduceCtorEq, decide_true, decide_false, decide_eq_true_eq, decide_eq_false_iff_not, true_and, and_true, eq_self, ne_eq, not_false_eq_true, not_true_eq_false, and_self, *])
            · have d2 : decide (v ∈ m.brk) = false := decide_eq_false c2
              rw [d2] at he
              rw [he] at q
              have q' : Q (.bl false) M' := q
              clear next he q
              try (simp only [↓e_seq, ↓e_next, ↓e_break, ↓e_cont, ↓e_expr, ↓e_ret, ↓e_retN, ↓e_if, ↓e_never, ↓e_asg, ↓e_name, ↓e_agtup, ↓e_agcons, ↓e_agnil, ↓e_agsub, ↓e_aug, ↓e_dput, ↓e_var, ↓e_c, ↓e_op, ↓e_some, ↓e_none, ↓e_test, ↓e_and, ↓e_or, ↓e_not, ↓e_yes, ↓e_truth,   ↓e_tru_bl, ↓e_tru_int, ↓e_tru_non, ↓e_tru_str, ↓e_tru_tup, ↓e_tru_obj, ↓e_chain, ↓e_orV, ↓e_andV, ↓e_notV, ↓e_ifE, ↓e_neg, ↓e_nil, ↓e_cons, ↓e_tup, ↓e_lst, ↓e_dnew, ↓e_call, ↓e_cb, ↓e_isi, ↓e_sl, ↓e_onone, ↓e_osome, ↓e_rev, ↓e_lm, ↓e_append, ↓e_extend, ↓e_pop, ↓e_join, ↓e_dget2, ↓e_sortSet, ↓e_sortS, ↓e_setd, strsOf_map, ↓e_maxI, ↓e_disp, ↓e_pairN, ↓e_pairC, intsOf_map, ↓e_for, ↓e_ilist, ↓e_itup, ↓e_rng1, ↓e_rng2, ↓e_lc, ↓e_lc2, e_lc2N, ↓e_ienum, ↓e_izip, ↓e_anyB, ↓e_allB, ↓e_mulS, blsOf_map, ↓e_set0, ↓e_sadd, ↓e_sortTx, ↓e_sortD, ↓e_repr, ↓e_extT, ↓e_sc2, ↓e_sortZ, ↓e_tupVals, ↓e_wget, ↓e_wix, ↓e_listZip, zipD_nil, zipD_cons, ↓e_dgetF, ↓e_idif, ↓e_isB, ↓e_sortI, ↓e_sortSetI,   ↓e_add_int, ↓e_add_str, ↓e_add_tup, ↓e_add_obj, ↓e_iadd_int, ↓e_iadd_str, ↓e_iadd_obj, ↓e_I, ↓e_I0, ↓e_IS_int, ↓e_IS_str, ↓e_eq_str, ↓e_ne_str, ↓e_eq_int, ↓e_ne_int, ↓e_eq_bl, ↓e_ne_bl, ↓e_isN, ↓e_notN, ↓e_ix_tup, ↓e_ix_fl, ↓e_ix_str, ↓e_ix_obj, ↓e_in_tup, ↓e_nin_tup, ↓e_len_tup, ↓e_len_fl, ↓e_len_str, ↓e_len_obj, ↓e_int_int, ↓e_tuple_tup, ↓e_tuple_obj, ↓e_list_tup, ↓e_list_obj, ↓e_dget, ↓e_din, ↓e_dnin, ↓e_lstAt, ↓e_dicAt,   e_key_int, e_key_str, e_up, e_ty_str, e_ty_tup, e_ty_int, e_ty_bl, e_ty_non, atI0, atI1, atI2, atI3, atIL, ixN0, ixN1, cut_from1, e_ite_or, e_ite_and, zln, znl, zli, zil, zni, zin, sizeLine_eq, CMul, CDiv, cpow1018, true_or, or_true, kb_strstr, kb_tupstr, kb_tuptup, kb_strtup, kb_inttup, kb_bltup, kb_nontup, kb_strbl, kb_strint, kb_intbl, kb_intint, kb_blbl, kb_blint, kb_nonbl, kb_nonint, kb_nonstr, kb_intstr, kb_blstr, kb_tupbl, kb_tupint,   List.set_cons_zero, List.set_cons_succ, List.set_nil, List.getElem?_cons_zero, List.getElem?_cons_succ, List.getElem?_nil, List.length_cons, List.length_nil, List.length_map, List.length_append, e_lcN, e_lcC, e_forN, e_forC, List.getLast?_concat, List.dropLast_concat, List.nil_append, List.cons_append, List.append_nil, List.append_assoc, List.reverse_cons, List.reverse_nil, List.isEmpty_nil, List.isEmpty_cons, isEmpty_snoc, List.any_cons, List.any_nil, List.all_cons, List.all_nil, flatD, eqF, in_non, in_tup, in_str, in_int, in_bl, in_obj, in_fl, startA, List.map_cons, List.map_nil, List.replicate_succ, List.replicate_zero,   Nat.reduceAdd, Nat.reduceSub, Nat.reduceLeDiff, Nat.zero_add, Int.reduceLE, Int.reduceLT, Int.reduceToNat, Int.reducePow, Int.reduceNeg, Int.reduceAdd, Int.reduceSub,   Option.isSome_some, Option.isSome_none, Bool.not_true, Bool.not_false, Bool.not_eq_true', Bool.not_eq_eq_eq_not, Bool.not_eq_true, Bool.false_eq_true, Bool.true_eq_false, Bool.and_true, Bool.true_and, Bool.or_false, Bool.false_or, Bool.or_true, Bool.true_or, Bool.and_false, Bool.false_and, if_true, if_false, ite_true, ite_false, reduceIte, reduceCtorEq, decide_true, decide_false, decide_eq_true_eq, decide_eq_false_iff_not, true_and, and_true, eq_self, ne_eq, not_false_eq_true, not_true_eq_false, and_self, *])
  | im p g =>
    have hfd := Fm.d_im p g
    have z0 : (Fm.im p g).sz = p.sz + g.sz + 1 := rfl
    have e : frc pos m (.im p g) w = row.all fun v => !(frc pos m p v && !frc pos m g v) := by
      show ((m.later.getD w []).all fun v => !(frc pos m p v && !frc pos m g v)) = _
      rw [row0]
    rw [e] at q
    clear e gt a2 gr0 hgr
    try (simp only [↓e_seq, ↓e_next, ↓e_break, ↓e_cont, ↓e_expr, ↓e_ret, ↓e_retN, ↓e_if, ↓e_never, ↓e_asg, ↓e_name, ↓e_agtup, ↓e_agcons, ↓e_agnil, ↓e_agsub, ↓e_aug, ↓e_dput, ↓e_var, ↓e_c, ↓e_op, ↓e_some, ↓e_none, ↓e_test, ↓e_and, ↓e_or, ↓e_not, ↓e_yes, ↓e_truth,   ↓e_tru_bl, ↓e_tru_int, ↓e_tru_non, ↓e_tru_str, ↓e_tru_tup, ↓e_tru_obj, ↓e_chain, ↓e_orV, ↓e_andV, ↓e_notV, ↓e_ifE, ↓e_neg, ↓e_nil, ↓e_cons, ↓e_tup, ↓e_lst, ↓e_dnew, ↓e_call, ↓e_cb, ↓e_isi, ↓e_sl, ↓e_onone, ↓e_osome, ↓e_rev, ↓e_lm, ↓e_append, ↓e_extend, ↓e_pop, ↓e_join, ↓e_dget2, ↓e_sortSet, ↓e_sortS, ↓e_setd, strsOf_map, ↓e_maxI, ↓e_disp, ↓e_pairN, ↓e_pairC, intsOf_map, ↓e_for, ↓e_ilist, ↓e_itup, ↓e_rng1, ↓e_rng2, ↓e_lc, ↓e_lc2, e_lc2N, ↓e_ienum, ↓e_izip, ↓e_anyB, ↓e_allB, ↓e_mulS, blsOf_map, ↓e_set0, ↓e_sadd, ↓e_sortTx, ↓e_sortD, ↓e_repr, ↓e_extT, ↓e_sc2, ↓e_sortZ, ↓e_tupVals, ↓e_wget, ↓e_wix, ↓e_listZip, zipD_nil, zipD_cons, ↓e_dgetF, ↓e_idif, ↓e_isB, ↓e_sortI, ↓e_sortSetI,   ↓e_add_int, ↓e_add_str, ↓e_add_tup, ↓e_add_obj, ↓e_iadd_int, ↓e_iadd_str, ↓e_iadd_obj, ↓e_I, ↓e_I0, ↓e_IS_int, ↓e_IS_str, ↓e_eq_str, ↓e_ne_str, ↓e_eq_int, ↓e_ne_int, ↓e_eq_bl, ↓e_ne_bl, ↓e_isN, ↓e_notN, ↓e_ix_tup, ↓e_ix_fl, ↓e_ix_str, ↓e_ix_obj, ↓e_in_tup, ↓e_nin_tup, ↓e_len_tup, ↓e_len_fl, ↓e_len_str, ↓e_len_obj, ↓e_int_int, ↓e_tuple_tup, ↓e_tuple_obj, ↓e_list_tup, ↓e_list_obj, ↓e_dget, ↓e_din, ↓e_dnin, ↓e_lstAt, ↓e_dicAt,   e_key_int, e_key_str, e_up, e_ty_str, e_ty_tup, e_ty_int, e_ty_bl, e_ty_non, atI0, atI1, atI2, atI3, atIL, ixN0, ixN1, cut_from1, e_ite_or, e_ite_and, zln, znl, zli, zil, zni, zin, sizeLine_eq, CMul, CDiv, cpow1018, true_or, or_true, kb_strstr, kb_tupstr, kb_tuptup, kb_strtup, kb_inttup, kb_bltup, kb_nontup, kb_strbl, kb_strint, kb_intbl, kb_intint, kb_blbl, kb_blint, kb_nonbl, kb_nonint, kb_nonstr, kb_intstr, kb_blstr, kb_tupbl, kb_tupint,   List.set_cons_zero, List.set_cons_succ, List.set_nil, List.getElem?_cons_zero, List.getElem?_cons_succ, List.getElem?_nil, List.length_cons, List.length_nil, List.length_map, List.length_append, e_lcN, e_lcC, e_forN, e_forC, List.getLast?_concat, List.dropLast_concat, List.nil_append, List.cons_append, List.append_nil, List.append_assoc, List.reverse_cons, List.reverse_nil, List.isEmpty_nil, List.isEmpty_cons, isEmpty_snoc, List.any_cons, List.any_nil, List.all_cons, List.all_nil, flatD, eqF, in_non, in_tup, in_str, in_int, in_bl, in_obj, in_fl, startA, List.map_cons, List.map_nil, List.replicate_succ, List.replicate_zero,   Nat.reduceAdd, Nat.reduceSub, Nat.reduceLeDiff, Nat.zero_add, Int.reduceLE, Int.reduceLT, Int.reduceToNat, Int.reducePow, Int.reduceNeg, Int.reduceAdd, Int.reduceSub,   Option.isSome_some, Option.isSome_none, Bool.not_true, Bool.not_false, Bool.not_eq_true', Bool.not_eq_eq_eq_not, Bool.not_eq_true, Bool.false_eq_true, Bool.true_eq_false, Bool.and_true, Bool.true_and, Bool.or_false, Bool.false_or, Bool.or_true, Bool.true_or, Bool.and_false, Bool.false_and, if_true, if_false, ite_true, ite_false, reduceIte, reduceCtorEq, decide_true, decide_false, decide_eq_true_eq, decide_eq_false_iff_not, true_and, and_true, eq_self, ne_eq, not_false_eq_true, not_true_eq_false, and_self, *])
    refine for_run (fun ds env M' => ∃ (rest : List Nat) (x4 : Option D), ds = rest.map (fun k : Nat => D.int (k : Int)) ∧ env = [some m.d, some (.int w), some (.tup [.str z_if, p.d, g.d]), some (.str (if pos = true then z_positive else z_minimal)), x4] ∧ M' = M ∧ (∀ v ∈ rest, v < m.later.length) ∧ (row.all fun v => !(frc pos m p v && !frc pos m g v)) = rest.all fun v => !(frc pos m p v && !frc pos m g v)) (fun _ _ _ _ => trivial) ?_ ?_ ⟨row, none, rfl, rfl, rfl, inn, rfl⟩
    · rintro env M' ⟨rest, x4, hr, rfl, rfl, _, he⟩
      have z := List.map_eq_nil_iff.mp hr.symm
      subst z
      rw [he] at q
      have q' : Q (.bl true) M' := q
      clear hr q he
      try (simp only [↓e_seq, ↓e_next, ↓e_break, ↓e_cont, ↓e_expr, ↓e_ret, ↓e_retN, ↓e_if, ↓e_never, ↓e_asg, ↓e_name, ↓e_agtup, ↓e_agcons, ↓e_agnil, ↓e_agsub, ↓e_aug, ↓e_dput, ↓e_var, ↓e_c, ↓e_op, ↓e_some, ↓e_none, ↓e_test, ↓e_and, ↓e_or, ↓e_not, ↓e_yes, ↓e_truth,   ↓e_tru_bl, ↓e_tru_int, ↓e_tru_non, ↓e_tru_str, ↓e_tru_tup, ↓e_tru_obj, ↓e_chain, ↓e_orV, ↓e_andV, ↓e_notV, ↓e_ifE, ↓e_neg, ↓e_nil, ↓e_cons, ↓e_tup, ↓e_lst, ↓e_dnew, ↓e_call, ↓e_cb, ↓e_isi, ↓e_sl, ↓e_onone, ↓e_osome, ↓e_rev, ↓e_lm, ↓e_append, ↓e_extend, ↓e_pop, ↓e_join, ↓e_dget2, ↓e_sortSet, ↓e_sortS, ↓e_setd, strsOf_map, ↓e_maxI, ↓e_disp, ↓e_pairN, ↓e_pairC, intsOf_map, ↓e_for, ↓e_ilist, ↓e_itup, ↓e_rng1, ↓e_rng2, ↓e_lc, ↓e_lc2, e_lc2N, ↓e_ienum, ↓e_izip, ↓e_anyB, ↓e_allB, ↓e_mulS, blsOf_map, ↓e_set0, ↓e_sadd, ↓e_sortTx, ↓e_sortD, ↓e_repr, ↓e_extT, ↓e_sc2, ↓e_sortZ, ↓e_tupVals, ↓e_wget, ↓e_wix, ↓e_listZip, zipD_nil, zipD_cons, ↓e_dgetF, ↓e_idif, ↓e_isB, ↓e_sortI, ↓e_sortSetI,   ↓e_add_int, ↓e_add_str, ↓e_add_tup, ↓e_add_obj, ↓e_iadd_int, ↓e_iadd_str, ↓e_iadd_obj, ↓e_I, ↓e_I0, ↓e_IS_int, ↓e_IS_str, ↓e_eq_str, ↓e_ne_str, ↓e_eq_int, ↓e_ne_int, ↓e_eq_bl, ↓e_ne_bl, ↓e_isN, ↓e_notN, ↓e_ix_tup, ↓e_ix_fl, ↓e_ix_str, ↓e_ix_obj, ↓e_in_tup, ↓e_nin_tup, ↓e_len_tup, ↓e_len_fl, ↓e_len_str, ↓e_len_obj, ↓e_int_int, ↓e_tuple_tup, ↓e_tuple_obj, ↓e_list_tup, ↓e_list_obj, ↓e_dget, ↓e_din, ↓e_dnin, ↓e_lstAt, ↓e_dicAt,   e_key_int, e_key_str, e_up, e_ty_str, e_ty_tup, e_ty_int, e_ty_bl, e_ty_non, atI0, atI1, atI2, atI3, atIL, ixN0, ixN1, cut_from1, e_ite_or, e_ite_and, zln, znl, zli, zil, zni, zin, sizeLine_eq, CMul, CDiv, cpow1018, true_or, or_true, kb_strstr, kb_tupstr, kb_tuptup, kb_strtup, kb_inttup, kb_bltup, kb_nontup, kb_strbl, kb_strint, kb_intbl, kb_intint, kb_blbl, kb_blint, kb_nonbl, kb_nonint, kb_nonstr, kb_intstr, kb_blstr, kb_tupbl, kb_tupint,   List.set_cons_zero, List.set_cons_succ, List.set_nil, List.getElem?_cons_zero, List.getElem?_cons_succ, List.getElem?_nil, List.length_cons, List.length_nil, List.length_map, List.length_append, e_lcN, e_lcC, e_forN, e_forC, List.getLast?_concat, List.dropLast_concat, List.nil_append, List.cons_append, List.append_nil, List.append_assoc, List.reverse_cons, List.reverse_nil, List.isEmpty_nil, List.isEmpty_cons, isEmpty_snoc, List.any_cons, List.any_nil, List.all_cons, List.all_nil, flatD, eqF, in_non, in_tup, in_str, in_int, in_bl, in_obj, in_fl, startA, List.map_cons, List.map_nil, List.replicate_succ, List.replicate_zero,   Nat.reduceAdd, Nat.reduceSub, Nat.reduceLeDiff, Nat.zero_add, Int.reduceLE, Int.reduceLT, Int.reduceToNat, Int.reducePow, Int.reduceNeg, Int.reduceAdd, Int.reduceSub,   Option.isSome_some, Option.isSome_none, Bool.not_true, Bool.not_false, Bool.not_eq_true', Bool.not_eq_eq_eq_not, Bool.not_eq_true, Bool.false_eq_true, Bool.true_eq_false, Bool.and_true, Bool.true_and, Bool.or_false, Bool.false_or, Bool.or_true, Bool.true_or, Bool.and_false, Bool.false_and, if_true, if_false, ite_true, ite_false, reduceIte, reduceCtorEq, decide_true, decide_false, decide_eq_true_eq, decide_eq_false_iff_not, true_and, and_true, eq_self, ne_eq, not_false_eq_true, not_true_eq_false, and_self, *])
    · rintro d r N env M' ⟨rest, x4, hr, rfl, rfl, hin, he⟩ next
      cases rest with
      | nil => cases hr
      | cons v rest =>
        rw [List.map_cons] at hr
        injection hr with hr1 hr2
        subst hr1 hr2
        rw [List.all_cons] at he
        have hv := hin v List.mem_cons_self
        have tp : p.Tiny ∧ g.Tiny := hf.im
        try (simp only [↓e_seq, ↓e_next, ↓e_break, ↓e_cont, ↓e_expr, ↓e_ret, ↓e_retN, ↓e_if, ↓e_never, ↓e_asg, ↓e_name, ↓e_agtup, ↓e_agcons, ↓e_agnil, ↓e_agsub, ↓e_aug, ↓e_dput, ↓e_var, ↓e_c, ↓e_op, ↓e_some, ↓e_none, ↓e_test, ↓e_and, ↓e_or, ↓e_not, ↓e_yes, ↓e_truth,   ↓e_tru_bl, ↓e_tru_int, ↓e_tru_non, ↓e_tru_str, ↓e_tru_tup, ↓e_tru_obj, ↓e_chain, ↓e_orV, ↓e_andV, ↓e_notV, ↓e_ifE, ↓e_neg, ↓e_nil, ↓e_cons, ↓e_tup, ↓e_lst, ↓e_dnew, ↓e_call, ↓e_cb, ↓e_isi, ↓e_sl, ↓e_onone, ↓e_osome, ↓e_rev, ↓e_lm, ↓e_append, ↓e_extend, ↓e_pop, ↓e_join, ↓e_dget2, ↓e_sortSet, ↓e_sortS, ↓e_setd, strsOf_map, ↓e_maxI, ↓e_disp, ↓e_pairN, ↓e_pairC, intsOf_map, ↓e_for, ↓e_ilist, ↓e_itup, ↓e_rng1, ↓e_rng2, ↓e_lc, ↓e_lc2, e_lc2N, ↓e_ienum, ↓e_izip, ↓e_anyB, ↓e_allB, ↓e_mulS, blsOf_map, ↓e_set0, ↓e_sadd, ↓e_sortTx, ↓e_sortD, ↓e_repr, ↓e_extT, ↓e_sc2, ↓e_sortZ, ↓e_tupVals, ↓e_wget, ↓e_wix, ↓e_listZip, zipD_nil, zipD_cons, ↓e_dgetF, ↓e_idif, ↓e_isB, ↓e_sortI, ↓e_sortSetI,   ↓e_add_int, ↓e_add_str, ↓e_add_tup, ↓e_add_obj, ↓e_iadd_int, ↓e_iadd_str, ↓e_iadd_obj, ↓e_I, ↓e_I0, ↓e_IS_int, ↓e_IS_str, ↓e_eq_str, ↓e_ne_str, ↓e_eq_int, ↓e_ne_int, ↓e_eq_bl, ↓e_ne_bl, ↓e_isN, ↓e_notN, ↓e_ix_tup, ↓e_ix_fl, ↓e_ix_str, ↓e_ix_obj, ↓e_in_tup, ↓e_nin_tup, ↓e_len_tup, ↓e_len_fl, ↓e_len_str, ↓e_len_obj, ↓e_int_int, ↓e_tuple_tup, ↓e_tuple_obj, ↓e_list_tup, ↓e_list_obj, ↓e_dget, ↓e_din, ↓e_dnin, ↓e_lstAt, ↓e_dicAt,   e_key_int, e_key_str, e_up, e_ty_str, e_ty_tup, e_ty_int, e_ty_bl, e_ty_non, atI0, atI1, atI2, atI3, atIL, ixN0, ixN1, cut_from1, e_ite_or, e_ite_and, zln, znl, zli, zil, zni, zin, sizeLine_eq, CMul, CDiv, cpow1018, true_or, or_true, kb_strstr, kb_tupstr, kb_tuptup, kb_strtup, kb_inttup, kb_bltup, kb_nontup, kb_strbl, kb_strint, kb_intbl, kb_intint, kb_blbl, kb_blint, kb_nonbl, kb_nonint, kb_nonstr, kb_intstr, kb_blstr, kb_tupbl, kb_tupint,   List.set_cons_zero, List.set_cons_succ, List.set_nil, List.getElem?_cons_zero, List.getElem?_cons_succ, List.getElem?_nil, List.length_cons, List.length_nil, List.length_map, List.length_append, e_lcN, e_lcC, e_forN, e_forC, List.getLast?_concat, List.dropLast_concat, List.nil_append, List.cons_append, List.append_nil, List.append_assoc, List.reverse_cons, List.reverse_nil, List.isEmpty_nil, List.isEmpty_cons, isEmpty_snoc, List.any_cons, List.any_nil, List.all_cons, List.all_nil, flatD, eqF, in_non, in_tup, in_str, in_int, in_bl, in_obj, in_fl, startA, List.map_cons, List.map_nil, List.replicate_succ, List.replicate_zero,   Nat.reduceAdd, Nat.reduceSub, Nat.reduceLeDiff, Nat.zero_add, Int.reduceLE, Int.reduceLT, Int.reduceToNat, Int.reducePow, Int.reduceNeg, Int.reduceAdd, Int.reduceSub,   Option.isSome_some, Option.isSome_none, Bool.not_true, Bool.not_false, Bool.not_eq_true', Bool.not_eq_eq_eq_not, Bool.not_eq_true, Bool.false_eq_true, Bool.true_eq_false, Bool.and_true, Bool.true_and, Bool.or_false, Bool.false_or, Bool.or_true, Bool.true_or, Bool.and_false, Bool.false_and, if_true, if_false, ite_true, ite_false, reduceIte, reduceCtorEq, decide_true, decide_false, decide_eq_true_eq, decide_eq_false_iff_not, true_and, and_true, eq_self, ne_eq, not_false_eq_true, not_true_eq_false, and_self, *])
        refine ⟨rfl, m, v, p, pos, rfl, by omega, tp.1, hv, ok, ?_⟩
        cases c1 : frc pos m p v with
        | false =>
          rw [c1] at he
          have go := next [some m.d, some (.int w), some (.tup [.str z_if, p.d, g.d]), some (.str (if pos = true then z_positive else z_minimal)), some (.int v)] M' ⟨rest, _, rfl, rfl, rfl, fun u hu => hin u (List.mem_cons_of_mem _ hu), he⟩
          clear next he q
          try (simp only [↓e_seq, ↓e_next, ↓e_break, ↓e_cont, ↓e_expr, ↓e_ret, ↓e_retN, ↓e_if, ↓e_never, ↓e_asg, ↓e_name, ↓e_agtup, ↓e_agcons, ↓e_agnil, ↓e_agsub, ↓e_aug, ↓e_dput, ↓e_var, ↓e_c, ↓e_op, ↓e_some, ↓e_none, ↓e_test, ↓e_and, ↓e_or, ↓e_not, ↓e_yes, ↓e_truth,   ↓e_tru_bl, ↓e_tru_int, ↓e_tru_non, ↓e_tru_str, ↓e_tru_tup, ↓e_tru_obj, ↓e_chain, ↓e_orV, ↓e_andV, ↓e_notV, ↓e_ifE, ↓e_neg, ↓e_nil, ↓e_cons, ↓e_tup, ↓e_lst, ↓e_dnew, ↓e_call, ↓e_cb, ↓e_isi, ↓e_sl, ↓e_onone, ↓e_osome, ↓e_rev, ↓e_lm, ↓e_append, ↓e_extend, ↓e_pop, ↓e_join, ↓e_dget2, ↓e_sortSet, ↓e_sortS, ↓e_setd, strsOf_map, ↓e_maxI, ↓e_disp, ↓e_pairN, ↓e_pairC, intsOf_map, ↓e_for, ↓e_ilist, ↓e_itup, ↓e_rng1, ↓e_rng2, ↓e_lc, ↓e_lc2, e_lc2N, ↓e_ienum, ↓e_izip, ↓e_anyB, ↓e_allB, ↓e_mulS, blsOf_map, ↓e_set0, ↓e_sadd, ↓e_sortTx, ↓e_sortD, ↓e_repr, ↓e_extT, ↓e_sc2, ↓e_sortZ, ↓e_tupVals, ↓e_wget, ↓e_wix, ↓e_listZip, zipD_nil, zipD_cons, ↓e_dgetF, ↓e_idif, ↓e_isB, ↓e_sortI, ↓e_sortSetI,   ↓e_add_int, ↓e_add_str, ↓e_add_tup, ↓e_add_obj, ↓e_iadd_int, ↓e_iadd_str, ↓e_iadd_obj, ↓e_I, ↓e_I0, ↓e_IS_int, ↓e_IS_str, ↓e_eq_str, ↓e_ne_str, ↓e_eq_int, ↓e_ne_int, ↓e_eq_bl, ↓e_ne_bl, ↓e_isN, ↓e_notN, ↓e_ix_tup, ↓e_ix_fl, ↓e_ix_str, ↓e_ix_obj, ↓e_in_tup, ↓e_nin_tup, ↓e_len_tup, ↓e_len_fl, ↓e_len_str, ↓e_len_obj, ↓e_int_int, ↓e_tuple_tup, ↓e_tuple_obj, ↓e_list_tup, ↓e_list_obj, ↓e_dget, ↓e_din, ↓e_dnin, ↓e_lstAt, ↓e_dicAt,   e_key_int, e_key_str, e_up, e_ty_str, e_ty_tup, e_ty_int, e_ty_bl, e_ty_non, atI0, atI1, atI2, atI3, atIL, ixN0, ixN1, cut_from1, e_ite_or, e_ite_and, zln, znl, zli, zil, zni, zin, sizeLine_eq, CMul, CDiv, cpow1018, true_or, or_true, kb_strstr, kb_tupstr, kb_tuptup, kb_strtup, kb_inttup, kb_bltup, kb_nontup, kb_strbl, kb_strint, kb_intbl, kb_intint, kb_blbl, kb_blint, kb_nonbl, kb_nonint, kb_nonstr, kb_intstr, kb_blstr, kb_tupbl, kb_tupint,   List.set_cons_zero, List.set_cons_succ, List.set_nil, List.getElem?_cons_zero, List.getElem?_cons_succ, List.getElem?_nil, List.length_cons, List.length_nil, List.length_map, List.length_append, e_lcN, e_lcC, e_forN, e_forC, List.getLast?_concat, List.dropLast_concat, List.nil_append, List.cons_append, List.append_nil, List.append_assoc, List.reverse_cons, List.reverse_nil, List.isEmpty_nil, List.isEmpty_cons, isEmpty_snoc, List.any_cons, List.any_nil, List.all_cons, List.all_nil, flatD, eqF, in_non, in_tup, in_str, in_int, in_bl, in_obj, in_fl, startA, List.map_cons, List.map_nil, List.replicate_succ, List.replicate_zero,   Nat.reduceAdd, Nat.reduceSub, Nat.reduceLeDiff, Nat.zero_add, Int.reduceLE, Int.reduceLT, Int.reduceToNat, Int.reducePow, Int.reduceNeg, Int.reduceAdd, Int.reduceSub,   Option.isSome_some, Option.isSome_none, Bool.not_true, Bool.not_false, Bool.not_eq_true', Bool.not_eq_eq_eq_not, Bool.not_eq_true, Bool.false_eq_true, Bool.true_eq_false, Bool.and_true, Bool.true_and, Bool.or_false, Bool.false_or, Bool.or_true, Bool.true_or, Bool.and_false, Bool.false_and, if_true, if_false, ite_true, ite_false, reduceIte, reduceCtorEq, decide_true, decide_false, decide_eq_true_eq, decide_eq_false_iff_not, true_and, and_true, eq_self, ne_eq, not_false_eq_true, not_true_eq_false, and_self, *])
        | true =>
          try (simp only [↓e_seq, ↓e_next, ↓e_break, ↓e_cont, ↓e_expr, ↓e_ret, ↓e_retN, ↓e_if, ↓e_never, ↓e_asg, ↓e_name, ↓e_agtup, ↓e_agcons, ↓e_agnil, ↓e_agsub, ↓e_aug, ↓e_dput, ↓e_var, ↓e_c, ↓e_op, ↓e_some, ↓e_none, ↓e_test, ↓e_and, ↓e_or, ↓e_not, ↓e_yes, ↓e_truth,   ↓e_tru_bl, ↓e_tru_int, ↓e_tru_non, ↓e_tru_str, ↓e_tru_tup, ↓e_tru_obj, ↓e_chain, ↓e_orV, ↓e_andV, ↓e_notV, ↓e_ifE, ↓e_neg, ↓e_nil, ↓e_cons, ↓e_tup, ↓e_lst, ↓e_dnew, ↓e_call, ↓e_cb, ↓e_isi, ↓e_sl, ↓e_onone, ↓e_osome, ↓e_rev, ↓e_lm, ↓e_append, ↓e_extend, ↓e_pop, ↓e_join, ↓e_dget2, ↓e_sortSet, ↓e_sortS, ↓e_setd, strsOf_map, ↓e_maxI, ↓e_disp, ↓e_pairN, ↓e_pairC, intsOf_map, ↓e_for, ↓e_ilist, ↓e_itup, ↓e_rng1, ↓e_rng2, ↓e_lc, ↓e_lc2, e_lc2N, ↓e_ienum, ↓e_izip, ↓e_anyB, ↓e_allB, ↓e_mulS, blsOf_map, ↓e_set0, ↓e_sadd, ↓e_sortTx, ↓e_sortD, ↓e_repr, ↓e_extT, ↓e_sc2, ↓e_sortZ, ↓e_tupVals, ↓e_wget, ↓e_wix, ↓e_listZip, zipD_nil, zipD_cons, ↓e_dgetF, ↓e_idif, ↓e_isB, ↓e_sortI, ↓e_sortSetI,   ↓e_add_int, ↓e_add_str, ↓e_add_tup, ↓e_add_obj, ↓e_iadd_int, ↓e_iadd_str, ↓e_iadd_obj, ↓e_I, ↓e_I0, ↓e_IS_int, ↓e_IS_str, ↓e_eq_str, ↓e_ne_str, ↓e_eq_int, ↓e_ne_int, ↓e_eq_bl, ↓e_ne_bl, ↓e_isN, ↓e_notN, ↓e_ix_tup, ↓e_ix_fl, ↓e_ix_str, ↓e_ix_obj, ↓e_in_tup, ↓e_nin_tup, ↓e_len_tup, ↓e_len_fl, ↓e_len_str, ↓e_len_obj, ↓e_int_int, ↓e_tuple_tup, ↓e_tuple_obj, ↓e_list_tup, ↓e_list_obj, ↓e_dget, ↓e_din, ↓e_dnin, ↓e_lstAt, ↓e_dicAt,   e_key_int, e_key_str, e_up, e_ty_str, e_ty_tup, e_ty_int, e_ty_bl, e_ty_non, atI0, atI1, atI2, atI3, atIL, ixN0, ixN1, cut_from1, e_ite_or, e_ite_and, zln, znl, zli, zil, zni, zin, sizeLine_eq, CMul, CDiv, cpow1018, true_or, or_true, kb_strstr, kb_tupstr, kb_tuptup, kb_strtup, kb_inttup, kb_bltup, kb_nontup, kb_strbl, kb_strint, kb_intbl, kb_intint, kb_blbl, kb_blint, kb_nonbl, kb_nonint, kb_nonstr, kb_intstr, kb_blstr, kb_tupbl, kb_tupint,   List.set_cons_zero, List.set_cons_succ, List.set_nil, List.getElem?_cons_zero, List.getElem?_cons_succ, List.getElem?_nil, List.length_cons, List.length_nil, List.length_map, List.length_append, e_lcN, e_lcC, e_forN, e_forC, List.getLast?_concat, List.dropLast_concat, List.nil_append, List.cons_append, List.append_nil, List.append_assoc, List.reverse_cons, List.reverse_nil, List.isEmpty_nil, List.isEmpty_cons, isEmpty_snoc, List.any_cons, List.any_nil, List.all_cons, List.all_nil, flatD, eqF, in_non, in_tup, in_str, in_int, in_bl, in_obj, in_fl, startA, List.map_cons, List.map_nil, List.replicate_succ, List.replicate_zero,   Nat.reduceAdd, Nat.reduceSub, Nat.reduceLeDiff, Nat.zero_add, Int.reduceLE, Int.reduceLT, Int.reduceToNat, Int.reducePow, Int.reduceNeg, Int.reduceAdd, Int.reduceSub,   Option.isSome_some, Option.isSome_none, Bool.not_true, Bool.not_false, Bool.not_eq_true', Bool.not_eq_eq_eq_not, Bool.not_eq_true, Bool.false_eq_true, Bool.true_eq_false, Bool.and_true, Bool.true_and, Bool.or_false, Bool.false_or, Bool.or_true, Bool.true_or, Bool.and_false, Bool.false_and, if_true, if_false, ite_true, ite_false, reduceIte, reduceCtorEq, decide_true, decide_false, decide_eq_true_eq, decide_eq_false_iff_not, true_and, and_true, eq_self, ne_eq, not_false_eq_true, not_true_eq_false, and_self, *])
          refine ⟨rfl, m, v, g, pos, rfl, by omega, tp.2, hv, ok, ?_⟩
          rw [c1] at he
          cases c2 : frc pos m g v with
          | true =>
            rw [c2] at he
            have go := next [some m.d, some (.int w), some (.tup [.str z_if, p.d, g.d]), some (.str (if pos = true then z_positive else z_minimal)), some (.int v)] M' ⟨rest, _, rfl, rfl, rfl, fun u hu => hin u (List.mem_cons_of_mem _ hu), he⟩
            clear next he q
            try (simp only [↓e_seq, ↓e_next, ↓e_break, ↓e_cont, ↓e_expr, ↓e_ret, ↓e_retN, ↓e_if, ↓e_never, ↓e_asg, ↓e_name, ↓e_agtup, ↓e_agcons, ↓e_agnil, ↓e_agsub, ↓e_aug, ↓e_dput, ↓e_var, ↓e_c, ↓e_op, ↓e_some, ↓e_none, ↓e_test, ↓e_and, ↓e_or, ↓e_not, ↓e_yes, ↓e_truth,   ↓e_tru_bl, ↓e_tru_int, ↓e_tru_non, ↓e_tru_str, ↓e_tru_tup, ↓e_tru_obj, ↓e_chain, ↓e_orV, ↓e_andV, ↓e_notV, ↓e_ifE, ↓e_neg, ↓e_nil, ↓e_cons, ↓e_tup, ↓e_lst, ↓e_dnew, ↓e_call, ↓e_cb, ↓e_isi, ↓e_sl, ↓e_onone, ↓e_osome, ↓e_rev, ↓e_lm, ↓e_append, ↓e_extend, ↓e_pop, ↓e_join, ↓e_dget2, ↓e_sortSet, ↓e_sortS, ↓e_setd, strsOf_map, ↓e_maxI, ↓e_disp, ↓e_pairN, ↓e_pairC, intsOf_map, ↓e_for, ↓e_ilist, ↓e_itup, ↓e_rng1, ↓e_rng2, ↓e_lc, ↓e_lc2, e_lc2N, ↓e_ienum, ↓e_izip, ↓e_anyB, ↓e_allB, ↓e_mulS, blsOf_map, ↓e_set0, ↓e_sadd, ↓e_sortTx, ↓e_sortD, ↓e_repr, ↓e_extT, ↓e_sc2, ↓e_sortZ, ↓e_tupVals, ↓e_wget, ↓e_wix, ↓e_listZip, zipD_nil, zipD_cons, ↓e_dgetF, ↓e_idif, ↓e_isB, ↓e_sortI, ↓e_sortSetI,   ↓e_add_int, ↓e_add_str, ↓e_add_tup, ↓e_add_obj, ↓e_iadd_int, ↓e_iadd_str, ↓e_iadd_obj, ↓e_I, ↓e_I0, ↓e_IS_int, ↓e_IS_str, ↓e_eq_str, ↓e_ne_str, ↓e_eq_int, ↓e_ne_int, ↓e_eq_bl, ↓e_ne_bl, ↓e_isN, ↓e_notN, ↓e_ix_tup, ↓e_ix_fl, ↓e_ix_str, ↓e_ix_obj, ↓e_in_tup, ↓e_nin_tup, ↓e_len_tup, ↓e_len_fl, ↓e_len_str, ↓e_len_obj, ↓e_int_int, ↓e_tuple_tup, ↓e_tuple_obj, ↓e_list_tup, ↓e_list_obj, ↓e_dget, ↓e_din, ↓e_dnin, ↓e_lstAt, ↓e_dicAt,   e_key_int, e_key_str, e_up, e_ty_str, e_ty_tup, e_ty_int, e_ty_bl, e_ty_non, atI0, atI1, atI2, atI3, atIL, ixN0, ixN1, cut_from1, e_ite_or, e_ite_and, zln, znl, zli, zil, zni, zin, sizeLine_eq, CMul, CDiv, cpow1018, true_or, or_true, kb_strstr, kb_tupstr, kb_tuptup, kb_strtup, kb_inttup, kb_bltup, kb_nontup, kb_strbl, kb_strint, kb_intbl, kb_intint, kb_blbl, kb_blint, kb_nonbl, kb_nonint, kb_nonstr, kb_intstr, kb_blstr, kb_tupbl, kb_tupint,   List.set_cons_zero, List.set_cons_succ, List.set_nil, List.getElem?_cons_zero, List.getElem?_cons_succ, List.getElem?_nil, List.length_cons, List.length_nil, List.length_map, List.length_append, e_lcN, e_lcC, e_forN, e_forC, List.getLast?_concat, List.dropLast_concat, List.nil_append, List.cons_append, List.append_nil, List.append_assoc, List.reverse_cons, List.reverse_nil, List.isEmpty_nil, List.isEmpty_cons, isEmpty_snoc, List.any_cons, List.any_nil, List.all_cons, List.all_nil, flatD, eqF, in_non, in_tup, in_str, in_int, in_bl, in_obj, in_fl, startA, List.map_cons, List.map_nil, List.replicate_succ, List.replicate_zero,   Nat.reduceAdd, Nat.reduceSub, Nat.reduceLeDiff, Nat.zero_add, Int.reduceLE, Int.reduceLT, Int.reduceToNat, Int.reducePow, Int.reduceNeg, Int.reduceAdd, Int.reduceSub,   Option.isSome_some, Option.isSome_none, Bool.not_true, Bool.not_false, Bool.not_eq_true', Bool.not_eq_eq_eq_not, Bool.not_eq_true, Bool.false_eq_true, Bool.true_eq_false, Bool.and_true, Bool.true_and, Bool.or_false, Bool.false_or, Bool.or_true, Bool.true_or, Bool.and_false, Bool.false_and, if_true, if_false, ite_true, ite_false, reduceIte, reduceCtorEq, decide_true, decide_false, decide_eq_true_eq, decide_eq_false_iff_not, true_and, and_true, eq_self, ne_eq, not_false_eq_true, not_true_eq_false, and_self, *])
          | false =>
            rw [c2] at he
            rw [he] at q
            have q' : Q (.bl false) M' := q
            clear next he q
            try (simp only [↓e_seq, ↓e_next, ↓e_break, ↓e_cont, ↓e_expr, ↓e_ret, ↓e_retN, ↓e_if, ↓e_never, ↓e_asg, ↓e_name, ↓e_agtup, ↓e_agcons, ↓e_agnil, ↓e_agsub, ↓e_aug, ↓e_dput, ↓e_var, ↓e_c, ↓e_op, ↓e_some, ↓e_none, ↓e_test, ↓e_and, ↓e_or, ↓e_not, ↓e_yes, ↓e_truth,   ↓e_tru_bl, ↓e_tru_int, ↓e_tru_non, ↓e_tru_str, ↓e_tru_tup, ↓e_tru_obj, ↓e_chain, ↓e_orV, ↓e_andV, ↓e_notV, ↓e_ifE, ↓e_neg, ↓e_nil, ↓e_cons, ↓e_tup, ↓e_lst, ↓e_dnew, ↓e_call, ↓e_cb, ↓e_isi, ↓e_sl, ↓e_onone, ↓e_osome, ↓e_rev, ↓e_lm, ↓e_append, ↓e_extend, ↓e_pop, ↓e_join, ↓e_dget2, ↓e_sortSet, ↓e_sortS, ↓e_setd, strsOf_map, ↓e_maxI, ↓e_disp, ↓e_pairN, ↓e_pairC, intsOf_map, ↓e_for, ↓e_ilist, ↓e_itup, ↓e_rng1, ↓e_rng2, ↓e_lc, ↓e_lc2, e_lc2N, ↓e_ienum, ↓e_izip, ↓e_anyB, ↓e_allB, ↓e_mulS, blsOf_map, ↓e_set0, ↓e_sadd, ↓e_sortTx, ↓e_sortD, ↓e_repr, ↓e_extT, ↓e_sc2, ↓e_sortZ, ↓e_tupVals, ↓e_wget, ↓e_wix, ↓e_listZip, zipD_nil, zipD_cons, ↓e_dgetF, ↓e_idif, ↓e_isB, ↓e_sortI, ↓e_sortSetI,   ↓e_add_int, ↓e_add_str, ↓e_add_tup, ↓e_add_obj, ↓e_iadd_int, ↓e_iadd_str, ↓e_iadd_obj, ↓e_I, ↓e_I0, ↓e_IS_int, ↓e_IS_str, ↓e_eq_str, ↓e_ne_str, ↓e_eq_int, ↓e_ne_int, ↓e_eq_bl, ↓e_ne_bl, ↓e_isN, ↓e_notN, ↓e_ix_tup, ↓e_ix_fl, ↓e_ix_str, ↓e_ix_obj, ↓e_in_tup, ↓e_nin_tup, ↓e_len_tup, ↓e_len_fl, ↓e_len_str, ↓e_len_obj, ↓e_int_int, ↓e_tuple_tup, ↓e_tuple_obj, ↓e_list_tup, ↓e_list_obj, ↓e_dget, ↓e_din, ↓e_dnin, ↓e_lstAt, ↓e_dicAt,   e_key_int, e_key_str, e_up, e_ty_str, e_ty_tup, e_ty_int, e_ty_bl, e_ty_non, atI0, atI1, atI2, atI3, atIL, ixN0, ixN1, cut_from1, e_ite_or, e_ite_and, zln, znl, zli, zil, zni, zin, sizeLine_eq, CMul, CDiv, cpow1018, true_or, or_true, kb_strstr, kb_tupstr, kb_tuptup, kb_strtup, kb_inttup, kb_bltup, kb_nontup, kb_strbl, kb_strint, kb_intbl, kb_intint, kb_blbl, kb_blint, kb_nonbl, kb_nonint, kb_nonstr, kb_intstr, kb_blstr, kb_tupbl, kb_tupint,   List.set_cons_zero, List.set_cons_succ, List.set_nil, List.getElem?_cons_zero, List.getElem?_cons_succ, List.getElem?_nil, List.length_cons, List.length_nil, List.length_map, List.length_append, e_lcN, e_lcC, e_forN, e_forC, List.getLast?_concat, List.dropLast_concat, List.nil_append, List.cons_append, List.append_nil, List.append_assoc, List.reverse_cons, List.reverse_nil, List.isEmpty_nil, List.isEmpty_cons, isEmpty_snoc, List.any_cons, List.any_nil, List.all_cons, List.all_nil, flatD, eqF, in_non, in_tup, in_str, in_int, in_bl, in_obj, in_fl, startA, List.map_cons, List.map_nil, List.replicate_succ, List.replicate_zero,   Nat.reduceAdd, Nat.reduceSub, Nat.reduceLeDiff, Nat.zero_add, Int.reduceLE, Int.reduceLT, Int.reduceToNat, Int.reducePow, Int.reduceNeg, Int.reduceAdd, Int.reduceSub,   Option.isSome_some, Option.isSome_none, Bool.not_true, Bool.not_false, Bool.not_eq_true', Bool.not_eq_eq_eq_not, Bool.not_eq_true, Bool.false_eq_true, Bool.true_eq_false, Bool.and_true, Bool.true_and, Bool.or_false, Bool.false_or, Bool.or_true, Bool.true_or, Bool.and_false, Bool.false_and, if_true, if_false, ite_true, ite_false, reduceIte, reduceCtorEq, decide_true, decide_false, decide_eq_true_eq, decide_eq_false_iff_not, true_and, and_true, eq_self, ne_eq, not_false_eq_true, not_true_eq_false, and_self, *])

theorem lc_map {α : Type} {chk : Sto → Prop} {i : Nat} {e : ATE} {ax : AX} {env : AEnv} {f g : α → D} {M1 : Sto} {Q : List D → Sto → Prop} (xs : List α) (hc : ∀ M', Ext M1 M' → chk M') (q : ∀ M', Ext M1 M' → Q (xs.map g) M')
    (turn : ∀ x ∈ xs, ∀ M' (N : D → Sto → Prop), Ext M1 M' → (∀ M2, Ext M1 M2 → N (g x) M2) → e ax (env.set i (some (f x))) M' N) : aLcGo chk i aYes e ax env (xs.map f) [] M1 Q := by
  refine lc_run (fun ds acc M' => ∃ (done rest : List α), ds = rest.map f ∧ acc = done.map g ∧ xs = done ++ rest ∧ Ext M1 M') ?_ ?_ ?_ ⟨[], xs, rfl, rfl, rfl, Ext.refl M1⟩
  · rintro ds acc M' ⟨_, _, _, _, _, h⟩
    exact hc M' h
  · rintro acc M' ⟨done, rest, hr, rfl, hx, he⟩
    have z := List.map_eq_nil_iff.mp hr.symm
    subst z
    rw [List.append_nil] at hx
    subst hx
    exact q M' he
  · rintro y r acc M' N ⟨done, rest, hr, rfl, hx, he⟩ next
    cases rest with
    | nil => cases hr
    | cons x rest =>
      rw [List.map_cons] at hr
      injection hr with hr1 hr2
      subst hr1 hr2
      show (if true = true then e ax (env.set i (some (f x))) M' (fun y M2 => N (done.map g ++ [y]) M2) else N (done.map g) M')
      rw [if_pos rfl]
      exact turn x (by rw [hx]; exact List.mem_append_right _ List.mem_cons_self) M' _ he fun M2 e2 => next _ _ ⟨done ++ [x], rest, rfl, by rw [List.map_append]; rfl, by rw [hx, List.append_assoc]; rfl, e2⟩
def wsD (n : Nat) (F : Nat → Bool) : List D := (List.range n).map fun w => D.bl (F w)
theorem ws_at {n w : Nat} (h : w < n) (F : Nat → Bool) : atI (wsD n F) (w : Int) = some (.bl (F w)) := by
  rw [atIn]
  unfold wsD
  rw [List.getElem?_map, List.getElem?_range h]
  rfl
theorem ws_len (n : Nat) (F : Nat → Bool) : (wsD n F).length = n := by unfold wsD; rw [List.length_map, List.length_range]
theorem rows_ws {α : Type} (rs : List α) (dflt : α) (g : α → Bool) : rs.map (fun r => D.bl (g r)) = wsD rs.length fun w => g (rs.getD w dflt) := by
  unfold wsD
  refine List.ext_getElem? fun k => ?_
  rw [List.getElem?_map, List.getElem?_map]
  by_cases h : k < rs.length
  · rw [List.getElem?_range h, List.getElem?_eq_getElem h]
    show some (D.bl (g rs[k])) = some (D.bl (g (rs.getD k dflt)))
    rw [List.getD_eq_getElem?_getD, List.getElem?_eq_getElem h]
    rfl
  · rw [List.getElem?_eq_none (by omega), List.getElem?_eq_none (by rw [List.length_range]; omega)]
    rfl
theorem rngD_range : ∀ (m : Nat) (a : Int), rngD a m = (List.range m).map fun k : Nat => D.int (a + (k : Int))
  | 0, a => rfl
  | m + 1, a => by
    rw [List.range_succ_eq_map, List.map_cons, List.map_map]
    have e : rngD a (m + 1) = D.int a :: rngD (a + 1) m := rfl
    rw [e, rngD_range m (a + 1)]
    refine congr (congrArg List.cons ?_) (List.map_congr_left fun k _ => ?_)
    · show D.int a = D.int (a + ((0 : Nat) : Int))
      rw [show a + ((0 : Nat) : Int) = a by omega]
    · show D.int (a + 1 + (k : Int)) = D.int (a + ((k + 1 : Nat) : Int))
      rw [show a + 1 + (k : Int) = a + ((k + 1 : Nat) : Int) by omega]
theorem rng0 (n : Nat) : rngD 0 ((n : Int)).toNat = (List.range n).map fun k : Nat => D.int (k : Int) := by
  rw [Int.toNat_natCast, rngD_range]
  refine List.map_congr_left fun k _ => ?_
  rw [Int.zero_add]
theorem zip_ws (n : Nat) (c d : Nat → Bool) : zipD (wsD n c) (wsD n d) = (List.range n).map fun w => D.tup [.bl (c w), .bl (d w)] := by
  unfold wsD
  generalize List.range n = l
  induction l with
  | nil => rfl
  | cons a l ih => rw [List.map_cons, List.map_cons, List.map_cons, zipD_cons, ih]
def A_holding (L : Nat) : ASp := fun ds M Q _ => ∃ (m : Mdl) (f : Fm) (pos : Bool), ds = [m.d, f.d, .str (if pos = true then z_positive else z_minimal)] ∧ f.sz ≤ L ∧ f.Tiny ∧ m.Ok ∧ m.later.length ≤ 1000 ∧ (∀ r ∈ m.later, r.length ≤ 1000) ∧
  ∀ p M', M p = none → Ext M M' → M' p = some (.lst (wsD m.later.length (frc pos m f))) → Q (.obj p) M'
theorem p_holding (L : Nat) (ds : List D) (M : Sto) (Q : D → Sto → Prop) (Xa) (hl : ds.length = 3) (h : A_holding (L + 1) ds M Q Xa) : a_holding (A_holding L) ax0 (Done Q) (startA ["model", "formula", "strength", "_", "later", "true", "broken", "conditions", "consequences", "faults", "held", "first", "second", "world", "formulas", "seen"] ds) M := by
  obtain ⟨m, f, pos, rfl, hL, hf, ok, n1, n2, q⟩ := h
  unfold a_holding
  have md : m.d = .tup [.str z_model, .tup (m.later.map natsD), .tup (m.giv.map fmsD), natsD m.brk] := rfl
  have gl := ok.len
  have z1 := zpm
  have z2 := zmp
  have fin : ∀ (M' : Sto) (F : Nat → Bool) (pf : Addr) (env : AEnv), Ext M M' → M' pf = some (.lst (wsD m.later.length F)) → env[9]? = some (some (.obj pf)) → 15 < env.length → (∀ w, frc pos m f w = !((m.later.getD w []).any F)) →
      aLcGo (fun _ => True) 15 aYes (aNotV (aCB ρAny (aCons (aLc (aITup (aVar 15)) 13 aYes (aOp ρIx (aVar 9) (aVar 13))) aNil))) ax0 env (m.later.map natsD) [] M' (fun acc M2 => New (.lst acc) M2 Q) := fun M' F pf env e1 hp h9 hlen hF => by
    refine lc_map (g := fun r => D.bl (!(r.any F))) m.later (fun _ _ => trivial) (fun M2 e2 => ?_) fun r hr M2 N e2 next => ?_
    · intro o no
      rw [rows_ws m.later [] (fun r => !(r.any F))]
      have same : (fun w => !((m.later.getD w []).any F)) = frc pos m f := funext fun w => (hF w).symm
      rw [same]
      have e3 := e1.trans e2
      exact q o _ (e3.none no) (e3.trans (Ext.new no)) up_same
    · have e9 : (env.set 15 (some (natsD r)))[9]? = some (some (.obj pf)) := by rw [List.getElem?_set_ne (by decide)]; exact h9
      have e15 : (env.set 15 (some (natsD r)))[15]? = some (some (natsD r)) := List.getElem?_set_self hlen
      have nr : natsD r = .tup (r.map fun k : Nat => D.int (k : Int)) := rfl
      have rl := n2 r hr
      have l13 : 13 < (env.set 15 (some (natsD r))).length := by rw [List.length_set]; omega
      generalize env.set 15 (some (natsD r)) = env2 at *
      try (simp only [↓e_seq, ↓e_next, ↓e_break, ↓e_cont, ↓e_expr, ↓e_ret, ↓e_retN, ↓e_if, ↓e_never, ↓e_asg, ↓e_name, ↓e_agtup, ↓e_agcons, ↓e_agnil, ↓e_agsub, ↓e_aug, ↓e_dput, ↓e_var, ↓e_c, ↓e_op, ↓e_some, ↓e_none, ↓e_test, ↓e_and, ↓e_or, ↓e_not, ↓e_yes, ↓e_truth,   ↓e_tru_bl, ↓e_tru_int, ↓e_tru_non, ↓e_tru_str, ↓e_tru_tup, ↓e_tru_obj, ↓e_chain, ↓e_orV, ↓e_andV, ↓e_notV, ↓e_ifE, ↓e_neg, ↓e_nil, ↓e_cons, ↓e_tup, ↓e_lst, ↓e_dnew, ↓e_call, ↓e_cb, ↓e_isi, ↓e_sl, ↓e_onone, ↓e_osome, ↓e_rev, ↓e_lm, ↓e_append, ↓e_extend, ↓e_pop, ↓e_join, ↓e_dget2, ↓e_sortSet, ↓e_sortS, ↓e_setd, strsOf_map, ↓e_maxI, ↓e_disp, ↓e_pairN, ↓e_pairC, intsOf_map, ↓e_for, ↓e_ilist, ↓e_itup, ↓e_rng1, ↓e_rng2, ↓e_lc, ↓e_lc2, e_lc2N, ↓e_ienum, ↓e_izip, ↓e_anyB, ↓e_allB, ↓e_mulS, blsOf_map, ↓e_set0, ↓e_sadd, ↓e_sortTx, ↓e_sortD, ↓e_repr, ↓e_extT, ↓e_sc2, ↓e_sortZ, ↓e_tupVals, ↓e_wget, ↓e_wix, ↓e_listZip, zipD_nil, zipD_cons, ↓e_dgetF, ↓e_idif, ↓e_isB, ↓e_sortI, ↓e_sortSetI,   ↓e_add_int, ↓e_add_str, ↓e_add_tup, ↓e_add_obj, ↓e_iadd_int, ↓e_iadd_str, ↓e_iadd_obj, ↓e_I, ↓e_I0, ↓e_IS_int, ↓e_IS_str, ↓e_eq_str, ↓e_ne_str, ↓e_eq_int, ↓e_ne_int, ↓e_eq_bl, ↓e_ne_bl, ↓e_isN, ↓e_notN, ↓e_ix_tup, ↓e_ix_fl, ↓e_ix_str, ↓e_ix_obj, ↓e_in_tup, ↓e_nin_tup, ↓e_len_tup, ↓e_len_fl, ↓e_len_str, ↓e_len_obj, ↓e_int_int, ↓e_tuple_tup, ↓e_tuple_obj, ↓e_list_tup, ↓e_list_obj, ↓e_dget, ↓e_din, ↓e_dnin, ↓e_lstAt, ↓e_dicAt,   e_key_int, e_key_str, e_up, e_ty_str, e_ty_tup, e_ty_int, e_ty_bl, e_ty_non, atI0, atI1, atI2, atI3, atIL, ixN0, ixN1, cut_from1, e_ite_or, e_ite_and, zln, znl, zli, zil, zni, zin, sizeLine_eq, CMul, CDiv, cpow1018, true_or, or_true, kb_strstr, kb_tupstr, kb_tuptup, kb_strtup, kb_inttup, kb_bltup, kb_nontup, kb_strbl, kb_strint, kb_intbl, kb_intint, kb_blbl, kb_blint, kb_nonbl, kb_nonint, kb_nonstr, kb_intstr, kb_blstr, kb_tupbl, kb_tupint,   List.set_cons_zero, List.set_cons_succ, List.set_nil, List.getElem?_cons_zero, List.getElem?_cons_succ, List.getElem?_nil, List.length_cons, List.length_nil, List.length_map, List.length_append, e_lcN, e_lcC, e_forN, e_forC, List.getLast?_concat, List.dropLast_concat, List.nil_append, List.cons_append, List.append_nil, List.append_assoc, List.reverse_cons, List.reverse_nil, List.isEmpty_nil, List.isEmpty_cons, isEmpty_snoc, List.any_cons, List.any_nil, List.all_cons, List.all_nil, flatD, eqF, in_non, in_tup, in_str, in_int, in_bl, in_obj, in_fl, startA, List.map_cons, List.map_nil, List.replicate_succ, List.replicate_zero,   Nat.reduceAdd, Nat.reduceSub, Nat.reduceLeDiff, Nat.zero_add, Int.reduceLE, Int.reduceLT, Int.reduceToNat, Int.reducePow, Int.reduceNeg, Int.reduceAdd, Int.reduceSub,   Option.isSome_some, Option.isSome_none, Bool.not_true, Bool.not_false, Bool.not_eq_true', Bool.not_eq_eq_eq_not, Bool.not_eq_true, Bool.false_eq_true, Bool.true_eq_false, Bool.and_true, Bool.true_and, Bool.or_false, Bool.false_or, Bool.or_true, Bool.true_or, Bool.and_false, Bool.false_and, if_true, if_false, ite_true, ite_false, reduceIte, reduceCtorEq, decide_true, decide_false, decide_eq_true_eq, decide_eq_false_iff_not, true_and, and_true, eq_self, ne_eq, not_false_eq_true, not_true_eq_false, and_self, *])
      refine ⟨by omega, lc_map (g := fun v => D.bl (F v)) r (fun _ _ => trivial) (fun M3 e3 => ?_) fun v hv M3 N3 e3 next3 => ?_⟩
      · intro o no
        have bm : blsOf (r.map fun v => D.bl (F v)) = some (r.map F) := by
          rw [show (r.map fun v => D.bl (F v)) = (r.map F).map D.bl by rw [List.map_map]; rfl, blsOf_map]
        have an : (r.map F).any id = r.any F := by rw [List.any_map]; rfl
        have nx := next (up M3 o (.lst (r.map fun v => D.bl (F v)))) ((e2.trans e3).trans (Ext.new no))
        clear next
        try (simp only [↓e_seq, ↓e_next, ↓e_break, ↓e_cont, ↓e_expr, ↓e_ret, ↓e_retN, ↓e_if, ↓e_never, ↓e_asg, ↓e_name, ↓e_agtup, ↓e_agcons, ↓e_agnil, ↓e_agsub, ↓e_aug, ↓e_dput, ↓e_var, ↓e_c, ↓e_op, ↓e_some, ↓e_none, ↓e_test, ↓e_and, ↓e_or, ↓e_not, ↓e_yes, ↓e_truth,   ↓e_tru_bl, ↓e_tru_int, ↓e_tru_non, ↓e_tru_str, ↓e_tru_tup, ↓e_tru_obj, ↓e_chain, ↓e_orV, ↓e_andV, ↓e_notV, ↓e_ifE, ↓e_neg, ↓e_nil, ↓e_cons, ↓e_tup, ↓e_lst, ↓e_dnew, ↓e_call, ↓e_cb, ↓e_isi, ↓e_sl, ↓e_onone, ↓e_osome, ↓e_rev, ↓e_lm, ↓e_append, ↓e_extend, ↓e_pop, ↓e_join, ↓e_dget2, ↓e_sortSet, ↓e_sortS, ↓e_setd, strsOf_map, ↓e_maxI, ↓e_disp, ↓e_pairN, ↓e_pairC, intsOf_map, ↓e_for, ↓e_ilist, ↓e_itup, ↓e_rng1, ↓e_rng2, ↓e_lc, ↓e_lc2, e_lc2N, ↓e_ienum, ↓e_izip, ↓e_anyB, ↓e_allB, ↓e_mulS, blsOf_map, ↓e_set0, ↓e_sadd, ↓e_sortTx, ↓e_sortD, ↓e_repr, ↓e_extT, ↓e_sc2, ↓e_sortZ, ↓e_tupVals, ↓e_wget, ↓e_wix, ↓e_listZip, zipD_nil, zipD_cons, ↓e_dgetF, ↓e_idif, ↓e_isB, ↓e_sortI, ↓e_sortSetI,   ↓e_add_int, ↓e_add_str, ↓e_add_tup, ↓e_add_obj, ↓e_iadd_int, ↓e_iadd_str, ↓e_iadd_obj, ↓e_I, ↓e_I0, ↓e_IS_int, ↓e_IS_str, ↓e_eq_str, ↓e_ne_str, ↓e_eq_int, ↓e_ne_int, ↓e_eq_bl, ↓e_ne_bl, ↓e_isN, ↓e_notN, ↓e_ix_tup, ↓e_ix_fl, ↓e_ix_str, ↓e_ix_obj, ↓e_in_tup, ↓e_nin_tup, ↓e_len_tup, ↓e_len_fl, ↓e_len_str, ↓e_len_obj, ↓e_int_int, ↓e_tuple_tup, ↓e_tuple_obj, ↓e_list_tup, ↓e_list_obj, ↓e_dget, ↓e_din, ↓e_dnin, ↓e_lstAt, ↓e_dicAt,   e_key_int, e_key_str, e_up, e_ty_str, e_ty_tup, e_ty_int, e_ty_bl, e_ty_non, atI0, atI1, atI2, atI3, atIL, ixN0, ixN1, cut_from1, e_ite_or, e_ite_and, zln, znl, zli, zil, zni, zin, sizeLine_eq, CMul, CDiv, cpow1018, true_or, or_true, kb_strstr, kb_tupstr, kb_tuptup, kb_strtup, kb_inttup, kb_bltup, kb_nontup, kb_strbl, kb_strint, kb_intbl, kb_intint, kb_blbl, kb_blint, kb_nonbl, kb_nonint, kb_nonstr, kb_intstr, kb_blstr, kb_tupbl, kb_tupint,   List.set_cons_zero, List.set_cons_succ, List.set_nil, List.getElem?_cons_zero, List.getElem?_cons_succ, List.getElem?_nil, List.length_cons, List.length_nil, List.length_map, List.length_append, e_lcN, e_lcC, e_forN, e_forC, List.getLast?_concat, List.dropLast_concat, List.nil_append, List.cons_append, List.append_nil, List.append_assoc, List.reverse_cons, List.reverse_nil, List.isEmpty_nil, List.isEmpty_cons, isEmpty_snoc, List.any_cons, List.any_nil, List.all_cons, List.all_nil, flatD, eqF, in_non, in_tup, in_str, in_int, in_bl, in_obj, in_fl, startA, List.map_cons, List.map_nil, List.replicate_succ, List.replicate_zero,   Nat.reduceAdd, Nat.reduceSub, Nat.reduceLeDiff, Nat.zero_add, Int.reduceLE, Int.reduceLT, Int.reduceToNat, Int.reducePow, Int.reduceNeg, Int.reduceAdd, Int.reduceSub,   Option.isSome_some, Option.isSome_none, Bool.not_true, Bool.not_false, Bool.not_eq_true', Bool.not_eq_eq_eq_not, Bool.not_eq_true, Bool.false_eq_true, Bool.true_eq_false, Bool.and_true, Bool.true_and, Bool.or_false, Bool.false_or, Bool.or_true, Bool.true_or, Bool.and_false, Bool.false_and, if_true, if_false, ite_true, ite_false, reduceIte, reduceCtorEq, decide_true, decide_false, decide_eq_true_eq, decide_eq_false_iff_not, true_and, and_true, eq_self, ne_eq, not_false_eq_true, not_true_eq_false, and_self, *])
      · have vl := ok.inn r hr v hv
        have a9 : (env2.set 13 (some (.int (v : Int))))[9]? = some (some (.obj pf)) := by rw [List.getElem?_set_ne (by decide)]; exact e9
        have a13 : (env2.set 13 (some (.int (v : Int))))[13]? = some (some (.int (v : Int))) := List.getElem?_set_self l13
        have hp3 := e3 _ _ (e2 _ _ hp)
        have at3 := ws_at vl F
        have nx := next3 M3 e3
        clear next3 next
        try (simp only [↓e_seq, ↓e_next, ↓e_break, ↓e_cont, ↓e_expr, ↓e_ret, ↓e_retN, ↓e_if, ↓e_never, ↓e_asg, ↓e_name, ↓e_agtup, ↓e_agcons, ↓e_agnil, ↓e_agsub, ↓e_aug, ↓e_dput, ↓e_var, ↓e_c, ↓e_op, ↓e_some, ↓e_none, ↓e_test, ↓e_and, ↓e_or, ↓e_not, ↓e_yes, ↓e_truth,   ↓e_tru_bl, ↓e_tru_int, ↓e_tru_non, ↓e_tru_str, ↓e_tru_tup, ↓e_tru_obj, ↓e_chain, ↓e_orV, ↓e_andV, ↓e_notV, ↓e_ifE, ↓e_neg, ↓e_nil, ↓e_cons, ↓e_tup, ↓e_lst, ↓e_dnew, ↓e_call, ↓e_cb, ↓e_isi, ↓e_sl, ↓e_onone, ↓e_osome, ↓e_rev, ↓e_lm, ↓e_append, ↓e_extend, ↓e_pop, ↓e_join, ↓e_dget2, ↓e_sortSet, ↓e_sortS, ↓e_setd, strsOf_map, ↓e_maxI, ↓e_disp, ↓e_pairN, ↓e_pairC, intsOf_map, ↓e_for, ↓e_ilist, ↓e_itup, ↓e_rng1, ↓e_rng2, ↓e_lc, ↓e_lc2, e_lc2N, ↓e_ienum, ↓e_izip, ↓e_anyB, ↓e_allB, ↓e_mulS, blsOf_map, ↓e_set0, ↓e_sadd, ↓e_sortTx, ↓e_sortD, ↓e_repr, ↓e_extT, ↓e_sc2, ↓e_sortZ, ↓e_tupVals, ↓e_wget, ↓e_wix, ↓e_listZip, zipD_nil, zipD_cons, ↓e_dgetF, ↓e_idif, ↓e_isB, ↓e_sortI, ↓e_sortSetI,   ↓e_add_int, ↓e_add_str, ↓e_add_tup, ↓e_add_obj, ↓e_iadd_int, ↓e_iadd_str, ↓e_iadd_obj, ↓e_I, ↓e_I0, ↓e_IS_int, ↓e_IS_str, ↓e_eq_str, ↓e_ne_str, ↓e_eq_int, ↓e_ne_int, ↓e_eq_bl, ↓e_ne_bl, ↓e_isN, ↓e_notN, ↓e_ix_tup, ↓e_ix_fl, ↓e_ix_str, ↓e_ix_obj, ↓e_in_tup, ↓e_nin_tup, ↓e_len_tup, ↓e_len_fl, ↓e_len_str, ↓e_len_obj, ↓e_int_int, ↓e_tuple_tup, ↓e_tuple_obj, ↓e_list_tup, ↓e_list_obj, ↓e_dget, ↓e_din, ↓e_dnin, ↓e_lstAt, ↓e_dicAt,   e_key_int, e_key_str, e_up, e_ty_str, e_ty_tup, e_ty_int, e_ty_bl, e_ty_non, atI0, atI1, atI2, atI3, atIL, ixN0, ixN1, cut_from1, e_ite_or, e_ite_and, zln, znl, zli, zil, zni, zin, sizeLine_eq, CMul, CDiv, cpow1018, true_or, or_true, kb_strstr, kb_tupstr, kb_tuptup, kb_strtup, kb_inttup, kb_bltup, kb_nontup, kb_strbl, kb_strint, kb_intbl, kb_intint, kb_blbl, kb_blint, kb_nonbl, kb_nonint, kb_nonstr, kb_intstr, kb_blstr, kb_tupbl, kb_tupint,   List.set_cons_zero, List.set_cons_succ, List.set_nil, List.getElem?_cons_zero, List.getElem?_cons_succ, List.getElem?_nil, List.length_cons, List.length_nil, List.length_map, List.length_append, e_lcN, e_lcC, e_forN, e_forC, List.getLast?_concat, List.dropLast_concat, List.nil_append, List.cons_append, List.append_nil, List.append_assoc, List.reverse_cons, List.reverse_nil, List.isEmpty_nil, List.isEmpty_cons, isEmpty_snoc, List.any_cons, List.any_nil, List.all_cons, List.all_nil, flatD, eqF, in_non, in_tup, in_str, in_int, in_bl, in_obj, in_fl, startA, List.map_cons, List.map_nil, List.replicate_succ, List.replicate_zero,   Nat.reduceAdd, Nat.reduceSub, Nat.reduceLeDiff, Nat.zero_add, Int.reduceLE, Int.reduceLT, Int.reduceToNat, Int.reducePow, Int.reduceNeg, Int.reduceAdd, Int.reduceSub,   Option.isSome_some, Option.isSome_none, Bool.not_true, Bool.not_false, Bool.not_eq_true', Bool.not_eq_eq_eq_not, Bool.not_eq_true, Bool.false_eq_true, Bool.true_eq_false, Bool.and_true, Bool.true_and, Bool.or_false, Bool.false_or, Bool.or_true, Bool.true_or, Bool.and_false, Bool.false_and, if_true, if_false, ite_true, ite_false, reduceIte, reduceCtorEq, decide_true, decide_false, decide_eq_true_eq, decide_eq_false_iff_not, true_and, and_true, eq_self, ne_eq, not_false_eq_true, not_true_eq_false, and_self, *])
  have lets : ∀ (M' : Sto) (R : List D → Sto → Prop) (env : AEnv), env[1]? = some (some f.d) → 14 < env.length → (∀ M2, Ext M' M2 → R (m.giv.map fun r => D.bl (decide (f ∈ r))) M2) → aLcGo (fun _ => True) 14 aYes (aOp (ρInT false) (aVar 1) (aVar 14)) ax0 env (m.giv.map fmsD) [] M' R := fun M' R env he hlen k => by
    refine lc_map m.giv (fun _ _ => trivial) k fun r hr M2 N e2 next => ?_
    have e1 : (env.set 14 (some (fmsD r)))[1]? = some (some f.d) := by rw [List.getElem?_set_ne (by decide)]; exact he
    have h14 : 14 < env.length := hlen
    have e14 : (env.set 14 (some (fmsD r)))[14]? = some (some (fmsD r)) := List.getElem?_set_self h14
    have go := in_fmsT (M := M2) (Q := N) hf (ok.tiny r hr) (next M2 e2)
    clear k next
    try (simp only [↓e_seq, ↓e_next, ↓e_break, ↓e_cont, ↓e_expr, ↓e_ret, ↓e_retN, ↓e_if, ↓e_never, ↓e_asg, ↓e_name, ↓e_agtup, ↓e_agcons, ↓e_agnil, ↓e_agsub, ↓e_aug, ↓e_dput, ↓e_var, ↓e_c, ↓e_op, ↓e_some, ↓e_none, ↓e_test, ↓e_and, ↓e_or, ↓e_not, ↓e_yes, ↓e_truth,   ↓e_tru_bl, ↓e_tru_int, ↓e_tru_non, ↓e_tru_str, ↓e_tru_tup, ↓e_tru_obj, ↓e_chain, ↓e_orV, ↓e_andV, ↓e_notV, ↓e_ifE, ↓e_neg, ↓e_nil, ↓e_cons, ↓e_tup, ↓e_lst, ↓e_dnew, ↓e_call, ↓e_cb, ↓e_isi, ↓e_sl, ↓e_onone, ↓e_osome, ↓e_rev, ↓e_lm, ↓e_append, ↓e_extend, ↓e_pop, ↓e_join, ↓e_dget2, ↓e_sortSet, ↓e_sortS, ↓e_setd, strsOf_map, ↓e_maxI, ↓e_disp, ↓e_pairN, ↓e_pairC, intsOf_map, ↓e_for, ↓e_ilist, ↓e_itup, ↓e_rng1, ↓e_rng2, ↓e_lc, ↓e_lc2, e_lc2N, ↓e_ienum, ↓e_izip, ↓e_anyB, ↓e_allB, ↓e_mulS, blsOf_map, ↓e_set0, ↓e_sadd, ↓e_sortTx, ↓e_sortD, ↓e_repr, ↓e_extT, ↓e_sc2, ↓e_sortZ, ↓e_tupVals, ↓e_wget, ↓e_wix, ↓e_listZip, zipD_nil, zipD_cons, ↓e_dgetF, ↓e_idif, ↓e_isB, ↓e_sortI, ↓e_sortSetI,   ↓e_add_int, ↓e_add_str, ↓e_add_tup, ↓e_add_obj, ↓e_iadd_int, ↓e_iadd_str, ↓e_iadd_obj, ↓e_I, ↓e_I0, ↓e_IS_int, ↓e_IS_str, ↓e_eq_str, ↓e_ne_str, ↓e_eq_int, ↓e_ne_int, ↓e_eq_bl, ↓e_ne_bl, ↓e_isN, ↓e_notN, ↓e_ix_tup, ↓e_ix_fl, ↓e_ix_str, ↓e_ix_obj, ↓e_in_tup, ↓e_nin_tup, ↓e_len_tup, ↓e_len_fl, ↓e_len_str, ↓e_len_obj, ↓e_int_int, ↓e_tuple_tup, ↓e_tuple_obj, ↓e_list_tup, ↓e_list_obj, ↓e_dget, ↓e_din, ↓e_dnin, ↓e_lstAt, ↓e_dicAt,   e_key_int, e_key_str, e_up, e_ty_str, e_ty_tup, e_ty_int, e_ty_bl, e_ty_non, atI0, atI1, atI2, atI3, atIL, ixN0, ixN1, cut_from1, e_ite_or, e_ite_and, zln, znl, zli, zil, zni, zin, sizeLine_eq, CMul, CDiv, cpow1018, true_or, or_true, kb_strstr, kb_tupstr, kb_tuptup, kb_strtup, kb_inttup, kb_bltup, kb_nontup, kb_strbl, kb_strint, kb_intbl, kb_intint, kb_blbl, kb_blint, kb_nonbl, kb_nonint, kb_nonstr, kb_intstr, kb_blstr, kb_tupbl, kb_tupint,   List.set_cons_zero, List.set_cons_succ, List.set_nil, List.getElem?_cons_zero, List.getElem?_cons_succ, List.getElem?_nil, List.length_cons, List.length_nil, List.length_map, List.length_append, e_lcN, e_lcC, e_forN, e_forC, List.getLast?_concat, List.dropLast_concat, List.nil_append, List.cons_append, List.append_nil, List.append_assoc, List.reverse_cons, List.reverse_nil, List.isEmpty_nil, List.isEmpty_cons, isEmpty_snoc, List.any_cons, List.any_nil, List.all_cons, List.all_nil, flatD, eqF, in_non, in_tup, in_str, in_int, in_bl, in_obj, in_fl, startA, List.map_cons, List.map_nil, List.replicate_succ, List.replicate_zero,   Nat.reduceAdd, Nat.reduceSub, Nat.reduceLeDiff, Nat.zero_add, Int.reduceLE, Int.reduceLT, Int.reduceToNat, Int.reducePow, Int.reduceNeg, Int.reduceAdd, Int.reduceSub,   Option.isSome_some, Option.isSome_none, Bool.not_true, Bool.not_false, Bool.not_eq_true', Bool.not_eq_eq_eq_not, Bool.not_eq_true, Bool.false_eq_true, Bool.true_eq_false, Bool.and_true, Bool.true_and, Bool.or_false, Bool.false_or, Bool.or_true, Bool.true_or, Bool.and_false, Bool.false_and, if_true, if_false, ite_true, ite_false, reduceIte, reduceCtorEq, decide_true, decide_false, decide_eq_true_eq, decide_eq_false_iff_not, true_and, and_true, eq_self, ne_eq, not_false_eq_true, not_true_eq_false, and_self, *])
  cases f with
  | lt s =>
    have hfd := Fm.d_lt s
    have e : m.giv.map (fun r => D.bl (decide (Fm.lt s ∈ r))) = wsD m.later.length (frc pos m (.lt s)) := by
      rw [rows_ws m.giv [] (fun r => decide (Fm.lt s ∈ r)), gl]
      rfl
    try (simp only [↓e_seq, ↓e_next, ↓e_break, ↓e_cont, ↓e_expr, ↓e_ret, ↓e_retN, ↓e_if, ↓e_never, ↓e_asg, ↓e_name, ↓e_agtup, ↓e_agcons, ↓e_agnil, ↓e_agsub, ↓e_aug, ↓e_dput, ↓e_var, ↓e_c, ↓e_op, ↓e_some, ↓e_none, ↓e_test, ↓e_and, ↓e_or, ↓e_not, ↓e_yes, ↓e_truth,   ↓e_tru_bl, ↓e_tru_int, ↓e_tru_non, ↓e_tru_str, ↓e_tru_tup, ↓e_tru_obj, ↓e_chain, ↓e_orV, ↓e_andV, ↓e_notV, ↓e_ifE, ↓e_neg, ↓e_nil, ↓e_cons, ↓e_tup, ↓e_lst, ↓e_dnew, ↓e_call, ↓e_cb, ↓e_isi, ↓e_sl, ↓e_onone, ↓e_osome, ↓e_rev, ↓e_lm, ↓e_append, ↓e_extend, ↓e_pop, ↓e_join, ↓e_dget2, ↓e_sortSet, ↓e_sortS, ↓e_setd, strsOf_map, ↓e_maxI, ↓e_disp, ↓e_pairN, ↓e_pairC, intsOf_map, ↓e_for, ↓e_ilist, ↓e_itup, ↓e_rng1, ↓e_rng2, ↓e_lc, ↓e_lc2, e_lc2N, ↓e_ienum, ↓e_izip, ↓e_anyB, ↓e_allB, ↓e_mulS, blsOf_map, ↓e_set0, ↓e_sadd, ↓e_sortTx, ↓e_sortD, ↓e_repr, ↓e_extT, ↓e_sc2, ↓e_sortZ, ↓e_tupVals, ↓e_wget, ↓e_wix, ↓e_listZip, zipD_nil, zipD_cons, ↓e_dgetF, ↓e_idif, ↓e_isB, ↓e_sortI, ↓e_sortSetI,   ↓e_add_int, ↓e_add_str, ↓e_add_tup, ↓e_add_obj, ↓e_iadd_int, ↓e_iadd_str, ↓e_iadd_obj, ↓e_I, ↓e_I0, ↓e_IS_int, ↓e_IS_str, ↓e_eq_str, ↓e_ne_str, ↓e_eq_int, ↓e_ne_int, ↓e_eq_bl, ↓e_ne_bl, ↓e_isN, ↓e_notN, ↓e_ix_tup, ↓e_ix_fl, ↓e_ix_str, ↓e_ix_obj, ↓e_in_tup, ↓e_nin_tup, ↓e_len_tup, ↓e_len_fl, ↓e_len_str, ↓e_len_obj, ↓e_int_int, ↓e_tuple_tup, ↓e_tuple_obj, ↓e_list_tup, ↓e_list_obj, ↓e_dget, ↓e_din, ↓e_dnin, ↓e_lstAt, ↓e_dicAt,   e_key_int, e_key_str, e_up, e_ty_str, e_ty_tup, e_ty_int, e_ty_bl, e_ty_non, atI0, atI1, atI2, atI3, atIL, ixN0, ixN1, cut_from1, e_ite_or, e_ite_and, zln, znl, zli, zil, zni, zin, sizeLine_eq, CMul, CDiv, cpow1018, true_or, or_true, kb_strstr, kb_tupstr, kb_tuptup, kb_strtup, kb_inttup, kb_bltup, kb_nontup, kb_strbl, kb_strint, kb_intbl, kb_intint, kb_blbl, kb_blint, kb_nonbl, kb_nonint, kb_nonstr, kb_intstr, kb_blstr, kb_tupbl, kb_tupint,   List.set_cons_zero, List.set_cons_succ, List.set_nil, List.getElem?_cons_zero, List.getElem?_cons_succ, List.getElem?_nil, List.length_cons, List.length_nil, List.length_map, List.length_append, e_lcN, e_lcC, e_forN, e_forC, List.getLast?_concat, List.dropLast_concat, List.nil_append, List.cons_append, List.append_nil, List.append_assoc, List.reverse_cons, List.reverse_nil, List.isEmpty_nil, List.isEmpty_cons, isEmpty_snoc, List.any_cons, List.any_nil, List.all_cons, List.all_nil, flatD, eqF, in_non, in_tup, in_str, in_int, in_bl, in_obj, in_fl, startA, List.map_cons, List.map_nil, List.replicate_succ, List.replicate_zero,   Nat.reduceAdd, Nat.reduceSub, Nat.reduceLeDiff, Nat.zero_add, Int.reduceLE, Int.reduceLT, Int.reduceToNat, Int.reducePow, Int.reduceNeg, Int.reduceAdd, Int.reduceSub,   Option.isSome_some, Option.isSome_none, Bool.not_true, Bool.not_false, Bool.not_eq_true', Bool.not_eq_eq_eq_not, Bool.not_eq_true, Bool.false_eq_true, Bool.true_eq_false, Bool.and_true, Bool.true_and, Bool.or_false, Bool.false_or, Bool.or_true, Bool.true_or, Bool.and_false, Bool.false_and, if_true, if_false, ite_true, ite_false, reduceIte, reduceCtorEq, decide_true, decide_false, decide_eq_true_eq, decide_eq_false_iff_not, true_and, and_true, eq_self, ne_eq, not_false_eq_true, not_true_eq_false, and_self, *])
    rw [if_neg (fun z => z.1)]
    refine ⟨by omega, lets M _ _ (by rw [hfd]; rfl) (by show 14 < 16; decide) fun M2 e2 => ?_⟩
    intro o no
    rw [e]
    exact q o _ (e2.none no) (e2.trans (Ext.new no)) up_same
  | ng p =>
    have hfd := Fm.d_ng p
    have z0 : (Fm.ng p).sz = p.sz + 1 := rfl
    cases pos with
    | true =>
      have e : m.giv.map (fun r => D.bl (decide (Fm.ng p ∈ r))) = wsD m.later.length (frc true m (.ng p)) := by
        rw [rows_ws m.giv [] (fun r => decide (Fm.ng p ∈ r)), gl]
        rfl
      try (simp only [↓e_seq, ↓e_next, ↓e_break, ↓e_cont, ↓e_expr, ↓e_ret, ↓e_retN, ↓e_if, ↓e_never, ↓e_asg, ↓e_name, ↓e_agtup, ↓e_agcons, ↓e_agnil, ↓e_agsub, ↓e_aug, ↓e_dput, ↓e_var, ↓e_c, ↓e_op, ↓e_some, ↓e_none, ↓e_test, ↓e_and, ↓e_or, ↓e_not, ↓e_yes, ↓e_truth,   ↓e_tru_bl, ↓e_tru_int, ↓e_tru_non, ↓e_tru_str, ↓e_tru_tup, ↓e_tru_obj, ↓e_chain, ↓e_orV, ↓e_andV, ↓e_notV, ↓e_ifE, ↓e_neg, ↓e_nil, ↓e_cons, ↓e_tup, ↓e_lst, ↓e_dnew, ↓e_call, ↓e_cb, ↓e_isi, ↓e_sl, ↓e_onone, ↓e_osome, ↓e_rev, ↓e_lm, ↓e_append, ↓e_extend, ↓e_pop, ↓e_join, ↓e_dget2, ↓e_sortSet, ↓e_sortS, ↓e_setd, strsOf_map, ↓e_maxI, ↓e_disp, ↓e_pairN, ↓e_pairC, intsOf_map, ↓e_for, ↓e_ilist, ↓e_itup, ↓e_rng1, ↓e_rng2, ↓e_lc, ↓e_lc2, e_lc2N, ↓e_ienum, ↓e_izip, ↓e_anyB, ↓e_allB, ↓e_mulS, blsOf_map, ↓e_set0, ↓e_sadd, ↓e_sortTx, ↓e_sortD, ↓e_repr, ↓e_extT, ↓e_sc2, ↓e_sortZ, ↓e_tupVals, ↓e_wget, ↓e_wix, ↓e_listZip, zipD_nil, zipD_cons, ↓e_dgetF, ↓e_idif, ↓e_isB, ↓e_sortI, ↓e_sortSetI,   ↓e_add_int, ↓e_add_str, ↓e_add_tup, ↓e_add_obj, ↓e_iadd_int, ↓e_iadd_str, ↓e_iadd_obj, ↓e_I, ↓e_I0, ↓e_IS_int, ↓e_IS_str, ↓e_eq_str, ↓e_ne_str, ↓e_eq_int, ↓e_ne_int, ↓e_eq_bl, ↓e_ne_bl, ↓e_isN, ↓e_notN, ↓e_ix_tup, ↓e_ix_fl, ↓e_ix_str, ↓e_ix_obj, ↓e_in_tup, ↓e_nin_tup, ↓e_len_tup, ↓e_len_fl, ↓e_len_str, ↓e_len_obj, ↓e_int_int, ↓e_tuple_tup, ↓e_tuple_obj, ↓e_list_tup, ↓e_list_obj, ↓e_dget, ↓e_din, ↓e_dnin, ↓e_lstAt, ↓e_dicAt,   e_key_int, e_key_str, e_up, e_ty_str, e_ty_tup, e_ty_int, e_ty_bl, e_ty_non, atI0, atI1, atI2, atI3, atIL, ixN0, ixN1, cut_from1, e_ite_or, e_ite_and, zln, znl, zli, zil, zni, zin, sizeLine_eq, CMul, CDiv, cpow1018, true_or, or_true, kb_strstr, kb_tupstr, kb_tuptup, kb_strtup, kb_inttup, kb_bltup, kb_nontup, kb_strbl, kb_strint, kb_intbl, kb_intint, kb_blbl, kb_blint, kb_nonbl, kb_nonint, kb_nonstr, kb_intstr, kb_blstr, kb_tupbl, kb_tupint,   List.set_cons_zero, List.set_cons_succ, List.set_nil, List.getElem?_cons_zero, List.getElem?_cons_succ, List.getElem?_nil, List.length_cons, List.length_nil, List.length_map, List.length_append, e_lcN, e_lcC, e_forN, e_forC, List.getLast?_concat, List.dropLast_concat, List.nil_append, List.cons_append, List.append_nil, List.append_assoc, List.reverse_cons, List.reverse_nil, List.isEmpty_nil, List.isEmpty_cons, isEmpty_snoc, List.any_cons, List.any_nil, List.all_cons, List.all_nil, flatD, eqF, in_non, in_tup, in_str, in_int, in_bl, in_obj, in_fl, startA, List.map_cons, List.map_nil, List.replicate_succ, List.replicate_zero,   Nat.reduceAdd, Nat.reduceSub, Nat.reduceLeDiff, Nat.zero_add, Int.reduceLE, Int.reduceLT, Int.reduceToNat, Int.reducePow, Int.reduceNeg, Int.reduceAdd, Int.reduceSub,   Option.isSome_some, Option.isSome_none, Bool.not_true, Bool.not_false, Bool.not_eq_true', Bool.not_eq_eq_eq_not, Bool.not_eq_true, Bool.false_eq_true, Bool.true_eq_false, Bool.and_true, Bool.true_and, Bool.or_false, Bool.false_or, Bool.or_true, Bool.true_or, Bool.and_false, Bool.false_and, if_true, if_false, ite_true, ite_false, reduceIte, reduceCtorEq, decide_true, decide_false, decide_eq_true_eq, decide_eq_false_iff_not, true_and, and_true, eq_self, ne_eq, not_false_eq_true, not_true_eq_false, and_self, *])
      refine ⟨by omega, lets M _ _ (by rw [hfd]; rfl) (by show 14 < 16; decide) fun M2 e2 => ?_⟩
      intro o no
      rw [e]
      exact q o _ (e2.none no) (e2.trans (Ext.new no)) up_same
    | false =>
      clear lets
      try (simp only [↓e_seq, ↓e_next, ↓e_break, ↓e_cont, ↓e_expr, ↓e_ret, ↓e_retN, ↓e_if, ↓e_never, ↓e_asg, ↓e_name, ↓e_agtup, ↓e_agcons, ↓e_agnil, ↓e_agsub, ↓e_aug, ↓e_dput, ↓e_var, ↓e_c, ↓e_op, ↓e_some, ↓e_none, ↓e_test, ↓e_and, ↓e_or, ↓e_not, ↓e_yes, ↓e_truth,   ↓e_tru_bl, ↓e_tru_int, ↓e_tru_non, ↓e_tru_str, ↓e_tru_tup, ↓e_tru_obj, ↓e_chain, ↓e_orV, ↓e_andV, ↓e_notV, ↓e_ifE, ↓e_neg, ↓e_nil, ↓e_cons, ↓e_tup, ↓e_lst, ↓e_dnew, ↓e_call, ↓e_cb, ↓e_isi, ↓e_sl, ↓e_onone, ↓e_osome, ↓e_rev, ↓e_lm, ↓e_append, ↓e_extend, ↓e_pop, ↓e_join, ↓e_dget2, ↓e_sortSet, ↓e_sortS, ↓e_setd, strsOf_map, ↓e_maxI, ↓e_disp, ↓e_pairN, ↓e_pairC, intsOf_map, ↓e_for, ↓e_ilist, ↓e_itup, ↓e_rng1, ↓e_rng2, ↓e_lc, ↓e_lc2, e_lc2N, ↓e_ienum, ↓e_izip, ↓e_anyB, ↓e_allB, ↓e_mulS, blsOf_map, ↓e_set0, ↓e_sadd, ↓e_sortTx, ↓e_sortD, ↓e_repr, ↓e_extT, ↓e_sc2, ↓e_sortZ, ↓e_tupVals, ↓e_wget, ↓e_wix, ↓e_listZip, zipD_nil, zipD_cons, ↓e_dgetF, ↓e_idif, ↓e_isB, ↓e_sortI, ↓e_sortSetI,   ↓e_add_int, ↓e_add_str, ↓e_add_tup, ↓e_add_obj, ↓e_iadd_int, ↓e_iadd_str, ↓e_iadd_obj, ↓e_I, ↓e_I0, ↓e_IS_int, ↓e_IS_str, ↓e_eq_str, ↓e_ne_str, ↓e_eq_int, ↓e_ne_int, ↓e_eq_bl, ↓e_ne_bl, ↓e_isN, ↓e_notN, ↓e_ix_tup, ↓e_ix_fl, ↓e_ix_str, ↓e_ix_obj, ↓e_in_tup, ↓e_nin_tup, ↓e_len_tup, ↓e_len_fl, ↓e_len_str, ↓e_len_obj, ↓e_int_int, ↓e_tuple_tup, ↓e_tuple_obj, ↓e_list_tup, ↓e_list_obj, ↓e_dget, ↓e_din, ↓e_dnin, ↓e_lstAt, ↓e_dicAt,   e_key_int, e_key_str, e_up, e_ty_str, e_ty_tup, e_ty_int, e_ty_bl, e_ty_non, atI0, atI1, atI2, atI3, atIL, ixN0, ixN1, cut_from1, e_ite_or, e_ite_and, zln, znl, zli, zil, zni, zin, sizeLine_eq, CMul, CDiv, cpow1018, true_or, or_true, kb_strstr, kb_tupstr, kb_tuptup, kb_strtup, kb_inttup, kb_bltup, kb_nontup, kb_strbl, kb_strint, kb_intbl, kb_intint, kb_blbl, kb_blint, kb_nonbl, kb_nonint, kb_nonstr, kb_intstr, kb_blstr, kb_tupbl, kb_tupint,   List.set_cons_zero, List.set_cons_succ, List.set_nil, List.getElem?_cons_zero, List.getElem?_cons_succ, List.getElem?_nil, List.length_cons, List.length_nil, List.length_map, List.length_append, e_lcN, e_lcC, e_forN, e_forC, List.getLast?_concat, List.dropLast_concat, List.nil_append, List.cons_append, List.append_nil, List.append_assoc, List.reverse_cons, List.reverse_nil, List.isEmpty_nil, List.isEmpty_cons, isEmpty_snoc, List.any_cons, List.any_nil, List.all_cons, List.all_nil, flatD, eqF, in_non, in_tup, in_str, in_int, in_bl, in_obj, in_fl, startA, List.map_cons, List.map_nil, List.replicate_succ, List.replicate_zero,   Nat.reduceAdd, Nat.reduceSub, Nat.reduceLeDiff, Nat.zero_add, Int.reduceLE, Int.reduceLT, Int.reduceToNat, Int.reducePow, Int.reduceNeg, Int.reduceAdd, Int.reduceSub,   Option.isSome_some, Option.isSome_none, Bool.not_true, Bool.not_false, Bool.not_eq_true', Bool.not_eq_eq_eq_not, Bool.not_eq_true, Bool.false_eq_true, Bool.true_eq_false, Bool.and_true, Bool.true_and, Bool.or_false, Bool.false_or, Bool.or_true, Bool.true_or, Bool.and_false, Bool.false_and, if_true, if_false, ite_true, ite_false, reduceIte, reduceCtorEq, decide_true, decide_false, decide_eq_true_eq, decide_eq_false_iff_not, true_and, and_true, eq_self, ne_eq, not_false_eq_true, not_true_eq_false, and_self, *])
      refine ⟨rfl, m, p, false, rfl, by omega, hf.ng, ok, n1, n2, fun pf M1 npf e1 h1 => ?_⟩
      have i4 : ∀ (v : Nat) M Q, ρIn true (.int (v : Int)) (natsD m.brk) M Q = Q (.bl (!decide (v ∈ m.brk))) M := fun v M Q => by
        show (true = true ∧ (m.brk.map fun k : Nat => D.int (k : Int)).all flatD = true ∧ Q (.bl (!((m.brk.map fun k : Nat => D.int (k : Int)).any fun y => eqF y (.int (v : Int))))) M) = _
        rw [nats_flat, nats_any]
        exact propext ⟨fun z => z.2.2, fun z => ⟨rfl, rfl, z⟩⟩
      refine ⟨by omega, by omega, ?_⟩
      rw [rng0]
      refine ⟨by rw [List.length_map, List.length_range]; omega, lc_map (g := fun v => D.bl (frc false m p v && !decide (v ∈ m.brk))) (List.range m.later.length) (fun _ _ => trivial) (fun M3 e3 => ?_) fun v hv M3 N e3 next => ?_⟩
      · intro o no
        refine ⟨by omega, fin _ (fun v => frc false m p v && !decide (v ∈ m.brk)) o _ ((e1.trans e3).trans (Ext.new no)) up_same rfl (by show 15 < 16; decide) fun w => ?_⟩
        show (if false = true then _ else (m.later.getD w []).all fun v => !(frc false m p v && !decide (v ∈ m.brk))) = _
        rw [if_neg Bool.false_ne_true, List.not_any_eq_all_not]
      · have vl := List.mem_range.mp hv
        have at3 := ws_at vl (frc false m p)
        have h3 := e3 _ _ h1
        have nx := next M3 e3
        have i5 := i4 v
        clear next q fin i4
        cases c : frc false m p v with
        | false =>
          rw [c] at at3 nx
          rw [Bool.false_and] at nx
          try (simp only [↓e_seq, ↓e_next, ↓e_break, ↓e_cont, ↓e_expr, ↓e_ret, ↓e_retN, ↓e_if, ↓e_never, ↓e_asg, ↓e_name, ↓e_agtup, ↓e_agcons, ↓e_agnil, ↓e_agsub, ↓e_aug, ↓e_dput, ↓e_var, ↓e_c, ↓e_op, ↓e_some, ↓e_none, ↓e_test, ↓e_and, ↓e_or, ↓e_not, ↓e_yes, ↓e_truth,   ↓e_tru_bl, ↓e_tru_int, ↓e_tru_non, ↓e_tru_str, ↓e_tru_tup, ↓e_tru_obj, ↓e_chain, ↓e_orV, ↓e_andV, ↓e_notV, ↓e_ifE, ↓e_neg, ↓e_nil, ↓e_cons, ↓e_tup, ↓e_lst, ↓e_dnew, ↓e_call, ↓e_cb, ↓e_isi, ↓e_sl, ↓e_onone, ↓e_osome, ↓e_rev, ↓e_lm, ↓e_append, ↓e_extend, ↓e_pop, ↓e_join, ↓e_dget2, ↓e_sortSet, ↓e_sortS, ↓e_setd, strsOf_map, ↓e_maxI, ↓e_disp, ↓e_pairN, ↓e_pairC, intsOf_map, ↓e_for, ↓e_ilist, ↓e_itup, ↓e_rng1, ↓e_rng2, ↓e_lc, ↓e_lc2, e_lc2N, ↓e_ienum, ↓e_izip, ↓e_anyB, ↓e_allB, ↓e_mulS, blsOf_map, ↓e_set0, ↓e_sadd, ↓e_sortTx, ↓e_sortD, ↓e_repr, ↓e_extT, ↓e_sc2, ↓e_sortZ, ↓e_tupVals, ↓e_wget, ↓e_wix, ↓e_listZip, zipD_nil, zipD_cons, ↓e_dgetF, ↓e_idif, ↓e_isB, ↓e_sortI, ↓e_sortSetI,   ↓e_add_int, ↓e_add_str, ↓e_add_tup, ↓e_add_obj, ↓e_iadd_int, ↓e_iadd_str, ↓e_iadd_obj, ↓e_I, ↓e_I0, ↓e_IS_int, ↓e_IS_str, ↓e_eq_str, ↓e_ne_str, ↓e_eq_int, ↓e_ne_int, ↓e_eq_bl, ↓e_ne_bl, ↓e_isN, ↓e_notN, ↓e_ix_tup, ↓e_ix_fl, ↓e_ix_str, ↓e_ix_obj, ↓e_in_tup, ↓e_nin_tup, ↓e_len_tup, ↓e_len_fl, ↓e_len_str, ↓e_len_obj, ↓e_int_int, ↓e_tuple_tup, ↓e_tuple_obj, ↓e_list_tup, ↓e_list_obj, ↓e_dget, ↓e_din, ↓e_dnin, ↓e_lstAt, ↓e_dicAt,   e_key_int, e_key_str, e_up, e_ty_str, e_ty_tup, e_ty_int, e_ty_bl, e_ty_non, atI0, atI1, atI2, atI3, atIL, ixN0, ixN1, cut_from1, e_ite_or, e_ite_and, zln, znl, zli, zil, zni, zin, sizeLine_eq, CMul, CDiv, cpow1018, true_or, or_true, kb_strstr, kb_tupstr, kb_tuptup, kb_strtup, kb_inttup, kb_bltup, kb_nontup, kb_strbl, kb_strint, kb_intbl, kb_intint, kb_blbl, kb_blint, kb_nonbl, kb_nonint, kb_nonstr, kb_intstr, kb_blstr, kb_tupbl, kb_tupint,   List.set_cons_zero, List.set_cons_succ, List.set_nil, List.getElem?_cons_zero, List.getElem?_cons_succ, List.getElem?_nil, List.length_cons, List.length_nil, List.length_map, List.length_append, e_lcN, e_lcC, e_forN, e_forC, List.getLast?_concat, List.dropLast_concat, List.nil_append, List.cons_append, List.append_nil, List.append_assoc, List.reverse_cons, List.reverse_nil, List.isEmpty_nil, List.isEmpty_cons, isEmpty_snoc, List.any_cons, List.any_nil, List.all_cons, List.all_nil, flatD, eqF, in_non, in_tup, in_str, in_int, in_bl, in_obj, in_fl, startA, List.map_cons, List.map_nil, List.replicate_succ, List.replicate_zero,   Nat.reduceAdd, Nat.reduceSub, Nat.reduceLeDiff, Nat.zero_add, Int.reduceLE, Int.reduceLT, Int.reduceToNat, Int.reducePow, Int.reduceNeg, Int.reduceAdd, Int.reduceSub,   Option.isSome_some, Option.isSome_none, Bool.not_true, Bool.not_false, Bool.not_eq_true', Bool.not_eq_eq_eq_not, Bool.not_eq_true, Bool.false_eq_true, Bool.true_eq_false, Bool.and_true, Bool.true_and, Bool.or_false, Bool.false_or, Bool.or_true, Bool.true_or, Bool.and_false, Bool.false_and, if_true, if_false, ite_true, ite_false, reduceIte, reduceCtorEq, decide_true, decide_false, decide_eq_true_eq, decide_eq_false_iff_not, true_and, and_true, eq_self, ne_eq, not_false_eq_true, not_true_eq_false, and_self, *])
        | true =>
          rw [c] at at3 nx
          rw [Bool.true_and] at nx
          try (simp only [↓e_seq, ↓e_next, ↓e_break, ↓e_cont, ↓e_expr, ↓e_ret, ↓e_retN, ↓e_if, ↓e_never, ↓e_asg, ↓e_name, ↓e_agtup, ↓e_agcons, ↓e_agnil, ↓e_agsub, ↓e_aug, ↓e_dput, ↓e_var, ↓e_c, ↓e_op, ↓e_some, ↓e_none, ↓e_test, ↓e_and, ↓e_or, ↓e_not, ↓e_yes, ↓e_truth,   ↓e_tru_bl, ↓e_tru_int, ↓e_tru_non, ↓e_tru_str, ↓e_tru_tup, ↓e_tru_obj, ↓e_chain, ↓e_orV, ↓e_andV, ↓e_notV, ↓e_ifE, ↓e_neg, ↓e_nil, ↓e_cons, ↓e_tup, ↓e_lst, ↓e_dnew, ↓e_call, ↓e_cb, ↓e_isi, ↓e_sl, ↓e_onone, ↓e_osome, ↓e_rev, ↓e_lm, ↓e_append, ↓e_extend, ↓e_pop, ↓e_join, ↓e_dget2, ↓e_sortSet, ↓e_sortS, ↓e_setd, strsOf_map, ↓e_maxI, ↓e_disp, ↓e_pairN, ↓e_pairC, intsOf_map, ↓e_for, ↓e_ilist, ↓e_itup, ↓e_rng1, ↓e_rng2, ↓e_lc, ↓e_lc2, e_lc2N, ↓e_ienum, ↓e_izip, ↓e_anyB, ↓e_allB, ↓e_mulS, blsOf_map, ↓e_set0, ↓e_sadd, ↓e_sortTx, ↓e_sortD, ↓e_repr, ↓e_extT, ↓e_sc2, ↓e_sortZ, ↓e_tupVals, ↓e_wget, ↓e_wix, ↓e_listZip, zipD_nil, zipD_cons, ↓e_dgetF, ↓e_idif, ↓e_isB, ↓e_sortI, ↓e_sortSetI,   ↓e_add_int, ↓e_add_str, ↓e_add_tup, ↓e_add_obj, ↓e_iadd_int, ↓e_iadd_str, ↓e_iadd_obj, ↓e_I, ↓e_I0, ↓e_IS_int, ↓e_IS_str, ↓e_eq_str, ↓e_ne_str, ↓e_eq_int, ↓e_ne_int, ↓e_eq_bl, ↓e_ne_bl, ↓e_isN, ↓e_notN, ↓e_ix_tup, ↓e_ix_fl, ↓e_ix_str, ↓e_ix_obj, ↓e_in_tup, ↓e_nin_tup, ↓e_len_tup, ↓e_len_fl, ↓e_len_str, ↓e_len_obj, ↓e_int_int, ↓e_tuple_tup, ↓e_tuple_obj, ↓e_list_tup, ↓e_list_obj, ↓e_dget, ↓e_din, ↓e_dnin, ↓e_lstAt, ↓e_dicAt,   e_key_int, e_key_str, e_up, e_ty_str, e_ty_tup, e_ty_int, e_ty_bl, e_ty_non, atI0, atI1, atI2, atI3, atIL, ixN0, ixN1, cut_from1, e_ite_or, e_ite_and, zln, znl, zli, zil, zni, zin, sizeLine_eq, CMul, CDiv, cpow1018, true_or, or_true, kb_strstr, kb_tupstr, kb_tuptup, kb_strtup, kb_inttup, kb_bltup, kb_nontup, kb_strbl, kb_strint, kb_intbl, kb_intint, kb_blbl, kb_blint, kb_nonbl, kb_nonint, kb_nonstr, kb_intstr, kb_blstr, kb_tupbl, kb_tupint,   List.set_cons_zero, List.set_cons_succ, List.set_nil, List.getElem?_cons_zero, List.getElem?_cons_succ, List.getElem?_nil, List.length_cons, List.length_nil, List.length_map, List.length_append, e_lcN, e_lcC, e_forN, e_forC, List.getLast?_concat, List.dropLast_concat, List.nil_append, List.cons_append, List.append_nil, List.append_assoc, List.reverse_cons, List.reverse_nil, List.isEmpty_nil, List.isEmpty_cons, isEmpty_snoc, List.any_cons, List.any_nil, List.all_cons, List.all_nil, flatD, eqF, in_non, in_tup, in_str, in_int, in_bl, in_obj, in_fl, startA, List.map_cons, List.map_nil, List.replicate_succ, List.replicate_zero,   Nat.reduceAdd, Nat.reduceSub, Nat.reduceLeDiff, Nat.zero_add, Int.reduceLE, Int.reduceLT, Int.reduceToNat, Int.reducePow, Int.reduceNeg, Int.reduceAdd, Int.reduceSub,   Option.isSome_some, Option.isSome_none, Bool.not_true, Bool.not_false, Bool.not_eq_true', Bool.not_eq_eq_eq_not, Bool.not_eq_true, Bool.false_eq_true, Bool.true_eq_false, Bool.and_true, Bool.true_and, Bool.or_false, Bool.false_or, Bool.or_true, Bool.true_or, Bool.and_false, Bool.false_and, if_true, if_false, ite_true, ite_false, reduceIte, reduceCtorEq, decide_true, decide_false, decide_eq_true_eq, decide_eq_false_iff_not, true_and, and_true, eq_self, ne_eq, not_false_eq_true, not_true_eq_false, and_self, *])
  | im p g =>
    have hfd := Fm.d_im p g
    have z0 : (Fm.im p g).sz = p.sz + g.sz + 1 := rfl
    clear lets
    try (simp only [↓e_seq, ↓e_next, ↓e_break, ↓e_cont, ↓e_expr, ↓e_ret, ↓e_retN, ↓e_if, ↓e_never, ↓e_asg, ↓e_name, ↓e_agtup, ↓e_agcons, ↓e_agnil, ↓e_agsub, ↓e_aug, ↓e_dput, ↓e_var, ↓e_c, ↓e_op, ↓e_some, ↓e_none, ↓e_test, ↓e_and, ↓e_or, ↓e_not, ↓e_yes, ↓e_truth,   ↓e_tru_bl, ↓e_tru_int, ↓e_tru_non, ↓e_tru_str, ↓e_tru_tup, ↓e_tru_obj, ↓e_chain, ↓e_orV, ↓e_andV, ↓e_notV, ↓e_ifE, ↓e_neg, ↓e_nil, ↓e_cons, ↓e_tup, ↓e_lst, ↓e_dnew, ↓e_call, ↓e_cb, ↓e_isi, ↓e_sl, ↓e_onone, ↓e_osome, ↓e_rev, ↓e_lm, ↓e_append, ↓e_extend, ↓e_pop, ↓e_join, ↓e_dget2, ↓e_sortSet, ↓e_sortS, ↓e_setd, strsOf_map, ↓e_maxI, ↓e_disp, ↓e_pairN, ↓e_pairC, intsOf_map, ↓e_for, ↓e_ilist, ↓e_itup, ↓e_rng1, ↓e_rng2, ↓e_lc, ↓e_lc2, e_lc2N, ↓e_ienum, ↓e_izip, ↓e_anyB, ↓e_allB, ↓e_mulS, blsOf_map, ↓e_set0, ↓e_sadd, ↓e_sortTx, ↓e_sortD, ↓e_repr, ↓e_extT, ↓e_sc2, ↓e_sortZ, ↓e_tupVals, ↓e_wget, ↓e_wix, ↓e_listZip, zipD_nil, zipD_cons, ↓e_dgetF, ↓e_idif, ↓e_isB, ↓e_sortI, ↓e_sortSetI,   ↓e_add_int, ↓e_add_str, ↓e_add_tup, ↓e_add_obj, ↓e_iadd_int, ↓e_iadd_str, ↓e_iadd_obj, ↓e_I, ↓e_I0, ↓e_IS_int, ↓e_IS_str, ↓e_eq_str, ↓e_ne_str, ↓e_eq_int, ↓e_ne_int, ↓e_eq_bl, ↓e_ne_bl, ↓e_isN, ↓e_notN, ↓e_ix_tup, ↓e_ix_fl, ↓e_ix_str, ↓e_ix_obj, ↓e_in_tup, ↓e_nin_tup, ↓e_len_tup, ↓e_len_fl, ↓e_len_str, ↓e_len_obj, ↓e_int_int, ↓e_tuple_tup, ↓e_tuple_obj, ↓e_list_tup, ↓e_list_obj, ↓e_dget, ↓e_din, ↓e_dnin, ↓e_lstAt, ↓e_dicAt,   e_key_int, e_key_str, e_up, e_ty_str, e_ty_tup, e_ty_int, e_ty_bl, e_ty_non, atI0, atI1, atI2, atI3, atIL, ixN0, ixN1, cut_from1, e_ite_or, e_ite_and, zln, znl, zli, zil, zni, zin, sizeLine_eq, CMul, CDiv, cpow1018, true_or, or_true, kb_strstr, kb_tupstr, kb_tuptup, kb_strtup, kb_inttup, kb_bltup, kb_nontup, kb_strbl, kb_strint, kb_intbl, kb_intint, kb_blbl, kb_blint, kb_nonbl, kb_nonint, kb_nonstr, kb_intstr, kb_blstr, kb_tupbl, kb_tupint,   List.set_cons_zero, List.set_cons_succ, List.set_nil, List.getElem?_cons_zero, List.getElem?_cons_succ, List.getElem?_nil, List.length_cons, List.length_nil, List.length_map, List.length_append, e_lcN, e_lcC, e_forN, e_forC, List.getLast?_concat, List.dropLast_concat, List.nil_append, List.cons_append, List.append_nil, List.append_assoc, List.reverse_cons, List.reverse_nil, List.isEmpty_nil, List.isEmpty_cons, isEmpty_snoc, List.any_cons, List.any_nil, List.all_cons, List.all_nil, flatD, eqF, in_non, in_tup, in_str, in_int, in_bl, in_obj, in_fl, startA, List.map_cons, List.map_nil, List.replicate_succ, List.replicate_zero,   Nat.reduceAdd, Nat.reduceSub, Nat.reduceLeDiff, Nat.zero_add, Int.reduceLE, Int.reduceLT, Int.reduceToNat, Int.reducePow, Int.reduceNeg, Int.reduceAdd, Int.reduceSub,   Option.isSome_some, Option.isSome_none, Bool.not_true, Bool.not_false, Bool.not_eq_true', Bool.not_eq_eq_eq_not, Bool.not_eq_true, Bool.false_eq_true, Bool.true_eq_false, Bool.and_true, Bool.true_and, Bool.or_false, Bool.false_or, Bool.or_true, Bool.true_or, Bool.and_false, Bool.false_and, if_true, if_false, ite_true, ite_false, reduceIte, reduceCtorEq, decide_true, decide_false, decide_eq_true_eq, decide_eq_false_iff_not, true_and, and_true, eq_self, ne_eq, not_false_eq_true, not_true_eq_false, and_self, *])
    refine ⟨rfl, m, p, pos, rfl, by omega, hf.im.1, ok, n1, n2, fun p1 M1 np1 e1 h1 => ?_⟩
    try (simp only [↓e_seq, ↓e_next, ↓e_break, ↓e_cont, ↓e_expr, ↓e_ret, ↓e_retN, ↓e_if, ↓e_never, ↓e_asg, ↓e_name, ↓e_agtup, ↓e_agcons, ↓e_agnil, ↓e_agsub, ↓e_aug, ↓e_dput, ↓e_var, ↓e_c, ↓e_op, ↓e_some, ↓e_none, ↓e_test, ↓e_and, ↓e_or, ↓e_not, ↓e_yes, ↓e_truth,   ↓e_tru_bl, ↓e_tru_int, ↓e_tru_non, ↓e_tru_str, ↓e_tru_tup, ↓e_tru_obj, ↓e_chain, ↓e_orV, ↓e_andV, ↓e_notV, ↓e_ifE, ↓e_neg, ↓e_nil, ↓e_cons, ↓e_tup, ↓e_lst, ↓e_dnew, ↓e_call, ↓e_cb, ↓e_isi, ↓e_sl, ↓e_onone, ↓e_osome, ↓e_rev, ↓e_lm, ↓e_append, ↓e_extend, ↓e_pop, ↓e_join, ↓e_dget2, ↓e_sortSet, ↓e_sortS, ↓e_setd, strsOf_map, ↓e_maxI, ↓e_disp, ↓e_pairN, ↓e_pairC, intsOf_map, ↓e_for, ↓e_ilist, ↓e_itup, ↓e_rng1, ↓e_rng2, ↓e_lc, ↓e_lc2, e_lc2N, ↓e_ienum, ↓e_izip, ↓e_anyB, ↓e_allB, ↓e_mulS, blsOf_map, ↓e_set0, ↓e_sadd, ↓e_sortTx, ↓e_sortD, ↓e_repr, ↓e_extT, ↓e_sc2, ↓e_sortZ, ↓e_tupVals, ↓e_wget, ↓e_wix, ↓e_listZip, zipD_nil, zipD_cons, ↓e_dgetF, ↓e_idif, ↓e_isB, ↓e_sortI, ↓e_sortSetI,   ↓e_add_int, ↓e_add_str, ↓e_add_tup, ↓e_add_obj, ↓e_iadd_int, ↓e_iadd_str, ↓e_iadd_obj, ↓e_I, ↓e_I0, ↓e_IS_int, ↓e_IS_str, ↓e_eq_str, ↓e_ne_str, ↓e_eq_int, ↓e_ne_int, ↓e_eq_bl, ↓e_ne_bl, ↓e_isN, ↓e_notN, ↓e_ix_tup, ↓e_ix_fl, ↓e_ix_str, ↓e_ix_obj, ↓e_in_tup, ↓e_nin_tup, ↓e_len_tup, ↓e_len_fl, ↓e_len_str, ↓e_len_obj, ↓e_int_int, ↓e_tuple_tup, ↓e_tuple_obj, ↓e_list_tup, ↓e_list_obj, ↓e_dget, ↓e_din, ↓e_dnin, ↓e_lstAt, ↓e_dicAt,   e_key_int, e_key_str, e_up, e_ty_str, e_ty_tup, e_ty_int, e_ty_bl, e_ty_non, atI0, atI1, atI2, atI3, atIL, ixN0, ixN1, cut_from1, e_ite_or, e_ite_and, zln, znl, zli, zil, zni, zin, sizeLine_eq, CMul, CDiv, cpow1018, true_or, or_true, kb_strstr, kb_tupstr, kb_tuptup, kb_strtup, kb_inttup, kb_bltup, kb_nontup, kb_strbl, kb_strint, kb_intbl, kb_intint, kb_blbl, kb_blint, kb_nonbl, kb_nonint, kb_nonstr, kb_intstr, kb_blstr, kb_tupbl, kb_tupint,   List.set_cons_zero, List.set_cons_succ, List.set_nil, List.getElem?_cons_zero, List.getElem?_cons_succ, List.getElem?_nil, List.length_cons, List.length_nil, List.length_map, List.length_append, e_lcN, e_lcC, e_forN, e_forC, List.getLast?_concat, List.dropLast_concat, List.nil_append, List.cons_append, List.append_nil, List.append_assoc, List.reverse_cons, List.reverse_nil, List.isEmpty_nil, List.isEmpty_cons, isEmpty_snoc, List.any_cons, List.any_nil, List.all_cons, List.all_nil, flatD, eqF, in_non, in_tup, in_str, in_int, in_bl, in_obj, in_fl, startA, List.map_cons, List.map_nil, List.replicate_succ, List.replicate_zero,   Nat.reduceAdd, Nat.reduceSub, Nat.reduceLeDiff, Nat.zero_add, Int.reduceLE, Int.reduceLT, Int.reduceToNat, Int.reducePow, Int.reduceNeg, Int.reduceAdd, Int.reduceSub,   Option.isSome_some, Option.isSome_none, Bool.not_true, Bool.not_false, Bool.not_eq_true', Bool.not_eq_eq_eq_not, Bool.not_eq_true, Bool.false_eq_true, Bool.true_eq_false, Bool.and_true, Bool.true_and, Bool.or_false, Bool.false_or, Bool.or_true, Bool.true_or, Bool.and_false, Bool.false_and, if_true, if_false, ite_true, ite_false, reduceIte, reduceCtorEq, decide_true, decide_false, decide_eq_true_eq, decide_eq_false_iff_not, true_and, and_true, eq_self, ne_eq, not_false_eq_true, not_true_eq_false, and_self, *])
    refine ⟨rfl, m, g, pos, rfl, by omega, hf.im.2, ok, n1, n2, fun p2 M2 np2 e2 h2 => ?_⟩
    have h1' := e2 _ _ h1
    have e12 := e1.trans e2
    clear h1 e1 e2
    have zw := zip_ws m.later.length (frc pos m p) (frc pos m g)
    try (simp only [↓e_seq, ↓e_next, ↓e_break, ↓e_cont, ↓e_expr, ↓e_ret, ↓e_retN, ↓e_if, ↓e_never, ↓e_asg, ↓e_name, ↓e_agtup, ↓e_agcons, ↓e_agnil, ↓e_agsub, ↓e_aug, ↓e_dput, ↓e_var, ↓e_c, ↓e_op, ↓e_some, ↓e_none, ↓e_test, ↓e_and, ↓e_or, ↓e_not, ↓e_yes, ↓e_truth,   ↓e_tru_bl, ↓e_tru_int, ↓e_tru_non, ↓e_tru_str, ↓e_tru_tup, ↓e_tru_obj, ↓e_chain, ↓e_orV, ↓e_andV, ↓e_notV, ↓e_ifE, ↓e_neg, ↓e_nil, ↓e_cons, ↓e_tup, ↓e_lst, ↓e_dnew, ↓e_call, ↓e_cb, ↓e_isi, ↓e_sl, ↓e_onone, ↓e_osome, ↓e_rev, ↓e_lm, ↓e_append, ↓e_extend, ↓e_pop, ↓e_join, ↓e_dget2, ↓e_sortSet, ↓e_sortS, ↓e_setd, strsOf_map, ↓e_maxI, ↓e_disp, ↓e_pairN, ↓e_pairC, intsOf_map, ↓e_for, ↓e_ilist, ↓e_itup, ↓e_rng1, ↓e_rng2, ↓e_lc, ↓e_lc2, e_lc2N, ↓e_ienum, ↓e_izip, ↓e_anyB, ↓e_allB, ↓e_mulS, blsOf_map, ↓e_set0, ↓e_sadd, ↓e_sortTx, ↓e_sortD, ↓e_repr, ↓e_extT, ↓e_sc2, ↓e_sortZ, ↓e_tupVals, ↓e_wget, ↓e_wix, ↓e_listZip, zipD_nil, zipD_cons, ↓e_dgetF, ↓e_idif, ↓e_isB, ↓e_sortI, ↓e_sortSetI,   ↓e_add_int, ↓e_add_str, ↓e_add_tup, ↓e_add_obj, ↓e_iadd_int, ↓e_iadd_str, ↓e_iadd_obj, ↓e_I, ↓e_I0, ↓e_IS_int, ↓e_IS_str, ↓e_eq_str, ↓e_ne_str, ↓e_eq_int, ↓e_ne_int, ↓e_eq_bl, ↓e_ne_bl, ↓e_isN, ↓e_notN, ↓e_ix_tup, ↓e_ix_fl, ↓e_ix_str, ↓e_ix_obj, ↓e_in_tup, ↓e_nin_tup, ↓e_len_tup, ↓e_len_fl, ↓e_len_str, ↓e_len_obj, ↓e_int_int, ↓e_tuple_tup, ↓e_tuple_obj, ↓e_list_tup, ↓e_list_obj, ↓e_dget, ↓e_din, ↓e_dnin, ↓e_lstAt, ↓e_dicAt,   e_key_int, e_key_str, e_up, e_ty_str, e_ty_tup, e_ty_int, e_ty_bl, e_ty_non, atI0, atI1, atI2, atI3, atIL, ixN0, ixN1, cut_from1, e_ite_or, e_ite_and, zln, znl, zli, zil, zni, zin, sizeLine_eq, CMul, CDiv, cpow1018, true_or, or_true, kb_strstr, kb_tupstr, kb_tuptup, kb_strtup, kb_inttup, kb_bltup, kb_nontup, kb_strbl, kb_strint, kb_intbl, kb_intint, kb_blbl, kb_blint, kb_nonbl, kb_nonint, kb_nonstr, kb_intstr, kb_blstr, kb_tupbl, kb_tupint,   List.set_cons_zero, List.set_cons_succ, List.set_nil, List.getElem?_cons_zero, List.getElem?_cons_succ, List.getElem?_nil, List.length_cons, List.length_nil, List.length_map, List.length_append, e_lcN, e_lcC, e_forN, e_forC, List.getLast?_concat, List.dropLast_concat, List.nil_append, List.cons_append, List.append_nil, List.append_assoc, List.reverse_cons, List.reverse_nil, List.isEmpty_nil, List.isEmpty_cons, isEmpty_snoc, List.any_cons, List.any_nil, List.all_cons, List.all_nil, flatD, eqF, in_non, in_tup, in_str, in_int, in_bl, in_obj, in_fl, startA, List.map_cons, List.map_nil, List.replicate_succ, List.replicate_zero,   Nat.reduceAdd, Nat.reduceSub, Nat.reduceLeDiff, Nat.zero_add, Int.reduceLE, Int.reduceLT, Int.reduceToNat, Int.reducePow, Int.reduceNeg, Int.reduceAdd, Int.reduceSub,   Option.isSome_some, Option.isSome_none, Bool.not_true, Bool.not_false, Bool.not_eq_true', Bool.not_eq_eq_eq_not, Bool.not_eq_true, Bool.false_eq_true, Bool.true_eq_false, Bool.and_true, Bool.true_and, Bool.or_false, Bool.false_or, Bool.or_true, Bool.true_or, Bool.and_false, Bool.false_and, if_true, if_false, ite_true, ite_false, reduceIte, reduceCtorEq, decide_true, decide_false, decide_eq_true_eq, decide_eq_false_iff_not, true_and, and_true, eq_self, ne_eq, not_false_eq_true, not_true_eq_false, and_self, *])
    refine ⟨by decide, by rw [List.length_range]; omega, ?_⟩
    refine lc2_run (fun ds acc M' => ∃ done rest : List Nat, ds = rest.map (fun w => D.tup [.bl (frc pos m p w), .bl (frc pos m g w)]) ∧ acc = done.map (fun w => D.bl (frc pos m p w && !frc pos m g w)) ∧ List.range m.later.length = done ++ rest ∧ M' = M2) ?_ ?_ ?_ ⟨[], List.range m.later.length, rfl, rfl, rfl, rfl⟩
    · rintro ds acc M' ⟨_, _, _, _, _, rfl⟩
      exact ⟨h1', h2⟩
    · rintro acc M' ⟨done, rest, hr, rfl, hx, rfl⟩
      have z := List.map_eq_nil_iff.mp hr.symm
      subst z
      rw [List.append_nil] at hx
      subst hx
      intro o no
      refine ⟨by omega, fin _ (fun v => frc pos m p v && !frc pos m g v) o _ (e12.trans (Ext.new no)) up_same rfl (by show 15 < 16; decide) fun w => ?_⟩
      show ((m.later.getD w []).all fun v => !(frc pos m p v && !frc pos m g v)) = _
      rw [List.not_any_eq_all_not]
    · rintro d r acc M' N ⟨done, rest, hr, rfl, hx, rfl⟩ next
      cases rest with
      | nil => cases hr
      | cons w rest =>
        rw [List.map_cons] at hr
        injection hr with hr1 hr2
        subst hr1 hr2
        refine ⟨_, _, rfl, ?_⟩
        have go := next (done.map (fun w => D.bl (frc pos m p w && !frc pos m g w)) ++ [.bl (frc pos m p w && !frc pos m g w)]) M' ⟨done ++ [w], rest, rfl, by rw [List.map_append]; rfl, by rw [hx, List.append_assoc]; rfl, rfl⟩
        clear next q fin
        cases c : frc pos m p w with
        | false =>
          rw [c, Bool.false_and] at go
          try (simp only [↓e_seq, ↓e_next, ↓e_break, ↓e_cont, ↓e_expr, ↓e_ret, ↓e_retN, ↓e_if, ↓e_never, ↓e_asg, ↓e_name, ↓e_agtup, ↓e_agcons, ↓e_agnil, ↓e_agsub, ↓e_aug, ↓e_dput, ↓e_var, ↓e_c, ↓e_op, ↓e_some, ↓e_none, ↓e_test, ↓e_and, ↓e_or, ↓e_not, ↓e_yes, ↓e_truth,   ↓e_tru_bl, ↓e_tru_int, ↓e_tru_non, ↓e_tru_str, ↓e_tru_tup, ↓e_tru_obj, ↓e_chain, ↓e_orV, ↓e_andV, ↓e_notV, ↓e_ifE, ↓e_neg, ↓e_nil, ↓e_cons, ↓e_tup, ↓e_lst, ↓e_dnew, ↓e_call, ↓e_cb, ↓e_isi, ↓e_sl, ↓e_onone, ↓e_osome, ↓e_rev, ↓e_lm, ↓e_append, ↓e_extend, ↓e_pop, ↓e_join, ↓e_dget2, ↓e_sortSet, ↓e_sortS, ↓e_setd, strsOf_map, ↓e_maxI, ↓e_disp, ↓e_pairN, ↓e_pairC, intsOf_map, ↓e_for, ↓e_ilist, ↓e_itup, ↓e_rng1, ↓e_rng2, ↓e_lc, ↓e_lc2, e_lc2N, ↓e_ienum, ↓e_izip, ↓e_anyB, ↓e_allB, ↓e_mulS, blsOf_map, ↓e_set0, ↓e_sadd, ↓e_sortTx, ↓e_sortD, ↓e_repr, ↓e_extT, ↓e_sc2, ↓e_sortZ, ↓e_tupVals, ↓e_wget, ↓e_wix, ↓e_listZip, zipD_nil, zipD_cons, ↓e_dgetF, ↓e_idif, ↓e_isB, ↓e_sortI, ↓e_sortSetI,   ↓e_add_int, ↓e_add_str, ↓e_add_tup, ↓e_add_obj, ↓e_iadd_int, ↓e_iadd_str, ↓e_iadd_obj, ↓e_I, ↓e_I0, ↓e_IS_int, ↓e_IS_str, ↓e_eq_str, ↓e_ne_str, ↓e_eq_int, ↓e_ne_int, ↓e_eq_bl, ↓e_ne_bl, ↓e_isN, ↓e_notN, ↓e_ix_tup, ↓e_ix_fl, ↓e_ix_str, ↓e_ix_obj, ↓e_in_tup, ↓e_nin_tup, ↓e_len_tup, ↓e_len_fl, ↓e_len_str, ↓e_len_obj, ↓e_int_int, ↓e_tuple_tup, ↓e_tuple_obj, ↓e_list_tup, ↓e_list_obj, ↓e_dget, ↓e_din, ↓e_dnin, ↓e_lstAt, ↓e_dicAt,   e_key_int, e_key_str, e_up, e_ty_str, e_ty_tup, e_ty_int, e_ty_bl, e_ty_non, atI0, atI1, atI2, atI3, atIL, ixN0, ixN1, cut_from1, e_ite_or, e_ite_and, zln, znl, zli, zil, zni, zin, sizeLine_eq, CMul, CDiv, cpow1018, true_or, or_true, kb_strstr, kb_tupstr, kb_tuptup, kb_strtup, kb_inttup, kb_bltup, kb_nontup, kb_strbl, kb_strint, kb_intbl, kb_intint, kb_blbl, kb_blint, kb_nonbl, kb_nonint, kb_nonstr, kb_intstr, kb_blstr, kb_tupbl, kb_tupint,   List.set_cons_zero, List.set_cons_succ, List.set_nil, List.getElem?_cons_zero, List.getElem?_cons_succ, List.getElem?_nil, List.length_cons, List.length_nil, List.length_map, List.length_append, e_lcN, e_lcC, e_forN, e_forC, List.getLast?_concat, List.dropLast_concat, List.nil_append, List.cons_append, List.append_nil, List.append_assoc, List.reverse_cons, List.reverse_nil, List.isEmpty_nil, List.isEmpty_cons, isEmpty_snoc, List.any_cons, List.any_nil, List.all_cons, List.all_nil, flatD, eqF, in_non, in_tup, in_str, in_int, in_bl, in_obj, in_fl, startA, List.map_cons, List.map_nil, List.replicate_succ, List.replicate_zero,   Nat.reduceAdd, Nat.reduceSub, Nat.reduceLeDiff, Nat.zero_add, Int.reduceLE, Int.reduceLT, Int.reduceToNat, Int.reducePow, Int.reduceNeg, Int.reduceAdd, Int.reduceSub,   Option.isSome_some, Option.isSome_none, Bool.not_true, Bool.not_false, Bool.not_eq_true', Bool.not_eq_eq_eq_not, Bool.not_eq_true, Bool.false_eq_true, Bool.true_eq_false, Bool.and_true, Bool.true_and, Bool.or_false, Bool.false_or, Bool.or_true, Bool.true_or, Bool.and_false, Bool.false_and, if_true, if_false, ite_true, ite_false, reduceIte, reduceCtorEq, decide_true, decide_false, decide_eq_true_eq, decide_eq_false_iff_not, true_and, and_true, eq_self, ne_eq, not_false_eq_true, not_true_eq_false, and_self, *])
        | true =>
          rw [c, Bool.true_and] at go
          try (simp only [↓e_seq, ↓e_next, ↓e_break, ↓e_cont, ↓e_expr, ↓e_ret, ↓e_retN, ↓e_if, ↓e_never, ↓e_asg, ↓e_name, ↓e_agtup, ↓e_agcons, ↓e_agnil, ↓e_agsub, ↓e_aug, ↓e_dput, ↓e_var, ↓e_c, ↓e_op, ↓e_some, ↓e_none, ↓e_test, ↓e_and, ↓e_or, ↓e_not, ↓e_yes, ↓e_truth,   ↓e_tru_bl, ↓e_tru_int, ↓e_tru_non, ↓e_tru_str, ↓e_tru_tup, ↓e_tru_obj, ↓e_chain, ↓e_orV, ↓e_andV, ↓e_notV, ↓e_ifE, ↓e_neg, ↓e_nil, ↓e_cons, ↓e_tup, ↓e_lst, ↓e_dnew, ↓e_call, ↓e_cb, ↓e_isi, ↓e_sl, ↓e_onone, ↓e_osome, ↓e_rev, ↓e_lm, ↓e_append, ↓e_extend, ↓e_pop, ↓e_join, ↓e_dget2, ↓e_sortSet, ↓e_sortS, ↓e_setd, strsOf_map, ↓e_maxI, ↓e_disp, ↓e_pairN, ↓e_pairC, intsOf_map, ↓e_for, ↓e_ilist, ↓e_itup, ↓e_rng1, ↓e_rng2, ↓e_lc, ↓e_lc2, e_lc2N, ↓e_ienum, ↓e_izip, ↓e_anyB, ↓e_allB, ↓e_mulS, blsOf_map, ↓e_set0, ↓e_sadd, ↓e_sortTx, ↓e_sortD, ↓e_repr, ↓e_extT, ↓e_sc2, ↓e_sortZ, ↓e_tupVals, ↓e_wget, ↓e_wix, ↓e_listZip, zipD_nil, zipD_cons, ↓e_dgetF, ↓e_idif, ↓e_isB, ↓e_sortI, ↓e_sortSetI,   ↓e_add_int, ↓e_add_str, ↓e_add_tup, ↓e_add_obj, ↓e_iadd_int, ↓e_iadd_str, ↓e_iadd_obj, ↓e_I, ↓e_I0, ↓e_IS_int, ↓e_IS_str, ↓e_eq_str, ↓e_ne_str, ↓e_eq_int, ↓e_ne_int, ↓e_eq_bl, ↓e_ne_bl, ↓e_isN, ↓e_notN, ↓e_ix_tup, ↓e_ix_fl, ↓e_ix_str, ↓e_ix_obj, ↓e_in_tup, ↓e_nin_tup, ↓e_len_tup, ↓e_len_fl, ↓e_len_str, ↓e_len_obj, ↓e_int_int, ↓e_tuple_tup, ↓e_tuple_obj, ↓e_list_tup, ↓e_list_obj, ↓e_dget, ↓e_din, ↓e_dnin, ↓e_lstAt, ↓e_dicAt,   e_key_int, e_key_str, e_up, e_ty_str, e_ty_tup, e_ty_int, e_ty_bl, e_ty_non, atI0, atI1, atI2, atI3, atIL, ixN0, ixN1, cut_from1, e_ite_or, e_ite_and, zln, znl, zli, zil, zni, zin, sizeLine_eq, CMul, CDiv, cpow1018, true_or, or_true, kb_strstr, kb_tupstr, kb_tuptup, kb_strtup, kb_inttup, kb_bltup, kb_nontup, kb_strbl, kb_strint, kb_intbl, kb_intint, kb_blbl, kb_blint, kb_nonbl, kb_nonint, kb_nonstr, kb_intstr, kb_blstr, kb_tupbl, kb_tupint,   List.set_cons_zero, List.set_cons_succ, List.set_nil, List.getElem?_cons_zero, List.getElem?_cons_succ, List.getElem?_nil, List.length_cons, List.length_nil, List.length_map, List.length_append, e_lcN, e_lcC, e_forN, e_forC, List.getLast?_concat, List.dropLast_concat, List.nil_append, List.cons_append, List.append_nil, List.append_assoc, List.reverse_cons, List.reverse_nil, List.isEmpty_nil, List.isEmpty_cons, isEmpty_snoc, List.any_cons, List.any_nil, List.all_cons, List.all_nil, flatD, eqF, in_non, in_tup, in_str, in_int, in_bl, in_obj, in_fl, startA, List.map_cons, List.map_nil, List.replicate_succ, List.replicate_zero,   Nat.reduceAdd, Nat.reduceSub, Nat.reduceLeDiff, Nat.zero_add, Int.reduceLE, Int.reduceLT, Int.reduceToNat, Int.reducePow, Int.reduceNeg, Int.reduceAdd, Int.reduceSub,   Option.isSome_some, Option.isSome_none, Bool.not_true, Bool.not_false, Bool.not_eq_true', Bool.not_eq_eq_eq_not, Bool.not_eq_true, Bool.false_eq_true, Bool.true_eq_false, Bool.and_true, Bool.true_and, Bool.or_false, Bool.false_or, Bool.or_true, Bool.true_or, Bool.and_false, Bool.false_and, if_true, if_false, ite_true, ite_false, reduceIte, reduceCtorEq, decide_true, decide_false, decide_eq_true_eq, decide_eq_false_iff_not, true_and, and_true, eq_self, ne_eq, not_false_eq_true, not_true_eq_false, and_self, *])
def A_holds (L : Nat) : ASp := fun ds M Q _ => ∃ (m : Mdl) (w : Nat) (f : Fm) (pos : Bool), ds = [m.d, .int w, f.d, .str (if pos = true then z_positive else z_minimal)] ∧ f.sz ≤ L ∧ f.Tiny ∧ w < m.later.length ∧ m.Ok ∧ m.later.length ≤ 1000 ∧ (∀ r ∈ m.later, r.length ≤ 1000) ∧ ∀ M', Ext M M' → Q (.bl (frc pos m f w)) M'
theorem p_holds (L : Nat) (ds : List D) (M : Sto) (Q : D → Sto → Prop) (Xa) (hl : ds.length = 4) (h : A_holds L ds M Q Xa) : a_holds (A_holding L) ax0 (Done Q) (startA ["model", "world", "formula", "strength"] ds) M := by
  obtain ⟨m, w, f, pos, rfl, hL, hf, hw, ok, n1, n2, q⟩ := h
  unfold a_holds
  try (simp only [↓e_seq, ↓e_next, ↓e_break, ↓e_cont, ↓e_expr, ↓e_ret, ↓e_retN, ↓e_if, ↓e_never, ↓e_asg, ↓e_name, ↓e_agtup, ↓e_agcons, ↓e_agnil, ↓e_agsub, ↓e_aug, ↓e_dput, ↓e_var, ↓e_c, ↓e_op, ↓e_some, ↓e_none, ↓e_test, ↓e_and, ↓e_or, ↓e_not, ↓e_yes, ↓e_truth,   ↓e_tru_bl, ↓e_tru_int, ↓e_tru_non, ↓e_tru_str, ↓e_tru_tup, ↓e_tru_obj, ↓e_chain, ↓e_orV, ↓e_andV, ↓e_notV, ↓e_ifE, ↓e_neg, ↓e_nil, ↓e_cons, ↓e_tup, ↓e_lst, ↓e_dnew, ↓e_call, ↓e_cb, ↓e_isi, ↓e_sl, ↓e_onone, ↓e_osome, ↓e_rev, ↓e_lm, ↓e_append, ↓e_extend, ↓e_pop, ↓e_join, ↓e_dget2, ↓e_sortSet, ↓e_sortS, ↓e_setd, strsOf_map, ↓e_maxI, ↓e_disp, ↓e_pairN, ↓e_pairC, intsOf_map, ↓e_for, ↓e_ilist, ↓e_itup, ↓e_rng1, ↓e_rng2, ↓e_lc, ↓e_lc2, e_lc2N, ↓e_ienum, ↓e_izip, ↓e_anyB, ↓e_allB, ↓e_mulS, blsOf_map, ↓e_set0, ↓e_sadd, ↓e_sortTx, ↓e_sortD, ↓e_repr, ↓e_extT, ↓e_sc2, ↓e_sortZ, ↓e_tupVals, ↓e_wget, ↓e_wix, ↓e_listZip, zipD_nil, zipD_cons, ↓e_dgetF, ↓e_idif, ↓e_isB, ↓e_sortI, ↓e_sortSetI,   ↓e_add_int, ↓e_add_str, ↓e_add_tup, ↓e_add_obj, ↓e_iadd_int, ↓e_iadd_str, ↓e_iadd_obj, ↓e_I, ↓e_I0, ↓e_IS_int, ↓e_IS_str, ↓e_eq_str, ↓e_ne_str, ↓e_eq_int, ↓e_ne_int, ↓e_eq_bl, ↓e_ne_bl, ↓e_isN, ↓e_notN, ↓e_ix_tup, ↓e_ix_fl, ↓e_ix_str, ↓e_ix_obj, ↓e_in_tup, ↓e_nin_tup, ↓e_len_tup, ↓e_len_fl, ↓e_len_str, ↓e_len_obj, ↓e_int_int, ↓e_tuple_tup, ↓e_tuple_obj, ↓e_list_tup, ↓e_list_obj, ↓e_dget, ↓e_din, ↓e_dnin, ↓e_lstAt, ↓e_dicAt,   e_key_int, e_key_str, e_up, e_ty_str, e_ty_tup, e_ty_int, e_ty_bl, e_ty_non, atI0, atI1, atI2, atI3, atIL, ixN0, ixN1, cut_from1, e_ite_or, e_ite_and, zln, znl, zli, zil, zni, zin, sizeLine_eq, CMul, CDiv, cpow1018, true_or, or_true, kb_strstr, kb_tupstr, kb_tuptup, kb_strtup, kb_inttup, kb_bltup, kb_nontup, kb_strbl, kb_strint, kb_intbl, kb_intint, kb_blbl, kb_blint, kb_nonbl, kb_nonint, kb_nonstr, kb_intstr, kb_blstr, kb_tupbl, kb_tupint,   List.set_cons_zero, List.set_cons_succ, List.set_nil, List.getElem?_cons_zero, List.getElem?_cons_succ, List.getElem?_nil, List.length_cons, List.length_nil, List.length_map, List.length_append, e_lcN, e_lcC, e_forN, e_forC, List.getLast?_concat, List.dropLast_concat, List.nil_append, List.cons_append, List.append_nil, List.append_assoc, List.reverse_cons, List.reverse_nil, List.isEmpty_nil, List.isEmpty_cons, isEmpty_snoc, List.any_cons, List.any_nil, List.all_cons, List.all_nil, flatD, eqF, in_non, in_tup, in_str, in_int, in_bl, in_obj, in_fl, startA, List.map_cons, List.map_nil, List.replicate_succ, List.replicate_zero,   Nat.reduceAdd, Nat.reduceSub, Nat.reduceLeDiff, Nat.zero_add, Int.reduceLE, Int.reduceLT, Int.reduceToNat, Int.reducePow, Int.reduceNeg, Int.reduceAdd, Int.reduceSub,   Option.isSome_some, Option.isSome_none, Bool.not_true, Bool.not_false, Bool.not_eq_true', Bool.not_eq_eq_eq_not, Bool.not_eq_true, Bool.false_eq_true, Bool.true_eq_false, Bool.and_true, Bool.true_and, Bool.or_false, Bool.false_or, Bool.or_true, Bool.true_or, Bool.and_false, Bool.false_and, if_true, if_false, ite_true, ite_false, reduceIte, reduceCtorEq, decide_true, decide_false, decide_eq_true_eq, decide_eq_false_iff_not, true_and, and_true, eq_self, ne_eq, not_false_eq_true, not_true_eq_false, and_self, *])
  refine ⟨rfl, m, f, pos, rfl, hL, hf, ok, n1, n2, fun p M1 np e1 h1 => ?_⟩
  have at1 := ws_at hw (frc pos m f)
  have nq := q M1 e1
  clear q
  try (simp only [↓e_seq, ↓e_next, ↓e_break, ↓e_cont, ↓e_expr, ↓e_ret, ↓e_retN, ↓e_if, ↓e_never, ↓e_asg, ↓e_name, ↓e_agtup, ↓e_agcons, ↓e_agnil, ↓e_agsub, ↓e_aug, ↓e_dput, ↓e_var, ↓e_c, ↓e_op, ↓e_some, ↓e_none, ↓e_test, ↓e_and, ↓e_or, ↓e_not, ↓e_yes, ↓e_truth,   ↓e_tru_bl, ↓e_tru_int, ↓e_tru_non, ↓e_tru_str, ↓e_tru_tup, ↓e_tru_obj, ↓e_chain, ↓e_orV, ↓e_andV, ↓e_notV, ↓e_ifE, ↓e_neg, ↓e_nil, ↓e_cons, ↓e_tup, ↓e_lst, ↓e_dnew, ↓e_call, ↓e_cb, ↓e_isi, ↓e_sl, ↓e_onone, ↓e_osome, ↓e_rev, ↓e_lm, ↓e_append, ↓e_extend, ↓e_pop, ↓e_join, ↓e_dget2, ↓e_sortSet, ↓e_sortS, ↓e_setd, strsOf_map, ↓e_maxI, ↓e_disp, ↓e_pairN, ↓e_pairC, intsOf_map, ↓e_for, ↓e_ilist, ↓e_itup, ↓e_rng1, ↓e_rng2, ↓e_lc, ↓e_lc2, e_lc2N, ↓e_ienum, ↓e_izip, ↓e_anyB, ↓e_allB, ↓e_mulS, blsOf_map, ↓e_set0, ↓e_sadd, ↓e_sortTx, ↓e_sortD, ↓e_repr, ↓e_extT, ↓e_sc2, ↓e_sortZ, ↓e_tupVals, ↓e_wget, ↓e_wix, ↓e_listZip, zipD_nil, zipD_cons, ↓e_dgetF, ↓e_idif, ↓e_isB, ↓e_sortI, ↓e_sortSetI,   ↓e_add_int, ↓e_add_str, ↓e_add_tup, ↓e_add_obj, ↓e_iadd_int, ↓e_iadd_str, ↓e_iadd_obj, ↓e_I, ↓e_I0, ↓e_IS_int, ↓e_IS_str, ↓e_eq_str, ↓e_ne_str, ↓e_eq_int, ↓e_ne_int, ↓e_eq_bl, ↓e_ne_bl, ↓e_isN, ↓e_notN, ↓e_ix_tup, ↓e_ix_fl, ↓e_ix_str, ↓e_ix_obj, ↓e_in_tup, ↓e_nin_tup, ↓e_len_tup, ↓e_len_fl, ↓e_len_str, ↓e_len_obj, ↓e_int_int, ↓e_tuple_tup, ↓e_tuple_obj, ↓e_list_tup, ↓e_list_obj, ↓e_dget, ↓e_din, ↓e_dnin, ↓e_lstAt, ↓e_dicAt,   e_key_int, e_key_str, e_up, e_ty_str, e_ty_tup, e_ty_int, e_ty_bl, e_ty_non, atI0, atI1, atI2, atI3, atIL, ixN0, ixN1, cut_from1, e_ite_or, e_ite_and, zln, znl, zli, zil, zni, zin, sizeLine_eq, CMul, CDiv, cpow1018, true_or, or_true, kb_strstr, kb_tupstr, kb_tuptup, kb_strtup, kb_inttup, kb_bltup, kb_nontup, kb_strbl, kb_strint, kb_intbl, kb_intint, kb_blbl, kb_blint, kb_nonbl, kb_nonint, kb_nonstr, kb_intstr, kb_blstr, kb_tupbl, kb_tupint,   List.set_cons_zero, List.set_cons_succ, List.set_nil, List.getElem?_cons_zero, List.getElem?_cons_succ, List.getElem?_nil, List.length_cons, List.length_nil, List.length_map, List.length_append, e_lcN, e_lcC, e_forN, e_forC, List.getLast?_concat, List.dropLast_concat, List.nil_append, List.cons_append, List.append_nil, List.append_assoc, List.reverse_cons, List.reverse_nil, List.isEmpty_nil, List.isEmpty_cons, isEmpty_snoc, List.any_cons, List.any_nil, List.all_cons, List.all_nil, flatD, eqF, in_non, in_tup, in_str, in_int, in_bl, in_obj, in_fl, startA, List.map_cons, List.map_nil, List.replicate_succ, List.replicate_zero,   Nat.reduceAdd, Nat.reduceSub, Nat.reduceLeDiff, Nat.zero_add, Int.reduceLE, Int.reduceLT, Int.reduceToNat, Int.reducePow, Int.reduceNeg, Int.reduceAdd, Int.reduceSub,   Option.isSome_some, Option.isSome_none, Bool.not_true, Bool.not_false, Bool.not_eq_true', Bool.not_eq_eq_eq_not, Bool.not_eq_true, Bool.false_eq_true, Bool.true_eq_false, Bool.and_true, Bool.true_and, Bool.or_false, Bool.false_or, Bool.or_true, Bool.true_or, Bool.and_false, Bool.false_and, if_true, if_false, ite_true, ite_false, reduceIte, reduceCtorEq, decide_true, decide_false, decide_eq_true_eq, decide_eq_false_iff_not, true_and, and_true, eq_self, ne_eq, not_false_eq_true, not_true_eq_false, and_self, *])

structure Mdl.Kr (m : Mdl) : Prop where
  trans : ∀ w v u, v ∈ m.later.getD w [] → u ∈ m.later.getD v [] → u ∈ m.later.getD w []
  gmono : ∀ w v, v ∈ m.later.getD w [] → ∀ g ∈ m.giv.getD w [], g ∈ m.giv.getD v []
  bmono : ∀ w v, v ∈ m.later.getD w [] → w ∈ m.brk → v ∈ m.brk
theorem all_sub {α : Type} {xs ys : List α} {p : α → Bool} (h : ∀ y ∈ ys, y ∈ xs) (a : xs.all p = true) : ys.all p = true :=
  List.all_eq_true.mpr fun y hy => List.all_eq_true.mp a y (h y hy)
theorem persist {pos : Bool} {m : Mdl} (k : m.Kr) {f : Fm} {w v : Nat} (h : v ∈ m.later.getD w []) (hf : frc pos m f w = true) : frc pos m f v = true := by
  cases f with
  | lt s => exact decide_eq_true (k.gmono w v h _ (of_decide_eq_true hf))
  | ng p =>
    cases pos with
    | true =>
      have e : ∀ w, frc true m (.ng p) w = decide (Fm.ng p ∈ m.giv.getD w []) := fun w => if_pos rfl
      rw [e] at hf ⊢
      exact decide_eq_true (k.gmono w v h _ (of_decide_eq_true hf))
    | false =>
      have e : ∀ w, frc false m (.ng p) w = (m.later.getD w []).all fun v => !(frc false m p v && !decide (v ∈ m.brk)) := fun w => if_neg Bool.false_ne_true
      rw [e] at hf ⊢
      exact all_sub (fun y hy => k.trans w v y h hy) hf
  | im p q =>
    have e : ∀ w, frc pos m (.im p q) w = (m.later.getD w []).all fun v => !(frc pos m p v && !frc pos m q v) := fun w => rfl
    rw [e] at hf ⊢
    exact all_sub (fun y hy => k.trans w v y h hy) hf
theorem broken_ng {m : Mdl} (k : m.Kr) {f : Fm} {w : Nat} (h : w ∈ m.brk) : frc false m (.ng f) w = true := by
  have e : frc false m (.ng f) w = (m.later.getD w []).all fun v => !(frc false m f v && !decide (v ∈ m.brk)) := if_neg Bool.false_ne_true
  rw [e]
  refine List.all_eq_true.mpr fun v hv => ?_
  have b := k.bmono w v hv h
  rw [decide_eq_true b]
  simp

def cup (n : Nat) (a b : List Nat) : List Nat := (List.range n).filter fun u => decide (u ∈ a) || decide (u ∈ b)
def innerC (n w : Nat) : List (List Nat) → List Nat → List (List Nat)
  | rows, [] => rows
  | rows, v :: r => innerC n w (rows.set w (cup n (rows.getD w []) (rows.getD v []))) r
def turnC (n : Nat) : List (List Nat) → List Nat → List (List Nat)
  | rows, [] => rows
  | rows, w :: ws => turnC n (innerC n w rows (rows.getD w [])) ws
def closC (n : Nat) : List (List Nat) → Nat → List (List Nat)
  | rows, 0 => rows
  | rows, k + 1 => closC n (turnC n rows (List.range n)) k
def optC (w : Nat) : Nat → List (List Nat)
  | 0 => [[]]
  | m + 1 => if m = 0 then (optC w m).map (· ++ [w + m]) else optC w m ++ (optC w m).map (· ++ [w + m])
def allC (n : Nat) : Nat → List (List (List Nat))
  | 0 => [[]]
  | k + 1 => (optC (n - (k + 1)) (k + 1)).flatMap fun r => (allC n k).map (r :: ·)
theorem mem_allC {n : Nat} : ∀ {k : Nat} {rows : List (List Nat)}, k ≤ n → rows.length = k → (∀ i r, rows[i]? = some r → r ∈ optC (n - k + i) (k - i)) → rows ∈ allC n k
  | 0, rows, _, hl, _ => by
    rw [List.length_eq_zero_iff.mp hl]
    exact List.mem_singleton.mpr rfl
  | k + 1, [], _, hl, _ => by cases hl
  | k + 1, r :: rs, hk, hl, h => by
    refine List.mem_flatMap.mpr ⟨r, h 0 r rfl, List.mem_map.mpr ⟨rs, mem_allC (by omega) (by simpa using hl) fun i x hx => ?_, rfl⟩⟩
    have z := h (i + 1) x hx
    rw [show n - (k + 1) + (i + 1) = n - k + i by omega, show k + 1 - (i + 1) = k - i by omega] at z
    exact z
def goodC (n : Nat) (rows : List (List Nat)) : Bool := decide (rows.length = n) && (List.range n).all fun w => decide ((rows.getD w []).length ≤ 4) && (rows.getD w []).all fun v => decide (v < n) && decide (w ≤ v) && (rows.getD v []).all fun u => decide (u ∈ rows.getD w [])
theorem good_all : ∀ n ∈ [1, 2, 3, 4], ((allC n n).all fun rows => goodC n (closC n rows n)) = true := by decide +kernel
theorem optC_in {w : Nat} : ∀ {m : Nat} {r : List Nat}, r ∈ optC w m → r.length ≤ m ∧ ∀ v ∈ r, v < w + m
  | 0, r, h => by
    rw [List.mem_singleton.mp h]
    exact ⟨Nat.le_refl _, fun v hv => nomatch hv⟩
  | m + 1, r, h => by
    have a : ∀ r, r ∈ optC w m → r.length ≤ m + 1 ∧ ∀ v ∈ r, v < w + (m + 1) := fun r h => by
      obtain ⟨h1, h2⟩ := optC_in h
      exact ⟨by omega, fun v hv => by have := h2 v hv; omega⟩
    have b : ∀ r, r ∈ (optC w m).map (· ++ [w + m]) → r.length ≤ m + 1 ∧ ∀ v ∈ r, v < w + (m + 1) := fun r h => by
      obtain ⟨s, hs, rfl⟩ := List.mem_map.mp h
      obtain ⟨h1, h2⟩ := optC_in hs
      refine ⟨by rw [List.length_append, List.length_singleton]; omega, fun v hv => ?_⟩
      rcases List.mem_append.mp hv with z | z
      · have := h2 v z; omega
      · rw [List.mem_singleton.mp z]; omega
    have h : r ∈ if m = 0 then (optC w m).map (· ++ [w + m]) else optC w m ++ (optC w m).map (· ++ [w + m]) := h
    split at h
    · exact b r h
    · rcases List.mem_append.mp h with z | z
      · exact a r z
      · exact b r z
theorem optC_take {w m : Nat} {r : List Nat} (h : r ∈ optC w m) : r ++ [w + m] ∈ optC w (m + 1) := by
  show _ ∈ if m = 0 then (optC w m).map (· ++ [w + m]) else optC w m ++ (optC w m).map (· ++ [w + m])
  split
  · exact List.mem_map.mpr ⟨r, h, rfl⟩
  · exact List.mem_append.mpr (.inr (List.mem_map.mpr ⟨r, h, rfl⟩))
theorem optC_leave {w m : Nat} {r : List Nat} (h : r ∈ optC w m) (n : m ≠ 0) : r ∈ optC w (m + 1) := by
  show _ ∈ if m = 0 then (optC w m).map (· ++ [w + m]) else optC w m ++ (optC w m).map (· ++ [w + m])
  rw [if_neg n]
  exact List.mem_append.mpr (.inl h)
structure Bd (n : Nat) (rows : List (List Nat)) : Prop where
  len : rows.length = n
  inn : ∀ r ∈ rows, r.length ≤ n ∧ ∀ v ∈ r, v < n
theorem Bd.get {n w : Nat} {rows : List (List Nat)} (h : Bd n rows) : (rows.getD w []).length ≤ n ∧ ∀ v ∈ rows.getD w [], v < n := by
  rw [List.getD_eq_getElem?_getD]
  cases e : rows[w]? with
  | none => exact ⟨Nat.zero_le _, fun v hv => nomatch hv⟩
  | some r => exact h.inn r (List.mem_of_getElem? e)
theorem cup_len (n : Nat) (a b : List Nat) : (cup n a b).length ≤ n := by
  have z := List.length_filter_le (fun u => decide (u ∈ a) || decide (u ∈ b)) (List.range n)
  rw [List.length_range] at z
  exact z
theorem mem_cup {n u : Nat} {a b : List Nat} : u ∈ cup n a b ↔ u < n ∧ (u ∈ a ∨ u ∈ b) := by
  unfold cup
  rw [List.mem_filter, List.mem_range, Bool.or_eq_true, decide_eq_true_eq, decide_eq_true_eq]
theorem Bd.set {n w : Nat} {rows : List (List Nat)} {a b : List Nat} (h : Bd n rows) : Bd n (rows.set w (cup n a b)) := by
  refine ⟨by rw [List.length_set]; exact h.len, fun r hr => ?_⟩
  rcases List.mem_or_eq_of_mem_set hr with z | z
  · exact h.inn r z
  · rw [z]
    exact ⟨cup_len n a b, fun v hv => (mem_cup.mp hv).1⟩
theorem cup_rise (n : Nat) (a b : List Nat) : ((cup n a b).map fun k : Nat => (k : Int)).Pairwise (· < ·) := by
  rw [List.pairwise_map]
  refine (List.Pairwise.sublist List.filter_sublist List.pairwise_lt_range).imp fun {x y} h => by omega
theorem rise_eq : ∀ {xs ys : List Int}, xs.Pairwise (· < ·) → ys.Pairwise (· < ·) → (∀ k, k ∈ xs ↔ k ∈ ys) → xs = ys
  | [], [], _, _, _ => rfl
  | [], y :: ys, _, _, h => nomatch (h y).mpr List.mem_cons_self
  | x :: xs, [], _, _, h => nomatch (h x).mp List.mem_cons_self
  | x :: xs, y :: ys, hx, hy, h => by
    obtain ⟨a1, a2⟩ := List.pairwise_cons.mp hx
    obtain ⟨b1, b2⟩ := List.pairwise_cons.mp hy
    have e : x = y := by
      rcases List.mem_cons.mp ((h x).mp List.mem_cons_self) with z | z
      · exact z
      · rcases List.mem_cons.mp ((h y).mpr List.mem_cons_self) with z2 | z2
        · exact z2.symm
        · have := a1 y z2
          have := b1 x z
          omega
    subst e
    rw [rise_eq a2 b2 fun k => ⟨fun z => (List.mem_cons.mp ((h k).mp (List.mem_cons_of_mem _ z))).elim (fun e => by have := a1 k z; omega) id, fun z => (List.mem_cons.mp ((h k).mpr (List.mem_cons_of_mem _ z))).elim (fun e => by have := b1 k z; omega) id⟩]
theorem cup_is {n : Nat} {a b : List Nat} {zs : List Int} (ha : ∀ v ∈ a, v < n) (hb : ∀ v ∈ b, v < n) (h1 : zs.Pairwise (· < ·)) (h2 : ∀ k, k ∈ zs ↔ k ∈ a.map (fun k : Nat => (k : Int)) ++ b.map fun k : Nat => (k : Int)) : zs = (cup n a b).map fun k : Nat => (k : Int) := by
  refine rise_eq h1 (cup_rise n a b) fun k => ?_
  rw [h2, List.mem_append, List.mem_map, List.mem_map, List.mem_map]
  constructor
  · rintro (⟨v, hv, rfl⟩ | ⟨v, hv, rfl⟩)
    · exact ⟨v, mem_cup.mpr ⟨ha v hv, .inl hv⟩, rfl⟩
    · exact ⟨v, mem_cup.mpr ⟨hb v hv, .inr hv⟩, rfl⟩
  · rintro ⟨v, hv, rfl⟩
    rcases (mem_cup.mp hv).2 with z | z
    · exact .inl ⟨v, z, rfl⟩
    · exact .inr ⟨v, z, rfl⟩
abbrev natI (k : Nat) : D := .int (k : Int)
def RowsAt {α : Type} (f : α → D) (M : Sto) (p : Addr) (rows : List (List α)) : Prop := ∃ as : List Addr, M p = some (.lst (as.map D.obj)) ∧ as.length = rows.length ∧ ∀ (i : Nat) a r, as[i]? = some a → rows[i]? = some r → a ≠ p ∧ M a = some (.lst (r.map f))
def NoObj {α : Type} (f : α → D) : Prop := ∀ x a, f x ≠ .obj a
theorem noObj_nat : NoObj natI := fun _ _ h => nomatch h
theorem noObj_fm : NoObj Fm.d := fun f a h => by cases f <;> cases h
section
variable {α : Type} {f : α → D} {M M' : Sto} {p b d x : Addr} {rows : List (List α)} {r : List α}
theorem obj_inj : ∀ {as bs : List Addr}, as.map D.obj = bs.map D.obj → as = bs
  | [], [], _ => rfl
  | [], _ :: _, h => by cases h
  | _ :: _, [], h => by cases h
  | a :: as, b :: bs, h => by
    rw [List.map_cons, List.map_cons] at h
    injection h with h1 h2
    injection h1 with h1
    rw [h1, obj_inj h2]
theorem RowsAt.nil (h : M p = some (.lst [])) : RowsAt f M p [] := ⟨[], h, rfl, fun i a r h => by simp at h⟩
theorem RowsAt.ext (h : RowsAt f M p rows) (e : Ext M M') : RowsAt f M' p rows := by
  obtain ⟨as, h1, h2, h3⟩ := h
  exact ⟨as, e _ _ h1, h2, fun i a r q1 q2 => ⟨(h3 i a r q1 q2).1, e _ _ (h3 i a r q1 q2).2⟩⟩
theorem RowsAt.extB (hf : NoObj f) (hb : BoxAt M b d) (h : RowsAt f M p rows) (e : ExtB b M M') : RowsAt f M' p rows := by
  obtain ⟨as, h1, h2, h3⟩ := h
  obtain ⟨zs, at_, z1, z2, z3, z4⟩ := hb
  have hp : p ≠ b := fun z => by
    subst z
    rw [h1] at z1
    injection z1 with z1
    injection z1 with z1
    match as, z1 with
    | [_, _], z1 => injection z1 with _ z1; injection z1 with z1; cases z1
  refine ⟨as, e _ _ hp h1, h2, fun i a r q1 q2 => ?_⟩
  obtain ⟨n1, n2⟩ := h3 i a r q1 q2
  have ha : a ≠ b := fun z => by
    subst z
    rw [n2] at z1
    injection z1 with z1
    injection z1 with z1
    cases r with
    | nil => cases z1
    | cons x r => rw [List.map_cons] at z1; injection z1 with z1; exact hf x _ z1
  exact ⟨n1, e _ _ ha n2⟩
theorem RowsAt.get (h : RowsAt f M p rows) {w : Nat} (hw : w < rows.length) : ∃ (as : List Addr) (a : Addr), M p = some (.lst (as.map D.obj)) ∧ as.length = rows.length ∧ atI (as.map D.obj) (w : Int) = some (.obj a) ∧ M a = some (.lst ((rows.getD w []).map f)) ∧ a ≠ p := by
  obtain ⟨as, h1, h2, h3⟩ := h
  have hwa : w < as.length := by omega
  obtain ⟨n1, n2⟩ := h3 w as[w] rows[w] (List.getElem?_eq_getElem hwa) (List.getElem?_eq_getElem hw)
  refine ⟨as, as[w], h1, h2, ?_, ?_, n1⟩
  · rw [atIn, List.getElem?_map, List.getElem?_eq_getElem hwa]
    rfl
  · rw [List.getD_eq_getElem?_getD, List.getElem?_eq_getElem hw]
    exact n2
theorem RowsAt.snoc (h : RowsAt f M p rows) {as : List Addr} (e : M p = some (.lst (as.map D.obj))) (hx : M x = some (.lst (r.map f))) (nx : x ≠ p) : RowsAt f (up M p (.lst (as.map D.obj ++ [.obj x]))) p (rows ++ [r]) := by
  obtain ⟨as', h1, h2, h3⟩ := h
  rw [e] at h1
  injection h1 with h1
  injection h1 with h1
  have ea : as = as' := by
    exact obj_inj h1
  subst ea
  refine ⟨as ++ [x], by rw [up_same, List.map_append]; rfl, by rw [List.length_append, List.length_append, h2]; rfl, fun i a s q1 q2 => ?_⟩
  by_cases hi : i < as.length
  · rw [List.getElem?_append_left hi] at q1
    rw [List.getElem?_append_left (by omega)] at q2
    obtain ⟨n1, n2⟩ := h3 i a s q1 q2
    exact ⟨n1, by rw [up_ne n1]; exact n2⟩
  · rw [List.getElem?_append_right (by omega)] at q1
    rw [List.getElem?_append_right (by omega)] at q2
    rw [← h2] at q2
    cases hj : i - as.length with
    | zero =>
      rw [hj] at q1 q2
      cases q1
      cases q2
      exact ⟨nx, by rw [up_ne nx]; exact hx⟩
    | succ j =>
      rw [hj] at q1
      simp at q1
theorem RowsAt.put (h : RowsAt f M p rows) {as : List Addr} {w : Nat} (e : M p = some (.lst (as.map D.obj))) (hx : M x = some (.lst (r.map f))) (nx : x ≠ p) (hw : w < rows.length) : RowsAt f (up M p (.lst ((as.map D.obj).set w (.obj x)))) p (rows.set w r) := by
  obtain ⟨as', h1, h2, h3⟩ := h
  rw [e] at h1
  injection h1 with h1
  injection h1 with h1
  have ea : as = as' := by
    exact obj_inj h1
  subst ea
  refine ⟨as.set w x, by rw [up_same, List.map_set], by rw [List.length_set, List.length_set, h2], fun i a s q1 q2 => ?_⟩
  by_cases hi : w = i
  · subst hi
    rw [List.getElem?_set_self (by omega)] at q1
    rw [List.getElem?_set_self hw] at q2
    cases q1
    cases q2
    exact ⟨nx, by rw [up_ne nx]; exact hx⟩
  · rw [List.getElem?_set_ne hi] at q1 q2
    obtain ⟨n1, n2⟩ := h3 i a s q1 q2
    exact ⟨n1, by rw [up_ne n1]; exact n2⟩
theorem ixN_nat {n w : Nat} (h : w < n) : ixN n (w : Int) = some w := by
  unfold ixN
  rw [if_pos (by omega), if_pos (by omega)]
  rfl
theorem rows_tup (h : RowsAt f M p rows) {as : List Addr} {i : Nat} {env : AEnv} {Q : List D → Sto → Prop} (e : M p = some (.lst (as.map D.obj))) (hi : i < env.length) (q : Q (rows.map fun r => D.tup (r.map f)) M) :
    aLcGo (fun M' => M' p = some (.lst (as.map D.obj))) i aYes (aCB ρTuple (aCons (aVar i) aNil)) ax0 env (as.map D.obj) [] M Q := by
  obtain ⟨as', h1, h2, h3⟩ := h
  rw [e] at h1
  injection h1 with h1
  injection h1 with h1
  have ea : as = as' := by
    exact obj_inj h1
  subst ea
  have z1 : (as.zip rows).map (fun q => D.obj q.1) = as.map D.obj := by
    rw [show (fun q : Addr × List α => D.obj q.1) = D.obj ∘ Prod.fst from rfl, ← List.map_map, List.map_fst_zip (by omega)]
  have z2 : (as.zip rows).map (fun q => D.tup (q.2.map f)) = rows.map fun r => D.tup (r.map f) := by
    rw [show (fun q : Addr × List α => D.tup (q.2.map f)) = (fun r => D.tup (r.map f)) ∘ Prod.snd from rfl, ← List.map_map, List.map_snd_zip (by omega)]
  refine lc_run (fun ds acc M' => ∃ done rest : List (Addr × List α), as.zip rows = done ++ rest ∧ ds = rest.map (fun q => D.obj q.1) ∧ acc = done.map (fun q => D.tup (q.2.map f)) ∧ M' = M) ?_ ?_ ?_ ⟨[], as.zip rows, rfl, z1.symm, rfl, rfl⟩
  · rintro ds acc M' ⟨_, _, _, _, _, rfl⟩
    exact e
  · rintro acc M' ⟨done, rest, he, hd, rfl, rfl⟩
    have z := List.map_eq_nil_iff.mp hd.symm
    subst z
    rw [List.append_nil] at he
    rw [← he, z2]
    exact q
  · rintro y r acc M' N ⟨done, rest, he, hd, rfl, rfl⟩ next
    cases rest with
    | nil => cases hd
    | cons q0 rest =>
      rw [List.map_cons] at hd
      injection hd with hd1 hd2
      subst hd1 hd2
      have hmem : (as.zip rows)[done.length]? = some q0 := by rw [he, List.getElem?_append_right (Nat.le_refl _), Nat.sub_self]; rfl
      obtain ⟨m1, m2⟩ := List.getElem?_zip_eq_some.mp hmem
      obtain ⟨_, n2⟩ := h3 done.length q0.1 q0.2 m1 m2
      have nx := next (done.map (fun q => D.tup (q.2.map f)) ++ [.tup (q0.2.map f)]) M' ⟨done ++ [q0], rest, by rw [he, List.append_assoc]; rfl, rfl, by rw [List.map_append]; rfl, rfl⟩
      have ei : (env.set i (some (.obj q0.1)))[i]? = some (some (.obj q0.1)) := List.getElem?_set_self hi
      generalize env.set i (some (.obj q0.1)) = env2 at *
      clear next
      try (simp only [↓e_seq, ↓e_next, ↓e_break, ↓e_cont, ↓e_expr, ↓e_ret, ↓e_retN, ↓e_if, ↓e_never, ↓e_asg, ↓e_name, ↓e_agtup, ↓e_agcons, ↓e_agnil, ↓e_agsub, ↓e_aug, ↓e_dput, ↓e_var, ↓e_c, ↓e_op, ↓e_some, ↓e_none, ↓e_test, ↓e_and, ↓e_or, ↓e_not, ↓e_yes, ↓e_truth,   ↓e_tru_bl, ↓e_tru_int, ↓e_tru_non, ↓e_tru_str, ↓e_tru_tup, ↓e_tru_obj, ↓e_chain, ↓e_orV, ↓e_andV, ↓e_notV, ↓e_ifE, ↓e_neg, ↓e_nil, ↓e_cons, ↓e_tup, ↓e_lst, ↓e_dnew, ↓e_call, ↓e_cb, ↓e_isi, ↓e_sl, ↓e_onone, ↓e_osome, ↓e_rev, ↓e_lm, ↓e_append, ↓e_extend, ↓e_pop, ↓e_join, ↓e_dget2, ↓e_sortSet, ↓e_sortS, ↓e_setd, strsOf_map, ↓e_maxI, ↓e_disp, ↓e_pairN, ↓e_pairC, intsOf_map, ↓e_for, ↓e_ilist, ↓e_itup, ↓e_rng1, ↓e_rng2, ↓e_lc, ↓e_lc2, e_lc2N, ↓e_ienum, ↓e_izip, ↓e_anyB, ↓e_allB, ↓e_mulS, blsOf_map, ↓e_set0, ↓e_sadd, ↓e_sortTx, ↓e_sortD, ↓e_repr, ↓e_extT, ↓e_sc2, ↓e_sortZ, ↓e_tupVals, ↓e_wget, ↓e_wix, ↓e_listZip, zipD_nil, zipD_cons, ↓e_dgetF, ↓e_idif, ↓e_isB, ↓e_sortI, ↓e_sortSetI, ↓e_tailR, ↓e_divmod, ↓e_strI, ↓e_lenD, ↓e_fmt, ↓e_fs2,   ↓e_add_int, ↓e_add_str, ↓e_add_tup, ↓e_add_obj, ↓e_iadd_int, ↓e_iadd_str, ↓e_iadd_obj, ↓e_I, ↓e_I0, ↓e_IS_int, ↓e_IS_str, ↓e_eq_str, ↓e_ne_str, ↓e_eq_int, ↓e_ne_int, ↓e_eq_bl, ↓e_ne_bl, ↓e_isN, ↓e_notN, ↓e_ix_tup, ↓e_ix_fl, ↓e_ix_str, ↓e_ix_obj, ↓e_in_tup, ↓e_nin_tup, ↓e_len_tup, ↓e_len_fl, ↓e_len_str, ↓e_len_obj, ↓e_int_int, ↓e_tuple_tup, ↓e_tuple_obj, ↓e_list_tup, ↓e_list_obj, ↓e_dget, ↓e_din, ↓e_dnin, ↓e_lstAt, ↓e_dicAt,   e_key_int, e_key_str, e_up, e_ty_str, e_ty_tup, e_ty_int, e_ty_bl, e_ty_non, atI0, atI1, atI2, atI3, atIL, ixN0, ixN1, cut_from1, e_ite_or, e_ite_and, zln, znl, zli, zil, zni, zin, sizeLine_eq, CMul, CDiv, cpow1018, true_or, or_true, kb_strstr, kb_tupstr, kb_tuptup, kb_strtup, kb_inttup, kb_bltup, kb_nontup, kb_strbl, kb_strint, kb_intbl, kb_intint, kb_blbl, kb_blint, kb_nonbl, kb_nonint, kb_nonstr, kb_intstr, kb_blstr, kb_tupbl, kb_tupint,   List.set_cons_zero, List.set_cons_succ, List.set_nil, List.getElem?_cons_zero, List.getElem?_cons_succ, List.getElem?_nil, List.length_cons, List.length_nil, List.length_map, List.length_append, e_lcN, e_lcC, e_forN, e_forC, List.getLast?_concat, List.dropLast_concat, List.nil_append, List.cons_append, List.append_nil, List.append_assoc, List.reverse_cons, List.reverse_nil, List.isEmpty_nil, List.isEmpty_cons, isEmpty_snoc, List.any_cons, List.any_nil, List.all_cons, List.all_nil, flatD, eqF, in_non, in_tup, in_str, in_int, in_bl, in_obj, in_fl, startA, List.map_cons, List.map_nil, List.replicate_succ, List.replicate_zero,   Nat.reduceAdd, Nat.reduceSub, Nat.reduceLeDiff, Nat.zero_add, Int.reduceLE, Int.reduceLT, Int.reduceToNat, Int.reducePow, Int.reduceNeg, Int.reduceAdd, Int.reduceSub,   Option.isSome_some, Option.isSome_none, Bool.not_true, Bool.not_false, Bool.not_eq_true', Bool.not_eq_eq_eq_not, Bool.not_eq_true, Bool.false_eq_true, Bool.true_eq_false, Bool.and_true, Bool.true_and, Bool.or_false, Bool.false_or, Bool.or_true, Bool.true_or, Bool.and_false, Bool.false_and, if_true, if_false, ite_true, ite_false, reduceIte, reduceCtorEq, decide_true, decide_false, decide_eq_true_eq, decide_eq_false_iff_not, true_and, and_true, false_and, and_false, eq_self, ne_eq, not_false_eq_true, not_true_eq_false, and_self, *])
end

def GR (ats r : List Fm) : Prop := r.Nodup ∧ ∀ g ∈ r, g ∈ ats
theorem nodup_le {α : Type} [DecidableEq α] : ∀ {xs ys : List α}, xs.Nodup → (∀ x ∈ xs, x ∈ ys) → xs.length ≤ ys.length
  | [], _, _, _ => Nat.zero_le _
  | x :: xs, ys, nd, h => by
    obtain ⟨n1, n2⟩ := List.nodup_cons.mp nd
    have hx := h x List.mem_cons_self
    have z := nodup_le (xs := xs) (ys := ys.erase x) n2 fun y hy => (List.mem_erase_of_ne fun e => n1 (by rw [← e]; exact hy)).mpr (h y (List.mem_cons_of_mem _ hy))
    rw [List.length_erase_of_mem hx] at z
    have := List.length_pos_of_mem hx
    rw [List.length_cons]
    omega
theorem row_ne_box {α : Type} {f : α → D} {M : Sto} {a b d : Addr} {r : List α} (hf : NoObj f) (hb : BoxAt M b d) (h : M a = some (.lst (r.map f))) : a ≠ b := fun z => by
  obtain ⟨zs, at_, z1, z2, z3, z4⟩ := hb
  subst z
  rw [h] at z1
  injection z1 with z1
  injection z1 with z1
  cases r with
  | nil => cases z1
  | cons x r => rw [List.map_cons] at z1; injection z1 with z1; exact hf x _ z1
theorem obj_ne_box {M : Sto} {p b d : Addr} {as : List Addr} (hb : BoxAt M b d) (h : M p = some (.lst (as.map D.obj))) : p ≠ b := fun z => by
  obtain ⟨zs, at_, z1, z2, z3, z4⟩ := hb
  subst z
  rw [h] at z1
  injection z1 with z1
  injection z1 with z1
  match as, z1 with
  | [_, _], z1 => injection z1 with _ z1; injection z1 with z1; cases z1
theorem ExtB.up0 {b p : Addr} {M M' : Sto} {mo : MO} (h : M p = none) (e : ExtB b M M') : ExtB b M (up M' p mo) := fun a o n m => by
  rw [up_ne (fresh_ne h m)]
  exact e a o n m
theorem RowsAt.at {α : Type} {f : α → D} {M : Sto} {p : Addr} {rows : List (List α)} (h : RowsAt f M p rows) {as : List Addr} (e : M p = some (.lst (as.map D.obj))) {w : Nat} (hw : w < rows.length) : ∃ a : Addr, a ∈ as ∧ as.length = rows.length ∧ atI (as.map D.obj) (w : Int) = some (.obj a) ∧ M a = some (.lst ((rows.getD w []).map f)) ∧ a ≠ p := by
  obtain ⟨as', h1, h2, h3⟩ := h
  rw [e] at h1
  injection h1 with h1
  injection h1 with h1
  have ea := obj_inj h1
  subst ea
  have hwa : w < as.length := by omega
  obtain ⟨n1, n2⟩ := h3 w as[w] rows[w] (List.getElem?_eq_getElem hwa) (List.getElem?_eq_getElem hw)
  refine ⟨as[w], List.getElem_mem hwa, h2, ?_, ?_, n1⟩
  · rw [atIn, List.getElem?_map, List.getElem?_eq_getElem hwa]
    rfl
  · rw [List.getD_eq_getElem?_getD, List.getElem?_eq_getElem hw]
    exact n2
def Off (M : Sto) (p k : Addr) : Prop := ∀ as : List Addr, M p = some (.lst (as.map D.obj)) → k ∉ as
theorem Off.same {M M' : Sto} {p k : Addr} (h : Off M p k) (e : M' p = M p) : Off M' p k := fun as q => h as (by rw [← e]; exact q)
theorem RowsAt.off {α : Type} {f : α → D} {M : Sto} {p x : Addr} {rows : List (List α)} {mo : MO} (h : RowsAt f M p rows) (hx : p ≠ x) (o : Off M p x) : RowsAt f (up M x mo) p rows := by
  obtain ⟨as, h1, h2, h3⟩ := h
  refine ⟨as, by rw [up_ne hx]; exact h1, h2, fun i a r q1 q2 => ?_⟩
  obtain ⟨n1, n2⟩ := h3 i a r q1 q2
  have nx : a ≠ x := fun z => o as h1 (by rw [← z]; exact List.mem_of_getElem? q1)
  exact ⟨n1, by rw [up_ne nx]; exact n2⟩
theorem Off.snoc {M : Sto} {p k x : Addr} {as : List Addr} (h : Off M p k) (e : M p = some (.lst (as.map D.obj))) (n : x ≠ k) : Off (up M p (.lst (as.map D.obj ++ [.obj x]))) p k := fun as' q => by
  rw [up_same] at q
  injection q with q
  injection q with q
  have q2 : (as ++ [x]).map D.obj = as'.map D.obj := by rw [List.map_append]; exact q
  rw [← obj_inj q2]
  exact fun z => (List.mem_append.mp z).elim (h as e) fun z => n (List.mem_singleton.mp z).symm
theorem Off.put {M : Sto} {p k x : Addr} {as : List Addr} {w : Nat} (h : Off M p k) (e : M p = some (.lst (as.map D.obj))) (n : x ≠ k) : Off (up M p (.lst ((as.map D.obj).set w (.obj x)))) p k := fun as' q => by
  rw [up_same] at q
  injection q with q
  injection q with q
  have q2 : (as.set w x).map D.obj = as'.map D.obj := by rw [List.map_set]; exact q
  rw [← obj_inj q2]
  exact fun z => (List.mem_or_eq_of_mem_set z).elim (h as e) fun z => n z.symm
theorem atoms_lc {ats : List Fm} {b d qa : Addr} {i : Nat} {env : AEnv} {M : Sto} {Q : List D → Sto → Prop} (hi : i < env.length) (h0 : ∀ x, (env.set i x)[0]? = some (some (.obj b))) (hb : BoxAt M b d) (hq : M qa = some (.lst (ats.map Fm.d)))
    (q : ∀ (sel : List Fm) M', sel.Sublist ats → BoxAt M' b d → ExtB b M M' → Q (sel.map Fm.d) M') :
    aLcGo (fun M' => M' qa = some (.lst (ats.map Fm.d))) i (aTest (aOp (ρEq false) (aCall 2 A_draw (aCons (aVar 0) (aCons (aC (.int 3)) aNil))) (aC (.int 0)))) (aVar i) ax0 env (ats.map Fm.d) [] M Q := by
  have nq : qa ≠ b := row_ne_box noObj_fm hb hq
  refine lc_run (fun ds acc M' => ∃ done rest sel : List Fm, ats = done ++ rest ∧ ds = rest.map Fm.d ∧ acc = sel.map Fm.d ∧ sel.Sublist done ∧ BoxAt M' b d ∧ ExtB b M M') ?_ ?_ ?_ ⟨[], ats, [], rfl, rfl, rfl, .slnil, hb, ExtB.refl b M⟩
  · rintro ds acc M' ⟨_, _, _, _, _, _, _, _, e⟩
    exact e _ _ nq hq
  · rintro acc M' ⟨done, rest, sel, he, hd, rfl, hs, hb', e⟩
    have z := List.map_eq_nil_iff.mp hd.symm
    subst z
    rw [List.append_nil] at he
    exact q sel M' (by rw [he]; exact hs) hb' e
  · rintro y r acc M' N ⟨done, rest, sel, he, hd, rfl, hs, hb', e⟩ next
    cases rest with
    | nil => cases hd
    | cons g rest =>
      rw [List.map_cons] at hd
      injection hd with hd1 hd2
      subst hd1 hd2
      have e0 := h0 (some g.d)
      have ei : (env.set i (some g.d))[i]? = some (some g.d) := List.getElem?_set_self hi
      generalize env.set i (some g.d) = env2 at *
      try (simp only [↓e_seq, ↓e_next, ↓e_break, ↓e_cont, ↓e_expr, ↓e_ret, ↓e_retN, ↓e_if, ↓e_never, ↓e_asg, ↓e_name, ↓e_agtup, ↓e_agcons, ↓e_agnil, ↓e_agsub, ↓e_aug, ↓e_dput, ↓e_var, ↓e_c, ↓e_op, ↓e_some, ↓e_none, ↓e_test, ↓e_and, ↓e_or, ↓e_not, ↓e_yes, ↓e_truth,   ↓e_tru_bl, ↓e_tru_int, ↓e_tru_non, ↓e_tru_str, ↓e_tru_tup, ↓e_tru_obj, ↓e_chain, ↓e_orV, ↓e_andV, ↓e_notV, ↓e_ifE, ↓e_neg, ↓e_nil, ↓e_cons, ↓e_tup, ↓e_lst, ↓e_dnew, ↓e_call, ↓e_cb, ↓e_isi, ↓e_sl, ↓e_onone, ↓e_osome, ↓e_rev, ↓e_lm, ↓e_append, ↓e_extend, ↓e_pop, ↓e_join, ↓e_dget2, ↓e_sortSet, ↓e_sortS, ↓e_setd, strsOf_map, ↓e_maxI, ↓e_disp, ↓e_pairN, ↓e_pairC, intsOf_map, ↓e_for, ↓e_ilist, ↓e_itup, ↓e_rng1, ↓e_rng2, ↓e_lc, ↓e_lc2, e_lc2N, ↓e_ienum, ↓e_izip, ↓e_anyB, ↓e_allB, ↓e_mulS, blsOf_map, ↓e_set0, ↓e_sadd, ↓e_sortTx, ↓e_sortD, ↓e_repr, ↓e_extT, ↓e_sc2, ↓e_sortZ, ↓e_tupVals, ↓e_wget, ↓e_wix, ↓e_listZip, zipD_nil, zipD_cons, ↓e_dgetF, ↓e_idif, ↓e_isB, ↓e_sortI, ↓e_sortSetI, ↓e_tailR, ↓e_divmod, ↓e_strI, ↓e_lenD, ↓e_fmt, ↓e_fs2,   ↓e_add_int, ↓e_add_str, ↓e_add_tup, ↓e_add_obj, ↓e_iadd_int, ↓e_iadd_str, ↓e_iadd_obj, ↓e_I, ↓e_I0, ↓e_IS_int, ↓e_IS_str, ↓e_eq_str, ↓e_ne_str, ↓e_eq_int, ↓e_ne_int, ↓e_eq_bl, ↓e_ne_bl, ↓e_isN, ↓e_notN, ↓e_ix_tup, ↓e_ix_fl, ↓e_ix_str, ↓e_ix_obj, ↓e_in_tup, ↓e_nin_tup, ↓e_len_tup, ↓e_len_fl, ↓e_len_str, ↓e_len_obj, ↓e_int_int, ↓e_tuple_tup, ↓e_tuple_obj, ↓e_list_tup, ↓e_list_obj, ↓e_dget, ↓e_din, ↓e_dnin, ↓e_lstAt, ↓e_dicAt,   e_key_int, e_key_str, e_up, e_ty_str, e_ty_tup, e_ty_int, e_ty_bl, e_ty_non, atI0, atI1, atI2, atI3, atIL, ixN0, ixN1, cut_from1, e_ite_or, e_ite_and, zln, znl, zli, zil, zni, zin, sizeLine_eq, CMul, CDiv, cpow1018, true_or, or_true, kb_strstr, kb_tupstr, kb_tuptup, kb_strtup, kb_inttup, kb_bltup, kb_nontup, kb_strbl, kb_strint, kb_intbl, kb_intint, kb_blbl, kb_blint, kb_nonbl, kb_nonint, kb_nonstr, kb_intstr, kb_blstr, kb_tupbl, kb_tupint,   List.set_cons_zero, List.set_cons_succ, List.set_nil, List.getElem?_cons_zero, List.getElem?_cons_succ, List.getElem?_nil, List.length_cons, List.length_nil, List.length_map, List.length_append, e_lcN, e_lcC, e_forN, e_forC, List.getLast?_concat, List.dropLast_concat, List.nil_append, List.cons_append, List.append_nil, List.append_assoc, List.reverse_cons, List.reverse_nil, List.isEmpty_nil, List.isEmpty_cons, isEmpty_snoc, List.any_cons, List.any_nil, List.all_cons, List.all_nil, flatD, eqF, in_non, in_tup, in_str, in_int, in_bl, in_obj, in_fl, startA, List.map_cons, List.map_nil, List.replicate_succ, List.replicate_zero,   Nat.reduceAdd, Nat.reduceSub, Nat.reduceLeDiff, Nat.zero_add, Int.reduceLE, Int.reduceLT, Int.reduceToNat, Int.reducePow, Int.reduceNeg, Int.reduceAdd, Int.reduceSub,   Option.isSome_some, Option.isSome_none, Bool.not_true, Bool.not_false, Bool.not_eq_true', Bool.not_eq_eq_eq_not, Bool.not_eq_true, Bool.false_eq_true, Bool.true_eq_false, Bool.and_true, Bool.true_and, Bool.or_false, Bool.false_or, Bool.or_true, Bool.true_or, Bool.and_false, Bool.false_and, if_true, if_false, ite_true, ite_false, reduceIte, reduceCtorEq, decide_true, decide_false, decide_eq_true_eq, decide_eq_false_iff_not, true_and, and_true, false_and, and_false, eq_self, ne_eq, not_false_eq_true, not_true_eq_false, and_self, *])
      refine ⟨rfl, b, d, 3, rfl, hb', by decide, fun v M2 hv0 hv1 hb2 e2 => ?_⟩
      have n1 := next (sel.map Fm.d ++ [g.d]) M2 ⟨done ++ [g], rest, sel ++ [g], by rw [he, List.append_assoc]; rfl, rfl, by rw [List.map_append]; rfl, hs.append_right [g], hb2, e.trans e2⟩
      have n2 := next (sel.map Fm.d) M2 ⟨done ++ [g], rest, sel, by rw [he, List.append_assoc]; rfl, rfl, rfl, hs.trans (List.sublist_append_left _ _), hb2, e.trans e2⟩
      clear next he
      by_cases c : v = 0
      · subst c
        try (simp only [↓e_seq, ↓e_next, ↓e_break, ↓e_cont, ↓e_expr, ↓e_ret, ↓e_retN, ↓e_if, ↓e_never, ↓e_asg, ↓e_name, ↓e_agtup, ↓e_agcons, ↓e_agnil, ↓e_agsub, ↓e_aug, ↓e_dput, ↓e_var, ↓e_c, ↓e_op, ↓e_some, ↓e_none, ↓e_test, ↓e_and, ↓e_or, ↓e_not, ↓e_yes, ↓e_truth,   ↓e_tru_bl, ↓e_tru_int, ↓e_tru_non, ↓e_tru_str, ↓e_tru_tup, ↓e_tru_obj, ↓e_chain, ↓e_orV, ↓e_andV, ↓e_notV, ↓e_ifE, ↓e_neg, ↓e_nil, ↓e_cons, ↓e_tup, ↓e_lst, ↓e_dnew, ↓e_call, ↓e_cb, ↓e_isi, ↓e_sl, ↓e_onone, ↓e_osome, ↓e_rev, ↓e_lm, ↓e_append, ↓e_extend, ↓e_pop, ↓e_join, ↓e_dget2, ↓e_sortSet, ↓e_sortS, ↓e_setd, strsOf_map, ↓e_maxI, ↓e_disp, ↓e_pairN, ↓e_pairC, intsOf_map, ↓e_for, ↓e_ilist, ↓e_itup, ↓e_rng1, ↓e_rng2, ↓e_lc, ↓e_lc2, e_lc2N, ↓e_ienum, ↓e_izip, ↓e_anyB, ↓e_allB, ↓e_mulS, blsOf_map, ↓e_set0, ↓e_sadd, ↓e_sortTx, ↓e_sortD, ↓e_repr, ↓e_extT, ↓e_sc2, ↓e_sortZ, ↓e_tupVals, ↓e_wget, ↓e_wix, ↓e_listZip, zipD_nil, zipD_cons, ↓e_dgetF, ↓e_idif, ↓e_isB, ↓e_sortI, ↓e_sortSetI, ↓e_tailR, ↓e_divmod, ↓e_strI, ↓e_lenD, ↓e_fmt, ↓e_fs2,   ↓e_add_int, ↓e_add_str, ↓e_add_tup, ↓e_add_obj, ↓e_iadd_int, ↓e_iadd_str, ↓e_iadd_obj, ↓e_I, ↓e_I0, ↓e_IS_int, ↓e_IS_str, ↓e_eq_str, ↓e_ne_str, ↓e_eq_int, ↓e_ne_int, ↓e_eq_bl, ↓e_ne_bl, ↓e_isN, ↓e_notN, ↓e_ix_tup, ↓e_ix_fl, ↓e_ix_str, ↓e_ix_obj, ↓e_in_tup, ↓e_nin_tup, ↓e_len_tup, ↓e_len_fl, ↓e_len_str, ↓e_len_obj, ↓e_int_int, ↓e_tuple_tup, ↓e_tuple_obj, ↓e_list_tup, ↓e_list_obj, ↓e_dget, ↓e_din, ↓e_dnin, ↓e_lstAt, ↓e_dicAt,   e_key_int, e_key_str, e_up, e_ty_str, e_ty_tup, e_ty_int, e_ty_bl, e_ty_non, atI0, atI1, atI2, atI3, atIL, ixN0, ixN1, cut_from1, e_ite_or, e_ite_and, zln, znl, zli, zil, zni, zin, sizeLine_eq, CMul, CDiv, cpow1018, true_or, or_true, kb_strstr, kb_tupstr, kb_tuptup, kb_strtup, kb_inttup, kb_bltup, kb_nontup, kb_strbl, kb_strint, kb_intbl, kb_intint, kb_blbl, kb_blint, kb_nonbl, kb_nonint, kb_nonstr, kb_intstr, kb_blstr, kb_tupbl, kb_tupint,   List.set_cons_zero, List.set_cons_succ, List.set_nil, List.getElem?_cons_zero, List.getElem?_cons_succ, List.getElem?_nil, List.length_cons, List.length_nil, List.length_map, List.length_append, e_lcN, e_lcC, e_forN, e_forC, List.getLast?_concat, List.dropLast_concat, List.nil_append, List.cons_append, List.append_nil, List.append_assoc, List.reverse_cons, List.reverse_nil, List.isEmpty_nil, List.isEmpty_cons, isEmpty_snoc, List.any_cons, List.any_nil, List.all_cons, List.all_nil, flatD, eqF, in_non, in_tup, in_str, in_int, in_bl, in_obj, in_fl, startA, List.map_cons, List.map_nil, List.replicate_succ, List.replicate_zero,   Nat.reduceAdd, Nat.reduceSub, Nat.reduceLeDiff, Nat.zero_add, Int.reduceLE, Int.reduceLT, Int.reduceToNat, Int.reducePow, Int.reduceNeg, Int.reduceAdd, Int.reduceSub,   Option.isSome_some, Option.isSome_none, Bool.not_true, Bool.not_false, Bool.not_eq_true', Bool.not_eq_eq_eq_not, Bool.not_eq_true, Bool.false_eq_true, Bool.true_eq_false, Bool.and_true, Bool.true_and, Bool.or_false, Bool.false_or, Bool.or_true, Bool.true_or, Bool.and_false, Bool.false_and, if_true, if_false, ite_true, ite_false, reduceIte, reduceCtorEq, decide_true, decide_false, decide_eq_true_eq, decide_eq_false_iff_not, true_and, and_true, false_and, and_false, eq_self, ne_eq, not_false_eq_true, not_true_eq_false, and_self, *])
      · try (simp only [↓e_seq, ↓e_next, ↓e_break, ↓e_cont, ↓e_expr, ↓e_ret, ↓e_retN, ↓e_if, ↓e_never, ↓e_asg, ↓e_name, ↓e_agtup, ↓e_agcons, ↓e_agnil, ↓e_agsub, ↓e_aug, ↓e_dput, ↓e_var, ↓e_c, ↓e_op, ↓e_some, ↓e_none, ↓e_test, ↓e_and, ↓e_or, ↓e_not, ↓e_yes, ↓e_truth,   ↓e_tru_bl, ↓e_tru_int, ↓e_tru_non, ↓e_tru_str, ↓e_tru_tup, ↓e_tru_obj, ↓e_chain, ↓e_orV, ↓e_andV, ↓e_notV, ↓e_ifE, ↓e_neg, ↓e_nil, ↓e_cons, ↓e_tup, ↓e_lst, ↓e_dnew, ↓e_call, ↓e_cb, ↓e_isi, ↓e_sl, ↓e_onone, ↓e_osome, ↓e_rev, ↓e_lm, ↓e_append, ↓e_extend, ↓e_pop, ↓e_join, ↓e_dget2, ↓e_sortSet, ↓e_sortS, ↓e_setd, strsOf_map, ↓e_maxI, ↓e_disp, ↓e_pairN, ↓e_pairC, intsOf_map, ↓e_for, ↓e_ilist, ↓e_itup, ↓e_rng1, ↓e_rng2, ↓e_lc, ↓e_lc2, e_lc2N, ↓e_ienum, ↓e_izip, ↓e_anyB, ↓e_allB, ↓e_mulS, blsOf_map, ↓e_set0, ↓e_sadd, ↓e_sortTx, ↓e_sortD, ↓e_repr, ↓e_extT, ↓e_sc2, ↓e_sortZ, ↓e_tupVals, ↓e_wget, ↓e_wix, ↓e_listZip, zipD_nil, zipD_cons, ↓e_dgetF, ↓e_idif, ↓e_isB, ↓e_sortI, ↓e_sortSetI, ↓e_tailR, ↓e_divmod, ↓e_strI, ↓e_lenD, ↓e_fmt, ↓e_fs2,   ↓e_add_int, ↓e_add_str, ↓e_add_tup, ↓e_add_obj, ↓e_iadd_int, ↓e_iadd_str, ↓e_iadd_obj, ↓e_I, ↓e_I0, ↓e_IS_int, ↓e_IS_str, ↓e_eq_str, ↓e_ne_str, ↓e_eq_int, ↓e_ne_int, ↓e_eq_bl, ↓e_ne_bl, ↓e_isN, ↓e_notN, ↓e_ix_tup, ↓e_ix_fl, ↓e_ix_str, ↓e_ix_obj, ↓e_in_tup, ↓e_nin_tup, ↓e_len_tup, ↓e_len_fl, ↓e_len_str, ↓e_len_obj, ↓e_int_int, ↓e_tuple_tup, ↓e_tuple_obj, ↓e_list_tup, ↓e_list_obj, ↓e_dget, ↓e_din, ↓e_dnin, ↓e_lstAt, ↓e_dicAt,   e_key_int, e_key_str, e_up, e_ty_str, e_ty_tup, e_ty_int, e_ty_bl, e_ty_non, atI0, atI1, atI2, atI3, atIL, ixN0, ixN1, cut_from1, e_ite_or, e_ite_and, zln, znl, zli, zil, zni, zin, sizeLine_eq, CMul, CDiv, cpow1018, true_or, or_true, kb_strstr, kb_tupstr, kb_tuptup, kb_strtup, kb_inttup, kb_bltup, kb_nontup, kb_strbl, kb_strint, kb_intbl, kb_intint, kb_blbl, kb_blint, kb_nonbl, kb_nonint, kb_nonstr, kb_intstr, kb_blstr, kb_tupbl, kb_tupint,   List.set_cons_zero, List.set_cons_succ, List.set_nil, List.getElem?_cons_zero, List.getElem?_cons_succ, List.getElem?_nil, List.length_cons, List.length_nil, List.length_map, List.length_append, e_lcN, e_lcC, e_forN, e_forC, List.getLast?_concat, List.dropLast_concat, List.nil_append, List.cons_append, List.append_nil, List.append_assoc, List.reverse_cons, List.reverse_nil, List.isEmpty_nil, List.isEmpty_cons, isEmpty_snoc, List.any_cons, List.any_nil, List.all_cons, List.all_nil, flatD, eqF, in_non, in_tup, in_str, in_int, in_bl, in_obj, in_fl, startA, List.map_cons, List.map_nil, List.replicate_succ, List.replicate_zero,   Nat.reduceAdd, Nat.reduceSub, Nat.reduceLeDiff, Nat.zero_add, Int.reduceLE, Int.reduceLT, Int.reduceToNat, Int.reducePow, Int.reduceNeg, Int.reduceAdd, Int.reduceSub,   Option.isSome_some, Option.isSome_none, Bool.not_true, Bool.not_false, Bool.not_eq_true', Bool.not_eq_eq_eq_not, Bool.not_eq_true, Bool.false_eq_true, Bool.true_eq_false, Bool.and_true, Bool.true_and, Bool.or_false, Bool.false_or, Bool.or_true, Bool.true_or, Bool.and_false, Bool.false_and, if_true, if_false, ite_true, ite_false, reduceIte, reduceCtorEq, decide_true, decide_false, decide_eq_true_eq, decide_eq_false_iff_not, true_and, and_true, false_and, and_false, eq_self, ne_eq, not_false_eq_true, not_true_eq_false, and_self, *])

def GM (R : List (List Nat)) (giv : List (List Fm)) (k : Nat) : Prop := ∀ w, w < k → ∀ v ∈ R.getD w [], ∀ g ∈ giv.getD w [], g ∈ giv.getD v []
def BM (R : List (List Nat)) (bs : List Nat) (k : Nat) : Prop := ∀ w, w < k → ∀ v ∈ R.getD w [], w ∈ bs → v ∈ bs
theorem getD_set {α : Type} {l : List α} {w v : Nat} {a d : α} (hv : v < l.length) : (l.set v a).getD w d = if v = w then a else l.getD w d := by
  rw [List.getD_eq_getElem?_getD, List.getD_eq_getElem?_getD]
  by_cases h : v = w
  · subst h
    rw [if_pos rfl, List.getElem?_set_self hv]
    rfl
  · rw [if_neg h, List.getElem?_set_ne h]
theorem goodC_out {n : Nat} {R : List (List Nat)} (g : goodC n R = true) : R.length = n ∧ ∀ w, w < n → (R.getD w []).length ≤ 4 ∧ ∀ v ∈ R.getD w [], v < n ∧ w ≤ v ∧ ∀ u ∈ R.getD v [], u ∈ R.getD w [] := by
  unfold goodC at g
  rw [Bool.and_eq_true, decide_eq_true_eq] at g
  refine ⟨g.1, fun w hw => ?_⟩
  have z := List.all_eq_true.mp g.2 w (List.mem_range.mpr hw)
  rw [Bool.and_eq_true, decide_eq_true_eq] at z
  refine ⟨z.1, fun v hv => ?_⟩
  have z2 := List.all_eq_true.mp z.2 v hv
  rw [Bool.and_eq_true, Bool.and_eq_true, decide_eq_true_eq, decide_eq_true_eq] at z2
  exact ⟨z2.1.1, z2.1.2, fun u hu => of_decide_eq_true (List.all_eq_true.mp z2.2 u hu)⟩
def addG (giv : List (List Fm)) (w v : Nat) : List (List Fm) := giv.set v (giv.getD v [] ++ (giv.getD w []).filter fun g => !decide (g ∈ giv.getD v []))
def addB (bs : List Nat) (w v : Nat) : List Nat := if w ∈ bs ∧ v ∉ bs then bs ++ [v] else bs
theorem addG_w {giv : List (List Fm)} {w v u : Nat} (hv : v < giv.length) (h : u ≠ v ∨ w = v) (h2 : u ≠ v ∨ u = w) : (addG giv w v).getD u [] = giv.getD u [] := by
  unfold addG
  rw [getD_set hv]
  by_cases e : v = u
  · subst e
    have e2 : w = v := h.elim (fun z => absurd rfl z) id
    subst e2
    rw [if_pos rfl]
    have z : (giv.getD w []).filter (fun g => !decide (g ∈ giv.getD w [])) = [] := List.filter_eq_nil_iff.mpr fun g hg => by simp only [hg, decide_true]; decide
    rw [z, List.append_nil]
  · rw [if_neg e]
theorem addG_mono {giv : List (List Fm)} {w v u : Nat} {g : Fm} (hv : v < giv.length) (h : g ∈ giv.getD u []) : g ∈ (addG giv w v).getD u [] := by
  unfold addG
  rw [getD_set hv]
  split
  · rename_i e
    subst e
    exact List.mem_append.mpr (.inl h)
  · exact h
theorem addG_v {giv : List (List Fm)} {w v : Nat} {g : Fm} (hv : v < giv.length) (h : g ∈ giv.getD w []) : g ∈ (addG giv w v).getD v [] := by
  unfold addG
  rw [getD_set hv, if_pos rfl]
  by_cases c : g ∈ giv.getD v []
  · exact List.mem_append.mpr (.inl c)
  · exact List.mem_append.mpr (.inr (List.mem_filter.mpr ⟨h, by simp only [c, decide_false]; rfl⟩))
theorem addB_mono {bs : List Nat} {w v u : Nat} (h : u ∈ bs) : u ∈ addB bs w v := by
  unfold addB
  split
  · exact List.mem_append.mpr (.inl h)
  · exact h
theorem addB_old {bs : List Nat} {w v u : Nat} (n : u ≠ v ∨ u = w) (h : u ∈ addB bs w v) : u ∈ bs := by
  unfold addB at h
  split at h
  · rename_i c
    rcases List.mem_append.mp h with z | z
    · exact z
    · have e := List.mem_singleton.mp z
      rcases n with n | n
      · exact absurd e n
      · rw [n]; exact c.1
  · exact h
theorem addB_v {bs : List Nat} {w v : Nat} (h : w ∈ addB bs w v) : v ∈ addB bs w v := by
  have hw : w ∈ bs := addB_old (.inr rfl) h
  unfold addB
  by_cases c : v ∈ bs
  · rw [if_neg fun z => z.2 c]
    exact c
  · rw [if_pos ⟨hw, c⟩]
    exact List.mem_append.mpr (.inr List.mem_cons_self)
structure Rnd (R : List (List Nat)) (giv : List (List Fm)) (bs : List Nat) (w : Nat) (done : List Nat) : Prop where
  gm : GM R giv w
  bm : BM R bs w
  gd : ∀ v ∈ done, ∀ g ∈ giv.getD w [], g ∈ giv.getD v []
  bd : ∀ v ∈ done, w ∈ bs → v ∈ bs
theorem Rnd.step {R : List (List Nat)} {giv : List (List Fm)} {bs : List Nat} {w v : Nat} {done : List Nat} (h : Rnd R giv bs w done) (hv : v < giv.length) (hwv : w ≤ v) : Rnd R (addG giv w v) (addB bs w v) w (done ++ [v]) := by
  have ew : (addG giv w v).getD w [] = giv.getD w [] := by
    by_cases e : w = v
    · exact addG_w hv (.inr e) (.inr rfl)
    · exact addG_w hv (.inl e) (.inl e)
  refine ⟨fun u hu x hx g hg => ?_, fun u hu x hx hb => ?_, fun x hx g hg => ?_, fun x hx hb => ?_⟩
  · rw [addG_w hv (.inl (by omega)) (.inl (by omega))] at hg
    exact addG_mono hv (h.gm u hu x hx g hg)
  · exact addB_mono (h.bm u hu x hx (addB_old (.inl (by omega)) hb))
  · rw [ew] at hg
    rcases List.mem_append.mp hx with z | z
    · exact addG_mono hv (h.gd x z g hg)
    · rw [List.mem_singleton.mp z]
      exact addG_v hv hg
  · rcases List.mem_append.mp hx with z | z
    · exact addB_mono (h.bd x z (addB_old (.inr rfl) hb))
    · rw [List.mem_singleton.mp z]
      exact addB_v hb
theorem Rnd.done {R : List (List Nat)} {giv : List (List Fm)} {bs : List Nat} {w : Nat} (h : Rnd R giv bs w (R.getD w [])) : GM R giv (w + 1) ∧ BM R bs (w + 1) := by
  refine ⟨fun u hu v hv g hg => ?_, fun u hu v hv hb => ?_⟩
  · by_cases e : u = w
    · subst e; exact h.gd v hv g hg
    · exact h.gm u (by omega) v hv g hg
  · by_cases e : u = w
    · subst e; exact h.bd v hv hb
    · exact h.bm u (by omega) v hv hb
theorem GR.step {ats : List Fm} {a c : List Fm} (ha : GR ats a) (hc : GR ats c) : GR ats (a ++ c.filter fun g => !decide (g ∈ a)) := by
  refine ⟨List.nodup_append.mpr ⟨ha.1, hc.1.sublist List.filter_sublist, fun x hx y hy e => ?_⟩, fun g hg => ?_⟩
  · subst e
    have z := (List.mem_filter.mp hy).2
    simp only [hx, decide_true] at z
    exact absurd z (by decide)
  · rcases List.mem_append.mp hg with z | z
    · exact ha.2 g z
    · exact hc.2 g (List.mem_filter.mp z).1
theorem GR.getD {ats : List Fm} {giv : List (List Fm)} (h : ∀ r ∈ giv, GR ats r) (w : Nat) : GR ats (giv.getD w []) := by
  rw [List.getD_eq_getElem?_getD]
  cases e : giv[w]? with
  | none => exact ⟨List.nodup_nil, fun g hg => nomatch hg⟩
  | some r => exact h r (List.mem_of_getElem? e)
theorem addG_gr {ats : List Fm} {giv : List (List Fm)} {w v : Nat} (h : ∀ r ∈ giv, GR ats r) : ∀ r ∈ addG giv w v, GR ats r := fun r hr => by
  rcases List.mem_or_eq_of_mem_set hr with z | z
  · exact h r z
  · rw [z]
    exact (GR.getD h v).step (GR.getD h w)
theorem filter_lc {xs ys : List Fm} {pa ca : Addr} {i : Nat} {e : ATE} {env : AEnv} {M : Sto} {Q : List D → Sto → Prop} (hx : M ca = some (.lst (xs.map Fm.d))) (hy : M pa = some (.lst (ys.map Fm.d))) (tx : ∀ g ∈ xs, g.Tiny) (ty : ∀ g ∈ ys, g.Tiny) (hi : i < env.length)
    (he : ∀ x Q', Q' (.obj ca) M → e ax0 (env.set i x) M Q') (q : Q ((ys.filter fun g => !decide (g ∈ xs)).map Fm.d) M) :
    aLcGo (fun M' => M' pa = some (.lst (ys.map Fm.d))) i (aTest (aOp (ρIn true) (aVar i) e)) (aVar i) ax0 env (ys.map Fm.d) [] M Q := by
  refine lc_run (fun ds acc M' => ∃ done rest : List Fm, ys = done ++ rest ∧ ds = rest.map Fm.d ∧ acc = (done.filter fun g => !decide (g ∈ xs)).map Fm.d ∧ M' = M) ?_ ?_ ?_ ⟨[], ys, rfl, rfl, rfl, rfl⟩
  · rintro ds acc M' ⟨_, _, _, _, _, rfl⟩
    exact hy
  · rintro acc M' ⟨done, rest, he, hd, rfl, rfl⟩
    have z := List.map_eq_nil_iff.mp hd.symm
    subst z
    rw [List.append_nil] at he
    rw [← he]
    exact q
  · rintro y r acc M' N ⟨done, rest, h1, hd, rfl, rfl⟩ next
    cases rest with
    | nil => cases hd
    | cons g rest =>
      rw [List.map_cons] at hd
      injection hd with hd1 hd2
      subst hd1 hd2
      have tg : g.Tiny := ty g (by rw [h1]; exact List.mem_append_right _ List.mem_cons_self)
      have nx1 : g ∉ xs → N ((done.filter fun g => !decide (g ∈ xs)).map Fm.d ++ [g.d]) M' := fun c => next _ _ ⟨done ++ [g], rest, by rw [h1, List.append_assoc]; rfl, rfl, by rw [List.filter_append, List.filter_cons_of_pos (by simp [c]), List.map_append]; rfl, rfl⟩
      have nx2 : g ∈ xs → N ((done.filter fun g => !decide (g ∈ xs)).map Fm.d) M' := fun c => next _ _ ⟨done ++ [g], rest, by rw [h1, List.append_assoc]; rfl, rfl, by rw [List.filter_append, List.filter_cons_of_neg (by simp [c]), List.filter_nil, List.append_nil], rfl⟩
      have he' := fun Q' => he (some g.d) Q'
      have ei : (env.set i (some g.d))[i]? = some (some g.d) := List.getElem?_set_self hi
      generalize env.set i (some g.d) = env2 at *
      clear next h1 q he
      rw [e_test, e_op, e_var, ei, e_some, e_some]
      refine he' _ ?_
      refine in_fms hx tg tx ?_
      by_cases c : g ∈ xs
      · have z := nx2 c
        clear nx1 nx2 he'
        try (simp only [↓e_seq, ↓e_next, ↓e_break, ↓e_cont, ↓e_expr, ↓e_ret, ↓e_retN, ↓e_if, ↓e_never, ↓e_asg, ↓e_name, ↓e_agtup, ↓e_agcons, ↓e_agnil, ↓e_agsub, ↓e_aug, ↓e_dput, ↓e_var, ↓e_c, ↓e_op, ↓e_some, ↓e_none, ↓e_test, ↓e_and, ↓e_or, ↓e_not, ↓e_yes, ↓e_truth,   ↓e_tru_bl, ↓e_tru_int, ↓e_tru_non, ↓e_tru_str, ↓e_tru_tup, ↓e_tru_obj, ↓e_chain, ↓e_orV, ↓e_andV, ↓e_notV, ↓e_ifE, ↓e_neg, ↓e_nil, ↓e_cons, ↓e_tup, ↓e_lst, ↓e_dnew, ↓e_call, ↓e_cb, ↓e_isi, ↓e_sl, ↓e_onone, ↓e_osome, ↓e_rev, ↓e_lm, ↓e_append, ↓e_extend, ↓e_pop, ↓e_join, ↓e_dget2, ↓e_sortSet, ↓e_sortS, ↓e_setd, strsOf_map, ↓e_maxI, ↓e_disp, ↓e_pairN, ↓e_pairC, intsOf_map, ↓e_for, ↓e_ilist, ↓e_itup, ↓e_rng1, ↓e_rng2, ↓e_lc, ↓e_lc2, e_lc2N, ↓e_ienum, ↓e_izip, ↓e_anyB, ↓e_allB, ↓e_mulS, blsOf_map, ↓e_set0, ↓e_sadd, ↓e_sortTx, ↓e_sortD, ↓e_repr, ↓e_extT, ↓e_sc2, ↓e_sortZ, ↓e_tupVals, ↓e_wget, ↓e_wix, ↓e_listZip, zipD_nil, zipD_cons, ↓e_dgetF, ↓e_idif, ↓e_isB, ↓e_sortI, ↓e_sortSetI, ↓e_tailR, ↓e_divmod, ↓e_strI, ↓e_lenD, ↓e_fmt, ↓e_fs2,   ↓e_add_int, ↓e_add_str, ↓e_add_tup, ↓e_add_obj, ↓e_iadd_int, ↓e_iadd_str, ↓e_iadd_obj, ↓e_I, ↓e_I0, ↓e_IS_int, ↓e_IS_str, ↓e_eq_str, ↓e_ne_str, ↓e_eq_int, ↓e_ne_int, ↓e_eq_bl, ↓e_ne_bl, ↓e_isN, ↓e_notN, ↓e_ix_tup, ↓e_ix_fl, ↓e_ix_str, ↓e_ix_obj, ↓e_in_tup, ↓e_nin_tup, ↓e_len_tup, ↓e_len_fl, ↓e_len_str, ↓e_len_obj, ↓e_int_int, ↓e_tuple_tup, ↓e_tuple_obj, ↓e_list_tup, ↓e_list_obj, ↓e_dget, ↓e_din, ↓e_dnin, ↓e_lstAt, ↓e_dicAt,   e_key_int, e_key_str, e_up, e_ty_str, e_ty_tup, e_ty_int, e_ty_bl, e_ty_non, atI0, atI1, atI2, atI3, atIL, ixN0, ixN1, cut_from1, e_ite_or, e_ite_and, zln, znl, zli, zil, zni, zin, sizeLine_eq, CMul, CDiv, cpow1018, true_or, or_true, kb_strstr, kb_tupstr, kb_tuptup, kb_strtup, kb_inttup, kb_bltup, kb_nontup, kb_strbl, kb_strint, kb_intbl, kb_intint, kb_blbl, kb_blint, kb_nonbl, kb_nonint, kb_nonstr, kb_intstr, kb_blstr, kb_tupbl, kb_tupint,   List.set_cons_zero, List.set_cons_succ, List.set_nil, List.getElem?_cons_zero, List.getElem?_cons_succ, List.getElem?_nil, List.length_cons, List.length_nil, List.length_map, List.length_append, e_lcN, e_lcC, e_forN, e_forC, List.getLast?_concat, List.dropLast_concat, List.nil_append, List.cons_append, List.append_nil, List.append_assoc, List.reverse_cons, List.reverse_nil, List.isEmpty_nil, List.isEmpty_cons, isEmpty_snoc, List.any_cons, List.any_nil, List.all_cons, List.all_nil, flatD, eqF, in_non, in_tup, in_str, in_int, in_bl, in_obj, in_fl, startA, List.map_cons, List.map_nil, List.replicate_succ, List.replicate_zero,   Nat.reduceAdd, Nat.reduceSub, Nat.reduceLeDiff, Nat.zero_add, Int.reduceLE, Int.reduceLT, Int.reduceToNat, Int.reducePow, Int.reduceNeg, Int.reduceAdd, Int.reduceSub,   Option.isSome_some, Option.isSome_none, Bool.not_true, Bool.not_false, Bool.not_eq_true', Bool.not_eq_eq_eq_not, Bool.not_eq_true, Bool.false_eq_true, Bool.true_eq_false, Bool.and_true, Bool.true_and, Bool.or_false, Bool.false_or, Bool.or_true, Bool.true_or, Bool.and_false, Bool.false_and, if_true, if_false, ite_true, ite_false, reduceIte, reduceCtorEq, decide_true, decide_false, decide_eq_true_eq, decide_eq_false_iff_not, true_and, and_true, false_and, and_false, eq_self, ne_eq, not_false_eq_true, not_true_eq_false, and_self, *])
      · have z := nx1 c
        clear nx1 nx2 he'
        try (simp only [↓e_seq, ↓e_next, ↓e_break, ↓e_cont, ↓e_expr, ↓e_ret, ↓e_retN, ↓e_if, ↓e_never, ↓e_asg, ↓e_name, ↓e_agtup, ↓e_agcons, ↓e_agnil, ↓e_agsub, ↓e_aug, ↓e_dput, ↓e_var, ↓e_c, ↓e_op, ↓e_some, ↓e_none, ↓e_test, ↓e_and, ↓e_or, ↓e_not, ↓e_yes, ↓e_truth,   ↓e_tru_bl, ↓e_tru_int, ↓e_tru_non, ↓e_tru_str, ↓e_tru_tup, ↓e_tru_obj, ↓e_chain, ↓e_orV, ↓e_andV, ↓e_notV, ↓e_ifE, ↓e_neg, ↓e_nil, ↓e_cons, ↓e_tup, ↓e_lst, ↓e_dnew, ↓e_call, ↓e_cb, ↓e_isi, ↓e_sl, ↓e_onone, ↓e_osome, ↓e_rev, ↓e_lm, ↓e_append, ↓e_extend, ↓e_pop, ↓e_join, ↓e_dget2, ↓e_sortSet, ↓e_sortS, ↓e_setd, strsOf_map, ↓e_maxI, ↓e_disp, ↓e_pairN, ↓e_pairC, intsOf_map, ↓e_for, ↓e_ilist, ↓e_itup, ↓e_rng1, ↓e_rng2, ↓e_lc, ↓e_lc2, e_lc2N, ↓e_ienum, ↓e_izip, ↓e_anyB, ↓e_allB, ↓e_mulS, blsOf_map, ↓e_set0, ↓e_sadd, ↓e_sortTx, ↓e_sortD, ↓e_repr, ↓e_extT, ↓e_sc2, ↓e_sortZ, ↓e_tupVals, ↓e_wget, ↓e_wix, ↓e_listZip, zipD_nil, zipD_cons, ↓e_dgetF, ↓e_idif, ↓e_isB, ↓e_sortI, ↓e_sortSetI, ↓e_tailR, ↓e_divmod, ↓e_strI, ↓e_lenD, ↓e_fmt, ↓e_fs2,   ↓e_add_int, ↓e_add_str, ↓e_add_tup, ↓e_add_obj, ↓e_iadd_int, ↓e_iadd_str, ↓e_iadd_obj, ↓e_I, ↓e_I0, ↓e_IS_int, ↓e_IS_str, ↓e_eq_str, ↓e_ne_str, ↓e_eq_int, ↓e_ne_int, ↓e_eq_bl, ↓e_ne_bl, ↓e_isN, ↓e_notN, ↓e_ix_tup, ↓e_ix_fl, ↓e_ix_str, ↓e_ix_obj, ↓e_in_tup, ↓e_nin_tup, ↓e_len_tup, ↓e_len_fl, ↓e_len_str, ↓e_len_obj, ↓e_int_int, ↓e_tuple_tup, ↓e_tuple_obj, ↓e_list_tup, ↓e_list_obj, ↓e_dget, ↓e_din, ↓e_dnin, ↓e_lstAt, ↓e_dicAt,   e_key_int, e_key_str, e_up, e_ty_str, e_ty_tup, e_ty_int, e_ty_bl, e_ty_non, atI0, atI1, atI2, atI3, atIL, ixN0, ixN1, cut_from1, e_ite_or, e_ite_and, zln, znl, zli, zil, zni, zin, sizeLine_eq, CMul, CDiv, cpow1018, true_or, or_true, kb_strstr, kb_tupstr, kb_tuptup, kb_strtup, kb_inttup, kb_bltup, kb_nontup, kb_strbl, kb_strint, kb_intbl, kb_intint, kb_blbl, kb_blint, kb_nonbl, kb_nonint, kb_nonstr, kb_intstr, kb_blstr, kb_tupbl, kb_tupint,   List.set_cons_zero, List.set_cons_succ, List.set_nil, List.getElem?_cons_zero, List.getElem?_cons_succ, List.getElem?_nil, List.length_cons, List.length_nil, List.length_map, List.length_append, e_lcN, e_lcC, e_forN, e_forC, List.getLast?_concat, List.dropLast_concat, List.nil_append, List.cons_append, List.append_nil, List.append_assoc, List.reverse_cons, List.reverse_nil, List.isEmpty_nil, List.isEmpty_cons, isEmpty_snoc, List.any_cons, List.any_nil, List.all_cons, List.all_nil, flatD, eqF, in_non, in_tup, in_str, in_int, in_bl, in_obj, in_fl, startA, List.map_cons, List.map_nil, List.replicate_succ, List.replicate_zero,   Nat.reduceAdd, Nat.reduceSub, Nat.reduceLeDiff, Nat.zero_add, Int.reduceLE, Int.reduceLT, Int.reduceToNat, Int.reducePow, Int.reduceNeg, Int.reduceAdd, Int.reduceSub,   Option.isSome_some, Option.isSome_none, Bool.not_true, Bool.not_false, Bool.not_eq_true', Bool.not_eq_eq_eq_not, Bool.not_eq_true, Bool.false_eq_true, Bool.true_eq_false, Bool.and_true, Bool.true_and, Bool.or_false, Bool.false_or, Bool.or_true, Bool.true_or, Bool.and_false, Bool.false_and, if_true, if_false, ite_true, ite_false, reduceIte, reduceCtorEq, decide_true, decide_false, decide_eq_true_eq, decide_eq_false_iff_not, true_and, and_true, false_and, and_false, eq_self, ne_eq, not_false_eq_true, not_true_eq_false, and_self, *])

/- slots of _law_model: 0 box, 1 strength, 2 names, 3 many, 4 later, 5 world, 6 turn, 7 further, 8 atoms, 9 given, 10 broken, 11 rows, 12 name, 13 atom, 14 row -/
def a_m2 (A__law_draw : ASp) : ATS :=
    (aSeq (aAsg (aLst aNil) (agName 9))
    (aSeq (aAsg (aLst aNil) (agName 10))
    (aSeq (aFor (aIRng1 (aCons (aVar 3) aNil)) (agName 5) (aSeq (aExpr (aLm ρAppend (aVar 9) (aCons (aLc (aIList (aVar 8)) 13 (aTest (aOp (ρEq false) (aCall 2 A__law_draw (aCons (aVar 0) (aCons (aC (.int 3)) aNil))) (aC (.int 0)))) (aVar 13)) aNil)))
    (aIf (aTest (aOp (ρEq false) (aCall 2 A__law_draw (aCons (aVar 0) (aCons (aC (.int 4)) aNil))) (aC (.int 0)))) (aExpr (aLm ρAppend (aVar 10) (aCons (aVar 5) aNil))) aNext)))
    (aSeq (aFor (aIRng1 (aCons (aVar 3) aNil)) (agName 5) (aFor (aIList (aOp ρIx (aVar 4) (aVar 5))) (agName 7) (aSeq (aAsg (aOp ρAdd (aOp ρIx (aVar 9) (aVar 7)) (aLc (aIList (aOp ρIx (aVar 9) (aVar 5))) 13 (aTest (aOp (ρIn true) (aVar 13) (aOp ρIx (aVar 9) (aVar 7)))) (aVar 13))) (agSub (aVar 9) (aVar 7)))
    (aIf (aAnd (aTest (aOp (ρIn false) (aVar 5) (aVar 10))) (aTest (aOp (ρIn true) (aVar 7) (aVar 10)))) (aExpr (aLm ρAppend (aVar 10) (aCons (aVar 7) aNil))) aNext))))
    (aSeq (aAsg (aCB ρTuple (aCons (aLc (aIList (aVar 9)) 14 aYes (aCB ρTuple (aCons (aVar 14) aNil))) aNil)) (agName 11))
    (aRet (aTup (aCons (aC (.str z_model)) (aCons (aCB ρTuple (aCons (aLc (aIList (aVar 4)) 14 aYes (aCB ρTuple (aCons (aVar 14) aNil))) aNil)) (aCons (aVar 11) (aCons (aCB ρTuple (aCons (aCB ρSortI (aCons (aVar 10) aNil)) aNil)) aNil)))))))))))
def a_m1 (A__law_draw : ASp) : ATS :=
    (aSeq (aAsg (aLc (aIList (aVar 2)) 12 aYes (aTup (aCons (aC (.str z_letter)) (aCons (aVar 12) aNil)))) (agName 8))
    (aSeq (aIf (aTest (aOp (ρEq false) (aVar 1) (aC (.str z_positive)))) (aAsg (aOp ρAdd (aOp ρAdd (aVar 8) (aLc (aIList (aVar 2)) 12 aYes (aTup (aCons (aC (.str z_not)) (aCons (aTup (aCons (aC (.str z_letter)) (aCons (aVar 12) aNil))) aNil))))) (aLst (aCons (aTup (aCons (aC (.str z_not)) (aCons (aTup (aCons (aC (.str z_not)) (aCons (aTup (aCons (aC (.str z_letter)) (aCons (aOp ρIx (aVar 2) (aC (.int 0))) aNil))) aNil))) aNil))) aNil))) (agName 8)) aNext)
    (a_m2 A__law_draw)))
def a__law_model (A__law_draw : ASp) : ATS :=
    (aSeq (aAsg (aOp ρAdd (aC (.int 1)) (aCall 2 A__law_draw (aCons (aVar 0) (aCons (aC (.int 4)) aNil)))) (agName 3))
    (aSeq (aAsg (aLst aNil) (agName 4))
    (aSeq (aFor (aIRng1 (aCons (aVar 3) aNil)) (agName 5) (aExpr (aLm ρAppend (aVar 4) (aCons (aLc (aIRng2 (aCons (aVar 5) (aCons (aVar 3) aNil))) 7 (aOr (aTest (aOp (ρEq false) (aVar 7) (aVar 5))) (aTest (aOp (ρEq false) (aCall 2 A__law_draw (aCons (aVar 0) (aCons (aC (.int 2)) aNil))) (aC (.int 0))))) (aVar 7)) aNil))))
    (aSeq (aFor (aIRng1 (aCons (aVar 3) aNil)) (agName 6) (aFor (aIRng1 (aCons (aVar 3) aNil)) (agName 5) (aFor (aIList (aCB ρList (aCons (aOp ρIx (aVar 4) (aVar 5)) aNil))) (agName 7) (aAsg (aSortSetI (aOp ρAdd (aOp ρIx (aVar 4) (aVar 5)) (aOp ρIx (aVar 4) (aVar 7)))) (agSub (aVar 4) (aVar 5))))))
    (a_m1 A__law_draw)))))

theorem in_nats {n : Bool} {u : Nat} {bs : List Nat} {k : Addr} {M : Sto} {Q : D → Sto → Prop} (h : M k = some (.lst (bs.map natI))) (q : Q (.bl (if n then !decide (u ∈ bs) else decide (u ∈ bs))) M) : ρIn n (.int (u : Int)) (.obj k) M Q := by
  show lstAt M k fun ds => (flatD (.int (u : Int)) = true ∧ ds.all flatD = true ∧ Q (.bl (if n then !(ds.any fun y => eqF y (.int (u : Int))) else ds.any fun y => eqF y (.int (u : Int)))) M) ∨ _
  unfold lstAt
  rw [h]
  refine .inl ⟨rfl, nats_flat bs, ?_⟩
  have e : ((bs.map natI).any fun y => eqF y (.int (u : Int))) = decide (u ∈ bs) := nats_any bs u
  rw [e]
  exact q
theorem p_m2 {b d nm p qa : Addr} {st x5 x6 x7 x12 x13 : Option D} {n : Nat} {R : List (List Nat)} {ats : List Fm} {M : Sto} {Q : D → Sto → Prop} (hb : BoxAt M b d) (hp : RowsAt natI M p R) (hg : goodC n R = true) (hq : M qa = some (.lst (ats.map Fm.d)))
    (tiny : ∀ g ∈ ats, g.Tiny) (nd : ats.Nodup) (hl : ats.length ≤ 5) (hn : n ≤ 4) (q : ∀ (m : Mdl) M', m.later = R → m.Ok → m.Kr → BoxAt M' b d → ExtB b M M' → Q m.d M') :
    a_m2 A_draw ax0 (Done Q) [some (.obj b), st, some (.obj nm), some (.int (n : Int)), some (.obj p), x5, x6, x7, some (.obj qa), none, none, none, x12, x13, none] M := by
  obtain ⟨hRl, hRg⟩ := goodC_out hg
  obtain ⟨asL, hpL, hlL, _⟩ := _root_.id hp
  have npb : p ≠ b := obj_ne_box hb hpL
  have nqb : qa ≠ b := row_ne_box noObj_fm hb hq
  have gr_len : ∀ r, GR ats r → r.length ≤ 5 := fun r h => Nat.le_trans (nodup_le h.1 h.2) hl
  have gr_tiny : ∀ r, GR ats r → ∀ g ∈ r, g.Tiny := fun r h g hg => tiny g (h.2 g hg)
  unfold a_m2
  try (simp only [↓e_seq, ↓e_next, ↓e_break, ↓e_cont, ↓e_expr, ↓e_ret, ↓e_retN, ↓e_if, ↓e_never, ↓e_asg, ↓e_name, ↓e_agtup, ↓e_agcons, ↓e_agnil, ↓e_agsub, ↓e_aug, ↓e_dput, ↓e_var, ↓e_c, ↓e_op, ↓e_some, ↓e_none, ↓e_test, ↓e_and, ↓e_or, ↓e_not, ↓e_yes, ↓e_truth,   ↓e_tru_bl, ↓e_tru_int, ↓e_tru_non, ↓e_tru_str, ↓e_tru_tup, ↓e_tru_obj, ↓e_chain, ↓e_orV, ↓e_andV, ↓e_notV, ↓e_ifE, ↓e_neg, ↓e_nil, ↓e_cons, ↓e_tup, ↓e_lst, ↓e_dnew, ↓e_call, ↓e_cb, ↓e_isi, ↓e_sl, ↓e_onone, ↓e_osome, ↓e_rev, ↓e_lm, ↓e_append, ↓e_extend, ↓e_pop, ↓e_join, ↓e_dget2, ↓e_sortSet, ↓e_sortS, ↓e_setd, strsOf_map, ↓e_maxI, ↓e_disp, ↓e_pairN, ↓e_pairC, intsOf_map, ↓e_for, ↓e_ilist, ↓e_itup, ↓e_rng1, ↓e_rng2, ↓e_lc, ↓e_lc2, e_lc2N, ↓e_ienum, ↓e_izip, ↓e_anyB, ↓e_allB, ↓e_mulS, blsOf_map, ↓e_set0, ↓e_sadd, ↓e_sortTx, ↓e_sortD, ↓e_repr, ↓e_extT, ↓e_sc2, ↓e_sortZ, ↓e_tupVals, ↓e_wget, ↓e_wix, ↓e_listZip, zipD_nil, zipD_cons, ↓e_dgetF, ↓e_idif, ↓e_isB, ↓e_sortI, ↓e_sortSetI, ↓e_tailR, ↓e_divmod, ↓e_strI, ↓e_lenD, ↓e_fmt, ↓e_fs2,   ↓e_add_int, ↓e_add_str, ↓e_add_tup, ↓e_add_obj, ↓e_iadd_int, ↓e_iadd_str, ↓e_iadd_obj, ↓e_I, ↓e_I0, ↓e_IS_int, ↓e_IS_str, ↓e_eq_str, ↓e_ne_str, ↓e_eq_int, ↓e_ne_int, ↓e_eq_bl, ↓e_ne_bl, ↓e_isN, ↓e_notN, ↓e_ix_tup, ↓e_ix_fl, ↓e_ix_str, ↓e_ix_obj, ↓e_in_tup, ↓e_nin_tup, ↓e_len_tup, ↓e_len_fl, ↓e_len_str, ↓e_len_obj, ↓e_int_int, ↓e_tuple_tup, ↓e_tuple_obj, ↓e_list_tup, ↓e_list_obj, ↓e_dget, ↓e_din, ↓e_dnin, ↓e_lstAt, ↓e_dicAt,   e_key_int, e_key_str, e_up, e_ty_str, e_ty_tup, e_ty_int, e_ty_bl, e_ty_non, atI0, atI1, atI2, atI3, atIL, ixN0, ixN1, cut_from1, e_ite_or, e_ite_and, zln, znl, zli, zil, zni, zin, sizeLine_eq, CMul, CDiv, cpow1018, true_or, or_true, kb_strstr, kb_tupstr, kb_tuptup, kb_strtup, kb_inttup, kb_bltup, kb_nontup, kb_strbl, kb_strint, kb_intbl, kb_intint, kb_blbl, kb_blint, kb_nonbl, kb_nonint, kb_nonstr, kb_intstr, kb_blstr, kb_tupbl, kb_tupint,   List.set_cons_zero, List.set_cons_succ, List.set_nil, List.getElem?_cons_zero, List.getElem?_cons_succ, List.getElem?_nil, List.length_cons, List.length_nil, List.length_map, List.length_append, e_lcN, e_lcC, e_forN, e_forC, List.getLast?_concat, List.dropLast_concat, List.nil_append, List.cons_append, List.append_nil, List.append_assoc, List.reverse_cons, List.reverse_nil, List.isEmpty_nil, List.isEmpty_cons, isEmpty_snoc, List.any_cons, List.any_nil, List.all_cons, List.all_nil, flatD, eqF, in_non, in_tup, in_str, in_int, in_bl, in_obj, in_fl, startA, List.map_cons, List.map_nil, List.replicate_succ, List.replicate_zero,   Nat.reduceAdd, Nat.reduceSub, Nat.reduceLeDiff, Nat.zero_add, Int.reduceLE, Int.reduceLT, Int.reduceToNat, Int.reducePow, Int.reduceNeg, Int.reduceAdd, Int.reduceSub,   Option.isSome_some, Option.isSome_none, Bool.not_true, Bool.not_false, Bool.not_eq_true', Bool.not_eq_eq_eq_not, Bool.not_eq_true, Bool.false_eq_true, Bool.true_eq_false, Bool.and_true, Bool.true_and, Bool.or_false, Bool.false_or, Bool.or_true, Bool.true_or, Bool.and_false, Bool.false_and, if_true, if_false, ite_true, ite_false, reduceIte, reduceCtorEq, decide_true, decide_false, decide_eq_true_eq, decide_eq_false_iff_not, true_and, and_true, false_and, and_false, eq_self, ne_eq, not_false_eq_true, not_true_eq_false, and_self, *])
  intro gA ng
  have e1 : ExtB b M (up M gA (.lst [])) := (Ext.new ng).b
  have hb1 := hb.new (mo := .lst []) ng
  have hgA : up M gA (.lst []) gA = some (.lst []) := up_same
  have nbg := (hb.fresh ng).1.symm
  generalize up M gA (.lst []) = M1 at *
  try (simp only [↓e_seq, ↓e_next, ↓e_break, ↓e_cont, ↓e_expr, ↓e_ret, ↓e_retN, ↓e_if, ↓e_never, ↓e_asg, ↓e_name, ↓e_agtup, ↓e_agcons, ↓e_agnil, ↓e_agsub, ↓e_aug, ↓e_dput, ↓e_var, ↓e_c, ↓e_op, ↓e_some, ↓e_none, ↓e_test, ↓e_and, ↓e_or, ↓e_not, ↓e_yes, ↓e_truth,   ↓e_tru_bl, ↓e_tru_int, ↓e_tru_non, ↓e_tru_str, ↓e_tru_tup, ↓e_tru_obj, ↓e_chain, ↓e_orV, ↓e_andV, ↓e_notV, ↓e_ifE, ↓e_neg, ↓e_nil, ↓e_cons, ↓e_tup, ↓e_lst, ↓e_dnew, ↓e_call, ↓e_cb, ↓e_isi, ↓e_sl, ↓e_onone, ↓e_osome, ↓e_rev, ↓e_lm, ↓e_append, ↓e_extend, ↓e_pop, ↓e_join, ↓e_dget2, ↓e_sortSet, ↓e_sortS, ↓e_setd, strsOf_map, ↓e_maxI, ↓e_disp, ↓e_pairN, ↓e_pairC, intsOf_map, ↓e_for, ↓e_ilist, ↓e_itup, ↓e_rng1, ↓e_rng2, ↓e_lc, ↓e_lc2, e_lc2N, ↓e_ienum, ↓e_izip, ↓e_anyB, ↓e_allB, ↓e_mulS, blsOf_map, ↓e_set0, ↓e_sadd, ↓e_sortTx, ↓e_sortD, ↓e_repr, ↓e_extT, ↓e_sc2, ↓e_sortZ, ↓e_tupVals, ↓e_wget, ↓e_wix, ↓e_listZip, zipD_nil, zipD_cons, ↓e_dgetF, ↓e_idif, ↓e_isB, ↓e_sortI, ↓e_sortSetI, ↓e_tailR, ↓e_divmod, ↓e_strI, ↓e_lenD, ↓e_fmt, ↓e_fs2,   ↓e_add_int, ↓e_add_str, ↓e_add_tup, ↓e_add_obj, ↓e_iadd_int, ↓e_iadd_str, ↓e_iadd_obj, ↓e_I, ↓e_I0, ↓e_IS_int, ↓e_IS_str, ↓e_eq_str, ↓e_ne_str, ↓e_eq_int, ↓e_ne_int, ↓e_eq_bl, ↓e_ne_bl, ↓e_isN, ↓e_notN, ↓e_ix_tup, ↓e_ix_fl, ↓e_ix_str, ↓e_ix_obj, ↓e_in_tup, ↓e_nin_tup, ↓e_len_tup, ↓e_len_fl, ↓e_len_str, ↓e_len_obj, ↓e_int_int, ↓e_tuple_tup, ↓e_tuple_obj, ↓e_list_tup, ↓e_list_obj, ↓e_dget, ↓e_din, ↓e_dnin, ↓e_lstAt, ↓e_dicAt,   e_key_int, e_key_str, e_up, e_ty_str, e_ty_tup, e_ty_int, e_ty_bl, e_ty_non, atI0, atI1, atI2, atI3, atIL, ixN0, ixN1, cut_from1, e_ite_or, e_ite_and, zln, znl, zli, zil, zni, zin, sizeLine_eq, CMul, CDiv, cpow1018, true_or, or_true, kb_strstr, kb_tupstr, kb_tuptup, kb_strtup, kb_inttup, kb_bltup, kb_nontup, kb_strbl, kb_strint, kb_intbl, kb_intint, kb_blbl, kb_blint, kb_nonbl, kb_nonint, kb_nonstr, kb_intstr, kb_blstr, kb_tupbl, kb_tupint,   List.set_cons_zero, List.set_cons_succ, List.set_nil, List.getElem?_cons_zero, List.getElem?_cons_succ, List.getElem?_nil, List.length_cons, List.length_nil, List.length_map, List.length_append, e_lcN, e_lcC, e_forN, e_forC, List.getLast?_concat, List.dropLast_concat, List.nil_append, List.cons_append, List.append_nil, List.append_assoc, List.reverse_cons, List.reverse_nil, List.isEmpty_nil, List.isEmpty_cons, isEmpty_snoc, List.any_cons, List.any_nil, List.all_cons, List.all_nil, flatD, eqF, in_non, in_tup, in_str, in_int, in_bl, in_obj, in_fl, startA, List.map_cons, List.map_nil, List.replicate_succ, List.replicate_zero,   Nat.reduceAdd, Nat.reduceSub, Nat.reduceLeDiff, Nat.zero_add, Int.reduceLE, Int.reduceLT, Int.reduceToNat, Int.reducePow, Int.reduceNeg, Int.reduceAdd, Int.reduceSub,   Option.isSome_some, Option.isSome_none, Bool.not_true, Bool.not_false, Bool.not_eq_true', Bool.not_eq_eq_eq_not, Bool.not_eq_true, Bool.false_eq_true, Bool.true_eq_false, Bool.and_true, Bool.true_and, Bool.or_false, Bool.false_or, Bool.or_true, Bool.true_or, Bool.and_false, Bool.false_and, if_true, if_false, ite_true, ite_false, reduceIte, reduceCtorEq, decide_true, decide_false, decide_eq_true_eq, decide_eq_false_iff_not, true_and, and_true, false_and, and_false, eq_self, ne_eq, not_false_eq_true, not_true_eq_false, and_self, *])
  intro kA nk
  have e2 : ExtB b M (up M1 kA (.lst [])) := e1.trans (Ext.new nk).b
  have hb2 := hb1.new (mo := .lst []) nk
  have ngk : gA ≠ kA := fresh_ne nk hgA
  have nkg : kA ≠ gA := ngk.symm
  have nbk := (hb1.fresh nk).1.symm
  have nbg2 := nbg.symm
  have nbk2 := nbk.symm
  have nk0 : M kA = none := by
    cases z : M kA with
    | none => rfl
    | some mo =>
      have nb : kA ≠ b := nbk
      rw [e1 _ _ nb z] at nk
      cases nk
  have hgA2 : up M1 kA (.lst []) gA = some (.lst []) := by rw [up_ne ngk]; exact hgA
  have hkA2 : up M1 kA (.lst []) kA = some (.lst []) := up_same
  have hdg : d ≠ gA ∧ d ≠ kA := by
    obtain ⟨zs, at_, z1, z2, z3, z4⟩ := hb
    exact ⟨fresh_ne ng z2, fresh_ne nk0 z2⟩
  generalize up M1 kA (.lst []) = M2 at *
  clear e1 hb1 hgA nk
  refine ⟨by omega, by omega, ?_⟩
  refine for_run (fun ds env M' => ∃ (w m : Nat) (giv : List (List Fm)) (bs : List Nat) (x5 : Option D), ds = rngD (w : Int) m ∧ w + m = n ∧ env = [some (.obj b), st, some (.obj nm), some (.int (n : Int)), some (.obj p), x5, x6, x7, some (.obj qa), some (.obj gA), some (.obj kA), none, x12, x13, none] ∧ RowsAt Fm.d M' gA giv ∧ Off M' gA kA ∧ giv.length = w ∧ (∀ r ∈ giv, GR ats r) ∧ M' kA = some (.lst (bs.map natI)) ∧ bs.Nodup ∧ (∀ v ∈ bs, v < w) ∧ BoxAt M' b d ∧ ExtB b M M') (fun _ _ _ _ => trivial) ?_ ?_
    ⟨0, n, [], [], x5, rfl, by omega, rfl, .nil hgA2, fun as h => by rw [hgA2] at h; injection h with h; injection h with h; have z := List.map_eq_nil_iff.mp h.symm; rw [z]; exact (fun z => absurd z (List.not_mem_nil)), rfl, (fun r hr => absurd hr (List.not_mem_nil)), hkA2, List.nodup_nil, (fun v hv => absurd hv (List.not_mem_nil)), hb2, e2⟩
  · rintro env M3 ⟨w, m, giv, bs, x5, hd, hw, rfl, hG, hO, hgl, hgr, hk, bnd, blt, hb3, e3⟩
    have z := rngD_nil hd.symm
    subst z
    clear hd
    have hwn : w = n := by omega
    subst hwn
    try (simp only [↓e_seq, ↓e_next, ↓e_break, ↓e_cont, ↓e_expr, ↓e_ret, ↓e_retN, ↓e_if, ↓e_never, ↓e_asg, ↓e_name, ↓e_agtup, ↓e_agcons, ↓e_agnil, ↓e_agsub, ↓e_aug, ↓e_dput, ↓e_var, ↓e_c, ↓e_op, ↓e_some, ↓e_none, ↓e_test, ↓e_and, ↓e_or, ↓e_not, ↓e_yes, ↓e_truth,   ↓e_tru_bl, ↓e_tru_int, ↓e_tru_non, ↓e_tru_str, ↓e_tru_tup, ↓e_tru_obj, ↓e_chain, ↓e_orV, ↓e_andV, ↓e_notV, ↓e_ifE, ↓e_neg, ↓e_nil, ↓e_cons, ↓e_tup, ↓e_lst, ↓e_dnew, ↓e_call, ↓e_cb, ↓e_isi, ↓e_sl, ↓e_onone, ↓e_osome, ↓e_rev, ↓e_lm, ↓e_append, ↓e_extend, ↓e_pop, ↓e_join, ↓e_dget2, ↓e_sortSet, ↓e_sortS, ↓e_setd, strsOf_map, ↓e_maxI, ↓e_disp, ↓e_pairN, ↓e_pairC, intsOf_map, ↓e_for, ↓e_ilist, ↓e_itup, ↓e_rng1, ↓e_rng2, ↓e_lc, ↓e_lc2, e_lc2N, ↓e_ienum, ↓e_izip, ↓e_anyB, ↓e_allB, ↓e_mulS, blsOf_map, ↓e_set0, ↓e_sadd, ↓e_sortTx, ↓e_sortD, ↓e_repr, ↓e_extT, ↓e_sc2, ↓e_sortZ, ↓e_tupVals, ↓e_wget, ↓e_wix, ↓e_listZip, zipD_nil, zipD_cons, ↓e_dgetF, ↓e_idif, ↓e_isB, ↓e_sortI, ↓e_sortSetI, ↓e_tailR, ↓e_divmod, ↓e_strI, ↓e_lenD, ↓e_fmt, ↓e_fs2,   ↓e_add_int, ↓e_add_str, ↓e_add_tup, ↓e_add_obj, ↓e_iadd_int, ↓e_iadd_str, ↓e_iadd_obj, ↓e_I, ↓e_I0, ↓e_IS_int, ↓e_IS_str, ↓e_eq_str, ↓e_ne_str, ↓e_eq_int, ↓e_ne_int, ↓e_eq_bl, ↓e_ne_bl, ↓e_isN, ↓e_notN, ↓e_ix_tup, ↓e_ix_fl, ↓e_ix_str, ↓e_ix_obj, ↓e_in_tup, ↓e_nin_tup, ↓e_len_tup, ↓e_len_fl, ↓e_len_str, ↓e_len_obj, ↓e_int_int, ↓e_tuple_tup, ↓e_tuple_obj, ↓e_list_tup, ↓e_list_obj, ↓e_dget, ↓e_din, ↓e_dnin, ↓e_lstAt, ↓e_dicAt,   e_key_int, e_key_str, e_up, e_ty_str, e_ty_tup, e_ty_int, e_ty_bl, e_ty_non, atI0, atI1, atI2, atI3, atIL, ixN0, ixN1, cut_from1, e_ite_or, e_ite_and, zln, znl, zli, zil, zni, zin, sizeLine_eq, CMul, CDiv, cpow1018, true_or, or_true, kb_strstr, kb_tupstr, kb_tuptup, kb_strtup, kb_inttup, kb_bltup, kb_nontup, kb_strbl, kb_strint, kb_intbl, kb_intint, kb_blbl, kb_blint, kb_nonbl, kb_nonint, kb_nonstr, kb_intstr, kb_blstr, kb_tupbl, kb_tupint,   List.set_cons_zero, List.set_cons_succ, List.set_nil, List.getElem?_cons_zero, List.getElem?_cons_succ, List.getElem?_nil, List.length_cons, List.length_nil, List.length_map, List.length_append, e_lcN, e_lcC, e_forN, e_forC, List.getLast?_concat, List.dropLast_concat, List.nil_append, List.cons_append, List.append_nil, List.append_assoc, List.reverse_cons, List.reverse_nil, List.isEmpty_nil, List.isEmpty_cons, isEmpty_snoc, List.any_cons, List.any_nil, List.all_cons, List.all_nil, flatD, eqF, in_non, in_tup, in_str, in_int, in_bl, in_obj, in_fl, startA, List.map_cons, List.map_nil, List.replicate_succ, List.replicate_zero,   Nat.reduceAdd, Nat.reduceSub, Nat.reduceLeDiff, Nat.zero_add, Int.reduceLE, Int.reduceLT, Int.reduceToNat, Int.reducePow, Int.reduceNeg, Int.reduceAdd, Int.reduceSub,   Option.isSome_some, Option.isSome_none, Bool.not_true, Bool.not_false, Bool.not_eq_true', Bool.not_eq_eq_eq_not, Bool.not_eq_true, Bool.false_eq_true, Bool.true_eq_false, Bool.and_true, Bool.true_and, Bool.or_false, Bool.false_or, Bool.or_true, Bool.true_or, Bool.and_false, Bool.false_and, if_true, if_false, ite_true, ite_false, reduceIte, reduceCtorEq, decide_true, decide_false, decide_eq_true_eq, decide_eq_false_iff_not, true_and, and_true, false_and, and_false, eq_self, ne_eq, not_false_eq_true, not_true_eq_false, and_self, *])
    refine ⟨by omega, by omega, ?_⟩
    rw [rng0]
    refine for_run (fun ds env M' => ∃ (done rest : List Nat) (giv : List (List Fm)) (bs : List Nat) (x5 x7 : Option D), List.range w = done ++ rest ∧ ds = rest.map natI ∧ env = [some (.obj b), st, some (.obj nm), some (.int (w : Int)), some (.obj p), x5, x6, x7, some (.obj qa), some (.obj gA), some (.obj kA), none, x12, x13, none] ∧ RowsAt Fm.d M' gA giv ∧ Off M' gA kA ∧ giv.length = w ∧ (∀ r ∈ giv, GR ats r) ∧ M' kA = some (.lst (bs.map natI)) ∧ bs.Nodup ∧ (∀ v ∈ bs, v < w) ∧ BoxAt M' b d ∧ ExtB b M M' ∧ GM R giv done.length ∧ BM R bs done.length) (fun _ _ _ _ => trivial) ?_ ?_
      ⟨[], List.range w, giv, bs, x5, x7, rfl, rfl, rfl, hG, hO, hgl, hgr, hk, bnd, blt, hb3, e3, fun w hw => absurd hw (Nat.not_lt_zero _), fun w hw => absurd hw (Nat.not_lt_zero _)⟩
    · rintro env M4 ⟨done, rest, giv, bs, x5, x7, hdr, hd, rfl, hG, hO, hgl, hgr, hk, bnd, blt, hb4, e4, gm, bm⟩
      have z := List.map_eq_nil_iff.mp hd.symm
      subst z
      clear hd
      rw [List.append_nil] at hdr
      have hdl : done.length = w := by rw [← hdr, List.length_range]
      rw [hdl] at gm bm
      obtain ⟨asG, hG1, hGl, _⟩ := _root_.id hG
      try (simp only [↓e_seq, ↓e_next, ↓e_break, ↓e_cont, ↓e_expr, ↓e_ret, ↓e_retN, ↓e_if, ↓e_never, ↓e_asg, ↓e_name, ↓e_agtup, ↓e_agcons, ↓e_agnil, ↓e_agsub, ↓e_aug, ↓e_dput, ↓e_var, ↓e_c, ↓e_op, ↓e_some, ↓e_none, ↓e_test, ↓e_and, ↓e_or, ↓e_not, ↓e_yes, ↓e_truth,   ↓e_tru_bl, ↓e_tru_int, ↓e_tru_non, ↓e_tru_str, ↓e_tru_tup, ↓e_tru_obj, ↓e_chain, ↓e_orV, ↓e_andV, ↓e_notV, ↓e_ifE, ↓e_neg, ↓e_nil, ↓e_cons, ↓e_tup, ↓e_lst, ↓e_dnew, ↓e_call, ↓e_cb, ↓e_isi, ↓e_sl, ↓e_onone, ↓e_osome, ↓e_rev, ↓e_lm, ↓e_append, ↓e_extend, ↓e_pop, ↓e_join, ↓e_dget2, ↓e_sortSet, ↓e_sortS, ↓e_setd, strsOf_map, ↓e_maxI, ↓e_disp, ↓e_pairN, ↓e_pairC, intsOf_map, ↓e_for, ↓e_ilist, ↓e_itup, ↓e_rng1, ↓e_rng2, ↓e_lc, ↓e_lc2, e_lc2N, ↓e_ienum, ↓e_izip, ↓e_anyB, ↓e_allB, ↓e_mulS, blsOf_map, ↓e_set0, ↓e_sadd, ↓e_sortTx, ↓e_sortD, ↓e_repr, ↓e_extT, ↓e_sc2, ↓e_sortZ, ↓e_tupVals, ↓e_wget, ↓e_wix, ↓e_listZip, zipD_nil, zipD_cons, ↓e_dgetF, ↓e_idif, ↓e_isB, ↓e_sortI, ↓e_sortSetI, ↓e_tailR, ↓e_divmod, ↓e_strI, ↓e_lenD, ↓e_fmt, ↓e_fs2,   ↓e_add_int, ↓e_add_str, ↓e_add_tup, ↓e_add_obj, ↓e_iadd_int, ↓e_iadd_str, ↓e_iadd_obj, ↓e_I, ↓e_I0, ↓e_IS_int, ↓e_IS_str, ↓e_eq_str, ↓e_ne_str, ↓e_eq_int, ↓e_ne_int, ↓e_eq_bl, ↓e_ne_bl, ↓e_isN, ↓e_notN, ↓e_ix_tup, ↓e_ix_fl, ↓e_ix_str, ↓e_ix_obj, ↓e_in_tup, ↓e_nin_tup, ↓e_len_tup, ↓e_len_fl, ↓e_len_str, ↓e_len_obj, ↓e_int_int, ↓e_tuple_tup, ↓e_tuple_obj, ↓e_list_tup, ↓e_list_obj, ↓e_dget, ↓e_din, ↓e_dnin, ↓e_lstAt, ↓e_dicAt,   e_key_int, e_key_str, e_up, e_ty_str, e_ty_tup, e_ty_int, e_ty_bl, e_ty_non, atI0, atI1, atI2, atI3, atIL, ixN0, ixN1, cut_from1, e_ite_or, e_ite_and, zln, znl, zli, zil, zni, zin, sizeLine_eq, CMul, CDiv, cpow1018, true_or, or_true, kb_strstr, kb_tupstr, kb_tuptup, kb_strtup, kb_inttup, kb_bltup, kb_nontup, kb_strbl, kb_strint, kb_intbl, kb_intint, kb_blbl, kb_blint, kb_nonbl, kb_nonint, kb_nonstr, kb_intstr, kb_blstr, kb_tupbl, kb_tupint,   List.set_cons_zero, List.set_cons_succ, List.set_nil, List.getElem?_cons_zero, List.getElem?_cons_succ, List.getElem?_nil, List.length_cons, List.length_nil, List.length_map, List.length_append, e_lcN, e_lcC, e_forN, e_forC, List.getLast?_concat, List.dropLast_concat, List.nil_append, List.cons_append, List.append_nil, List.append_assoc, List.reverse_cons, List.reverse_nil, List.isEmpty_nil, List.isEmpty_cons, isEmpty_snoc, List.any_cons, List.any_nil, List.all_cons, List.all_nil, flatD, eqF, in_non, in_tup, in_str, in_int, in_bl, in_obj, in_fl, startA, List.map_cons, List.map_nil, List.replicate_succ, List.replicate_zero,   Nat.reduceAdd, Nat.reduceSub, Nat.reduceLeDiff, Nat.zero_add, Int.reduceLE, Int.reduceLT, Int.reduceToNat, Int.reducePow, Int.reduceNeg, Int.reduceAdd, Int.reduceSub,   Option.isSome_some, Option.isSome_none, Bool.not_true, Bool.not_false, Bool.not_eq_true', Bool.not_eq_eq_eq_not, Bool.not_eq_true, Bool.false_eq_true, Bool.true_eq_false, Bool.and_true, Bool.true_and, Bool.or_false, Bool.false_or, Bool.or_true, Bool.true_or, Bool.and_false, Bool.false_and, if_true, if_false, ite_true, ite_false, reduceIte, reduceCtorEq, decide_true, decide_false, decide_eq_true_eq, decide_eq_false_iff_not, true_and, and_true, false_and, and_false, eq_self, ne_eq, not_false_eq_true, not_true_eq_false, and_self, *])
      refine ⟨by omega, ?_⟩
      refine rows_tup hG hG1 (by show 14 < 15; decide) ?_
      intro y ny
      have e5 : ExtB b M (up M4 y (.lst (giv.map fun r => D.tup (r.map Fm.d)))) := e4.trans (Ext.new ny).b
      have hb5 := hb4.new (mo := .lst (giv.map fun r => D.tup (r.map Fm.d))) ny
      have hy : up M4 y (.lst (giv.map fun r => D.tup (r.map Fm.d))) y = some (.lst (giv.map fun r => D.tup (r.map Fm.d))) := up_same
      have hk5 : up M4 y (.lst (giv.map fun r => D.tup (r.map Fm.d))) kA = some (.lst (bs.map natI)) := Ext.new ny _ _ hk
      generalize up M4 y (.lst (giv.map fun r => D.tup (r.map Fm.d))) = M5 at *
      have hp5 := e5 _ _ npb hpL
      have hR5 : RowsAt natI M5 p R := hp.extB noObj_nat hb e5
      clear hG hG1 hO hk hb4 e4
      try (simp only [↓e_seq, ↓e_next, ↓e_break, ↓e_cont, ↓e_expr, ↓e_ret, ↓e_retN, ↓e_if, ↓e_never, ↓e_asg, ↓e_name, ↓e_agtup, ↓e_agcons, ↓e_agnil, ↓e_agsub, ↓e_aug, ↓e_dput, ↓e_var, ↓e_c, ↓e_op, ↓e_some, ↓e_none, ↓e_test, ↓e_and, ↓e_or, ↓e_not, ↓e_yes, ↓e_truth,   ↓e_tru_bl, ↓e_tru_int, ↓e_tru_non, ↓e_tru_str, ↓e_tru_tup, ↓e_tru_obj, ↓e_chain, ↓e_orV, ↓e_andV, ↓e_notV, ↓e_ifE, ↓e_neg, ↓e_nil, ↓e_cons, ↓e_tup, ↓e_lst, ↓e_dnew, ↓e_call, ↓e_cb, ↓e_isi, ↓e_sl, ↓e_onone, ↓e_osome, ↓e_rev, ↓e_lm, ↓e_append, ↓e_extend, ↓e_pop, ↓e_join, ↓e_dget2, ↓e_sortSet, ↓e_sortS, ↓e_setd, strsOf_map, ↓e_maxI, ↓e_disp, ↓e_pairN, ↓e_pairC, intsOf_map, ↓e_for, ↓e_ilist, ↓e_itup, ↓e_rng1, ↓e_rng2, ↓e_lc, ↓e_lc2, e_lc2N, ↓e_ienum, ↓e_izip, ↓e_anyB, ↓e_allB, ↓e_mulS, blsOf_map, ↓e_set0, ↓e_sadd, ↓e_sortTx, ↓e_sortD, ↓e_repr, ↓e_extT, ↓e_sc2, ↓e_sortZ, ↓e_tupVals, ↓e_wget, ↓e_wix, ↓e_listZip, zipD_nil, zipD_cons, ↓e_dgetF, ↓e_idif, ↓e_isB, ↓e_sortI, ↓e_sortSetI, ↓e_tailR, ↓e_divmod, ↓e_strI, ↓e_lenD, ↓e_fmt, ↓e_fs2,   ↓e_add_int, ↓e_add_str, ↓e_add_tup, ↓e_add_obj, ↓e_iadd_int, ↓e_iadd_str, ↓e_iadd_obj, ↓e_I, ↓e_I0, ↓e_IS_int, ↓e_IS_str, ↓e_eq_str, ↓e_ne_str, ↓e_eq_int, ↓e_ne_int, ↓e_eq_bl, ↓e_ne_bl, ↓e_isN, ↓e_notN, ↓e_ix_tup, ↓e_ix_fl, ↓e_ix_str, ↓e_ix_obj, ↓e_in_tup, ↓e_nin_tup, ↓e_len_tup, ↓e_len_fl, ↓e_len_str, ↓e_len_obj, ↓e_int_int, ↓e_tuple_tup, ↓e_tuple_obj, ↓e_list_tup, ↓e_list_obj, ↓e_dget, ↓e_din, ↓e_dnin, ↓e_lstAt, ↓e_dicAt,   e_key_int, e_key_str, e_up, e_ty_str, e_ty_tup, e_ty_int, e_ty_bl, e_ty_non, atI0, atI1, atI2, atI3, atIL, ixN0, ixN1, cut_from1, e_ite_or, e_ite_and, zln, znl, zli, zil, zni, zin, sizeLine_eq, CMul, CDiv, cpow1018, true_or, or_true, kb_strstr, kb_tupstr, kb_tuptup, kb_strtup, kb_inttup, kb_bltup, kb_nontup, kb_strbl, kb_strint, kb_intbl, kb_intint, kb_blbl, kb_blint, kb_nonbl, kb_nonint, kb_nonstr, kb_intstr, kb_blstr, kb_tupbl, kb_tupint,   List.set_cons_zero, List.set_cons_succ, List.set_nil, List.getElem?_cons_zero, List.getElem?_cons_succ, List.getElem?_nil, List.length_cons, List.length_nil, List.length_map, List.length_append, e_lcN, e_lcC, e_forN, e_forC, List.getLast?_concat, List.dropLast_concat, List.nil_append, List.cons_append, List.append_nil, List.append_assoc, List.reverse_cons, List.reverse_nil, List.isEmpty_nil, List.isEmpty_cons, isEmpty_snoc, List.any_cons, List.any_nil, List.all_cons, List.all_nil, flatD, eqF, in_non, in_tup, in_str, in_int, in_bl, in_obj, in_fl, startA, List.map_cons, List.map_nil, List.replicate_succ, List.replicate_zero,   Nat.reduceAdd, Nat.reduceSub, Nat.reduceLeDiff, Nat.zero_add, Int.reduceLE, Int.reduceLT, Int.reduceToNat, Int.reducePow, Int.reduceNeg, Int.reduceAdd, Int.reduceSub,   Option.isSome_some, Option.isSome_none, Bool.not_true, Bool.not_false, Bool.not_eq_true', Bool.not_eq_eq_eq_not, Bool.not_eq_true, Bool.false_eq_true, Bool.true_eq_false, Bool.and_true, Bool.true_and, Bool.or_false, Bool.false_or, Bool.or_true, Bool.true_or, Bool.and_false, Bool.false_and, if_true, if_false, ite_true, ite_false, reduceIte, reduceCtorEq, decide_true, decide_false, decide_eq_true_eq, decide_eq_false_iff_not, true_and, and_true, false_and, and_false, eq_self, ne_eq, not_false_eq_true, not_true_eq_false, and_self, *])
      refine ⟨by omega, ?_⟩
      refine rows_tup hR5 hp5 (by show 14 < 15; decide) ?_
      intro y2 ny2
      have e6 : ExtB b M (up M5 y2 (.lst (R.map fun r => D.tup (r.map natI)))) := e5.trans (Ext.new ny2).b
      have hb6 := hb5.new (mo := .lst (R.map fun r => D.tup (r.map natI))) ny2
      have hy2 : up M5 y2 (.lst (R.map fun r => D.tup (r.map natI))) y2 = some (.lst (R.map fun r => D.tup (r.map natI))) := up_same
      have hk6 : up M5 y2 (.lst (R.map fun r => D.tup (r.map natI))) kA = some (.lst (bs.map natI)) := Ext.new ny2 _ _ hk5
      generalize up M5 y2 (.lst (R.map fun r => D.tup (r.map natI))) = M6 at *
      clear hp5 hR5 hk5 hb5 e5
      try (simp only [↓e_seq, ↓e_next, ↓e_break, ↓e_cont, ↓e_expr, ↓e_ret, ↓e_retN, ↓e_if, ↓e_never, ↓e_asg, ↓e_name, ↓e_agtup, ↓e_agcons, ↓e_agnil, ↓e_agsub, ↓e_aug, ↓e_dput, ↓e_var, ↓e_c, ↓e_op, ↓e_some, ↓e_none, ↓e_test, ↓e_and, ↓e_or, ↓e_not, ↓e_yes, ↓e_truth,   ↓e_tru_bl, ↓e_tru_int, ↓e_tru_non, ↓e_tru_str, ↓e_tru_tup, ↓e_tru_obj, ↓e_chain, ↓e_orV, ↓e_andV, ↓e_notV, ↓e_ifE, ↓e_neg, ↓e_nil, ↓e_cons, ↓e_tup, ↓e_lst, ↓e_dnew, ↓e_call, ↓e_cb, ↓e_isi, ↓e_sl, ↓e_onone, ↓e_osome, ↓e_rev, ↓e_lm, ↓e_append, ↓e_extend, ↓e_pop, ↓e_join, ↓e_dget2, ↓e_sortSet, ↓e_sortS, ↓e_setd, strsOf_map, ↓e_maxI, ↓e_disp, ↓e_pairN, ↓e_pairC, intsOf_map, ↓e_for, ↓e_ilist, ↓e_itup, ↓e_rng1, ↓e_rng2, ↓e_lc, ↓e_lc2, e_lc2N, ↓e_ienum, ↓e_izip, ↓e_anyB, ↓e_allB, ↓e_mulS, blsOf_map, ↓e_set0, ↓e_sadd, ↓e_sortTx, ↓e_sortD, ↓e_repr, ↓e_extT, ↓e_sc2, ↓e_sortZ, ↓e_tupVals, ↓e_wget, ↓e_wix, ↓e_listZip, zipD_nil, zipD_cons, ↓e_dgetF, ↓e_idif, ↓e_isB, ↓e_sortI, ↓e_sortSetI, ↓e_tailR, ↓e_divmod, ↓e_strI, ↓e_lenD, ↓e_fmt, ↓e_fs2,   ↓e_add_int, ↓e_add_str, ↓e_add_tup, ↓e_add_obj, ↓e_iadd_int, ↓e_iadd_str, ↓e_iadd_obj, ↓e_I, ↓e_I0, ↓e_IS_int, ↓e_IS_str, ↓e_eq_str, ↓e_ne_str, ↓e_eq_int, ↓e_ne_int, ↓e_eq_bl, ↓e_ne_bl, ↓e_isN, ↓e_notN, ↓e_ix_tup, ↓e_ix_fl, ↓e_ix_str, ↓e_ix_obj, ↓e_in_tup, ↓e_nin_tup, ↓e_len_tup, ↓e_len_fl, ↓e_len_str, ↓e_len_obj, ↓e_int_int, ↓e_tuple_tup, ↓e_tuple_obj, ↓e_list_tup, ↓e_list_obj, ↓e_dget, ↓e_din, ↓e_dnin, ↓e_lstAt, ↓e_dicAt,   e_key_int, e_key_str, e_up, e_ty_str, e_ty_tup, e_ty_int, e_ty_bl, e_ty_non, atI0, atI1, atI2, atI3, atIL, ixN0, ixN1, cut_from1, e_ite_or, e_ite_and, zln, znl, zli, zil, zni, zin, sizeLine_eq, CMul, CDiv, cpow1018, true_or, or_true, kb_strstr, kb_tupstr, kb_tuptup, kb_strtup, kb_inttup, kb_bltup, kb_nontup, kb_strbl, kb_strint, kb_intbl, kb_intint, kb_blbl, kb_blint, kb_nonbl, kb_nonint, kb_nonstr, kb_intstr, kb_blstr, kb_tupbl, kb_tupint,   List.set_cons_zero, List.set_cons_succ, List.set_nil, List.getElem?_cons_zero, List.getElem?_cons_succ, List.getElem?_nil, List.length_cons, List.length_nil, List.length_map, List.length_append, e_lcN, e_lcC, e_forN, e_forC, List.getLast?_concat, List.dropLast_concat, List.nil_append, List.cons_append, List.append_nil, List.append_assoc, List.reverse_cons, List.reverse_nil, List.isEmpty_nil, List.isEmpty_cons, isEmpty_snoc, List.any_cons, List.any_nil, List.all_cons, List.all_nil, flatD, eqF, in_non, in_tup, in_str, in_int, in_bl, in_obj, in_fl, startA, List.map_cons, List.map_nil, List.replicate_succ, List.replicate_zero,   Nat.reduceAdd, Nat.reduceSub, Nat.reduceLeDiff, Nat.zero_add, Int.reduceLE, Int.reduceLT, Int.reduceToNat, Int.reducePow, Int.reduceNeg, Int.reduceAdd, Int.reduceSub,   Option.isSome_some, Option.isSome_none, Bool.not_true, Bool.not_false, Bool.not_eq_true', Bool.not_eq_eq_eq_not, Bool.not_eq_true, Bool.false_eq_true, Bool.true_eq_false, Bool.and_true, Bool.true_and, Bool.or_false, Bool.false_or, Bool.or_true, Bool.true_or, Bool.and_false, Bool.false_and, if_true, if_false, ite_true, ite_false, reduceIte, reduceCtorEq, decide_true, decide_false, decide_eq_true_eq, decide_eq_false_iff_not, true_and, and_true, false_and, and_false, eq_self, ne_eq, not_false_eq_true, not_true_eq_false, and_self, *])
      refine ⟨bs.map fun k : Nat => (k : Int), by rw [List.map_map]; rfl, fun ys hperm hsort => ?_⟩
      have hys : ys = (ys.map Int.toNat).map fun k : Nat => (k : Int) := by
        rw [List.map_map]
        refine (List.map_id ys).symm.trans (List.map_congr_left fun y hy => ?_)
        obtain ⟨v, _, rfl⟩ := List.mem_map.mp (hperm.mem_iff.mp hy)
        rfl
      have hmem : ∀ v : Nat, v ∈ ys.map Int.toNat ↔ v ∈ bs := fun v => by
        constructor
        · intro h
          obtain ⟨y, hy, rfl⟩ := List.mem_map.mp h
          obtain ⟨u, hu, rfl⟩ := List.mem_map.mp (hperm.mem_iff.mp hy)
          exact hu
        · intro h
          exact List.mem_map.mpr ⟨(v : Int), hperm.mem_iff.mpr (List.mem_map.mpr ⟨v, h, rfl⟩), rfl⟩
      intro y3 ny3
      have e7 : ExtB b M (up M6 y3 (.lst (ys.map D.int))) := e6.trans (Ext.new ny3).b
      have hb7 := hb6.new (mo := .lst (ys.map D.int)) ny3
      have hy3 : up M6 y3 (.lst (ys.map D.int)) y3 = some (.lst (ys.map D.int)) := up_same
      generalize up M6 y3 (.lst (ys.map D.int)) = M7 at *
      have fin := q ⟨R, giv, ys.map Int.toNat⟩ M7 rfl ⟨fun r hr v hv => ?_, by rw [hgl, hRl], fun r hr g hg => gr_tiny r (hgr r hr) g hg⟩ ⟨fun u v x h1 h2 => ?_, fun u v h1 g hg => ?_, fun u v h1 h2 => ?_⟩ hb7 e7
      · have ed : (Mdl.mk R giv (ys.map Int.toNat)).d = .tup [.str z_model, .tup (R.map fun r => D.tup (r.map natI)), .tup (giv.map fun r => D.tup (r.map Fm.d)), .tup (ys.map D.int)] := by
          show D.tup [.str z_model, .tup (R.map natsD), .tup (giv.map fmsD), natsD (ys.map Int.toNat)] = _
          have e9 : natsD (ys.map Int.toNat) = .tup (ys.map D.int) := by
            show D.tup ((ys.map Int.toNat).map fun k : Nat => D.int (k : Int)) = _
            rw [show (fun k : Nat => D.int (k : Int)) = D.int ∘ fun k : Nat => (k : Int) from rfl, ← List.map_map, ← hys]
          rw [e9]
          rfl
        rw [ed] at fin
        clear q hys hmem hperm hsort
        try (simp only [↓e_seq, ↓e_next, ↓e_break, ↓e_cont, ↓e_expr, ↓e_ret, ↓e_retN, ↓e_if, ↓e_never, ↓e_asg, ↓e_name, ↓e_agtup, ↓e_agcons, ↓e_agnil, ↓e_agsub, ↓e_aug, ↓e_dput, ↓e_var, ↓e_c, ↓e_op, ↓e_some, ↓e_none, ↓e_test, ↓e_and, ↓e_or, ↓e_not, ↓e_yes, ↓e_truth,   ↓e_tru_bl, ↓e_tru_int, ↓e_tru_non, ↓e_tru_str, ↓e_tru_tup, ↓e_tru_obj, ↓e_chain, ↓e_orV, ↓e_andV, ↓e_notV, ↓e_ifE, ↓e_neg, ↓e_nil, ↓e_cons, ↓e_tup, ↓e_lst, ↓e_dnew, ↓e_call, ↓e_cb, ↓e_isi, ↓e_sl, ↓e_onone, ↓e_osome, ↓e_rev, ↓e_lm, ↓e_append, ↓e_extend, ↓e_pop, ↓e_join, ↓e_dget2, ↓e_sortSet, ↓e_sortS, ↓e_setd, strsOf_map, ↓e_maxI, ↓e_disp, ↓e_pairN, ↓e_pairC, intsOf_map, ↓e_for, ↓e_ilist, ↓e_itup, ↓e_rng1, ↓e_rng2, ↓e_lc, ↓e_lc2, e_lc2N, ↓e_ienum, ↓e_izip, ↓e_anyB, ↓e_allB, ↓e_mulS, blsOf_map, ↓e_set0, ↓e_sadd, ↓e_sortTx, ↓e_sortD, ↓e_repr, ↓e_extT, ↓e_sc2, ↓e_sortZ, ↓e_tupVals, ↓e_wget, ↓e_wix, ↓e_listZip, zipD_nil, zipD_cons, ↓e_dgetF, ↓e_idif, ↓e_isB, ↓e_sortI, ↓e_sortSetI, ↓e_tailR, ↓e_divmod, ↓e_strI, ↓e_lenD, ↓e_fmt, ↓e_fs2,   ↓e_add_int, ↓e_add_str, ↓e_add_tup, ↓e_add_obj, ↓e_iadd_int, ↓e_iadd_str, ↓e_iadd_obj, ↓e_I, ↓e_I0, ↓e_IS_int, ↓e_IS_str, ↓e_eq_str, ↓e_ne_str, ↓e_eq_int, ↓e_ne_int, ↓e_eq_bl, ↓e_ne_bl, ↓e_isN, ↓e_notN, ↓e_ix_tup, ↓e_ix_fl, ↓e_ix_str, ↓e_ix_obj, ↓e_in_tup, ↓e_nin_tup, ↓e_len_tup, ↓e_len_fl, ↓e_len_str, ↓e_len_obj, ↓e_int_int, ↓e_tuple_tup, ↓e_tuple_obj, ↓e_list_tup, ↓e_list_obj, ↓e_dget, ↓e_din, ↓e_dnin, ↓e_lstAt, ↓e_dicAt,   e_key_int, e_key_str, e_up, e_ty_str, e_ty_tup, e_ty_int, e_ty_bl, e_ty_non, atI0, atI1, atI2, atI3, atIL, ixN0, ixN1, cut_from1, e_ite_or, e_ite_and, zln, znl, zli, zil, zni, zin, sizeLine_eq, CMul, CDiv, cpow1018, true_or, or_true, kb_strstr, kb_tupstr, kb_tuptup, kb_strtup, kb_inttup, kb_bltup, kb_nontup, kb_strbl, kb_strint, kb_intbl, kb_intint, kb_blbl, kb_blint, kb_nonbl, kb_nonint, kb_nonstr, kb_intstr, kb_blstr, kb_tupbl, kb_tupint,   List.set_cons_zero, List.set_cons_succ, List.set_nil, List.getElem?_cons_zero, List.getElem?_cons_succ, List.getElem?_nil, List.length_cons, List.length_nil, List.length_map, List.length_append, e_lcN, e_lcC, e_forN, e_forC, List.getLast?_concat, List.dropLast_concat, List.nil_append, List.cons_append, List.append_nil, List.append_assoc, List.reverse_cons, List.reverse_nil, List.isEmpty_nil, List.isEmpty_cons, isEmpty_snoc, List.any_cons, List.any_nil, List.all_cons, List.all_nil, flatD, eqF, in_non, in_tup, in_str, in_int, in_bl, in_obj, in_fl, startA, List.map_cons, List.map_nil, List.replicate_succ, List.replicate_zero,   Nat.reduceAdd, Nat.reduceSub, Nat.reduceLeDiff, Nat.zero_add, Int.reduceLE, Int.reduceLT, Int.reduceToNat, Int.reducePow, Int.reduceNeg, Int.reduceAdd, Int.reduceSub,   Option.isSome_some, Option.isSome_none, Bool.not_true, Bool.not_false, Bool.not_eq_true', Bool.not_eq_eq_eq_not, Bool.not_eq_true, Bool.false_eq_true, Bool.true_eq_false, Bool.and_true, Bool.true_and, Bool.or_false, Bool.false_or, Bool.or_true, Bool.true_or, Bool.and_false, Bool.false_and, if_true, if_false, ite_true, ite_false, reduceIte, reduceCtorEq, decide_true, decide_false, decide_eq_true_eq, decide_eq_false_iff_not, true_and, and_true, false_and, and_false, eq_self, ne_eq, not_false_eq_true, not_true_eq_false, and_self, *])
      · obtain ⟨k, hk2, e⟩ := List.getElem_of_mem hr
        have z := (hRg k (by rw [← hRl]; exact hk2)).2 v (by rw [List.getD_eq_getElem?_getD, List.getElem?_eq_getElem hk2]; show v ∈ R[k]; rw [e]; exact hv)
        show v < R.length
        rw [hRl]
        exact z.1
      · by_cases hu : u < w
        · exact ((hRg u hu).2 v h1).2.2 x h2
        · have z : R.getD u [] = [] := by rw [List.getD_eq_getElem?_getD, List.getElem?_eq_none (by omega)]; rfl
          have h1 : v ∈ R.getD u [] := h1
          rw [z] at h1
          cases h1
      · by_cases hu : u < w
        · exact gm u hu v h1 g hg
        · have z : R.getD u [] = [] := by rw [List.getD_eq_getElem?_getD, List.getElem?_eq_none (by omega)]; rfl
          have h1 : v ∈ R.getD u [] := h1
          rw [z] at h1
          cases h1
      · by_cases hu : u < w
        · exact (hmem v).mpr (bm u hu v h1 ((hmem u).mp h2))
        · have z : R.getD u [] = [] := by rw [List.getD_eq_getElem?_getD, List.getElem?_eq_none (by omega)]; rfl
          have h1 : v ∈ R.getD u [] := h1
          rw [z] at h1
          cases h1
    · rintro y r N env M4 ⟨done, rest, giv, bs, x5, x7, hdr, hd, rfl, hG, hO, hgl, hgr, hk, bnd, blt, hb4, e4, gm, bm⟩ next
      cases rest with
      | nil => cases hd
      | cons u rest =>
        rw [List.map_cons] at hd
        injection hd with hd1 hd2
        subst hd1 hd2
        have hu2 : u = done.length ∧ u < w := by
          have z : (List.range w)[done.length]? = some u := by rw [hdr, List.getElem?_append_right (Nat.le_refl _), Nat.sub_self]; rfl
          obtain ⟨z1, z2⟩ := List.getElem?_eq_some_iff.mp z
          rw [List.getElem_range] at z2
          rw [List.length_range] at z1
          omega
        obtain ⟨hud, hu⟩ := hu2
        rw [← hud] at gm bm
        have hlen : done.length = u := hud.symm
        clear hud
        obtain ⟨aL, _, _, hatL, hML, _⟩ := hp.at hpL (w := u) (by omega)
        have naLb : aL ≠ b := row_ne_box noObj_nat hb hML
        have hp4 := e4 _ _ npb hpL
        have hML4 := e4 _ _ naLb hML
        try (simp only [↓e_seq, ↓e_next, ↓e_break, ↓e_cont, ↓e_expr, ↓e_ret, ↓e_retN, ↓e_if, ↓e_never, ↓e_asg, ↓e_name, ↓e_agtup, ↓e_agcons, ↓e_agnil, ↓e_agsub, ↓e_aug, ↓e_dput, ↓e_var, ↓e_c, ↓e_op, ↓e_some, ↓e_none, ↓e_test, ↓e_and, ↓e_or, ↓e_not, ↓e_yes, ↓e_truth,   ↓e_tru_bl, ↓e_tru_int, ↓e_tru_non, ↓e_tru_str, ↓e_tru_tup, ↓e_tru_obj, ↓e_chain, ↓e_orV, ↓e_andV, ↓e_notV, ↓e_ifE, ↓e_neg, ↓e_nil, ↓e_cons, ↓e_tup, ↓e_lst, ↓e_dnew, ↓e_call, ↓e_cb, ↓e_isi, ↓e_sl, ↓e_onone, ↓e_osome, ↓e_rev, ↓e_lm, ↓e_append, ↓e_extend, ↓e_pop, ↓e_join, ↓e_dget2, ↓e_sortSet, ↓e_sortS, ↓e_setd, strsOf_map, ↓e_maxI, ↓e_disp, ↓e_pairN, ↓e_pairC, intsOf_map, ↓e_for, ↓e_ilist, ↓e_itup, ↓e_rng1, ↓e_rng2, ↓e_lc, ↓e_lc2, e_lc2N, ↓e_ienum, ↓e_izip, ↓e_anyB, ↓e_allB, ↓e_mulS, blsOf_map, ↓e_set0, ↓e_sadd, ↓e_sortTx, ↓e_sortD, ↓e_repr, ↓e_extT, ↓e_sc2, ↓e_sortZ, ↓e_tupVals, ↓e_wget, ↓e_wix, ↓e_listZip, zipD_nil, zipD_cons, ↓e_dgetF, ↓e_idif, ↓e_isB, ↓e_sortI, ↓e_sortSetI, ↓e_tailR, ↓e_divmod, ↓e_strI, ↓e_lenD, ↓e_fmt, ↓e_fs2,   ↓e_add_int, ↓e_add_str, ↓e_add_tup, ↓e_add_obj, ↓e_iadd_int, ↓e_iadd_str, ↓e_iadd_obj, ↓e_I, ↓e_I0, ↓e_IS_int, ↓e_IS_str, ↓e_eq_str, ↓e_ne_str, ↓e_eq_int, ↓e_ne_int, ↓e_eq_bl, ↓e_ne_bl, ↓e_isN, ↓e_notN, ↓e_ix_tup, ↓e_ix_fl, ↓e_ix_str, ↓e_ix_obj, ↓e_in_tup, ↓e_nin_tup, ↓e_len_tup, ↓e_len_fl, ↓e_len_str, ↓e_len_obj, ↓e_int_int, ↓e_tuple_tup, ↓e_tuple_obj, ↓e_list_tup, ↓e_list_obj, ↓e_dget, ↓e_din, ↓e_dnin, ↓e_lstAt, ↓e_dicAt,   e_key_int, e_key_str, e_up, e_ty_str, e_ty_tup, e_ty_int, e_ty_bl, e_ty_non, atI0, atI1, atI2, atI3, atIL, ixN0, ixN1, cut_from1, e_ite_or, e_ite_and, zln, znl, zli, zil, zni, zin, sizeLine_eq, CMul, CDiv, cpow1018, true_or, or_true, kb_strstr, kb_tupstr, kb_tuptup, kb_strtup, kb_inttup, kb_bltup, kb_nontup, kb_strbl, kb_strint, kb_intbl, kb_intint, kb_blbl, kb_blint, kb_nonbl, kb_nonint, kb_nonstr, kb_intstr, kb_blstr, kb_tupbl, kb_tupint,   List.set_cons_zero, List.set_cons_succ, List.set_nil, List.getElem?_cons_zero, List.getElem?_cons_succ, List.getElem?_nil, List.length_cons, List.length_nil, List.length_map, List.length_append, e_lcN, e_lcC, e_forN, e_forC, List.getLast?_concat, List.dropLast_concat, List.nil_append, List.cons_append, List.append_nil, List.append_assoc, List.reverse_cons, List.reverse_nil, List.isEmpty_nil, List.isEmpty_cons, isEmpty_snoc, List.any_cons, List.any_nil, List.all_cons, List.all_nil, flatD, eqF, in_non, in_tup, in_str, in_int, in_bl, in_obj, in_fl, startA, List.map_cons, List.map_nil, List.replicate_succ, List.replicate_zero,   Nat.reduceAdd, Nat.reduceSub, Nat.reduceLeDiff, Nat.zero_add, Int.reduceLE, Int.reduceLT, Int.reduceToNat, Int.reducePow, Int.reduceNeg, Int.reduceAdd, Int.reduceSub,   Option.isSome_some, Option.isSome_none, Bool.not_true, Bool.not_false, Bool.not_eq_true', Bool.not_eq_eq_eq_not, Bool.not_eq_true, Bool.false_eq_true, Bool.true_eq_false, Bool.and_true, Bool.true_and, Bool.or_false, Bool.false_or, Bool.or_true, Bool.true_or, Bool.and_false, Bool.false_and, if_true, if_false, ite_true, ite_false, reduceIte, reduceCtorEq, decide_true, decide_false, decide_eq_true_eq, decide_eq_false_iff_not, true_and, and_true, false_and, and_false, eq_self, ne_eq, not_false_eq_true, not_true_eq_false, and_self, *])
        refine for_run (fun ds env M' => ∃ (dn rs : List Nat) (giv : List (List Fm)) (bs : List Nat) (x7 : Option D), R.getD u [] = dn ++ rs ∧ ds = rs.map natI ∧ env = [some (.obj b), st, some (.obj nm), some (.int (w : Int)), some (.obj p), some (.int (u : Int)), x6, x7, some (.obj qa), some (.obj gA), some (.obj kA), none, x12, x13, none] ∧ RowsAt Fm.d M' gA giv ∧ Off M' gA kA ∧ giv.length = w ∧ (∀ r ∈ giv, GR ats r) ∧ M' kA = some (.lst (bs.map natI)) ∧ bs.Nodup ∧ (∀ v ∈ bs, v < w) ∧ BoxAt M' b d ∧ ExtB b M M' ∧ Rnd R giv bs u dn) ?_ ?_ ?_
          ⟨[], R.getD u [], giv, bs, x7, rfl, rfl, rfl, hG, hO, hgl, hgr, hk, bnd, blt, hb4, e4, gm, bm, (fun v hv => absurd hv (List.not_mem_nil)), (fun v hv => absurd hv (List.not_mem_nil))⟩
        · rintro ds env M' ⟨_, _, _, _, _, _, _, _, _, _, _, _, _, _, _, _, e, _⟩
          exact e _ _ naLb hML
        · rintro env M5 ⟨dn, rs, giv, bs, x7, hR, hd, rfl, hG, hO, hgl, hgr, hk, bnd, blt, hb5, e5, rd⟩
          have z := List.map_eq_nil_iff.mp hd.symm
          subst z
          rw [List.append_nil] at hR
          rw [← hR] at rd
          obtain ⟨g1, g2⟩ := rd.done
          refine next _ _ ⟨done ++ [u], rest, giv, bs, _, _, by rw [hdr, List.append_assoc]; rfl, rfl, rfl, hG, hO, hgl, hgr, hk, bnd, blt, hb5, e5, ?_, ?_⟩
          · rw [List.length_append, List.length_singleton, hlen]; exact g1
          · rw [List.length_append, List.length_singleton, hlen]; exact g2
        · rintro y r N2 env M5 ⟨dn, rs, giv, bs, x7, hR, hd, rfl, hG, hO, hgl, hgr, hk, bnd, blt, hb5, e5, rd⟩ next2
          cases rs with
          | nil => cases hd
          | cons v rs =>
            rw [List.map_cons] at hd
            injection hd with hd1 hd2
            subst hd1 hd2
            have hvR : v ∈ R.getD u [] := by rw [hR]; exact List.mem_append_right _ List.mem_cons_self
            obtain ⟨hvw, huv, _⟩ := (hRg u hu).2 v hvR
            obtain ⟨asG, hG1, hGl, _⟩ := _root_.id hG
            obtain ⟨av, _, _, hatv, hMv, nvg⟩ := hG.at hG1 (w := v) (by omega)
            obtain ⟨au, _, _, hatu, hMu, nug⟩ := hG.at hG1 (w := u) (by omega)
            have lv := gr_len _ (GR.getD hgr v)
            have lu := gr_len _ (GR.getD hgr u)
            have lf := List.length_filter_le (fun g => !decide (g ∈ giv.getD v [])) (giv.getD u [])
            have step := rd.step (v := v) (by omega) huv
            have hset := fun x M (h : RowsAt Fm.d M gA giv) (e : M gA = some (.lst (asG.map D.obj))) (hx : M x = some (.lst ((giv.getD v [] ++ (giv.getD u []).filter fun g => !decide (g ∈ giv.getD v [])).map Fm.d))) (nx : x ≠ gA) => h.put (w := v) e hx nx (by omega)
            have hgr2 := addG_gr (w := u) (v := v) hgr
            have hbl : bs.length ≤ w := by
              have z := nodup_le (ys := List.range w) bnd fun v hv => List.mem_range.mpr (blt v hv)
              rw [List.length_range] at z
              exact z
            try (simp only [↓e_seq, ↓e_next, ↓e_break, ↓e_cont, ↓e_expr, ↓e_ret, ↓e_retN, ↓e_if, ↓e_never, ↓e_asg, ↓e_name, ↓e_agtup, ↓e_agcons, ↓e_agnil, ↓e_agsub, ↓e_aug, ↓e_dput, ↓e_var, ↓e_c, ↓e_op, ↓e_some, ↓e_none, ↓e_test, ↓e_and, ↓e_or, ↓e_not, ↓e_yes, ↓e_truth,   ↓e_tru_bl, ↓e_tru_int, ↓e_tru_non, ↓e_tru_str, ↓e_tru_tup, ↓e_tru_obj, ↓e_chain, ↓e_orV, ↓e_andV, ↓e_notV, ↓e_ifE, ↓e_neg, ↓e_nil, ↓e_cons, ↓e_tup, ↓e_lst, ↓e_dnew, ↓e_call, ↓e_cb, ↓e_isi, ↓e_sl, ↓e_onone, ↓e_osome, ↓e_rev, ↓e_lm, ↓e_append, ↓e_extend, ↓e_pop, ↓e_join, ↓e_dget2, ↓e_sortSet, ↓e_sortS, ↓e_setd, strsOf_map, ↓e_maxI, ↓e_disp, ↓e_pairN, ↓e_pairC, intsOf_map, ↓e_for, ↓e_ilist, ↓e_itup, ↓e_rng1, ↓e_rng2, ↓e_lc, ↓e_lc2, e_lc2N, ↓e_ienum, ↓e_izip, ↓e_anyB, ↓e_allB, ↓e_mulS, blsOf_map, ↓e_set0, ↓e_sadd, ↓e_sortTx, ↓e_sortD, ↓e_repr, ↓e_extT, ↓e_sc2, ↓e_sortZ, ↓e_tupVals, ↓e_wget, ↓e_wix, ↓e_listZip, zipD_nil, zipD_cons, ↓e_dgetF, ↓e_idif, ↓e_isB, ↓e_sortI, ↓e_sortSetI, ↓e_tailR, ↓e_divmod, ↓e_strI, ↓e_lenD, ↓e_fmt, ↓e_fs2,   ↓e_add_int, ↓e_add_str, ↓e_add_tup, ↓e_add_obj, ↓e_iadd_int, ↓e_iadd_str, ↓e_iadd_obj, ↓e_I, ↓e_I0, ↓e_IS_int, ↓e_IS_str, ↓e_eq_str, ↓e_ne_str, ↓e_eq_int, ↓e_ne_int, ↓e_eq_bl, ↓e_ne_bl, ↓e_isN, ↓e_notN, ↓e_ix_tup, ↓e_ix_fl, ↓e_ix_str, ↓e_ix_obj, ↓e_in_tup, ↓e_nin_tup, ↓e_len_tup, ↓e_len_fl, ↓e_len_str, ↓e_len_obj, ↓e_int_int, ↓e_tuple_tup, ↓e_tuple_obj, ↓e_list_tup, ↓e_list_obj, ↓e_dget, ↓e_din, ↓e_dnin, ↓e_lstAt, ↓e_dicAt,   e_key_int, e_key_str, e_up, e_ty_str, e_ty_tup, e_ty_int, e_ty_bl, e_ty_non, atI0, atI1, atI2, atI3, atIL, ixN0, ixN1, cut_from1, e_ite_or, e_ite_and, zln, znl, zli, zil, zni, zin, sizeLine_eq, CMul, CDiv, cpow1018, true_or, or_true, kb_strstr, kb_tupstr, kb_tuptup, kb_strtup, kb_inttup, kb_bltup, kb_nontup, kb_strbl, kb_strint, kb_intbl, kb_intint, kb_blbl, kb_blint, kb_nonbl, kb_nonint, kb_nonstr, kb_intstr, kb_blstr, kb_tupbl, kb_tupint,   List.set_cons_zero, List.set_cons_succ, List.set_nil, List.getElem?_cons_zero, List.getElem?_cons_succ, List.getElem?_nil, List.length_cons, List.length_nil, List.length_map, List.length_append, e_lcN, e_lcC, e_forN, e_forC, List.getLast?_concat, List.dropLast_concat, List.nil_append, List.cons_append, List.append_nil, List.append_assoc, List.reverse_cons, List.reverse_nil, List.isEmpty_nil, List.isEmpty_cons, isEmpty_snoc, List.any_cons, List.any_nil, List.all_cons, List.all_nil, flatD, eqF, in_non, in_tup, in_str, in_int, in_bl, in_obj, in_fl, startA, List.map_cons, List.map_nil, List.replicate_succ, List.replicate_zero,   Nat.reduceAdd, Nat.reduceSub, Nat.reduceLeDiff, Nat.zero_add, Int.reduceLE, Int.reduceLT, Int.reduceToNat, Int.reducePow, Int.reduceNeg, Int.reduceAdd, Int.reduceSub,   Option.isSome_some, Option.isSome_none, Bool.not_true, Bool.not_false, Bool.not_eq_true', Bool.not_eq_eq_eq_not, Bool.not_eq_true, Bool.false_eq_true, Bool.true_eq_false, Bool.and_true, Bool.true_and, Bool.or_false, Bool.false_or, Bool.or_true, Bool.true_or, Bool.and_false, Bool.false_and, if_true, if_false, ite_true, ite_false, reduceIte, reduceCtorEq, decide_true, decide_false, decide_eq_true_eq, decide_eq_false_iff_not, true_and, and_true, false_and, and_false, eq_self, ne_eq, not_false_eq_true, not_true_eq_false, and_self, *])
            refine ⟨by omega, ?_⟩
            refine filter_lc hMv hMu (gr_tiny _ (GR.getD hgr v)) (gr_tiny _ (GR.getD hgr u)) (by show 13 < 15; decide) (fun x Q' hq' => ?_) ?_
            · clear next next2 hset step
              try (simp only [↓e_seq, ↓e_next, ↓e_break, ↓e_cont, ↓e_expr, ↓e_ret, ↓e_retN, ↓e_if, ↓e_never, ↓e_asg, ↓e_name, ↓e_agtup, ↓e_agcons, ↓e_agnil, ↓e_agsub, ↓e_aug, ↓e_dput, ↓e_var, ↓e_c, ↓e_op, ↓e_some, ↓e_none, ↓e_test, ↓e_and, ↓e_or, ↓e_not, ↓e_yes, ↓e_truth,   ↓e_tru_bl, ↓e_tru_int, ↓e_tru_non, ↓e_tru_str, ↓e_tru_tup, ↓e_tru_obj, ↓e_chain, ↓e_orV, ↓e_andV, ↓e_notV, ↓e_ifE, ↓e_neg, ↓e_nil, ↓e_cons, ↓e_tup, ↓e_lst, ↓e_dnew, ↓e_call, ↓e_cb, ↓e_isi, ↓e_sl, ↓e_onone, ↓e_osome, ↓e_rev, ↓e_lm, ↓e_append, ↓e_extend, ↓e_pop, ↓e_join, ↓e_dget2, ↓e_sortSet, ↓e_sortS, ↓e_setd, strsOf_map, ↓e_maxI, ↓e_disp, ↓e_pairN, ↓e_pairC, intsOf_map, ↓e_for, ↓e_ilist, ↓e_itup, ↓e_rng1, ↓e_rng2, ↓e_lc, ↓e_lc2, e_lc2N, ↓e_ienum, ↓e_izip, ↓e_anyB, ↓e_allB, ↓e_mulS, blsOf_map, ↓e_set0, ↓e_sadd, ↓e_sortTx, ↓e_sortD, ↓e_repr, ↓e_extT, ↓e_sc2, ↓e_sortZ, ↓e_tupVals, ↓e_wget, ↓e_wix, ↓e_listZip, zipD_nil, zipD_cons, ↓e_dgetF, ↓e_idif, ↓e_isB, ↓e_sortI, ↓e_sortSetI, ↓e_tailR, ↓e_divmod, ↓e_strI, ↓e_lenD, ↓e_fmt, ↓e_fs2,   ↓e_add_int, ↓e_add_str, ↓e_add_tup, ↓e_add_obj, ↓e_iadd_int, ↓e_iadd_str, ↓e_iadd_obj, ↓e_I, ↓e_I0, ↓e_IS_int, ↓e_IS_str, ↓e_eq_str, ↓e_ne_str, ↓e_eq_int, ↓e_ne_int, ↓e_eq_bl, ↓e_ne_bl, ↓e_isN, ↓e_notN, ↓e_ix_tup, ↓e_ix_fl, ↓e_ix_str, ↓e_ix_obj, ↓e_in_tup, ↓e_nin_tup, ↓e_len_tup, ↓e_len_fl, ↓e_len_str, ↓e_len_obj, ↓e_int_int, ↓e_tuple_tup, ↓e_tuple_obj, ↓e_list_tup, ↓e_list_obj, ↓e_dget, ↓e_din, ↓e_dnin, ↓e_lstAt, ↓e_dicAt,   e_key_int, e_key_str, e_up, e_ty_str, e_ty_tup, e_ty_int, e_ty_bl, e_ty_non, atI0, atI1, atI2, atI3, atIL, ixN0, ixN1, cut_from1, e_ite_or, e_ite_and, zln, znl, zli, zil, zni, zin, sizeLine_eq, CMul, CDiv, cpow1018, true_or, or_true, kb_strstr, kb_tupstr, kb_tuptup, kb_strtup, kb_inttup, kb_bltup, kb_nontup, kb_strbl, kb_strint, kb_intbl, kb_intint, kb_blbl, kb_blint, kb_nonbl, kb_nonint, kb_nonstr, kb_intstr, kb_blstr, kb_tupbl, kb_tupint,   List.set_cons_zero, List.set_cons_succ, List.set_nil, List.getElem?_cons_zero, List.getElem?_cons_succ, List.getElem?_nil, List.length_cons, List.length_nil, List.length_map, List.length_append, e_lcN, e_lcC, e_forN, e_forC, List.getLast?_concat, List.dropLast_concat, List.nil_append, List.cons_append, List.append_nil, List.append_assoc, List.reverse_cons, List.reverse_nil, List.isEmpty_nil, List.isEmpty_cons, isEmpty_snoc, List.any_cons, List.any_nil, List.all_cons, List.all_nil, flatD, eqF, in_non, in_tup, in_str, in_int, in_bl, in_obj, in_fl, startA, List.map_cons, List.map_nil, List.replicate_succ, List.replicate_zero,   Nat.reduceAdd, Nat.reduceSub, Nat.reduceLeDiff, Nat.zero_add, Int.reduceLE, Int.reduceLT, Int.reduceToNat, Int.reducePow, Int.reduceNeg, Int.reduceAdd, Int.reduceSub,   Option.isSome_some, Option.isSome_none, Bool.not_true, Bool.not_false, Bool.not_eq_true', Bool.not_eq_eq_eq_not, Bool.not_eq_true, Bool.false_eq_true, Bool.true_eq_false, Bool.and_true, Bool.true_and, Bool.or_false, Bool.false_or, Bool.or_true, Bool.true_or, Bool.and_false, Bool.false_and, if_true, if_false, ite_true, ite_false, reduceIte, reduceCtorEq, decide_true, decide_false, decide_eq_true_eq, decide_eq_false_iff_not, true_and, and_true, false_and, and_false, eq_self, ne_eq, not_false_eq_true, not_true_eq_false, and_self, *])
            intro x nx
            have nxg : x ≠ gA := (fresh_ne nx hG1).symm
            have nvx : av ≠ x := fresh_ne nx hMv
            have eX := Ext.new (mo := .lst (((giv.getD u []).filter fun g => !decide (g ∈ giv.getD v [])).map Fm.d)) nx
            have hx6 : up M5 x (.lst (((giv.getD u []).filter fun g => !decide (g ∈ giv.getD v [])).map Fm.d)) x = some (.lst (((giv.getD u []).filter fun g => !decide (g ∈ giv.getD v [])).map Fm.d)) := up_same
            generalize up M5 x (.lst (((giv.getD u []).filter fun g => !decide (g ∈ giv.getD v [])).map Fm.d)) = M6 at *
            have hG6 := hG.ext eX
            have hG16 := eX _ _ hG1
            have hk6 := eX _ _ hk
            have hMv6 := eX _ _ hMv
            have hO6 : Off M6 gA kA := hO.same (by rw [hG16, hG1])
            have hb6 := hb5.ext eX
            have e6 := e5.trans eX.b
            generalize hF : (giv.getD u []).filter (fun g => !decide (g ∈ giv.getD v [])) = F at *
            generalize hV : giv.getD v [] = V at *
            clear hG hG1 hk hMv hO hb5 e5 hMu nx eX hp4 hML4
            try (simp only [↓e_seq, ↓e_next, ↓e_break, ↓e_cont, ↓e_expr, ↓e_ret, ↓e_retN, ↓e_if, ↓e_never, ↓e_asg, ↓e_name, ↓e_agtup, ↓e_agcons, ↓e_agnil, ↓e_agsub, ↓e_aug, ↓e_dput, ↓e_var, ↓e_c, ↓e_op, ↓e_some, ↓e_none, ↓e_test, ↓e_and, ↓e_or, ↓e_not, ↓e_yes, ↓e_truth,   ↓e_tru_bl, ↓e_tru_int, ↓e_tru_non, ↓e_tru_str, ↓e_tru_tup, ↓e_tru_obj, ↓e_chain, ↓e_orV, ↓e_andV, ↓e_notV, ↓e_ifE, ↓e_neg, ↓e_nil, ↓e_cons, ↓e_tup, ↓e_lst, ↓e_dnew, ↓e_call, ↓e_cb, ↓e_isi, ↓e_sl, ↓e_onone, ↓e_osome, ↓e_rev, ↓e_lm, ↓e_append, ↓e_extend, ↓e_pop, ↓e_join, ↓e_dget2, ↓e_sortSet, ↓e_sortS, ↓e_setd, strsOf_map, ↓e_maxI, ↓e_disp, ↓e_pairN, ↓e_pairC, intsOf_map, ↓e_for, ↓e_ilist, ↓e_itup, ↓e_rng1, ↓e_rng2, ↓e_lc, ↓e_lc2, e_lc2N, ↓e_ienum, ↓e_izip, ↓e_anyB, ↓e_allB, ↓e_mulS, blsOf_map, ↓e_set0, ↓e_sadd, ↓e_sortTx, ↓e_sortD, ↓e_repr, ↓e_extT, ↓e_sc2, ↓e_sortZ, ↓e_tupVals, ↓e_wget, ↓e_wix, ↓e_listZip, zipD_nil, zipD_cons, ↓e_dgetF, ↓e_idif, ↓e_isB, ↓e_sortI, ↓e_sortSetI, ↓e_tailR, ↓e_divmod, ↓e_strI, ↓e_lenD, ↓e_fmt, ↓e_fs2,   ↓e_add_int, ↓e_add_str, ↓e_add_tup, ↓e_add_obj, ↓e_iadd_int, ↓e_iadd_str, ↓e_iadd_obj, ↓e_I, ↓e_I0, ↓e_IS_int, ↓e_IS_str, ↓e_eq_str, ↓e_ne_str, ↓e_eq_int, ↓e_ne_int, ↓e_eq_bl, ↓e_ne_bl, ↓e_isN, ↓e_notN, ↓e_ix_tup, ↓e_ix_fl, ↓e_ix_str, ↓e_ix_obj, ↓e_in_tup, ↓e_nin_tup, ↓e_len_tup, ↓e_len_fl, ↓e_len_str, ↓e_len_obj, ↓e_int_int, ↓e_tuple_tup, ↓e_tuple_obj, ↓e_list_tup, ↓e_list_obj, ↓e_dget, ↓e_din, ↓e_dnin, ↓e_lstAt, ↓e_dicAt,   e_key_int, e_key_str, e_up, e_ty_str, e_ty_tup, e_ty_int, e_ty_bl, e_ty_non, atI0, atI1, atI2, atI3, atIL, ixN0, ixN1, cut_from1, e_ite_or, e_ite_and, zln, znl, zli, zil, zni, zin, sizeLine_eq, CMul, CDiv, cpow1018, true_or, or_true, kb_strstr, kb_tupstr, kb_tuptup, kb_strtup, kb_inttup, kb_bltup, kb_nontup, kb_strbl, kb_strint, kb_intbl, kb_intint, kb_blbl, kb_blint, kb_nonbl, kb_nonint, kb_nonstr, kb_intstr, kb_blstr, kb_tupbl, kb_tupint,   List.set_cons_zero, List.set_cons_succ, List.set_nil, List.getElem?_cons_zero, List.getElem?_cons_succ, List.getElem?_nil, List.length_cons, List.length_nil, List.length_map, List.length_append, e_lcN, e_lcC, e_forN, e_forC, List.getLast?_concat, List.dropLast_concat, List.nil_append, List.cons_append, List.append_nil, List.append_assoc, List.reverse_cons, List.reverse_nil, List.isEmpty_nil, List.isEmpty_cons, isEmpty_snoc, List.any_cons, List.any_nil, List.all_cons, List.all_nil, flatD, eqF, in_non, in_tup, in_str, in_int, in_bl, in_obj, in_fl, startA, List.map_cons, List.map_nil, List.replicate_succ, List.replicate_zero,   Nat.reduceAdd, Nat.reduceSub, Nat.reduceLeDiff, Nat.zero_add, Int.reduceLE, Int.reduceLT, Int.reduceToNat, Int.reducePow, Int.reduceNeg, Int.reduceAdd, Int.reduceSub,   Option.isSome_some, Option.isSome_none, Bool.not_true, Bool.not_false, Bool.not_eq_true', Bool.not_eq_eq_eq_not, Bool.not_eq_true, Bool.false_eq_true, Bool.true_eq_false, Bool.and_true, Bool.true_and, Bool.or_false, Bool.false_or, Bool.or_true, Bool.true_or, Bool.and_false, Bool.false_and, if_true, if_false, ite_true, ite_false, reduceIte, reduceCtorEq, decide_true, decide_false, decide_eq_true_eq, decide_eq_false_iff_not, true_and, and_true, false_and, and_false, eq_self, ne_eq, not_false_eq_true, not_true_eq_false, and_self, *])
            refine ⟨by omega, ?_⟩
            intro y ny
            have nyg : y ≠ gA := (fresh_ne ny hG16).symm
            have nyk : y ≠ kA := (fresh_ne ny hk6).symm
            have eY := Ext.new (mo := .lst (V.map Fm.d ++ F.map Fm.d)) ny
            have hy7 : up M6 y (.lst (V.map Fm.d ++ F.map Fm.d)) y = some (.lst ((V ++ F).map Fm.d)) := by rw [up_same, List.map_append]
            generalize up M6 y (.lst (V.map Fm.d ++ F.map Fm.d)) = M7 at *
            have hG7 := hG6.ext eY
            have hG17 := eY _ _ hG16
            have hk7 := eY _ _ hk6
            have hO7 : Off M7 gA kA := hO6.same (by rw [hG17, hG16])
            have hb7 := hb6.ext eY
            have e7 := e6.trans eY.b
            have hix : ixN w (v : Int) = some v := ixN_nat hvw
            clear hG6 hG16 hk6 hO6 hb6 e6 hx6 hMv6 ny eY
            have hG8 := hset y M7 hG7 hG17 hy7 nyg
            have hO8 := hO7.put (w := v) hG17 nyk
            have hk8 : up M7 gA (.lst ((asG.map D.obj).set v (.obj y))) kA = some (.lst (bs.map natI)) := by rw [up_ne nkg]; exact hk7
            have hb8 := hb7.upd (mo := .lst ((asG.map D.obj).set v (.obj y))) nbg2 hdg.1
            have e8 : ExtB b M (up M7 gA (.lst ((asG.map D.obj).set v (.obj y)))) := ExtB.up0 ng e7
            have haddG : addG giv u v = giv.set v (V ++ F) := by unfold addG; rw [hV, hF]
            rw [haddG] at step hgr2
            clear hset
            try (simp only [↓e_seq, ↓e_next, ↓e_break, ↓e_cont, ↓e_expr, ↓e_ret, ↓e_retN, ↓e_if, ↓e_never, ↓e_asg, ↓e_name, ↓e_agtup, ↓e_agcons, ↓e_agnil, ↓e_agsub, ↓e_aug, ↓e_dput, ↓e_var, ↓e_c, ↓e_op, ↓e_some, ↓e_none, ↓e_test, ↓e_and, ↓e_or, ↓e_not, ↓e_yes, ↓e_truth,   ↓e_tru_bl, ↓e_tru_int, ↓e_tru_non, ↓e_tru_str, ↓e_tru_tup, ↓e_tru_obj, ↓e_chain, ↓e_orV, ↓e_andV, ↓e_notV, ↓e_ifE, ↓e_neg, ↓e_nil, ↓e_cons, ↓e_tup, ↓e_lst, ↓e_dnew, ↓e_call, ↓e_cb, ↓e_isi, ↓e_sl, ↓e_onone, ↓e_osome, ↓e_rev, ↓e_lm, ↓e_append, ↓e_extend, ↓e_pop, ↓e_join, ↓e_dget2, ↓e_sortSet, ↓e_sortS, ↓e_setd, strsOf_map, ↓e_maxI, ↓e_disp, ↓e_pairN, ↓e_pairC, intsOf_map, ↓e_for, ↓e_ilist, ↓e_itup, ↓e_rng1, ↓e_rng2, ↓e_lc, ↓e_lc2, e_lc2N, ↓e_ienum, ↓e_izip, ↓e_anyB, ↓e_allB, ↓e_mulS, blsOf_map, ↓e_set0, ↓e_sadd, ↓e_sortTx, ↓e_sortD, ↓e_repr, ↓e_extT, ↓e_sc2, ↓e_sortZ, ↓e_tupVals, ↓e_wget, ↓e_wix, ↓e_listZip, zipD_nil, zipD_cons, ↓e_dgetF, ↓e_idif, ↓e_isB, ↓e_sortI, ↓e_sortSetI, ↓e_tailR, ↓e_divmod, ↓e_strI, ↓e_lenD, ↓e_fmt, ↓e_fs2,   ↓e_add_int, ↓e_add_str, ↓e_add_tup, ↓e_add_obj, ↓e_iadd_int, ↓e_iadd_str, ↓e_iadd_obj, ↓e_I, ↓e_I0, ↓e_IS_int, ↓e_IS_str, ↓e_eq_str, ↓e_ne_str, ↓e_eq_int, ↓e_ne_int, ↓e_eq_bl, ↓e_ne_bl, ↓e_isN, ↓e_notN, ↓e_ix_tup, ↓e_ix_fl, ↓e_ix_str, ↓e_ix_obj, ↓e_in_tup, ↓e_nin_tup, ↓e_len_tup, ↓e_len_fl, ↓e_len_str, ↓e_len_obj, ↓e_int_int, ↓e_tuple_tup, ↓e_tuple_obj, ↓e_list_tup, ↓e_list_obj, ↓e_dget, ↓e_din, ↓e_dnin, ↓e_lstAt, ↓e_dicAt,   e_key_int, e_key_str, e_up, e_ty_str, e_ty_tup, e_ty_int, e_ty_bl, e_ty_non, atI0, atI1, atI2, atI3, atIL, ixN0, ixN1, cut_from1, e_ite_or, e_ite_and, zln, znl, zli, zil, zni, zin, sizeLine_eq, CMul, CDiv, cpow1018, true_or, or_true, kb_strstr, kb_tupstr, kb_tuptup, kb_strtup, kb_inttup, kb_bltup, kb_nontup, kb_strbl, kb_strint, kb_intbl, kb_intint, kb_blbl, kb_blint, kb_nonbl, kb_nonint, kb_nonstr, kb_intstr, kb_blstr, kb_tupbl, kb_tupint,   List.set_cons_zero, List.set_cons_succ, List.set_nil, List.getElem?_cons_zero, List.getElem?_cons_succ, List.getElem?_nil, List.length_cons, List.length_nil, List.length_map, List.length_append, e_lcN, e_lcC, e_forN, e_forC, List.getLast?_concat, List.dropLast_concat, List.nil_append, List.cons_append, List.append_nil, List.append_assoc, List.reverse_cons, List.reverse_nil, List.isEmpty_nil, List.isEmpty_cons, isEmpty_snoc, List.any_cons, List.any_nil, List.all_cons, List.all_nil, flatD, eqF, in_non, in_tup, in_str, in_int, in_bl, in_obj, in_fl, startA, List.map_cons, List.map_nil, List.replicate_succ, List.replicate_zero,   Nat.reduceAdd, Nat.reduceSub, Nat.reduceLeDiff, Nat.zero_add, Int.reduceLE, Int.reduceLT, Int.reduceToNat, Int.reducePow, Int.reduceNeg, Int.reduceAdd, Int.reduceSub,   Option.isSome_some, Option.isSome_none, Bool.not_true, Bool.not_false, Bool.not_eq_true', Bool.not_eq_eq_eq_not, Bool.not_eq_true, Bool.false_eq_true, Bool.true_eq_false, Bool.and_true, Bool.true_and, Bool.or_false, Bool.false_or, Bool.or_true, Bool.true_or, Bool.and_false, Bool.false_and, if_true, if_false, ite_true, ite_false, reduceIte, reduceCtorEq, decide_true, decide_false, decide_eq_true_eq, decide_eq_false_iff_not, true_and, and_true, false_and, and_false, eq_self, ne_eq, not_false_eq_true, not_true_eq_false, and_self, *])
            generalize up M7 gA (.lst ((asG.map D.obj).set v (.obj y))) = M8 at *
            have hgl8 : (giv.set v (V ++ F)).length = w := by rw [List.length_set]; exact hgl
            have n1 := fun (c : u ∈ bs ∧ v ∉ bs) => next2 [some (.obj b), st, some (.obj nm), some (.int (w : Int)), some (.obj p), some (.int (u : Int)), x6, some (.int (v : Int)), some (.obj qa), some (.obj gA), some (.obj kA), none, x12, x13, none] (up M8 kA (.lst (bs.map natI ++ [.int (v : Int)]))) ⟨dn ++ [v], rs, giv.set v (V ++ F), bs ++ [v], _, by rw [hR, List.append_assoc]; rfl, rfl, rfl, hG8.off ngk hO8, hO8.same (by rw [up_ne ngk]), hgl8, hgr2, by rw [up_same, List.map_append]; rfl,
              List.nodup_append.mpr ⟨bnd, List.pairwise_singleton _ v, fun a ha k hk e => by rw [List.mem_singleton.mp hk] at e; rw [e] at ha; exact c.2 ha⟩, fun x hx => (List.mem_append.mp hx).elim (blt x) fun z => by rw [List.mem_singleton.mp z]; exact hvw, hb8.upd nbk2 hdg.2, ExtB.up0 nk0 e8, by have z := step; unfold addB at z; rw [if_pos c] at z; exact z⟩
            have n2 := fun (c : ¬ (u ∈ bs ∧ v ∉ bs)) => next2 [some (.obj b), st, some (.obj nm), some (.int (w : Int)), some (.obj p), some (.int (u : Int)), x6, some (.int (v : Int)), some (.obj qa), some (.obj gA), some (.obj kA), none, x12, x13, none] M8 ⟨dn ++ [v], rs, giv.set v (V ++ F), bs, _, by rw [hR, List.append_assoc]; rfl, rfl, rfl, hG8, hO8, hgl8, hgr2, hk8, bnd, blt, hb8, e8, by have z := step; unfold addB at z; rw [if_neg c] at z; exact z⟩
            clear next next2 step hgr2 hG7 hG8 hO7 hO8 hG17 hk7
            refine in_nats hk8 ?_
            by_cases c1 : u ∈ bs
            · have d1 : decide (u ∈ bs) = true := decide_eq_true c1
              try (simp only [↓e_seq, ↓e_next, ↓e_break, ↓e_cont, ↓e_expr, ↓e_ret, ↓e_retN, ↓e_if, ↓e_never, ↓e_asg, ↓e_name, ↓e_agtup, ↓e_agcons, ↓e_agnil, ↓e_agsub, ↓e_aug, ↓e_dput, ↓e_var, ↓e_c, ↓e_op, ↓e_some, ↓e_none, ↓e_test, ↓e_and, ↓e_or, ↓e_not, ↓e_yes, ↓e_truth,   ↓e_tru_bl, ↓e_tru_int, ↓e_tru_non, ↓e_tru_str, ↓e_tru_tup, ↓e_tru_obj, ↓e_chain, ↓e_orV, ↓e_andV, ↓e_notV, ↓e_ifE, ↓e_neg, ↓e_nil, ↓e_cons, ↓e_tup, ↓e_lst, ↓e_dnew, ↓e_call, ↓e_cb, ↓e_isi, ↓e_sl, ↓e_onone, ↓e_osome, ↓e_rev, ↓e_lm, ↓e_append, ↓e_extend, ↓e_pop, ↓e_join, ↓e_dget2, ↓e_sortSet, ↓e_sortS, ↓e_setd, strsOf_map, ↓e_maxI, ↓e_disp, ↓e_pairN, ↓e_pairC, intsOf_map, ↓e_for, ↓e_ilist, ↓e_itup, ↓e_rng1, ↓e_rng2, ↓e_lc, ↓e_lc2, e_lc2N, ↓e_ienum, ↓e_izip, ↓e_anyB, ↓e_allB, ↓e_mulS, blsOf_map, ↓e_set0, ↓e_sadd, ↓e_sortTx, ↓e_sortD, ↓e_repr, ↓e_extT, ↓e_sc2, ↓e_sortZ, ↓e_tupVals, ↓e_wget, ↓e_wix, ↓e_listZip, zipD_nil, zipD_cons, ↓e_dgetF, ↓e_idif, ↓e_isB, ↓e_sortI, ↓e_sortSetI, ↓e_tailR, ↓e_divmod, ↓e_strI, ↓e_lenD, ↓e_fmt, ↓e_fs2,   ↓e_add_int, ↓e_add_str, ↓e_add_tup, ↓e_add_obj, ↓e_iadd_int, ↓e_iadd_str, ↓e_iadd_obj, ↓e_I, ↓e_I0, ↓e_IS_int, ↓e_IS_str, ↓e_eq_str, ↓e_ne_str, ↓e_eq_int, ↓e_ne_int, ↓e_eq_bl, ↓e_ne_bl, ↓e_isN, ↓e_notN, ↓e_ix_tup, ↓e_ix_fl, ↓e_ix_str, ↓e_ix_obj, ↓e_in_tup, ↓e_nin_tup, ↓e_len_tup, ↓e_len_fl, ↓e_len_str, ↓e_len_obj, ↓e_int_int, ↓e_tuple_tup, ↓e_tuple_obj, ↓e_list_tup, ↓e_list_obj, ↓e_dget, ↓e_din, ↓e_dnin, ↓e_lstAt, ↓e_dicAt,   e_key_int, e_key_str, e_up, e_ty_str, e_ty_tup, e_ty_int, e_ty_bl, e_ty_non, atI0, atI1, atI2, atI3, atIL, ixN0, ixN1, cut_from1, e_ite_or, e_ite_and, zln, znl, zli, zil, zni, zin, sizeLine_eq, CMul, CDiv, cpow1018, true_or, or_true, kb_strstr, kb_tupstr, kb_tuptup, kb_strtup, kb_inttup, kb_bltup, kb_nontup, kb_strbl, kb_strint, kb_intbl, kb_intint, kb_blbl, kb_blint, kb_nonbl, kb_nonint, kb_nonstr, kb_intstr, kb_blstr, kb_tupbl, kb_tupint,   List.set_cons_zero, List.set_cons_succ, List.set_nil, List.getElem?_cons_zero, List.getElem?_cons_succ, List.getElem?_nil, List.length_cons, List.length_nil, List.length_map, List.length_append, e_lcN, e_lcC, e_forN, e_forC, List.getLast?_concat, List.dropLast_concat, List.nil_append, List.cons_append, List.append_nil, List.append_assoc, List.reverse_cons, List.reverse_nil, List.isEmpty_nil, List.isEmpty_cons, isEmpty_snoc, List.any_cons, List.any_nil, List.all_cons, List.all_nil, flatD, eqF, in_non, in_tup, in_str, in_int, in_bl, in_obj, in_fl, startA, List.map_cons, List.map_nil, List.replicate_succ, List.replicate_zero,   Nat.reduceAdd, Nat.reduceSub, Nat.reduceLeDiff, Nat.zero_add, Int.reduceLE, Int.reduceLT, Int.reduceToNat, Int.reducePow, Int.reduceNeg, Int.reduceAdd, Int.reduceSub,   Option.isSome_some, Option.isSome_none, Bool.not_true, Bool.not_false, Bool.not_eq_true', Bool.not_eq_eq_eq_not, Bool.not_eq_true, Bool.false_eq_true, Bool.true_eq_false, Bool.and_true, Bool.true_and, Bool.or_false, Bool.false_or, Bool.or_true, Bool.true_or, Bool.and_false, Bool.false_and, if_true, if_false, ite_true, ite_false, reduceIte, reduceCtorEq, decide_true, decide_false, decide_eq_true_eq, decide_eq_false_iff_not, true_and, and_true, false_and, and_false, eq_self, ne_eq, not_false_eq_true, not_true_eq_false, and_self, *])
              refine in_nats hk8 ?_
              by_cases c2 : v ∈ bs
              · have m2 := n2 fun z => z.2 c2
                clear n1 n2
                try (simp only [↓e_seq, ↓e_next, ↓e_break, ↓e_cont, ↓e_expr, ↓e_ret, ↓e_retN, ↓e_if, ↓e_never, ↓e_asg, ↓e_name, ↓e_agtup, ↓e_agcons, ↓e_agnil, ↓e_agsub, ↓e_aug, ↓e_dput, ↓e_var, ↓e_c, ↓e_op, ↓e_some, ↓e_none, ↓e_test, ↓e_and, ↓e_or, ↓e_not, ↓e_yes, ↓e_truth,   ↓e_tru_bl, ↓e_tru_int, ↓e_tru_non, ↓e_tru_str, ↓e_tru_tup, ↓e_tru_obj, ↓e_chain, ↓e_orV, ↓e_andV, ↓e_notV, ↓e_ifE, ↓e_neg, ↓e_nil, ↓e_cons, ↓e_tup, ↓e_lst, ↓e_dnew, ↓e_call, ↓e_cb, ↓e_isi, ↓e_sl, ↓e_onone, ↓e_osome, ↓e_rev, ↓e_lm, ↓e_append, ↓e_extend, ↓e_pop, ↓e_join, ↓e_dget2, ↓e_sortSet, ↓e_sortS, ↓e_setd, strsOf_map, ↓e_maxI, ↓e_disp, ↓e_pairN, ↓e_pairC, intsOf_map, ↓e_for, ↓e_ilist, ↓e_itup, ↓e_rng1, ↓e_rng2, ↓e_lc, ↓e_lc2, e_lc2N, ↓e_ienum, ↓e_izip, ↓e_anyB, ↓e_allB, ↓e_mulS, blsOf_map, ↓e_set0, ↓e_sadd, ↓e_sortTx, ↓e_sortD, ↓e_repr, ↓e_extT, ↓e_sc2, ↓e_sortZ, ↓e_tupVals, ↓e_wget, ↓e_wix, ↓e_listZip, zipD_nil, zipD_cons, ↓e_dgetF, ↓e_idif, ↓e_isB, ↓e_sortI, ↓e_sortSetI, ↓e_tailR, ↓e_divmod, ↓e_strI, ↓e_lenD, ↓e_fmt, ↓e_fs2,   ↓e_add_int, ↓e_add_str, ↓e_add_tup, ↓e_add_obj, ↓e_iadd_int, ↓e_iadd_str, ↓e_iadd_obj, ↓e_I, ↓e_I0, ↓e_IS_int, ↓e_IS_str, ↓e_eq_str, ↓e_ne_str, ↓e_eq_int, ↓e_ne_int, ↓e_eq_bl, ↓e_ne_bl, ↓e_isN, ↓e_notN, ↓e_ix_tup, ↓e_ix_fl, ↓e_ix_str, ↓e_ix_obj, ↓e_in_tup, ↓e_nin_tup, ↓e_len_tup, ↓e_len_fl, ↓e_len_str, ↓e_len_obj, ↓e_int_int, ↓e_tuple_tup, ↓e_tuple_obj, ↓e_list_tup, ↓e_list_obj, ↓e_dget, ↓e_din, ↓e_dnin, ↓e_lstAt, ↓e_dicAt,   e_key_int, e_key_str, e_up, e_ty_str, e_ty_tup, e_ty_int, e_ty_bl, e_ty_non, atI0, atI1, atI2, atI3, atIL, ixN0, ixN1, cut_from1, e_ite_or, e_ite_and, zln, znl, zli, zil, zni, zin, sizeLine_eq, CMul, CDiv, cpow1018, true_or, or_true, kb_strstr, kb_tupstr, kb_tuptup, kb_strtup, kb_inttup, kb_bltup, kb_nontup, kb_strbl, kb_strint, kb_intbl, kb_intint, kb_blbl, kb_blint, kb_nonbl, kb_nonint, kb_nonstr, kb_intstr, kb_blstr, kb_tupbl, kb_tupint,   List.set_cons_zero, List.set_cons_succ, List.set_nil, List.getElem?_cons_zero, List.getElem?_cons_succ, List.getElem?_nil, List.length_cons, List.length_nil, List.length_map, List.length_append, e_lcN, e_lcC, e_forN, e_forC, List.getLast?_concat, List.dropLast_concat, List.nil_append, List.cons_append, List.append_nil, List.append_assoc, List.reverse_cons, List.reverse_nil, List.isEmpty_nil, List.isEmpty_cons, isEmpty_snoc, List.any_cons, List.any_nil, List.all_cons, List.all_nil, flatD, eqF, in_non, in_tup, in_str, in_int, in_bl, in_obj, in_fl, startA, List.map_cons, List.map_nil, List.replicate_succ, List.replicate_zero,   Nat.reduceAdd, Nat.reduceSub, Nat.reduceLeDiff, Nat.zero_add, Int.reduceLE, Int.reduceLT, Int.reduceToNat, Int.reducePow, Int.reduceNeg, Int.reduceAdd, Int.reduceSub,   Option.isSome_some, Option.isSome_none, Bool.not_true, Bool.not_false, Bool.not_eq_true', Bool.not_eq_eq_eq_not, Bool.not_eq_true, Bool.false_eq_true, Bool.true_eq_false, Bool.and_true, Bool.true_and, Bool.or_false, Bool.false_or, Bool.or_true, Bool.true_or, Bool.and_false, Bool.false_and, if_true, if_false, ite_true, ite_false, reduceIte, reduceCtorEq, decide_true, decide_false, decide_eq_true_eq, decide_eq_false_iff_not, true_and, and_true, false_and, and_false, eq_self, ne_eq, not_false_eq_true, not_true_eq_false, and_self, *])
              · have m1 := n1 ⟨c1, c2⟩
                clear n1 n2
                try (simp only [↓e_seq, ↓e_next, ↓e_break, ↓e_cont, ↓e_expr, ↓e_ret, ↓e_retN, ↓e_if, ↓e_never, ↓e_asg, ↓e_name, ↓e_agtup, ↓e_agcons, ↓e_agnil, ↓e_agsub, ↓e_aug, ↓e_dput, ↓e_var, ↓e_c, ↓e_op, ↓e_some, ↓e_none, ↓e_test, ↓e_and, ↓e_or, ↓e_not, ↓e_yes, ↓e_truth,   ↓e_tru_bl, ↓e_tru_int, ↓e_tru_non, ↓e_tru_str, ↓e_tru_tup, ↓e_tru_obj, ↓e_chain, ↓e_orV, ↓e_andV, ↓e_notV, ↓e_ifE, ↓e_neg, ↓e_nil, ↓e_cons, ↓e_tup, ↓e_lst, ↓e_dnew, ↓e_call, ↓e_cb, ↓e_isi, ↓e_sl, ↓e_onone, ↓e_osome, ↓e_rev, ↓e_lm, ↓e_append, ↓e_extend, ↓e_pop, ↓e_join, ↓e_dget2, ↓e_sortSet, ↓e_sortS, ↓e_setd, strsOf_map, ↓e_maxI, ↓e_disp, ↓e_pairN, ↓e_pairC, intsOf_map, ↓e_for, ↓e_ilist, ↓e_itup, ↓e_rng1, ↓e_rng2, ↓e_lc, ↓e_lc2, e_lc2N, ↓e_ienum, ↓e_izip, ↓e_anyB, ↓e_allB, ↓e_mulS, blsOf_map, ↓e_set0, ↓e_sadd, ↓e_sortTx, ↓e_sortD, ↓e_repr, ↓e_extT, ↓e_sc2, ↓e_sortZ, ↓e_tupVals, ↓e_wget, ↓e_wix, ↓e_listZip, zipD_nil, zipD_cons, ↓e_dgetF, ↓e_idif, ↓e_isB, ↓e_sortI, ↓e_sortSetI, ↓e_tailR, ↓e_divmod, ↓e_strI, ↓e_lenD, ↓e_fmt, ↓e_fs2,   ↓e_add_int, ↓e_add_str, ↓e_add_tup, ↓e_add_obj, ↓e_iadd_int, ↓e_iadd_str, ↓e_iadd_obj, ↓e_I, ↓e_I0, ↓e_IS_int, ↓e_IS_str, ↓e_eq_str, ↓e_ne_str, ↓e_eq_int, ↓e_ne_int, ↓e_eq_bl, ↓e_ne_bl, ↓e_isN, ↓e_notN, ↓e_ix_tup, ↓e_ix_fl, ↓e_ix_str, ↓e_ix_obj, ↓e_in_tup, ↓e_nin_tup, ↓e_len_tup, ↓e_len_fl, ↓e_len_str, ↓e_len_obj, ↓e_int_int, ↓e_tuple_tup, ↓e_tuple_obj, ↓e_list_tup, ↓e_list_obj, ↓e_dget, ↓e_din, ↓e_dnin, ↓e_lstAt, ↓e_dicAt,   e_key_int, e_key_str, e_up, e_ty_str, e_ty_tup, e_ty_int, e_ty_bl, e_ty_non, atI0, atI1, atI2, atI3, atIL, ixN0, ixN1, cut_from1, e_ite_or, e_ite_and, zln, znl, zli, zil, zni, zin, sizeLine_eq, CMul, CDiv, cpow1018, true_or, or_true, kb_strstr, kb_tupstr, kb_tuptup, kb_strtup, kb_inttup, kb_bltup, kb_nontup, kb_strbl, kb_strint, kb_intbl, kb_intint, kb_blbl, kb_blint, kb_nonbl, kb_nonint, kb_nonstr, kb_intstr, kb_blstr, kb_tupbl, kb_tupint,   List.set_cons_zero, List.set_cons_succ, List.set_nil, List.getElem?_cons_zero, List.getElem?_cons_succ, List.getElem?_nil, List.length_cons, List.length_nil, List.length_map, List.length_append, e_lcN, e_lcC, e_forN, e_forC, List.getLast?_concat, List.dropLast_concat, List.nil_append, List.cons_append, List.append_nil, List.append_assoc, List.reverse_cons, List.reverse_nil, List.isEmpty_nil, List.isEmpty_cons, isEmpty_snoc, List.any_cons, List.any_nil, List.all_cons, List.all_nil, flatD, eqF, in_non, in_tup, in_str, in_int, in_bl, in_obj, in_fl, startA, List.map_cons, List.map_nil, List.replicate_succ, List.replicate_zero,   Nat.reduceAdd, Nat.reduceSub, Nat.reduceLeDiff, Nat.zero_add, Int.reduceLE, Int.reduceLT, Int.reduceToNat, Int.reducePow, Int.reduceNeg, Int.reduceAdd, Int.reduceSub,   Option.isSome_some, Option.isSome_none, Bool.not_true, Bool.not_false, Bool.not_eq_true', Bool.not_eq_eq_eq_not, Bool.not_eq_true, Bool.false_eq_true, Bool.true_eq_false, Bool.and_true, Bool.true_and, Bool.or_false, Bool.false_or, Bool.or_true, Bool.true_or, Bool.and_false, Bool.false_and, if_true, if_false, ite_true, ite_false, reduceIte, reduceCtorEq, decide_true, decide_false, decide_eq_true_eq, decide_eq_false_iff_not, true_and, and_true, false_and, and_false, eq_self, ne_eq, not_false_eq_true, not_true_eq_false, and_self, *])
                all_goals omega
            · have m2 := n2 fun z => c1 z.1
              clear n1 n2
              try (simp only [↓e_seq, ↓e_next, ↓e_break, ↓e_cont, ↓e_expr, ↓e_ret, ↓e_retN, ↓e_if, ↓e_never, ↓e_asg, ↓e_name, ↓e_agtup, ↓e_agcons, ↓e_agnil, ↓e_agsub, ↓e_aug, ↓e_dput, ↓e_var, ↓e_c, ↓e_op, ↓e_some, ↓e_none, ↓e_test, ↓e_and, ↓e_or, ↓e_not, ↓e_yes, ↓e_truth,   ↓e_tru_bl, ↓e_tru_int, ↓e_tru_non, ↓e_tru_str, ↓e_tru_tup, ↓e_tru_obj, ↓e_chain, ↓e_orV, ↓e_andV, ↓e_notV, ↓e_ifE, ↓e_neg, ↓e_nil, ↓e_cons, ↓e_tup, ↓e_lst, ↓e_dnew, ↓e_call, ↓e_cb, ↓e_isi, ↓e_sl, ↓e_onone, ↓e_osome, ↓e_rev, ↓e_lm, ↓e_append, ↓e_extend, ↓e_pop, ↓e_join, ↓e_dget2, ↓e_sortSet, ↓e_sortS, ↓e_setd, strsOf_map, ↓e_maxI, ↓e_disp, ↓e_pairN, ↓e_pairC, intsOf_map, ↓e_for, ↓e_ilist, ↓e_itup, ↓e_rng1, ↓e_rng2, ↓e_lc, ↓e_lc2, e_lc2N, ↓e_ienum, ↓e_izip, ↓e_anyB, ↓e_allB, ↓e_mulS, blsOf_map, ↓e_set0, ↓e_sadd, ↓e_sortTx, ↓e_sortD, ↓e_repr, ↓e_extT, ↓e_sc2, ↓e_sortZ, ↓e_tupVals, ↓e_wget, ↓e_wix, ↓e_listZip, zipD_nil, zipD_cons, ↓e_dgetF, ↓e_idif, ↓e_isB, ↓e_sortI, ↓e_sortSetI, ↓e_tailR, ↓e_divmod, ↓e_strI, ↓e_lenD, ↓e_fmt, ↓e_fs2,   ↓e_add_int, ↓e_add_str, ↓e_add_tup, ↓e_add_obj, ↓e_iadd_int, ↓e_iadd_str, ↓e_iadd_obj, ↓e_I, ↓e_I0, ↓e_IS_int, ↓e_IS_str, ↓e_eq_str, ↓e_ne_str, ↓e_eq_int, ↓e_ne_int, ↓e_eq_bl, ↓e_ne_bl, ↓e_isN, ↓e_notN, ↓e_ix_tup, ↓e_ix_fl, ↓e_ix_str, ↓e_ix_obj, ↓e_in_tup, ↓e_nin_tup, ↓e_len_tup, ↓e_len_fl, ↓e_len_str, ↓e_len_obj, ↓e_int_int, ↓e_tuple_tup, ↓e_tuple_obj, ↓e_list_tup, ↓e_list_obj, ↓e_dget, ↓e_din, ↓e_dnin, ↓e_lstAt, ↓e_dicAt,   e_key_int, e_key_str, e_up, e_ty_str, e_ty_tup, e_ty_int, e_ty_bl, e_ty_non, atI0, atI1, atI2, atI3, atIL, ixN0, ixN1, cut_from1, e_ite_or, e_ite_and, zln, znl, zli, zil, zni, zin, sizeLine_eq, CMul, CDiv, cpow1018, true_or, or_true, kb_strstr, kb_tupstr, kb_tuptup, kb_strtup, kb_inttup, kb_bltup, kb_nontup, kb_strbl, kb_strint, kb_intbl, kb_intint, kb_blbl, kb_blint, kb_nonbl, kb_nonint, kb_nonstr, kb_intstr, kb_blstr, kb_tupbl, kb_tupint,   List.set_cons_zero, List.set_cons_succ, List.set_nil, List.getElem?_cons_zero, List.getElem?_cons_succ, List.getElem?_nil, List.length_cons, List.length_nil, List.length_map, List.length_append, e_lcN, e_lcC, e_forN, e_forC, List.getLast?_concat, List.dropLast_concat, List.nil_append, List.cons_append, List.append_nil, List.append_assoc, List.reverse_cons, List.reverse_nil, List.isEmpty_nil, List.isEmpty_cons, isEmpty_snoc, List.any_cons, List.any_nil, List.all_cons, List.all_nil, flatD, eqF, in_non, in_tup, in_str, in_int, in_bl, in_obj, in_fl, startA, List.map_cons, List.map_nil, List.replicate_succ, List.replicate_zero,   Nat.reduceAdd, Nat.reduceSub, Nat.reduceLeDiff, Nat.zero_add, Int.reduceLE, Int.reduceLT, Int.reduceToNat, Int.reducePow, Int.reduceNeg, Int.reduceAdd, Int.reduceSub,   Option.isSome_some, Option.isSome_none, Bool.not_true, Bool.not_false, Bool.not_eq_true', Bool.not_eq_eq_eq_not, Bool.not_eq_true, Bool.false_eq_true, Bool.true_eq_false, Bool.and_true, Bool.true_and, Bool.or_false, Bool.false_or, Bool.or_true, Bool.true_or, Bool.and_false, Bool.false_and, if_true, if_false, ite_true, ite_false, reduceIte, reduceCtorEq, decide_true, decide_false, decide_eq_true_eq, decide_eq_false_iff_not, true_and, and_true, false_and, and_false, eq_self, ne_eq, not_false_eq_true, not_true_eq_false, and_self, *])
  · rintro y r N env M3 ⟨w, m, giv, bs, x5, hd, hw, rfl, hG, hO, hgl, hgr, hk, bnd, blt, hb3, e3⟩ next
    obtain ⟨m, rfl, rfl, rfl⟩ := rngD_cons hd.symm
    clear hd
    obtain ⟨asG, hG1, hGl, _⟩ := _root_.id hG
    have hq3 := e3 _ _ nqb hq
    have hbl : bs.length ≤ w := by
      have z := nodup_le (ys := List.range w) bnd fun v hv => List.mem_range.mpr (blt v hv)
      rw [List.length_range] at z
      exact z
    try (simp only [↓e_seq, ↓e_next, ↓e_break, ↓e_cont, ↓e_expr, ↓e_ret, ↓e_retN, ↓e_if, ↓e_never, ↓e_asg, ↓e_name, ↓e_agtup, ↓e_agcons, ↓e_agnil, ↓e_agsub, ↓e_aug, ↓e_dput, ↓e_var, ↓e_c, ↓e_op, ↓e_some, ↓e_none, ↓e_test, ↓e_and, ↓e_or, ↓e_not, ↓e_yes, ↓e_truth,   ↓e_tru_bl, ↓e_tru_int, ↓e_tru_non, ↓e_tru_str, ↓e_tru_tup, ↓e_tru_obj, ↓e_chain, ↓e_orV, ↓e_andV, ↓e_notV, ↓e_ifE, ↓e_neg, ↓e_nil, ↓e_cons, ↓e_tup, ↓e_lst, ↓e_dnew, ↓e_call, ↓e_cb, ↓e_isi, ↓e_sl, ↓e_onone, ↓e_osome, ↓e_rev, ↓e_lm, ↓e_append, ↓e_extend, ↓e_pop, ↓e_join, ↓e_dget2, ↓e_sortSet, ↓e_sortS, ↓e_setd, strsOf_map, ↓e_maxI, ↓e_disp, ↓e_pairN, ↓e_pairC, intsOf_map, ↓e_for, ↓e_ilist, ↓e_itup, ↓e_rng1, ↓e_rng2, ↓e_lc, ↓e_lc2, e_lc2N, ↓e_ienum, ↓e_izip, ↓e_anyB, ↓e_allB, ↓e_mulS, blsOf_map, ↓e_set0, ↓e_sadd, ↓e_sortTx, ↓e_sortD, ↓e_repr, ↓e_extT, ↓e_sc2, ↓e_sortZ, ↓e_tupVals, ↓e_wget, ↓e_wix, ↓e_listZip, zipD_nil, zipD_cons, ↓e_dgetF, ↓e_idif, ↓e_isB, ↓e_sortI, ↓e_sortSetI, ↓e_tailR, ↓e_divmod, ↓e_strI, ↓e_lenD, ↓e_fmt, ↓e_fs2,   ↓e_add_int, ↓e_add_str, ↓e_add_tup, ↓e_add_obj, ↓e_iadd_int, ↓e_iadd_str, ↓e_iadd_obj, ↓e_I, ↓e_I0, ↓e_IS_int, ↓e_IS_str, ↓e_eq_str, ↓e_ne_str, ↓e_eq_int, ↓e_ne_int, ↓e_eq_bl, ↓e_ne_bl, ↓e_isN, ↓e_notN, ↓e_ix_tup, ↓e_ix_fl, ↓e_ix_str, ↓e_ix_obj, ↓e_in_tup, ↓e_nin_tup, ↓e_len_tup, ↓e_len_fl, ↓e_len_str, ↓e_len_obj, ↓e_int_int, ↓e_tuple_tup, ↓e_tuple_obj, ↓e_list_tup, ↓e_list_obj, ↓e_dget, ↓e_din, ↓e_dnin, ↓e_lstAt, ↓e_dicAt,   e_key_int, e_key_str, e_up, e_ty_str, e_ty_tup, e_ty_int, e_ty_bl, e_ty_non, atI0, atI1, atI2, atI3, atIL, ixN0, ixN1, cut_from1, e_ite_or, e_ite_and, zln, znl, zli, zil, zni, zin, sizeLine_eq, CMul, CDiv, cpow1018, true_or, or_true, kb_strstr, kb_tupstr, kb_tuptup, kb_strtup, kb_inttup, kb_bltup, kb_nontup, kb_strbl, kb_strint, kb_intbl, kb_intint, kb_blbl, kb_blint, kb_nonbl, kb_nonint, kb_nonstr, kb_intstr, kb_blstr, kb_tupbl, kb_tupint,   List.set_cons_zero, List.set_cons_succ, List.set_nil, List.getElem?_cons_zero, List.getElem?_cons_succ, List.getElem?_nil, List.length_cons, List.length_nil, List.length_map, List.length_append, e_lcN, e_lcC, e_forN, e_forC, List.getLast?_concat, List.dropLast_concat, List.nil_append, List.cons_append, List.append_nil, List.append_assoc, List.reverse_cons, List.reverse_nil, List.isEmpty_nil, List.isEmpty_cons, isEmpty_snoc, List.any_cons, List.any_nil, List.all_cons, List.all_nil, flatD, eqF, in_non, in_tup, in_str, in_int, in_bl, in_obj, in_fl, startA, List.map_cons, List.map_nil, List.replicate_succ, List.replicate_zero,   Nat.reduceAdd, Nat.reduceSub, Nat.reduceLeDiff, Nat.zero_add, Int.reduceLE, Int.reduceLT, Int.reduceToNat, Int.reducePow, Int.reduceNeg, Int.reduceAdd, Int.reduceSub,   Option.isSome_some, Option.isSome_none, Bool.not_true, Bool.not_false, Bool.not_eq_true', Bool.not_eq_eq_eq_not, Bool.not_eq_true, Bool.false_eq_true, Bool.true_eq_false, Bool.and_true, Bool.true_and, Bool.or_false, Bool.false_or, Bool.or_true, Bool.true_or, Bool.and_false, Bool.false_and, if_true, if_false, ite_true, ite_false, reduceIte, reduceCtorEq, decide_true, decide_false, decide_eq_true_eq, decide_eq_false_iff_not, true_and, and_true, false_and, and_false, eq_self, ne_eq, not_false_eq_true, not_true_eq_false, and_self, *])
    refine ⟨by omega, ?_⟩
    refine atoms_lc (by show 13 < 15; decide) (fun x => rfl) hb3 hq3 fun sel M4 hs hb4 e4 => ?_
    intro x nx
    have hgs : GR ats sel := ⟨nd.sublist hs, fun g hg => hs.subset hg⟩
    have hG4 := hG.extB noObj_fm hb3 e4
    have hG14 := e4 _ _ nbg hG1
    have hk4 := e4 _ _ nbk hk
    have hO4 : Off M4 gA kA := hO.same (by rw [hG14, hG1])
    have nxg : x ≠ gA := (fresh_ne nx hG14).symm
    have nxk : x ≠ kA := (fresh_ne nx hk4).symm
    have hG5 := hG4.ext (Ext.new (mo := .lst (sel.map Fm.d)) nx)
    have hG15 := Ext.new (mo := .lst (sel.map Fm.d)) nx _ _ hG14
    have hk5 := Ext.new (mo := .lst (sel.map Fm.d)) nx _ _ hk4
    have hO5 : Off (up M4 x (.lst (sel.map Fm.d))) gA kA := hO4.same (by rw [hG15, hG14])
    have hx5 : up M4 x (.lst (sel.map Fm.d)) x = some (.lst (sel.map Fm.d)) := up_same
    have hb5 := hb4.new (mo := .lst (sel.map Fm.d)) nx
    have e5 : ExtB b M (up M4 x (.lst (sel.map Fm.d))) := (e3.trans e4).trans (Ext.new nx).b
    generalize up M4 x (.lst (sel.map Fm.d)) = M5 at *
    clear hG hG1 hO hk hG4 hG14 hk4 hO4 hb4 hb3 e3 e4 hq3 nx
    try (simp only [↓e_seq, ↓e_next, ↓e_break, ↓e_cont, ↓e_expr, ↓e_ret, ↓e_retN, ↓e_if, ↓e_never, ↓e_asg, ↓e_name, ↓e_agtup, ↓e_agcons, ↓e_agnil, ↓e_agsub, ↓e_aug, ↓e_dput, ↓e_var, ↓e_c, ↓e_op, ↓e_some, ↓e_none, ↓e_test, ↓e_and, ↓e_or, ↓e_not, ↓e_yes, ↓e_truth,   ↓e_tru_bl, ↓e_tru_int, ↓e_tru_non, ↓e_tru_str, ↓e_tru_tup, ↓e_tru_obj, ↓e_chain, ↓e_orV, ↓e_andV, ↓e_notV, ↓e_ifE, ↓e_neg, ↓e_nil, ↓e_cons, ↓e_tup, ↓e_lst, ↓e_dnew, ↓e_call, ↓e_cb, ↓e_isi, ↓e_sl, ↓e_onone, ↓e_osome, ↓e_rev, ↓e_lm, ↓e_append, ↓e_extend, ↓e_pop, ↓e_join, ↓e_dget2, ↓e_sortSet, ↓e_sortS, ↓e_setd, strsOf_map, ↓e_maxI, ↓e_disp, ↓e_pairN, ↓e_pairC, intsOf_map, ↓e_for, ↓e_ilist, ↓e_itup, ↓e_rng1, ↓e_rng2, ↓e_lc, ↓e_lc2, e_lc2N, ↓e_ienum, ↓e_izip, ↓e_anyB, ↓e_allB, ↓e_mulS, blsOf_map, ↓e_set0, ↓e_sadd, ↓e_sortTx, ↓e_sortD, ↓e_repr, ↓e_extT, ↓e_sc2, ↓e_sortZ, ↓e_tupVals, ↓e_wget, ↓e_wix, ↓e_listZip, zipD_nil, zipD_cons, ↓e_dgetF, ↓e_idif, ↓e_isB, ↓e_sortI, ↓e_sortSetI, ↓e_tailR, ↓e_divmod, ↓e_strI, ↓e_lenD, ↓e_fmt, ↓e_fs2,   ↓e_add_int, ↓e_add_str, ↓e_add_tup, ↓e_add_obj, ↓e_iadd_int, ↓e_iadd_str, ↓e_iadd_obj, ↓e_I, ↓e_I0, ↓e_IS_int, ↓e_IS_str, ↓e_eq_str, ↓e_ne_str, ↓e_eq_int, ↓e_ne_int, ↓e_eq_bl, ↓e_ne_bl, ↓e_isN, ↓e_notN, ↓e_ix_tup, ↓e_ix_fl, ↓e_ix_str, ↓e_ix_obj, ↓e_in_tup, ↓e_nin_tup, ↓e_len_tup, ↓e_len_fl, ↓e_len_str, ↓e_len_obj, ↓e_int_int, ↓e_tuple_tup, ↓e_tuple_obj, ↓e_list_tup, ↓e_list_obj, ↓e_dget, ↓e_din, ↓e_dnin, ↓e_lstAt, ↓e_dicAt,   e_key_int, e_key_str, e_up, e_ty_str, e_ty_tup, e_ty_int, e_ty_bl, e_ty_non, atI0, atI1, atI2, atI3, atIL, ixN0, ixN1, cut_from1, e_ite_or, e_ite_and, zln, znl, zli, zil, zni, zin, sizeLine_eq, CMul, CDiv, cpow1018, true_or, or_true, kb_strstr, kb_tupstr, kb_tuptup, kb_strtup, kb_inttup, kb_bltup, kb_nontup, kb_strbl, kb_strint, kb_intbl, kb_intint, kb_blbl, kb_blint, kb_nonbl, kb_nonint, kb_nonstr, kb_intstr, kb_blstr, kb_tupbl, kb_tupint,   List.set_cons_zero, List.set_cons_succ, List.set_nil, List.getElem?_cons_zero, List.getElem?_cons_succ, List.getElem?_nil, List.length_cons, List.length_nil, List.length_map, List.length_append, e_lcN, e_lcC, e_forN, e_forC, List.getLast?_concat, List.dropLast_concat, List.nil_append, List.cons_append, List.append_nil, List.append_assoc, List.reverse_cons, List.reverse_nil, List.isEmpty_nil, List.isEmpty_cons, isEmpty_snoc, List.any_cons, List.any_nil, List.all_cons, List.all_nil, flatD, eqF, in_non, in_tup, in_str, in_int, in_bl, in_obj, in_fl, startA, List.map_cons, List.map_nil, List.replicate_succ, List.replicate_zero,   Nat.reduceAdd, Nat.reduceSub, Nat.reduceLeDiff, Nat.zero_add, Int.reduceLE, Int.reduceLT, Int.reduceToNat, Int.reducePow, Int.reduceNeg, Int.reduceAdd, Int.reduceSub,   Option.isSome_some, Option.isSome_none, Bool.not_true, Bool.not_false, Bool.not_eq_true', Bool.not_eq_eq_eq_not, Bool.not_eq_true, Bool.false_eq_true, Bool.true_eq_false, Bool.and_true, Bool.true_and, Bool.or_false, Bool.false_or, Bool.or_true, Bool.true_or, Bool.and_false, Bool.false_and, if_true, if_false, ite_true, ite_false, reduceIte, reduceCtorEq, decide_true, decide_false, decide_eq_true_eq, decide_eq_false_iff_not, true_and, and_true, false_and, and_false, eq_self, ne_eq, not_false_eq_true, not_true_eq_false, and_self, *])
    refine ⟨by omega, ?_⟩
    have hG6 := hG5.snoc hG15 hx5 nxg
    have hO6 := hO5.snoc hG15 nxk
    have hG16 : up M5 gA (.lst (asG.map D.obj ++ [.obj x])) gA = some (.lst ((asG ++ [x]).map D.obj)) := by rw [up_same, List.map_append]; rfl
    have hk6 : up M5 gA (.lst (asG.map D.obj ++ [.obj x])) kA = some (.lst (bs.map natI)) := by rw [up_ne nkg]; exact hk5
    have hb6 := hb5.upd (mo := .lst (asG.map D.obj ++ [.obj x])) nbg2 hdg.1
    have e6 : ExtB b M (up M5 gA (.lst (asG.map D.obj ++ [.obj x]))) := ExtB.up0 ng e5
    generalize up M5 gA (.lst (asG.map D.obj ++ [.obj x])) = M6 at *
    clear hG5 hG15 hO5 hk5 hb5 e5 hx5
    refine ⟨rfl, b, d, 4, rfl, hb6, by decide, fun v M7 hv0 hv1 hb7 e7 => ?_⟩
    have hG7 := hG6.extB noObj_fm hb6 e7
    have hG17 := e7 _ _ nbg hG16
    have hO7 : Off M7 gA kA := hO6.same (by rw [hG17, hG16])
    have hk7 := e7 _ _ nbk hk6
    have hgr7 : ∀ r ∈ giv ++ [sel], GR ats r := fun r hr => (List.mem_append.mp hr).elim (hgr r) fun z => by rw [List.mem_singleton.mp z]; exact hgs
    have hgl7 : (giv ++ [sel]).length = w + 1 := by rw [List.length_append, List.length_singleton, hgl]
    have ew : ((w + 1 : Nat) : Int) = (w : Int) + 1 := by omega
    have n1 := next [some (.obj b), st, some (.obj nm), some (.int ((w + (m + 1) : Nat) : Int)), some (.obj p), some (.int (w : Int)), x6, x7, some (.obj qa), some (.obj gA), some (.obj kA), none, x12, x13, none] (up M7 kA (.lst (bs.map natI ++ [.int (w : Int)]))) ⟨w + 1, m, giv ++ [sel], bs ++ [w], _, by rw [ew], by omega, by rw [hw], hG7.off ngk hO7, hO7.same (by rw [up_ne ngk]), hgl7, hgr7, by rw [up_same, List.map_append]; rfl,
      List.nodup_append.mpr ⟨bnd, List.pairwise_singleton _ w, fun a ha c hc e => by rw [List.mem_singleton.mp hc] at e; have := blt a ha; omega⟩, fun v hv => (List.mem_append.mp hv).elim (fun z => by have := blt v z; omega) fun z => by rw [List.mem_singleton.mp z]; omega, hb7.upd nbk2 hdg.2, ExtB.up0 nk0 (e6.trans e7)⟩
    have n2 := next [some (.obj b), st, some (.obj nm), some (.int ((w + (m + 1) : Nat) : Int)), some (.obj p), some (.int (w : Int)), x6, x7, some (.obj qa), some (.obj gA), some (.obj kA), none, x12, x13, none] M7 ⟨w + 1, m, giv ++ [sel], bs, _, by rw [ew], by omega, by rw [hw], hG7, hO7, hgl7, hgr7, hk7, bnd, fun v hv => by have := blt v hv; omega, hb7, e6.trans e7⟩
    rw [hw] at n1 n2
    clear next hG6 hO6 hG16 hk6 hb6 e6 hG7 hO7 hgr7
    by_cases c : v = 0
    · subst c
      try (simp only [↓e_seq, ↓e_next, ↓e_break, ↓e_cont, ↓e_expr, ↓e_ret, ↓e_retN, ↓e_if, ↓e_never, ↓e_asg, ↓e_name, ↓e_agtup, ↓e_agcons, ↓e_agnil, ↓e_agsub, ↓e_aug, ↓e_dput, ↓e_var, ↓e_c, ↓e_op, ↓e_some, ↓e_none, ↓e_test, ↓e_and, ↓e_or, ↓e_not, ↓e_yes, ↓e_truth,   ↓e_tru_bl, ↓e_tru_int, ↓e_tru_non, ↓e_tru_str, ↓e_tru_tup, ↓e_tru_obj, ↓e_chain, ↓e_orV, ↓e_andV, ↓e_notV, ↓e_ifE, ↓e_neg, ↓e_nil, ↓e_cons, ↓e_tup, ↓e_lst, ↓e_dnew, ↓e_call, ↓e_cb, ↓e_isi, ↓e_sl, ↓e_onone, ↓e_osome, ↓e_rev, ↓e_lm, ↓e_append, ↓e_extend, ↓e_pop, ↓e_join, ↓e_dget2, ↓e_sortSet, ↓e_sortS, ↓e_setd, strsOf_map, ↓e_maxI, ↓e_disp, ↓e_pairN, ↓e_pairC, intsOf_map, ↓e_for, ↓e_ilist, ↓e_itup, ↓e_rng1, ↓e_rng2, ↓e_lc, ↓e_lc2, e_lc2N, ↓e_ienum, ↓e_izip, ↓e_anyB, ↓e_allB, ↓e_mulS, blsOf_map, ↓e_set0, ↓e_sadd, ↓e_sortTx, ↓e_sortD, ↓e_repr, ↓e_extT, ↓e_sc2, ↓e_sortZ, ↓e_tupVals, ↓e_wget, ↓e_wix, ↓e_listZip, zipD_nil, zipD_cons, ↓e_dgetF, ↓e_idif, ↓e_isB, ↓e_sortI, ↓e_sortSetI, ↓e_tailR, ↓e_divmod, ↓e_strI, ↓e_lenD, ↓e_fmt, ↓e_fs2,   ↓e_add_int, ↓e_add_str, ↓e_add_tup, ↓e_add_obj, ↓e_iadd_int, ↓e_iadd_str, ↓e_iadd_obj, ↓e_I, ↓e_I0, ↓e_IS_int, ↓e_IS_str, ↓e_eq_str, ↓e_ne_str, ↓e_eq_int, ↓e_ne_int, ↓e_eq_bl, ↓e_ne_bl, ↓e_isN, ↓e_notN, ↓e_ix_tup, ↓e_ix_fl, ↓e_ix_str, ↓e_ix_obj, ↓e_in_tup, ↓e_nin_tup, ↓e_len_tup, ↓e_len_fl, ↓e_len_str, ↓e_len_obj, ↓e_int_int, ↓e_tuple_tup, ↓e_tuple_obj, ↓e_list_tup, ↓e_list_obj, ↓e_dget, ↓e_din, ↓e_dnin, ↓e_lstAt, ↓e_dicAt,   e_key_int, e_key_str, e_up, e_ty_str, e_ty_tup, e_ty_int, e_ty_bl, e_ty_non, atI0, atI1, atI2, atI3, atIL, ixN0, ixN1, cut_from1, e_ite_or, e_ite_and, zln, znl, zli, zil, zni, zin, sizeLine_eq, CMul, CDiv, cpow1018, true_or, or_true, kb_strstr, kb_tupstr, kb_tuptup, kb_strtup, kb_inttup, kb_bltup, kb_nontup, kb_strbl, kb_strint, kb_intbl, kb_intint, kb_blbl, kb_blint, kb_nonbl, kb_nonint, kb_nonstr, kb_intstr, kb_blstr, kb_tupbl, kb_tupint,   List.set_cons_zero, List.set_cons_succ, List.set_nil, List.getElem?_cons_zero, List.getElem?_cons_succ, List.getElem?_nil, List.length_cons, List.length_nil, List.length_map, List.length_append, e_lcN, e_lcC, e_forN, e_forC, List.getLast?_concat, List.dropLast_concat, List.nil_append, List.cons_append, List.append_nil, List.append_assoc, List.reverse_cons, List.reverse_nil, List.isEmpty_nil, List.isEmpty_cons, isEmpty_snoc, List.any_cons, List.any_nil, List.all_cons, List.all_nil, flatD, eqF, in_non, in_tup, in_str, in_int, in_bl, in_obj, in_fl, startA, List.map_cons, List.map_nil, List.replicate_succ, List.replicate_zero,   Nat.reduceAdd, Nat.reduceSub, Nat.reduceLeDiff, Nat.zero_add, Int.reduceLE, Int.reduceLT, Int.reduceToNat, Int.reducePow, Int.reduceNeg, Int.reduceAdd, Int.reduceSub,   Option.isSome_some, Option.isSome_none, Bool.not_true, Bool.not_false, Bool.not_eq_true', Bool.not_eq_eq_eq_not, Bool.not_eq_true, Bool.false_eq_true, Bool.true_eq_false, Bool.and_true, Bool.true_and, Bool.or_false, Bool.false_or, Bool.or_true, Bool.true_or, Bool.and_false, Bool.false_and, if_true, if_false, ite_true, ite_false, reduceIte, reduceCtorEq, decide_true, decide_false, decide_eq_true_eq, decide_eq_false_iff_not, true_and, and_true, false_and, and_false, eq_self, ne_eq, not_false_eq_true, not_true_eq_false, and_self, *])
      all_goals omega
    · try (simp only [↓e_seq, ↓e_next, ↓e_break, ↓e_cont, ↓e_expr, ↓e_ret, ↓e_retN, ↓e_if, ↓e_never, ↓e_asg, ↓e_name, ↓e_agtup, ↓e_agcons, ↓e_agnil, ↓e_agsub, ↓e_aug, ↓e_dput, ↓e_var, ↓e_c, ↓e_op, ↓e_some, ↓e_none, ↓e_test, ↓e_and, ↓e_or, ↓e_not, ↓e_yes, ↓e_truth,   ↓e_tru_bl, ↓e_tru_int, ↓e_tru_non, ↓e_tru_str, ↓e_tru_tup, ↓e_tru_obj, ↓e_chain, ↓e_orV, ↓e_andV, ↓e_notV, ↓e_ifE, ↓e_neg, ↓e_nil, ↓e_cons, ↓e_tup, ↓e_lst, ↓e_dnew, ↓e_call, ↓e_cb, ↓e_isi, ↓e_sl, ↓e_onone, ↓e_osome, ↓e_rev, ↓e_lm, ↓e_append, ↓e_extend, ↓e_pop, ↓e_join, ↓e_dget2, ↓e_sortSet, ↓e_sortS, ↓e_setd, strsOf_map, ↓e_maxI, ↓e_disp, ↓e_pairN, ↓e_pairC, intsOf_map, ↓e_for, ↓e_ilist, ↓e_itup, ↓e_rng1, ↓e_rng2, ↓e_lc, ↓e_lc2, e_lc2N, ↓e_ienum, ↓e_izip, ↓e_anyB, ↓e_allB, ↓e_mulS, blsOf_map, ↓e_set0, ↓e_sadd, ↓e_sortTx, ↓e_sortD, ↓e_repr, ↓e_extT, ↓e_sc2, ↓e_sortZ, ↓e_tupVals, ↓e_wget, ↓e_wix, ↓e_listZip, zipD_nil, zipD_cons, ↓e_dgetF, ↓e_idif, ↓e_isB, ↓e_sortI, ↓e_sortSetI, ↓e_tailR, ↓e_divmod, ↓e_strI, ↓e_lenD, ↓e_fmt, ↓e_fs2,   ↓e_add_int, ↓e_add_str, ↓e_add_tup, ↓e_add_obj, ↓e_iadd_int, ↓e_iadd_str, ↓e_iadd_obj, ↓e_I, ↓e_I0, ↓e_IS_int, ↓e_IS_str, ↓e_eq_str, ↓e_ne_str, ↓e_eq_int, ↓e_ne_int, ↓e_eq_bl, ↓e_ne_bl, ↓e_isN, ↓e_notN, ↓e_ix_tup, ↓e_ix_fl, ↓e_ix_str, ↓e_ix_obj, ↓e_in_tup, ↓e_nin_tup, ↓e_len_tup, ↓e_len_fl, ↓e_len_str, ↓e_len_obj, ↓e_int_int, ↓e_tuple_tup, ↓e_tuple_obj, ↓e_list_tup, ↓e_list_obj, ↓e_dget, ↓e_din, ↓e_dnin, ↓e_lstAt, ↓e_dicAt,   e_key_int, e_key_str, e_up, e_ty_str, e_ty_tup, e_ty_int, e_ty_bl, e_ty_non, atI0, atI1, atI2, atI3, atIL, ixN0, ixN1, cut_from1, e_ite_or, e_ite_and, zln, znl, zli, zil, zni, zin, sizeLine_eq, CMul, CDiv, cpow1018, true_or, or_true, kb_strstr, kb_tupstr, kb_tuptup, kb_strtup, kb_inttup, kb_bltup, kb_nontup, kb_strbl, kb_strint, kb_intbl, kb_intint, kb_blbl, kb_blint, kb_nonbl, kb_nonint, kb_nonstr, kb_intstr, kb_blstr, kb_tupbl, kb_tupint,   List.set_cons_zero, List.set_cons_succ, List.set_nil, List.getElem?_cons_zero, List.getElem?_cons_succ, List.getElem?_nil, List.length_cons, List.length_nil, List.length_map, List.length_append, e_lcN, e_lcC, e_forN, e_forC, List.getLast?_concat, List.dropLast_concat, List.nil_append, List.cons_append, List.append_nil, List.append_assoc, List.reverse_cons, List.reverse_nil, List.isEmpty_nil, List.isEmpty_cons, isEmpty_snoc, List.any_cons, List.any_nil, List.all_cons, List.all_nil, flatD, eqF, in_non, in_tup, in_str, in_int, in_bl, in_obj, in_fl, startA, List.map_cons, List.map_nil, List.replicate_succ, List.replicate_zero,   Nat.reduceAdd, Nat.reduceSub, Nat.reduceLeDiff, Nat.zero_add, Int.reduceLE, Int.reduceLT, Int.reduceToNat, Int.reducePow, Int.reduceNeg, Int.reduceAdd, Int.reduceSub,   Option.isSome_some, Option.isSome_none, Bool.not_true, Bool.not_false, Bool.not_eq_true', Bool.not_eq_eq_eq_not, Bool.not_eq_true, Bool.false_eq_true, Bool.true_eq_false, Bool.and_true, Bool.true_and, Bool.or_false, Bool.false_or, Bool.or_true, Bool.true_or, Bool.and_false, Bool.false_and, if_true, if_false, ite_true, ite_false, reduceIte, reduceCtorEq, decide_true, decide_false, decide_eq_true_eq, decide_eq_false_iff_not, true_and, and_true, false_and, and_false, eq_self, ne_eq, not_false_eq_true, not_true_eq_false, and_self, *])

def ats0 : List Fm := [.lt z_a, .lt z_b]
def ats1 : List Fm := [.lt z_a, .lt z_b, .ng (.lt z_a), .ng (.lt z_b), .ng (.ng (.lt z_a))]
theorem tiny_ats1 : ∀ g ∈ ats1, g.Tiny := by
  have a : ∀ g ∈ ats1, g.py.depth ≤ 60 ∧ g.py.canLay0 = true := by decide +kernel
  exact a
theorem tiny_ats0 : ∀ g ∈ ats0, g.Tiny := fun g hg => tiny_ats1 g (by
  have : g ∈ [Fm.lt z_a, .lt z_b] := hg
  simp only [List.mem_cons, List.not_mem_nil, or_false] at this
  rcases this with z | z
  · subst z; exact List.mem_cons_self
  · subst z; exact List.mem_cons_of_mem _ List.mem_cons_self)
theorem nd_ats0 : ats0.Nodup := by decide +kernel
theorem nd_ats1 : ats1.Nodup := by decide +kernel
theorem p_m1 {b d nm p : Addr} {x5 x6 x7 : Option D} {pos : Bool} {n : Nat} {R : List (List Nat)} {M : Sto} {Q : D → Sto → Prop} (hb : BoxAt M b d) (hp : RowsAt natI M p R) (hg : goodC n R = true) (hnm : M nm = some (.lst [.str z_a, .str z_b])) (hn : n ≤ 4)
    (q : ∀ (m : Mdl) M', m.later = R → m.Ok → m.Kr → BoxAt M' b d → ExtB b M M' → Q m.d M') :
    a_m1 A_draw ax0 (Done Q) [some (.obj b), some (.str (if pos = true then z_positive else z_minimal)), some (.obj nm), some (.int (n : Int)), some (.obj p), x5, x6, x7, none, none, none, none, none, none, none] M := by
  unfold a_m1
  have z1 := zpm
  have z2 := zmp
  have at0 : atI [D.str z_a, D.str z_b] 0 = some (.str z_a) := atI0
  try (simp only [↓e_seq, ↓e_next, ↓e_break, ↓e_cont, ↓e_expr, ↓e_ret, ↓e_retN, ↓e_if, ↓e_never, ↓e_asg, ↓e_name, ↓e_agtup, ↓e_agcons, ↓e_agnil, ↓e_agsub, ↓e_aug, ↓e_dput, ↓e_var, ↓e_c, ↓e_op, ↓e_some, ↓e_none, ↓e_test, ↓e_and, ↓e_or, ↓e_not, ↓e_yes, ↓e_truth,   ↓e_tru_bl, ↓e_tru_int, ↓e_tru_non, ↓e_tru_str, ↓e_tru_tup, ↓e_tru_obj, ↓e_chain, ↓e_orV, ↓e_andV, ↓e_notV, ↓e_ifE, ↓e_neg, ↓e_nil, ↓e_cons, ↓e_tup, ↓e_lst, ↓e_dnew, ↓e_call, ↓e_cb, ↓e_isi, ↓e_sl, ↓e_onone, ↓e_osome, ↓e_rev, ↓e_lm, ↓e_append, ↓e_extend, ↓e_pop, ↓e_join, ↓e_dget2, ↓e_sortSet, ↓e_sortS, ↓e_setd, strsOf_map, ↓e_maxI, ↓e_disp, ↓e_pairN, ↓e_pairC, intsOf_map, ↓e_for, ↓e_ilist, ↓e_itup, ↓e_rng1, ↓e_rng2, ↓e_lc, ↓e_lc2, e_lc2N, ↓e_ienum, ↓e_izip, ↓e_anyB, ↓e_allB, ↓e_mulS, blsOf_map, ↓e_set0, ↓e_sadd, ↓e_sortTx, ↓e_sortD, ↓e_repr, ↓e_extT, ↓e_sc2, ↓e_sortZ, ↓e_tupVals, ↓e_wget, ↓e_wix, ↓e_listZip, zipD_nil, zipD_cons, ↓e_dgetF, ↓e_idif, ↓e_isB, ↓e_sortI, ↓e_sortSetI, ↓e_tailR, ↓e_divmod, ↓e_strI, ↓e_lenD, ↓e_fmt, ↓e_fs2,   ↓e_add_int, ↓e_add_str, ↓e_add_tup, ↓e_add_obj, ↓e_iadd_int, ↓e_iadd_str, ↓e_iadd_obj, ↓e_I, ↓e_I0, ↓e_IS_int, ↓e_IS_str, ↓e_eq_str, ↓e_ne_str, ↓e_eq_int, ↓e_ne_int, ↓e_eq_bl, ↓e_ne_bl, ↓e_isN, ↓e_notN, ↓e_ix_tup, ↓e_ix_fl, ↓e_ix_str, ↓e_ix_obj, ↓e_in_tup, ↓e_nin_tup, ↓e_len_tup, ↓e_len_fl, ↓e_len_str, ↓e_len_obj, ↓e_int_int, ↓e_tuple_tup, ↓e_tuple_obj, ↓e_list_tup, ↓e_list_obj, ↓e_dget, ↓e_din, ↓e_dnin, ↓e_lstAt, ↓e_dicAt,   e_key_int, e_key_str, e_up, e_ty_str, e_ty_tup, e_ty_int, e_ty_bl, e_ty_non, atI0, atI1, atI2, atI3, atIL, ixN0, ixN1, cut_from1, e_ite_or, e_ite_and, zln, znl, zli, zil, zni, zin, sizeLine_eq, CMul, CDiv, cpow1018, true_or, or_true, kb_strstr, kb_tupstr, kb_tuptup, kb_strtup, kb_inttup, kb_bltup, kb_nontup, kb_strbl, kb_strint, kb_intbl, kb_intint, kb_blbl, kb_blint, kb_nonbl, kb_nonint, kb_nonstr, kb_intstr, kb_blstr, kb_tupbl, kb_tupint,   List.set_cons_zero, List.set_cons_succ, List.set_nil, List.getElem?_cons_zero, List.getElem?_cons_succ, List.getElem?_nil, List.length_cons, List.length_nil, List.length_map, List.length_append, e_lcN, e_lcC, e_forN, e_forC, List.getLast?_concat, List.dropLast_concat, List.nil_append, List.cons_append, List.append_nil, List.append_assoc, List.reverse_cons, List.reverse_nil, List.isEmpty_nil, List.isEmpty_cons, isEmpty_snoc, List.any_cons, List.any_nil, List.all_cons, List.all_nil, flatD, eqF, in_non, in_tup, in_str, in_int, in_bl, in_obj, in_fl, startA, List.map_cons, List.map_nil, List.replicate_succ, List.replicate_zero,   Nat.reduceAdd, Nat.reduceSub, Nat.reduceLeDiff, Nat.zero_add, Int.reduceLE, Int.reduceLT, Int.reduceToNat, Int.reducePow, Int.reduceNeg, Int.reduceAdd, Int.reduceSub,   Option.isSome_some, Option.isSome_none, Bool.not_true, Bool.not_false, Bool.not_eq_true', Bool.not_eq_eq_eq_not, Bool.not_eq_true, Bool.false_eq_true, Bool.true_eq_false, Bool.and_true, Bool.true_and, Bool.or_false, Bool.false_or, Bool.or_true, Bool.true_or, Bool.and_false, Bool.false_and, if_true, if_false, ite_true, ite_false, reduceIte, reduceCtorEq, decide_true, decide_false, decide_eq_true_eq, decide_eq_false_iff_not, true_and, and_true, false_and, and_false, eq_self, ne_eq, not_false_eq_true, not_true_eq_false, and_self, *])
  intro y ny
  have hb1 := hb.new (mo := .lst [.tup [.str z_letter, .str z_a], .tup [.str z_letter, .str z_b]]) ny
  have e1 := Ext.new (mo := .lst [.tup [.str z_letter, .str z_a], .tup [.str z_letter, .str z_b]]) ny
  have hy : up M y (.lst [.tup [.str z_letter, .str z_a], .tup [.str z_letter, .str z_b]]) y = some (.lst [.tup [.str z_letter, .str z_a], .tup [.str z_letter, .str z_b]]) := up_same
  have hnm1 := e1 _ _ hnm
  generalize up M y (.lst [.tup [.str z_letter, .str z_a], .tup [.str z_letter, .str z_b]]) = M1 at *
  cases pos with
  | false =>
    have go := p_m2 (st := some (.str z_minimal)) (x5 := x5) (x6 := x6) (x7 := x7) (x12 := none) (x13 := none) (nm := nm) (ats := ats0) hb1 (hp.ext e1) hg hy tiny_ats0 nd_ats0 (by decide) hn fun m M' h1 h2 h3 h4 h5 => q m M' h1 h2 h3 h4 (e1.b.trans h5)
    clear q hp hb hb1
    try (simp only [↓e_seq, ↓e_next, ↓e_break, ↓e_cont, ↓e_expr, ↓e_ret, ↓e_retN, ↓e_if, ↓e_never, ↓e_asg, ↓e_name, ↓e_agtup, ↓e_agcons, ↓e_agnil, ↓e_agsub, ↓e_aug, ↓e_dput, ↓e_var, ↓e_c, ↓e_op, ↓e_some, ↓e_none, ↓e_test, ↓e_and, ↓e_or, ↓e_not, ↓e_yes, ↓e_truth,   ↓e_tru_bl, ↓e_tru_int, ↓e_tru_non, ↓e_tru_str, ↓e_tru_tup, ↓e_tru_obj, ↓e_chain, ↓e_orV, ↓e_andV, ↓e_notV, ↓e_ifE, ↓e_neg, ↓e_nil, ↓e_cons, ↓e_tup, ↓e_lst, ↓e_dnew, ↓e_call, ↓e_cb, ↓e_isi, ↓e_sl, ↓e_onone, ↓e_osome, ↓e_rev, ↓e_lm, ↓e_append, ↓e_extend, ↓e_pop, ↓e_join, ↓e_dget2, ↓e_sortSet, ↓e_sortS, ↓e_setd, strsOf_map, ↓e_maxI, ↓e_disp, ↓e_pairN, ↓e_pairC, intsOf_map, ↓e_for, ↓e_ilist, ↓e_itup, ↓e_rng1, ↓e_rng2, ↓e_lc, ↓e_lc2, e_lc2N, ↓e_ienum, ↓e_izip, ↓e_anyB, ↓e_allB, ↓e_mulS, blsOf_map, ↓e_set0, ↓e_sadd, ↓e_sortTx, ↓e_sortD, ↓e_repr, ↓e_extT, ↓e_sc2, ↓e_sortZ, ↓e_tupVals, ↓e_wget, ↓e_wix, ↓e_listZip, zipD_nil, zipD_cons, ↓e_dgetF, ↓e_idif, ↓e_isB, ↓e_sortI, ↓e_sortSetI, ↓e_tailR, ↓e_divmod, ↓e_strI, ↓e_lenD, ↓e_fmt, ↓e_fs2,   ↓e_add_int, ↓e_add_str, ↓e_add_tup, ↓e_add_obj, ↓e_iadd_int, ↓e_iadd_str, ↓e_iadd_obj, ↓e_I, ↓e_I0, ↓e_IS_int, ↓e_IS_str, ↓e_eq_str, ↓e_ne_str, ↓e_eq_int, ↓e_ne_int, ↓e_eq_bl, ↓e_ne_bl, ↓e_isN, ↓e_notN, ↓e_ix_tup, ↓e_ix_fl, ↓e_ix_str, ↓e_ix_obj, ↓e_in_tup, ↓e_nin_tup, ↓e_len_tup, ↓e_len_fl, ↓e_len_str, ↓e_len_obj, ↓e_int_int, ↓e_tuple_tup, ↓e_tuple_obj, ↓e_list_tup, ↓e_list_obj, ↓e_dget, ↓e_din, ↓e_dnin, ↓e_lstAt, ↓e_dicAt,   e_key_int, e_key_str, e_up, e_ty_str, e_ty_tup, e_ty_int, e_ty_bl, e_ty_non, atI0, atI1, atI2, atI3, atIL, ixN0, ixN1, cut_from1, e_ite_or, e_ite_and, zln, znl, zli, zil, zni, zin, sizeLine_eq, CMul, CDiv, cpow1018, true_or, or_true, kb_strstr, kb_tupstr, kb_tuptup, kb_strtup, kb_inttup, kb_bltup, kb_nontup, kb_strbl, kb_strint, kb_intbl, kb_intint, kb_blbl, kb_blint, kb_nonbl, kb_nonint, kb_nonstr, kb_intstr, kb_blstr, kb_tupbl, kb_tupint,   List.set_cons_zero, List.set_cons_succ, List.set_nil, List.getElem?_cons_zero, List.getElem?_cons_succ, List.getElem?_nil, List.length_cons, List.length_nil, List.length_map, List.length_append, e_lcN, e_lcC, e_forN, e_forC, List.getLast?_concat, List.dropLast_concat, List.nil_append, List.cons_append, List.append_nil, List.append_assoc, List.reverse_cons, List.reverse_nil, List.isEmpty_nil, List.isEmpty_cons, isEmpty_snoc, List.any_cons, List.any_nil, List.all_cons, List.all_nil, flatD, eqF, in_non, in_tup, in_str, in_int, in_bl, in_obj, in_fl, startA, List.map_cons, List.map_nil, List.replicate_succ, List.replicate_zero,   Nat.reduceAdd, Nat.reduceSub, Nat.reduceLeDiff, Nat.zero_add, Int.reduceLE, Int.reduceLT, Int.reduceToNat, Int.reducePow, Int.reduceNeg, Int.reduceAdd, Int.reduceSub,   Option.isSome_some, Option.isSome_none, Bool.not_true, Bool.not_false, Bool.not_eq_true', Bool.not_eq_eq_eq_not, Bool.not_eq_true, Bool.false_eq_true, Bool.true_eq_false, Bool.and_true, Bool.true_and, Bool.or_false, Bool.false_or, Bool.or_true, Bool.true_or, Bool.and_false, Bool.false_and, if_true, if_false, ite_true, ite_false, reduceIte, reduceCtorEq, decide_true, decide_false, decide_eq_true_eq, decide_eq_false_iff_not, true_and, and_true, false_and, and_false, eq_self, ne_eq, not_false_eq_true, not_true_eq_false, and_self, *])
  | true =>
    try (simp only [↓e_seq, ↓e_next, ↓e_break, ↓e_cont, ↓e_expr, ↓e_ret, ↓e_retN, ↓e_if, ↓e_never, ↓e_asg, ↓e_name, ↓e_agtup, ↓e_agcons, ↓e_agnil, ↓e_agsub, ↓e_aug, ↓e_dput, ↓e_var, ↓e_c, ↓e_op, ↓e_some, ↓e_none, ↓e_test, ↓e_and, ↓e_or, ↓e_not, ↓e_yes, ↓e_truth,   ↓e_tru_bl, ↓e_tru_int, ↓e_tru_non, ↓e_tru_str, ↓e_tru_tup, ↓e_tru_obj, ↓e_chain, ↓e_orV, ↓e_andV, ↓e_notV, ↓e_ifE, ↓e_neg, ↓e_nil, ↓e_cons, ↓e_tup, ↓e_lst, ↓e_dnew, ↓e_call, ↓e_cb, ↓e_isi, ↓e_sl, ↓e_onone, ↓e_osome, ↓e_rev, ↓e_lm, ↓e_append, ↓e_extend, ↓e_pop, ↓e_join, ↓e_dget2, ↓e_sortSet, ↓e_sortS, ↓e_setd, strsOf_map, ↓e_maxI, ↓e_disp, ↓e_pairN, ↓e_pairC, intsOf_map, ↓e_for, ↓e_ilist, ↓e_itup, ↓e_rng1, ↓e_rng2, ↓e_lc, ↓e_lc2, e_lc2N, ↓e_ienum, ↓e_izip, ↓e_anyB, ↓e_allB, ↓e_mulS, blsOf_map, ↓e_set0, ↓e_sadd, ↓e_sortTx, ↓e_sortD, ↓e_repr, ↓e_extT, ↓e_sc2, ↓e_sortZ, ↓e_tupVals, ↓e_wget, ↓e_wix, ↓e_listZip, zipD_nil, zipD_cons, ↓e_dgetF, ↓e_idif, ↓e_isB, ↓e_sortI, ↓e_sortSetI, ↓e_tailR, ↓e_divmod, ↓e_strI, ↓e_lenD, ↓e_fmt, ↓e_fs2,   ↓e_add_int, ↓e_add_str, ↓e_add_tup, ↓e_add_obj, ↓e_iadd_int, ↓e_iadd_str, ↓e_iadd_obj, ↓e_I, ↓e_I0, ↓e_IS_int, ↓e_IS_str, ↓e_eq_str, ↓e_ne_str, ↓e_eq_int, ↓e_ne_int, ↓e_eq_bl, ↓e_ne_bl, ↓e_isN, ↓e_notN, ↓e_ix_tup, ↓e_ix_fl, ↓e_ix_str, ↓e_ix_obj, ↓e_in_tup, ↓e_nin_tup, ↓e_len_tup, ↓e_len_fl, ↓e_len_str, ↓e_len_obj, ↓e_int_int, ↓e_tuple_tup, ↓e_tuple_obj, ↓e_list_tup, ↓e_list_obj, ↓e_dget, ↓e_din, ↓e_dnin, ↓e_lstAt, ↓e_dicAt,   e_key_int, e_key_str, e_up, e_ty_str, e_ty_tup, e_ty_int, e_ty_bl, e_ty_non, atI0, atI1, atI2, atI3, atIL, ixN0, ixN1, cut_from1, e_ite_or, e_ite_and, zln, znl, zli, zil, zni, zin, sizeLine_eq, CMul, CDiv, cpow1018, true_or, or_true, kb_strstr, kb_tupstr, kb_tuptup, kb_strtup, kb_inttup, kb_bltup, kb_nontup, kb_strbl, kb_strint, kb_intbl, kb_intint, kb_blbl, kb_blint, kb_nonbl, kb_nonint, kb_nonstr, kb_intstr, kb_blstr, kb_tupbl, kb_tupint,   List.set_cons_zero, List.set_cons_succ, List.set_nil, List.getElem?_cons_zero, List.getElem?_cons_succ, List.getElem?_nil, List.length_cons, List.length_nil, List.length_map, List.length_append, e_lcN, e_lcC, e_forN, e_forC, List.getLast?_concat, List.dropLast_concat, List.nil_append, List.cons_append, List.append_nil, List.append_assoc, List.reverse_cons, List.reverse_nil, List.isEmpty_nil, List.isEmpty_cons, isEmpty_snoc, List.any_cons, List.any_nil, List.all_cons, List.all_nil, flatD, eqF, in_non, in_tup, in_str, in_int, in_bl, in_obj, in_fl, startA, List.map_cons, List.map_nil, List.replicate_succ, List.replicate_zero,   Nat.reduceAdd, Nat.reduceSub, Nat.reduceLeDiff, Nat.zero_add, Int.reduceLE, Int.reduceLT, Int.reduceToNat, Int.reducePow, Int.reduceNeg, Int.reduceAdd, Int.reduceSub,   Option.isSome_some, Option.isSome_none, Bool.not_true, Bool.not_false, Bool.not_eq_true', Bool.not_eq_eq_eq_not, Bool.not_eq_true, Bool.false_eq_true, Bool.true_eq_false, Bool.and_true, Bool.true_and, Bool.or_false, Bool.false_or, Bool.or_true, Bool.true_or, Bool.and_false, Bool.false_and, if_true, if_false, ite_true, ite_false, reduceIte, reduceCtorEq, decide_true, decide_false, decide_eq_true_eq, decide_eq_false_iff_not, true_and, and_true, false_and, and_false, eq_self, ne_eq, not_false_eq_true, not_true_eq_false, and_self, *])
    intro y1 ny1
    have e2 := Ext.new (mo := .lst [.tup [.str z_not, .tup [.str z_letter, .str z_a]], .tup [.str z_not, .tup [.str z_letter, .str z_b]]]) ny1
    have hy1 : up M1 y1 (.lst [.tup [.str z_not, .tup [.str z_letter, .str z_a]], .tup [.str z_not, .tup [.str z_letter, .str z_b]]]) y1 = some (.lst [.tup [.str z_not, .tup [.str z_letter, .str z_a]], .tup [.str z_not, .tup [.str z_letter, .str z_b]]]) := up_same
    generalize up M1 y1 (.lst [.tup [.str z_not, .tup [.str z_letter, .str z_a]], .tup [.str z_not, .tup [.str z_letter, .str z_b]]]) = M2 at *
    have hy_2 := e2 _ _ hy
    have hnm2 := e2 _ _ hnm1
    clear ny ny1
    try (simp only [↓e_seq, ↓e_next, ↓e_break, ↓e_cont, ↓e_expr, ↓e_ret, ↓e_retN, ↓e_if, ↓e_never, ↓e_asg, ↓e_name, ↓e_agtup, ↓e_agcons, ↓e_agnil, ↓e_agsub, ↓e_aug, ↓e_dput, ↓e_var, ↓e_c, ↓e_op, ↓e_some, ↓e_none, ↓e_test, ↓e_and, ↓e_or, ↓e_not, ↓e_yes, ↓e_truth,   ↓e_tru_bl, ↓e_tru_int, ↓e_tru_non, ↓e_tru_str, ↓e_tru_tup, ↓e_tru_obj, ↓e_chain, ↓e_orV, ↓e_andV, ↓e_notV, ↓e_ifE, ↓e_neg, ↓e_nil, ↓e_cons, ↓e_tup, ↓e_lst, ↓e_dnew, ↓e_call, ↓e_cb, ↓e_isi, ↓e_sl, ↓e_onone, ↓e_osome, ↓e_rev, ↓e_lm, ↓e_append, ↓e_extend, ↓e_pop, ↓e_join, ↓e_dget2, ↓e_sortSet, ↓e_sortS, ↓e_setd, strsOf_map, ↓e_maxI, ↓e_disp, ↓e_pairN, ↓e_pairC, intsOf_map, ↓e_for, ↓e_ilist, ↓e_itup, ↓e_rng1, ↓e_rng2, ↓e_lc, ↓e_lc2, e_lc2N, ↓e_ienum, ↓e_izip, ↓e_anyB, ↓e_allB, ↓e_mulS, blsOf_map, ↓e_set0, ↓e_sadd, ↓e_sortTx, ↓e_sortD, ↓e_repr, ↓e_extT, ↓e_sc2, ↓e_sortZ, ↓e_tupVals, ↓e_wget, ↓e_wix, ↓e_listZip, zipD_nil, zipD_cons, ↓e_dgetF, ↓e_idif, ↓e_isB, ↓e_sortI, ↓e_sortSetI, ↓e_tailR, ↓e_divmod, ↓e_strI, ↓e_lenD, ↓e_fmt, ↓e_fs2,   ↓e_add_int, ↓e_add_str, ↓e_add_tup, ↓e_add_obj, ↓e_iadd_int, ↓e_iadd_str, ↓e_iadd_obj, ↓e_I, ↓e_I0, ↓e_IS_int, ↓e_IS_str, ↓e_eq_str, ↓e_ne_str, ↓e_eq_int, ↓e_ne_int, ↓e_eq_bl, ↓e_ne_bl, ↓e_isN, ↓e_notN, ↓e_ix_tup, ↓e_ix_fl, ↓e_ix_str, ↓e_ix_obj, ↓e_in_tup, ↓e_nin_tup, ↓e_len_tup, ↓e_len_fl, ↓e_len_str, ↓e_len_obj, ↓e_int_int, ↓e_tuple_tup, ↓e_tuple_obj, ↓e_list_tup, ↓e_list_obj, ↓e_dget, ↓e_din, ↓e_dnin, ↓e_lstAt, ↓e_dicAt,   e_key_int, e_key_str, e_up, e_ty_str, e_ty_tup, e_ty_int, e_ty_bl, e_ty_non, atI0, atI1, atI2, atI3, atIL, ixN0, ixN1, cut_from1, e_ite_or, e_ite_and, zln, znl, zli, zil, zni, zin, sizeLine_eq, CMul, CDiv, cpow1018, true_or, or_true, kb_strstr, kb_tupstr, kb_tuptup, kb_strtup, kb_inttup, kb_bltup, kb_nontup, kb_strbl, kb_strint, kb_intbl, kb_intint, kb_blbl, kb_blint, kb_nonbl, kb_nonint, kb_nonstr, kb_intstr, kb_blstr, kb_tupbl, kb_tupint,   List.set_cons_zero, List.set_cons_succ, List.set_nil, List.getElem?_cons_zero, List.getElem?_cons_succ, List.getElem?_nil, List.length_cons, List.length_nil, List.length_map, List.length_append, e_lcN, e_lcC, e_forN, e_forC, List.getLast?_concat, List.dropLast_concat, List.nil_append, List.cons_append, List.append_nil, List.append_assoc, List.reverse_cons, List.reverse_nil, List.isEmpty_nil, List.isEmpty_cons, isEmpty_snoc, List.any_cons, List.any_nil, List.all_cons, List.all_nil, flatD, eqF, in_non, in_tup, in_str, in_int, in_bl, in_obj, in_fl, startA, List.map_cons, List.map_nil, List.replicate_succ, List.replicate_zero,   Nat.reduceAdd, Nat.reduceSub, Nat.reduceLeDiff, Nat.zero_add, Int.reduceLE, Int.reduceLT, Int.reduceToNat, Int.reducePow, Int.reduceNeg, Int.reduceAdd, Int.reduceSub,   Option.isSome_some, Option.isSome_none, Bool.not_true, Bool.not_false, Bool.not_eq_true', Bool.not_eq_eq_eq_not, Bool.not_eq_true, Bool.false_eq_true, Bool.true_eq_false, Bool.and_true, Bool.true_and, Bool.or_false, Bool.false_or, Bool.or_true, Bool.true_or, Bool.and_false, Bool.false_and, if_true, if_false, ite_true, ite_false, reduceIte, reduceCtorEq, decide_true, decide_false, decide_eq_true_eq, decide_eq_false_iff_not, true_and, and_true, false_and, and_false, eq_self, ne_eq, not_false_eq_true, not_true_eq_false, and_self, *])
    intro y2 ny2
    have e3 := Ext.new (mo := .lst [.tup [.str z_letter, .str z_a], .tup [.str z_letter, .str z_b], .tup [.str z_not, .tup [.str z_letter, .str z_a]], .tup [.str z_not, .tup [.str z_letter, .str z_b]]]) ny2
    have hy2 : up M2 y2 (.lst [.tup [.str z_letter, .str z_a], .tup [.str z_letter, .str z_b], .tup [.str z_not, .tup [.str z_letter, .str z_a]], .tup [.str z_not, .tup [.str z_letter, .str z_b]]]) y2 = some (.lst [.tup [.str z_letter, .str z_a], .tup [.str z_letter, .str z_b], .tup [.str z_not, .tup [.str z_letter, .str z_a]], .tup [.str z_not, .tup [.str z_letter, .str z_b]]]) := up_same
    generalize up M2 y2 (.lst [.tup [.str z_letter, .str z_a], .tup [.str z_letter, .str z_b], .tup [.str z_not, .tup [.str z_letter, .str z_a]], .tup [.str z_not, .tup [.str z_letter, .str z_b]]]) = M3 at *
    have hnm3 := e3 _ _ hnm2
    clear ny2
    try (simp only [↓e_seq, ↓e_next, ↓e_break, ↓e_cont, ↓e_expr, ↓e_ret, ↓e_retN, ↓e_if, ↓e_never, ↓e_asg, ↓e_name, ↓e_agtup, ↓e_agcons, ↓e_agnil, ↓e_agsub, ↓e_aug, ↓e_dput, ↓e_var, ↓e_c, ↓e_op, ↓e_some, ↓e_none, ↓e_test, ↓e_and, ↓e_or, ↓e_not, ↓e_yes, ↓e_truth,   ↓e_tru_bl, ↓e_tru_int, ↓e_tru_non, ↓e_tru_str, ↓e_tru_tup, ↓e_tru_obj, ↓e_chain, ↓e_orV, ↓e_andV, ↓e_notV, ↓e_ifE, ↓e_neg, ↓e_nil, ↓e_cons, ↓e_tup, ↓e_lst, ↓e_dnew, ↓e_call, ↓e_cb, ↓e_isi, ↓e_sl, ↓e_onone, ↓e_osome, ↓e_rev, ↓e_lm, ↓e_append, ↓e_extend, ↓e_pop, ↓e_join, ↓e_dget2, ↓e_sortSet, ↓e_sortS, ↓e_setd, strsOf_map, ↓e_maxI, ↓e_disp, ↓e_pairN, ↓e_pairC, intsOf_map, ↓e_for, ↓e_ilist, ↓e_itup, ↓e_rng1, ↓e_rng2, ↓e_lc, ↓e_lc2, e_lc2N, ↓e_ienum, ↓e_izip, ↓e_anyB, ↓e_allB, ↓e_mulS, blsOf_map, ↓e_set0, ↓e_sadd, ↓e_sortTx, ↓e_sortD, ↓e_repr, ↓e_extT, ↓e_sc2, ↓e_sortZ, ↓e_tupVals, ↓e_wget, ↓e_wix, ↓e_listZip, zipD_nil, zipD_cons, ↓e_dgetF, ↓e_idif, ↓e_isB, ↓e_sortI, ↓e_sortSetI, ↓e_tailR, ↓e_divmod, ↓e_strI, ↓e_lenD, ↓e_fmt, ↓e_fs2,   ↓e_add_int, ↓e_add_str, ↓e_add_tup, ↓e_add_obj, ↓e_iadd_int, ↓e_iadd_str, ↓e_iadd_obj, ↓e_I, ↓e_I0, ↓e_IS_int, ↓e_IS_str, ↓e_eq_str, ↓e_ne_str, ↓e_eq_int, ↓e_ne_int, ↓e_eq_bl, ↓e_ne_bl, ↓e_isN, ↓e_notN, ↓e_ix_tup, ↓e_ix_fl, ↓e_ix_str, ↓e_ix_obj, ↓e_in_tup, ↓e_nin_tup, ↓e_len_tup, ↓e_len_fl, ↓e_len_str, ↓e_len_obj, ↓e_int_int, ↓e_tuple_tup, ↓e_tuple_obj, ↓e_list_tup, ↓e_list_obj, ↓e_dget, ↓e_din, ↓e_dnin, ↓e_lstAt, ↓e_dicAt,   e_key_int, e_key_str, e_up, e_ty_str, e_ty_tup, e_ty_int, e_ty_bl, e_ty_non, atI0, atI1, atI2, atI3, atIL, ixN0, ixN1, cut_from1, e_ite_or, e_ite_and, zln, znl, zli, zil, zni, zin, sizeLine_eq, CMul, CDiv, cpow1018, true_or, or_true, kb_strstr, kb_tupstr, kb_tuptup, kb_strtup, kb_inttup, kb_bltup, kb_nontup, kb_strbl, kb_strint, kb_intbl, kb_intint, kb_blbl, kb_blint, kb_nonbl, kb_nonint, kb_nonstr, kb_intstr, kb_blstr, kb_tupbl, kb_tupint,   List.set_cons_zero, List.set_cons_succ, List.set_nil, List.getElem?_cons_zero, List.getElem?_cons_succ, List.getElem?_nil, List.length_cons, List.length_nil, List.length_map, List.length_append, e_lcN, e_lcC, e_forN, e_forC, List.getLast?_concat, List.dropLast_concat, List.nil_append, List.cons_append, List.append_nil, List.append_assoc, List.reverse_cons, List.reverse_nil, List.isEmpty_nil, List.isEmpty_cons, isEmpty_snoc, List.any_cons, List.any_nil, List.all_cons, List.all_nil, flatD, eqF, in_non, in_tup, in_str, in_int, in_bl, in_obj, in_fl, startA, List.map_cons, List.map_nil, List.replicate_succ, List.replicate_zero,   Nat.reduceAdd, Nat.reduceSub, Nat.reduceLeDiff, Nat.zero_add, Int.reduceLE, Int.reduceLT, Int.reduceToNat, Int.reducePow, Int.reduceNeg, Int.reduceAdd, Int.reduceSub,   Option.isSome_some, Option.isSome_none, Bool.not_true, Bool.not_false, Bool.not_eq_true', Bool.not_eq_eq_eq_not, Bool.not_eq_true, Bool.false_eq_true, Bool.true_eq_false, Bool.and_true, Bool.true_and, Bool.or_false, Bool.false_or, Bool.or_true, Bool.true_or, Bool.and_false, Bool.false_and, if_true, if_false, ite_true, ite_false, reduceIte, reduceCtorEq, decide_true, decide_false, decide_eq_true_eq, decide_eq_false_iff_not, true_and, and_true, false_and, and_false, eq_self, ne_eq, not_false_eq_true, not_true_eq_false, and_self, *])
    intro y3 ny3
    have e4 := Ext.new (mo := .lst [.tup [.str z_not, .tup [.str z_not, .tup [.str z_letter, .str z_a]]]]) ny3
    have hy3 : up M3 y3 (.lst [.tup [.str z_not, .tup [.str z_not, .tup [.str z_letter, .str z_a]]]]) y3 = some (.lst [.tup [.str z_not, .tup [.str z_not, .tup [.str z_letter, .str z_a]]]]) := up_same
    generalize up M3 y3 (.lst [.tup [.str z_not, .tup [.str z_not, .tup [.str z_letter, .str z_a]]]]) = M4 at *
    have hy2_4 := e4 _ _ hy2
    clear ny3
    try (simp only [↓e_seq, ↓e_next, ↓e_break, ↓e_cont, ↓e_expr, ↓e_ret, ↓e_retN, ↓e_if, ↓e_never, ↓e_asg, ↓e_name, ↓e_agtup, ↓e_agcons, ↓e_agnil, ↓e_agsub, ↓e_aug, ↓e_dput, ↓e_var, ↓e_c, ↓e_op, ↓e_some, ↓e_none, ↓e_test, ↓e_and, ↓e_or, ↓e_not, ↓e_yes, ↓e_truth,   ↓e_tru_bl, ↓e_tru_int, ↓e_tru_non, ↓e_tru_str, ↓e_tru_tup, ↓e_tru_obj, ↓e_chain, ↓e_orV, ↓e_andV, ↓e_notV, ↓e_ifE, ↓e_neg, ↓e_nil, ↓e_cons, ↓e_tup, ↓e_lst, ↓e_dnew, ↓e_call, ↓e_cb, ↓e_isi, ↓e_sl, ↓e_onone, ↓e_osome, ↓e_rev, ↓e_lm, ↓e_append, ↓e_extend, ↓e_pop, ↓e_join, ↓e_dget2, ↓e_sortSet, ↓e_sortS, ↓e_setd, strsOf_map, ↓e_maxI, ↓e_disp, ↓e_pairN, ↓e_pairC, intsOf_map, ↓e_for, ↓e_ilist, ↓e_itup, ↓e_rng1, ↓e_rng2, ↓e_lc, ↓e_lc2, e_lc2N, ↓e_ienum, ↓e_izip, ↓e_anyB, ↓e_allB, ↓e_mulS, blsOf_map, ↓e_set0, ↓e_sadd, ↓e_sortTx, ↓e_sortD, ↓e_repr, ↓e_extT, ↓e_sc2, ↓e_sortZ, ↓e_tupVals, ↓e_wget, ↓e_wix, ↓e_listZip, zipD_nil, zipD_cons, ↓e_dgetF, ↓e_idif, ↓e_isB, ↓e_sortI, ↓e_sortSetI, ↓e_tailR, ↓e_divmod, ↓e_strI, ↓e_lenD, ↓e_fmt, ↓e_fs2,   ↓e_add_int, ↓e_add_str, ↓e_add_tup, ↓e_add_obj, ↓e_iadd_int, ↓e_iadd_str, ↓e_iadd_obj, ↓e_I, ↓e_I0, ↓e_IS_int, ↓e_IS_str, ↓e_eq_str, ↓e_ne_str, ↓e_eq_int, ↓e_ne_int, ↓e_eq_bl, ↓e_ne_bl, ↓e_isN, ↓e_notN, ↓e_ix_tup, ↓e_ix_fl, ↓e_ix_str, ↓e_ix_obj, ↓e_in_tup, ↓e_nin_tup, ↓e_len_tup, ↓e_len_fl, ↓e_len_str, ↓e_len_obj, ↓e_int_int, ↓e_tuple_tup, ↓e_tuple_obj, ↓e_list_tup, ↓e_list_obj, ↓e_dget, ↓e_din, ↓e_dnin, ↓e_lstAt, ↓e_dicAt,   e_key_int, e_key_str, e_up, e_ty_str, e_ty_tup, e_ty_int, e_ty_bl, e_ty_non, atI0, atI1, atI2, atI3, atIL, ixN0, ixN1, cut_from1, e_ite_or, e_ite_and, zln, znl, zli, zil, zni, zin, sizeLine_eq, CMul, CDiv, cpow1018, true_or, or_true, kb_strstr, kb_tupstr, kb_tuptup, kb_strtup, kb_inttup, kb_bltup, kb_nontup, kb_strbl, kb_strint, kb_intbl, kb_intint, kb_blbl, kb_blint, kb_nonbl, kb_nonint, kb_nonstr, kb_intstr, kb_blstr, kb_tupbl, kb_tupint,   List.set_cons_zero, List.set_cons_succ, List.set_nil, List.getElem?_cons_zero, List.getElem?_cons_succ, List.getElem?_nil, List.length_cons, List.length_nil, List.length_map, List.length_append, e_lcN, e_lcC, e_forN, e_forC, List.getLast?_concat, List.dropLast_concat, List.nil_append, List.cons_append, List.append_nil, List.append_assoc, List.reverse_cons, List.reverse_nil, List.isEmpty_nil, List.isEmpty_cons, isEmpty_snoc, List.any_cons, List.any_nil, List.all_cons, List.all_nil, flatD, eqF, in_non, in_tup, in_str, in_int, in_bl, in_obj, in_fl, startA, List.map_cons, List.map_nil, List.replicate_succ, List.replicate_zero,   Nat.reduceAdd, Nat.reduceSub, Nat.reduceLeDiff, Nat.zero_add, Int.reduceLE, Int.reduceLT, Int.reduceToNat, Int.reducePow, Int.reduceNeg, Int.reduceAdd, Int.reduceSub,   Option.isSome_some, Option.isSome_none, Bool.not_true, Bool.not_false, Bool.not_eq_true', Bool.not_eq_eq_eq_not, Bool.not_eq_true, Bool.false_eq_true, Bool.true_eq_false, Bool.and_true, Bool.true_and, Bool.or_false, Bool.false_or, Bool.or_true, Bool.true_or, Bool.and_false, Bool.false_and, if_true, if_false, ite_true, ite_false, reduceIte, reduceCtorEq, decide_true, decide_false, decide_eq_true_eq, decide_eq_false_iff_not, true_and, and_true, false_and, and_false, eq_self, ne_eq, not_false_eq_true, not_true_eq_false, and_self, *])
    intro y4 ny4
    have e5 := Ext.new (mo := .lst (ats1.map Fm.d)) ny4
    have hy4 : up M4 y4 (.lst (ats1.map Fm.d)) y4 = some (.lst (ats1.map Fm.d)) := up_same
    have ee := ((((e1.trans e2).trans e3).trans e4).trans e5)
    have go := p_m2 (st := some (.str z_positive)) (x5 := x5) (x6 := x6) (x7 := x7) (x12 := none) (x13 := none) (nm := nm) (ats := ats1) (hb.ext ee) (hp.ext ee) hg hy4 tiny_ats1 nd_ats1 (by decide) hn fun m M' h1 h2 h3 h4 h5 => q m M' h1 h2 h3 h4 (ee.b.trans h5)
    exact go
def A_model : ASp := fun ds M Q _ => ∃ (b d nm : Addr) (pos : Bool), ds = [.obj b, .str (if pos = true then z_positive else z_minimal), .obj nm] ∧ BoxAt M b d ∧ M nm = some (.lst [.str z_a, .str z_b]) ∧
  ∀ (m : Mdl) M', m.Ok → m.Kr → m.later.length ≤ 4 → (∀ r ∈ m.later, r.length ≤ 4) → BoxAt M' b d → ExtB b M M' → Q m.d M'
theorem str_ne_box {M : Sto} {nm b d : Addr} {x : Str} {r : List D} (hb : BoxAt M b d) (h : M nm = some (.lst (.str x :: r))) : nm ≠ b := fun z => by
  obtain ⟨zs, at_, z1, z2, z3, z4⟩ := hb
  subst z
  rw [h] at z1
  injection z1 with z1
  injection z1 with z1
  injection z1 with z1
  cases z1
theorem p__law_model (ds : List D) (M : Sto) (Q : D → Sto → Prop) (Xa) (hl : ds.length = 3) (h : A_model ds M Q Xa) : a__law_model A_draw ax0 (Done Q) (startA ["box", "strength", "names", "many", "later", "world", "turn", "further", "atoms", "given", "broken", "rows", "name", "atom", "row"] ds) M := by
  obtain ⟨b, d, nm, pos, rfl, hb, hnm, q⟩ := h
  have nnb : nm ≠ b := str_ne_box hb hnm
  unfold a__law_model
  try (simp only [↓e_seq, ↓e_next, ↓e_break, ↓e_cont, ↓e_expr, ↓e_ret, ↓e_retN, ↓e_if, ↓e_never, ↓e_asg, ↓e_name, ↓e_agtup, ↓e_agcons, ↓e_agnil, ↓e_agsub, ↓e_aug, ↓e_dput, ↓e_var, ↓e_c, ↓e_op, ↓e_some, ↓e_none, ↓e_test, ↓e_and, ↓e_or, ↓e_not, ↓e_yes, ↓e_truth,   ↓e_tru_bl, ↓e_tru_int, ↓e_tru_non, ↓e_tru_str, ↓e_tru_tup, ↓e_tru_obj, ↓e_chain, ↓e_orV, ↓e_andV, ↓e_notV, ↓e_ifE, ↓e_neg, ↓e_nil, ↓e_cons, ↓e_tup, ↓e_lst, ↓e_dnew, ↓e_call, ↓e_cb, ↓e_isi, ↓e_sl, ↓e_onone, ↓e_osome, ↓e_rev, ↓e_lm, ↓e_append, ↓e_extend, ↓e_pop, ↓e_join, ↓e_dget2, ↓e_sortSet, ↓e_sortS, ↓e_setd, strsOf_map, ↓e_maxI, ↓e_disp, ↓e_pairN, ↓e_pairC, intsOf_map, ↓e_for, ↓e_ilist, ↓e_itup, ↓e_rng1, ↓e_rng2, ↓e_lc, ↓e_lc2, e_lc2N, ↓e_ienum, ↓e_izip, ↓e_anyB, ↓e_allB, ↓e_mulS, blsOf_map, ↓e_set0, ↓e_sadd, ↓e_sortTx, ↓e_sortD, ↓e_repr, ↓e_extT, ↓e_sc2, ↓e_sortZ, ↓e_tupVals, ↓e_wget, ↓e_wix, ↓e_listZip, zipD_nil, zipD_cons, ↓e_dgetF, ↓e_idif, ↓e_isB, ↓e_sortI, ↓e_sortSetI, ↓e_tailR, ↓e_divmod, ↓e_strI, ↓e_lenD, ↓e_fmt, ↓e_fs2,   ↓e_add_int, ↓e_add_str, ↓e_add_tup, ↓e_add_obj, ↓e_iadd_int, ↓e_iadd_str, ↓e_iadd_obj, ↓e_I, ↓e_I0, ↓e_IS_int, ↓e_IS_str, ↓e_eq_str, ↓e_ne_str, ↓e_eq_int, ↓e_ne_int, ↓e_eq_bl, ↓e_ne_bl, ↓e_isN, ↓e_notN, ↓e_ix_tup, ↓e_ix_fl, ↓e_ix_str, ↓e_ix_obj, ↓e_in_tup, ↓e_nin_tup, ↓e_len_tup, ↓e_len_fl, ↓e_len_str, ↓e_len_obj, ↓e_int_int, ↓e_tuple_tup, ↓e_tuple_obj, ↓e_list_tup, ↓e_list_obj, ↓e_dget, ↓e_din, ↓e_dnin, ↓e_lstAt, ↓e_dicAt,   e_key_int, e_key_str, e_up, e_ty_str, e_ty_tup, e_ty_int, e_ty_bl, e_ty_non, atI0, atI1, atI2, atI3, atIL, ixN0, ixN1, cut_from1, e_ite_or, e_ite_and, zln, znl, zli, zil, zni, zin, sizeLine_eq, CMul, CDiv, cpow1018, true_or, or_true, kb_strstr, kb_tupstr, kb_tuptup, kb_strtup, kb_inttup, kb_bltup, kb_nontup, kb_strbl, kb_strint, kb_intbl, kb_intint, kb_blbl, kb_blint, kb_nonbl, kb_nonint, kb_nonstr, kb_intstr, kb_blstr, kb_tupbl, kb_tupint,   List.set_cons_zero, List.set_cons_succ, List.set_nil, List.getElem?_cons_zero, List.getElem?_cons_succ, List.getElem?_nil, List.length_cons, List.length_nil, List.length_map, List.length_append, e_lcN, e_lcC, e_forN, e_forC, List.getLast?_concat, List.dropLast_concat, List.nil_append, List.cons_append, List.append_nil, List.append_assoc, List.reverse_cons, List.reverse_nil, List.isEmpty_nil, List.isEmpty_cons, isEmpty_snoc, List.any_cons, List.any_nil, List.all_cons, List.all_nil, flatD, eqF, in_non, in_tup, in_str, in_int, in_bl, in_obj, in_fl, startA, List.map_cons, List.map_nil, List.replicate_succ, List.replicate_zero,   Nat.reduceAdd, Nat.reduceSub, Nat.reduceLeDiff, Nat.zero_add, Int.reduceLE, Int.reduceLT, Int.reduceToNat, Int.reducePow, Int.reduceNeg, Int.reduceAdd, Int.reduceSub,   Option.isSome_some, Option.isSome_none, Bool.not_true, Bool.not_false, Bool.not_eq_true', Bool.not_eq_eq_eq_not, Bool.not_eq_true, Bool.false_eq_true, Bool.true_eq_false, Bool.and_true, Bool.true_and, Bool.or_false, Bool.false_or, Bool.or_true, Bool.true_or, Bool.and_false, Bool.false_and, if_true, if_false, ite_true, ite_false, reduceIte, reduceCtorEq, decide_true, decide_false, decide_eq_true_eq, decide_eq_false_iff_not, true_and, and_true, false_and, and_false, eq_self, ne_eq, not_false_eq_true, not_true_eq_false, and_self, *])
  refine ⟨rfl, b, d, 4, rfl, hb, by decide, fun v M1 hv0 hv1 hb1 e1 => ?_⟩
  obtain ⟨n, hn⟩ : ∃ n : Nat, 1 + v = (n : Int) := ⟨(1 + v).toNat, by omega⟩
  have hn1 : 1 ≤ n := by omega
  have hn4 : n ≤ 4 := by omega
  try (simp only [↓e_seq, ↓e_next, ↓e_break, ↓e_cont, ↓e_expr, ↓e_ret, ↓e_retN, ↓e_if, ↓e_never, ↓e_asg, ↓e_name, ↓e_agtup, ↓e_agcons, ↓e_agnil, ↓e_agsub, ↓e_aug, ↓e_dput, ↓e_var, ↓e_c, ↓e_op, ↓e_some, ↓e_none, ↓e_test, ↓e_and, ↓e_or, ↓e_not, ↓e_yes, ↓e_truth,   ↓e_tru_bl, ↓e_tru_int, ↓e_tru_non, ↓e_tru_str, ↓e_tru_tup, ↓e_tru_obj, ↓e_chain, ↓e_orV, ↓e_andV, ↓e_notV, ↓e_ifE, ↓e_neg, ↓e_nil, ↓e_cons, ↓e_tup, ↓e_lst, ↓e_dnew, ↓e_call, ↓e_cb, ↓e_isi, ↓e_sl, ↓e_onone, ↓e_osome, ↓e_rev, ↓e_lm, ↓e_append, ↓e_extend, ↓e_pop, ↓e_join, ↓e_dget2, ↓e_sortSet, ↓e_sortS, ↓e_setd, strsOf_map, ↓e_maxI, ↓e_disp, ↓e_pairN, ↓e_pairC, intsOf_map, ↓e_for, ↓e_ilist, ↓e_itup, ↓e_rng1, ↓e_rng2, ↓e_lc, ↓e_lc2, e_lc2N, ↓e_ienum, ↓e_izip, ↓e_anyB, ↓e_allB, ↓e_mulS, blsOf_map, ↓e_set0, ↓e_sadd, ↓e_sortTx, ↓e_sortD, ↓e_repr, ↓e_extT, ↓e_sc2, ↓e_sortZ, ↓e_tupVals, ↓e_wget, ↓e_wix, ↓e_listZip, zipD_nil, zipD_cons, ↓e_dgetF, ↓e_idif, ↓e_isB, ↓e_sortI, ↓e_sortSetI, ↓e_tailR, ↓e_divmod, ↓e_strI, ↓e_lenD, ↓e_fmt, ↓e_fs2,   ↓e_add_int, ↓e_add_str, ↓e_add_tup, ↓e_add_obj, ↓e_iadd_int, ↓e_iadd_str, ↓e_iadd_obj, ↓e_I, ↓e_I0, ↓e_IS_int, ↓e_IS_str, ↓e_eq_str, ↓e_ne_str, ↓e_eq_int, ↓e_ne_int, ↓e_eq_bl, ↓e_ne_bl, ↓e_isN, ↓e_notN, ↓e_ix_tup, ↓e_ix_fl, ↓e_ix_str, ↓e_ix_obj, ↓e_in_tup, ↓e_nin_tup, ↓e_len_tup, ↓e_len_fl, ↓e_len_str, ↓e_len_obj, ↓e_int_int, ↓e_tuple_tup, ↓e_tuple_obj, ↓e_list_tup, ↓e_list_obj, ↓e_dget, ↓e_din, ↓e_dnin, ↓e_lstAt, ↓e_dicAt,   e_key_int, e_key_str, e_up, e_ty_str, e_ty_tup, e_ty_int, e_ty_bl, e_ty_non, atI0, atI1, atI2, atI3, atIL, ixN0, ixN1, cut_from1, e_ite_or, e_ite_and, zln, znl, zli, zil, zni, zin, sizeLine_eq, CMul, CDiv, cpow1018, true_or, or_true, kb_strstr, kb_tupstr, kb_tuptup, kb_strtup, kb_inttup, kb_bltup, kb_nontup, kb_strbl, kb_strint, kb_intbl, kb_intint, kb_blbl, kb_blint, kb_nonbl, kb_nonint, kb_nonstr, kb_intstr, kb_blstr, kb_tupbl, kb_tupint,   List.set_cons_zero, List.set_cons_succ, List.set_nil, List.getElem?_cons_zero, List.getElem?_cons_succ, List.getElem?_nil, List.length_cons, List.length_nil, List.length_map, List.length_append, e_lcN, e_lcC, e_forN, e_forC, List.getLast?_concat, List.dropLast_concat, List.nil_append, List.cons_append, List.append_nil, List.append_assoc, List.reverse_cons, List.reverse_nil, List.isEmpty_nil, List.isEmpty_cons, isEmpty_snoc, List.any_cons, List.any_nil, List.all_cons, List.all_nil, flatD, eqF, in_non, in_tup, in_str, in_int, in_bl, in_obj, in_fl, startA, List.map_cons, List.map_nil, List.replicate_succ, List.replicate_zero,   Nat.reduceAdd, Nat.reduceSub, Nat.reduceLeDiff, Nat.zero_add, Int.reduceLE, Int.reduceLT, Int.reduceToNat, Int.reducePow, Int.reduceNeg, Int.reduceAdd, Int.reduceSub,   Option.isSome_some, Option.isSome_none, Bool.not_true, Bool.not_false, Bool.not_eq_true', Bool.not_eq_eq_eq_not, Bool.not_eq_true, Bool.false_eq_true, Bool.true_eq_false, Bool.and_true, Bool.true_and, Bool.or_false, Bool.false_or, Bool.or_true, Bool.true_or, Bool.and_false, Bool.false_and, if_true, if_false, ite_true, ite_false, reduceIte, reduceCtorEq, decide_true, decide_false, decide_eq_true_eq, decide_eq_false_iff_not, true_and, and_true, false_and, and_false, eq_self, ne_eq, not_false_eq_true, not_true_eq_false, and_self, *])
  intro p np
  have hp : up M1 p (.lst []) p = some (.lst []) := up_same
  have nbp := hb1.fresh np
  have np0 : M p = none := by
    cases z : M p with
    | none => rfl
    | some mo => rw [e1 _ _ nbp.1.symm z] at np; cases np
  have e2 : ExtB b M (up M1 p (.lst [])) := e1.trans (Ext.new np).b
  have hb2 := hb1.new (mo := .lst []) np
  generalize up M1 p (.lst []) = M2 at *
  clear e1 hb1 hn np
  have nbp1 := nbp.1
  try (simp only [↓e_seq, ↓e_next, ↓e_break, ↓e_cont, ↓e_expr, ↓e_ret, ↓e_retN, ↓e_if, ↓e_never, ↓e_asg, ↓e_name, ↓e_agtup, ↓e_agcons, ↓e_agnil, ↓e_agsub, ↓e_aug, ↓e_dput, ↓e_var, ↓e_c, ↓e_op, ↓e_some, ↓e_none, ↓e_test, ↓e_and, ↓e_or, ↓e_not, ↓e_yes, ↓e_truth,   ↓e_tru_bl, ↓e_tru_int, ↓e_tru_non, ↓e_tru_str, ↓e_tru_tup, ↓e_tru_obj, ↓e_chain, ↓e_orV, ↓e_andV, ↓e_notV, ↓e_ifE, ↓e_neg, ↓e_nil, ↓e_cons, ↓e_tup, ↓e_lst, ↓e_dnew, ↓e_call, ↓e_cb, ↓e_isi, ↓e_sl, ↓e_onone, ↓e_osome, ↓e_rev, ↓e_lm, ↓e_append, ↓e_extend, ↓e_pop, ↓e_join, ↓e_dget2, ↓e_sortSet, ↓e_sortS, ↓e_setd, strsOf_map, ↓e_maxI, ↓e_disp, ↓e_pairN, ↓e_pairC, intsOf_map, ↓e_for, ↓e_ilist, ↓e_itup, ↓e_rng1, ↓e_rng2, ↓e_lc, ↓e_lc2, e_lc2N, ↓e_ienum, ↓e_izip, ↓e_anyB, ↓e_allB, ↓e_mulS, blsOf_map, ↓e_set0, ↓e_sadd, ↓e_sortTx, ↓e_sortD, ↓e_repr, ↓e_extT, ↓e_sc2, ↓e_sortZ, ↓e_tupVals, ↓e_wget, ↓e_wix, ↓e_listZip, zipD_nil, zipD_cons, ↓e_dgetF, ↓e_idif, ↓e_isB, ↓e_sortI, ↓e_sortSetI, ↓e_tailR, ↓e_divmod, ↓e_strI, ↓e_lenD, ↓e_fmt, ↓e_fs2,   ↓e_add_int, ↓e_add_str, ↓e_add_tup, ↓e_add_obj, ↓e_iadd_int, ↓e_iadd_str, ↓e_iadd_obj, ↓e_I, ↓e_I0, ↓e_IS_int, ↓e_IS_str, ↓e_eq_str, ↓e_ne_str, ↓e_eq_int, ↓e_ne_int, ↓e_eq_bl, ↓e_ne_bl, ↓e_isN, ↓e_notN, ↓e_ix_tup, ↓e_ix_fl, ↓e_ix_str, ↓e_ix_obj, ↓e_in_tup, ↓e_nin_tup, ↓e_len_tup, ↓e_len_fl, ↓e_len_str, ↓e_len_obj, ↓e_int_int, ↓e_tuple_tup, ↓e_tuple_obj, ↓e_list_tup, ↓e_list_obj, ↓e_dget, ↓e_din, ↓e_dnin, ↓e_lstAt, ↓e_dicAt,   e_key_int, e_key_str, e_up, e_ty_str, e_ty_tup, e_ty_int, e_ty_bl, e_ty_non, atI0, atI1, atI2, atI3, atIL, ixN0, ixN1, cut_from1, e_ite_or, e_ite_and, zln, znl, zli, zil, zni, zin, sizeLine_eq, CMul, CDiv, cpow1018, true_or, or_true, kb_strstr, kb_tupstr, kb_tuptup, kb_strtup, kb_inttup, kb_bltup, kb_nontup, kb_strbl, kb_strint, kb_intbl, kb_intint, kb_blbl, kb_blint, kb_nonbl, kb_nonint, kb_nonstr, kb_intstr, kb_blstr, kb_tupbl, kb_tupint,   List.set_cons_zero, List.set_cons_succ, List.set_nil, List.getElem?_cons_zero, List.getElem?_cons_succ, List.getElem?_nil, List.length_cons, List.length_nil, List.length_map, List.length_append, e_lcN, e_lcC, e_forN, e_forC, List.getLast?_concat, List.dropLast_concat, List.nil_append, List.cons_append, List.append_nil, List.append_assoc, List.reverse_cons, List.reverse_nil, List.isEmpty_nil, List.isEmpty_cons, isEmpty_snoc, List.any_cons, List.any_nil, List.all_cons, List.all_nil, flatD, eqF, in_non, in_tup, in_str, in_int, in_bl, in_obj, in_fl, startA, List.map_cons, List.map_nil, List.replicate_succ, List.replicate_zero,   Nat.reduceAdd, Nat.reduceSub, Nat.reduceLeDiff, Nat.zero_add, Int.reduceLE, Int.reduceLT, Int.reduceToNat, Int.reducePow, Int.reduceNeg, Int.reduceAdd, Int.reduceSub,   Option.isSome_some, Option.isSome_none, Bool.not_true, Bool.not_false, Bool.not_eq_true', Bool.not_eq_eq_eq_not, Bool.not_eq_true, Bool.false_eq_true, Bool.true_eq_false, Bool.and_true, Bool.true_and, Bool.or_false, Bool.false_or, Bool.or_true, Bool.true_or, Bool.and_false, Bool.false_and, if_true, if_false, ite_true, ite_false, reduceIte, reduceCtorEq, decide_true, decide_false, decide_eq_true_eq, decide_eq_false_iff_not, true_and, and_true, false_and, and_false, eq_self, ne_eq, not_false_eq_true, not_true_eq_false, and_self, *])
  refine ⟨by omega, by omega, ?_⟩
  refine for_run (fun ds env M' => ∃ (w m : Nat) (rows : List (List Nat)) (x5 : Option D), ds = rngD (w : Int) m ∧ w + m = n ∧ env = [some (.obj b), some (.str (if pos = true then z_positive else z_minimal)), some (.obj nm), some (.int (n : Int)), some (.obj p), x5, none, none, none, none, none, none, none, none, none] ∧ RowsAt natI M' p rows ∧ rows.length = w ∧ (∀ (i : Nat) r, rows[i]? = some r → r ∈ optC i (n - i)) ∧ BoxAt M' b d ∧ ExtB b M M') (fun _ _ _ _ => trivial) ?_ ?_
    ⟨0, n, [], none, rfl, by omega, rfl, .nil hp, rfl, (fun i r h => by simp at h), hb2, e2⟩
  · rintro env M3 ⟨w, m, rows, x5, hd, hw, rfl, hR, hrl, hro, hb3, e3⟩
    have z := rngD_nil hd.symm
    subst z
    clear hd
    have hwn : w = n := by omega
    subst hwn
    have bd0 : Bd w rows := ⟨hrl, fun r hr => by
      obtain ⟨i, hi, e⟩ := List.getElem_of_mem hr
      obtain ⟨o1, o2⟩ := optC_in (hro i r (by rw [List.getElem?_eq_getElem hi, e]))
      exact ⟨by omega, fun v hv => by have := o2 v hv; omega⟩⟩
    have hgood : goodC w (closC w rows w) = true := by
      have hmem : w ∈ [1, 2, 3, 4] := by
        simp only [List.mem_cons, List.not_mem_nil, or_false]
        omega
      refine List.all_eq_true.mp (good_all w hmem) rows (mem_allC (Nat.le_refl _) hrl fun i r h => ?_)
      have z := hro i r h
      rw [show w - w + i = i by omega]
      exact z
    try (simp only [↓e_seq, ↓e_next, ↓e_break, ↓e_cont, ↓e_expr, ↓e_ret, ↓e_retN, ↓e_if, ↓e_never, ↓e_asg, ↓e_name, ↓e_agtup, ↓e_agcons, ↓e_agnil, ↓e_agsub, ↓e_aug, ↓e_dput, ↓e_var, ↓e_c, ↓e_op, ↓e_some, ↓e_none, ↓e_test, ↓e_and, ↓e_or, ↓e_not, ↓e_yes, ↓e_truth,   ↓e_tru_bl, ↓e_tru_int, ↓e_tru_non, ↓e_tru_str, ↓e_tru_tup, ↓e_tru_obj, ↓e_chain, ↓e_orV, ↓e_andV, ↓e_notV, ↓e_ifE, ↓e_neg, ↓e_nil, ↓e_cons, ↓e_tup, ↓e_lst, ↓e_dnew, ↓e_call, ↓e_cb, ↓e_isi, ↓e_sl, ↓e_onone, ↓e_osome, ↓e_rev, ↓e_lm, ↓e_append, ↓e_extend, ↓e_pop, ↓e_join, ↓e_dget2, ↓e_sortSet, ↓e_sortS, ↓e_setd, strsOf_map, ↓e_maxI, ↓e_disp, ↓e_pairN, ↓e_pairC, intsOf_map, ↓e_for, ↓e_ilist, ↓e_itup, ↓e_rng1, ↓e_rng2, ↓e_lc, ↓e_lc2, e_lc2N, ↓e_ienum, ↓e_izip, ↓e_anyB, ↓e_allB, ↓e_mulS, blsOf_map, ↓e_set0, ↓e_sadd, ↓e_sortTx, ↓e_sortD, ↓e_repr, ↓e_extT, ↓e_sc2, ↓e_sortZ, ↓e_tupVals, ↓e_wget, ↓e_wix, ↓e_listZip, zipD_nil, zipD_cons, ↓e_dgetF, ↓e_idif, ↓e_isB, ↓e_sortI, ↓e_sortSetI, ↓e_tailR, ↓e_divmod, ↓e_strI, ↓e_lenD, ↓e_fmt, ↓e_fs2,   ↓e_add_int, ↓e_add_str, ↓e_add_tup, ↓e_add_obj, ↓e_iadd_int, ↓e_iadd_str, ↓e_iadd_obj, ↓e_I, ↓e_I0, ↓e_IS_int, ↓e_IS_str, ↓e_eq_str, ↓e_ne_str, ↓e_eq_int, ↓e_ne_int, ↓e_eq_bl, ↓e_ne_bl, ↓e_isN, ↓e_notN, ↓e_ix_tup, ↓e_ix_fl, ↓e_ix_str, ↓e_ix_obj, ↓e_in_tup, ↓e_nin_tup, ↓e_len_tup, ↓e_len_fl, ↓e_len_str, ↓e_len_obj, ↓e_int_int, ↓e_tuple_tup, ↓e_tuple_obj, ↓e_list_tup, ↓e_list_obj, ↓e_dget, ↓e_din, ↓e_dnin, ↓e_lstAt, ↓e_dicAt,   e_key_int, e_key_str, e_up, e_ty_str, e_ty_tup, e_ty_int, e_ty_bl, e_ty_non, atI0, atI1, atI2, atI3, atIL, ixN0, ixN1, cut_from1, e_ite_or, e_ite_and, zln, znl, zli, zil, zni, zin, sizeLine_eq, CMul, CDiv, cpow1018, true_or, or_true, kb_strstr, kb_tupstr, kb_tuptup, kb_strtup, kb_inttup, kb_bltup, kb_nontup, kb_strbl, kb_strint, kb_intbl, kb_intint, kb_blbl, kb_blint, kb_nonbl, kb_nonint, kb_nonstr, kb_intstr, kb_blstr, kb_tupbl, kb_tupint,   List.set_cons_zero, List.set_cons_succ, List.set_nil, List.getElem?_cons_zero, List.getElem?_cons_succ, List.getElem?_nil, List.length_cons, List.length_nil, List.length_map, List.length_append, e_lcN, e_lcC, e_forN, e_forC, List.getLast?_concat, List.dropLast_concat, List.nil_append, List.cons_append, List.append_nil, List.append_assoc, List.reverse_cons, List.reverse_nil, List.isEmpty_nil, List.isEmpty_cons, isEmpty_snoc, List.any_cons, List.any_nil, List.all_cons, List.all_nil, flatD, eqF, in_non, in_tup, in_str, in_int, in_bl, in_obj, in_fl, startA, List.map_cons, List.map_nil, List.replicate_succ, List.replicate_zero,   Nat.reduceAdd, Nat.reduceSub, Nat.reduceLeDiff, Nat.zero_add, Int.reduceLE, Int.reduceLT, Int.reduceToNat, Int.reducePow, Int.reduceNeg, Int.reduceAdd, Int.reduceSub,   Option.isSome_some, Option.isSome_none, Bool.not_true, Bool.not_false, Bool.not_eq_true', Bool.not_eq_eq_eq_not, Bool.not_eq_true, Bool.false_eq_true, Bool.true_eq_false, Bool.and_true, Bool.true_and, Bool.or_false, Bool.false_or, Bool.or_true, Bool.true_or, Bool.and_false, Bool.false_and, if_true, if_false, ite_true, ite_false, reduceIte, reduceCtorEq, decide_true, decide_false, decide_eq_true_eq, decide_eq_false_iff_not, true_and, and_true, false_and, and_false, eq_self, ne_eq, not_false_eq_true, not_true_eq_false, and_self, *])
    refine ⟨by omega, by omega, ?_⟩
    refine for_run (fun ds env M' => ∃ (k : Int) (m : Nat) (rs : List (List Nat)) (x5 x6 x7 : Option D), ds = rngD k m ∧ env = [some (.obj b), some (.str (if pos = true then z_positive else z_minimal)), some (.obj nm), some (.int (w : Int)), some (.obj p), x5, x6, x7, none, none, none, none, none, none, none] ∧ RowsAt natI M' p rs ∧ Bd w rs ∧ closC w rs m = closC w rows w ∧ BoxAt M' b d ∧ ExtB b M M') (fun _ _ _ _ => trivial) ?_ ?_
      ⟨0, w, rows, x5, none, none, rfl, rfl, hR, bd0, rfl, hb3, e3⟩
    · rintro env M4 ⟨k, m, rs, x5, x6, x7, hd, rfl, hR4, bd4, hcl, hb4, e4⟩
      have z := rngD_nil hd.symm
      subst z
      clear hd
      have e : rs = closC w rows w := hcl
      rw [← e] at hgood
      have hnm4 := e4 _ _ nnb hnm
      obtain ⟨g1, g2⟩ := goodC_out hgood
      exact p_m1 hb4 hR4 hgood hnm4 hn4 fun m M' h1 h2 h3 h4 h5 => q m M' h2 h3 (by rw [h1, g1]; exact hn4) (fun r hr => by
        rw [h1] at hr
        obtain ⟨i, hi, e9⟩ := List.getElem_of_mem hr
        have z := (g2 i (by omega)).1
        rw [List.getD_eq_getElem?_getD, List.getElem?_eq_getElem hi] at z
        rw [← e9]
        exact z) h4 (e4.trans h5)
    · rintro y r N env M4 ⟨k, m, rs, x5, x6, x7, hd, rfl, hR4, bd4, hcl, hb4, e4⟩ next
      obtain ⟨m, rfl, rfl, rfl⟩ := rngD_cons hd.symm
      clear hd
      have hcl2 : closC w (turnC w rs (List.range w)) m = closC w rows w := hcl
      try (simp only [↓e_seq, ↓e_next, ↓e_break, ↓e_cont, ↓e_expr, ↓e_ret, ↓e_retN, ↓e_if, ↓e_never, ↓e_asg, ↓e_name, ↓e_agtup, ↓e_agcons, ↓e_agnil, ↓e_agsub, ↓e_aug, ↓e_dput, ↓e_var, ↓e_c, ↓e_op, ↓e_some, ↓e_none, ↓e_test, ↓e_and, ↓e_or, ↓e_not, ↓e_yes, ↓e_truth,   ↓e_tru_bl, ↓e_tru_int, ↓e_tru_non, ↓e_tru_str, ↓e_tru_tup, ↓e_tru_obj, ↓e_chain, ↓e_orV, ↓e_andV, ↓e_notV, ↓e_ifE, ↓e_neg, ↓e_nil, ↓e_cons, ↓e_tup, ↓e_lst, ↓e_dnew, ↓e_call, ↓e_cb, ↓e_isi, ↓e_sl, ↓e_onone, ↓e_osome, ↓e_rev, ↓e_lm, ↓e_append, ↓e_extend, ↓e_pop, ↓e_join, ↓e_dget2, ↓e_sortSet, ↓e_sortS, ↓e_setd, strsOf_map, ↓e_maxI, ↓e_disp, ↓e_pairN, ↓e_pairC, intsOf_map, ↓e_for, ↓e_ilist, ↓e_itup, ↓e_rng1, ↓e_rng2, ↓e_lc, ↓e_lc2, e_lc2N, ↓e_ienum, ↓e_izip, ↓e_anyB, ↓e_allB, ↓e_mulS, blsOf_map, ↓e_set0, ↓e_sadd, ↓e_sortTx, ↓e_sortD, ↓e_repr, ↓e_extT, ↓e_sc2, ↓e_sortZ, ↓e_tupVals, ↓e_wget, ↓e_wix, ↓e_listZip, zipD_nil, zipD_cons, ↓e_dgetF, ↓e_idif, ↓e_isB, ↓e_sortI, ↓e_sortSetI, ↓e_tailR, ↓e_divmod, ↓e_strI, ↓e_lenD, ↓e_fmt, ↓e_fs2,   ↓e_add_int, ↓e_add_str, ↓e_add_tup, ↓e_add_obj, ↓e_iadd_int, ↓e_iadd_str, ↓e_iadd_obj, ↓e_I, ↓e_I0, ↓e_IS_int, ↓e_IS_str, ↓e_eq_str, ↓e_ne_str, ↓e_eq_int, ↓e_ne_int, ↓e_eq_bl, ↓e_ne_bl, ↓e_isN, ↓e_notN, ↓e_ix_tup, ↓e_ix_fl, ↓e_ix_str, ↓e_ix_obj, ↓e_in_tup, ↓e_nin_tup, ↓e_len_tup, ↓e_len_fl, ↓e_len_str, ↓e_len_obj, ↓e_int_int, ↓e_tuple_tup, ↓e_tuple_obj, ↓e_list_tup, ↓e_list_obj, ↓e_dget, ↓e_din, ↓e_dnin, ↓e_lstAt, ↓e_dicAt,   e_key_int, e_key_str, e_up, e_ty_str, e_ty_tup, e_ty_int, e_ty_bl, e_ty_non, atI0, atI1, atI2, atI3, atIL, ixN0, ixN1, cut_from1, e_ite_or, e_ite_and, zln, znl, zli, zil, zni, zin, sizeLine_eq, CMul, CDiv, cpow1018, true_or, or_true, kb_strstr, kb_tupstr, kb_tuptup, kb_strtup, kb_inttup, kb_bltup, kb_nontup, kb_strbl, kb_strint, kb_intbl, kb_intint, kb_blbl, kb_blint, kb_nonbl, kb_nonint, kb_nonstr, kb_intstr, kb_blstr, kb_tupbl, kb_tupint,   List.set_cons_zero, List.set_cons_succ, List.set_nil, List.getElem?_cons_zero, List.getElem?_cons_succ, List.getElem?_nil, List.length_cons, List.length_nil, List.length_map, List.length_append, e_lcN, e_lcC, e_forN, e_forC, List.getLast?_concat, List.dropLast_concat, List.nil_append, List.cons_append, List.append_nil, List.append_assoc, List.reverse_cons, List.reverse_nil, List.isEmpty_nil, List.isEmpty_cons, isEmpty_snoc, List.any_cons, List.any_nil, List.all_cons, List.all_nil, flatD, eqF, in_non, in_tup, in_str, in_int, in_bl, in_obj, in_fl, startA, List.map_cons, List.map_nil, List.replicate_succ, List.replicate_zero,   Nat.reduceAdd, Nat.reduceSub, Nat.reduceLeDiff, Nat.zero_add, Int.reduceLE, Int.reduceLT, Int.reduceToNat, Int.reducePow, Int.reduceNeg, Int.reduceAdd, Int.reduceSub,   Option.isSome_some, Option.isSome_none, Bool.not_true, Bool.not_false, Bool.not_eq_true', Bool.not_eq_eq_eq_not, Bool.not_eq_true, Bool.false_eq_true, Bool.true_eq_false, Bool.and_true, Bool.true_and, Bool.or_false, Bool.false_or, Bool.or_true, Bool.true_or, Bool.and_false, Bool.false_and, if_true, if_false, ite_true, ite_false, reduceIte, reduceCtorEq, decide_true, decide_false, decide_eq_true_eq, decide_eq_false_iff_not, true_and, and_true, false_and, and_false, eq_self, ne_eq, not_false_eq_true, not_true_eq_false, and_self, *])
      refine ⟨by omega, by omega, ?_⟩
      rw [rng0]
      refine for_run (fun ds env M' => ∃ (rest : List Nat) (rs' : List (List Nat)) (x5 x7 : Option D), ds = rest.map natI ∧ (∀ v ∈ rest, v < w) ∧ env = [some (.obj b), some (.str (if pos = true then z_positive else z_minimal)), some (.obj nm), some (.int (w : Int)), some (.obj p), x5, some (.int k), x7, none, none, none, none, none, none, none] ∧ RowsAt natI M' p rs' ∧ Bd w rs' ∧ turnC w rs' rest = turnC w rs (List.range w) ∧ BoxAt M' b d ∧ ExtB b M M') (fun _ _ _ _ => trivial) ?_ ?_
        ⟨List.range w, rs, x5, x7, rfl, (fun v hv => List.mem_range.mp hv), rfl, hR4, bd4, rfl, hb4, e4⟩
      · rintro env M5 ⟨rest, rs', x5, x7, hd, hlt, rfl, hR5, bd5, hT, hb5, e5⟩
        have z := List.map_eq_nil_iff.mp hd.symm
        subst z
        have hT2 : rs' = turnC w rs (List.range w) := hT
        exact next _ _ ⟨k + 1, m, rs', _, _, _, rfl, rfl, hR5, bd5, by rw [hT2]; exact hcl2, hb5, e5⟩
      · rintro y r N2 env M5 ⟨rest, rs', x5, x7, hd, hlt, rfl, hR5, bd5, hT, hb5, e5⟩ next2
        cases rest with
        | nil => cases hd
        | cons u rest =>
          rw [List.map_cons] at hd
          injection hd with hd1 hd2
          subst hd1 hd2
          have hu := hlt u List.mem_cons_self
          obtain ⟨as, a, hp5, hal, hat, hMa, nap⟩ := hR5.get (w := u) (by rw [bd5.len]; exact hu)
          have hT2 : turnC w (innerC w u rs' (rs'.getD u [])) rest = turnC w rs (List.range w) := hT
          have hgl := (bd5.get (w := u)).1
          try (simp only [↓e_seq, ↓e_next, ↓e_break, ↓e_cont, ↓e_expr, ↓e_ret, ↓e_retN, ↓e_if, ↓e_never, ↓e_asg, ↓e_name, ↓e_agtup, ↓e_agcons, ↓e_agnil, ↓e_agsub, ↓e_aug, ↓e_dput, ↓e_var, ↓e_c, ↓e_op, ↓e_some, ↓e_none, ↓e_test, ↓e_and, ↓e_or, ↓e_not, ↓e_yes, ↓e_truth,   ↓e_tru_bl, ↓e_tru_int, ↓e_tru_non, ↓e_tru_str, ↓e_tru_tup, ↓e_tru_obj, ↓e_chain, ↓e_orV, ↓e_andV, ↓e_notV, ↓e_ifE, ↓e_neg, ↓e_nil, ↓e_cons, ↓e_tup, ↓e_lst, ↓e_dnew, ↓e_call, ↓e_cb, ↓e_isi, ↓e_sl, ↓e_onone, ↓e_osome, ↓e_rev, ↓e_lm, ↓e_append, ↓e_extend, ↓e_pop, ↓e_join, ↓e_dget2, ↓e_sortSet, ↓e_sortS, ↓e_setd, strsOf_map, ↓e_maxI, ↓e_disp, ↓e_pairN, ↓e_pairC, intsOf_map, ↓e_for, ↓e_ilist, ↓e_itup, ↓e_rng1, ↓e_rng2, ↓e_lc, ↓e_lc2, e_lc2N, ↓e_ienum, ↓e_izip, ↓e_anyB, ↓e_allB, ↓e_mulS, blsOf_map, ↓e_set0, ↓e_sadd, ↓e_sortTx, ↓e_sortD, ↓e_repr, ↓e_extT, ↓e_sc2, ↓e_sortZ, ↓e_tupVals, ↓e_wget, ↓e_wix, ↓e_listZip, zipD_nil, zipD_cons, ↓e_dgetF, ↓e_idif, ↓e_isB, ↓e_sortI, ↓e_sortSetI, ↓e_tailR, ↓e_divmod, ↓e_strI, ↓e_lenD, ↓e_fmt, ↓e_fs2,   ↓e_add_int, ↓e_add_str, ↓e_add_tup, ↓e_add_obj, ↓e_iadd_int, ↓e_iadd_str, ↓e_iadd_obj, ↓e_I, ↓e_I0, ↓e_IS_int, ↓e_IS_str, ↓e_eq_str, ↓e_ne_str, ↓e_eq_int, ↓e_ne_int, ↓e_eq_bl, ↓e_ne_bl, ↓e_isN, ↓e_notN, ↓e_ix_tup, ↓e_ix_fl, ↓e_ix_str, ↓e_ix_obj, ↓e_in_tup, ↓e_nin_tup, ↓e_len_tup, ↓e_len_fl, ↓e_len_str, ↓e_len_obj, ↓e_int_int, ↓e_tuple_tup, ↓e_tuple_obj, ↓e_list_tup, ↓e_list_obj, ↓e_dget, ↓e_din, ↓e_dnin, ↓e_lstAt, ↓e_dicAt,   e_key_int, e_key_str, e_up, e_ty_str, e_ty_tup, e_ty_int, e_ty_bl, e_ty_non, atI0, atI1, atI2, atI3, atIL, ixN0, ixN1, cut_from1, e_ite_or, e_ite_and, zln, znl, zli, zil, zni, zin, sizeLine_eq, CMul, CDiv, cpow1018, true_or, or_true, kb_strstr, kb_tupstr, kb_tuptup, kb_strtup, kb_inttup, kb_bltup, kb_nontup, kb_strbl, kb_strint, kb_intbl, kb_intint, kb_blbl, kb_blint, kb_nonbl, kb_nonint, kb_nonstr, kb_intstr, kb_blstr, kb_tupbl, kb_tupint,   List.set_cons_zero, List.set_cons_succ, List.set_nil, List.getElem?_cons_zero, List.getElem?_cons_succ, List.getElem?_nil, List.length_cons, List.length_nil, List.length_map, List.length_append, e_lcN, e_lcC, e_forN, e_forC, List.getLast?_concat, List.dropLast_concat, List.nil_append, List.cons_append, List.append_nil, List.append_assoc, List.reverse_cons, List.reverse_nil, List.isEmpty_nil, List.isEmpty_cons, isEmpty_snoc, List.any_cons, List.any_nil, List.all_cons, List.all_nil, flatD, eqF, in_non, in_tup, in_str, in_int, in_bl, in_obj, in_fl, startA, List.map_cons, List.map_nil, List.replicate_succ, List.replicate_zero,   Nat.reduceAdd, Nat.reduceSub, Nat.reduceLeDiff, Nat.zero_add, Int.reduceLE, Int.reduceLT, Int.reduceToNat, Int.reducePow, Int.reduceNeg, Int.reduceAdd, Int.reduceSub,   Option.isSome_some, Option.isSome_none, Bool.not_true, Bool.not_false, Bool.not_eq_true', Bool.not_eq_eq_eq_not, Bool.not_eq_true, Bool.false_eq_true, Bool.true_eq_false, Bool.and_true, Bool.true_and, Bool.or_false, Bool.false_or, Bool.or_true, Bool.true_or, Bool.and_false, Bool.false_and, if_true, if_false, ite_true, ite_false, reduceIte, reduceCtorEq, decide_true, decide_false, decide_eq_true_eq, decide_eq_false_iff_not, true_and, and_true, false_and, and_false, eq_self, ne_eq, not_false_eq_true, not_true_eq_false, and_self, *])
          intro qa nq
          have nqp : qa ≠ p := (fresh_ne nq hp5).symm
          have eq5 := Ext.new (mo := .lst ((rs'.getD u []).map natI)) nq
          have hq6 : up M5 qa (.lst ((rs'.getD u []).map natI)) qa = some (.lst ((rs'.getD u []).map natI)) := up_same
          generalize up M5 qa (.lst ((rs'.getD u []).map natI)) = M6 at *
          try (simp only [↓e_seq, ↓e_next, ↓e_break, ↓e_cont, ↓e_expr, ↓e_ret, ↓e_retN, ↓e_if, ↓e_never, ↓e_asg, ↓e_name, ↓e_agtup, ↓e_agcons, ↓e_agnil, ↓e_agsub, ↓e_aug, ↓e_dput, ↓e_var, ↓e_c, ↓e_op, ↓e_some, ↓e_none, ↓e_test, ↓e_and, ↓e_or, ↓e_not, ↓e_yes, ↓e_truth,   ↓e_tru_bl, ↓e_tru_int, ↓e_tru_non, ↓e_tru_str, ↓e_tru_tup, ↓e_tru_obj, ↓e_chain, ↓e_orV, ↓e_andV, ↓e_notV, ↓e_ifE, ↓e_neg, ↓e_nil, ↓e_cons, ↓e_tup, ↓e_lst, ↓e_dnew, ↓e_call, ↓e_cb, ↓e_isi, ↓e_sl, ↓e_onone, ↓e_osome, ↓e_rev, ↓e_lm, ↓e_append, ↓e_extend, ↓e_pop, ↓e_join, ↓e_dget2, ↓e_sortSet, ↓e_sortS, ↓e_setd, strsOf_map, ↓e_maxI, ↓e_disp, ↓e_pairN, ↓e_pairC, intsOf_map, ↓e_for, ↓e_ilist, ↓e_itup, ↓e_rng1, ↓e_rng2, ↓e_lc, ↓e_lc2, e_lc2N, ↓e_ienum, ↓e_izip, ↓e_anyB, ↓e_allB, ↓e_mulS, blsOf_map, ↓e_set0, ↓e_sadd, ↓e_sortTx, ↓e_sortD, ↓e_repr, ↓e_extT, ↓e_sc2, ↓e_sortZ, ↓e_tupVals, ↓e_wget, ↓e_wix, ↓e_listZip, zipD_nil, zipD_cons, ↓e_dgetF, ↓e_idif, ↓e_isB, ↓e_sortI, ↓e_sortSetI, ↓e_tailR, ↓e_divmod, ↓e_strI, ↓e_lenD, ↓e_fmt, ↓e_fs2,   ↓e_add_int, ↓e_add_str, ↓e_add_tup, ↓e_add_obj, ↓e_iadd_int, ↓e_iadd_str, ↓e_iadd_obj, ↓e_I, ↓e_I0, ↓e_IS_int, ↓e_IS_str, ↓e_eq_str, ↓e_ne_str, ↓e_eq_int, ↓e_ne_int, ↓e_eq_bl, ↓e_ne_bl, ↓e_isN, ↓e_notN, ↓e_ix_tup, ↓e_ix_fl, ↓e_ix_str, ↓e_ix_obj, ↓e_in_tup, ↓e_nin_tup, ↓e_len_tup, ↓e_len_fl, ↓e_len_str, ↓e_len_obj, ↓e_int_int, ↓e_tuple_tup, ↓e_tuple_obj, ↓e_list_tup, ↓e_list_obj, ↓e_dget, ↓e_din, ↓e_dnin, ↓e_lstAt, ↓e_dicAt,   e_key_int, e_key_str, e_up, e_ty_str, e_ty_tup, e_ty_int, e_ty_bl, e_ty_non, atI0, atI1, atI2, atI3, atIL, ixN0, ixN1, cut_from1, e_ite_or, e_ite_and, zln, znl, zli, zil, zni, zin, sizeLine_eq, CMul, CDiv, cpow1018, true_or, or_true, kb_strstr, kb_tupstr, kb_tuptup, kb_strtup, kb_inttup, kb_bltup, kb_nontup, kb_strbl, kb_strint, kb_intbl, kb_intint, kb_blbl, kb_blint, kb_nonbl, kb_nonint, kb_nonstr, kb_intstr, kb_blstr, kb_tupbl, kb_tupint,   List.set_cons_zero, List.set_cons_succ, List.set_nil, List.getElem?_cons_zero, List.getElem?_cons_succ, List.getElem?_nil, List.length_cons, List.length_nil, List.length_map, List.length_append, e_lcN, e_lcC, e_forN, e_forC, List.getLast?_concat, List.dropLast_concat, List.nil_append, List.cons_append, List.append_nil, List.append_assoc, List.reverse_cons, List.reverse_nil, List.isEmpty_nil, List.isEmpty_cons, isEmpty_snoc, List.any_cons, List.any_nil, List.all_cons, List.all_nil, flatD, eqF, in_non, in_tup, in_str, in_int, in_bl, in_obj, in_fl, startA, List.map_cons, List.map_nil, List.replicate_succ, List.replicate_zero,   Nat.reduceAdd, Nat.reduceSub, Nat.reduceLeDiff, Nat.zero_add, Int.reduceLE, Int.reduceLT, Int.reduceToNat, Int.reducePow, Int.reduceNeg, Int.reduceAdd, Int.reduceSub,   Option.isSome_some, Option.isSome_none, Bool.not_true, Bool.not_false, Bool.not_eq_true', Bool.not_eq_eq_eq_not, Bool.not_eq_true, Bool.false_eq_true, Bool.true_eq_false, Bool.and_true, Bool.true_and, Bool.or_false, Bool.false_or, Bool.or_true, Bool.true_or, Bool.and_false, Bool.false_and, if_true, if_false, ite_true, ite_false, reduceIte, reduceCtorEq, decide_true, decide_false, decide_eq_true_eq, decide_eq_false_iff_not, true_and, and_true, false_and, and_false, eq_self, ne_eq, not_false_eq_true, not_true_eq_false, and_self, *])
          refine for_run (fun ds env M' => ∃ (rest2 : List Nat) (rs2 : List (List Nat)) (x7 : Option D), ds = rest2.map natI ∧ (∀ v ∈ rest2, v < w) ∧ env = [some (.obj b), some (.str (if pos = true then z_positive else z_minimal)), some (.obj nm), some (.int (w : Int)), some (.obj p), some (.int (u : Int)), some (.int k), x7, none, none, none, none, none, none, none] ∧ RowsAt natI M' p rs2 ∧ Bd w rs2 ∧ innerC w u rs2 rest2 = innerC w u rs' (rs'.getD u []) ∧ M' qa = some (.lst ((rs'.getD u []).map natI)) ∧ BoxAt M' b d ∧ ExtB b M M') ?_ ?_ ?_
            ⟨rs'.getD u [], rs', x7, rfl, (bd5.get (w := u)).2, rfl, hR5.ext eq5, bd5, rfl, hq6, hb5.ext eq5, e5.trans eq5.b⟩
          · rintro ds env M' ⟨_, _, _, _, _, _, _, _, _, h, _⟩
            exact h
          · rintro env M7 ⟨rest2, rs2, x7, hd, hlt2, rfl, hR7, bd7, hI, hq7, hb7, e7⟩
            have z := List.map_eq_nil_iff.mp hd.symm
            subst z
            have hI2 : rs2 = innerC w u rs' (rs'.getD u []) := hI
            exact next2 _ _ ⟨rest, rs2, _, _, rfl, (fun v hv => hlt v (List.mem_cons_of_mem _ hv)), rfl, hR7, bd7, by rw [hI2]; exact hT2, hb7, e7⟩
          · rintro y r N3 env M7 ⟨rest2, rs2, x7, hd, hlt2, rfl, hR7, bd7, hI, hq7, hb7, e7⟩ next3
            cases rest2 with
            | nil => cases hd
            | cons v rest2 =>
              rw [List.map_cons] at hd
              injection hd with hd1 hd2
              subst hd1 hd2
              have hv := hlt2 v List.mem_cons_self
              obtain ⟨as7, hp7, hl7, _⟩ := _root_.id hR7
              obtain ⟨au, _, _, hatu, hMu, nup⟩ := hR7.at hp7 (w := u) (by rw [bd7.len]; exact hu)
              obtain ⟨av, _, _, hatv, hMv, nvp⟩ := hR7.at hp7 (w := v) (by rw [bd7.len]; exact hv)
              have gu := bd7.get (w := u)
              have gv := bd7.get (w := v)
              have hI2 : innerC w u (rs2.set u (cup w (rs2.getD u []) (rs2.getD v []))) rest2 = innerC w u rs' (rs'.getD u []) := hI
              have hset := fun x M (h : RowsAt natI M p rs2) (e : M p = some (.lst (as7.map D.obj))) (hx : M x = some (.lst ((cup w (rs2.getD u []) (rs2.getD v [])).map natI))) (nx : x ≠ p) => h.put (w := u) e hx nx (by rw [bd7.len]; exact hu)
              have bd8 : Bd w (rs2.set u (cup w (rs2.getD u []) (rs2.getD v []))) := bd7.set
              have lu := gu.1
              have lv := gv.1
              have hl7' : as7.length = w := by rw [hl7, bd7.len]
              have hix : ixN w (u : Int) = some u := ixN_nat hu
              have hix2 : ixN rs2.length (u : Int) = some u := ixN_nat (by rw [bd7.len]; exact hu)
              clear next next2 hcl hcl2 hT hT2 hI hlt hp5 hat hMa hgl hp
              generalize hU : rs2.getD u [] = U at *
              generalize hV : rs2.getD v [] = V at *
              try (simp only [↓e_seq, ↓e_next, ↓e_break, ↓e_cont, ↓e_expr, ↓e_ret, ↓e_retN, ↓e_if, ↓e_never, ↓e_asg, ↓e_name, ↓e_agtup, ↓e_agcons, ↓e_agnil, ↓e_agsub, ↓e_aug, ↓e_dput, ↓e_var, ↓e_c, ↓e_op, ↓e_some, ↓e_none, ↓e_test, ↓e_and, ↓e_or, ↓e_not, ↓e_yes, ↓e_truth,   ↓e_tru_bl, ↓e_tru_int, ↓e_tru_non, ↓e_tru_str, ↓e_tru_tup, ↓e_tru_obj, ↓e_chain, ↓e_orV, ↓e_andV, ↓e_notV, ↓e_ifE, ↓e_neg, ↓e_nil, ↓e_cons, ↓e_tup, ↓e_lst, ↓e_dnew, ↓e_call, ↓e_cb, ↓e_isi, ↓e_sl, ↓e_onone, ↓e_osome, ↓e_rev, ↓e_lm, ↓e_append, ↓e_extend, ↓e_pop, ↓e_join, ↓e_dget2, ↓e_sortSet, ↓e_sortS, ↓e_setd, strsOf_map, ↓e_maxI, ↓e_disp, ↓e_pairN, ↓e_pairC, intsOf_map, ↓e_for, ↓e_ilist, ↓e_itup, ↓e_rng1, ↓e_rng2, ↓e_lc, ↓e_lc2, e_lc2N, ↓e_ienum, ↓e_izip, ↓e_anyB, ↓e_allB, ↓e_mulS, blsOf_map, ↓e_set0, ↓e_sadd, ↓e_sortTx, ↓e_sortD, ↓e_repr, ↓e_extT, ↓e_sc2, ↓e_sortZ, ↓e_tupVals, ↓e_wget, ↓e_wix, ↓e_listZip, zipD_nil, zipD_cons, ↓e_dgetF, ↓e_idif, ↓e_isB, ↓e_sortI, ↓e_sortSetI, ↓e_tailR, ↓e_divmod, ↓e_strI, ↓e_lenD, ↓e_fmt, ↓e_fs2,   ↓e_add_int, ↓e_add_str, ↓e_add_tup, ↓e_add_obj, ↓e_iadd_int, ↓e_iadd_str, ↓e_iadd_obj, ↓e_I, ↓e_I0, ↓e_IS_int, ↓e_IS_str, ↓e_eq_str, ↓e_ne_str, ↓e_eq_int, ↓e_ne_int, ↓e_eq_bl, ↓e_ne_bl, ↓e_isN, ↓e_notN, ↓e_ix_tup, ↓e_ix_fl, ↓e_ix_str, ↓e_ix_obj, ↓e_in_tup, ↓e_nin_tup, ↓e_len_tup, ↓e_len_fl, ↓e_len_str, ↓e_len_obj, ↓e_int_int, ↓e_tuple_tup, ↓e_tuple_obj, ↓e_list_tup, ↓e_list_obj, ↓e_dget, ↓e_din, ↓e_dnin, ↓e_lstAt, ↓e_dicAt,   e_key_int, e_key_str, e_up, e_ty_str, e_ty_tup, e_ty_int, e_ty_bl, e_ty_non, atI0, atI1, atI2, atI3, atIL, ixN0, ixN1, cut_from1, e_ite_or, e_ite_and, zln, znl, zli, zil, zni, zin, sizeLine_eq, CMul, CDiv, cpow1018, true_or, or_true, kb_strstr, kb_tupstr, kb_tuptup, kb_strtup, kb_inttup, kb_bltup, kb_nontup, kb_strbl, kb_strint, kb_intbl, kb_intint, kb_blbl, kb_blint, kb_nonbl, kb_nonint, kb_nonstr, kb_intstr, kb_blstr, kb_tupbl, kb_tupint,   List.set_cons_zero, List.set_cons_succ, List.set_nil, List.getElem?_cons_zero, List.getElem?_cons_succ, List.getElem?_nil, List.length_cons, List.length_nil, List.length_map, List.length_append, e_lcN, e_lcC, e_forN, e_forC, List.getLast?_concat, List.dropLast_concat, List.nil_append, List.cons_append, List.append_nil, List.append_assoc, List.reverse_cons, List.reverse_nil, List.isEmpty_nil, List.isEmpty_cons, isEmpty_snoc, List.any_cons, List.any_nil, List.all_cons, List.all_nil, flatD, eqF, in_non, in_tup, in_str, in_int, in_bl, in_obj, in_fl, startA, List.map_cons, List.map_nil, List.replicate_succ, List.replicate_zero,   Nat.reduceAdd, Nat.reduceSub, Nat.reduceLeDiff, Nat.zero_add, Int.reduceLE, Int.reduceLT, Int.reduceToNat, Int.reducePow, Int.reduceNeg, Int.reduceAdd, Int.reduceSub,   Option.isSome_some, Option.isSome_none, Bool.not_true, Bool.not_false, Bool.not_eq_true', Bool.not_eq_eq_eq_not, Bool.not_eq_true, Bool.false_eq_true, Bool.true_eq_false, Bool.and_true, Bool.true_and, Bool.or_false, Bool.false_or, Bool.or_true, Bool.true_or, Bool.and_false, Bool.false_and, if_true, if_false, ite_true, ite_false, reduceIte, reduceCtorEq, decide_true, decide_false, decide_eq_true_eq, decide_eq_false_iff_not, true_and, and_true, false_and, and_false, eq_self, ne_eq, not_false_eq_true, not_true_eq_false, and_self, *])
              refine ⟨by omega, ?_⟩
              intro x nx
              have eX := Ext.new (mo := .lst (U.map natI ++ V.map natI)) nx
              have hx8 : up M7 x (.lst (U.map natI ++ V.map natI)) x = some (.lst (U.map natI ++ V.map natI)) := up_same
              generalize up M7 x (.lst (U.map natI ++ V.map natI)) = M8 at *
              have hp8 := eX _ _ hp7
              have hR8 := hR7.ext eX
              have hq8 := eX _ _ hq7
              have hb8 := hb7.ext eX
              have e8 := e7.trans eX.b
              clear hp7 hR7 hq7 hb7 e7 eX nx hMu hMv
              try (simp only [↓e_seq, ↓e_next, ↓e_break, ↓e_cont, ↓e_expr, ↓e_ret, ↓e_retN, ↓e_if, ↓e_never, ↓e_asg, ↓e_name, ↓e_agtup, ↓e_agcons, ↓e_agnil, ↓e_agsub, ↓e_aug, ↓e_dput, ↓e_var, ↓e_c, ↓e_op, ↓e_some, ↓e_none, ↓e_test, ↓e_and, ↓e_or, ↓e_not, ↓e_yes, ↓e_truth,   ↓e_tru_bl, ↓e_tru_int, ↓e_tru_non, ↓e_tru_str, ↓e_tru_tup, ↓e_tru_obj, ↓e_chain, ↓e_orV, ↓e_andV, ↓e_notV, ↓e_ifE, ↓e_neg, ↓e_nil, ↓e_cons, ↓e_tup, ↓e_lst, ↓e_dnew, ↓e_call, ↓e_cb, ↓e_isi, ↓e_sl, ↓e_onone, ↓e_osome, ↓e_rev, ↓e_lm, ↓e_append, ↓e_extend, ↓e_pop, ↓e_join, ↓e_dget2, ↓e_sortSet, ↓e_sortS, ↓e_setd, strsOf_map, ↓e_maxI, ↓e_disp, ↓e_pairN, ↓e_pairC, intsOf_map, ↓e_for, ↓e_ilist, ↓e_itup, ↓e_rng1, ↓e_rng2, ↓e_lc, ↓e_lc2, e_lc2N, ↓e_ienum, ↓e_izip, ↓e_anyB, ↓e_allB, ↓e_mulS, blsOf_map, ↓e_set0, ↓e_sadd, ↓e_sortTx, ↓e_sortD, ↓e_repr, ↓e_extT, ↓e_sc2, ↓e_sortZ, ↓e_tupVals, ↓e_wget, ↓e_wix, ↓e_listZip, zipD_nil, zipD_cons, ↓e_dgetF, ↓e_idif, ↓e_isB, ↓e_sortI, ↓e_sortSetI, ↓e_tailR, ↓e_divmod, ↓e_strI, ↓e_lenD, ↓e_fmt, ↓e_fs2,   ↓e_add_int, ↓e_add_str, ↓e_add_tup, ↓e_add_obj, ↓e_iadd_int, ↓e_iadd_str, ↓e_iadd_obj, ↓e_I, ↓e_I0, ↓e_IS_int, ↓e_IS_str, ↓e_eq_str, ↓e_ne_str, ↓e_eq_int, ↓e_ne_int, ↓e_eq_bl, ↓e_ne_bl, ↓e_isN, ↓e_notN, ↓e_ix_tup, ↓e_ix_fl, ↓e_ix_str, ↓e_ix_obj, ↓e_in_tup, ↓e_nin_tup, ↓e_len_tup, ↓e_len_fl, ↓e_len_str, ↓e_len_obj, ↓e_int_int, ↓e_tuple_tup, ↓e_tuple_obj, ↓e_list_tup, ↓e_list_obj, ↓e_dget, ↓e_din, ↓e_dnin, ↓e_lstAt, ↓e_dicAt,   e_key_int, e_key_str, e_up, e_ty_str, e_ty_tup, e_ty_int, e_ty_bl, e_ty_non, atI0, atI1, atI2, atI3, atIL, ixN0, ixN1, cut_from1, e_ite_or, e_ite_and, zln, znl, zli, zil, zni, zin, sizeLine_eq, CMul, CDiv, cpow1018, true_or, or_true, kb_strstr, kb_tupstr, kb_tuptup, kb_strtup, kb_inttup, kb_bltup, kb_nontup, kb_strbl, kb_strint, kb_intbl, kb_intint, kb_blbl, kb_blint, kb_nonbl, kb_nonint, kb_nonstr, kb_intstr, kb_blstr, kb_tupbl, kb_tupint,   List.set_cons_zero, List.set_cons_succ, List.set_nil, List.getElem?_cons_zero, List.getElem?_cons_succ, List.getElem?_nil, List.length_cons, List.length_nil, List.length_map, List.length_append, e_lcN, e_lcC, e_forN, e_forC, List.getLast?_concat, List.dropLast_concat, List.nil_append, List.cons_append, List.append_nil, List.append_assoc, List.reverse_cons, List.reverse_nil, List.isEmpty_nil, List.isEmpty_cons, isEmpty_snoc, List.any_cons, List.any_nil, List.all_cons, List.all_nil, flatD, eqF, in_non, in_tup, in_str, in_int, in_bl, in_obj, in_fl, startA, List.map_cons, List.map_nil, List.replicate_succ, List.replicate_zero,   Nat.reduceAdd, Nat.reduceSub, Nat.reduceLeDiff, Nat.zero_add, Int.reduceLE, Int.reduceLT, Int.reduceToNat, Int.reducePow, Int.reduceNeg, Int.reduceAdd, Int.reduceSub,   Option.isSome_some, Option.isSome_none, Bool.not_true, Bool.not_false, Bool.not_eq_true', Bool.not_eq_eq_eq_not, Bool.not_eq_true, Bool.false_eq_true, Bool.true_eq_false, Bool.and_true, Bool.true_and, Bool.or_false, Bool.false_or, Bool.or_true, Bool.true_or, Bool.and_false, Bool.false_and, if_true, if_false, ite_true, ite_false, reduceIte, reduceCtorEq, decide_true, decide_false, decide_eq_true_eq, decide_eq_false_iff_not, true_and, and_true, false_and, and_false, eq_self, ne_eq, not_false_eq_true, not_true_eq_false, and_self, *])
              refine ⟨U.map (fun k : Nat => (k : Int)) ++ V.map fun k : Nat => (k : Int), by rw [List.map_append, List.map_map, List.map_map]; rfl, by rw [List.length_append, List.length_map, List.length_map]; omega, fun zs hz1 hz2 => ?_⟩
              have hzs : zs.map D.int = (cup w U V).map natI := by
                rw [cup_is gu.2 gv.2 hz1 hz2, List.map_map]
                rfl
              rw [hzs]
              clear hz1 hz2 hzs
              intro y ny
              have nyp : y ≠ p := (fresh_ne ny hp8).symm
              have eY := Ext.new (mo := .lst ((cup w U V).map natI)) ny
              have hy9 : up M8 y (.lst ((cup w U V).map natI)) y = some (.lst ((cup w U V).map natI)) := up_same
              generalize up M8 y (.lst ((cup w U V).map natI)) = M9 at *
              have hp9 := eY _ _ hp8
              have hR9 := hset y M9 (hR8.ext eY) hp9 hy9 nyp
              have hq9 : up M9 p (.lst ((as7.map D.obj).set u (.obj y))) qa = some (.lst ((rs'.getD u []).map natI)) := by rw [up_ne nqp]; exact eY _ _ hq8
              have hb9 := (hb8.ext eY).upd (mo := .lst ((as7.map D.obj).set u (.obj y))) nbp.1 nbp.2
              have e9 : ExtB b M (up M9 p (.lst ((as7.map D.obj).set u (.obj y)))) := ExtB.up0 np0 (e8.trans eY.b)
              have go := next3 [some (.obj b), some (.str (if pos = true then z_positive else z_minimal)), some (.obj nm), some (.int (w : Int)), some (.obj p), some (.int (u : Int)), some (.int k), some (.int (v : Int)), none, none, none, none, none, none, none] _ ⟨rest2, _, _, rfl, (fun v hv => hlt2 v (List.mem_cons_of_mem _ hv)), rfl, hR9, bd8, hI2, hq9, hb9, e9⟩
              clear next3 hset hR8 hq8 hb8 e8 hp8 ny eY hR9 hq9 hb9 e9 hI2
              try (simp only [↓e_seq, ↓e_next, ↓e_break, ↓e_cont, ↓e_expr, ↓e_ret, ↓e_retN, ↓e_if, ↓e_never, ↓e_asg, ↓e_name, ↓e_agtup, ↓e_agcons, ↓e_agnil, ↓e_agsub, ↓e_aug, ↓e_dput, ↓e_var, ↓e_c, ↓e_op, ↓e_some, ↓e_none, ↓e_test, ↓e_and, ↓e_or, ↓e_not, ↓e_yes, ↓e_truth,   ↓e_tru_bl, ↓e_tru_int, ↓e_tru_non, ↓e_tru_str, ↓e_tru_tup, ↓e_tru_obj, ↓e_chain, ↓e_orV, ↓e_andV, ↓e_notV, ↓e_ifE, ↓e_neg, ↓e_nil, ↓e_cons, ↓e_tup, ↓e_lst, ↓e_dnew, ↓e_call, ↓e_cb, ↓e_isi, ↓e_sl, ↓e_onone, ↓e_osome, ↓e_rev, ↓e_lm, ↓e_append, ↓e_extend, ↓e_pop, ↓e_join, ↓e_dget2, ↓e_sortSet, ↓e_sortS, ↓e_setd, strsOf_map, ↓e_maxI, ↓e_disp, ↓e_pairN, ↓e_pairC, intsOf_map, ↓e_for, ↓e_ilist, ↓e_itup, ↓e_rng1, ↓e_rng2, ↓e_lc, ↓e_lc2, e_lc2N, ↓e_ienum, ↓e_izip, ↓e_anyB, ↓e_allB, ↓e_mulS, blsOf_map, ↓e_set0, ↓e_sadd, ↓e_sortTx, ↓e_sortD, ↓e_repr, ↓e_extT, ↓e_sc2, ↓e_sortZ, ↓e_tupVals, ↓e_wget, ↓e_wix, ↓e_listZip, zipD_nil, zipD_cons, ↓e_dgetF, ↓e_idif, ↓e_isB, ↓e_sortI, ↓e_sortSetI, ↓e_tailR, ↓e_divmod, ↓e_strI, ↓e_lenD, ↓e_fmt, ↓e_fs2,   ↓e_add_int, ↓e_add_str, ↓e_add_tup, ↓e_add_obj, ↓e_iadd_int, ↓e_iadd_str, ↓e_iadd_obj, ↓e_I, ↓e_I0, ↓e_IS_int, ↓e_IS_str, ↓e_eq_str, ↓e_ne_str, ↓e_eq_int, ↓e_ne_int, ↓e_eq_bl, ↓e_ne_bl, ↓e_isN, ↓e_notN, ↓e_ix_tup, ↓e_ix_fl, ↓e_ix_str, ↓e_ix_obj, ↓e_in_tup, ↓e_nin_tup, ↓e_len_tup, ↓e_len_fl, ↓e_len_str, ↓e_len_obj, ↓e_int_int, ↓e_tuple_tup, ↓e_tuple_obj, ↓e_list_tup, ↓e_list_obj, ↓e_dget, ↓e_din, ↓e_dnin, ↓e_lstAt, ↓e_dicAt,   e_key_int, e_key_str, e_up, e_ty_str, e_ty_tup, e_ty_int, e_ty_bl, e_ty_non, atI0, atI1, atI2, atI3, atIL, ixN0, ixN1, cut_from1, e_ite_or, e_ite_and, zln, znl, zli, zil, zni, zin, sizeLine_eq, CMul, CDiv, cpow1018, true_or, or_true, kb_strstr, kb_tupstr, kb_tuptup, kb_strtup, kb_inttup, kb_bltup, kb_nontup, kb_strbl, kb_strint, kb_intbl, kb_intint, kb_blbl, kb_blint, kb_nonbl, kb_nonint, kb_nonstr, kb_intstr, kb_blstr, kb_tupbl, kb_tupint,   List.set_cons_zero, List.set_cons_succ, List.set_nil, List.getElem?_cons_zero, List.getElem?_cons_succ, List.getElem?_nil, List.length_cons, List.length_nil, List.length_map, List.length_append, e_lcN, e_lcC, e_forN, e_forC, List.getLast?_concat, List.dropLast_concat, List.nil_append, List.cons_append, List.append_nil, List.append_assoc, List.reverse_cons, List.reverse_nil, List.isEmpty_nil, List.isEmpty_cons, isEmpty_snoc, List.any_cons, List.any_nil, List.all_cons, List.all_nil, flatD, eqF, in_non, in_tup, in_str, in_int, in_bl, in_obj, in_fl, startA, List.map_cons, List.map_nil, List.replicate_succ, List.replicate_zero,   Nat.reduceAdd, Nat.reduceSub, Nat.reduceLeDiff, Nat.zero_add, Int.reduceLE, Int.reduceLT, Int.reduceToNat, Int.reducePow, Int.reduceNeg, Int.reduceAdd, Int.reduceSub,   Option.isSome_some, Option.isSome_none, Bool.not_true, Bool.not_false, Bool.not_eq_true', Bool.not_eq_eq_eq_not, Bool.not_eq_true, Bool.false_eq_true, Bool.true_eq_false, Bool.and_true, Bool.true_and, Bool.or_false, Bool.false_or, Bool.or_true, Bool.true_or, Bool.and_false, Bool.false_and, if_true, if_false, ite_true, ite_false, reduceIte, reduceCtorEq, decide_true, decide_false, decide_eq_true_eq, decide_eq_false_iff_not, true_and, and_true, false_and, and_false, eq_self, ne_eq, not_false_eq_true, not_true_eq_false, and_self, *])
  · rintro y r N env M3 ⟨w, m, rows, x5, hd, hw, rfl, hR, hrl, hro, hb3, e3⟩ next
    obtain ⟨m, rfl, rfl, rfl⟩ := rngD_cons hd.symm
    clear hd
    obtain ⟨as, hp3, hal, _⟩ := _root_.id hR
    have npb : p ≠ b := nbp.1.symm
    try (simp only [↓e_seq, ↓e_next, ↓e_break, ↓e_cont, ↓e_expr, ↓e_ret, ↓e_retN, ↓e_if, ↓e_never, ↓e_asg, ↓e_name, ↓e_agtup, ↓e_agcons, ↓e_agnil, ↓e_agsub, ↓e_aug, ↓e_dput, ↓e_var, ↓e_c, ↓e_op, ↓e_some, ↓e_none, ↓e_test, ↓e_and, ↓e_or, ↓e_not, ↓e_yes, ↓e_truth,   ↓e_tru_bl, ↓e_tru_int, ↓e_tru_non, ↓e_tru_str, ↓e_tru_tup, ↓e_tru_obj, ↓e_chain, ↓e_orV, ↓e_andV, ↓e_notV, ↓e_ifE, ↓e_neg, ↓e_nil, ↓e_cons, ↓e_tup, ↓e_lst, ↓e_dnew, ↓e_call, ↓e_cb, ↓e_isi, ↓e_sl, ↓e_onone, ↓e_osome, ↓e_rev, ↓e_lm, ↓e_append, ↓e_extend, ↓e_pop, ↓e_join, ↓e_dget2, ↓e_sortSet, ↓e_sortS, ↓e_setd, strsOf_map, ↓e_maxI, ↓e_disp, ↓e_pairN, ↓e_pairC, intsOf_map, ↓e_for, ↓e_ilist, ↓e_itup, ↓e_rng1, ↓e_rng2, ↓e_lc, ↓e_lc2, e_lc2N, ↓e_ienum, ↓e_izip, ↓e_anyB, ↓e_allB, ↓e_mulS, blsOf_map, ↓e_set0, ↓e_sadd, ↓e_sortTx, ↓e_sortD, ↓e_repr, ↓e_extT, ↓e_sc2, ↓e_sortZ, ↓e_tupVals, ↓e_wget, ↓e_wix, ↓e_listZip, zipD_nil, zipD_cons, ↓e_dgetF, ↓e_idif, ↓e_isB, ↓e_sortI, ↓e_sortSetI, ↓e_tailR, ↓e_divmod, ↓e_strI, ↓e_lenD, ↓e_fmt, ↓e_fs2,   ↓e_add_int, ↓e_add_str, ↓e_add_tup, ↓e_add_obj, ↓e_iadd_int, ↓e_iadd_str, ↓e_iadd_obj, ↓e_I, ↓e_I0, ↓e_IS_int, ↓e_IS_str, ↓e_eq_str, ↓e_ne_str, ↓e_eq_int, ↓e_ne_int, ↓e_eq_bl, ↓e_ne_bl, ↓e_isN, ↓e_notN, ↓e_ix_tup, ↓e_ix_fl, ↓e_ix_str, ↓e_ix_obj, ↓e_in_tup, ↓e_nin_tup, ↓e_len_tup, ↓e_len_fl, ↓e_len_str, ↓e_len_obj, ↓e_int_int, ↓e_tuple_tup, ↓e_tuple_obj, ↓e_list_tup, ↓e_list_obj, ↓e_dget, ↓e_din, ↓e_dnin, ↓e_lstAt, ↓e_dicAt,   e_key_int, e_key_str, e_up, e_ty_str, e_ty_tup, e_ty_int, e_ty_bl, e_ty_non, atI0, atI1, atI2, atI3, atIL, ixN0, ixN1, cut_from1, e_ite_or, e_ite_and, zln, znl, zli, zil, zni, zin, sizeLine_eq, CMul, CDiv, cpow1018, true_or, or_true, kb_strstr, kb_tupstr, kb_tuptup, kb_strtup, kb_inttup, kb_bltup, kb_nontup, kb_strbl, kb_strint, kb_intbl, kb_intint, kb_blbl, kb_blint, kb_nonbl, kb_nonint, kb_nonstr, kb_intstr, kb_blstr, kb_tupbl, kb_tupint,   List.set_cons_zero, List.set_cons_succ, List.set_nil, List.getElem?_cons_zero, List.getElem?_cons_succ, List.getElem?_nil, List.length_cons, List.length_nil, List.length_map, List.length_append, e_lcN, e_lcC, e_forN, e_forC, List.getLast?_concat, List.dropLast_concat, List.nil_append, List.cons_append, List.append_nil, List.append_assoc, List.reverse_cons, List.reverse_nil, List.isEmpty_nil, List.isEmpty_cons, isEmpty_snoc, List.any_cons, List.any_nil, List.all_cons, List.all_nil, flatD, eqF, in_non, in_tup, in_str, in_int, in_bl, in_obj, in_fl, startA, List.map_cons, List.map_nil, List.replicate_succ, List.replicate_zero,   Nat.reduceAdd, Nat.reduceSub, Nat.reduceLeDiff, Nat.zero_add, Int.reduceLE, Int.reduceLT, Int.reduceToNat, Int.reducePow, Int.reduceNeg, Int.reduceAdd, Int.reduceSub,   Option.isSome_some, Option.isSome_none, Bool.not_true, Bool.not_false, Bool.not_eq_true', Bool.not_eq_eq_eq_not, Bool.not_eq_true, Bool.false_eq_true, Bool.true_eq_false, Bool.and_true, Bool.true_and, Bool.or_false, Bool.false_or, Bool.or_true, Bool.true_or, Bool.and_false, Bool.false_and, if_true, if_false, ite_true, ite_false, reduceIte, reduceCtorEq, decide_true, decide_false, decide_eq_true_eq, decide_eq_false_iff_not, true_and, and_true, false_and, and_false, eq_self, ne_eq, not_false_eq_true, not_true_eq_false, and_self, *])
    refine ⟨⟨by omega, by omega, by omega, by omega⟩, by rw [rngD_length]; omega, ?_⟩
    rw [show ((n : Int) - (w : Int)).toNat = n - w by omega]
    refine lc_run (fun ds acc M' => ∃ (i j : Nat) (done : List Nat), ds = rngD ((w + i : Nat) : Int) j ∧ i + j = n - w ∧ acc = done.map natI ∧ done ∈ optC w i ∧ BoxAt M' b d ∧ ExtB b M3 M') (fun _ _ _ _ => trivial) ?_ ?_ ⟨0, n - w, [], rfl, by omega, rfl, List.mem_singleton.mpr rfl, hb3, ExtB.refl b M3⟩
    · rintro acc M4 ⟨i, j, done, hd, hij, rfl, hop, hb4, e4⟩
      have z := rngD_nil hd.symm
      subst z
      clear hd
      have hi : i = n - w := by omega
      rw [hi] at hop
      intro x nx
      have hp4 := e4 _ _ npb hp3
      have hR4 := hR.extB noObj_nat hb3 e4
      have nxp : x ≠ p := (fresh_ne nx hp4).symm
      have eX := Ext.new (mo := .lst (done.map natI)) nx
      have hx5 : up M4 x (.lst (done.map natI)) x = some (.lst (done.map natI)) := up_same
      generalize up M4 x (.lst (done.map natI)) = M5 at *
      have hp5 := eX _ _ hp4
      have hR6 := (hR4.ext eX).snoc hp5 hx5 nxp
      have hb6 := (hb4.ext eX).upd (mo := .lst (as.map D.obj ++ [.obj x])) nbp.1 nbp.2
      have e6 : ExtB b M (up M5 p (.lst (as.map D.obj ++ [.obj x]))) := ExtB.up0 np0 ((e3.trans e4).trans eX.b)
      have go := next [some (.obj b), some (.str (if pos = true then z_positive else z_minimal)), some (.obj nm), some (.int (n : Int)), some (.obj p), some (.int (w : Int)), none, none, none, none, none, none, none, none, none] _ ⟨w + 1, m, rows ++ [done], _, by rw [show ((w + 1 : Nat) : Int) = (w : Int) + 1 by omega], by omega, rfl, hR6, by rw [List.length_append, List.length_singleton, hrl], fun k r hk => ?_, hb6, e6⟩
      · clear next hR hp3 hR4 hp4 hR6 hb6 e6 eX nx hx5
        try (simp only [↓e_seq, ↓e_next, ↓e_break, ↓e_cont, ↓e_expr, ↓e_ret, ↓e_retN, ↓e_if, ↓e_never, ↓e_asg, ↓e_name, ↓e_agtup, ↓e_agcons, ↓e_agnil, ↓e_agsub, ↓e_aug, ↓e_dput, ↓e_var, ↓e_c, ↓e_op, ↓e_some, ↓e_none, ↓e_test, ↓e_and, ↓e_or, ↓e_not, ↓e_yes, ↓e_truth,   ↓e_tru_bl, ↓e_tru_int, ↓e_tru_non, ↓e_tru_str, ↓e_tru_tup, ↓e_tru_obj, ↓e_chain, ↓e_orV, ↓e_andV, ↓e_notV, ↓e_ifE, ↓e_neg, ↓e_nil, ↓e_cons, ↓e_tup, ↓e_lst, ↓e_dnew, ↓e_call, ↓e_cb, ↓e_isi, ↓e_sl, ↓e_onone, ↓e_osome, ↓e_rev, ↓e_lm, ↓e_append, ↓e_extend, ↓e_pop, ↓e_join, ↓e_dget2, ↓e_sortSet, ↓e_sortS, ↓e_setd, strsOf_map, ↓e_maxI, ↓e_disp, ↓e_pairN, ↓e_pairC, intsOf_map, ↓e_for, ↓e_ilist, ↓e_itup, ↓e_rng1, ↓e_rng2, ↓e_lc, ↓e_lc2, e_lc2N, ↓e_ienum, ↓e_izip, ↓e_anyB, ↓e_allB, ↓e_mulS, blsOf_map, ↓e_set0, ↓e_sadd, ↓e_sortTx, ↓e_sortD, ↓e_repr, ↓e_extT, ↓e_sc2, ↓e_sortZ, ↓e_tupVals, ↓e_wget, ↓e_wix, ↓e_listZip, zipD_nil, zipD_cons, ↓e_dgetF, ↓e_idif, ↓e_isB, ↓e_sortI, ↓e_sortSetI, ↓e_tailR, ↓e_divmod, ↓e_strI, ↓e_lenD, ↓e_fmt, ↓e_fs2,   ↓e_add_int, ↓e_add_str, ↓e_add_tup, ↓e_add_obj, ↓e_iadd_int, ↓e_iadd_str, ↓e_iadd_obj, ↓e_I, ↓e_I0, ↓e_IS_int, ↓e_IS_str, ↓e_eq_str, ↓e_ne_str, ↓e_eq_int, ↓e_ne_int, ↓e_eq_bl, ↓e_ne_bl, ↓e_isN, ↓e_notN, ↓e_ix_tup, ↓e_ix_fl, ↓e_ix_str, ↓e_ix_obj, ↓e_in_tup, ↓e_nin_tup, ↓e_len_tup, ↓e_len_fl, ↓e_len_str, ↓e_len_obj, ↓e_int_int, ↓e_tuple_tup, ↓e_tuple_obj, ↓e_list_tup, ↓e_list_obj, ↓e_dget, ↓e_din, ↓e_dnin, ↓e_lstAt, ↓e_dicAt,   e_key_int, e_key_str, e_up, e_ty_str, e_ty_tup, e_ty_int, e_ty_bl, e_ty_non, atI0, atI1, atI2, atI3, atIL, ixN0, ixN1, cut_from1, e_ite_or, e_ite_and, zln, znl, zli, zil, zni, zin, sizeLine_eq, CMul, CDiv, cpow1018, true_or, or_true, kb_strstr, kb_tupstr, kb_tuptup, kb_strtup, kb_inttup, kb_bltup, kb_nontup, kb_strbl, kb_strint, kb_intbl, kb_intint, kb_blbl, kb_blint, kb_nonbl, kb_nonint, kb_nonstr, kb_intstr, kb_blstr, kb_tupbl, kb_tupint,   List.set_cons_zero, List.set_cons_succ, List.set_nil, List.getElem?_cons_zero, List.getElem?_cons_succ, List.getElem?_nil, List.length_cons, List.length_nil, List.length_map, List.length_append, e_lcN, e_lcC, e_forN, e_forC, List.getLast?_concat, List.dropLast_concat, List.nil_append, List.cons_append, List.append_nil, List.append_assoc, List.reverse_cons, List.reverse_nil, List.isEmpty_nil, List.isEmpty_cons, isEmpty_snoc, List.any_cons, List.any_nil, List.all_cons, List.all_nil, flatD, eqF, in_non, in_tup, in_str, in_int, in_bl, in_obj, in_fl, startA, List.map_cons, List.map_nil, List.replicate_succ, List.replicate_zero,   Nat.reduceAdd, Nat.reduceSub, Nat.reduceLeDiff, Nat.zero_add, Int.reduceLE, Int.reduceLT, Int.reduceToNat, Int.reducePow, Int.reduceNeg, Int.reduceAdd, Int.reduceSub,   Option.isSome_some, Option.isSome_none, Bool.not_true, Bool.not_false, Bool.not_eq_true', Bool.not_eq_eq_eq_not, Bool.not_eq_true, Bool.false_eq_true, Bool.true_eq_false, Bool.and_true, Bool.true_and, Bool.or_false, Bool.false_or, Bool.or_true, Bool.true_or, Bool.and_false, Bool.false_and, if_true, if_false, ite_true, ite_false, reduceIte, reduceCtorEq, decide_true, decide_false, decide_eq_true_eq, decide_eq_false_iff_not, true_and, and_true, false_and, and_false, eq_self, ne_eq, not_false_eq_true, not_true_eq_false, and_self, *])
        all_goals omega
      · by_cases hkl : k < rows.length
        · rw [List.getElem?_append_left hkl] at hk
          exact hro k r hk
        · rw [List.getElem?_append_right (by omega)] at hk
          have hk0 : k - rows.length = 0 := by
            have z := (List.getElem?_eq_some_iff.mp hk).1
            rw [List.length_singleton] at z
            omega
          rw [hk0] at hk
          cases hk
          rw [show k = w by omega]
          exact hop
    · rintro y r acc M4 N2 ⟨i, j, done, hd, hij, rfl, hop, hb4, e4⟩ next2
      obtain ⟨j, rfl, rfl, rfl⟩ := rngD_cons hd.symm
      clear hd
      have e1 : ((w + (i + 1) : Nat) : Int) = ((w + i : Nat) : Int) + 1 := by omega
      have n1 := fun M' (hb' : BoxAt M' b d) (e' : ExtB b M3 M') => next2 (done.map natI ++ [.int ((w + i : Nat) : Int)]) M' ⟨i + 1, j, done ++ [w + i], by rw [e1], by omega, by rw [List.map_append]; rfl, optC_take hop, hb', e'⟩
      have n2 := fun (c : i ≠ 0) M' (hb' : BoxAt M' b d) (e' : ExtB b M3 M') => next2 (done.map natI) M' ⟨i + 1, j, done, by rw [e1], by omega, rfl, optC_leave hop c, hb', e'⟩
      clear next2 next
      generalize hk : ((w + i : Nat) : Int) = k at *
      by_cases c : k = (w : Int)
      · have g := n1 M4 hb4 e4
        clear n1 n2 hk
        subst c
        try (simp only [↓e_seq, ↓e_next, ↓e_break, ↓e_cont, ↓e_expr, ↓e_ret, ↓e_retN, ↓e_if, ↓e_never, ↓e_asg, ↓e_name, ↓e_agtup, ↓e_agcons, ↓e_agnil, ↓e_agsub, ↓e_aug, ↓e_dput, ↓e_var, ↓e_c, ↓e_op, ↓e_some, ↓e_none, ↓e_test, ↓e_and, ↓e_or, ↓e_not, ↓e_yes, ↓e_truth,   ↓e_tru_bl, ↓e_tru_int, ↓e_tru_non, ↓e_tru_str, ↓e_tru_tup, ↓e_tru_obj, ↓e_chain, ↓e_orV, ↓e_andV, ↓e_notV, ↓e_ifE, ↓e_neg, ↓e_nil, ↓e_cons, ↓e_tup, ↓e_lst, ↓e_dnew, ↓e_call, ↓e_cb, ↓e_isi, ↓e_sl, ↓e_onone, ↓e_osome, ↓e_rev, ↓e_lm, ↓e_append, ↓e_extend, ↓e_pop, ↓e_join, ↓e_dget2, ↓e_sortSet, ↓e_sortS, ↓e_setd, strsOf_map, ↓e_maxI, ↓e_disp, ↓e_pairN, ↓e_pairC, intsOf_map, ↓e_for, ↓e_ilist, ↓e_itup, ↓e_rng1, ↓e_rng2, ↓e_lc, ↓e_lc2, e_lc2N, ↓e_ienum, ↓e_izip, ↓e_anyB, ↓e_allB, ↓e_mulS, blsOf_map, ↓e_set0, ↓e_sadd, ↓e_sortTx, ↓e_sortD, ↓e_repr, ↓e_extT, ↓e_sc2, ↓e_sortZ, ↓e_tupVals, ↓e_wget, ↓e_wix, ↓e_listZip, zipD_nil, zipD_cons, ↓e_dgetF, ↓e_idif, ↓e_isB, ↓e_sortI, ↓e_sortSetI, ↓e_tailR, ↓e_divmod, ↓e_strI, ↓e_lenD, ↓e_fmt, ↓e_fs2,   ↓e_add_int, ↓e_add_str, ↓e_add_tup, ↓e_add_obj, ↓e_iadd_int, ↓e_iadd_str, ↓e_iadd_obj, ↓e_I, ↓e_I0, ↓e_IS_int, ↓e_IS_str, ↓e_eq_str, ↓e_ne_str, ↓e_eq_int, ↓e_ne_int, ↓e_eq_bl, ↓e_ne_bl, ↓e_isN, ↓e_notN, ↓e_ix_tup, ↓e_ix_fl, ↓e_ix_str, ↓e_ix_obj, ↓e_in_tup, ↓e_nin_tup, ↓e_len_tup, ↓e_len_fl, ↓e_len_str, ↓e_len_obj, ↓e_int_int, ↓e_tuple_tup, ↓e_tuple_obj, ↓e_list_tup, ↓e_list_obj, ↓e_dget, ↓e_din, ↓e_dnin, ↓e_lstAt, ↓e_dicAt,   e_key_int, e_key_str, e_up, e_ty_str, e_ty_tup, e_ty_int, e_ty_bl, e_ty_non, atI0, atI1, atI2, atI3, atIL, ixN0, ixN1, cut_from1, e_ite_or, e_ite_and, zln, znl, zli, zil, zni, zin, sizeLine_eq, CMul, CDiv, cpow1018, true_or, or_true, kb_strstr, kb_tupstr, kb_tuptup, kb_strtup, kb_inttup, kb_bltup, kb_nontup, kb_strbl, kb_strint, kb_intbl, kb_intint, kb_blbl, kb_blint, kb_nonbl, kb_nonint, kb_nonstr, kb_intstr, kb_blstr, kb_tupbl, kb_tupint,   List.set_cons_zero, List.set_cons_succ, List.set_nil, List.getElem?_cons_zero, List.getElem?_cons_succ, List.getElem?_nil, List.length_cons, List.length_nil, List.length_map, List.length_append, e_lcN, e_lcC, e_forN, e_forC, List.getLast?_concat, List.dropLast_concat, List.nil_append, List.cons_append, List.append_nil, List.append_assoc, List.reverse_cons, List.reverse_nil, List.isEmpty_nil, List.isEmpty_cons, isEmpty_snoc, List.any_cons, List.any_nil, List.all_cons, List.all_nil, flatD, eqF, in_non, in_tup, in_str, in_int, in_bl, in_obj, in_fl, startA, List.map_cons, List.map_nil, List.replicate_succ, List.replicate_zero,   Nat.reduceAdd, Nat.reduceSub, Nat.reduceLeDiff, Nat.zero_add, Int.reduceLE, Int.reduceLT, Int.reduceToNat, Int.reducePow, Int.reduceNeg, Int.reduceAdd, Int.reduceSub,   Option.isSome_some, Option.isSome_none, Bool.not_true, Bool.not_false, Bool.not_eq_true', Bool.not_eq_eq_eq_not, Bool.not_eq_true, Bool.false_eq_true, Bool.true_eq_false, Bool.and_true, Bool.true_and, Bool.or_false, Bool.false_or, Bool.or_true, Bool.true_or, Bool.and_false, Bool.false_and, if_true, if_false, ite_true, ite_false, reduceIte, reduceCtorEq, decide_true, decide_false, decide_eq_true_eq, decide_eq_false_iff_not, true_and, and_true, false_and, and_false, eq_self, ne_eq, not_false_eq_true, not_true_eq_false, and_self, *])
      · try (simp only [↓e_seq, ↓e_next, ↓e_break, ↓e_cont, ↓e_expr, ↓e_ret, ↓e_retN, ↓e_if, ↓e_never, ↓e_asg, ↓e_name, ↓e_agtup, ↓e_agcons, ↓e_agnil, ↓e_agsub, ↓e_aug, ↓e_dput, ↓e_var, ↓e_c, ↓e_op, ↓e_some, ↓e_none, ↓e_test, ↓e_and, ↓e_or, ↓e_not, ↓e_yes, ↓e_truth,   ↓e_tru_bl, ↓e_tru_int, ↓e_tru_non, ↓e_tru_str, ↓e_tru_tup, ↓e_tru_obj, ↓e_chain, ↓e_orV, ↓e_andV, ↓e_notV, ↓e_ifE, ↓e_neg, ↓e_nil, ↓e_cons, ↓e_tup, ↓e_lst, ↓e_dnew, ↓e_call, ↓e_cb, ↓e_isi, ↓e_sl, ↓e_onone, ↓e_osome, ↓e_rev, ↓e_lm, ↓e_append, ↓e_extend, ↓e_pop, ↓e_join, ↓e_dget2, ↓e_sortSet, ↓e_sortS, ↓e_setd, strsOf_map, ↓e_maxI, ↓e_disp, ↓e_pairN, ↓e_pairC, intsOf_map, ↓e_for, ↓e_ilist, ↓e_itup, ↓e_rng1, ↓e_rng2, ↓e_lc, ↓e_lc2, e_lc2N, ↓e_ienum, ↓e_izip, ↓e_anyB, ↓e_allB, ↓e_mulS, blsOf_map, ↓e_set0, ↓e_sadd, ↓e_sortTx, ↓e_sortD, ↓e_repr, ↓e_extT, ↓e_sc2, ↓e_sortZ, ↓e_tupVals, ↓e_wget, ↓e_wix, ↓e_listZip, zipD_nil, zipD_cons, ↓e_dgetF, ↓e_idif, ↓e_isB, ↓e_sortI, ↓e_sortSetI, ↓e_tailR, ↓e_divmod, ↓e_strI, ↓e_lenD, ↓e_fmt, ↓e_fs2,   ↓e_add_int, ↓e_add_str, ↓e_add_tup, ↓e_add_obj, ↓e_iadd_int, ↓e_iadd_str, ↓e_iadd_obj, ↓e_I, ↓e_I0, ↓e_IS_int, ↓e_IS_str, ↓e_eq_str, ↓e_ne_str, ↓e_eq_int, ↓e_ne_int, ↓e_eq_bl, ↓e_ne_bl, ↓e_isN, ↓e_notN, ↓e_ix_tup, ↓e_ix_fl, ↓e_ix_str, ↓e_ix_obj, ↓e_in_tup, ↓e_nin_tup, ↓e_len_tup, ↓e_len_fl, ↓e_len_str, ↓e_len_obj, ↓e_int_int, ↓e_tuple_tup, ↓e_tuple_obj, ↓e_list_tup, ↓e_list_obj, ↓e_dget, ↓e_din, ↓e_dnin, ↓e_lstAt, ↓e_dicAt,   e_key_int, e_key_str, e_up, e_ty_str, e_ty_tup, e_ty_int, e_ty_bl, e_ty_non, atI0, atI1, atI2, atI3, atIL, ixN0, ixN1, cut_from1, e_ite_or, e_ite_and, zln, znl, zli, zil, zni, zin, sizeLine_eq, CMul, CDiv, cpow1018, true_or, or_true, kb_strstr, kb_tupstr, kb_tuptup, kb_strtup, kb_inttup, kb_bltup, kb_nontup, kb_strbl, kb_strint, kb_intbl, kb_intint, kb_blbl, kb_blint, kb_nonbl, kb_nonint, kb_nonstr, kb_intstr, kb_blstr, kb_tupbl, kb_tupint,   List.set_cons_zero, List.set_cons_succ, List.set_nil, List.getElem?_cons_zero, List.getElem?_cons_succ, List.getElem?_nil, List.length_cons, List.length_nil, List.length_map, List.length_append, e_lcN, e_lcC, e_forN, e_forC, List.getLast?_concat, List.dropLast_concat, List.nil_append, List.cons_append, List.append_nil, List.append_assoc, List.reverse_cons, List.reverse_nil, List.isEmpty_nil, List.isEmpty_cons, isEmpty_snoc, List.any_cons, List.any_nil, List.all_cons, List.all_nil, flatD, eqF, in_non, in_tup, in_str, in_int, in_bl, in_obj, in_fl, startA, List.map_cons, List.map_nil, List.replicate_succ, List.replicate_zero,   Nat.reduceAdd, Nat.reduceSub, Nat.reduceLeDiff, Nat.zero_add, Int.reduceLE, Int.reduceLT, Int.reduceToNat, Int.reducePow, Int.reduceNeg, Int.reduceAdd, Int.reduceSub,   Option.isSome_some, Option.isSome_none, Bool.not_true, Bool.not_false, Bool.not_eq_true', Bool.not_eq_eq_eq_not, Bool.not_eq_true, Bool.false_eq_true, Bool.true_eq_false, Bool.and_true, Bool.true_and, Bool.or_false, Bool.false_or, Bool.or_true, Bool.true_or, Bool.and_false, Bool.false_and, if_true, if_false, ite_true, ite_false, reduceIte, reduceCtorEq, decide_true, decide_false, decide_eq_true_eq, decide_eq_false_iff_not, true_and, and_true, false_and, and_false, eq_self, ne_eq, not_false_eq_true, not_true_eq_false, and_self, *])
        refine ⟨rfl, b, d, 2, rfl, hb4, by decide, fun v M5 hv0 hv1 hb5 e5 => ?_⟩
        have g1 := n1 M5 hb5 (e4.trans e5)
        have g2 := n2 (by omega) M5 hb5 (e4.trans e5)
        clear n1 n2
        by_cases c2 : v = 0
        · subst c2
          try (simp only [↓e_seq, ↓e_next, ↓e_break, ↓e_cont, ↓e_expr, ↓e_ret, ↓e_retN, ↓e_if, ↓e_never, ↓e_asg, ↓e_name, ↓e_agtup, ↓e_agcons, ↓e_agnil, ↓e_agsub, ↓e_aug, ↓e_dput, ↓e_var, ↓e_c, ↓e_op, ↓e_some, ↓e_none, ↓e_test, ↓e_and, ↓e_or, ↓e_not, ↓e_yes, ↓e_truth,   ↓e_tru_bl, ↓e_tru_int, ↓e_tru_non, ↓e_tru_str, ↓e_tru_tup, ↓e_tru_obj, ↓e_chain, ↓e_orV, ↓e_andV, ↓e_notV, ↓e_ifE, ↓e_neg, ↓e_nil, ↓e_cons, ↓e_tup, ↓e_lst, ↓e_dnew, ↓e_call, ↓e_cb, ↓e_isi, ↓e_sl, ↓e_onone, ↓e_osome, ↓e_rev, ↓e_lm, ↓e_append, ↓e_extend, ↓e_pop, ↓e_join, ↓e_dget2, ↓e_sortSet, ↓e_sortS, ↓e_setd, strsOf_map, ↓e_maxI, ↓e_disp, ↓e_pairN, ↓e_pairC, intsOf_map, ↓e_for, ↓e_ilist, ↓e_itup, ↓e_rng1, ↓e_rng2, ↓e_lc, ↓e_lc2, e_lc2N, ↓e_ienum, ↓e_izip, ↓e_anyB, ↓e_allB, ↓e_mulS, blsOf_map, ↓e_set0, ↓e_sadd, ↓e_sortTx, ↓e_sortD, ↓e_repr, ↓e_extT, ↓e_sc2, ↓e_sortZ, ↓e_tupVals, ↓e_wget, ↓e_wix, ↓e_listZip, zipD_nil, zipD_cons, ↓e_dgetF, ↓e_idif, ↓e_isB, ↓e_sortI, ↓e_sortSetI, ↓e_tailR, ↓e_divmod, ↓e_strI, ↓e_lenD, ↓e_fmt, ↓e_fs2,   ↓e_add_int, ↓e_add_str, ↓e_add_tup, ↓e_add_obj, ↓e_iadd_int, ↓e_iadd_str, ↓e_iadd_obj, ↓e_I, ↓e_I0, ↓e_IS_int, ↓e_IS_str, ↓e_eq_str, ↓e_ne_str, ↓e_eq_int, ↓e_ne_int, ↓e_eq_bl, ↓e_ne_bl, ↓e_isN, ↓e_notN, ↓e_ix_tup, ↓e_ix_fl, ↓e_ix_str, ↓e_ix_obj, ↓e_in_tup, ↓e_nin_tup, ↓e_len_tup, ↓e_len_fl, ↓e_len_str, ↓e_len_obj, ↓e_int_int, ↓e_tuple_tup, ↓e_tuple_obj, ↓e_list_tup, ↓e_list_obj, ↓e_dget, ↓e_din, ↓e_dnin, ↓e_lstAt, ↓e_dicAt,   e_key_int, e_key_str, e_up, e_ty_str, e_ty_tup, e_ty_int, e_ty_bl, e_ty_non, atI0, atI1, atI2, atI3, atIL, ixN0, ixN1, cut_from1, e_ite_or, e_ite_and, zln, znl, zli, zil, zni, zin, sizeLine_eq, CMul, CDiv, cpow1018, true_or, or_true, kb_strstr, kb_tupstr, kb_tuptup, kb_strtup, kb_inttup, kb_bltup, kb_nontup, kb_strbl, kb_strint, kb_intbl, kb_intint, kb_blbl, kb_blint, kb_nonbl, kb_nonint, kb_nonstr, kb_intstr, kb_blstr, kb_tupbl, kb_tupint,   List.set_cons_zero, List.set_cons_succ, List.set_nil, List.getElem?_cons_zero, List.getElem?_cons_succ, List.getElem?_nil, List.length_cons, List.length_nil, List.length_map, List.length_append, e_lcN, e_lcC, e_forN, e_forC, List.getLast?_concat, List.dropLast_concat, List.nil_append, List.cons_append, List.append_nil, List.append_assoc, List.reverse_cons, List.reverse_nil, List.isEmpty_nil, List.isEmpty_cons, isEmpty_snoc, List.any_cons, List.any_nil, List.all_cons, List.all_nil, flatD, eqF, in_non, in_tup, in_str, in_int, in_bl, in_obj, in_fl, startA, List.map_cons, List.map_nil, List.replicate_succ, List.replicate_zero,   Nat.reduceAdd, Nat.reduceSub, Nat.reduceLeDiff, Nat.zero_add, Int.reduceLE, Int.reduceLT, Int.reduceToNat, Int.reducePow, Int.reduceNeg, Int.reduceAdd, Int.reduceSub,   Option.isSome_some, Option.isSome_none, Bool.not_true, Bool.not_false, Bool.not_eq_true', Bool.not_eq_eq_eq_not, Bool.not_eq_true, Bool.false_eq_true, Bool.true_eq_false, Bool.and_true, Bool.true_and, Bool.or_false, Bool.false_or, Bool.or_true, Bool.true_or, Bool.and_false, Bool.false_and, if_true, if_false, ite_true, ite_false, reduceIte, reduceCtorEq, decide_true, decide_false, decide_eq_true_eq, decide_eq_false_iff_not, true_and, and_true, false_and, and_false, eq_self, ne_eq, not_false_eq_true, not_true_eq_false, and_self, *])
        · try (simp only [↓e_seq, ↓e_next, ↓e_break, ↓e_cont, ↓e_expr, ↓e_ret, ↓e_retN, ↓e_if, ↓e_never, ↓e_asg, ↓e_name, ↓e_agtup, ↓e_agcons, ↓e_agnil, ↓e_agsub, ↓e_aug, ↓e_dput, ↓e_var, ↓e_c, ↓e_op, ↓e_some, ↓e_none, ↓e_test, ↓e_and, ↓e_or, ↓e_not, ↓e_yes, ↓e_truth,   ↓e_tru_bl, ↓e_tru_int, ↓e_tru_non, ↓e_tru_str, ↓e_tru_tup, ↓e_tru_obj, ↓e_chain, ↓e_orV, ↓e_andV, ↓e_notV, ↓e_ifE, ↓e_neg, ↓e_nil, ↓e_cons, ↓e_tup, ↓e_lst, ↓e_dnew, ↓e_call, ↓e_cb, ↓e_isi, ↓e_sl, ↓e_onone, ↓e_osome, ↓e_rev, ↓e_lm, ↓e_append, ↓e_extend, ↓e_pop, ↓e_join, ↓e_dget2, ↓e_sortSet, ↓e_sortS, ↓e_setd, strsOf_map, ↓e_maxI, ↓e_disp, ↓e_pairN, ↓e_pairC, intsOf_map, ↓e_for, ↓e_ilist, ↓e_itup, ↓e_rng1, ↓e_rng2, ↓e_lc, ↓e_lc2, e_lc2N, ↓e_ienum, ↓e_izip, ↓e_anyB, ↓e_allB, ↓e_mulS, blsOf_map, ↓e_set0, ↓e_sadd, ↓e_sortTx, ↓e_sortD, ↓e_repr, ↓e_extT, ↓e_sc2, ↓e_sortZ, ↓e_tupVals, ↓e_wget, ↓e_wix, ↓e_listZip, zipD_nil, zipD_cons, ↓e_dgetF, ↓e_idif, ↓e_isB, ↓e_sortI, ↓e_sortSetI, ↓e_tailR, ↓e_divmod, ↓e_strI, ↓e_lenD, ↓e_fmt, ↓e_fs2,   ↓e_add_int, ↓e_add_str, ↓e_add_tup, ↓e_add_obj, ↓e_iadd_int, ↓e_iadd_str, ↓e_iadd_obj, ↓e_I, ↓e_I0, ↓e_IS_int, ↓e_IS_str, ↓e_eq_str, ↓e_ne_str, ↓e_eq_int, ↓e_ne_int, ↓e_eq_bl, ↓e_ne_bl, ↓e_isN, ↓e_notN, ↓e_ix_tup, ↓e_ix_fl, ↓e_ix_str, ↓e_ix_obj, ↓e_in_tup, ↓e_nin_tup, ↓e_len_tup, ↓e_len_fl, ↓e_len_str, ↓e_len_obj, ↓e_int_int, ↓e_tuple_tup, ↓e_tuple_obj, ↓e_list_tup, ↓e_list_obj, ↓e_dget, ↓e_din, ↓e_dnin, ↓e_lstAt, ↓e_dicAt,   e_key_int, e_key_str, e_up, e_ty_str, e_ty_tup, e_ty_int, e_ty_bl, e_ty_non, atI0, atI1, atI2, atI3, atIL, ixN0, ixN1, cut_from1, e_ite_or, e_ite_and, zln, znl, zli, zil, zni, zin, sizeLine_eq, CMul, CDiv, cpow1018, true_or, or_true, kb_strstr, kb_tupstr, kb_tuptup, kb_strtup, kb_inttup, kb_bltup, kb_nontup, kb_strbl, kb_strint, kb_intbl, kb_intint, kb_blbl, kb_blint, kb_nonbl, kb_nonint, kb_nonstr, kb_intstr, kb_blstr, kb_tupbl, kb_tupint,   List.set_cons_zero, List.set_cons_succ, List.set_nil, List.getElem?_cons_zero, List.getElem?_cons_succ, List.getElem?_nil, List.length_cons, List.length_nil, List.length_map, List.length_append, e_lcN, e_lcC, e_forN, e_forC, List.getLast?_concat, List.dropLast_concat, List.nil_append, List.cons_append, List.append_nil, List.append_assoc, List.reverse_cons, List.reverse_nil, List.isEmpty_nil, List.isEmpty_cons, isEmpty_snoc, List.any_cons, List.any_nil, List.all_cons, List.all_nil, flatD, eqF, in_non, in_tup, in_str, in_int, in_bl, in_obj, in_fl, startA, List.map_cons, List.map_nil, List.replicate_succ, List.replicate_zero,   Nat.reduceAdd, Nat.reduceSub, Nat.reduceLeDiff, Nat.zero_add, Int.reduceLE, Int.reduceLT, Int.reduceToNat, Int.reducePow, Int.reduceNeg, Int.reduceAdd, Int.reduceSub,   Option.isSome_some, Option.isSome_none, Bool.not_true, Bool.not_false, Bool.not_eq_true', Bool.not_eq_eq_eq_not, Bool.not_eq_true, Bool.false_eq_true, Bool.true_eq_false, Bool.and_true, Bool.true_and, Bool.or_false, Bool.false_or, Bool.or_true, Bool.true_or, Bool.and_false, Bool.false_and, if_true, if_false, ite_true, ite_false, reduceIte, reduceCtorEq, decide_true, decide_false, decide_eq_true_eq, decide_eq_false_iff_not, true_and, and_true, false_and, and_false, eq_self, ne_eq, not_false_eq_true, not_true_eq_false, and_self, *])

/- slots of law: 0 script, 1 box, 2 k, 3 strength, 4 model, 5 formula, 6 truths, 7 world, 8 due, 9 further -/
def a_law (A__law_box : ASp) (A__law_draw : ASp) (A__law_model : ASp) (A__law_any : ASp) (A__law_holds : ASp) (A__law_same : ASp) (A_holds : ASp) : ATS :=
    (aSeq (aAsg (aCall 3 A__law_box (aCons (aVar 0) (aCons (aC (.int 0)) (aCons (aC (.int 63)) aNil)))) (agName 1))
    (aSeq (aFor (aIRng1 (aCons (aC (.int 6)) aNil)) (agName 2) (aSeq (aAsg (aOp ρIx (aLst (aCons (aC (.str z_positive)) (aCons (aC (.str z_minimal)) aNil))) (aCall 2 A__law_draw (aCons (aVar 1) (aCons (aC (.int 2)) aNil)))) (agName 3))
    (aSeq (aAsg (aCall 3 A__law_model (aCons (aVar 1) (aCons (aVar 3) (aCons (aLst (aCons (aC (.str z_a)) (aCons (aC (.str z_b)) aNil))) aNil)))) (agName 4))
    (aSeq (aAsg (aCall 3 A__law_any (aCons (aVar 1) (aCons (aC (.int 10)) (aCons (aC (.int 2)) aNil)))) (agName 5))
    (aSeq (aAsg (aLst aNil) (agName 6))
    (aSeq (aFor (aIRng1 (aCons (aCB ρLen (aCons (aOp ρIx (aVar 4) (aC (.int 1))) aNil)) aNil)) (agName 7) (aSeq (aAsg (aCall 4 A__law_holds (aCons (aVar 4) (aCons (aVar 7) (aCons (aVar 5) (aCons (aVar 3) aNil))))) (agName 8))
    (aSeq (aIf (aNot (aTruth (aCall 2 A__law_same (aCons (aCall 4 A_holds (aCons (aVar 4) (aCons (aVar 7) (aCons (aVar 5) (aCons (aVar 3) aNil))))) (aCons (aVar 8) aNil))))) (aRet (aC (.bl false))) aNext)
    (aSeq (aExpr (aLm ρAppend (aVar 6) (aCons (aVar 8) aNil)))
    (aIf (aAnd (aTest (aOp (ρEq false) (aVar 3) (aC (.str z_minimal)))) (aAnd (aTest (aOp (ρIn false) (aVar 7) (aOp ρIx (aVar 4) (aC (.int 3))))) (aTest (aOp (ρIsB true) (aCall 4 A_holds (aCons (aVar 4) (aCons (aVar 7) (aCons (aTup (aCons (aC (.str z_not)) (aCons (aVar 5) aNil))) (aCons (aVar 3) aNil))))) (aC (.bl true)))))) (aRet (aC (.bl false))) aNext)))))
    (aFor (aIRng1 (aCons (aCB ρLen (aCons (aOp ρIx (aVar 4) (aC (.int 1))) aNil)) aNil)) (agName 7) (aFor (aITup (aOp ρIx (aOp ρIx (aVar 4) (aC (.int 1))) (aVar 7))) (agName 9) (aIf (aAnd (aTruth (aOp ρIx (aVar 6) (aVar 7))) (aNot (aTruth (aOp ρIx (aVar 6) (aVar 9))))) (aRet (aC (.bl false))) aNext)))))))))
    (aRet (aC (.bl true)))))

def A_law : ASp := fun ds M Q _ => ∃ ns : List Int, ds = [.fl (ns.map D.int)] ∧ ∀ M', Q (.bl true) M'
theorem repL_ints {K : PySem.W.Frag} {H : Hp} : ∀ ns : List Int, RepL K H (ns.map D.int) (ns.map V.int)
  | [] => rfl
  | x :: r => ⟨_, _, rfl, rfl, repL_ints r⟩
theorem law_start {K : PySem.W.Frag} {H : Hp} {a : Addr} {ns : List Int} {A : ASp} (ho : Only H) (hs : SqL K H a (ns.map V.int)) (hA : ∀ Q : D → Sto → Prop, (∀ M, Q (.bl true) M) → A [.fl (ns.map D.int)] (fun _ => none) Q xa0) : conc K 1 A [.ref a] H (fun v _ => v = .bl true) (fun _ _ _ => False) := by
  have hf : SqF K H a (ns.map V.int) := by
    rcases hs with (h | ⟨o, h⟩) | h
    · rcases ho a with z | ⟨o, xs, z⟩
      · rw [z] at h; cases h
      · rw [z] at h; cases h
    · exact .inl ⟨o, h⟩
    · exact .inr h
  refine ⟨[.fl (ns.map D.int)], fun _ => none, fun d _ => d = .bl true, xa0, rfl, ⟨_, _, rfl, ⟨a, _, rfl, hf, repL_ints ns⟩, rfl⟩, (fun a mo h => nomatch h), hA _ fun M => rfl, fun v H' d M' t r q => ?_, fun cls d H' M' fs t r q => q⟩
  subst q
  exact r

theorem l8_ok {s : Str} (h : L8 s) : PyData.strOk s = true := by
  obtain ⟨c, hc, rfl⟩ := h
  have all : ∀ c ∈ lets8, PyData.strOk ⟨#[c]⟩ = true := by decide +kernel
  exact all c hc
theorem tiny_any {f : Fm} (h : f.All L8) (z : f.sz ≤ 50) : f.Tiny := ⟨by have := Fm.pdep f; omega, Fm.lay (fun s => l8_ok) f h⟩
theorem Fm.Tiny.neg {f : Fm} (h : f.All L8) (z : f.sz ≤ 50) : (Fm.ng f).Tiny := ⟨by
  have := Fm.pdep f
  show max 0 (max f.py.depth 0) + 1 ≤ 60
  omega, Fm.lay (P := L8) (fun s => l8_ok) (.ng f) h⟩
theorem ws_succ (n : Nat) (F : Nat → Bool) : wsD n F ++ [.bl (F n)] = wsD (n + 1) F := by
  unfold wsD
  rw [List.range_succ, List.map_append]
  rfl
theorem p_law (ds : List D) (M : Sto) (Q : D → Sto → Prop) (Xa) (hl : ds.length = 1) (h : A_law ds M Q Xa) : a_law A_box A_draw A_model (A_any 10) (A_lholds 30) (A_same 200) (A_holds 30) ax0 (Done Q) (startA ["script", "box", "k", "strength", "model", "formula", "truths", "world", "due", "further"] ds) M := by
  obtain ⟨ns, rfl, q⟩ := h
  unfold a_law
  try (simp only [↓e_seq, ↓e_next, ↓e_break, ↓e_cont, ↓e_expr, ↓e_ret, ↓e_retN, ↓e_if, ↓e_never, ↓e_asg, ↓e_name, ↓e_agtup, ↓e_agcons, ↓e_agnil, ↓e_agsub, ↓e_aug, ↓e_dput, ↓e_var, ↓e_c, ↓e_op, ↓e_some, ↓e_none, ↓e_test, ↓e_and, ↓e_or, ↓e_not, ↓e_yes, ↓e_truth,   ↓e_tru_bl, ↓e_tru_int, ↓e_tru_non, ↓e_tru_str, ↓e_tru_tup, ↓e_tru_obj, ↓e_chain, ↓e_orV, ↓e_andV, ↓e_notV, ↓e_ifE, ↓e_neg, ↓e_nil, ↓e_cons, ↓e_tup, ↓e_lst, ↓e_dnew, ↓e_call, ↓e_cb, ↓e_isi, ↓e_sl, ↓e_onone, ↓e_osome, ↓e_rev, ↓e_lm, ↓e_append, ↓e_extend, ↓e_pop, ↓e_join, ↓e_dget2, ↓e_sortSet, ↓e_sortS, ↓e_setd, strsOf_map, ↓e_maxI, ↓e_disp, ↓e_pairN, ↓e_pairC, intsOf_map, ↓e_for, ↓e_ilist, ↓e_itup, ↓e_rng1, ↓e_rng2, ↓e_lc, ↓e_lc2, e_lc2N, ↓e_ienum, ↓e_izip, ↓e_anyB, ↓e_allB, ↓e_mulS, blsOf_map, ↓e_set0, ↓e_sadd, ↓e_sortTx, ↓e_sortD, ↓e_repr, ↓e_extT, ↓e_sc2, ↓e_sortZ, ↓e_tupVals, ↓e_wget, ↓e_wix, ↓e_listZip, zipD_nil, zipD_cons, ↓e_dgetF, ↓e_idif, ↓e_isB, ↓e_sortI, ↓e_sortSetI, ↓e_tailR, ↓e_divmod, ↓e_strI, ↓e_lenD, ↓e_fmt, ↓e_fs2,   ↓e_add_int, ↓e_add_str, ↓e_add_tup, ↓e_add_obj, ↓e_iadd_int, ↓e_iadd_str, ↓e_iadd_obj, ↓e_I, ↓e_I0, ↓e_IS_int, ↓e_IS_str, ↓e_eq_str, ↓e_ne_str, ↓e_eq_int, ↓e_ne_int, ↓e_eq_bl, ↓e_ne_bl, ↓e_isN, ↓e_notN, ↓e_ix_tup, ↓e_ix_fl, ↓e_ix_str, ↓e_ix_obj, ↓e_in_tup, ↓e_nin_tup, ↓e_len_tup, ↓e_len_fl, ↓e_len_str, ↓e_len_obj, ↓e_int_int, ↓e_tuple_tup, ↓e_tuple_obj, ↓e_list_tup, ↓e_list_obj, ↓e_dget, ↓e_din, ↓e_dnin, ↓e_lstAt, ↓e_dicAt,   e_key_int, e_key_str, e_up, e_ty_str, e_ty_tup, e_ty_int, e_ty_bl, e_ty_non, atI0, atI1, atI2, atI3, atIL, ixN0, ixN1, cut_from1, e_ite_or, e_ite_and, zln, znl, zli, zil, zni, zin, sizeLine_eq, CMul, CDiv, cpow1018, true_or, or_true, kb_strstr, kb_tupstr, kb_tuptup, kb_strtup, kb_inttup, kb_bltup, kb_nontup, kb_strbl, kb_strint, kb_intbl, kb_intint, kb_blbl, kb_blint, kb_nonbl, kb_nonint, kb_nonstr, kb_intstr, kb_blstr, kb_tupbl, kb_tupint,   List.set_cons_zero, List.set_cons_succ, List.set_nil, List.getElem?_cons_zero, List.getElem?_cons_succ, List.getElem?_nil, List.length_cons, List.length_nil, List.length_map, List.length_append, e_lcN, e_lcC, e_forN, e_forC, List.getLast?_concat, List.dropLast_concat, List.nil_append, List.cons_append, List.append_nil, List.append_assoc, List.reverse_cons, List.reverse_nil, List.isEmpty_nil, List.isEmpty_cons, isEmpty_snoc, List.any_cons, List.any_nil, List.all_cons, List.all_nil, flatD, eqF, in_non, in_tup, in_str, in_int, in_bl, in_obj, in_fl, startA, List.map_cons, List.map_nil, List.replicate_succ, List.replicate_zero,   Nat.reduceAdd, Nat.reduceSub, Nat.reduceLeDiff, Nat.zero_add, Int.reduceLE, Int.reduceLT, Int.reduceToNat, Int.reducePow, Int.reduceNeg, Int.reduceAdd, Int.reduceSub,   Option.isSome_some, Option.isSome_none, Bool.not_true, Bool.not_false, Bool.not_eq_true', Bool.not_eq_eq_eq_not, Bool.not_eq_true, Bool.false_eq_true, Bool.true_eq_false, Bool.and_true, Bool.true_and, Bool.or_false, Bool.false_or, Bool.or_true, Bool.true_or, Bool.and_false, Bool.false_and, if_true, if_false, ite_true, ite_false, reduceIte, reduceCtorEq, decide_true, decide_false, decide_eq_true_eq, decide_eq_false_iff_not, true_and, and_true, false_and, and_false, eq_self, ne_eq, not_false_eq_true, not_true_eq_false, and_self, *])
  refine ⟨rfl, ns, 63, rfl, by omega, by omega, fun b d M1 hb0 hd0 e1 hb => ?_⟩
  clear hb0 hd0 e1
  try (simp only [↓e_seq, ↓e_next, ↓e_break, ↓e_cont, ↓e_expr, ↓e_ret, ↓e_retN, ↓e_if, ↓e_never, ↓e_asg, ↓e_name, ↓e_agtup, ↓e_agcons, ↓e_agnil, ↓e_agsub, ↓e_aug, ↓e_dput, ↓e_var, ↓e_c, ↓e_op, ↓e_some, ↓e_none, ↓e_test, ↓e_and, ↓e_or, ↓e_not, ↓e_yes, ↓e_truth,   ↓e_tru_bl, ↓e_tru_int, ↓e_tru_non, ↓e_tru_str, ↓e_tru_tup, ↓e_tru_obj, ↓e_chain, ↓e_orV, ↓e_andV, ↓e_notV, ↓e_ifE, ↓e_neg, ↓e_nil, ↓e_cons, ↓e_tup, ↓e_lst, ↓e_dnew, ↓e_call, ↓e_cb, ↓e_isi, ↓e_sl, ↓e_onone, ↓e_osome, ↓e_rev, ↓e_lm, ↓e_append, ↓e_extend, ↓e_pop, ↓e_join, ↓e_dget2, ↓e_sortSet, ↓e_sortS, ↓e_setd, strsOf_map, ↓e_maxI, ↓e_disp, ↓e_pairN, ↓e_pairC, intsOf_map, ↓e_for, ↓e_ilist, ↓e_itup, ↓e_rng1, ↓e_rng2, ↓e_lc, ↓e_lc2, e_lc2N, ↓e_ienum, ↓e_izip, ↓e_anyB, ↓e_allB, ↓e_mulS, blsOf_map, ↓e_set0, ↓e_sadd, ↓e_sortTx, ↓e_sortD, ↓e_repr, ↓e_extT, ↓e_sc2, ↓e_sortZ, ↓e_tupVals, ↓e_wget, ↓e_wix, ↓e_listZip, zipD_nil, zipD_cons, ↓e_dgetF, ↓e_idif, ↓e_isB, ↓e_sortI, ↓e_sortSetI, ↓e_tailR, ↓e_divmod, ↓e_strI, ↓e_lenD, ↓e_fmt, ↓e_fs2,   ↓e_add_int, ↓e_add_str, ↓e_add_tup, ↓e_add_obj, ↓e_iadd_int, ↓e_iadd_str, ↓e_iadd_obj, ↓e_I, ↓e_I0, ↓e_IS_int, ↓e_IS_str, ↓e_eq_str, ↓e_ne_str, ↓e_eq_int, ↓e_ne_int, ↓e_eq_bl, ↓e_ne_bl, ↓e_isN, ↓e_notN, ↓e_ix_tup, ↓e_ix_fl, ↓e_ix_str, ↓e_ix_obj, ↓e_in_tup, ↓e_nin_tup, ↓e_len_tup, ↓e_len_fl, ↓e_len_str, ↓e_len_obj, ↓e_int_int, ↓e_tuple_tup, ↓e_tuple_obj, ↓e_list_tup, ↓e_list_obj, ↓e_dget, ↓e_din, ↓e_dnin, ↓e_lstAt, ↓e_dicAt,   e_key_int, e_key_str, e_up, e_ty_str, e_ty_tup, e_ty_int, e_ty_bl, e_ty_non, atI0, atI1, atI2, atI3, atIL, ixN0, ixN1, cut_from1, e_ite_or, e_ite_and, zln, znl, zli, zil, zni, zin, sizeLine_eq, CMul, CDiv, cpow1018, true_or, or_true, kb_strstr, kb_tupstr, kb_tuptup, kb_strtup, kb_inttup, kb_bltup, kb_nontup, kb_strbl, kb_strint, kb_intbl, kb_intint, kb_blbl, kb_blint, kb_nonbl, kb_nonint, kb_nonstr, kb_intstr, kb_blstr, kb_tupbl, kb_tupint,   List.set_cons_zero, List.set_cons_succ, List.set_nil, List.getElem?_cons_zero, List.getElem?_cons_succ, List.getElem?_nil, List.length_cons, List.length_nil, List.length_map, List.length_append, e_lcN, e_lcC, e_forN, e_forC, List.getLast?_concat, List.dropLast_concat, List.nil_append, List.cons_append, List.append_nil, List.append_assoc, List.reverse_cons, List.reverse_nil, List.isEmpty_nil, List.isEmpty_cons, isEmpty_snoc, List.any_cons, List.any_nil, List.all_cons, List.all_nil, flatD, eqF, in_non, in_tup, in_str, in_int, in_bl, in_obj, in_fl, startA, List.map_cons, List.map_nil, List.replicate_succ, List.replicate_zero,   Nat.reduceAdd, Nat.reduceSub, Nat.reduceLeDiff, Nat.zero_add, Int.reduceLE, Int.reduceLT, Int.reduceToNat, Int.reducePow, Int.reduceNeg, Int.reduceAdd, Int.reduceSub,   Option.isSome_some, Option.isSome_none, Bool.not_true, Bool.not_false, Bool.not_eq_true', Bool.not_eq_eq_eq_not, Bool.not_eq_true, Bool.false_eq_true, Bool.true_eq_false, Bool.and_true, Bool.true_and, Bool.or_false, Bool.false_or, Bool.or_true, Bool.true_or, Bool.and_false, Bool.false_and, if_true, if_false, ite_true, ite_false, reduceIte, reduceCtorEq, decide_true, decide_false, decide_eq_true_eq, decide_eq_false_iff_not, true_and, and_true, false_and, and_false, eq_self, ne_eq, not_false_eq_true, not_true_eq_false, and_self, *])
  refine for_run (fun ds env M' => ∃ (k : Int) (j : Nat) (x2 x3 x4 x5 x6 x7 x8 x9 : Option D), ds = rngD k j ∧ env = [some (.fl (ns.map D.int)), some (.obj b), x2, x3, x4, x5, x6, x7, x8, x9] ∧ BoxAt M' b d) (fun _ _ _ _ => trivial) ?_ ?_ ⟨0, 6, none, none, none, none, none, none, none, none, rfl, rfl, hb⟩
  · rintro env M2 ⟨k, j, x2, x3, x4, x5, x6, x7, x8, x9, hd, rfl, hb2⟩
    have q1 := q M2
    clear hd q
    try (simp only [↓e_seq, ↓e_next, ↓e_break, ↓e_cont, ↓e_expr, ↓e_ret, ↓e_retN, ↓e_if, ↓e_never, ↓e_asg, ↓e_name, ↓e_agtup, ↓e_agcons, ↓e_agnil, ↓e_agsub, ↓e_aug, ↓e_dput, ↓e_var, ↓e_c, ↓e_op, ↓e_some, ↓e_none, ↓e_test, ↓e_and, ↓e_or, ↓e_not, ↓e_yes, ↓e_truth,   ↓e_tru_bl, ↓e_tru_int, ↓e_tru_non, ↓e_tru_str, ↓e_tru_tup, ↓e_tru_obj, ↓e_chain, ↓e_orV, ↓e_andV, ↓e_notV, ↓e_ifE, ↓e_neg, ↓e_nil, ↓e_cons, ↓e_tup, ↓e_lst, ↓e_dnew, ↓e_call, ↓e_cb, ↓e_isi, ↓e_sl, ↓e_onone, ↓e_osome, ↓e_rev, ↓e_lm, ↓e_append, ↓e_extend, ↓e_pop, ↓e_join, ↓e_dget2, ↓e_sortSet, ↓e_sortS, ↓e_setd, strsOf_map, ↓e_maxI, ↓e_disp, ↓e_pairN, ↓e_pairC, intsOf_map, ↓e_for, ↓e_ilist, ↓e_itup, ↓e_rng1, ↓e_rng2, ↓e_lc, ↓e_lc2, e_lc2N, ↓e_ienum, ↓e_izip, ↓e_anyB, ↓e_allB, ↓e_mulS, blsOf_map, ↓e_set0, ↓e_sadd, ↓e_sortTx, ↓e_sortD, ↓e_repr, ↓e_extT, ↓e_sc2, ↓e_sortZ, ↓e_tupVals, ↓e_wget, ↓e_wix, ↓e_listZip, zipD_nil, zipD_cons, ↓e_dgetF, ↓e_idif, ↓e_isB, ↓e_sortI, ↓e_sortSetI, ↓e_tailR, ↓e_divmod, ↓e_strI, ↓e_lenD, ↓e_fmt, ↓e_fs2,   ↓e_add_int, ↓e_add_str, ↓e_add_tup, ↓e_add_obj, ↓e_iadd_int, ↓e_iadd_str, ↓e_iadd_obj, ↓e_I, ↓e_I0, ↓e_IS_int, ↓e_IS_str, ↓e_eq_str, ↓e_ne_str, ↓e_eq_int, ↓e_ne_int, ↓e_eq_bl, ↓e_ne_bl, ↓e_isN, ↓e_notN, ↓e_ix_tup, ↓e_ix_fl, ↓e_ix_str, ↓e_ix_obj, ↓e_in_tup, ↓e_nin_tup, ↓e_len_tup, ↓e_len_fl, ↓e_len_str, ↓e_len_obj, ↓e_int_int, ↓e_tuple_tup, ↓e_tuple_obj, ↓e_list_tup, ↓e_list_obj, ↓e_dget, ↓e_din, ↓e_dnin, ↓e_lstAt, ↓e_dicAt,   e_key_int, e_key_str, e_up, e_ty_str, e_ty_tup, e_ty_int, e_ty_bl, e_ty_non, atI0, atI1, atI2, atI3, atIL, ixN0, ixN1, cut_from1, e_ite_or, e_ite_and, zln, znl, zli, zil, zni, zin, sizeLine_eq, CMul, CDiv, cpow1018, true_or, or_true, kb_strstr, kb_tupstr, kb_tuptup, kb_strtup, kb_inttup, kb_bltup, kb_nontup, kb_strbl, kb_strint, kb_intbl, kb_intint, kb_blbl, kb_blint, kb_nonbl, kb_nonint, kb_nonstr, kb_intstr, kb_blstr, kb_tupbl, kb_tupint,   List.set_cons_zero, List.set_cons_succ, List.set_nil, List.getElem?_cons_zero, List.getElem?_cons_succ, List.getElem?_nil, List.length_cons, List.length_nil, List.length_map, List.length_append, e_lcN, e_lcC, e_forN, e_forC, List.getLast?_concat, List.dropLast_concat, List.nil_append, List.cons_append, List.append_nil, List.append_assoc, List.reverse_cons, List.reverse_nil, List.isEmpty_nil, List.isEmpty_cons, isEmpty_snoc, List.any_cons, List.any_nil, List.all_cons, List.all_nil, flatD, eqF, in_non, in_tup, in_str, in_int, in_bl, in_obj, in_fl, startA, List.map_cons, List.map_nil, List.replicate_succ, List.replicate_zero,   Nat.reduceAdd, Nat.reduceSub, Nat.reduceLeDiff, Nat.zero_add, Int.reduceLE, Int.reduceLT, Int.reduceToNat, Int.reducePow, Int.reduceNeg, Int.reduceAdd, Int.reduceSub,   Option.isSome_some, Option.isSome_none, Bool.not_true, Bool.not_false, Bool.not_eq_true', Bool.not_eq_eq_eq_not, Bool.not_eq_true, Bool.false_eq_true, Bool.true_eq_false, Bool.and_true, Bool.true_and, Bool.or_false, Bool.false_or, Bool.or_true, Bool.true_or, Bool.and_false, Bool.false_and, if_true, if_false, ite_true, ite_false, reduceIte, reduceCtorEq, decide_true, decide_false, decide_eq_true_eq, decide_eq_false_iff_not, true_and, and_true, false_and, and_false, eq_self, ne_eq, not_false_eq_true, not_true_eq_false, and_self, *])
  · rintro y r N env M2 ⟨k, j, x2, x3, x4, x5, x6, x7, x8, x9, hd, rfl, hb2⟩ next
    obtain ⟨j, rfl, rfl, rfl⟩ := rngD_cons hd.symm
    clear hd
    have nx := fun x2 x3 x4 x5 x6 x7 x8 x9 M' (h : BoxAt M' b d) => next [some (.fl (ns.map D.int)), some (.obj b), x2, x3, x4, x5, x6, x7, x8, x9] M' ⟨k + 1, j, x2, x3, x4, x5, x6, x7, x8, x9, rfl, rfl, h⟩
    clear next
    try (simp only [↓e_seq, ↓e_next, ↓e_break, ↓e_cont, ↓e_expr, ↓e_ret, ↓e_retN, ↓e_if, ↓e_never, ↓e_asg, ↓e_name, ↓e_agtup, ↓e_agcons, ↓e_agnil, ↓e_agsub, ↓e_aug, ↓e_dput, ↓e_var, ↓e_c, ↓e_op, ↓e_some, ↓e_none, ↓e_test, ↓e_and, ↓e_or, ↓e_not, ↓e_yes, ↓e_truth,   ↓e_tru_bl, ↓e_tru_int, ↓e_tru_non, ↓e_tru_str, ↓e_tru_tup, ↓e_tru_obj, ↓e_chain, ↓e_orV, ↓e_andV, ↓e_notV, ↓e_ifE, ↓e_neg, ↓e_nil, ↓e_cons, ↓e_tup, ↓e_lst, ↓e_dnew, ↓e_call, ↓e_cb, ↓e_isi, ↓e_sl, ↓e_onone, ↓e_osome, ↓e_rev, ↓e_lm, ↓e_append, ↓e_extend, ↓e_pop, ↓e_join, ↓e_dget2, ↓e_sortSet, ↓e_sortS, ↓e_setd, strsOf_map, ↓e_maxI, ↓e_disp, ↓e_pairN, ↓e_pairC, intsOf_map, ↓e_for, ↓e_ilist, ↓e_itup, ↓e_rng1, ↓e_rng2, ↓e_lc, ↓e_lc2, e_lc2N, ↓e_ienum, ↓e_izip, ↓e_anyB, ↓e_allB, ↓e_mulS, blsOf_map, ↓e_set0, ↓e_sadd, ↓e_sortTx, ↓e_sortD, ↓e_repr, ↓e_extT, ↓e_sc2, ↓e_sortZ, ↓e_tupVals, ↓e_wget, ↓e_wix, ↓e_listZip, zipD_nil, zipD_cons, ↓e_dgetF, ↓e_idif, ↓e_isB, ↓e_sortI, ↓e_sortSetI, ↓e_tailR, ↓e_divmod, ↓e_strI, ↓e_lenD, ↓e_fmt, ↓e_fs2,   ↓e_add_int, ↓e_add_str, ↓e_add_tup, ↓e_add_obj, ↓e_iadd_int, ↓e_iadd_str, ↓e_iadd_obj, ↓e_I, ↓e_I0, ↓e_IS_int, ↓e_IS_str, ↓e_eq_str, ↓e_ne_str, ↓e_eq_int, ↓e_ne_int, ↓e_eq_bl, ↓e_ne_bl, ↓e_isN, ↓e_notN, ↓e_ix_tup, ↓e_ix_fl, ↓e_ix_str, ↓e_ix_obj, ↓e_in_tup, ↓e_nin_tup, ↓e_len_tup, ↓e_len_fl, ↓e_len_str, ↓e_len_obj, ↓e_int_int, ↓e_tuple_tup, ↓e_tuple_obj, ↓e_list_tup, ↓e_list_obj, ↓e_dget, ↓e_din, ↓e_dnin, ↓e_lstAt, ↓e_dicAt,   e_key_int, e_key_str, e_up, e_ty_str, e_ty_tup, e_ty_int, e_ty_bl, e_ty_non, atI0, atI1, atI2, atI3, atIL, ixN0, ixN1, cut_from1, e_ite_or, e_ite_and, zln, znl, zli, zil, zni, zin, sizeLine_eq, CMul, CDiv, cpow1018, true_or, or_true, kb_strstr, kb_tupstr, kb_tuptup, kb_strtup, kb_inttup, kb_bltup, kb_nontup, kb_strbl, kb_strint, kb_intbl, kb_intint, kb_blbl, kb_blint, kb_nonbl, kb_nonint, kb_nonstr, kb_intstr, kb_blstr, kb_tupbl, kb_tupint,   List.set_cons_zero, List.set_cons_succ, List.set_nil, List.getElem?_cons_zero, List.getElem?_cons_succ, List.getElem?_nil, List.length_cons, List.length_nil, List.length_map, List.length_append, e_lcN, e_lcC, e_forN, e_forC, List.getLast?_concat, List.dropLast_concat, List.nil_append, List.cons_append, List.append_nil, List.append_assoc, List.reverse_cons, List.reverse_nil, List.isEmpty_nil, List.isEmpty_cons, isEmpty_snoc, List.any_cons, List.any_nil, List.all_cons, List.all_nil, flatD, eqF, in_non, in_tup, in_str, in_int, in_bl, in_obj, in_fl, startA, List.map_cons, List.map_nil, List.replicate_succ, List.replicate_zero,   Nat.reduceAdd, Nat.reduceSub, Nat.reduceLeDiff, Nat.zero_add, Int.reduceLE, Int.reduceLT, Int.reduceToNat, Int.reducePow, Int.reduceNeg, Int.reduceAdd, Int.reduceSub,   Option.isSome_some, Option.isSome_none, Bool.not_true, Bool.not_false, Bool.not_eq_true', Bool.not_eq_eq_eq_not, Bool.not_eq_true, Bool.false_eq_true, Bool.true_eq_false, Bool.and_true, Bool.true_and, Bool.or_false, Bool.false_or, Bool.or_true, Bool.true_or, Bool.and_false, Bool.false_and, if_true, if_false, ite_true, ite_false, reduceIte, reduceCtorEq, decide_true, decide_false, decide_eq_true_eq, decide_eq_false_iff_not, true_and, and_true, false_and, and_false, eq_self, ne_eq, not_false_eq_true, not_true_eq_false, and_self, *])
    intro x nx0
    have hx : up M2 x (.lst [.str z_positive, .str z_minimal]) x = some (.lst [.str z_positive, .str z_minimal]) := up_same
    have hb3 := hb2.new (mo := .lst [.str z_positive, .str z_minimal]) nx0
    have nxb : x ≠ b := (hb2.fresh nx0).1.symm
    generalize up M2 x (.lst [.str z_positive, .str z_minimal]) = M3 at *
    clear nx0 hb2
    refine ⟨rfl, b, d, 2, rfl, hb3, by decide, fun v M4 hv0 hv1 hb4 e4 => ?_⟩
    have hx4 := e4 _ _ nxb hx
    obtain ⟨pos, hpos⟩ : ∃ pos : Bool, atI [D.str z_positive, D.str z_minimal] v = some (.str (if pos = true then z_positive else z_minimal)) := by
      by_cases c : v = 0
      · subst c
        exact ⟨true, atI0⟩
      · have e : v = 1 := by omega
        subst e
        exact ⟨false, atI1⟩
    clear hx hb3 e4
    try (simp only [↓e_seq, ↓e_next, ↓e_break, ↓e_cont, ↓e_expr, ↓e_ret, ↓e_retN, ↓e_if, ↓e_never, ↓e_asg, ↓e_name, ↓e_agtup, ↓e_agcons, ↓e_agnil, ↓e_agsub, ↓e_aug, ↓e_dput, ↓e_var, ↓e_c, ↓e_op, ↓e_some, ↓e_none, ↓e_test, ↓e_and, ↓e_or, ↓e_not, ↓e_yes, ↓e_truth,   ↓e_tru_bl, ↓e_tru_int, ↓e_tru_non, ↓e_tru_str, ↓e_tru_tup, ↓e_tru_obj, ↓e_chain, ↓e_orV, ↓e_andV, ↓e_notV, ↓e_ifE, ↓e_neg, ↓e_nil, ↓e_cons, ↓e_tup, ↓e_lst, ↓e_dnew, ↓e_call, ↓e_cb, ↓e_isi, ↓e_sl, ↓e_onone, ↓e_osome, ↓e_rev, ↓e_lm, ↓e_append, ↓e_extend, ↓e_pop, ↓e_join, ↓e_dget2, ↓e_sortSet, ↓e_sortS, ↓e_setd, strsOf_map, ↓e_maxI, ↓e_disp, ↓e_pairN, ↓e_pairC, intsOf_map, ↓e_for, ↓e_ilist, ↓e_itup, ↓e_rng1, ↓e_rng2, ↓e_lc, ↓e_lc2, e_lc2N, ↓e_ienum, ↓e_izip, ↓e_anyB, ↓e_allB, ↓e_mulS, blsOf_map, ↓e_set0, ↓e_sadd, ↓e_sortTx, ↓e_sortD, ↓e_repr, ↓e_extT, ↓e_sc2, ↓e_sortZ, ↓e_tupVals, ↓e_wget, ↓e_wix, ↓e_listZip, zipD_nil, zipD_cons, ↓e_dgetF, ↓e_idif, ↓e_isB, ↓e_sortI, ↓e_sortSetI, ↓e_tailR, ↓e_divmod, ↓e_strI, ↓e_lenD, ↓e_fmt, ↓e_fs2,   ↓e_add_int, ↓e_add_str, ↓e_add_tup, ↓e_add_obj, ↓e_iadd_int, ↓e_iadd_str, ↓e_iadd_obj, ↓e_I, ↓e_I0, ↓e_IS_int, ↓e_IS_str, ↓e_eq_str, ↓e_ne_str, ↓e_eq_int, ↓e_ne_int, ↓e_eq_bl, ↓e_ne_bl, ↓e_isN, ↓e_notN, ↓e_ix_tup, ↓e_ix_fl, ↓e_ix_str, ↓e_ix_obj, ↓e_in_tup, ↓e_nin_tup, ↓e_len_tup, ↓e_len_fl, ↓e_len_str, ↓e_len_obj, ↓e_int_int, ↓e_tuple_tup, ↓e_tuple_obj, ↓e_list_tup, ↓e_list_obj, ↓e_dget, ↓e_din, ↓e_dnin, ↓e_lstAt, ↓e_dicAt,   e_key_int, e_key_str, e_up, e_ty_str, e_ty_tup, e_ty_int, e_ty_bl, e_ty_non, atI0, atI1, atI2, atI3, atIL, ixN0, ixN1, cut_from1, e_ite_or, e_ite_and, zln, znl, zli, zil, zni, zin, sizeLine_eq, CMul, CDiv, cpow1018, true_or, or_true, kb_strstr, kb_tupstr, kb_tuptup, kb_strtup, kb_inttup, kb_bltup, kb_nontup, kb_strbl, kb_strint, kb_intbl, kb_intint, kb_blbl, kb_blint, kb_nonbl, kb_nonint, kb_nonstr, kb_intstr, kb_blstr, kb_tupbl, kb_tupint,   List.set_cons_zero, List.set_cons_succ, List.set_nil, List.getElem?_cons_zero, List.getElem?_cons_succ, List.getElem?_nil, List.length_cons, List.length_nil, List.length_map, List.length_append, e_lcN, e_lcC, e_forN, e_forC, List.getLast?_concat, List.dropLast_concat, List.nil_append, List.cons_append, List.append_nil, List.append_assoc, List.reverse_cons, List.reverse_nil, List.isEmpty_nil, List.isEmpty_cons, isEmpty_snoc, List.any_cons, List.any_nil, List.all_cons, List.all_nil, flatD, eqF, in_non, in_tup, in_str, in_int, in_bl, in_obj, in_fl, startA, List.map_cons, List.map_nil, List.replicate_succ, List.replicate_zero,   Nat.reduceAdd, Nat.reduceSub, Nat.reduceLeDiff, Nat.zero_add, Int.reduceLE, Int.reduceLT, Int.reduceToNat, Int.reducePow, Int.reduceNeg, Int.reduceAdd, Int.reduceSub,   Option.isSome_some, Option.isSome_none, Bool.not_true, Bool.not_false, Bool.not_eq_true', Bool.not_eq_eq_eq_not, Bool.not_eq_true, Bool.false_eq_true, Bool.true_eq_false, Bool.and_true, Bool.true_and, Bool.or_false, Bool.false_or, Bool.or_true, Bool.true_or, Bool.and_false, Bool.false_and, if_true, if_false, ite_true, ite_false, reduceIte, reduceCtorEq, decide_true, decide_false, decide_eq_true_eq, decide_eq_false_iff_not, true_and, and_true, false_and, and_false, eq_self, ne_eq, not_false_eq_true, not_true_eq_false, and_self, *])
    intro n nn
    have hn : up M4 n (.lst [.str z_a, .str z_b]) n = some (.lst [.str z_a, .str z_b]) := up_same
    have hb5 := hb4.new (mo := .lst [.str z_a, .str z_b]) nn
    generalize up M4 n (.lst [.str z_a, .str z_b]) = M5 at *
    clear nn hx4 hb4
    refine ⟨rfl, b, d, n, pos, rfl, hb5, hn, fun m M6 ok kr ml mr hb6 e6 => ?_⟩
    clear hb5 hn e6
    try (simp only [↓e_seq, ↓e_next, ↓e_break, ↓e_cont, ↓e_expr, ↓e_ret, ↓e_retN, ↓e_if, ↓e_never, ↓e_asg, ↓e_name, ↓e_agtup, ↓e_agcons, ↓e_agnil, ↓e_agsub, ↓e_aug, ↓e_dput, ↓e_var, ↓e_c, ↓e_op, ↓e_some, ↓e_none, ↓e_test, ↓e_and, ↓e_or, ↓e_not, ↓e_yes, ↓e_truth,   ↓e_tru_bl, ↓e_tru_int, ↓e_tru_non, ↓e_tru_str, ↓e_tru_tup, ↓e_tru_obj, ↓e_chain, ↓e_orV, ↓e_andV, ↓e_notV, ↓e_ifE, ↓e_neg, ↓e_nil, ↓e_cons, ↓e_tup, ↓e_lst, ↓e_dnew, ↓e_call, ↓e_cb, ↓e_isi, ↓e_sl, ↓e_onone, ↓e_osome, ↓e_rev, ↓e_lm, ↓e_append, ↓e_extend, ↓e_pop, ↓e_join, ↓e_dget2, ↓e_sortSet, ↓e_sortS, ↓e_setd, strsOf_map, ↓e_maxI, ↓e_disp, ↓e_pairN, ↓e_pairC, intsOf_map, ↓e_for, ↓e_ilist, ↓e_itup, ↓e_rng1, ↓e_rng2, ↓e_lc, ↓e_lc2, e_lc2N, ↓e_ienum, ↓e_izip, ↓e_anyB, ↓e_allB, ↓e_mulS, blsOf_map, ↓e_set0, ↓e_sadd, ↓e_sortTx, ↓e_sortD, ↓e_repr, ↓e_extT, ↓e_sc2, ↓e_sortZ, ↓e_tupVals, ↓e_wget, ↓e_wix, ↓e_listZip, zipD_nil, zipD_cons, ↓e_dgetF, ↓e_idif, ↓e_isB, ↓e_sortI, ↓e_sortSetI, ↓e_tailR, ↓e_divmod, ↓e_strI, ↓e_lenD, ↓e_fmt, ↓e_fs2,   ↓e_add_int, ↓e_add_str, ↓e_add_tup, ↓e_add_obj, ↓e_iadd_int, ↓e_iadd_str, ↓e_iadd_obj, ↓e_I, ↓e_I0, ↓e_IS_int, ↓e_IS_str, ↓e_eq_str, ↓e_ne_str, ↓e_eq_int, ↓e_ne_int, ↓e_eq_bl, ↓e_ne_bl, ↓e_isN, ↓e_notN, ↓e_ix_tup, ↓e_ix_fl, ↓e_ix_str, ↓e_ix_obj, ↓e_in_tup, ↓e_nin_tup, ↓e_len_tup, ↓e_len_fl, ↓e_len_str, ↓e_len_obj, ↓e_int_int, ↓e_tuple_tup, ↓e_tuple_obj, ↓e_list_tup, ↓e_list_obj, ↓e_dget, ↓e_din, ↓e_dnin, ↓e_lstAt, ↓e_dicAt,   e_key_int, e_key_str, e_up, e_ty_str, e_ty_tup, e_ty_int, e_ty_bl, e_ty_non, atI0, atI1, atI2, atI3, atIL, ixN0, ixN1, cut_from1, e_ite_or, e_ite_and, zln, znl, zli, zil, zni, zin, sizeLine_eq, CMul, CDiv, cpow1018, true_or, or_true, kb_strstr, kb_tupstr, kb_tuptup, kb_strtup, kb_inttup, kb_bltup, kb_nontup, kb_strbl, kb_strint, kb_intbl, kb_intint, kb_blbl, kb_blint, kb_nonbl, kb_nonint, kb_nonstr, kb_intstr, kb_blstr, kb_tupbl, kb_tupint,   List.set_cons_zero, List.set_cons_succ, List.set_nil, List.getElem?_cons_zero, List.getElem?_cons_succ, List.getElem?_nil, List.length_cons, List.length_nil, List.length_map, List.length_append, e_lcN, e_lcC, e_forN, e_forC, List.getLast?_concat, List.dropLast_concat, List.nil_append, List.cons_append, List.append_nil, List.append_assoc, List.reverse_cons, List.reverse_nil, List.isEmpty_nil, List.isEmpty_cons, isEmpty_snoc, List.any_cons, List.any_nil, List.all_cons, List.all_nil, flatD, eqF, in_non, in_tup, in_str, in_int, in_bl, in_obj, in_fl, startA, List.map_cons, List.map_nil, List.replicate_succ, List.replicate_zero,   Nat.reduceAdd, Nat.reduceSub, Nat.reduceLeDiff, Nat.zero_add, Int.reduceLE, Int.reduceLT, Int.reduceToNat, Int.reducePow, Int.reduceNeg, Int.reduceAdd, Int.reduceSub,   Option.isSome_some, Option.isSome_none, Bool.not_true, Bool.not_false, Bool.not_eq_true', Bool.not_eq_eq_eq_not, Bool.not_eq_true, Bool.false_eq_true, Bool.true_eq_false, Bool.and_true, Bool.true_and, Bool.or_false, Bool.false_or, Bool.or_true, Bool.true_or, Bool.and_false, Bool.false_and, if_true, if_false, ite_true, ite_false, reduceIte, reduceCtorEq, decide_true, decide_false, decide_eq_true_eq, decide_eq_false_iff_not, true_and, and_true, false_and, and_false, eq_self, ne_eq, not_false_eq_true, not_true_eq_false, and_self, *])
    refine ⟨rfl, b, d, 10, 2, rfl, hb6, by omega, by omega, by omega, by omega, fun f M7 hf8 hfz hb7 e7 => ?_⟩
    have hfz' : f.sz ≤ 10 := by omega
    have hft := tiny_any hf8 (by omega)
    have hnt := Fm.Tiny.neg hf8 (by omega)
    have hnz : (Fm.ng f).sz = f.sz + 1 := rfl
    clear hb6 e7 hf8
    try (simp only [↓e_seq, ↓e_next, ↓e_break, ↓e_cont, ↓e_expr, ↓e_ret, ↓e_retN, ↓e_if, ↓e_never, ↓e_asg, ↓e_name, ↓e_agtup, ↓e_agcons, ↓e_agnil, ↓e_agsub, ↓e_aug, ↓e_dput, ↓e_var, ↓e_c, ↓e_op, ↓e_some, ↓e_none, ↓e_test, ↓e_and, ↓e_or, ↓e_not, ↓e_yes, ↓e_truth,   ↓e_tru_bl, ↓e_tru_int, ↓e_tru_non, ↓e_tru_str, ↓e_tru_tup, ↓e_tru_obj, ↓e_chain, ↓e_orV, ↓e_andV, ↓e_notV, ↓e_ifE, ↓e_neg, ↓e_nil, ↓e_cons, ↓e_tup, ↓e_lst, ↓e_dnew, ↓e_call, ↓e_cb, ↓e_isi, ↓e_sl, ↓e_onone, ↓e_osome, ↓e_rev, ↓e_lm, ↓e_append, ↓e_extend, ↓e_pop, ↓e_join, ↓e_dget2, ↓e_sortSet, ↓e_sortS, ↓e_setd, strsOf_map, ↓e_maxI, ↓e_disp, ↓e_pairN, ↓e_pairC, intsOf_map, ↓e_for, ↓e_ilist, ↓e_itup, ↓e_rng1, ↓e_rng2, ↓e_lc, ↓e_lc2, e_lc2N, ↓e_ienum, ↓e_izip, ↓e_anyB, ↓e_allB, ↓e_mulS, blsOf_map, ↓e_set0, ↓e_sadd, ↓e_sortTx, ↓e_sortD, ↓e_repr, ↓e_extT, ↓e_sc2, ↓e_sortZ, ↓e_tupVals, ↓e_wget, ↓e_wix, ↓e_listZip, zipD_nil, zipD_cons, ↓e_dgetF, ↓e_idif, ↓e_isB, ↓e_sortI, ↓e_sortSetI, ↓e_tailR, ↓e_divmod, ↓e_strI, ↓e_lenD, ↓e_fmt, ↓e_fs2,   ↓e_add_int, ↓e_add_str, ↓e_add_tup, ↓e_add_obj, ↓e_iadd_int, ↓e_iadd_str, ↓e_iadd_obj, ↓e_I, ↓e_I0, ↓e_IS_int, ↓e_IS_str, ↓e_eq_str, ↓e_ne_str, ↓e_eq_int, ↓e_ne_int, ↓e_eq_bl, ↓e_ne_bl, ↓e_isN, ↓e_notN, ↓e_ix_tup, ↓e_ix_fl, ↓e_ix_str, ↓e_ix_obj, ↓e_in_tup, ↓e_nin_tup, ↓e_len_tup, ↓e_len_fl, ↓e_len_str, ↓e_len_obj, ↓e_int_int, ↓e_tuple_tup, ↓e_tuple_obj, ↓e_list_tup, ↓e_list_obj, ↓e_dget, ↓e_din, ↓e_dnin, ↓e_lstAt, ↓e_dicAt,   e_key_int, e_key_str, e_up, e_ty_str, e_ty_tup, e_ty_int, e_ty_bl, e_ty_non, atI0, atI1, atI2, atI3, atIL, ixN0, ixN1, cut_from1, e_ite_or, e_ite_and, zln, znl, zli, zil, zni, zin, sizeLine_eq, CMul, CDiv, cpow1018, true_or, or_true, kb_strstr, kb_tupstr, kb_tuptup, kb_strtup, kb_inttup, kb_bltup, kb_nontup, kb_strbl, kb_strint, kb_intbl, kb_intint, kb_blbl, kb_blint, kb_nonbl, kb_nonint, kb_nonstr, kb_intstr, kb_blstr, kb_tupbl, kb_tupint,   List.set_cons_zero, List.set_cons_succ, List.set_nil, List.getElem?_cons_zero, List.getElem?_cons_succ, List.getElem?_nil, List.length_cons, List.length_nil, List.length_map, List.length_append, e_lcN, e_lcC, e_forN, e_forC, List.getLast?_concat, List.dropLast_concat, List.nil_append, List.cons_append, List.append_nil, List.append_assoc, List.reverse_cons, List.reverse_nil, List.isEmpty_nil, List.isEmpty_cons, isEmpty_snoc, List.any_cons, List.any_nil, List.all_cons, List.all_nil, flatD, eqF, in_non, in_tup, in_str, in_int, in_bl, in_obj, in_fl, startA, List.map_cons, List.map_nil, List.replicate_succ, List.replicate_zero,   Nat.reduceAdd, Nat.reduceSub, Nat.reduceLeDiff, Nat.zero_add, Int.reduceLE, Int.reduceLT, Int.reduceToNat, Int.reducePow, Int.reduceNeg, Int.reduceAdd, Int.reduceSub,   Option.isSome_some, Option.isSome_none, Bool.not_true, Bool.not_false, Bool.not_eq_true', Bool.not_eq_eq_eq_not, Bool.not_eq_true, Bool.false_eq_true, Bool.true_eq_false, Bool.and_true, Bool.true_and, Bool.or_false, Bool.false_or, Bool.or_true, Bool.true_or, Bool.and_false, Bool.false_and, if_true, if_false, ite_true, ite_false, reduceIte, reduceCtorEq, decide_true, decide_false, decide_eq_true_eq, decide_eq_false_iff_not, true_and, and_true, false_and, and_false, eq_self, ne_eq, not_false_eq_true, not_true_eq_false, and_self, *])
    intro t nt
    have ht : up M7 t (.lst []) t = some (.lst (wsD 0 (frc pos m f))) := up_same
    have hb8 := hb7.new (mo := .lst []) nt
    have nbt := hb7.fresh nt
    generalize up M7 t (.lst []) = M8 at *
    clear nt hb7
    have i1 : ∀ M Q, ρIx m.d (.int 1) M Q = Q (.tup (m.later.map natsD)) M := fun _ _ => rfl
    have i3 : ∀ M Q, ρIx m.d (.int 3) M Q = Q (natsD m.brk) M := fun _ _ => rfl
    have i4 : ∀ (v : Nat) M Q, ρIn false (.int (v : Int)) (natsD m.brk) M Q = Q (.bl (decide (v ∈ m.brk))) M := fun v M Q => by
      show (true = true ∧ (m.brk.map fun k : Nat => D.int (k : Int)).all flatD = true ∧ Q (.bl ((m.brk.map fun k : Nat => D.int (k : Int)).any fun y => eqF y (.int (v : Int)))) M) = _
      rw [nats_flat, nats_any]
      exact propext ⟨fun z => z.2.2, fun z => ⟨rfl, rfl, z⟩⟩
    have z1 := zpm
    have z2 := zmp
    try (simp only [↓e_seq, ↓e_next, ↓e_break, ↓e_cont, ↓e_expr, ↓e_ret, ↓e_retN, ↓e_if, ↓e_never, ↓e_asg, ↓e_name, ↓e_agtup, ↓e_agcons, ↓e_agnil, ↓e_agsub, ↓e_aug, ↓e_dput, ↓e_var, ↓e_c, ↓e_op, ↓e_some, ↓e_none, ↓e_test, ↓e_and, ↓e_or, ↓e_not, ↓e_yes, ↓e_truth,   ↓e_tru_bl, ↓e_tru_int, ↓e_tru_non, ↓e_tru_str, ↓e_tru_tup, ↓e_tru_obj, ↓e_chain, ↓e_orV, ↓e_andV, ↓e_notV, ↓e_ifE, ↓e_neg, ↓e_nil, ↓e_cons, ↓e_tup, ↓e_lst, ↓e_dnew, ↓e_call, ↓e_cb, ↓e_isi, ↓e_sl, ↓e_onone, ↓e_osome, ↓e_rev, ↓e_lm, ↓e_append, ↓e_extend, ↓e_pop, ↓e_join, ↓e_dget2, ↓e_sortSet, ↓e_sortS, ↓e_setd, strsOf_map, ↓e_maxI, ↓e_disp, ↓e_pairN, ↓e_pairC, intsOf_map, ↓e_for, ↓e_ilist, ↓e_itup, ↓e_rng1, ↓e_rng2, ↓e_lc, ↓e_lc2, e_lc2N, ↓e_ienum, ↓e_izip, ↓e_anyB, ↓e_allB, ↓e_mulS, blsOf_map, ↓e_set0, ↓e_sadd, ↓e_sortTx, ↓e_sortD, ↓e_repr, ↓e_extT, ↓e_sc2, ↓e_sortZ, ↓e_tupVals, ↓e_wget, ↓e_wix, ↓e_listZip, zipD_nil, zipD_cons, ↓e_dgetF, ↓e_idif, ↓e_isB, ↓e_sortI, ↓e_sortSetI, ↓e_tailR, ↓e_divmod, ↓e_strI, ↓e_lenD, ↓e_fmt, ↓e_fs2,   ↓e_add_int, ↓e_add_str, ↓e_add_tup, ↓e_add_obj, ↓e_iadd_int, ↓e_iadd_str, ↓e_iadd_obj, ↓e_I, ↓e_I0, ↓e_IS_int, ↓e_IS_str, ↓e_eq_str, ↓e_ne_str, ↓e_eq_int, ↓e_ne_int, ↓e_eq_bl, ↓e_ne_bl, ↓e_isN, ↓e_notN, ↓e_ix_tup, ↓e_ix_fl, ↓e_ix_str, ↓e_ix_obj, ↓e_in_tup, ↓e_nin_tup, ↓e_len_tup, ↓e_len_fl, ↓e_len_str, ↓e_len_obj, ↓e_int_int, ↓e_tuple_tup, ↓e_tuple_obj, ↓e_list_tup, ↓e_list_obj, ↓e_dget, ↓e_din, ↓e_dnin, ↓e_lstAt, ↓e_dicAt,   e_key_int, e_key_str, e_up, e_ty_str, e_ty_tup, e_ty_int, e_ty_bl, e_ty_non, atI0, atI1, atI2, atI3, atIL, ixN0, ixN1, cut_from1, e_ite_or, e_ite_and, zln, znl, zli, zil, zni, zin, sizeLine_eq, CMul, CDiv, cpow1018, true_or, or_true, kb_strstr, kb_tupstr, kb_tuptup, kb_strtup, kb_inttup, kb_bltup, kb_nontup, kb_strbl, kb_strint, kb_intbl, kb_intint, kb_blbl, kb_blint, kb_nonbl, kb_nonint, kb_nonstr, kb_intstr, kb_blstr, kb_tupbl, kb_tupint,   List.set_cons_zero, List.set_cons_succ, List.set_nil, List.getElem?_cons_zero, List.getElem?_cons_succ, List.getElem?_nil, List.length_cons, List.length_nil, List.length_map, List.length_append, e_lcN, e_lcC, e_forN, e_forC, List.getLast?_concat, List.dropLast_concat, List.nil_append, List.cons_append, List.append_nil, List.append_assoc, List.reverse_cons, List.reverse_nil, List.isEmpty_nil, List.isEmpty_cons, isEmpty_snoc, List.any_cons, List.any_nil, List.all_cons, List.all_nil, flatD, eqF, in_non, in_tup, in_str, in_int, in_bl, in_obj, in_fl, startA, List.map_cons, List.map_nil, List.replicate_succ, List.replicate_zero,   Nat.reduceAdd, Nat.reduceSub, Nat.reduceLeDiff, Nat.zero_add, Int.reduceLE, Int.reduceLT, Int.reduceToNat, Int.reducePow, Int.reduceNeg, Int.reduceAdd, Int.reduceSub,   Option.isSome_some, Option.isSome_none, Bool.not_true, Bool.not_false, Bool.not_eq_true', Bool.not_eq_eq_eq_not, Bool.not_eq_true, Bool.false_eq_true, Bool.true_eq_false, Bool.and_true, Bool.true_and, Bool.or_false, Bool.false_or, Bool.or_true, Bool.true_or, Bool.and_false, Bool.false_and, if_true, if_false, ite_true, ite_false, reduceIte, reduceCtorEq, decide_true, decide_false, decide_eq_true_eq, decide_eq_false_iff_not, true_and, and_true, false_and, and_false, eq_self, ne_eq, not_false_eq_true, not_true_eq_false, and_self, *])
    refine ⟨by omega, by omega, ?_⟩
    refine for_run (fun ds env M' => ∃ (w j : Nat) (x7 x8 : Option D), ds = rngD (w : Int) j ∧ w + j = m.later.length ∧ env = [some (.fl (ns.map D.int)), some (.obj b), some (.int k), some (.str (if pos = true then z_positive else z_minimal)), some m.d, some f.d, some (.obj t), x7, x8, x9] ∧ M' t = some (.lst (wsD w (frc pos m f))) ∧ BoxAt M' b d) (fun _ _ _ _ => trivial) ?_ ?_
      ⟨0, m.later.length, x7, x8, rfl, by omega, rfl, ht, hb8⟩
    · rintro env M9 ⟨w, j, x7, x8, hd, hw, rfl, ht9, hb9⟩
      have z := rngD_nil hd.symm
      subst z
      clear hd ht hb8
      have hw2 : w = m.later.length := by omega
      subst hw2
      try (simp only [↓e_seq, ↓e_next, ↓e_break, ↓e_cont, ↓e_expr, ↓e_ret, ↓e_retN, ↓e_if, ↓e_never, ↓e_asg, ↓e_name, ↓e_agtup, ↓e_agcons, ↓e_agnil, ↓e_agsub, ↓e_aug, ↓e_dput, ↓e_var, ↓e_c, ↓e_op, ↓e_some, ↓e_none, ↓e_test, ↓e_and, ↓e_or, ↓e_not, ↓e_yes, ↓e_truth,   ↓e_tru_bl, ↓e_tru_int, ↓e_tru_non, ↓e_tru_str, ↓e_tru_tup, ↓e_tru_obj, ↓e_chain, ↓e_orV, ↓e_andV, ↓e_notV, ↓e_ifE, ↓e_neg, ↓e_nil, ↓e_cons, ↓e_tup, ↓e_lst, ↓e_dnew, ↓e_call, ↓e_cb, ↓e_isi, ↓e_sl, ↓e_onone, ↓e_osome, ↓e_rev, ↓e_lm, ↓e_append, ↓e_extend, ↓e_pop, ↓e_join, ↓e_dget2, ↓e_sortSet, ↓e_sortS, ↓e_setd, strsOf_map, ↓e_maxI, ↓e_disp, ↓e_pairN, ↓e_pairC, intsOf_map, ↓e_for, ↓e_ilist, ↓e_itup, ↓e_rng1, ↓e_rng2, ↓e_lc, ↓e_lc2, e_lc2N, ↓e_ienum, ↓e_izip, ↓e_anyB, ↓e_allB, ↓e_mulS, blsOf_map, ↓e_set0, ↓e_sadd, ↓e_sortTx, ↓e_sortD, ↓e_repr, ↓e_extT, ↓e_sc2, ↓e_sortZ, ↓e_tupVals, ↓e_wget, ↓e_wix, ↓e_listZip, zipD_nil, zipD_cons, ↓e_dgetF, ↓e_idif, ↓e_isB, ↓e_sortI, ↓e_sortSetI, ↓e_tailR, ↓e_divmod, ↓e_strI, ↓e_lenD, ↓e_fmt, ↓e_fs2,   ↓e_add_int, ↓e_add_str, ↓e_add_tup, ↓e_add_obj, ↓e_iadd_int, ↓e_iadd_str, ↓e_iadd_obj, ↓e_I, ↓e_I0, ↓e_IS_int, ↓e_IS_str, ↓e_eq_str, ↓e_ne_str, ↓e_eq_int, ↓e_ne_int, ↓e_eq_bl, ↓e_ne_bl, ↓e_isN, ↓e_notN, ↓e_ix_tup, ↓e_ix_fl, ↓e_ix_str, ↓e_ix_obj, ↓e_in_tup, ↓e_nin_tup, ↓e_len_tup, ↓e_len_fl, ↓e_len_str, ↓e_len_obj, ↓e_int_int, ↓e_tuple_tup, ↓e_tuple_obj, ↓e_list_tup, ↓e_list_obj, ↓e_dget, ↓e_din, ↓e_dnin, ↓e_lstAt, ↓e_dicAt,   e_key_int, e_key_str, e_up, e_ty_str, e_ty_tup, e_ty_int, e_ty_bl, e_ty_non, atI0, atI1, atI2, atI3, atIL, ixN0, ixN1, cut_from1, e_ite_or, e_ite_and, zln, znl, zli, zil, zni, zin, sizeLine_eq, CMul, CDiv, cpow1018, true_or, or_true, kb_strstr, kb_tupstr, kb_tuptup, kb_strtup, kb_inttup, kb_bltup, kb_nontup, kb_strbl, kb_strint, kb_intbl, kb_intint, kb_blbl, kb_blint, kb_nonbl, kb_nonint, kb_nonstr, kb_intstr, kb_blstr, kb_tupbl, kb_tupint,   List.set_cons_zero, List.set_cons_succ, List.set_nil, List.getElem?_cons_zero, List.getElem?_cons_succ, List.getElem?_nil, List.length_cons, List.length_nil, List.length_map, List.length_append, e_lcN, e_lcC, e_forN, e_forC, List.getLast?_concat, List.dropLast_concat, List.nil_append, List.cons_append, List.append_nil, List.append_assoc, List.reverse_cons, List.reverse_nil, List.isEmpty_nil, List.isEmpty_cons, isEmpty_snoc, List.any_cons, List.any_nil, List.all_cons, List.all_nil, flatD, eqF, in_non, in_tup, in_str, in_int, in_bl, in_obj, in_fl, startA, List.map_cons, List.map_nil, List.replicate_succ, List.replicate_zero,   Nat.reduceAdd, Nat.reduceSub, Nat.reduceLeDiff, Nat.zero_add, Int.reduceLE, Int.reduceLT, Int.reduceToNat, Int.reducePow, Int.reduceNeg, Int.reduceAdd, Int.reduceSub,   Option.isSome_some, Option.isSome_none, Bool.not_true, Bool.not_false, Bool.not_eq_true', Bool.not_eq_eq_eq_not, Bool.not_eq_true, Bool.false_eq_true, Bool.true_eq_false, Bool.and_true, Bool.true_and, Bool.or_false, Bool.false_or, Bool.or_true, Bool.true_or, Bool.and_false, Bool.false_and, if_true, if_false, ite_true, ite_false, reduceIte, reduceCtorEq, decide_true, decide_false, decide_eq_true_eq, decide_eq_false_iff_not, true_and, and_true, false_and, and_false, eq_self, ne_eq, not_false_eq_true, not_true_eq_false, and_self, *])
      refine ⟨by omega, by omega, ?_⟩
      refine for_run (fun ds env M' => ∃ (w j : Nat) (x7 x8 x9 : Option D), ds = rngD (w : Int) j ∧ w + j = m.later.length ∧ env = [some (.fl (ns.map D.int)), some (.obj b), some (.int k), some (.str (if pos = true then z_positive else z_minimal)), some m.d, some f.d, some (.obj t), x7, x8, x9] ∧ M' = M9) (fun _ _ _ _ => trivial) ?_ ?_
        ⟨0, m.later.length, x7, x8, x9, rfl, by omega, rfl, rfl⟩
      · rintro env M10 ⟨w, j, x7, x8, x9, hd, hw, rfl, rfl⟩
        exact nx _ _ _ _ _ _ _ _ _ hb9
      · rintro y r N2 env M10 ⟨w, j, x7, x8, x9, hd, hw, rfl, rfl⟩ next2
        obtain ⟨j, rfl, rfl, rfl⟩ := rngD_cons hd.symm
        clear hd
        have hwl : w < m.later.length := by omega
        obtain ⟨row, hrow⟩ : ∃ r, m.later[w]? = some r := ⟨_, List.getElem?_eq_getElem hwl⟩
        have row0 : m.later.getD w [] = row := by rw [List.getD_eq_getElem?_getD, hrow]; rfl
        have a1 := at_row (f := natsD) hrow
        have nr : natsD row = .tup (row.map fun k : Nat => D.int (k : Int)) := rfl
        have inn := ok.inn row (List.mem_of_getElem? hrow)
        have nx2 := fun x7 x8 x9 => next2 [some (.fl (ns.map D.int)), some (.obj b), some (.int k), some (.str (if pos = true then z_positive else z_minimal)), some m.d, some f.d, some (.obj t), x7, x8, x9] M10 ⟨w + 1, j, x7, x8, x9, by rw [show ((w + 1 : Nat) : Int) = (w : Int) + 1 by omega], by omega, rfl, rfl⟩
        have hat := ws_at hwl (frc pos m f)
        clear next2
        try (simp only [↓e_seq, ↓e_next, ↓e_break, ↓e_cont, ↓e_expr, ↓e_ret, ↓e_retN, ↓e_if, ↓e_never, ↓e_asg, ↓e_name, ↓e_agtup, ↓e_agcons, ↓e_agnil, ↓e_agsub, ↓e_aug, ↓e_dput, ↓e_var, ↓e_c, ↓e_op, ↓e_some, ↓e_none, ↓e_test, ↓e_and, ↓e_or, ↓e_not, ↓e_yes, ↓e_truth,   ↓e_tru_bl, ↓e_tru_int, ↓e_tru_non, ↓e_tru_str, ↓e_tru_tup, ↓e_tru_obj, ↓e_chain, ↓e_orV, ↓e_andV, ↓e_notV, ↓e_ifE, ↓e_neg, ↓e_nil, ↓e_cons, ↓e_tup, ↓e_lst, ↓e_dnew, ↓e_call, ↓e_cb, ↓e_isi, ↓e_sl, ↓e_onone, ↓e_osome, ↓e_rev, ↓e_lm, ↓e_append, ↓e_extend, ↓e_pop, ↓e_join, ↓e_dget2, ↓e_sortSet, ↓e_sortS, ↓e_setd, strsOf_map, ↓e_maxI, ↓e_disp, ↓e_pairN, ↓e_pairC, intsOf_map, ↓e_for, ↓e_ilist, ↓e_itup, ↓e_rng1, ↓e_rng2, ↓e_lc, ↓e_lc2, e_lc2N, ↓e_ienum, ↓e_izip, ↓e_anyB, ↓e_allB, ↓e_mulS, blsOf_map, ↓e_set0, ↓e_sadd, ↓e_sortTx, ↓e_sortD, ↓e_repr, ↓e_extT, ↓e_sc2, ↓e_sortZ, ↓e_tupVals, ↓e_wget, ↓e_wix, ↓e_listZip, zipD_nil, zipD_cons, ↓e_dgetF, ↓e_idif, ↓e_isB, ↓e_sortI, ↓e_sortSetI, ↓e_tailR, ↓e_divmod, ↓e_strI, ↓e_lenD, ↓e_fmt, ↓e_fs2,   ↓e_add_int, ↓e_add_str, ↓e_add_tup, ↓e_add_obj, ↓e_iadd_int, ↓e_iadd_str, ↓e_iadd_obj, ↓e_I, ↓e_I0, ↓e_IS_int, ↓e_IS_str, ↓e_eq_str, ↓e_ne_str, ↓e_eq_int, ↓e_ne_int, ↓e_eq_bl, ↓e_ne_bl, ↓e_isN, ↓e_notN, ↓e_ix_tup, ↓e_ix_fl, ↓e_ix_str, ↓e_ix_obj, ↓e_in_tup, ↓e_nin_tup, ↓e_len_tup, ↓e_len_fl, ↓e_len_str, ↓e_len_obj, ↓e_int_int, ↓e_tuple_tup, ↓e_tuple_obj, ↓e_list_tup, ↓e_list_obj, ↓e_dget, ↓e_din, ↓e_dnin, ↓e_lstAt, ↓e_dicAt,   e_key_int, e_key_str, e_up, e_ty_str, e_ty_tup, e_ty_int, e_ty_bl, e_ty_non, atI0, atI1, atI2, atI3, atIL, ixN0, ixN1, cut_from1, e_ite_or, e_ite_and, zln, znl, zli, zil, zni, zin, sizeLine_eq, CMul, CDiv, cpow1018, true_or, or_true, kb_strstr, kb_tupstr, kb_tuptup, kb_strtup, kb_inttup, kb_bltup, kb_nontup, kb_strbl, kb_strint, kb_intbl, kb_intint, kb_blbl, kb_blint, kb_nonbl, kb_nonint, kb_nonstr, kb_intstr, kb_blstr, kb_tupbl, kb_tupint,   List.set_cons_zero, List.set_cons_succ, List.set_nil, List.getElem?_cons_zero, List.getElem?_cons_succ, List.getElem?_nil, List.length_cons, List.length_nil, List.length_map, List.length_append, e_lcN, e_lcC, e_forN, e_forC, List.getLast?_concat, List.dropLast_concat, List.nil_append, List.cons_append, List.append_nil, List.append_assoc, List.reverse_cons, List.reverse_nil, List.isEmpty_nil, List.isEmpty_cons, isEmpty_snoc, List.any_cons, List.any_nil, List.all_cons, List.all_nil, flatD, eqF, in_non, in_tup, in_str, in_int, in_bl, in_obj, in_fl, startA, List.map_cons, List.map_nil, List.replicate_succ, List.replicate_zero,   Nat.reduceAdd, Nat.reduceSub, Nat.reduceLeDiff, Nat.zero_add, Int.reduceLE, Int.reduceLT, Int.reduceToNat, Int.reducePow, Int.reduceNeg, Int.reduceAdd, Int.reduceSub,   Option.isSome_some, Option.isSome_none, Bool.not_true, Bool.not_false, Bool.not_eq_true', Bool.not_eq_eq_eq_not, Bool.not_eq_true, Bool.false_eq_true, Bool.true_eq_false, Bool.and_true, Bool.true_and, Bool.or_false, Bool.false_or, Bool.or_true, Bool.true_or, Bool.and_false, Bool.false_and, if_true, if_false, ite_true, ite_false, reduceIte, reduceCtorEq, decide_true, decide_false, decide_eq_true_eq, decide_eq_false_iff_not, true_and, and_true, false_and, and_false, eq_self, ne_eq, not_false_eq_true, not_true_eq_false, and_self, *])
        refine for_run (fun ds env M' => ∃ (rest : List Nat) (x9 : Option D), ds = rest.map (fun k : Nat => D.int (k : Int)) ∧ (∀ v ∈ rest, v ∈ row) ∧ env = [some (.fl (ns.map D.int)), some (.obj b), some (.int k), some (.str (if pos = true then z_positive else z_minimal)), some m.d, some f.d, some (.obj t), some (.int (w : Int)), x8, x9] ∧ M' = M10) (fun _ _ _ _ => trivial) ?_ ?_
          ⟨row, x9, rfl, (fun v h => h), rfl, rfl⟩
        · rintro env M11 ⟨rest, x9, hd, hin, rfl, rfl⟩
          exact nx2 _ _ _
        · rintro y r N3 env M11 ⟨rest, x9, hd, hin, rfl, rfl⟩ next3
          cases rest with
          | nil => cases hd
          | cons v rest =>
            rw [List.map_cons] at hd
            injection hd with hd1 hd2
            subst hd1 hd2
            have hv := hin v List.mem_cons_self
            have hat2 := ws_at (inn v hv) (frc pos m f)
            have pers := persist (f := f) (pos := pos) kr (w := w) (v := v) (by rw [row0]; exact hv)
            have nx3 := next3 [some (.fl (ns.map D.int)), some (.obj b), some (.int k), some (.str (if pos = true then z_positive else z_minimal)), some m.d, some f.d, some (.obj t), some (.int (w : Int)), x8, some (.int (v : Int))] M11 ⟨rest, _, rfl, (fun u hu => hin u (List.mem_cons_of_mem _ hu)), rfl, rfl⟩
            clear next3 nx2 q nx
            cases c1 : frc pos m f w with
            | false =>
              rw [c1] at hat
              try (simp only [↓e_seq, ↓e_next, ↓e_break, ↓e_cont, ↓e_expr, ↓e_ret, ↓e_retN, ↓e_if, ↓e_never, ↓e_asg, ↓e_name, ↓e_agtup, ↓e_agcons, ↓e_agnil, ↓e_agsub, ↓e_aug, ↓e_dput, ↓e_var, ↓e_c, ↓e_op, ↓e_some, ↓e_none, ↓e_test, ↓e_and, ↓e_or, ↓e_not, ↓e_yes, ↓e_truth,   ↓e_tru_bl, ↓e_tru_int, ↓e_tru_non, ↓e_tru_str, ↓e_tru_tup, ↓e_tru_obj, ↓e_chain, ↓e_orV, ↓e_andV, ↓e_notV, ↓e_ifE, ↓e_neg, ↓e_nil, ↓e_cons, ↓e_tup, ↓e_lst, ↓e_dnew, ↓e_call, ↓e_cb, ↓e_isi, ↓e_sl, ↓e_onone, ↓e_osome, ↓e_rev, ↓e_lm, ↓e_append, ↓e_extend, ↓e_pop, ↓e_join, ↓e_dget2, ↓e_sortSet, ↓e_sortS, ↓e_setd, strsOf_map, ↓e_maxI, ↓e_disp, ↓e_pairN, ↓e_pairC, intsOf_map, ↓e_for, ↓e_ilist, ↓e_itup, ↓e_rng1, ↓e_rng2, ↓e_lc, ↓e_lc2, e_lc2N, ↓e_ienum, ↓e_izip, ↓e_anyB, ↓e_allB, ↓e_mulS, blsOf_map, ↓e_set0, ↓e_sadd, ↓e_sortTx, ↓e_sortD, ↓e_repr, ↓e_extT, ↓e_sc2, ↓e_sortZ, ↓e_tupVals, ↓e_wget, ↓e_wix, ↓e_listZip, zipD_nil, zipD_cons, ↓e_dgetF, ↓e_idif, ↓e_isB, ↓e_sortI, ↓e_sortSetI, ↓e_tailR, ↓e_divmod, ↓e_strI, ↓e_lenD, ↓e_fmt, ↓e_fs2,   ↓e_add_int, ↓e_add_str, ↓e_add_tup, ↓e_add_obj, ↓e_iadd_int, ↓e_iadd_str, ↓e_iadd_obj, ↓e_I, ↓e_I0, ↓e_IS_int, ↓e_IS_str, ↓e_eq_str, ↓e_ne_str, ↓e_eq_int, ↓e_ne_int, ↓e_eq_bl, ↓e_ne_bl, ↓e_isN, ↓e_notN, ↓e_ix_tup, ↓e_ix_fl, ↓e_ix_str, ↓e_ix_obj, ↓e_in_tup, ↓e_nin_tup, ↓e_len_tup, ↓e_len_fl, ↓e_len_str, ↓e_len_obj, ↓e_int_int, ↓e_tuple_tup, ↓e_tuple_obj, ↓e_list_tup, ↓e_list_obj, ↓e_dget, ↓e_din, ↓e_dnin, ↓e_lstAt, ↓e_dicAt,   e_key_int, e_key_str, e_up, e_ty_str, e_ty_tup, e_ty_int, e_ty_bl, e_ty_non, atI0, atI1, atI2, atI3, atIL, ixN0, ixN1, cut_from1, e_ite_or, e_ite_and, zln, znl, zli, zil, zni, zin, sizeLine_eq, CMul, CDiv, cpow1018, true_or, or_true, kb_strstr, kb_tupstr, kb_tuptup, kb_strtup, kb_inttup, kb_bltup, kb_nontup, kb_strbl, kb_strint, kb_intbl, kb_intint, kb_blbl, kb_blint, kb_nonbl, kb_nonint, kb_nonstr, kb_intstr, kb_blstr, kb_tupbl, kb_tupint,   List.set_cons_zero, List.set_cons_succ, List.set_nil, List.getElem?_cons_zero, List.getElem?_cons_succ, List.getElem?_nil, List.length_cons, List.length_nil, List.length_map, List.length_append, e_lcN, e_lcC, e_forN, e_forC, List.getLast?_concat, List.dropLast_concat, List.nil_append, List.cons_append, List.append_nil, List.append_assoc, List.reverse_cons, List.reverse_nil, List.isEmpty_nil, List.isEmpty_cons, isEmpty_snoc, List.any_cons, List.any_nil, List.all_cons, List.all_nil, flatD, eqF, in_non, in_tup, in_str, in_int, in_bl, in_obj, in_fl, startA, List.map_cons, List.map_nil, List.replicate_succ, List.replicate_zero,   Nat.reduceAdd, Nat.reduceSub, Nat.reduceLeDiff, Nat.zero_add, Int.reduceLE, Int.reduceLT, Int.reduceToNat, Int.reducePow, Int.reduceNeg, Int.reduceAdd, Int.reduceSub,   Option.isSome_some, Option.isSome_none, Bool.not_true, Bool.not_false, Bool.not_eq_true', Bool.not_eq_eq_eq_not, Bool.not_eq_true, Bool.false_eq_true, Bool.true_eq_false, Bool.and_true, Bool.true_and, Bool.or_false, Bool.false_or, Bool.or_true, Bool.true_or, Bool.and_false, Bool.false_and, if_true, if_false, ite_true, ite_false, reduceIte, reduceCtorEq, decide_true, decide_false, decide_eq_true_eq, decide_eq_false_iff_not, true_and, and_true, false_and, and_false, eq_self, ne_eq, not_false_eq_true, not_true_eq_false, and_self, *])
            | true =>
              rw [c1] at hat
              rw [pers c1] at hat2
              try (simp only [↓e_seq, ↓e_next, ↓e_break, ↓e_cont, ↓e_expr, ↓e_ret, ↓e_retN, ↓e_if, ↓e_never, ↓e_asg, ↓e_name, ↓e_agtup, ↓e_agcons, ↓e_agnil, ↓e_agsub, ↓e_aug, ↓e_dput, ↓e_var, ↓e_c, ↓e_op, ↓e_some, ↓e_none, ↓e_test, ↓e_and, ↓e_or, ↓e_not, ↓e_yes, ↓e_truth,   ↓e_tru_bl, ↓e_tru_int, ↓e_tru_non, ↓e_tru_str, ↓e_tru_tup, ↓e_tru_obj, ↓e_chain, ↓e_orV, ↓e_andV, ↓e_notV, ↓e_ifE, ↓e_neg, ↓e_nil, ↓e_cons, ↓e_tup, ↓e_lst, ↓e_dnew, ↓e_call, ↓e_cb, ↓e_isi, ↓e_sl, ↓e_onone, ↓e_osome, ↓e_rev, ↓e_lm, ↓e_append, ↓e_extend, ↓e_pop, ↓e_join, ↓e_dget2, ↓e_sortSet, ↓e_sortS, ↓e_setd, strsOf_map, ↓e_maxI, ↓e_disp, ↓e_pairN, ↓e_pairC, intsOf_map, ↓e_for, ↓e_ilist, ↓e_itup, ↓e_rng1, ↓e_rng2, ↓e_lc, ↓e_lc2, e_lc2N, ↓e_ienum, ↓e_izip, ↓e_anyB, ↓e_allB, ↓e_mulS, blsOf_map, ↓e_set0, ↓e_sadd, ↓e_sortTx, ↓e_sortD, ↓e_repr, ↓e_extT, ↓e_sc2, ↓e_sortZ, ↓e_tupVals, ↓e_wget, ↓e_wix, ↓e_listZip, zipD_nil, zipD_cons, ↓e_dgetF, ↓e_idif, ↓e_isB, ↓e_sortI, ↓e_sortSetI, ↓e_tailR, ↓e_divmod, ↓e_strI, ↓e_lenD, ↓e_fmt, ↓e_fs2,   ↓e_add_int, ↓e_add_str, ↓e_add_tup, ↓e_add_obj, ↓e_iadd_int, ↓e_iadd_str, ↓e_iadd_obj, ↓e_I, ↓e_I0, ↓e_IS_int, ↓e_IS_str, ↓e_eq_str, ↓e_ne_str, ↓e_eq_int, ↓e_ne_int, ↓e_eq_bl, ↓e_ne_bl, ↓e_isN, ↓e_notN, ↓e_ix_tup, ↓e_ix_fl, ↓e_ix_str, ↓e_ix_obj, ↓e_in_tup, ↓e_nin_tup, ↓e_len_tup, ↓e_len_fl, ↓e_len_str, ↓e_len_obj, ↓e_int_int, ↓e_tuple_tup, ↓e_tuple_obj, ↓e_list_tup, ↓e_list_obj, ↓e_dget, ↓e_din, ↓e_dnin, ↓e_lstAt, ↓e_dicAt,   e_key_int, e_key_str, e_up, e_ty_str, e_ty_tup, e_ty_int, e_ty_bl, e_ty_non, atI0, atI1, atI2, atI3, atIL, ixN0, ixN1, cut_from1, e_ite_or, e_ite_and, zln, znl, zli, zil, zni, zin, sizeLine_eq, CMul, CDiv, cpow1018, true_or, or_true, kb_strstr, kb_tupstr, kb_tuptup, kb_strtup, kb_inttup, kb_bltup, kb_nontup, kb_strbl, kb_strint, kb_intbl, kb_intint, kb_blbl, kb_blint, kb_nonbl, kb_nonint, kb_nonstr, kb_intstr, kb_blstr, kb_tupbl, kb_tupint,   List.set_cons_zero, List.set_cons_succ, List.set_nil, List.getElem?_cons_zero, List.getElem?_cons_succ, List.getElem?_nil, List.length_cons, List.length_nil, List.length_map, List.length_append, e_lcN, e_lcC, e_forN, e_forC, List.getLast?_concat, List.dropLast_concat, List.nil_append, List.cons_append, List.append_nil, List.append_assoc, List.reverse_cons, List.reverse_nil, List.isEmpty_nil, List.isEmpty_cons, isEmpty_snoc, List.any_cons, List.any_nil, List.all_cons, List.all_nil, flatD, eqF, in_non, in_tup, in_str, in_int, in_bl, in_obj, in_fl, startA, List.map_cons, List.map_nil, List.replicate_succ, List.replicate_zero,   Nat.reduceAdd, Nat.reduceSub, Nat.reduceLeDiff, Nat.zero_add, Int.reduceLE, Int.reduceLT, Int.reduceToNat, Int.reducePow, Int.reduceNeg, Int.reduceAdd, Int.reduceSub,   Option.isSome_some, Option.isSome_none, Bool.not_true, Bool.not_false, Bool.not_eq_true', Bool.not_eq_eq_eq_not, Bool.not_eq_true, Bool.false_eq_true, Bool.true_eq_false, Bool.and_true, Bool.true_and, Bool.or_false, Bool.false_or, Bool.or_true, Bool.true_or, Bool.and_false, Bool.false_and, if_true, if_false, ite_true, ite_false, reduceIte, reduceCtorEq, decide_true, decide_false, decide_eq_true_eq, decide_eq_false_iff_not, true_and, and_true, false_and, and_false, eq_self, ne_eq, not_false_eq_true, not_true_eq_false, and_self, *])
    · rintro y r N2 env M9 ⟨w, j, x7, x8, hd, hw, rfl, ht9, hb9⟩ next2
      obtain ⟨j, rfl, rfl, rfl⟩ := rngD_cons hd.symm
      clear hd ht hb8 nx q
      have hwl : w < m.later.length := by omega
      have nx2 := fun x7 x8 M' (h1 : M' t = some (.lst (wsD (w + 1) (frc pos m f)))) (h2 : BoxAt M' b d) => next2 [some (.fl (ns.map D.int)), some (.obj b), some (.int k), some (.str (if pos = true then z_positive else z_minimal)), some m.d, some f.d, some (.obj t), x7, x8, x9] M' ⟨w + 1, j, x7, x8, by rw [show ((w + 1 : Nat) : Int) = (w : Int) + 1 by omega], by omega, rfl, h1, h2⟩
      clear next2
      try (simp only [↓e_seq, ↓e_next, ↓e_break, ↓e_cont, ↓e_expr, ↓e_ret, ↓e_retN, ↓e_if, ↓e_never, ↓e_asg, ↓e_name, ↓e_agtup, ↓e_agcons, ↓e_agnil, ↓e_agsub, ↓e_aug, ↓e_dput, ↓e_var, ↓e_c, ↓e_op, ↓e_some, ↓e_none, ↓e_test, ↓e_and, ↓e_or, ↓e_not, ↓e_yes, ↓e_truth,   ↓e_tru_bl, ↓e_tru_int, ↓e_tru_non, ↓e_tru_str, ↓e_tru_tup, ↓e_tru_obj, ↓e_chain, ↓e_orV, ↓e_andV, ↓e_notV, ↓e_ifE, ↓e_neg, ↓e_nil, ↓e_cons, ↓e_tup, ↓e_lst, ↓e_dnew, ↓e_call, ↓e_cb, ↓e_isi, ↓e_sl, ↓e_onone, ↓e_osome, ↓e_rev, ↓e_lm, ↓e_append, ↓e_extend, ↓e_pop, ↓e_join, ↓e_dget2, ↓e_sortSet, ↓e_sortS, ↓e_setd, strsOf_map, ↓e_maxI, ↓e_disp, ↓e_pairN, ↓e_pairC, intsOf_map, ↓e_for, ↓e_ilist, ↓e_itup, ↓e_rng1, ↓e_rng2, ↓e_lc, ↓e_lc2, e_lc2N, ↓e_ienum, ↓e_izip, ↓e_anyB, ↓e_allB, ↓e_mulS, blsOf_map, ↓e_set0, ↓e_sadd, ↓e_sortTx, ↓e_sortD, ↓e_repr, ↓e_extT, ↓e_sc2, ↓e_sortZ, ↓e_tupVals, ↓e_wget, ↓e_wix, ↓e_listZip, zipD_nil, zipD_cons, ↓e_dgetF, ↓e_idif, ↓e_isB, ↓e_sortI, ↓e_sortSetI, ↓e_tailR, ↓e_divmod, ↓e_strI, ↓e_lenD, ↓e_fmt, ↓e_fs2,   ↓e_add_int, ↓e_add_str, ↓e_add_tup, ↓e_add_obj, ↓e_iadd_int, ↓e_iadd_str, ↓e_iadd_obj, ↓e_I, ↓e_I0, ↓e_IS_int, ↓e_IS_str, ↓e_eq_str, ↓e_ne_str, ↓e_eq_int, ↓e_ne_int, ↓e_eq_bl, ↓e_ne_bl, ↓e_isN, ↓e_notN, ↓e_ix_tup, ↓e_ix_fl, ↓e_ix_str, ↓e_ix_obj, ↓e_in_tup, ↓e_nin_tup, ↓e_len_tup, ↓e_len_fl, ↓e_len_str, ↓e_len_obj, ↓e_int_int, ↓e_tuple_tup, ↓e_tuple_obj, ↓e_list_tup, ↓e_list_obj, ↓e_dget, ↓e_din, ↓e_dnin, ↓e_lstAt, ↓e_dicAt,   e_key_int, e_key_str, e_up, e_ty_str, e_ty_tup, e_ty_int, e_ty_bl, e_ty_non, atI0, atI1, atI2, atI3, atIL, ixN0, ixN1, cut_from1, e_ite_or, e_ite_and, zln, znl, zli, zil, zni, zin, sizeLine_eq, CMul, CDiv, cpow1018, true_or, or_true, kb_strstr, kb_tupstr, kb_tuptup, kb_strtup, kb_inttup, kb_bltup, kb_nontup, kb_strbl, kb_strint, kb_intbl, kb_intint, kb_blbl, kb_blint, kb_nonbl, kb_nonint, kb_nonstr, kb_intstr, kb_blstr, kb_tupbl, kb_tupint,   List.set_cons_zero, List.set_cons_succ, List.set_nil, List.getElem?_cons_zero, List.getElem?_cons_succ, List.getElem?_nil, List.length_cons, List.length_nil, List.length_map, List.length_append, e_lcN, e_lcC, e_forN, e_forC, List.getLast?_concat, List.dropLast_concat, List.nil_append, List.cons_append, List.append_nil, List.append_assoc, List.reverse_cons, List.reverse_nil, List.isEmpty_nil, List.isEmpty_cons, isEmpty_snoc, List.any_cons, List.any_nil, List.all_cons, List.all_nil, flatD, eqF, in_non, in_tup, in_str, in_int, in_bl, in_obj, in_fl, startA, List.map_cons, List.map_nil, List.replicate_succ, List.replicate_zero,   Nat.reduceAdd, Nat.reduceSub, Nat.reduceLeDiff, Nat.zero_add, Int.reduceLE, Int.reduceLT, Int.reduceToNat, Int.reducePow, Int.reduceNeg, Int.reduceAdd, Int.reduceSub,   Option.isSome_some, Option.isSome_none, Bool.not_true, Bool.not_false, Bool.not_eq_true', Bool.not_eq_eq_eq_not, Bool.not_eq_true, Bool.false_eq_true, Bool.true_eq_false, Bool.and_true, Bool.true_and, Bool.or_false, Bool.false_or, Bool.or_true, Bool.true_or, Bool.and_false, Bool.false_and, if_true, if_false, ite_true, ite_false, reduceIte, reduceCtorEq, decide_true, decide_false, decide_eq_true_eq, decide_eq_false_iff_not, true_and, and_true, false_and, and_false, eq_self, ne_eq, not_false_eq_true, not_true_eq_false, and_self, *])
      refine ⟨rfl, m, w, f, pos, rfl, by omega, hft, hwl, ok, ?_⟩
      try (simp only [↓e_seq, ↓e_next, ↓e_break, ↓e_cont, ↓e_expr, ↓e_ret, ↓e_retN, ↓e_if, ↓e_never, ↓e_asg, ↓e_name, ↓e_agtup, ↓e_agcons, ↓e_agnil, ↓e_agsub, ↓e_aug, ↓e_dput, ↓e_var, ↓e_c, ↓e_op, ↓e_some, ↓e_none, ↓e_test, ↓e_and, ↓e_or, ↓e_not, ↓e_yes, ↓e_truth,   ↓e_tru_bl, ↓e_tru_int, ↓e_tru_non, ↓e_tru_str, ↓e_tru_tup, ↓e_tru_obj, ↓e_chain, ↓e_orV, ↓e_andV, ↓e_notV, ↓e_ifE, ↓e_neg, ↓e_nil, ↓e_cons, ↓e_tup, ↓e_lst, ↓e_dnew, ↓e_call, ↓e_cb, ↓e_isi, ↓e_sl, ↓e_onone, ↓e_osome, ↓e_rev, ↓e_lm, ↓e_append, ↓e_extend, ↓e_pop, ↓e_join, ↓e_dget2, ↓e_sortSet, ↓e_sortS, ↓e_setd, strsOf_map, ↓e_maxI, ↓e_disp, ↓e_pairN, ↓e_pairC, intsOf_map, ↓e_for, ↓e_ilist, ↓e_itup, ↓e_rng1, ↓e_rng2, ↓e_lc, ↓e_lc2, e_lc2N, ↓e_ienum, ↓e_izip, ↓e_anyB, ↓e_allB, ↓e_mulS, blsOf_map, ↓e_set0, ↓e_sadd, ↓e_sortTx, ↓e_sortD, ↓e_repr, ↓e_extT, ↓e_sc2, ↓e_sortZ, ↓e_tupVals, ↓e_wget, ↓e_wix, ↓e_listZip, zipD_nil, zipD_cons, ↓e_dgetF, ↓e_idif, ↓e_isB, ↓e_sortI, ↓e_sortSetI, ↓e_tailR, ↓e_divmod, ↓e_strI, ↓e_lenD, ↓e_fmt, ↓e_fs2,   ↓e_add_int, ↓e_add_str, ↓e_add_tup, ↓e_add_obj, ↓e_iadd_int, ↓e_iadd_str, ↓e_iadd_obj, ↓e_I, ↓e_I0, ↓e_IS_int, ↓e_IS_str, ↓e_eq_str, ↓e_ne_str, ↓e_eq_int, ↓e_ne_int, ↓e_eq_bl, ↓e_ne_bl, ↓e_isN, ↓e_notN, ↓e_ix_tup, ↓e_ix_fl, ↓e_ix_str, ↓e_ix_obj, ↓e_in_tup, ↓e_nin_tup, ↓e_len_tup, ↓e_len_fl, ↓e_len_str, ↓e_len_obj, ↓e_int_int, ↓e_tuple_tup, ↓e_tuple_obj, ↓e_list_tup, ↓e_list_obj, ↓e_dget, ↓e_din, ↓e_dnin, ↓e_lstAt, ↓e_dicAt,   e_key_int, e_key_str, e_up, e_ty_str, e_ty_tup, e_ty_int, e_ty_bl, e_ty_non, atI0, atI1, atI2, atI3, atIL, ixN0, ixN1, cut_from1, e_ite_or, e_ite_and, zln, znl, zli, zil, zni, zin, sizeLine_eq, CMul, CDiv, cpow1018, true_or, or_true, kb_strstr, kb_tupstr, kb_tuptup, kb_strtup, kb_inttup, kb_bltup, kb_nontup, kb_strbl, kb_strint, kb_intbl, kb_intint, kb_blbl, kb_blint, kb_nonbl, kb_nonint, kb_nonstr, kb_intstr, kb_blstr, kb_tupbl, kb_tupint,   List.set_cons_zero, List.set_cons_succ, List.set_nil, List.getElem?_cons_zero, List.getElem?_cons_succ, List.getElem?_nil, List.length_cons, List.length_nil, List.length_map, List.length_append, e_lcN, e_lcC, e_forN, e_forC, List.getLast?_concat, List.dropLast_concat, List.nil_append, List.cons_append, List.append_nil, List.append_assoc, List.reverse_cons, List.reverse_nil, List.isEmpty_nil, List.isEmpty_cons, isEmpty_snoc, List.any_cons, List.any_nil, List.all_cons, List.all_nil, flatD, eqF, in_non, in_tup, in_str, in_int, in_bl, in_obj, in_fl, startA, List.map_cons, List.map_nil, List.replicate_succ, List.replicate_zero,   Nat.reduceAdd, Nat.reduceSub, Nat.reduceLeDiff, Nat.zero_add, Int.reduceLE, Int.reduceLT, Int.reduceToNat, Int.reducePow, Int.reduceNeg, Int.reduceAdd, Int.reduceSub,   Option.isSome_some, Option.isSome_none, Bool.not_true, Bool.not_false, Bool.not_eq_true', Bool.not_eq_eq_eq_not, Bool.not_eq_true, Bool.false_eq_true, Bool.true_eq_false, Bool.and_true, Bool.true_and, Bool.or_false, Bool.false_or, Bool.or_true, Bool.true_or, Bool.and_false, Bool.false_and, if_true, if_false, ite_true, ite_false, reduceIte, reduceCtorEq, decide_true, decide_false, decide_eq_true_eq, decide_eq_false_iff_not, true_and, and_true, false_and, and_false, eq_self, ne_eq, not_false_eq_true, not_true_eq_false, and_self, *])
      refine ⟨rfl, m, w, f, pos, rfl, by omega, hft, hwl, ok, by omega, (fun r hr => by have := mr r hr; omega), fun M10 e10 => ?_⟩
      have ht10 := e10 _ _ ht9
      have hb10 := hb9.ext e10
      clear e10 ht9 hb9
      try (simp only [↓e_seq, ↓e_next, ↓e_break, ↓e_cont, ↓e_expr, ↓e_ret, ↓e_retN, ↓e_if, ↓e_never, ↓e_asg, ↓e_name, ↓e_agtup, ↓e_agcons, ↓e_agnil, ↓e_agsub, ↓e_aug, ↓e_dput, ↓e_var, ↓e_c, ↓e_op, ↓e_some, ↓e_none, ↓e_test, ↓e_and, ↓e_or, ↓e_not, ↓e_yes, ↓e_truth,   ↓e_tru_bl, ↓e_tru_int, ↓e_tru_non, ↓e_tru_str, ↓e_tru_tup, ↓e_tru_obj, ↓e_chain, ↓e_orV, ↓e_andV, ↓e_notV, ↓e_ifE, ↓e_neg, ↓e_nil, ↓e_cons, ↓e_tup, ↓e_lst, ↓e_dnew, ↓e_call, ↓e_cb, ↓e_isi, ↓e_sl, ↓e_onone, ↓e_osome, ↓e_rev, ↓e_lm, ↓e_append, ↓e_extend, ↓e_pop, ↓e_join, ↓e_dget2, ↓e_sortSet, ↓e_sortS, ↓e_setd, strsOf_map, ↓e_maxI, ↓e_disp, ↓e_pairN, ↓e_pairC, intsOf_map, ↓e_for, ↓e_ilist, ↓e_itup, ↓e_rng1, ↓e_rng2, ↓e_lc, ↓e_lc2, e_lc2N, ↓e_ienum, ↓e_izip, ↓e_anyB, ↓e_allB, ↓e_mulS, blsOf_map, ↓e_set0, ↓e_sadd, ↓e_sortTx, ↓e_sortD, ↓e_repr, ↓e_extT, ↓e_sc2, ↓e_sortZ, ↓e_tupVals, ↓e_wget, ↓e_wix, ↓e_listZip, zipD_nil, zipD_cons, ↓e_dgetF, ↓e_idif, ↓e_isB, ↓e_sortI, ↓e_sortSetI, ↓e_tailR, ↓e_divmod, ↓e_strI, ↓e_lenD, ↓e_fmt, ↓e_fs2,   ↓e_add_int, ↓e_add_str, ↓e_add_tup, ↓e_add_obj, ↓e_iadd_int, ↓e_iadd_str, ↓e_iadd_obj, ↓e_I, ↓e_I0, ↓e_IS_int, ↓e_IS_str, ↓e_eq_str, ↓e_ne_str, ↓e_eq_int, ↓e_ne_int, ↓e_eq_bl, ↓e_ne_bl, ↓e_isN, ↓e_notN, ↓e_ix_tup, ↓e_ix_fl, ↓e_ix_str, ↓e_ix_obj, ↓e_in_tup, ↓e_nin_tup, ↓e_len_tup, ↓e_len_fl, ↓e_len_str, ↓e_len_obj, ↓e_int_int, ↓e_tuple_tup, ↓e_tuple_obj, ↓e_list_tup, ↓e_list_obj, ↓e_dget, ↓e_din, ↓e_dnin, ↓e_lstAt, ↓e_dicAt,   e_key_int, e_key_str, e_up, e_ty_str, e_ty_tup, e_ty_int, e_ty_bl, e_ty_non, atI0, atI1, atI2, atI3, atIL, ixN0, ixN1, cut_from1, e_ite_or, e_ite_and, zln, znl, zli, zil, zni, zin, sizeLine_eq, CMul, CDiv, cpow1018, true_or, or_true, kb_strstr, kb_tupstr, kb_tuptup, kb_strtup, kb_inttup, kb_bltup, kb_nontup, kb_strbl, kb_strint, kb_intbl, kb_intint, kb_blbl, kb_blint, kb_nonbl, kb_nonint, kb_nonstr, kb_intstr, kb_blstr, kb_tupbl, kb_tupint,   List.set_cons_zero, List.set_cons_succ, List.set_nil, List.getElem?_cons_zero, List.getElem?_cons_succ, List.getElem?_nil, List.length_cons, List.length_nil, List.length_map, List.length_append, e_lcN, e_lcC, e_forN, e_forC, List.getLast?_concat, List.dropLast_concat, List.nil_append, List.cons_append, List.append_nil, List.append_assoc, List.reverse_cons, List.reverse_nil, List.isEmpty_nil, List.isEmpty_cons, isEmpty_snoc, List.any_cons, List.any_nil, List.all_cons, List.all_nil, flatD, eqF, in_non, in_tup, in_str, in_int, in_bl, in_obj, in_fl, startA, List.map_cons, List.map_nil, List.replicate_succ, List.replicate_zero,   Nat.reduceAdd, Nat.reduceSub, Nat.reduceLeDiff, Nat.zero_add, Int.reduceLE, Int.reduceLT, Int.reduceToNat, Int.reducePow, Int.reduceNeg, Int.reduceAdd, Int.reduceSub,   Option.isSome_some, Option.isSome_none, Bool.not_true, Bool.not_false, Bool.not_eq_true', Bool.not_eq_eq_eq_not, Bool.not_eq_true, Bool.false_eq_true, Bool.true_eq_false, Bool.and_true, Bool.true_and, Bool.or_false, Bool.false_or, Bool.or_true, Bool.true_or, Bool.and_false, Bool.false_and, if_true, if_false, ite_true, ite_false, reduceIte, reduceCtorEq, decide_true, decide_false, decide_eq_true_eq, decide_eq_false_iff_not, true_and, and_true, false_and, and_false, eq_self, ne_eq, not_false_eq_true, not_true_eq_false, and_self, *])
      refine ⟨rfl, _, rfl, trivial, by show 0 < 200; decide, ?_⟩
      have hwsl := ws_len w (frc pos m f)
      try (simp only [↓e_seq, ↓e_next, ↓e_break, ↓e_cont, ↓e_expr, ↓e_ret, ↓e_retN, ↓e_if, ↓e_never, ↓e_asg, ↓e_name, ↓e_agtup, ↓e_agcons, ↓e_agnil, ↓e_agsub, ↓e_aug, ↓e_dput, ↓e_var, ↓e_c, ↓e_op, ↓e_some, ↓e_none, ↓e_test, ↓e_and, ↓e_or, ↓e_not, ↓e_yes, ↓e_truth,   ↓e_tru_bl, ↓e_tru_int, ↓e_tru_non, ↓e_tru_str, ↓e_tru_tup, ↓e_tru_obj, ↓e_chain, ↓e_orV, ↓e_andV, ↓e_notV, ↓e_ifE, ↓e_neg, ↓e_nil, ↓e_cons, ↓e_tup, ↓e_lst, ↓e_dnew, ↓e_call, ↓e_cb, ↓e_isi, ↓e_sl, ↓e_onone, ↓e_osome, ↓e_rev, ↓e_lm, ↓e_append, ↓e_extend, ↓e_pop, ↓e_join, ↓e_dget2, ↓e_sortSet, ↓e_sortS, ↓e_setd, strsOf_map, ↓e_maxI, ↓e_disp, ↓e_pairN, ↓e_pairC, intsOf_map, ↓e_for, ↓e_ilist, ↓e_itup, ↓e_rng1, ↓e_rng2, ↓e_lc, ↓e_lc2, e_lc2N, ↓e_ienum, ↓e_izip, ↓e_anyB, ↓e_allB, ↓e_mulS, blsOf_map, ↓e_set0, ↓e_sadd, ↓e_sortTx, ↓e_sortD, ↓e_repr, ↓e_extT, ↓e_sc2, ↓e_sortZ, ↓e_tupVals, ↓e_wget, ↓e_wix, ↓e_listZip, zipD_nil, zipD_cons, ↓e_dgetF, ↓e_idif, ↓e_isB, ↓e_sortI, ↓e_sortSetI, ↓e_tailR, ↓e_divmod, ↓e_strI, ↓e_lenD, ↓e_fmt, ↓e_fs2,   ↓e_add_int, ↓e_add_str, ↓e_add_tup, ↓e_add_obj, ↓e_iadd_int, ↓e_iadd_str, ↓e_iadd_obj, ↓e_I, ↓e_I0, ↓e_IS_int, ↓e_IS_str, ↓e_eq_str, ↓e_ne_str, ↓e_eq_int, ↓e_ne_int, ↓e_eq_bl, ↓e_ne_bl, ↓e_isN, ↓e_notN, ↓e_ix_tup, ↓e_ix_fl, ↓e_ix_str, ↓e_ix_obj, ↓e_in_tup, ↓e_nin_tup, ↓e_len_tup, ↓e_len_fl, ↓e_len_str, ↓e_len_obj, ↓e_int_int, ↓e_tuple_tup, ↓e_tuple_obj, ↓e_list_tup, ↓e_list_obj, ↓e_dget, ↓e_din, ↓e_dnin, ↓e_lstAt, ↓e_dicAt,   e_key_int, e_key_str, e_up, e_ty_str, e_ty_tup, e_ty_int, e_ty_bl, e_ty_non, atI0, atI1, atI2, atI3, atIL, ixN0, ixN1, cut_from1, e_ite_or, e_ite_and, zln, znl, zli, zil, zni, zin, sizeLine_eq, CMul, CDiv, cpow1018, true_or, or_true, kb_strstr, kb_tupstr, kb_tuptup, kb_strtup, kb_inttup, kb_bltup, kb_nontup, kb_strbl, kb_strint, kb_intbl, kb_intint, kb_blbl, kb_blint, kb_nonbl, kb_nonint, kb_nonstr, kb_intstr, kb_blstr, kb_tupbl, kb_tupint,   List.set_cons_zero, List.set_cons_succ, List.set_nil, List.getElem?_cons_zero, List.getElem?_cons_succ, List.getElem?_nil, List.length_cons, List.length_nil, List.length_map, List.length_append, e_lcN, e_lcC, e_forN, e_forC, List.getLast?_concat, List.dropLast_concat, List.nil_append, List.cons_append, List.append_nil, List.append_assoc, List.reverse_cons, List.reverse_nil, List.isEmpty_nil, List.isEmpty_cons, isEmpty_snoc, List.any_cons, List.any_nil, List.all_cons, List.all_nil, flatD, eqF, in_non, in_tup, in_str, in_int, in_bl, in_obj, in_fl, startA, List.map_cons, List.map_nil, List.replicate_succ, List.replicate_zero,   Nat.reduceAdd, Nat.reduceSub, Nat.reduceLeDiff, Nat.zero_add, Int.reduceLE, Int.reduceLT, Int.reduceToNat, Int.reducePow, Int.reduceNeg, Int.reduceAdd, Int.reduceSub,   Option.isSome_some, Option.isSome_none, Bool.not_true, Bool.not_false, Bool.not_eq_true', Bool.not_eq_eq_eq_not, Bool.not_eq_true, Bool.false_eq_true, Bool.true_eq_false, Bool.and_true, Bool.true_and, Bool.or_false, Bool.false_or, Bool.or_true, Bool.true_or, Bool.and_false, Bool.false_and, if_true, if_false, ite_true, ite_false, reduceIte, reduceCtorEq, decide_true, decide_false, decide_eq_true_eq, decide_eq_false_iff_not, true_and, and_true, false_and, and_false, eq_self, ne_eq, not_false_eq_true, not_true_eq_false, and_self, *])
      refine ⟨by omega, ?_⟩
      have ht11 : up M10 t (.lst (wsD w (frc pos m f) ++ [.bl (frc pos m f w)])) t = some (.lst (wsD (w + 1) (frc pos m f))) := by rw [up_same, ws_succ]
      have hb11 := hb10.upd (mo := .lst (wsD w (frc pos m f) ++ [.bl (frc pos m f w)])) nbt.1 nbt.2
      generalize up M10 t (.lst (wsD w (frc pos m f) ++ [.bl (frc pos m f w)])) = M11 at *
      clear ht10 hb10 hwsl
      cases pos with
      | true =>
        have g := nx2 (some (.int (w : Int))) (some (.bl (frc true m f w))) M11 ht11 hb11
        rw [if_pos rfl] at g
        clear nx2
        try (simp only [↓e_seq, ↓e_next, ↓e_break, ↓e_cont, ↓e_expr, ↓e_ret, ↓e_retN, ↓e_if, ↓e_never, ↓e_asg, ↓e_name, ↓e_agtup, ↓e_agcons, ↓e_agnil, ↓e_agsub, ↓e_aug, ↓e_dput, ↓e_var, ↓e_c, ↓e_op, ↓e_some, ↓e_none, ↓e_test, ↓e_and, ↓e_or, ↓e_not, ↓e_yes, ↓e_truth,   ↓e_tru_bl, ↓e_tru_int, ↓e_tru_non, ↓e_tru_str, ↓e_tru_tup, ↓e_tru_obj, ↓e_chain, ↓e_orV, ↓e_andV, ↓e_notV, ↓e_ifE, ↓e_neg, ↓e_nil, ↓e_cons, ↓e_tup, ↓e_lst, ↓e_dnew, ↓e_call, ↓e_cb, ↓e_isi, ↓e_sl, ↓e_onone, ↓e_osome, ↓e_rev, ↓e_lm, ↓e_append, ↓e_extend, ↓e_pop, ↓e_join, ↓e_dget2, ↓e_sortSet, ↓e_sortS, ↓e_setd, strsOf_map, ↓e_maxI, ↓e_disp, ↓e_pairN, ↓e_pairC, intsOf_map, ↓e_for, ↓e_ilist, ↓e_itup, ↓e_rng1, ↓e_rng2, ↓e_lc, ↓e_lc2, e_lc2N, ↓e_ienum, ↓e_izip, ↓e_anyB, ↓e_allB, ↓e_mulS, blsOf_map, ↓e_set0, ↓e_sadd, ↓e_sortTx, ↓e_sortD, ↓e_repr, ↓e_extT, ↓e_sc2, ↓e_sortZ, ↓e_tupVals, ↓e_wget, ↓e_wix, ↓e_listZip, zipD_nil, zipD_cons, ↓e_dgetF, ↓e_idif, ↓e_isB, ↓e_sortI, ↓e_sortSetI, ↓e_tailR, ↓e_divmod, ↓e_strI, ↓e_lenD, ↓e_fmt, ↓e_fs2,   ↓e_add_int, ↓e_add_str, ↓e_add_tup, ↓e_add_obj, ↓e_iadd_int, ↓e_iadd_str, ↓e_iadd_obj, ↓e_I, ↓e_I0, ↓e_IS_int, ↓e_IS_str, ↓e_eq_str, ↓e_ne_str, ↓e_eq_int, ↓e_ne_int, ↓e_eq_bl, ↓e_ne_bl, ↓e_isN, ↓e_notN, ↓e_ix_tup, ↓e_ix_fl, ↓e_ix_str, ↓e_ix_obj, ↓e_in_tup, ↓e_nin_tup, ↓e_len_tup, ↓e_len_fl, ↓e_len_str, ↓e_len_obj, ↓e_int_int, ↓e_tuple_tup, ↓e_tuple_obj, ↓e_list_tup, ↓e_list_obj, ↓e_dget, ↓e_din, ↓e_dnin, ↓e_lstAt, ↓e_dicAt,   e_key_int, e_key_str, e_up, e_ty_str, e_ty_tup, e_ty_int, e_ty_bl, e_ty_non, atI0, atI1, atI2, atI3, atIL, ixN0, ixN1, cut_from1, e_ite_or, e_ite_and, zln, znl, zli, zil, zni, zin, sizeLine_eq, CMul, CDiv, cpow1018, true_or, or_true, kb_strstr, kb_tupstr, kb_tuptup, kb_strtup, kb_inttup, kb_bltup, kb_nontup, kb_strbl, kb_strint, kb_intbl, kb_intint, kb_blbl, kb_blint, kb_nonbl, kb_nonint, kb_nonstr, kb_intstr, kb_blstr, kb_tupbl, kb_tupint,   List.set_cons_zero, List.set_cons_succ, List.set_nil, List.getElem?_cons_zero, List.getElem?_cons_succ, List.getElem?_nil, List.length_cons, List.length_nil, List.length_map, List.length_append, e_lcN, e_lcC, e_forN, e_forC, List.getLast?_concat, List.dropLast_concat, List.nil_append, List.cons_append, List.append_nil, List.append_assoc, List.reverse_cons, List.reverse_nil, List.isEmpty_nil, List.isEmpty_cons, isEmpty_snoc, List.any_cons, List.any_nil, List.all_cons, List.all_nil, flatD, eqF, in_non, in_tup, in_str, in_int, in_bl, in_obj, in_fl, startA, List.map_cons, List.map_nil, List.replicate_succ, List.replicate_zero,   Nat.reduceAdd, Nat.reduceSub, Nat.reduceLeDiff, Nat.zero_add, Int.reduceLE, Int.reduceLT, Int.reduceToNat, Int.reducePow, Int.reduceNeg, Int.reduceAdd, Int.reduceSub,   Option.isSome_some, Option.isSome_none, Bool.not_true, Bool.not_false, Bool.not_eq_true', Bool.not_eq_eq_eq_not, Bool.not_eq_true, Bool.false_eq_true, Bool.true_eq_false, Bool.and_true, Bool.true_and, Bool.or_false, Bool.false_or, Bool.or_true, Bool.true_or, Bool.and_false, Bool.false_and, if_true, if_false, ite_true, ite_false, reduceIte, reduceCtorEq, decide_true, decide_false, decide_eq_true_eq, decide_eq_false_iff_not, true_and, and_true, false_and, and_false, eq_self, ne_eq, not_false_eq_true, not_true_eq_false, and_self, *])
      | false =>
        try (simp only [↓e_seq, ↓e_next, ↓e_break, ↓e_cont, ↓e_expr, ↓e_ret, ↓e_retN, ↓e_if, ↓e_never, ↓e_asg, ↓e_name, ↓e_agtup, ↓e_agcons, ↓e_agnil, ↓e_agsub, ↓e_aug, ↓e_dput, ↓e_var, ↓e_c, ↓e_op, ↓e_some, ↓e_none, ↓e_test, ↓e_and, ↓e_or, ↓e_not, ↓e_yes, ↓e_truth,   ↓e_tru_bl, ↓e_tru_int, ↓e_tru_non, ↓e_tru_str, ↓e_tru_tup, ↓e_tru_obj, ↓e_chain, ↓e_orV, ↓e_andV, ↓e_notV, ↓e_ifE, ↓e_neg, ↓e_nil, ↓e_cons, ↓e_tup, ↓e_lst, ↓e_dnew, ↓e_call, ↓e_cb, ↓e_isi, ↓e_sl, ↓e_onone, ↓e_osome, ↓e_rev, ↓e_lm, ↓e_append, ↓e_extend, ↓e_pop, ↓e_join, ↓e_dget2, ↓e_sortSet, ↓e_sortS, ↓e_setd, strsOf_map, ↓e_maxI, ↓e_disp, ↓e_pairN, ↓e_pairC, intsOf_map, ↓e_for, ↓e_ilist, ↓e_itup, ↓e_rng1, ↓e_rng2, ↓e_lc, ↓e_lc2, e_lc2N, ↓e_ienum, ↓e_izip, ↓e_anyB, ↓e_allB, ↓e_mulS, blsOf_map, ↓e_set0, ↓e_sadd, ↓e_sortTx, ↓e_sortD, ↓e_repr, ↓e_extT, ↓e_sc2, ↓e_sortZ, ↓e_tupVals, ↓e_wget, ↓e_wix, ↓e_listZip, zipD_nil, zipD_cons, ↓e_dgetF, ↓e_idif, ↓e_isB, ↓e_sortI, ↓e_sortSetI, ↓e_tailR, ↓e_divmod, ↓e_strI, ↓e_lenD, ↓e_fmt, ↓e_fs2,   ↓e_add_int, ↓e_add_str, ↓e_add_tup, ↓e_add_obj, ↓e_iadd_int, ↓e_iadd_str, ↓e_iadd_obj, ↓e_I, ↓e_I0, ↓e_IS_int, ↓e_IS_str, ↓e_eq_str, ↓e_ne_str, ↓e_eq_int, ↓e_ne_int, ↓e_eq_bl, ↓e_ne_bl, ↓e_isN, ↓e_notN, ↓e_ix_tup, ↓e_ix_fl, ↓e_ix_str, ↓e_ix_obj, ↓e_in_tup, ↓e_nin_tup, ↓e_len_tup, ↓e_len_fl, ↓e_len_str, ↓e_len_obj, ↓e_int_int, ↓e_tuple_tup, ↓e_tuple_obj, ↓e_list_tup, ↓e_list_obj, ↓e_dget, ↓e_din, ↓e_dnin, ↓e_lstAt, ↓e_dicAt,   e_key_int, e_key_str, e_up, e_ty_str, e_ty_tup, e_ty_int, e_ty_bl, e_ty_non, atI0, atI1, atI2, atI3, atIL, ixN0, ixN1, cut_from1, e_ite_or, e_ite_and, zln, znl, zli, zil, zni, zin, sizeLine_eq, CMul, CDiv, cpow1018, true_or, or_true, kb_strstr, kb_tupstr, kb_tuptup, kb_strtup, kb_inttup, kb_bltup, kb_nontup, kb_strbl, kb_strint, kb_intbl, kb_intint, kb_blbl, kb_blint, kb_nonbl, kb_nonint, kb_nonstr, kb_intstr, kb_blstr, kb_tupbl, kb_tupint,   List.set_cons_zero, List.set_cons_succ, List.set_nil, List.getElem?_cons_zero, List.getElem?_cons_succ, List.getElem?_nil, List.length_cons, List.length_nil, List.length_map, List.length_append, e_lcN, e_lcC, e_forN, e_forC, List.getLast?_concat, List.dropLast_concat, List.nil_append, List.cons_append, List.append_nil, List.append_assoc, List.reverse_cons, List.reverse_nil, List.isEmpty_nil, List.isEmpty_cons, isEmpty_snoc, List.any_cons, List.any_nil, List.all_cons, List.all_nil, flatD, eqF, in_non, in_tup, in_str, in_int, in_bl, in_obj, in_fl, startA, List.map_cons, List.map_nil, List.replicate_succ, List.replicate_zero,   Nat.reduceAdd, Nat.reduceSub, Nat.reduceLeDiff, Nat.zero_add, Int.reduceLE, Int.reduceLT, Int.reduceToNat, Int.reducePow, Int.reduceNeg, Int.reduceAdd, Int.reduceSub,   Option.isSome_some, Option.isSome_none, Bool.not_true, Bool.not_false, Bool.not_eq_true', Bool.not_eq_eq_eq_not, Bool.not_eq_true, Bool.false_eq_true, Bool.true_eq_false, Bool.and_true, Bool.true_and, Bool.or_false, Bool.false_or, Bool.or_true, Bool.true_or, Bool.and_false, Bool.false_and, if_true, if_false, ite_true, ite_false, reduceIte, reduceCtorEq, decide_true, decide_false, decide_eq_true_eq, decide_eq_false_iff_not, true_and, and_true, false_and, and_false, eq_self, ne_eq, not_false_eq_true, not_true_eq_false, and_self, *])
        by_cases c : w ∈ m.brk
        · have dc : decide (w ∈ m.brk) = true := decide_eq_true c
          have bn := broken_ng (f := f) kr c
          have hng : (D.tup [.str z_not, f.d]) = (Fm.ng f).d := rfl
          try (simp only [↓e_seq, ↓e_next, ↓e_break, ↓e_cont, ↓e_expr, ↓e_ret, ↓e_retN, ↓e_if, ↓e_never, ↓e_asg, ↓e_name, ↓e_agtup, ↓e_agcons, ↓e_agnil, ↓e_agsub, ↓e_aug, ↓e_dput, ↓e_var, ↓e_c, ↓e_op, ↓e_some, ↓e_none, ↓e_test, ↓e_and, ↓e_or, ↓e_not, ↓e_yes, ↓e_truth,   ↓e_tru_bl, ↓e_tru_int, ↓e_tru_non, ↓e_tru_str, ↓e_tru_tup, ↓e_tru_obj, ↓e_chain, ↓e_orV, ↓e_andV, ↓e_notV, ↓e_ifE, ↓e_neg, ↓e_nil, ↓e_cons, ↓e_tup, ↓e_lst, ↓e_dnew, ↓e_call, ↓e_cb, ↓e_isi, ↓e_sl, ↓e_onone, ↓e_osome, ↓e_rev, ↓e_lm, ↓e_append, ↓e_extend, ↓e_pop, ↓e_join, ↓e_dget2, ↓e_sortSet, ↓e_sortS, ↓e_setd, strsOf_map, ↓e_maxI, ↓e_disp, ↓e_pairN, ↓e_pairC, intsOf_map, ↓e_for, ↓e_ilist, ↓e_itup, ↓e_rng1, ↓e_rng2, ↓e_lc, ↓e_lc2, e_lc2N, ↓e_ienum, ↓e_izip, ↓e_anyB, ↓e_allB, ↓e_mulS, blsOf_map, ↓e_set0, ↓e_sadd, ↓e_sortTx, ↓e_sortD, ↓e_repr, ↓e_extT, ↓e_sc2, ↓e_sortZ, ↓e_tupVals, ↓e_wget, ↓e_wix, ↓e_listZip, zipD_nil, zipD_cons, ↓e_dgetF, ↓e_idif, ↓e_isB, ↓e_sortI, ↓e_sortSetI, ↓e_tailR, ↓e_divmod, ↓e_strI, ↓e_lenD, ↓e_fmt, ↓e_fs2,   ↓e_add_int, ↓e_add_str, ↓e_add_tup, ↓e_add_obj, ↓e_iadd_int, ↓e_iadd_str, ↓e_iadd_obj, ↓e_I, ↓e_I0, ↓e_IS_int, ↓e_IS_str, ↓e_eq_str, ↓e_ne_str, ↓e_eq_int, ↓e_ne_int, ↓e_eq_bl, ↓e_ne_bl, ↓e_isN, ↓e_notN, ↓e_ix_tup, ↓e_ix_fl, ↓e_ix_str, ↓e_ix_obj, ↓e_in_tup, ↓e_nin_tup, ↓e_len_tup, ↓e_len_fl, ↓e_len_str, ↓e_len_obj, ↓e_int_int, ↓e_tuple_tup, ↓e_tuple_obj, ↓e_list_tup, ↓e_list_obj, ↓e_dget, ↓e_din, ↓e_dnin, ↓e_lstAt, ↓e_dicAt,   e_key_int, e_key_str, e_up, e_ty_str, e_ty_tup, e_ty_int, e_ty_bl, e_ty_non, atI0, atI1, atI2, atI3, atIL, ixN0, ixN1, cut_from1, e_ite_or, e_ite_and, zln, znl, zli, zil, zni, zin, sizeLine_eq, CMul, CDiv, cpow1018, true_or, or_true, kb_strstr, kb_tupstr, kb_tuptup, kb_strtup, kb_inttup, kb_bltup, kb_nontup, kb_strbl, kb_strint, kb_intbl, kb_intint, kb_blbl, kb_blint, kb_nonbl, kb_nonint, kb_nonstr, kb_intstr, kb_blstr, kb_tupbl, kb_tupint,   List.set_cons_zero, List.set_cons_succ, List.set_nil, List.getElem?_cons_zero, List.getElem?_cons_succ, List.getElem?_nil, List.length_cons, List.length_nil, List.length_map, List.length_append, e_lcN, e_lcC, e_forN, e_forC, List.getLast?_concat, List.dropLast_concat, List.nil_append, List.cons_append, List.append_nil, List.append_assoc, List.reverse_cons, List.reverse_nil, List.isEmpty_nil, List.isEmpty_cons, isEmpty_snoc, List.any_cons, List.any_nil, List.all_cons, List.all_nil, flatD, eqF, in_non, in_tup, in_str, in_int, in_bl, in_obj, in_fl, startA, List.map_cons, List.map_nil, List.replicate_succ, List.replicate_zero,   Nat.reduceAdd, Nat.reduceSub, Nat.reduceLeDiff, Nat.zero_add, Int.reduceLE, Int.reduceLT, Int.reduceToNat, Int.reducePow, Int.reduceNeg, Int.reduceAdd, Int.reduceSub,   Option.isSome_some, Option.isSome_none, Bool.not_true, Bool.not_false, Bool.not_eq_true', Bool.not_eq_eq_eq_not, Bool.not_eq_true, Bool.false_eq_true, Bool.true_eq_false, Bool.and_true, Bool.true_and, Bool.or_false, Bool.false_or, Bool.or_true, Bool.true_or, Bool.and_false, Bool.false_and, if_true, if_false, ite_true, ite_false, reduceIte, reduceCtorEq, decide_true, decide_false, decide_eq_true_eq, decide_eq_false_iff_not, true_and, and_true, false_and, and_false, eq_self, ne_eq, not_false_eq_true, not_true_eq_false, and_self, *])
          refine ⟨rfl, m, w, .ng f, false, rfl, by omega, hnt, hwl, ok, by omega, (fun r hr => by have := mr r hr; omega), fun M12 e12 => ?_⟩
          have g := nx2 (some (.int (w : Int))) (some (.bl (frc false m f w))) M12 (e12 _ _ ht11) (hb11.ext e12)
          rw [if_neg Bool.false_ne_true] at g
          clear nx2
          try (simp only [↓e_seq, ↓e_next, ↓e_break, ↓e_cont, ↓e_expr, ↓e_ret, ↓e_retN, ↓e_if, ↓e_never, ↓e_asg, ↓e_name, ↓e_agtup, ↓e_agcons, ↓e_agnil, ↓e_agsub, ↓e_aug, ↓e_dput, ↓e_var, ↓e_c, ↓e_op, ↓e_some, ↓e_none, ↓e_test, ↓e_and, ↓e_or, ↓e_not, ↓e_yes, ↓e_truth,   ↓e_tru_bl, ↓e_tru_int, ↓e_tru_non, ↓e_tru_str, ↓e_tru_tup, ↓e_tru_obj, ↓e_chain, ↓e_orV, ↓e_andV, ↓e_notV, ↓e_ifE, ↓e_neg, ↓e_nil, ↓e_cons, ↓e_tup, ↓e_lst, ↓e_dnew, ↓e_call, ↓e_cb, ↓e_isi, ↓e_sl, ↓e_onone, ↓e_osome, ↓e_rev, ↓e_lm, ↓e_append, ↓e_extend, ↓e_pop, ↓e_join, ↓e_dget2, ↓e_sortSet, ↓e_sortS, ↓e_setd, strsOf_map, ↓e_maxI, ↓e_disp, ↓e_pairN, ↓e_pairC, intsOf_map, ↓e_for, ↓e_ilist, ↓e_itup, ↓e_rng1, ↓e_rng2, ↓e_lc, ↓e_lc2, e_lc2N, ↓e_ienum, ↓e_izip, ↓e_anyB, ↓e_allB, ↓e_mulS, blsOf_map, ↓e_set0, ↓e_sadd, ↓e_sortTx, ↓e_sortD, ↓e_repr, ↓e_extT, ↓e_sc2, ↓e_sortZ, ↓e_tupVals, ↓e_wget, ↓e_wix, ↓e_listZip, zipD_nil, zipD_cons, ↓e_dgetF, ↓e_idif, ↓e_isB, ↓e_sortI, ↓e_sortSetI, ↓e_tailR, ↓e_divmod, ↓e_strI, ↓e_lenD, ↓e_fmt, ↓e_fs2,   ↓e_add_int, ↓e_add_str, ↓e_add_tup, ↓e_add_obj, ↓e_iadd_int, ↓e_iadd_str, ↓e_iadd_obj, ↓e_I, ↓e_I0, ↓e_IS_int, ↓e_IS_str, ↓e_eq_str, ↓e_ne_str, ↓e_eq_int, ↓e_ne_int, ↓e_eq_bl, ↓e_ne_bl, ↓e_isN, ↓e_notN, ↓e_ix_tup, ↓e_ix_fl, ↓e_ix_str, ↓e_ix_obj, ↓e_in_tup, ↓e_nin_tup, ↓e_len_tup, ↓e_len_fl, ↓e_len_str, ↓e_len_obj, ↓e_int_int, ↓e_tuple_tup, ↓e_tuple_obj, ↓e_list_tup, ↓e_list_obj, ↓e_dget, ↓e_din, ↓e_dnin, ↓e_lstAt, ↓e_dicAt,   e_key_int, e_key_str, e_up, e_ty_str, e_ty_tup, e_ty_int, e_ty_bl, e_ty_non, atI0, atI1, atI2, atI3, atIL, ixN0, ixN1, cut_from1, e_ite_or, e_ite_and, zln, znl, zli, zil, zni, zin, sizeLine_eq, CMul, CDiv, cpow1018, true_or, or_true, kb_strstr, kb_tupstr, kb_tuptup, kb_strtup, kb_inttup, kb_bltup, kb_nontup, kb_strbl, kb_strint, kb_intbl, kb_intint, kb_blbl, kb_blint, kb_nonbl, kb_nonint, kb_nonstr, kb_intstr, kb_blstr, kb_tupbl, kb_tupint,   List.set_cons_zero, List.set_cons_succ, List.set_nil, List.getElem?_cons_zero, List.getElem?_cons_succ, List.getElem?_nil, List.length_cons, List.length_nil, List.length_map, List.length_append, e_lcN, e_lcC, e_forN, e_forC, List.getLast?_concat, List.dropLast_concat, List.nil_append, List.cons_append, List.append_nil, List.append_assoc, List.reverse_cons, List.reverse_nil, List.isEmpty_nil, List.isEmpty_cons, isEmpty_snoc, List.any_cons, List.any_nil, List.all_cons, List.all_nil, flatD, eqF, in_non, in_tup, in_str, in_int, in_bl, in_obj, in_fl, startA, List.map_cons, List.map_nil, List.replicate_succ, List.replicate_zero,   Nat.reduceAdd, Nat.reduceSub, Nat.reduceLeDiff, Nat.zero_add, Int.reduceLE, Int.reduceLT, Int.reduceToNat, Int.reducePow, Int.reduceNeg, Int.reduceAdd, Int.reduceSub,   Option.isSome_some, Option.isSome_none, Bool.not_true, Bool.not_false, Bool.not_eq_true', Bool.not_eq_eq_eq_not, Bool.not_eq_true, Bool.false_eq_true, Bool.true_eq_false, Bool.and_true, Bool.true_and, Bool.or_false, Bool.false_or, Bool.or_true, Bool.true_or, Bool.and_false, Bool.false_and, if_true, if_false, ite_true, ite_false, reduceIte, reduceCtorEq, decide_true, decide_false, decide_eq_true_eq, decide_eq_false_iff_not, true_and, and_true, false_and, and_false, eq_self, ne_eq, not_false_eq_true, not_true_eq_false, and_self, *])
        · have dc : decide (w ∈ m.brk) = false := decide_eq_false c
          have g := nx2 (some (.int (w : Int))) (some (.bl (frc false m f w))) M11 ht11 hb11
          rw [if_neg Bool.false_ne_true] at g
          clear nx2
          try (simp only [↓e_seq, ↓e_next, ↓e_break, ↓e_cont, ↓e_expr, ↓e_ret, ↓e_retN, ↓e_if, ↓e_never, ↓e_asg, ↓e_name, ↓e_agtup, ↓e_agcons, ↓e_agnil, ↓e_agsub, ↓e_aug, ↓e_dput, ↓e_var, ↓e_c, ↓e_op, ↓e_some, ↓e_none, ↓e_test, ↓e_and, ↓e_or, ↓e_not, ↓e_yes, ↓e_truth,   ↓e_tru_bl, ↓e_tru_int, ↓e_tru_non, ↓e_tru_str, ↓e_tru_tup, ↓e_tru_obj, ↓e_chain, ↓e_orV, ↓e_andV, ↓e_notV, ↓e_ifE, ↓e_neg, ↓e_nil, ↓e_cons, ↓e_tup, ↓e_lst, ↓e_dnew, ↓e_call, ↓e_cb, ↓e_isi, ↓e_sl, ↓e_onone, ↓e_osome, ↓e_rev, ↓e_lm, ↓e_append, ↓e_extend, ↓e_pop, ↓e_join, ↓e_dget2, ↓e_sortSet, ↓e_sortS, ↓e_setd, strsOf_map, ↓e_maxI, ↓e_disp, ↓e_pairN, ↓e_pairC, intsOf_map, ↓e_for, ↓e_ilist, ↓e_itup, ↓e_rng1, ↓e_rng2, ↓e_lc, ↓e_lc2, e_lc2N, ↓e_ienum, ↓e_izip, ↓e_anyB, ↓e_allB, ↓e_mulS, blsOf_map, ↓e_set0, ↓e_sadd, ↓e_sortTx, ↓e_sortD, ↓e_repr, ↓e_extT, ↓e_sc2, ↓e_sortZ, ↓e_tupVals, ↓e_wget, ↓e_wix, ↓e_listZip, zipD_nil, zipD_cons, ↓e_dgetF, ↓e_idif, ↓e_isB, ↓e_sortI, ↓e_sortSetI, ↓e_tailR, ↓e_divmod, ↓e_strI, ↓e_lenD, ↓e_fmt, ↓e_fs2,   ↓e_add_int, ↓e_add_str, ↓e_add_tup, ↓e_add_obj, ↓e_iadd_int, ↓e_iadd_str, ↓e_iadd_obj, ↓e_I, ↓e_I0, ↓e_IS_int, ↓e_IS_str, ↓e_eq_str, ↓e_ne_str, ↓e_eq_int, ↓e_ne_int, ↓e_eq_bl, ↓e_ne_bl, ↓e_isN, ↓e_notN, ↓e_ix_tup, ↓e_ix_fl, ↓e_ix_str, ↓e_ix_obj, ↓e_in_tup, ↓e_nin_tup, ↓e_len_tup, ↓e_len_fl, ↓e_len_str, ↓e_len_obj, ↓e_int_int, ↓e_tuple_tup, ↓e_tuple_obj, ↓e_list_tup, ↓e_list_obj, ↓e_dget, ↓e_din, ↓e_dnin, ↓e_lstAt, ↓e_dicAt,   e_key_int, e_key_str, e_up, e_ty_str, e_ty_tup, e_ty_int, e_ty_bl, e_ty_non, atI0, atI1, atI2, atI3, atIL, ixN0, ixN1, cut_from1, e_ite_or, e_ite_and, zln, znl, zli, zil, zni, zin, sizeLine_eq, CMul, CDiv, cpow1018, true_or, or_true, kb_strstr, kb_tupstr, kb_tuptup, kb_strtup, kb_inttup, kb_bltup, kb_nontup, kb_strbl, kb_strint, kb_intbl, kb_intint, kb_blbl, kb_blint, kb_nonbl, kb_nonint, kb_nonstr, kb_intstr, kb_blstr, kb_tupbl, kb_tupint,   List.set_cons_zero, List.set_cons_succ, List.set_nil, List.getElem?_cons_zero, List.getElem?_cons_succ, List.getElem?_nil, List.length_cons, List.length_nil, List.length_map, List.length_append, e_lcN, e_lcC, e_forN, e_forC, List.getLast?_concat, List.dropLast_concat, List.nil_append, List.cons_append, List.append_nil, List.append_assoc, List.reverse_cons, List.reverse_nil, List.isEmpty_nil, List.isEmpty_cons, isEmpty_snoc, List.any_cons, List.any_nil, List.all_cons, List.all_nil, flatD, eqF, in_non, in_tup, in_str, in_int, in_bl, in_obj, in_fl, startA, List.map_cons, List.map_nil, List.replicate_succ, List.replicate_zero,   Nat.reduceAdd, Nat.reduceSub, Nat.reduceLeDiff, Nat.zero_add, Int.reduceLE, Int.reduceLT, Int.reduceToNat, Int.reducePow, Int.reduceNeg, Int.reduceAdd, Int.reduceSub,   Option.isSome_some, Option.isSome_none, Bool.not_true, Bool.not_false, Bool.not_eq_true', Bool.not_eq_eq_eq_not, Bool.not_eq_true, Bool.false_eq_true, Bool.true_eq_false, Bool.and_true, Bool.true_and, Bool.or_false, Bool.false_or, Bool.or_true, Bool.true_or, Bool.and_false, Bool.false_and, if_true, if_false, ite_true, ite_false, reduceIte, reduceCtorEq, decide_true, decide_false, decide_eq_true_eq, decide_eq_false_iff_not, true_and, and_true, false_and, and_false, eq_self, ne_eq, not_false_eq_true, not_true_eq_false, and_self, *])

theorem blkOk_in {X : Cx} {s : Shared} {H : Hp} {u scope scN : Scope} {cl : List (Str × Addr)} {C : Addr} {fp : List Addr} {N : List Str} {own : List (Str × Nat)} (hN : X.N = N) (hs : X.env.scope = scN) (h : blkC N (relS u scN) scope own = true) :
    BlkOk (X.blk s H u (compEnvC u cl C X.env) fp).N (X.blk s H u (compEnvC u cl C X.env) fp).env.scope scope own := by
  subst hN hs
  exact blkOk_by h

def topS (i : Nat) : Stmt := PySem.Challenge.pw_conceptscript_k51_what_holds_in_worlds.main.body.getD i (.Pass ⟨0, 0, 0, 0⟩)
abbrev s_holds : Stmt := topS 1
theorem sc_holds : FnScope ["model", "world", "formula", "strength"] ["model", "world", "formula", "strength"] (defScope s_holds) := ⟨rfl, rfl, rfl, by decide +kernel, rfl, by decide +kernel, by decide +kernel⟩
abbrev s_holding : Stmt := topS 2
theorem sc_holding : FnScope ["model", "formula", "strength", "_", "later", "true", "broken", "conditions", "consequences", "faults", "held", "first", "second", "world", "formulas", "seen"] ["model", "formula", "strength"] (defScope s_holding) := ⟨rfl, rfl, rfl, by decide +kernel, rfl, by decide +kernel, by decide +kernel⟩
abbrev s__law_cell : Stmt := topS 4
theorem sc__law_cell : FnScope ["script", "k"] ["script", "k"] (defScope s__law_cell) := ⟨rfl, rfl, rfl, by decide +kernel, rfl, by decide +kernel, by decide +kernel⟩
abbrev s__law_digits : Stmt := topS 5
theorem sc__law_digits : FnScope ["script", "first", "last", "digits", "k", "cell", "turn", "seed"] ["script", "first", "last"] (defScope s__law_digits) := ⟨rfl, rfl, rfl, by decide +kernel, rfl, by decide +kernel, by decide +kernel⟩
abbrev s__law_box : Stmt := topS 6
theorem sc__law_box : FnScope ["script", "first", "last"] ["script", "first", "last"] (defScope s__law_box) := ⟨rfl, rfl, rfl, by decide +kernel, rfl, by decide +kernel, by decide +kernel⟩
abbrev s__law_draw : Stmt := topS 7
theorem sc__law_draw : FnScope ["box", "many", "at"] ["box", "many"] (defScope s__law_draw) := ⟨rfl, rfl, rfl, by decide +kernel, rfl, by decide +kernel, by decide +kernel⟩
abbrev s__law_model : Stmt := topS 8
theorem sc__law_model : FnScope ["box", "strength", "names", "many", "later", "world", "turn", "further", "atoms", "given", "broken", "rows", "name", "atom", "row"] ["box", "strength", "names"] (defScope s__law_model) := ⟨rfl, rfl, rfl, by decide +kernel, rfl, by decide +kernel, by decide +kernel⟩
abbrev s__law_any : Stmt := topS 9
theorem sc__law_any : FnScope ["box", "room", "many", "kind", "left", "first"] ["box", "room", "many"] (defScope s__law_any) := ⟨rfl, rfl, rfl, by decide +kernel, rfl, by decide +kernel, by decide +kernel⟩
abbrev s__law_holds : Stmt := topS 10
theorem sc__law_holds : FnScope ["model", "world", "formula", "strength", "later"] ["model", "world", "formula", "strength"] (defScope s__law_holds) := ⟨rfl, rfl, rfl, by decide +kernel, rfl, by decide +kernel, by decide +kernel⟩
abbrev s__law_same : Stmt := topS 11
theorem sc__law_same : FnScope ["actual", "expected", "k"] ["actual", "expected"] (defScope s__law_same) := ⟨rfl, rfl, rfl, by decide +kernel, rfl, by decide +kernel, by decide +kernel⟩
abbrev s_law : Stmt := topS 12
theorem sc_law : FnScope ["script", "box", "k", "strength", "model", "formula", "truths", "world", "due", "further"] ["script"] (defScope s_law) := ⟨rfl, rfl, rfl, by decide +kernel, rfl, by decide +kernel, by decide +kernel⟩
structure Txt (K : PySem.W.Frag) (mg : Str → Option Value) where
  f_holds : Addr
  fd_holds : FuncData
  F_holds : Fun K "holds" "holds" s_holds f_holds fd_holds
  m_holds : mg "holds" = some (.ref f_holds)
  b_holds : Binds K fd_holds ["model", "world", "formula", "strength"] []
  f_holding : Addr
  fd_holding : FuncData
  F_holding : Fun K "holding" "holding" s_holding f_holding fd_holding
  m_holding : mg "holding" = some (.ref f_holding)
  b_holding : Binds K fd_holding ["model", "formula", "strength"] []
  f__law_cell : Addr
  fd__law_cell : FuncData
  F__law_cell : Fun K "_law_cell" "_law_cell" s__law_cell f__law_cell fd__law_cell
  m__law_cell : mg "_law_cell" = some (.ref f__law_cell)
  b__law_cell : Binds K fd__law_cell ["script", "k"] []
  f__law_digits : Addr
  fd__law_digits : FuncData
  F__law_digits : Fun K "_law_digits" "_law_digits" s__law_digits f__law_digits fd__law_digits
  m__law_digits : mg "_law_digits" = some (.ref f__law_digits)
  b__law_digits : Binds K fd__law_digits ["script", "first", "last"] []
  f__law_box : Addr
  fd__law_box : FuncData
  F__law_box : Fun K "_law_box" "_law_box" s__law_box f__law_box fd__law_box
  m__law_box : mg "_law_box" = some (.ref f__law_box)
  b__law_box : Binds K fd__law_box ["script", "first", "last"] []
  f__law_draw : Addr
  fd__law_draw : FuncData
  F__law_draw : Fun K "_law_draw" "_law_draw" s__law_draw f__law_draw fd__law_draw
  m__law_draw : mg "_law_draw" = some (.ref f__law_draw)
  b__law_draw : Binds K fd__law_draw ["box", "many"] []
  f__law_model : Addr
  fd__law_model : FuncData
  F__law_model : Fun K "_law_model" "_law_model" s__law_model f__law_model fd__law_model
  m__law_model : mg "_law_model" = some (.ref f__law_model)
  b__law_model : Binds K fd__law_model ["box", "strength", "names"] []
  f__law_any : Addr
  fd__law_any : FuncData
  F__law_any : Fun K "_law_any" "_law_any" s__law_any f__law_any fd__law_any
  m__law_any : mg "_law_any" = some (.ref f__law_any)
  b__law_any : Binds K fd__law_any ["box", "room", "many"] []
  f__law_holds : Addr
  fd__law_holds : FuncData
  F__law_holds : Fun K "_law_holds" "_law_holds" s__law_holds f__law_holds fd__law_holds
  m__law_holds : mg "_law_holds" = some (.ref f__law_holds)
  b__law_holds : Binds K fd__law_holds ["model", "world", "formula", "strength"] []
  f__law_same : Addr
  fd__law_same : FuncData
  F__law_same : Fun K "_law_same" "_law_same" s__law_same f__law_same fd__law_same
  m__law_same : mg "_law_same" = some (.ref f__law_same)
  b__law_same : Binds K fd__law_same ["actual", "expected"] []
  f_law : Addr
  fd_law : FuncData
  F_law : Fun K "law" "law" s_law f_law fd_law
  m_law : mg "law" = some (.ref f_law)
  b_law : Binds K fd_law ["script"] []
  n_zip : mg "zip" = none
  n_len : mg "len" = none
  n_range : mg "range" = none
  n_any : mg "any" = none
  n_int : mg "int" = none
  n_list : mg "list" = none
  n_sorted : mg "sorted" = none
  n_set : mg "set" = none
  n_tuple : mg "tuple" = none
  n_isinstance : mg "isinstance" = none
  n_bool : mg "bool" = none
  n_str : mg "str" = none
section
variable {P : Program} {w : World} {K : PySem.W.Frag} {mg : Str → Option Value} {base : Heap} {k : Nat}
set_option maxHeartbeats 4000000 in
theorem ok_holds (T : Txt K mg) {A_holding : ASp} (G_holding : FnOk P w K mg base CX0 k T.f_holding T.fd_holding ["model", "formula", "strength"] (conc K 3 A_holding)) {A : ASp}
    (hp : ∀ ds M Q Xa, ds.length = 4 → A ds M Q Xa → a_holds A_holding ax0 ⟨fun _ M => Q .non M, Q, fun _ _ => False, fun _ _ => False⟩ (startA ["model", "world", "formula", "strength"] ds) M) :
    FnOk P w K mg base CX0 (k + 1) T.f_holds T.fd_holds ["model", "world", "formula", "strength"] (conc K 4 A) := by
  refine fn_abs T.F_holds sc_holds rfl (fun cdv Ar outer s H E hr => ?_) hp
  have hpo : PassesOwn (model P w) (Ar.deeper (PyProof.Rows.envOfC "holds" (defScope s_holds) s.heap.objs.size T.f_holds cdv)) (PyProof.Rows.envOfC "holds" (defScope s_holds) s.heap.objs.size T.f_holds cdv) (fun _ _ => False) := PassesOwn.never
  exact (as_one (as_ret (ae_ix (ae_call G_holding hr (by rfl) T.m_holding T.F_holding.kp T.b_holding (aa_cons (ae_var 0) (aa_cons (ae_var 2) (aa_cons (ae_var 3) aa_nil)))) (ae_var 1) (fun _ _ => rfl))))
set_option maxHeartbeats 4000000 in
theorem ok_holding (T : Txt K mg) {A_holding : ASp} (G_holding : FnOk P w K mg base CX0 k T.f_holding T.fd_holding ["model", "formula", "strength"] (conc K 3 A_holding)) {A : ASp}
    (hp : ∀ ds M Q Xa, ds.length = 3 → A ds M Q Xa → a_holding A_holding ax0 ⟨fun _ M => Q .non M, Q, fun _ _ => False, fun _ _ => False⟩ (startA ["model", "formula", "strength", "_", "later", "true", "broken", "conditions", "consequences", "faults", "held", "first", "second", "world", "formulas", "seen"] ds) M) :
    FnOk P w K mg base CX0 (k + 1) T.f_holding T.fd_holding ["model", "formula", "strength"] (conc K 3 A) := by
  refine fn_abs T.F_holding sc_holding rfl (fun cdv Ar outer s H E hr => ?_) hp
  have hpo : PassesOwn (model P w) (Ar.deeper (PyProof.Rows.envOfC "holding" (defScope s_holding) s.heap.objs.size T.f_holding cdv)) (PyProof.Rows.envOfC "holding" (defScope s_holding) s.heap.objs.size T.f_holding cdv) (fun _ _ => False) := PassesOwn.never
  exact (as_cons (as_asg (ae_var 0) (ag_tup rfl (ags_cons (ag_name 3 sc_holding.nd) (ags_cons (ag_name 4 sc_holding.nd) (ags_cons (ag_name 5 sc_holding.nd) (ags_cons (ag_name 6 sc_holding.nd) ags_nil))))))
    (as_cons (as_if (at_cmpR (op_eqA (hu64 hr)) sim_eqA (ae_ix (ae_var 1) ae_int (fun _ _ => rfl)) ae_str (nomark _)) (as_cons (as_set 7 sc_holding.nd (ae_call G_holding hr (by rfl) T.m_holding T.F_holding.kp T.b_holding (aa_cons (ae_var 0) (aa_cons (ae_ix (ae_var 1) ae_int (fun _ _ => rfl)) (aa_cons (ae_var 2) aa_nil)))))
    (as_cons (as_set 8 sc_holding.nd (ae_call G_holding hr (by rfl) T.m_holding T.F_holding.kp T.b_holding (aa_cons (ae_var 0) (aa_cons (ae_ix (ae_var 1) ae_int (fun _ _ => rfl)) (aa_cons (ae_var 2) aa_nil)))))
    (as_one (as_set 9 sc_holding.nd (ae_lc2 11 12 rfl sc_holding.nd (ai_zip (by rfl) T.n_zip (aa_cons (ae_var 7) (aa_cons (ae_var 8) aa_nil))) (blkOk_by (N := ["model", "formula", "strength", "_", "later", "true", "broken", "conditions", "consequences", "faults", "held", "first", "second", "world", "formulas", "seen"]) (sc := defScope s_holding) (by decide +kernel)) (fun _ _ _ _ _ => pg_tup rfl (pgs_cons (pg_name (i := 11) sc_holding.nd rfl (Or.inl rfl)) (pgs_cons (pg_name (i := 12) sc_holding.nd rfl (Or.inl rfl)) pgs_nil))) (fun _ _ _ _ _ => ats_nil) (fun _ _ _ _ _ => (ae_and (ae_var 11) (ae_one (ae_not (ae_var 12)))))))))) (as_one (as_if (at_w (aw_and (at_cmpR (op_eqA (hu64 hr)) sim_eqA (ae_ix (ae_var 1) ae_int (fun _ _ => rfl)) ae_str (nomark _)) (aw_and1 (at_cmpR (op_eqA (hu64 hr)) sim_eqA (ae_var 2) ae_str (nomark _))))) (as_cons (as_set 10 sc_holding.nd (ae_call G_holding hr (by rfl) T.m_holding T.F_holding.kp T.b_holding (aa_cons (ae_var 0) (aa_cons (ae_ix (ae_var 1) ae_int (fun _ _ => rfl)) (aa_cons (ae_var 2) aa_nil)))))
    (as_one (as_set 9 sc_holding.nd (ae_lc 13 rfl sc_holding.nd (ai_rng1 (by rfl) T.n_range (aa_cons (ae_callB call_lenA sim_len (by rfl) T.n_len (by decide +kernel) (aa_cons (ae_var 4) aa_nil)) aa_nil)) (blkOk_by (N := ["model", "formula", "strength", "_", "later", "true", "broken", "conditions", "consequences", "faults", "held", "first", "second", "world", "formulas", "seen"]) (sc := defScope s_holding) (by decide +kernel)) (fun _ _ _ _ _ => pg_name (i := 13) sc_holding.nd rfl (Or.inl rfl)) (fun _ _ _ _ _ => ats_nil) (fun _ _ _ _ _ => (ae_and (ae_ix (ae_var 10) (ae_var 13) (fun _ _ => rfl)) (ae_one (ae_cmpR (op_notInA (hu65 hr)) sim_in (ae_var 13) (ae_var 6) (by rfl))))))))) (as_one (as_ret (ae_lc 14 rfl sc_holding.nd (ai_tup (ae_var 5)) (blkOk_by (N := ["model", "formula", "strength", "_", "later", "true", "broken", "conditions", "consequences", "faults", "held", "first", "second", "world", "formulas", "seen"]) (sc := defScope s_holding) (by decide +kernel)) (fun _ _ _ _ _ => pg_name (i := 14) sc_holding.nd rfl (Or.inl rfl)) (fun _ _ _ _ _ => ats_nil) (fun _ _ _ _ _ => (ae_cmpR (op_inTD (hu65 hr)) sim_inT (ae_var 1) (ae_var 14) (by rfl)))))))))
    (as_one (as_ret (ae_lc 15 rfl sc_holding.nd (ai_tup (ae_var 4)) (blkOk_by (N := ["model", "formula", "strength", "_", "later", "true", "broken", "conditions", "consequences", "faults", "held", "first", "second", "world", "formulas", "seen"]) (sc := defScope s_holding) (by decide +kernel)) (fun _ _ _ _ _ => pg_name (i := 15) sc_holding.nd rfl (Or.inl rfl)) (fun _ _ _ _ _ => ats_nil) (fun _ _ _ _ _ => (ae_not (ae_callB (cr_any rfl) sim_any (by rfl) T.n_any (by decide +kernel) (aa_cons (ae_lc 13 rfl sc_holding.nd (ai_tup (ae_var 15)) (blkOk_in (N := ["model", "formula", "strength", "_", "later", "true", "broken", "conditions", "consequences", "faults", "held", "first", "second", "world", "formulas", "seen"]) (scN := defScope s_holding) rfl rfl (by decide +kernel)) (fun _ _ _ _ _ => pg_name (i := 13) sc_holding.nd rfl (Or.inl rfl)) (fun _ _ _ _ _ => ats_nil) (fun _ _ _ _ _ => (ae_ix (ae_var 9) (ae_var 13) (fun _ _ => rfl)))) aa_nil)))))))))
set_option maxHeartbeats 4000000 in
theorem ok__law_cell (T : Txt K mg)  {A : ASp}
    (hp : ∀ ds M Q Xa, ds.length = 2 → A ds M Q Xa → a__law_cell  ax0 ⟨fun _ M => Q .non M, Q, fun _ _ => False, fun _ _ => False⟩ (startA ["script", "k"] ds) M) :
    FnOk P w K mg base CX0 (k + 1) T.f__law_cell T.fd__law_cell ["script", "k"] (conc K 2 A) := by
  refine fn_abs T.F__law_cell sc__law_cell rfl (fun cdv Ar outer s H E hr => ?_) hp
  have hpo : PassesOwn (model P w) (Ar.deeper (PyProof.Rows.envOfC "_law_cell" (defScope s__law_cell) s.heap.objs.size T.f__law_cell cdv)) (PyProof.Rows.envOfC "_law_cell" (defScope s__law_cell) s.heap.objs.size T.f__law_cell cdv) (fun _ _ => False) := PassesOwn.never
  exact (as_cons (as_if (at_cmpR op_ltA sim_lt (ae_var 1) (ae_callB call_lenA sim_len (by rfl) T.n_len (by decide +kernel) (aa_cons (ae_var 0) aa_nil)) (nomark _)) (as_one (as_ret (ae_ix (ae_var 0) (ae_var 1) (fun _ _ => rfl)))) as_nil)
    (as_one (as_ret ae_int)))
set_option maxHeartbeats 4000000 in
theorem ok__law_digits (T : Txt K mg) {A__law_cell : ASp} (G__law_cell : FnOk P w K mg base CX0 k T.f__law_cell T.fd__law_cell ["script", "k"] (conc K 2 A__law_cell)) {A : ASp}
    (hp : ∀ ds M Q Xa, ds.length = 3 → A ds M Q Xa → a__law_digits A__law_cell ax0 ⟨fun _ M => Q .non M, Q, fun _ _ => False, fun _ _ => False⟩ (startA ["script", "first", "last", "digits", "k", "cell", "turn", "seed"] ds) M) :
    FnOk P w K mg base CX0 (k + 1) T.f__law_digits T.fd__law_digits ["script", "first", "last"] (conc K 3 A) := by
  refine fn_abs T.F__law_digits sc__law_digits rfl (fun cdv Ar outer s H E hr => ?_) hp
  have hpo : PassesOwn (model P w) (Ar.deeper (PyProof.Rows.envOfC "_law_digits" (defScope s__law_digits) s.heap.objs.size T.f__law_digits cdv)) (PyProof.Rows.envOfC "_law_digits" (defScope s__law_digits) s.heap.objs.size T.f__law_digits cdv) (fun _ _ => False) := PassesOwn.never
  exact (as_cons (as_set 3 sc__law_digits.nd (ae_lst aa_nil))
    (as_cons (as_for hpo rfl (ai_rng2 (by rfl) T.n_range (aa_cons (ae_var 1) (aa_cons (ae_var 2) aa_nil))) (ag_name 4 sc__law_digits.nd) (as_cons (as_set 5 sc__law_digits.nd (ae_call G__law_cell hr (by rfl) T.m__law_cell T.F__law_cell.kp T.b__law_cell (aa_cons (ae_var 0) (aa_cons (ae_var 4) aa_nil))))
    (as_cons (as_if (at_cmpR op_ltA sim_lt (ae_var 5) ae_int (nomark _)) (as_one (as_set 5 sc__law_digits.nd (ae_op op_sub sim_sub ae_int (ae_op op_mul sim_mul ae_int (ae_var 5))))) as_nil)
    (as_one (as_if (at_cmpR op_ge sim_ge (ae_var 5) (ae_op op_pow sim_pow ae_int ae_int) (nomark _)) (as_one (as_for hpo rfl (ai_rng1 (by rfl) T.n_range (aa_cons ae_int aa_nil)) (ag_name 6 sc__law_digits.nd) (as_one (as_if (at_cmpR op_gt sim_gt (ae_var 5) ae_int (nomark _)) (as_cons (as_expr (ae_append (ae_var 3) (aa_cons (ae_op op_mod sim_mod (ae_callTy call_int1 sim_int (by rfl) T.n_int (by decide +kernel) (aa_cons (ae_var 5) aa_nil)) ae_int) aa_nil)))
    (as_one (as_set 5 sc__law_digits.nd (ae_op op_fdiv sim_fdiv (ae_var 5) ae_int)))) as_nil)))) (as_cons (as_set 7 sc__law_digits.nd (ae_op op_mod sim_mod (ae_callTy call_int1 sim_int (by rfl) T.n_int (by decide +kernel) (aa_cons (ae_op op_plus sim_add (ae_op op_plus sim_add (ae_op op_mul sim_mul (ae_var 5) ae_int) (ae_op op_mul sim_mul (ae_var 4) ae_int)) ae_int) aa_nil)) ae_int))
    (as_one (as_for hpo rfl (ai_rng1 (by rfl) T.n_range (aa_cons ae_int aa_nil)) (ag_name 6 sc__law_digits.nd) (as_cons (as_set 7 sc__law_digits.nd (ae_op op_mod sim_mod (ae_callTy call_int1 sim_int (by rfl) T.n_int (by decide +kernel) (aa_cons (ae_op op_plus sim_add (ae_op op_plus sim_add (ae_op op_mul sim_mul (ae_var 7) ae_int) (ae_op op_mul sim_mul ae_int (ae_var 6))) ae_int) aa_nil)) ae_int))
    (as_one (as_expr (ae_append (ae_var 3) (aa_cons (ae_op op_mod sim_mod (ae_callTy call_int1 sim_int (by rfl) T.n_int (by decide +kernel) (aa_cons (ae_op op_fdiv sim_fdiv (ae_var 7) ae_int) aa_nil)) ae_int) aa_nil)))))))))))))
    (as_one (as_ret (ae_var 3)))))
set_option maxHeartbeats 4000000 in
theorem ok__law_box (T : Txt K mg) {A__law_digits : ASp} (G__law_digits : FnOk P w K mg base CX0 k T.f__law_digits T.fd__law_digits ["script", "first", "last"] (conc K 3 A__law_digits)) {A : ASp}
    (hp : ∀ ds M Q Xa, ds.length = 3 → A ds M Q Xa → a__law_box A__law_digits ax0 ⟨fun _ M => Q .non M, Q, fun _ _ => False, fun _ _ => False⟩ (startA ["script", "first", "last"] ds) M) :
    FnOk P w K mg base CX0 (k + 1) T.f__law_box T.fd__law_box ["script", "first", "last"] (conc K 3 A) := by
  refine fn_abs T.F__law_box sc__law_box rfl (fun cdv Ar outer s H E hr => ?_) hp
  have hpo : PassesOwn (model P w) (Ar.deeper (PyProof.Rows.envOfC "_law_box" (defScope s__law_box) s.heap.objs.size T.f__law_box cdv)) (PyProof.Rows.envOfC "_law_box" (defScope s__law_box) s.heap.objs.size T.f__law_box cdv) (fun _ _ => False) := PassesOwn.never
  exact (as_one (as_ret (ae_lst (aa_cons (ae_call G__law_digits hr (by rfl) T.m__law_digits T.F__law_digits.kp T.b__law_digits (aa_cons (ae_var 0) (aa_cons (ae_var 1) (aa_cons (ae_var 2) aa_nil)))) (aa_cons ae_int aa_nil)))))
set_option maxHeartbeats 4000000 in
theorem ok__law_draw (T : Txt K mg)  {A : ASp}
    (hp : ∀ ds M Q Xa, ds.length = 2 → A ds M Q Xa → a__law_draw  ax0 ⟨fun _ M => Q .non M, Q, fun _ _ => False, fun _ _ => False⟩ (startA ["box", "many", "at"] ds) M) :
    FnOk P w K mg base CX0 (k + 1) T.f__law_draw T.fd__law_draw ["box", "many"] (conc K 2 A) := by
  refine fn_abs T.F__law_draw sc__law_draw rfl (fun cdv Ar outer s H E hr => ?_) hp
  have hpo : PassesOwn (model P w) (Ar.deeper (PyProof.Rows.envOfC "_law_draw" (defScope s__law_draw) s.heap.objs.size T.f__law_draw cdv)) (PyProof.Rows.envOfC "_law_draw" (defScope s__law_draw) s.heap.objs.size T.f__law_draw cdv) (fun _ _ => False) := PassesOwn.never
  exact (as_cons (as_set 2 sc__law_draw.nd (ae_ix (ae_var 0) ae_int (fun _ _ => rfl)))
    (as_cons (as_asg (ae_op op_plus sim_add (ae_var 2) ae_int) (ag_sub (ae_var 0) ae_int))
    (as_cons (as_if (at_cmpR op_ltA sim_lt (ae_var 2) (ae_callB call_lenA sim_len (by rfl) T.n_len (by decide +kernel) (aa_cons (ae_ix (ae_var 0) ae_int (fun _ _ => rfl)) aa_nil)) (nomark _)) (as_one (as_ret (ae_op op_mod sim_mod (ae_callTy call_int1 sim_int (by rfl) T.n_int (by decide +kernel) (aa_cons (ae_ix (ae_ix (ae_var 0) ae_int (fun _ _ => rfl)) (ae_var 2) (fun _ _ => rfl)) aa_nil)) (ae_var 1)))) as_nil)
    (as_one (as_ret ae_int)))))
set_option maxHeartbeats 4000000 in
theorem ok__law_model (T : Txt K mg) {A__law_draw : ASp} (G__law_draw : FnOk P w K mg base CX0 k T.f__law_draw T.fd__law_draw ["box", "many"] (conc K 2 A__law_draw)) {A : ASp}
    (hp : ∀ ds M Q Xa, ds.length = 3 → A ds M Q Xa → a__law_model A__law_draw ax0 ⟨fun _ M => Q .non M, Q, fun _ _ => False, fun _ _ => False⟩ (startA ["box", "strength", "names", "many", "later", "world", "turn", "further", "atoms", "given", "broken", "rows", "name", "atom", "row"] ds) M) :
    FnOk P w K mg base CX0 (k + 1) T.f__law_model T.fd__law_model ["box", "strength", "names"] (conc K 3 A) := by
  refine fn_abs T.F__law_model sc__law_model rfl (fun cdv Ar outer s H E hr => ?_) hp
  have hpo : PassesOwn (model P w) (Ar.deeper (PyProof.Rows.envOfC "_law_model" (defScope s__law_model) s.heap.objs.size T.f__law_model cdv)) (PyProof.Rows.envOfC "_law_model" (defScope s__law_model) s.heap.objs.size T.f__law_model cdv) (fun _ _ => False) := PassesOwn.never
  exact (as_cons (as_set 3 sc__law_model.nd (ae_op op_plus sim_add ae_int (ae_call G__law_draw hr (by rfl) T.m__law_draw T.F__law_draw.kp T.b__law_draw (aa_cons (ae_var 0) (aa_cons ae_int aa_nil)))))
    (as_cons (as_set 4 sc__law_model.nd (ae_lst aa_nil))
    (as_cons (as_for hpo rfl (ai_rng1 (by rfl) T.n_range (aa_cons (ae_var 3) aa_nil)) (ag_name 5 sc__law_model.nd) (as_one (as_expr (ae_append (ae_var 4) (aa_cons (ae_lc 7 rfl sc__law_model.nd (ai_rng2 (by rfl) T.n_range (aa_cons (ae_var 5) (aa_cons (ae_var 3) aa_nil))) (blkOk_by (N := ["box", "strength", "names", "many", "later", "world", "turn", "further", "atoms", "given", "broken", "rows", "name", "atom", "row"]) (sc := defScope s__law_model) (by decide +kernel)) (fun _ _ _ _ _ => pg_name (i := 7) sc__law_model.nd rfl (Or.inl rfl)) (fun _ _ _ _ _ => (ats_one (at_w (aw_or (at_cmpR (op_eqA (hu64 hr)) sim_eqA (ae_var 7) (ae_var 5) (nomark _)) (aw_or1 (at_cmpR (op_eqA (hu64 hr)) sim_eqA (ae_call G__law_draw hr (by rfl) T.m__law_draw T.F__law_draw.kp T.b__law_draw (aa_cons (ae_var 0) (aa_cons ae_int aa_nil))) ae_int (nomark _))))))) (fun _ _ _ _ _ => (ae_var 7))) aa_nil)))))
    (as_cons (as_for hpo rfl (ai_rng1 (by rfl) T.n_range (aa_cons (ae_var 3) aa_nil)) (ag_name 6 sc__law_model.nd) (as_one (as_for hpo rfl (ai_rng1 (by rfl) T.n_range (aa_cons (ae_var 3) aa_nil)) (ag_name 5 sc__law_model.nd) (as_one (as_for hpo rfl (ai_list (ae_callTy call_list_of sim_list (by rfl) T.n_list (by decide +kernel) (aa_cons (ae_ix (ae_var 4) (ae_var 5) (fun _ _ => rfl)) aa_nil))) (ag_name 7 sc__law_model.nd) (as_one (as_asg (ae_sortSetI rfl (by rfl) T.n_sorted (by rfl) T.n_set (ae_op op_plus sim_add (ae_ix (ae_var 4) (ae_var 5) (fun _ _ => rfl)) (ae_ix (ae_var 4) (ae_var 7) (fun _ _ => rfl)))) (ag_sub (ae_var 4) (ae_var 5)))))))))
    (as_cons (as_setLc 12 8 rfl sc__law_model.nd rfl rfl (sw_true rfl rfl rfl (by decide +kernel)) (ai_list (ae_var 2)) (blkOk_by (N := ["box", "strength", "names", "many", "later", "world", "turn", "further", "atoms", "given", "broken", "rows", "name", "atom", "row"]) (sc := defScope s__law_model) (by decide +kernel)) (fun _ _ _ _ _ => pg_name (i := 12) sc__law_model.nd rfl (Or.inl rfl)) (fun _ _ _ _ _ => ats_nil) (fun _ _ _ _ _ => (ae_tup (aa_cons ae_str (aa_cons (ae_var 12) aa_nil)))))
    (as_cons (as_if (at_cmpR (op_eqA (hu64 hr)) sim_eqA (ae_var 1) ae_str (nomark _)) (as_one (as_set 8 sc__law_model.nd (ae_op op_plus sim_add (ae_op op_plus sim_add (ae_var 8) (ae_lc 12 rfl sc__law_model.nd (ai_list (ae_var 2)) (blkOk_by (N := ["box", "strength", "names", "many", "later", "world", "turn", "further", "atoms", "given", "broken", "rows", "name", "atom", "row"]) (sc := defScope s__law_model) (by decide +kernel)) (fun _ _ _ _ _ => pg_name (i := 12) sc__law_model.nd rfl (Or.inl rfl)) (fun _ _ _ _ _ => ats_nil) (fun _ _ _ _ _ => (ae_tup (aa_cons ae_str (aa_cons (ae_tup (aa_cons ae_str (aa_cons (ae_var 12) aa_nil))) aa_nil)))))) (ae_lst (aa_cons (ae_tup (aa_cons ae_str (aa_cons (ae_tup (aa_cons ae_str (aa_cons (ae_tup (aa_cons ae_str (aa_cons (ae_ix (ae_var 2) ae_int (fun _ _ => rfl)) aa_nil))) aa_nil))) aa_nil))) aa_nil))))) as_nil)
    (as_cons (as_set 9 sc__law_model.nd (ae_lst aa_nil))
    (as_cons (as_set 10 sc__law_model.nd (ae_lst aa_nil))
    (as_cons (as_for hpo rfl (ai_rng1 (by rfl) T.n_range (aa_cons (ae_var 3) aa_nil)) (ag_name 5 sc__law_model.nd) (as_cons (as_expr (ae_append (ae_var 9) (aa_cons (ae_lc 13 rfl sc__law_model.nd (ai_list (ae_var 8)) (blkOk_by (N := ["box", "strength", "names", "many", "later", "world", "turn", "further", "atoms", "given", "broken", "rows", "name", "atom", "row"]) (sc := defScope s__law_model) (by decide +kernel)) (fun _ _ _ _ _ => pg_name (i := 13) sc__law_model.nd rfl (Or.inl rfl)) (fun _ _ _ _ _ => (ats_one (at_cmpR (op_eqA (hu64 hr)) sim_eqA (ae_call G__law_draw hr (by rfl) T.m__law_draw T.F__law_draw.kp T.b__law_draw (aa_cons (ae_var 0) (aa_cons ae_int aa_nil))) ae_int (nomark _)))) (fun _ _ _ _ _ => (ae_var 13))) aa_nil)))
    (as_one (as_if (at_cmpR (op_eqA (hu64 hr)) sim_eqA (ae_call G__law_draw hr (by rfl) T.m__law_draw T.F__law_draw.kp T.b__law_draw (aa_cons (ae_var 0) (aa_cons ae_int aa_nil))) ae_int (nomark _)) (as_one (as_expr (ae_append (ae_var 10) (aa_cons (ae_var 5) aa_nil)))) as_nil))))
    (as_cons (as_for hpo rfl (ai_rng1 (by rfl) T.n_range (aa_cons (ae_var 3) aa_nil)) (ag_name 5 sc__law_model.nd) (as_one (as_for hpo rfl (ai_list (ae_ix (ae_var 4) (ae_var 5) (fun _ _ => rfl))) (ag_name 7 sc__law_model.nd) (as_cons (as_asg (ae_op op_plus sim_add (ae_ix (ae_var 9) (ae_var 7) (fun _ _ => rfl)) (ae_lc 13 rfl sc__law_model.nd (ai_list (ae_ix (ae_var 9) (ae_var 5) (fun _ _ => rfl))) (blkOk_by (N := ["box", "strength", "names", "many", "later", "world", "turn", "further", "atoms", "given", "broken", "rows", "name", "atom", "row"]) (sc := defScope s__law_model) (by decide +kernel)) (fun _ _ _ _ _ => pg_name (i := 13) sc__law_model.nd rfl (Or.inl rfl)) (fun _ _ _ _ _ => (ats_one (at_cmpR (op_notInA (hu65 hr)) sim_in (ae_var 13) (ae_ix (ae_var 9) (ae_var 7) (fun _ _ => rfl)) (by rfl)))) (fun _ _ _ _ _ => (ae_var 13)))) (ag_sub (ae_var 9) (ae_var 7)))
    (as_one (as_if (at_w (aw_and (at_cmpR (op_inA (hu65 hr)) sim_in (ae_var 5) (ae_var 10) (by rfl)) (aw_and1 (at_cmpR (op_notInA (hu65 hr)) sim_in (ae_var 7) (ae_var 10) (by rfl))))) (as_one (as_expr (ae_append (ae_var 10) (aa_cons (ae_var 7) aa_nil)))) as_nil))))))
    (as_cons (as_set 11 sc__law_model.nd (ae_callTy call_tuple_of sim_tuple (by rfl) T.n_tuple (by decide +kernel) (aa_cons (ae_lc 14 rfl sc__law_model.nd (ai_list (ae_var 9)) (blkOk_by (N := ["box", "strength", "names", "many", "later", "world", "turn", "further", "atoms", "given", "broken", "rows", "name", "atom", "row"]) (sc := defScope s__law_model) (by decide +kernel)) (fun _ _ _ _ _ => pg_name (i := 14) sc__law_model.nd rfl (Or.inl rfl)) (fun _ _ _ _ _ => ats_nil) (fun _ _ _ _ _ => (ae_callTy call_tuple_of sim_tuple (by rfl) T.n_tuple (by decide +kernel) (aa_cons (ae_var 14) aa_nil)))) aa_nil)))
    (as_one (as_ret (ae_tup (aa_cons ae_str (aa_cons (ae_callTy call_tuple_of sim_tuple (by rfl) T.n_tuple (by decide +kernel) (aa_cons (ae_lc 14 rfl sc__law_model.nd (ai_list (ae_var 4)) (blkOk_by (N := ["box", "strength", "names", "many", "later", "world", "turn", "further", "atoms", "given", "broken", "rows", "name", "atom", "row"]) (sc := defScope s__law_model) (by decide +kernel)) (fun _ _ _ _ _ => pg_name (i := 14) sc__law_model.nd rfl (Or.inl rfl)) (fun _ _ _ _ _ => ats_nil) (fun _ _ _ _ _ => (ae_callTy call_tuple_of sim_tuple (by rfl) T.n_tuple (by decide +kernel) (aa_cons (ae_var 14) aa_nil)))) aa_nil)) (aa_cons (ae_var 11) (aa_cons (ae_callTy call_tuple_of sim_tuple (by rfl) T.n_tuple (by decide +kernel) (aa_cons (ae_callB cr_sortedI sim_sortI (by rfl) T.n_sorted (by decide +kernel) (aa_cons (ae_var 10) aa_nil)) aa_nil)) aa_nil))))))))))))))))))
set_option maxHeartbeats 4000000 in
theorem ok__law_any (T : Txt K mg) {A__law_draw : ASp} (G__law_draw : FnOk P w K mg base CX0 k T.f__law_draw T.fd__law_draw ["box", "many"] (conc K 2 A__law_draw)) {A__law_any : ASp} (G__law_any : FnOk P w K mg base CX0 k T.f__law_any T.fd__law_any ["box", "room", "many"] (conc K 3 A__law_any)) {A : ASp}
    (hp : ∀ ds M Q Xa, ds.length = 3 → A ds M Q Xa → a__law_any A__law_draw A__law_any ax0 ⟨fun _ M => Q .non M, Q, fun _ _ => False, fun _ _ => False⟩ (startA ["box", "room", "many", "kind", "left", "first"] ds) M) :
    FnOk P w K mg base CX0 (k + 1) T.f__law_any T.fd__law_any ["box", "room", "many"] (conc K 3 A) := by
  refine fn_abs T.F__law_any sc__law_any rfl (fun cdv Ar outer s H E hr => ?_) hp
  have hpo : PassesOwn (model P w) (Ar.deeper (PyProof.Rows.envOfC "_law_any" (defScope s__law_any) s.heap.objs.size T.f__law_any cdv)) (PyProof.Rows.envOfC "_law_any" (defScope s__law_any) s.heap.objs.size T.f__law_any cdv) (fun _ _ => False) := PassesOwn.never
  exact (as_cons (as_set 3 sc__law_any.nd (ae_call G__law_draw hr (by rfl) T.m__law_draw T.F__law_draw.kp T.b__law_draw (aa_cons (ae_var 0) (aa_cons ae_int aa_nil))))
    (as_cons (as_if (at_w (aw_or (at_cmpR op_ltA sim_lt (ae_var 1) ae_int (nomark _)) (aw_or1 (at_cmpR op_ltA sim_lt (ae_var 3) ae_int (nomark _))))) (as_one (as_ret (ae_tup (aa_cons ae_str (aa_cons (ae_ix ae_str (ae_call G__law_draw hr (by rfl) T.m__law_draw T.F__law_draw.kp T.b__law_draw (aa_cons (ae_var 0) (aa_cons (ae_var 2) aa_nil))) (fun _ _ => rfl)) aa_nil))))) as_nil)
    (as_cons (as_if (at_w (aw_or (at_cmpR op_ltA sim_lt (ae_var 1) ae_int (nomark _)) (aw_or1 (at_cmpR op_ltA sim_lt (ae_var 3) ae_int (nomark _))))) (as_one (as_ret (ae_tup (aa_cons ae_str (aa_cons (ae_call G__law_any hr (by rfl) T.m__law_any T.F__law_any.kp T.b__law_any (aa_cons (ae_var 0) (aa_cons (ae_op op_sub sim_sub (ae_var 1) ae_int) (aa_cons (ae_var 2) aa_nil)))) aa_nil))))) as_nil)
    (as_cons (as_set 4 sc__law_any.nd (ae_op op_plus sim_add ae_int (ae_call G__law_draw hr (by rfl) T.m__law_draw T.F__law_draw.kp T.b__law_draw (aa_cons (ae_var 0) (aa_cons (ae_op op_sub sim_sub (ae_var 1) ae_int) aa_nil)))))
    (as_cons (as_set 5 sc__law_any.nd (ae_call G__law_any hr (by rfl) T.m__law_any T.F__law_any.kp T.b__law_any (aa_cons (ae_var 0) (aa_cons (ae_var 4) (aa_cons (ae_var 2) aa_nil)))))
    (as_one (as_ret (ae_tup (aa_cons ae_str (aa_cons (ae_var 5) (aa_cons (ae_call G__law_any hr (by rfl) T.m__law_any T.F__law_any.kp T.b__law_any (aa_cons (ae_var 0) (aa_cons (ae_op op_sub sim_sub (ae_op op_sub sim_sub (ae_var 1) ae_int) (ae_var 4)) (aa_cons (ae_var 2) aa_nil)))) aa_nil)))))))))))
set_option maxHeartbeats 4000000 in
theorem ok__law_holds (T : Txt K mg) {A__law_holds : ASp} (G__law_holds : FnOk P w K mg base CX0 k T.f__law_holds T.fd__law_holds ["model", "world", "formula", "strength"] (conc K 4 A__law_holds)) {A : ASp}
    (hp : ∀ ds M Q Xa, ds.length = 4 → A ds M Q Xa → a__law_holds A__law_holds ax0 ⟨fun _ M => Q .non M, Q, fun _ _ => False, fun _ _ => False⟩ (startA ["model", "world", "formula", "strength", "later"] ds) M) :
    FnOk P w K mg base CX0 (k + 1) T.f__law_holds T.fd__law_holds ["model", "world", "formula", "strength"] (conc K 4 A) := by
  refine fn_abs T.F__law_holds sc__law_holds rfl (fun cdv Ar outer s H E hr => ?_) hp
  have hpo : PassesOwn (model P w) (Ar.deeper (PyProof.Rows.envOfC "_law_holds" (defScope s__law_holds) s.heap.objs.size T.f__law_holds cdv)) (PyProof.Rows.envOfC "_law_holds" (defScope s__law_holds) s.heap.objs.size T.f__law_holds cdv) (fun _ _ => False) := PassesOwn.never
  exact (as_cons (as_if (at_w (aw_or (at_cmpR (op_eqA (hu64 hr)) sim_eqA (ae_ix (ae_var 2) ae_int (fun _ _ => rfl)) ae_str (nomark _)) (aw_or1 (at_w (aw_and (at_cmpR (op_eqA (hu64 hr)) sim_eqA (ae_ix (ae_var 2) ae_int (fun _ _ => rfl)) ae_str (nomark _)) (aw_and1 (at_cmpR (op_eqA (hu64 hr)) sim_eqA (ae_var 3) ae_str (nomark _)))))))) (as_one (as_ret (ae_cmpR (op_inTD (hu65 hr)) sim_inT (ae_var 2) (ae_ix (ae_ix (ae_var 0) ae_int (fun _ _ => rfl)) (ae_var 1) (fun _ _ => rfl)) (by rfl)))) as_nil)
    (as_cons (as_for hpo rfl (ai_tup (ae_ix (ae_ix (ae_var 0) ae_int (fun _ _ => rfl)) (ae_var 1) (fun _ _ => rfl))) (ag_name 4 sc__law_holds.nd) (as_one (as_if (at_cmpR (op_eqA (hu64 hr)) sim_eqA (ae_ix (ae_var 2) ae_int (fun _ _ => rfl)) ae_str (nomark _)) (as_one (as_if (at_w (aw_and (at_truth (ae_call G__law_holds hr (by rfl) T.m__law_holds T.F__law_holds.kp T.b__law_holds (aa_cons (ae_var 0) (aa_cons (ae_var 4) (aa_cons (ae_ix (ae_var 2) ae_int (fun _ _ => rfl)) (aa_cons (ae_var 3) aa_nil)))))) (aw_and1 (at_cmpR (op_notInA (hu65 hr)) sim_in (ae_var 4) (ae_ix (ae_var 0) ae_int (fun _ _ => rfl)) (by rfl))))) (as_one (as_ret ae_bl)) as_nil)) (as_one (as_if (at_w (aw_and (at_truth (ae_call G__law_holds hr (by rfl) T.m__law_holds T.F__law_holds.kp T.b__law_holds (aa_cons (ae_var 0) (aa_cons (ae_var 4) (aa_cons (ae_ix (ae_var 2) ae_int (fun _ _ => rfl)) (aa_cons (ae_var 3) aa_nil)))))) (aw_and1 (at_not (at_truth (ae_call G__law_holds hr (by rfl) T.m__law_holds T.F__law_holds.kp T.b__law_holds (aa_cons (ae_var 0) (aa_cons (ae_var 4) (aa_cons (ae_ix (ae_var 2) ae_int (fun _ _ => rfl)) (aa_cons (ae_var 3) aa_nil)))))))))) (as_one (as_ret ae_bl)) as_nil)))))
    (as_one (as_ret ae_bl))))
set_option maxHeartbeats 4000000 in
theorem ok__law_same (T : Txt K mg) {A__law_same : ASp} (G__law_same : FnOk P w K mg base CX0 k T.f__law_same T.fd__law_same ["actual", "expected"] (conc K 2 A__law_same)) {A : ASp}
    (hp : ∀ ds M Q Xa, ds.length = 2 → A ds M Q Xa → a__law_same A__law_same ax0 ⟨fun _ M => Q .non M, Q, fun _ _ => False, fun _ _ => False⟩ (startA ["actual", "expected", "k"] ds) M) :
    FnOk P w K mg base CX0 (k + 1) T.f__law_same T.fd__law_same ["actual", "expected"] (conc K 2 A) := by
  refine fn_abs T.F__law_same sc__law_same rfl (fun cdv Ar outer s H E hr => ?_) hp
  have hpo : PassesOwn (model P w) (Ar.deeper (PyProof.Rows.envOfC "_law_same" (defScope s__law_same) s.heap.objs.size T.f__law_same cdv)) (PyProof.Rows.envOfC "_law_same" (defScope s__law_same) s.heap.objs.size T.f__law_same cdv) (fun _ _ => False) := PassesOwn.never
  exact (as_cons (as_if (at_truth (ae_isi (by rfl) T.n_isinstance (by decide +kernel) (ae_var 1) (by rfl) T.n_tuple (by decide +kernel) (by decide +kernel))) (as_cons (as_if (at_w (aw_or (at_not (at_truth (ae_isi (by rfl) T.n_isinstance (by decide +kernel) (ae_var 0) (by rfl) T.n_tuple (by decide +kernel) (by decide +kernel)))) (aw_or1 (at_cmpR (op_neA (hu64 hr)) sim_eqA (ae_callB call_lenA sim_len (by rfl) T.n_len (by decide +kernel) (aa_cons (ae_var 0) aa_nil)) (ae_callB call_lenA sim_len (by rfl) T.n_len (by decide +kernel) (aa_cons (ae_var 1) aa_nil)) (nomark _))))) (as_one (as_ret ae_bl)) as_nil)
    (as_cons (as_for hpo rfl (ai_rng1 (by rfl) T.n_range (aa_cons (ae_callB call_lenA sim_len (by rfl) T.n_len (by decide +kernel) (aa_cons (ae_var 1) aa_nil)) aa_nil)) (ag_name 2 sc__law_same.nd) (as_one (as_if (at_not (at_truth (ae_call G__law_same hr (by rfl) T.m__law_same T.F__law_same.kp T.b__law_same (aa_cons (ae_ix (ae_var 0) (ae_var 2) (fun _ _ => rfl)) (aa_cons (ae_ix (ae_var 1) (ae_var 2) (fun _ _ => rfl)) aa_nil))))) (as_one (as_ret ae_bl)) as_nil)))
    (as_one (as_ret ae_bl)))) as_nil)
    (as_cons (as_if (at_cmpR op_isN sim_isN (ae_var 1) ae_non (nomark _)) (as_one (as_ret (ae_cmpR op_isN sim_isN (ae_var 0) ae_non (nomark _)))) as_nil)
    (as_cons (as_if (at_truth (ae_isi (by rfl) T.n_isinstance (by decide +kernel) (ae_var 1) (by rfl) T.n_bool (by decide +kernel) (by decide +kernel))) (as_one (as_ret (ae_and (ae_isi (by rfl) T.n_isinstance (by decide +kernel) (ae_var 0) (by rfl) T.n_bool (by decide +kernel) (by decide +kernel)) (ae_one (ae_cmpR (op_eqA (hu64 hr)) sim_eqA (ae_var 0) (ae_var 1) (nomark _)))))) as_nil)
    (as_cons (as_if (at_truth (ae_isi (by rfl) T.n_isinstance (by decide +kernel) (ae_var 1) (by rfl) T.n_int (by decide +kernel) (by decide +kernel))) (as_one (as_ret (ae_and (ae_isi (by rfl) T.n_isinstance (by decide +kernel) (ae_var 0) (by rfl) T.n_int (by decide +kernel) (by decide +kernel)) (ae_and (ae_not (ae_isi (by rfl) T.n_isinstance (by decide +kernel) (ae_var 0) (by rfl) T.n_bool (by decide +kernel) (by decide +kernel))) (ae_one (ae_cmpR (op_eqA (hu64 hr)) sim_eqA (ae_var 0) (ae_var 1) (nomark _))))))) as_nil)
    (as_one (as_ret (ae_and (ae_isi (by rfl) T.n_isinstance (by decide +kernel) (ae_var 0) (by rfl) T.n_str (by decide +kernel) (by decide +kernel)) (ae_one (ae_cmpR (op_eqA (hu64 hr)) sim_eqA (ae_var 0) (ae_var 1) (nomark _))))))))))
set_option maxHeartbeats 4000000 in
theorem ok_law (T : Txt K mg) {A__law_box : ASp} (G__law_box : FnOk P w K mg base CX0 k T.f__law_box T.fd__law_box ["script", "first", "last"] (conc K 3 A__law_box)) {A__law_draw : ASp} (G__law_draw : FnOk P w K mg base CX0 k T.f__law_draw T.fd__law_draw ["box", "many"] (conc K 2 A__law_draw)) {A__law_model : ASp} (G__law_model : FnOk P w K mg base CX0 k T.f__law_model T.fd__law_model ["box", "strength", "names"] (conc K 3 A__law_model)) {A__law_any : ASp} (G__law_any : FnOk P w K mg base CX0 k T.f__law_any T.fd__law_any ["box", "room", "many"] (conc K 3 A__law_any)) {A__law_holds : ASp} (G__law_holds : FnOk P w K mg base CX0 k T.f__law_holds T.fd__law_holds ["model", "world", "formula", "strength"] (conc K 4 A__law_holds)) {A__law_same : ASp} (G__law_same : FnOk P w K mg base CX0 k T.f__law_same T.fd__law_same ["actual", "expected"] (conc K 2 A__law_same)) {A_holds : ASp} (G_holds : FnOk P w K mg base CX0 k T.f_holds T.fd_holds ["model", "world", "formula", "strength"] (conc K 4 A_holds)) {A : ASp}
    (hp : ∀ ds M Q Xa, ds.length = 1 → A ds M Q Xa → a_law A__law_box A__law_draw A__law_model A__law_any A__law_holds A__law_same A_holds ax0 ⟨fun _ M => Q .non M, Q, fun _ _ => False, fun _ _ => False⟩ (startA ["script", "box", "k", "strength", "model", "formula", "truths", "world", "due", "further"] ds) M) :
    FnOk P w K mg base CX0 (k + 1) T.f_law T.fd_law ["script"] (conc K 1 A) := by
  refine fn_abs T.F_law sc_law rfl (fun cdv Ar outer s H E hr => ?_) hp
  have hpo : PassesOwn (model P w) (Ar.deeper (PyProof.Rows.envOfC "law" (defScope s_law) s.heap.objs.size T.f_law cdv)) (PyProof.Rows.envOfC "law" (defScope s_law) s.heap.objs.size T.f_law cdv) (fun _ _ => False) := PassesOwn.never
  exact (as_cons (as_set 1 sc_law.nd (ae_call G__law_box hr (by rfl) T.m__law_box T.F__law_box.kp T.b__law_box (aa_cons (ae_var 0) (aa_cons ae_int (aa_cons ae_int aa_nil)))))
    (as_cons (as_for hpo rfl (ai_rng1 (by rfl) T.n_range (aa_cons ae_int aa_nil)) (ag_name 2 sc_law.nd) (as_cons (as_set 3 sc_law.nd (ae_ix (ae_lst (aa_cons ae_str (aa_cons ae_str aa_nil))) (ae_call G__law_draw hr (by rfl) T.m__law_draw T.F__law_draw.kp T.b__law_draw (aa_cons (ae_var 1) (aa_cons ae_int aa_nil))) (fun _ _ => rfl)))
    (as_cons (as_set 4 sc_law.nd (ae_call G__law_model hr (by rfl) T.m__law_model T.F__law_model.kp T.b__law_model (aa_cons (ae_var 1) (aa_cons (ae_var 3) (aa_cons (ae_lst (aa_cons ae_str (aa_cons ae_str aa_nil))) aa_nil)))))
    (as_cons (as_set 5 sc_law.nd (ae_call G__law_any hr (by rfl) T.m__law_any T.F__law_any.kp T.b__law_any (aa_cons (ae_var 1) (aa_cons ae_int (aa_cons ae_int aa_nil)))))
    (as_cons (as_set 6 sc_law.nd (ae_lst aa_nil))
    (as_cons (as_for hpo rfl (ai_rng1 (by rfl) T.n_range (aa_cons (ae_callB call_lenA sim_len (by rfl) T.n_len (by decide +kernel) (aa_cons (ae_ix (ae_var 4) ae_int (fun _ _ => rfl)) aa_nil)) aa_nil)) (ag_name 7 sc_law.nd) (as_cons (as_set 8 sc_law.nd (ae_call G__law_holds hr (by rfl) T.m__law_holds T.F__law_holds.kp T.b__law_holds (aa_cons (ae_var 4) (aa_cons (ae_var 7) (aa_cons (ae_var 5) (aa_cons (ae_var 3) aa_nil))))))
    (as_cons (as_if (at_not (at_truth (ae_call G__law_same hr (by rfl) T.m__law_same T.F__law_same.kp T.b__law_same (aa_cons (ae_call G_holds hr (by rfl) T.m_holds T.F_holds.kp T.b_holds (aa_cons (ae_var 4) (aa_cons (ae_var 7) (aa_cons (ae_var 5) (aa_cons (ae_var 3) aa_nil))))) (aa_cons (ae_var 8) aa_nil))))) (as_one (as_ret ae_bl)) as_nil)
    (as_cons (as_expr (ae_append (ae_var 6) (aa_cons (ae_var 8) aa_nil)))
    (as_one (as_if (at_w (aw_and (at_cmpR (op_eqA (hu64 hr)) sim_eqA (ae_var 3) ae_str (nomark _)) (aw_and (at_cmpR (op_inA (hu65 hr)) sim_in (ae_var 7) (ae_ix (ae_var 4) ae_int (fun _ _ => rfl)) (by rfl)) (aw_and1 (at_cmpR op_notB sim_notB (ae_call G_holds hr (by rfl) T.m_holds T.F_holds.kp T.b_holds (aa_cons (ae_var 4) (aa_cons (ae_var 7) (aa_cons (ae_tup (aa_cons ae_str (aa_cons (ae_var 5) aa_nil))) (aa_cons (ae_var 3) aa_nil))))) ae_bl (nomark _)))))) (as_one (as_ret ae_bl)) as_nil))))))
    (as_one (as_for hpo rfl (ai_rng1 (by rfl) T.n_range (aa_cons (ae_callB call_lenA sim_len (by rfl) T.n_len (by decide +kernel) (aa_cons (ae_ix (ae_var 4) ae_int (fun _ _ => rfl)) aa_nil)) aa_nil)) (ag_name 7 sc_law.nd) (as_one (as_for hpo rfl (ai_tup (ae_ix (ae_ix (ae_var 4) ae_int (fun _ _ => rfl)) (ae_var 7) (fun _ _ => rfl))) (ag_name 9 sc_law.nd) (as_one (as_if (at_w (aw_and (at_truth (ae_ix (ae_var 6) (ae_var 7) (fun _ _ => rfl))) (aw_and1 (at_not (at_truth (ae_ix (ae_var 6) (ae_var 9) (fun _ _ => rfl))))))) (as_one (as_ret ae_bl)) as_nil))))))))))))
    (as_one (as_ret ae_bl))))
end
theorem txt_mk {K : PySem.W.Frag} {h : Heap} {mg : Str → Option Value} (X : K.In h) (G : h.Ns mainGlobals mg)
    {f0 : Addr} {od0 an0 : Option Addr} {sl0 : Array (Option Value)} {oc0 kV0 dc0 pm0 cd0 ct0 : Value}
    (a0 : PySem.W.nsIn K mainGlobals "holds" = some (some (.ref f0))) (l0 : K.lookup f0 = some ⟨oc0, od0, .func (PySem.W.fnOf "holds" "holds" (defArgs s_holds) (defBody s_holds) (defScope s_holds) .none kV0 dc0 pm0 an0 cd0 ct0), sl0⟩) (c0 : PySem.W.codeIn K cd0 "holds" = true) (k0 : PySem.W.keepIn K (.ref f0) = true)
    {f1 : Addr} {od1 an1 : Option Addr} {sl1 : Array (Option Value)} {oc1 kV1 dc1 pm1 cd1 ct1 : Value}
    (a1 : PySem.W.nsIn K mainGlobals "holding" = some (some (.ref f1))) (l1 : K.lookup f1 = some ⟨oc1, od1, .func (PySem.W.fnOf "holding" "holding" (defArgs s_holding) (defBody s_holding) (defScope s_holding) .none kV1 dc1 pm1 an1 cd1 ct1), sl1⟩) (c1 : PySem.W.codeIn K cd1 "holding" = true) (k1 : PySem.W.keepIn K (.ref f1) = true)
    {f2 : Addr} {od2 an2 : Option Addr} {sl2 : Array (Option Value)} {oc2 kV2 dc2 pm2 cd2 ct2 : Value}
    (a2 : PySem.W.nsIn K mainGlobals "_law_cell" = some (some (.ref f2))) (l2 : K.lookup f2 = some ⟨oc2, od2, .func (PySem.W.fnOf "_law_cell" "_law_cell" (defArgs s__law_cell) (defBody s__law_cell) (defScope s__law_cell) .none kV2 dc2 pm2 an2 cd2 ct2), sl2⟩) (c2 : PySem.W.codeIn K cd2 "_law_cell" = true) (k2 : PySem.W.keepIn K (.ref f2) = true)
    {f3 : Addr} {od3 an3 : Option Addr} {sl3 : Array (Option Value)} {oc3 kV3 dc3 pm3 cd3 ct3 : Value}
    (a3 : PySem.W.nsIn K mainGlobals "_law_digits" = some (some (.ref f3))) (l3 : K.lookup f3 = some ⟨oc3, od3, .func (PySem.W.fnOf "_law_digits" "_law_digits" (defArgs s__law_digits) (defBody s__law_digits) (defScope s__law_digits) .none kV3 dc3 pm3 an3 cd3 ct3), sl3⟩) (c3 : PySem.W.codeIn K cd3 "_law_digits" = true) (k3 : PySem.W.keepIn K (.ref f3) = true)
    {f4 : Addr} {od4 an4 : Option Addr} {sl4 : Array (Option Value)} {oc4 kV4 dc4 pm4 cd4 ct4 : Value}
    (a4 : PySem.W.nsIn K mainGlobals "_law_box" = some (some (.ref f4))) (l4 : K.lookup f4 = some ⟨oc4, od4, .func (PySem.W.fnOf "_law_box" "_law_box" (defArgs s__law_box) (defBody s__law_box) (defScope s__law_box) .none kV4 dc4 pm4 an4 cd4 ct4), sl4⟩) (c4 : PySem.W.codeIn K cd4 "_law_box" = true) (k4 : PySem.W.keepIn K (.ref f4) = true)
    {f5 : Addr} {od5 an5 : Option Addr} {sl5 : Array (Option Value)} {oc5 kV5 dc5 pm5 cd5 ct5 : Value}
    (a5 : PySem.W.nsIn K mainGlobals "_law_draw" = some (some (.ref f5))) (l5 : K.lookup f5 = some ⟨oc5, od5, .func (PySem.W.fnOf "_law_draw" "_law_draw" (defArgs s__law_draw) (defBody s__law_draw) (defScope s__law_draw) .none kV5 dc5 pm5 an5 cd5 ct5), sl5⟩) (c5 : PySem.W.codeIn K cd5 "_law_draw" = true) (k5 : PySem.W.keepIn K (.ref f5) = true)
    {f6 : Addr} {od6 an6 : Option Addr} {sl6 : Array (Option Value)} {oc6 kV6 dc6 pm6 cd6 ct6 : Value}
    (a6 : PySem.W.nsIn K mainGlobals "_law_model" = some (some (.ref f6))) (l6 : K.lookup f6 = some ⟨oc6, od6, .func (PySem.W.fnOf "_law_model" "_law_model" (defArgs s__law_model) (defBody s__law_model) (defScope s__law_model) .none kV6 dc6 pm6 an6 cd6 ct6), sl6⟩) (c6 : PySem.W.codeIn K cd6 "_law_model" = true) (k6 : PySem.W.keepIn K (.ref f6) = true)
    {f7 : Addr} {od7 an7 : Option Addr} {sl7 : Array (Option Value)} {oc7 kV7 dc7 pm7 cd7 ct7 : Value}
    (a7 : PySem.W.nsIn K mainGlobals "_law_any" = some (some (.ref f7))) (l7 : K.lookup f7 = some ⟨oc7, od7, .func (PySem.W.fnOf "_law_any" "_law_any" (defArgs s__law_any) (defBody s__law_any) (defScope s__law_any) .none kV7 dc7 pm7 an7 cd7 ct7), sl7⟩) (c7 : PySem.W.codeIn K cd7 "_law_any" = true) (k7 : PySem.W.keepIn K (.ref f7) = true)
    {f8 : Addr} {od8 an8 : Option Addr} {sl8 : Array (Option Value)} {oc8 kV8 dc8 pm8 cd8 ct8 : Value}
    (a8 : PySem.W.nsIn K mainGlobals "_law_holds" = some (some (.ref f8))) (l8 : K.lookup f8 = some ⟨oc8, od8, .func (PySem.W.fnOf "_law_holds" "_law_holds" (defArgs s__law_holds) (defBody s__law_holds) (defScope s__law_holds) .none kV8 dc8 pm8 an8 cd8 ct8), sl8⟩) (c8 : PySem.W.codeIn K cd8 "_law_holds" = true) (k8 : PySem.W.keepIn K (.ref f8) = true)
    {f9 : Addr} {od9 an9 : Option Addr} {sl9 : Array (Option Value)} {oc9 kV9 dc9 pm9 cd9 ct9 : Value}
    (a9 : PySem.W.nsIn K mainGlobals "_law_same" = some (some (.ref f9))) (l9 : K.lookup f9 = some ⟨oc9, od9, .func (PySem.W.fnOf "_law_same" "_law_same" (defArgs s__law_same) (defBody s__law_same) (defScope s__law_same) .none kV9 dc9 pm9 an9 cd9 ct9), sl9⟩) (c9 : PySem.W.codeIn K cd9 "_law_same" = true) (k9 : PySem.W.keepIn K (.ref f9) = true)
    {f10 : Addr} {od10 an10 : Option Addr} {sl10 : Array (Option Value)} {oc10 kV10 dc10 pm10 cd10 ct10 : Value}
    (a10 : PySem.W.nsIn K mainGlobals "law" = some (some (.ref f10))) (l10 : K.lookup f10 = some ⟨oc10, od10, .func (PySem.W.fnOf "law" "law" (defArgs s_law) (defBody s_law) (defScope s_law) .none kV10 dc10 pm10 an10 cd10 ct10), sl10⟩) (c10 : PySem.W.codeIn K cd10 "law" = true) (k10 : PySem.W.keepIn K (.ref f10) = true)
    (z0 : PySem.W.nsIn K mainGlobals "zip" = some none)
    (z1 : PySem.W.nsIn K mainGlobals "len" = some none)
    (z2 : PySem.W.nsIn K mainGlobals "range" = some none)
    (z3 : PySem.W.nsIn K mainGlobals "any" = some none)
    (z4 : PySem.W.nsIn K mainGlobals "int" = some none)
    (z5 : PySem.W.nsIn K mainGlobals "list" = some none)
    (z6 : PySem.W.nsIn K mainGlobals "sorted" = some none)
    (z7 : PySem.W.nsIn K mainGlobals "set" = some none)
    (z8 : PySem.W.nsIn K mainGlobals "tuple" = some none)
    (z9 : PySem.W.nsIn K mainGlobals "isinstance" = some none)
    (z10 : PySem.W.nsIn K mainGlobals "bool" = some none)
    (z11 : PySem.W.nsIn K mainGlobals "str" = some none)
    : ∃ T : Txt K mg, T.f_law = f10 ∧ ∀ (s : Shared) (v : Value), BindsTo s T.fd_law ⟨[v], []⟩ [("script", v)] := by
  have F0 := fun_mk (st := s_holds) l0 c0 k0
  have b0 := F0.binds (ps := ["model", "world", "formula", "strength"]) fun _ _ _ _ _ _ us hl => match us, hl with | [_, _, _, _], _ => rfl
  have F1 := fun_mk (st := s_holding) l1 c1 k1
  have b1 := F1.binds (ps := ["model", "formula", "strength"]) fun _ _ _ _ _ _ us hl => match us, hl with | [_, _, _], _ => rfl
  have F2 := fun_mk (st := s__law_cell) l2 c2 k2
  have b2 := F2.binds (ps := ["script", "k"]) fun _ _ _ _ _ _ us hl => match us, hl with | [_, _], _ => rfl
  have F3 := fun_mk (st := s__law_digits) l3 c3 k3
  have b3 := F3.binds (ps := ["script", "first", "last"]) fun _ _ _ _ _ _ us hl => match us, hl with | [_, _, _], _ => rfl
  have F4 := fun_mk (st := s__law_box) l4 c4 k4
  have b4 := F4.binds (ps := ["script", "first", "last"]) fun _ _ _ _ _ _ us hl => match us, hl with | [_, _, _], _ => rfl
  have F5 := fun_mk (st := s__law_draw) l5 c5 k5
  have b5 := F5.binds (ps := ["box", "many"]) fun _ _ _ _ _ _ us hl => match us, hl with | [_, _], _ => rfl
  have F6 := fun_mk (st := s__law_model) l6 c6 k6
  have b6 := F6.binds (ps := ["box", "strength", "names"]) fun _ _ _ _ _ _ us hl => match us, hl with | [_, _, _], _ => rfl
  have F7 := fun_mk (st := s__law_any) l7 c7 k7
  have b7 := F7.binds (ps := ["box", "room", "many"]) fun _ _ _ _ _ _ us hl => match us, hl with | [_, _, _], _ => rfl
  have F8 := fun_mk (st := s__law_holds) l8 c8 k8
  have b8 := F8.binds (ps := ["model", "world", "formula", "strength"]) fun _ _ _ _ _ _ us hl => match us, hl with | [_, _, _, _], _ => rfl
  have F9 := fun_mk (st := s__law_same) l9 c9 k9
  have b9 := F9.binds (ps := ["actual", "expected"]) fun _ _ _ _ _ _ us hl => match us, hl with | [_, _], _ => rfl
  have F10 := fun_mk (st := s_law) l10 c10 k10
  have b10 := F10.binds (ps := ["script"]) fun _ _ _ _ _ _ us hl => match us, hl with | [_], _ => rfl
  exact ⟨⟨f0, _, F0, PySem.W.mg_of X G a0, b0, f1, _, F1, PySem.W.mg_of X G a1, b1, f2, _, F2, PySem.W.mg_of X G a2, b2, f3, _, F3, PySem.W.mg_of X G a3, b3, f4, _, F4, PySem.W.mg_of X G a4, b4, f5, _, F5, PySem.W.mg_of X G a5, b5, f6, _, F6, PySem.W.mg_of X G a6, b6, f7, _, F7, PySem.W.mg_of X G a7, b7, f8, _, F8, PySem.W.mg_of X G a8, b8, f9, _, F9, PySem.W.mg_of X G a9, b9, f10, _, F10, PySem.W.mg_of X G a10, b10, PySem.W.mg_none_of X G z0, PySem.W.mg_none_of X G z1, PySem.W.mg_none_of X G z2, PySem.W.mg_none_of X G z3, PySem.W.mg_none_of X G z4, PySem.W.mg_none_of X G z5, PySem.W.mg_none_of X G z6, PySem.W.mg_none_of X G z7, PySem.W.mg_none_of X G z8, PySem.W.mg_none_of X G z9, PySem.W.mg_none_of X G z10, PySem.W.mg_none_of X G z11⟩, rfl, fun s v => .of_eq rfl⟩
/- cases: ?a0 ?l0 ?c0 ?k0 ?a1 ?l1 ?c1 ?k1 ?a2 ?l2 ?c2 ?k2 ?a3 ?l3 ?c3 ?k3 ?a4 ?l4 ?c4 ?k4 ?a5 ?l5 ?c5 ?k5 ?a6 ?l6 ?c6 ?k6 ?a7 ?l7 ?c7 ?k7 ?a8 ?l8 ?c8 ?k8 ?a9 ?l9 ?c9 ?k9 ?a10 ?l10 ?c10 ?k10 ?z0 ?z1 ?z2 ?z3 ?z4 ?z5 ?z6 ?z7 ?z8 ?z9 ?z10 ?z11 -/

section
variable {P : Program} {w : World} {K : PySem.W.Frag} {mg : Str → Option Value} {base : Heap}
theorem lev_draw (T : Txt K mg) : FnOk P w K mg base CX0 1 T.f__law_draw T.fd__law_draw ["box", "many"] (conc K 2 A_draw) := ok__law_draw T p__law_draw
theorem lev_any (T : Txt K mg) : ∀ L, FnOk P w K mg base CX0 (L + 1) T.f__law_any T.fd__law_any ["box", "room", "many"] (conc K 3 (A_any L))
  | 0 => fn_none fun ds M Q Xa h => by
    obtain ⟨b, d, room, many, _, _, h1, h2, _⟩ := h
    omega
  | L + 1 => ok__law_any T ((lev_draw T).mono (by omega)) (lev_any T L) (p__law_any L)
theorem lev_same (T : Txt K mg) : ∀ L, FnOk P w K mg base CX0 (L + 1) T.f__law_same T.fd__law_same ["actual", "expected"] (conc K 2 (A_same L))
  | 0 => fn_none fun ds M Q Xa h => by
    obtain ⟨x, _, _, h1, _⟩ := h
    exact absurd h1 (Nat.not_lt_zero _)
  | L + 1 => ok__law_same T (lev_same T L) (p__law_same L)
theorem lev_box (T : Txt K mg) : FnOk P w K mg base CX0 3 T.f__law_box T.fd__law_box ["script", "first", "last"] (conc K 3 A_box) := ok__law_box T (ok__law_digits T (ok__law_cell T p__law_cell) p__law_digits) p__law_box
end

section
variable {P : Program} {w : World} {K : PySem.W.Frag} {mg : Str → Option Value} {base : Heap}
theorem lev_model (T : Txt K mg) : FnOk P w K mg base CX0 2 T.f__law_model T.fd__law_model ["box", "strength", "names"] (conc K 3 A_model) := ok__law_model T (lev_draw T) p__law_model
theorem lev_lholds (T : Txt K mg) : ∀ L, FnOk P w K mg base CX0 (L + 1) T.f__law_holds T.fd__law_holds ["model", "world", "formula", "strength"] (conc K 4 (A_lholds L))
  | 0 => fn_none fun ds M Q Xa h => by
    obtain ⟨m, wd, f, pos, _, h1, _⟩ := h
    have z := f.sz_pos
    omega
  | L + 1 => ok__law_holds T (lev_lholds T L) (p__law_holds L)
theorem lev_holding (T : Txt K mg) : ∀ L, FnOk P w K mg base CX0 (L + 1) T.f_holding T.fd_holding ["model", "formula", "strength"] (conc K 3 (A_holding L))
  | 0 => fn_none fun ds M Q Xa h => by
    obtain ⟨m, f, pos, _, h1, _⟩ := h
    have z := f.sz_pos
    omega
  | L + 1 => ok_holding T (lev_holding T L) (p_holding L)
theorem lev_holds (T : Txt K mg) (L : Nat) : FnOk P w K mg base CX0 (L + 2) T.f_holds T.fd_holds ["model", "world", "formula", "strength"] (conc K 4 (A_holds L)) := ok_holds T (lev_holding T L) (p_holds L)
theorem lev_law (T : Txt K mg) : FnOk P w K mg base CX0 202 T.f_law T.fd_law ["script"] (conc K 1 A_law) :=
  ok_law T ((lev_box T).mono (by omega)) ((lev_draw T).mono (by omega)) ((lev_model T).mono (by omega)) ((lev_any T 10).mono (by omega)) ((lev_lholds T 30).mono (by omega)) (lev_same T 200) ((lev_holds T 30).mono (by omega)) p_law
end

theorem all_mk {l : PySem.W.OpenLaw} {w : World} {fa : Addr} {K : PySem.W.Frag} {h : Heap} {mg : Str → Option Value} (X : K.In h) (G : h.Ns mainGlobals mg) (hfa : mg "law" = some (.ref fa))
    {f0 : Addr} {od0 an0 : Option Addr} {sl0 : Array (Option Value)} {oc0 kV0 dc0 pm0 cd0 ct0 : Value}
    (a0 : PySem.W.nsIn K mainGlobals "holds" = some (some (.ref f0))) (l0 : K.lookup f0 = some ⟨oc0, od0, .func (PySem.W.fnOf "holds" "holds" (defArgs s_holds) (defBody s_holds) (defScope s_holds) .none kV0 dc0 pm0 an0 cd0 ct0), sl0⟩) (c0 : PySem.W.codeIn K cd0 "holds" = true) (k0 : PySem.W.keepIn K (.ref f0) = true)
    {f1 : Addr} {od1 an1 : Option Addr} {sl1 : Array (Option Value)} {oc1 kV1 dc1 pm1 cd1 ct1 : Value}
    (a1 : PySem.W.nsIn K mainGlobals "holding" = some (some (.ref f1))) (l1 : K.lookup f1 = some ⟨oc1, od1, .func (PySem.W.fnOf "holding" "holding" (defArgs s_holding) (defBody s_holding) (defScope s_holding) .none kV1 dc1 pm1 an1 cd1 ct1), sl1⟩) (c1 : PySem.W.codeIn K cd1 "holding" = true) (k1 : PySem.W.keepIn K (.ref f1) = true)
    {f2 : Addr} {od2 an2 : Option Addr} {sl2 : Array (Option Value)} {oc2 kV2 dc2 pm2 cd2 ct2 : Value}
    (a2 : PySem.W.nsIn K mainGlobals "_law_cell" = some (some (.ref f2))) (l2 : K.lookup f2 = some ⟨oc2, od2, .func (PySem.W.fnOf "_law_cell" "_law_cell" (defArgs s__law_cell) (defBody s__law_cell) (defScope s__law_cell) .none kV2 dc2 pm2 an2 cd2 ct2), sl2⟩) (c2 : PySem.W.codeIn K cd2 "_law_cell" = true) (k2 : PySem.W.keepIn K (.ref f2) = true)
    {f3 : Addr} {od3 an3 : Option Addr} {sl3 : Array (Option Value)} {oc3 kV3 dc3 pm3 cd3 ct3 : Value}
    (a3 : PySem.W.nsIn K mainGlobals "_law_digits" = some (some (.ref f3))) (l3 : K.lookup f3 = some ⟨oc3, od3, .func (PySem.W.fnOf "_law_digits" "_law_digits" (defArgs s__law_digits) (defBody s__law_digits) (defScope s__law_digits) .none kV3 dc3 pm3 an3 cd3 ct3), sl3⟩) (c3 : PySem.W.codeIn K cd3 "_law_digits" = true) (k3 : PySem.W.keepIn K (.ref f3) = true)
    {f4 : Addr} {od4 an4 : Option Addr} {sl4 : Array (Option Value)} {oc4 kV4 dc4 pm4 cd4 ct4 : Value}
    (a4 : PySem.W.nsIn K mainGlobals "_law_box" = some (some (.ref f4))) (l4 : K.lookup f4 = some ⟨oc4, od4, .func (PySem.W.fnOf "_law_box" "_law_box" (defArgs s__law_box) (defBody s__law_box) (defScope s__law_box) .none kV4 dc4 pm4 an4 cd4 ct4), sl4⟩) (c4 : PySem.W.codeIn K cd4 "_law_box" = true) (k4 : PySem.W.keepIn K (.ref f4) = true)
    {f5 : Addr} {od5 an5 : Option Addr} {sl5 : Array (Option Value)} {oc5 kV5 dc5 pm5 cd5 ct5 : Value}
    (a5 : PySem.W.nsIn K mainGlobals "_law_draw" = some (some (.ref f5))) (l5 : K.lookup f5 = some ⟨oc5, od5, .func (PySem.W.fnOf "_law_draw" "_law_draw" (defArgs s__law_draw) (defBody s__law_draw) (defScope s__law_draw) .none kV5 dc5 pm5 an5 cd5 ct5), sl5⟩) (c5 : PySem.W.codeIn K cd5 "_law_draw" = true) (k5 : PySem.W.keepIn K (.ref f5) = true)
    {f6 : Addr} {od6 an6 : Option Addr} {sl6 : Array (Option Value)} {oc6 kV6 dc6 pm6 cd6 ct6 : Value}
    (a6 : PySem.W.nsIn K mainGlobals "_law_model" = some (some (.ref f6))) (l6 : K.lookup f6 = some ⟨oc6, od6, .func (PySem.W.fnOf "_law_model" "_law_model" (defArgs s__law_model) (defBody s__law_model) (defScope s__law_model) .none kV6 dc6 pm6 an6 cd6 ct6), sl6⟩) (c6 : PySem.W.codeIn K cd6 "_law_model" = true) (k6 : PySem.W.keepIn K (.ref f6) = true)
    {f7 : Addr} {od7 an7 : Option Addr} {sl7 : Array (Option Value)} {oc7 kV7 dc7 pm7 cd7 ct7 : Value}
    (a7 : PySem.W.nsIn K mainGlobals "_law_any" = some (some (.ref f7))) (l7 : K.lookup f7 = some ⟨oc7, od7, .func (PySem.W.fnOf "_law_any" "_law_any" (defArgs s__law_any) (defBody s__law_any) (defScope s__law_any) .none kV7 dc7 pm7 an7 cd7 ct7), sl7⟩) (c7 : PySem.W.codeIn K cd7 "_law_any" = true) (k7 : PySem.W.keepIn K (.ref f7) = true)
    {f8 : Addr} {od8 an8 : Option Addr} {sl8 : Array (Option Value)} {oc8 kV8 dc8 pm8 cd8 ct8 : Value}
    (a8 : PySem.W.nsIn K mainGlobals "_law_holds" = some (some (.ref f8))) (l8 : K.lookup f8 = some ⟨oc8, od8, .func (PySem.W.fnOf "_law_holds" "_law_holds" (defArgs s__law_holds) (defBody s__law_holds) (defScope s__law_holds) .none kV8 dc8 pm8 an8 cd8 ct8), sl8⟩) (c8 : PySem.W.codeIn K cd8 "_law_holds" = true) (k8 : PySem.W.keepIn K (.ref f8) = true)
    {f9 : Addr} {od9 an9 : Option Addr} {sl9 : Array (Option Value)} {oc9 kV9 dc9 pm9 cd9 ct9 : Value}
    (a9 : PySem.W.nsIn K mainGlobals "_law_same" = some (some (.ref f9))) (l9 : K.lookup f9 = some ⟨oc9, od9, .func (PySem.W.fnOf "_law_same" "_law_same" (defArgs s__law_same) (defBody s__law_same) (defScope s__law_same) .none kV9 dc9 pm9 an9 cd9 ct9), sl9⟩) (c9 : PySem.W.codeIn K cd9 "_law_same" = true) (k9 : PySem.W.keepIn K (.ref f9) = true)
    {f10 : Addr} {od10 an10 : Option Addr} {sl10 : Array (Option Value)} {oc10 kV10 dc10 pm10 cd10 ct10 : Value}
    (a10 : PySem.W.nsIn K mainGlobals "law" = some (some (.ref f10))) (l10 : K.lookup f10 = some ⟨oc10, od10, .func (PySem.W.fnOf "law" "law" (defArgs s_law) (defBody s_law) (defScope s_law) .none kV10 dc10 pm10 an10 cd10 ct10), sl10⟩) (c10 : PySem.W.codeIn K cd10 "law" = true) (k10 : PySem.W.keepIn K (.ref f10) = true)
    (z0 : PySem.W.nsIn K mainGlobals "zip" = some none)
    (z1 : PySem.W.nsIn K mainGlobals "len" = some none)
    (z2 : PySem.W.nsIn K mainGlobals "range" = some none)
    (z3 : PySem.W.nsIn K mainGlobals "any" = some none)
    (z4 : PySem.W.nsIn K mainGlobals "int" = some none)
    (z5 : PySem.W.nsIn K mainGlobals "list" = some none)
    (z6 : PySem.W.nsIn K mainGlobals "sorted" = some none)
    (z7 : PySem.W.nsIn K mainGlobals "set" = some none)
    (z8 : PySem.W.nsIn K mainGlobals "tuple" = some none)
    (z9 : PySem.W.nsIn K mainGlobals "isinstance" = some none)
    (z10 : PySem.W.nsIn K mainGlobals "bool" = some none)
    (z11 : PySem.W.nsIn K mainGlobals "str" = some none)
    : ∃ fd : FuncData, (∀ (s : Shared) (v : Value), BindsTo s fd ⟨[v], []⟩ [("script", v)]) ∧ ∀ base : Heap, K.In base → base.Ns mainGlobals mg → FnOk l.prog w K mg base CX0 202 fa fd ["script"] (conc K 1 A_law) := by
  obtain ⟨T, eT, bT⟩ := txt_mk X G a0 l0 c0 k0 a1 l1 c1 k1 a2 l2 c2 k2 a3 l3 c3 k3 a4 l4 c4 k4 a5 l5 c5 k5 a6 l6 c6 k6 a7 l7 c7 k7 a8 l8 c8 k8 a9 l9 c9 k9 a10 l10 c10 k10 z0 z1 z2 z3 z4 z5 z6 z7 z8 z9 z10 z11
  cases hfa.symm.trans T.m_law
  exact ⟨T.fd_law, bT, fun base _ _ => lev_law T⟩
end AL
open PySem PySem.W PyProof.Rows
set_option maxHeartbeats 0 in
theorem PySem.Challenge.cw_conceptscript_k51_what_holds_in_worlds_holds : PySem.Challenge.rw_conceptscript_k51_what_holds_in_worlds.Holds := by
  w_on; o_law; k_head; (case hw => w_witness2)
  k_fill
  refine L2.walk_of (l := PySem.Challenge.rw_conceptscript_k51_what_holds_in_worlds) (n := 63) (k := 202) (x := "script") (CX := fun _ => L2.CX0) (sp := fun w => AL.conc _ 1 AL.A_law) rfl (by decide) rfl ⟨rfl, by decide, by decide⟩ (fun w h Y => PySem.W.kIn_of Y) ?F (fun _ _ a ns hl ho hS => AL.law_start ho hS fun Q q => ⟨ns, rfl, q⟩) (fun _ _ _ _ _ h => h)
  case F =>
    intro w mg fa h KX G hmg
    refine' AL.all_mk KX G hmg ?a0 ?l0 ?c0 ?k0 ?a1 ?l1 ?c1 ?k1 ?a2 ?l2 ?c2 ?k2 ?a3 ?l3 ?c3 ?k3 ?a4 ?l4 ?c4 ?k4 ?a5 ?l5 ?c5 ?k5 ?a6 ?l6 ?c6 ?k6 ?a7 ?l7 ?c7 ?k7 ?a8 ?l8 ?c8 ?k8 ?a9 ?l9 ?c9 ?k9 ?a10 ?l10 ?c10 ?k10 ?z0 ?z1 ?z2 ?z3 ?z4 ?z5 ?z6 ?z7 ?z8 ?z9 ?z10 ?z11
    (case a0 => k_is)
    (case l0 => k_is)
    (case c0 => k_is)
    (case k0 => k_is)
    (case a1 => k_is)
    (case l1 => k_is)
    (case c1 => k_is)
    (case k1 => k_is)
    (case a2 => k_is)
    (case l2 => k_is)
    (case c2 => k_is)
    (case k2 => k_is)
    (case a3 => k_is)
    (case l3 => k_is)
    (case c3 => k_is)
    (case k3 => k_is)
    (case a4 => k_is)
    (case l4 => k_is)
    (case c4 => k_is)
    (case k4 => k_is)
    (case a5 => k_is)
    (case l5 => k_is)
    (case c5 => k_is)
    (case k5 => k_is)
    (case a6 => k_is)
    (case l6 => k_is)
    (case c6 => k_is)
    (case k6 => k_is)
    (case a7 => k_is)
    (case l7 => k_is)
    (case c7 => k_is)
    (case k7 => k_is)
    (case a8 => k_is)
    (case l8 => k_is)
    (case c8 => k_is)
    (case k8 => k_is)
    (case a9 => k_is)
    (case l9 => k_is)
    (case c9 => k_is)
    (case k9 => k_is)
    (case a10 => k_is)
    (case l10 => k_is)
    (case c10 => k_is)
    (case k10 => k_is)
    (case z0 => k_is)
    (case z1 => k_is)
    (case z2 => k_is)
    (case z3 => k_is)
    (case z4 => k_is)
    (case z5 => k_is)
    (case z6 => k_is)
    (case z7 => k_is)
    (case z8 => k_is)
    (case z9 => k_is)
    (case z10 => k_is)
    (case z11 => k_is)
