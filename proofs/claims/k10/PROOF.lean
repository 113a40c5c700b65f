import PyProof.Rows.All
import Wide.All
import OpenK.AllK
import Wide.FinOn
import HandS.ForMost
import HandS.Iter
import HandS.Zip0
import HandS.Zip
import PyProof.Draws
import PyProof.StrOps2
import PyProof.ReprRoads
import PyProof.ReprLen
import PyProof.AutoSeq1
import HandS.FStrTup
import PyProof.StrLawsRepr
import HandS.IsInst
import HandS.TupAny
import HandS.SortInts
import HandS.SetFor
import PyProof.Rows.DictTally
import HandS.FStr
import HandS.WordsDict
import HandS.SetBool
import KE.KDictSum
import PyProof.TupleOfGen
import HandS.Style
import HandS.Flow
import HandS.Exc
import HandS.WordsExc
import HandS.Deep
import HandS.AnyAll
import HandS.Comp
import HandS.GenOver
import HandS.GenBody
import HandS.EndTab
import KE.KNestM
import HandS.SetKeys
import HandS.Set
import HandS.Strs
import HandS.List
import HandS.More
import PyProof.Rows.SortShellAny
import PyProof.Rows.SortStr
import HandS.SortRule
import HandS.DictTup
import HandS.Rev
import HandS.RevRange
import PySem.Challenge.RW_conceptscript_k10_formulas_are_drawn
set_option Elab.async false
set_option linter.all false
set_option maxRecDepth 100000

namespace AS
open PySem PySem.Spec PyProof.Rows L2
def tx (e : Int × Value) : Str := match e.2 with
  | .str k _ => k
  | _ => Str.empty
def IsTx (w : World) (e : Int × Value) : Prop := ∃ u, e = (hashStr w (tx e), .str (tx e) u)
structure Tab (w : World) (es : Array (Int × Value)) (t : SetTable) (ks : List Str) : Prop where
  all : ∀ e ∈ es.toList, IsTx w e
  mem : (es.toList.map tx).Perm ks
  nd : ks.Nodup
  few : es.size < scanBound
  fit : t.fits es.size = true
  ris : Ris t.place.toList
  led : w.params.followText "set-order" = true ∨ t.led = true
def SetS (w : World) (h : Heap) (a : Addr) (ks : List Str) : Prop := ∃ o es ep t, h.get? a = some o ∧ o.ExactSet ∧ o.data = .set es ep t ∧ Tab w es t ks
section
variable {P : Program} {w : World} {h h' : Heap} {a : Addr} {ks : List Str} {es : Array (Int × Value)} {t : SetTable}
theorem SetS.keep (R : SetS w h a ks) (k : ∀ o, h.get? a = some o → h'.get? a = some o) : SetS w h' a ks := by
  obtain ⟨o, es, ep, t, ho, z⟩ := R
  exact ⟨o, es, ep, t, k o ho, z⟩
theorem Tab.size (T : Tab w es t ks) : es.size = ks.length := by
  have z := T.mem.length_eq
  rw [List.length_map, Array.length_toList] at z
  exact z
end
section
variable {P : Program} {w : World} {A : Around} {E : Value → Shared → Prop} {s : Shared} {a : Addr} {ks : List Str}
end
section
variable {P : Program} {w : World} {A : Around} {R : Result → Shared → Prop} {I : Addr} {fp wr : List Addr} {G : Array GenState → Array GenState → Prop} {n : Nat} {Pv : Nat → Value → Prop} {St : Nat → Shared → Prop}
structure Met (xs : List Str) (i : Nat) (ks : List Str) : Prop where
  sub : ∀ k ∈ ks, k ∈ xs
  has : ∀ k ∈ xs.take i, k ∈ ks
  len : ks.length ≤ i
theorem Met.step {xs ks : List Str} {i : Nat} {k : Str} (m : Met xs i ks) (hk : xs[i]? = some k) : Met xs (i + 1) (if k ∈ ks then ks else k :: ks) := by
  have tk : ∀ y, y ∈ xs.take (i + 1) → y ∈ xs.take i ∨ y = k := fun y hy => by
    rw [List.take_add_one, hk] at hy
    rcases List.mem_append.mp hy with z | z
    · exact .inl z
    · exact .inr (List.mem_singleton.mp z)
  by_cases c : k ∈ ks
  · rw [if_pos c]
    refine ⟨m.sub, fun y hy => ?_, Nat.le_succ_of_le m.len⟩
    rcases tk y hy with z | z
    · exact m.has y z
    · rw [z]; exact c
  · rw [if_neg c]
    refine ⟨fun y hy => ?_, fun y hy => ?_, Nat.succ_le_succ m.len⟩
    · rcases List.mem_cons.mp hy with z | z
      · rw [z]; exact List.mem_of_getElem? hk
      · exact m.sub y z
    · rcases tk y hy with z | z
      · exact List.mem_cons_of_mem _ (m.has y z)
      · rw [z]; exact List.mem_cons_self
end
section
variable {P : Program} {w : World} {A : Around} {E : Value → Shared → Prop} {s : Shared}
def bare (w : World) : Obj := { cls := .type "set", dict := none, data := .set #[] 0 (.fresh 0 0 (!w.params.followText "set-order")) }
theorem made (v : Value) {q : Value → Shared → Prop} (h : q (.ref s.heap.objs.size) { s with heap := s.heap.push (bare w) }) : codeAny (model P w) A (.call (.builtin "set.__new__") ⟨[.type "set", v], []⟩) (wants q E) s := by
  refine codeAny_of_tree ?_
  refine wpAny_bind (wpAny_of_eq (F.newCall_set_1 v) (wpAny_pure ⟨plainId_quiet F.plain_set_new _, codeAny_builtin F.entry_set_new ?_⟩))
  rw [Around.under_plainId F.plain_set_new _]
  have hsub := sub_set_self
  unfold Builtin.«set.__new__» Builtin.Frozenset.newClass
  revert h
  obtain ⟨hp, g, d, tk, os⟩ := s
  intro h
  dsimp only
  wp_walk
  refine wpAny_askSetting (wpAny_pure ?_)
  dsimp only
  simp only [newObj]
  exact wpAny_bind (wpAny_alloc (wpAny_pure (wpAny_pure h)))
end
end AS

namespace AS
open PySem PySem.Spec PyProof.Rows L2
section
variable {P : Program} {w : World} {A : Around} {E : Value → Shared → Prop} {s : Shared} {a : Addr} {ks : List Str}
end
end AS
namespace L2
open PySem PySem.Spec PyProof.Rows
def SetTx (w : World) (a : Addr) (ks : List Str) : HO := .ext fun h => AS.SetS w h a ks
section
variable {X : Cx}
end
end L2

namespace AS
open PySem PySem.Spec PyProof.Rows L2
section
variable {P : Program} {w : World} {A : Around} {E : Value → Shared → Prop} {s : Shared} {a : Addr} {ks : List Str}
end
end AS
namespace L2
open PySem PySem.Spec PyProof.Rows
section
variable {X : Cx} {o e : Expr} {es : List Expr} {to : TE} {t : TA} {apos cpos : Pos}
end
end L2

namespace L2
open PySem PySem.Spec PyProof.Rows
section
variable {X : Cx}
end
end L2

namespace L2
open PySem PySem.Spec PyProof.Rows
section
variable {prog : Program} {w : World} {A : Around} {E : Value → Shared → Prop} {s : Shared} {r d : Addr} {n : Nat} {P : Nat → Value → Prop} {OK : Heap → Prop}
end
section
variable {X : Cx} {e : Expr} {te : TE} {p apos cpos pos : Pos}
end
end L2

set_option maxHeartbeats 2000000
namespace L2
open PySem PySem.Spec PyProof.Rows PpSet
abbrev bareSet (w : World) : Obj := { cls := .type "set", dict := none, data := .set #[] 0 (.fresh 0 0 (!w.params.followText "set-order")) }
structure Members (P : Program) (w : World) (Z : Type) where
  ob : Addr → Z → HO
  nil : Z
  pick : V → Z → Option Z
  born : ∀ (H : Hp) (h : Heap), ObjOk P w H (h.push (bareSet w)) h.objs.size (ob h.objs.size nil)
  more : ∀ (Y : Cx), Y.prog = P → Y.w = w → ∀ (pins : List (Addr × Obj)) (sh : Shared) (τ : St) (H : Hp) (ER : Value → Shared → Prop) (D : Addr) (z z' : Z) (y : V) (v : Value) (R : Value → Shared → Prop), Inv Y pins τ H sh → H D = some (ob D z) → pick y z = some z' → RelV y v →
    (∀ sh', Inv Y pins τ (upd H D (ob D z')) sh' → R .none sh') → wpAny (model Y.prog Y.w) Y.A (call (.builtin "set.add") [.ref D, v]) R ER sh
section
variable {X : Cx} {Z : Type}
variable {elt tg iter : Expr} {ifs : List Expr} {scope : Scope} {own : List (PySem.Str × Nat)} {pos : Pos} {wi : TI} {g : TG} {tt : TT} {te : TE}
end
end L2

namespace AS
open PySem PySem.Spec PyProof.Rows L2
section
variable {P : Program} {w : World} {A : Around} {E : Value → Shared → Prop} {s : Shared}
end
end AS
namespace L2
open PySem PySem.Spec PyProof.Rows
end L2

set_option maxHeartbeats 2000000
namespace HT
open PySem PySem.Spec PyProof.Rows
section
variable {prog : Program} {w : World} {A : Around} {E : Value → Shared → Prop} {s : Shared}
end
end HT
namespace L2
open PySem PySem.Spec PyProof.Rows
end L2

set_option maxHeartbeats 2000000
namespace SR
open PySem PySem.Spec PyProof.Rows PySem.W
def lexS : List Str → List Str → Bool
  | [], [] => false
  | [], _ :: _ => true
  | _ :: _, [] => false
  | x :: xs, y :: ys => if x = y then lexS xs ys else decide (x.cps.toList < y.cps.toList)
section
open PySem.SeqAt
open PySem.AutoSeq1 (wpAny_loadPart')
open PySem.MeetsSeq PySem.MeetsSeq2 PySem.MeetsSeq3
end
section
variable {prog : Program} {w : World} {A : Around} {E : Value → Shared → Prop} {s : Shared}
def IsRow (h : Heap) (v : Value) (ys : List Str) : Prop := ∃ (a : Addr) (items : Array Value), v = .ref a ∧ IsTup h a items ∧ StrsAre items.toList ys
theorem IsRow.keeps {h h' : Heap} {v : Value} {ys : List Str} (x : IsRow h v ys) (k : ∀ b o, h.get? b = some o → o.cls = .type "tuple" → h'.get? b = some o) : IsRow h' v ys := by
  obtain ⟨a, items, e, ⟨o, ho, hc, r⟩, hs⟩ := x
  exact ⟨a, items, e, ⟨o, k _ _ ho hc, hc, r⟩, hs⟩
def txOf : Value → Str
  | .str x _ => x
  | _ => ⟨#[]⟩
def rowAt (h : Heap) (v : Value) : List Str := match v with
  | .ref a => (match h.get? a with
    | some o => (match o.data with
      | .seq xs _ => xs.toList.map txOf
      | _ => [])
    | none => [])
  | _ => []
theorem strs_tx {vs : List Value} {ys : List Str} (h : StrsAre vs ys) : vs.map txOf = ys := by
  induction h with
  | nil => rfl
  | cons y t _ ih => rw [List.map_cons, ih]; rfl
theorem IsRow.at {h : Heap} {v : Value} {ys : List Str} (x : IsRow h v ys) : rowAt h v = ys := by
  obtain ⟨a, items, rfl, ⟨o, ho, hc, n, hd⟩, hs⟩ := x
  unfold rowAt
  simp only [ho, hd]
  exact strs_tx hs
end
end SR

namespace EN
open PySem PySem.Spec PyProof.Rows L2
theorem src_tup {prog : Program} {w : World} {A : Around} (nh : A.handled = none) (it t : Addr) (ne : t ≠ it) (vs : Array Value) :
    Draws prog w A it [it, t] vs.size (fun k v => vs[k]? = some v) (fun k hp => hp.IsTupleIter it t k ∧ hp.IsTuple t vs) := by
  refine ⟨fun _ _ u => ?_, fun _ _ _ u stay => ?_, fun k sh R ER lt u go => ?_, fun sh R ER u go => ?_⟩
  · obtain ⟨⟨ob, e, _⟩, _⟩ := u; exact ⟨ob, e⟩
  · exact ⟨u.1.at (stay it List.mem_cons_self), u.2.at (stay t (by simp))⟩
  · have here : vs[k]? = some vs[k] := Array.getElem?_eq_getElem lt
    exact RZ.nextOf_tuple_item u.1 u.2 here fun hp' n1 n2 => go vs[k] hp' sh.toks here ⟨n1, u.2.extBut n2.extBut ne⟩ n2
  · exact RZ.nextOf_tuple_end nh u.1 u.2 (Array.getElem?_eq_none (Nat.le_refl _)) go
set_option maxHeartbeats 1000000 in
theorem new_enumT (t : Addr) (vs : Array Value) : Meets (Builtin.«enumerate.__new__» ⟨[.type "enumerate", .ref t], []⟩) (fun _ R sh => sh.heap.IsTuple t vs ∧
    R (.ok (.ret (.ref (sh.heap.push { cls := .type "tuple_iterator", data := .fields #[.ref t, .int 0 0] }).objs.size))) { sh with heap := (sh.heap.push { cls := .type "tuple_iterator", data := .fields #[.ref t, .int 0 0] }).push { cls := .type "enumerate", data := .fields #[.none, .bool false, .ref sh.heap.objs.size, rawInt 0, .none, .none] } }) :=
  .of_wp fun prog w A R sh u => by
    obtain ⟨hp, gg, dd, tt, oo⟩ := sh
    obtain ⟨isT, u⟩ := u
    have isT' : Heap.IsTuple (Shared.heap ⟨hp, gg, dd, tt, oo⟩) t vs := isT
    obtain ⟨ob, e1, e2, n, e3⟩ := id isT
    have sub := sub_enumerate
    wp_walk using AutoSeq1.wpAny_loadPart' e1
    refine wpAny_stack_any fun st => wpAny_pure ?_
    split
    · rename_i c _ _ _ _ _
      cases c == Value.type "enumerate"
      all_goals (wp_walk using AutoSeq1.wpAny_loadPart' e1, wpAny_pyIter_tuple isT')
      all_goals exact ⟨_, rfl, u⟩
    · wp_walk using AutoSeq1.wpAny_loadPart' e1, wpAny_pyIter_tuple isT'
      exact ⟨_, rfl, u⟩
theorem make_enumT {prog : Program} {w : World} {A : Around} {ER : Value → Shared → Prop} {sh : Shared} {t : Addr} {vs : Array Value} {R : Value → Shared → Prop} (isT : sh.heap.IsTuple t vs)
    (go : ∀ hp', IsEnum hp' (sh.heap.objs.size + 1) sh.heap.objs.size 0 .none → hp'.IsTupleIter sh.heap.objs.size t 0 → (∀ c ob, sh.heap.get? c = some ob → hp'.get? c = some ob) → R (.ref (sh.heap.objs.size + 1)) { sh with heap := hp' }) :
    wpAny (model prog w) A (call (.type "enumerate") [.ref t]) R ER sh := by
  refine callType_new F.called_enumerate (by decide) (F.typeCall_enumerate_1 _) (F.newCall_enumerate_1 _) (fun ob => F.args_object_init_2 ob _) F.entry_enumerate_new (new_enumT t vs) ⟨isT, ?_⟩
  have z : (sh.heap.push { cls := .type "tuple_iterator", data := .fields #[.ref t, .int 0 0] }).objs.size = sh.heap.objs.size + 1 := Heap.size_push ..
  have z2 := Heap.get?_push_size (sh.heap.push { cls := .type "tuple_iterator", data := .fields #[.ref t, .int 0 0] }) (o := { cls := .type "enumerate", data := .fields #[.none, .bool false, .ref sh.heap.objs.size, rawInt 0, .none, .none] }) rfl
  rw [z] at z2
  show _ ∧ _
  rw [z]
  exact ⟨⟨_, z2, rfl⟩, go _ z2 ⟨_, Heap.get?_push_of_some _ (Heap.get?_push_size _ rfl), rfl, rfl⟩ fun c ob q => Heap.get?_push_of_some _ (Heap.get?_push_of_some _ q)⟩
def ItEn (K : PySem.W.Frag) (a : Addr) : It :=
  ⟨fun k H => ∃ (vs : List V) (v : V), SqT K H a vs ∧ vs[k]? = some v, fun k H u H' => ∃ T v, u = .ref T ∧ H T = none ∧ H' = upd H T (.tup [.int (k : Nat), v]) ∧ ∀ vs, SqT K H a vs → vs[k]? = some v, fun k H => ∃ vs : List V, SqT K H a vs ∧ vs.length ≤ k⟩
theorem apart {hp : Heap} {x y : Addr} {ob : Obj} {n m : String} (e : hp.get? x = some ob) (c : ob.cls = .type n) (u : ∃ ob2, hp.get? y = some ob2 ∧ ob2.cls = .type m) (d : n ≠ m) : x ≠ y := by
  rintro rfl
  obtain ⟨ob2, e2, c2⟩ := u
  rw [e] at e2
  cases e2
  rw [c] at c2
  exact d (Value.type.inj c2)
theorem turn_en {P : Program} {w : World} {K : PySem.W.Frag} {es : List Expr} {kk : Nat} {tp : Pos} (a e it : Addr) :
    Turn P w K (.Tuple es kk tp) (ItEn K a) [e, it] e (fun k hp => (∃ old, IsEnum hp e it ((k : Nat) : Int) old) ∧ hp.IsTupleIter it a k) where
  mem := List.mem_cons_self
  obj := fun k hp u b hb => by
    obtain ⟨⟨old, h1⟩, ob, h2, h3, h4⟩ := u
    rcases List.mem_cons.mp hb with q | q
    · subst q; exact ⟨_, h1, fun v z => nomatch z⟩
    · cases List.mem_singleton.mp q; exact ⟨ob, h2, fun v z => by rw [h4] at z; cases z⟩
  keep := fun k hp hp' u stay => ⟨u.1.imp fun old q => stay e List.mem_cons_self _ q, u.2.at (stay it (by simp))⟩
  self := fun A k sh R ER u go => wpAny_pyIter_enum u.1.choose_spec go
  item := by
    intro X hP hw hK hc k pins sh σ H ER I free u g
    subst hP hw hK
    obtain ⟨⟨old, h1⟩, h2⟩ := u
    obtain ⟨vs, v, q, hv⟩ := g
    obtain ⟨its, rv, isT, _⟩ := I.tuple q
    obtain ⟨o2, e2, c2, d2⟩ := id h2
    obtain ⟨o3, e3, c3, n3, d3⟩ := id isT
    have n1 : e ≠ it := apart h1 rfl ⟨o2, e2, c2⟩ (by decide)
    have n2 : e ≠ a := apart h1 rfl ⟨o3, e3, c3⟩ (by decide)
    have n4 : a ≠ it := apart e3 c3 ⟨o2, e2, c2⟩ (by decide)
    obtain ⟨u, hu, ru⟩ := rv.get hv
    have hk : k < its.toArray.size := by rw [List.size_toArray]; exact (List.getElem?_eq_some_iff.mp hu).1
    have l1 : e < sh.heap.objs.size := Heap.lt_size h1
    have l2 : it < sh.heap.objs.size := Heap.lt_size e2
    refine wpAny_pyNext_enum_itemD (src_tup (A := X.A.in1) (I.ok.hd hc) it a n4 its.toArray) h1 ⟨h2, isT⟩ hk n1 (by simp [n1, n2]) fun u' h' tk hu' out st' hT _ stay => ?_
    have eu : u' = u := by
      have z : its.toArray[k]? = some u := by simpa using hu
      exact Option.some.inj (hu'.symm.trans z)
    subst eu
    refine ⟨_, rfl, wpAny_letOwnedTupleGo_enum (s := { sh with heap := h', toks := tk + 1 }) out fun h'' back sb => ?_⟩
    have hT2 := (sb.2 _ (Nat.ne_of_gt l1)).trans hT
    have new : ObjOk X.prog X.w (upd H sh.heap.objs.size (.tup [.int (k : Nat), v])) h'' sh.heap.objs.size (.tup [.int (k : Nat), v]) := ⟨by show 2 ≤ sizeLine; decide, [.int k tk, u'], .cons ⟨_, rfl⟩ (.cons ru .nil), ⟨_, hT2, rfl, _, rfl⟩⟩
    have J : Inv X pins σ (upd H sh.heap.objs.size (.tup [.int (k : Nat), v])) { sh with heap := h'', toks := tk + 1 } := I.turnedNew (ch := [e, it]) (fun b ob nb z => by
      have w1 : b ≠ e := fun z => nb (z ▸ List.mem_cons_self)
      have w2 : b ≠ it := fun z => nb (by simp [z])
      exact (sb.2 b w1).trans (stay b ob w1 w2 z)) free (Nat.le_refl _) new
    refine ⟨.ref sh.heap.objs.size, _, J, rfl, ⟨_, v, rfl, I.hok.fresh (Nat.le_refl _), rfl, fun ys z => by rw [I.tuple_inj z q]; exact hv⟩, ⟨⟨u', ?_⟩, st'.1.at fun ob z => (sb.2 it n1.symm).trans z⟩, fun b hb => ?_⟩
    · rw [show ((k + 1 : Nat) : Int) = (k : Int) + 1 by omega]; exact back
    · have lb : b < sh.heap.objs.size := by
        rcases List.mem_cons.mp hb with z | z
        · rw [z]; exact l1
        · rw [List.mem_singleton.mp z]; exact l2
      rw [upd_ne (Nat.ne_of_lt lb)]
      exact (free b hb).1
  done := by
    intro X hP hw hK hc k pins sh σ H ER I free u g
    subst hP hw hK
    obtain ⟨⟨old, h1⟩, h2⟩ := u
    obtain ⟨vs, q, hv⟩ := g
    obtain ⟨its, rv, isT, _⟩ := I.tuple q
    obtain ⟨o2, e2, c2, d2⟩ := id h2
    obtain ⟨o3, e3, c3, n3, d3⟩ := id isT
    have n4 : a ≠ it := apart e3 c3 ⟨o2, e2, c2⟩ (by decide)
    have l1 := rv.length
    have hx : its.toArray[k]? = none := by simp; omega
    obtain ⟨f0, f1, f2, f3, f4, f5⟩ := free it (by simp)
    have D : Draws X.prog X.w X.A.in1 it [it, a] 0 (fun _ _ => False) (fun _ hp => hp.IsTupleIter it a k ∧ hp.IsTuple a its.toArray) :=
      ⟨fun _ _ u => ⟨_, u.1.choose_spec.1⟩, fun _ _ _ u stay => ⟨u.1.at (stay it List.mem_cons_self), u.2.at (stay a (by simp))⟩, fun i _ _ _ lt => absurd lt (Nat.not_lt_zero i), fun _ _ _ u go => RZ.nextOf_tuple_end (I.ok.hd hc) u.1 u.2 hx go⟩
    exact wpAny_pyNext_enum_endD D h1 ⟨h2, isT⟩ fun h' eb => ⟨rfl, I.turned (t' := sh.toks) (fun b ob nb z => eb b ob nb z) f0 f1 f3 f4 f5⟩
theorem fresh2 {X : Cx} {pins : List (Addr × Obj)} {σ : L2.St} {H : Hp} {sh : Shared} (I : Inv X pins σ H sh) : ∀ b ∈ [sh.heap.objs.size + 1, sh.heap.objs.size], FpOk X pins H b := fun b hb => by
  have le : sh.heap.objs.size ≤ b := by
    rcases List.mem_cons.mp hb with z | z
    · rw [z]; exact Nat.le_add_right _ _
    · rw [List.mem_singleton.mp z]; exact Nat.le_refl _
  exact I.fpOk le (I.hok.fresh le)
def iEnA (K : PySem.W.Frag) (ta : TA) : TI := fun σ H R => ta σ H fun vs H1 => ∃ a xs, vs = [.ref a] ∧ ((SqL K H1 a xs ∧ R (Ite K a) H1) ∨ (SqT K H1 a xs ∧ R (ItEn K a) H1))
theorem pi_enA {X : Cx} {e : Expr} {ta : TA} {p pos tp : Pos} {es : List Expr} {kk : Nat} (hg : Gl X "enumerate") (hm : X.mg "enumerate" = none) (ha : PA X [e] ta) (hs : starEach [e] X.env = [(false, eval e X.env)] := by rfl) :
    PI X (.Tuple es kk tp) (.Call (.Name "enumerate" p) [e] [] pos) (iEnA X.K ta) := ⟨fun pins sh σ H R I h => by
  refine Call_ (ld_blt I hg hm boot_enumerate (PyProof.Rows.callWith_type1 (thn (ha.run pos pins sh σ H _ I h) fun us s1 got => ?_) hs rfl))
  obtain ⟨vs, H1, I1, r1, a, xs, rfl, q⟩ := got
  have eu : us = [Value.ref a] := by
    cases r1 with
    | cons r rr => cases rr; cases r; rfl
  subst eu
  rcases q with ⟨q, go⟩ | ⟨q, go⟩
  · obtain ⟨its, rv, isL, _⟩ := I1.list q
    refine call_enumerate_list isL.isList fun h' c1 c2 _ stay => wpAny_pyIter_enum c1 ?_
    have J : Inv X pins σ H1 { s1 with heap := h' } := I1.kept (t' := s1.toks) stay
    exact ⟨_, _, _, _, H1, rfl, J, turn_enum a (s1.heap.objs.size + 1) s1.heap.objs.size, ⟨⟨.none, c1⟩, c2, Nat.succ_ne_self _⟩, fresh2 I1, go⟩
  · obtain ⟨its, rv, isT, _⟩ := I1.tuple q
    refine make_enumT (show s1.heap.IsTuple a its.toArray from isT) fun h' c1 c2 stay => wpAny_pyIter_enum c1 ?_
    have J : Inv X pins σ H1 { s1 with heap := h' } := I1.kept (t' := s1.toks) stay
    exact ⟨_, _, _, _, H1, rfl, J, turn_en a (s1.heap.objs.size + 1) s1.heap.objs.size, ⟨⟨.none, c1⟩, c2⟩, fresh2 I1, go⟩⟩
def reps (z : Str) (n : Nat) : Str := ⟨(List.replicate n z.cps).foldl (· ++ ·) #[]⟩
theorem fits {a b : Nat} (h1 : a ≤ 1000) (h2 : b ≤ 1000) : a * b ≤ 1000000 := Nat.mul_le_mul h1 h2
end EN

namespace GU
open PySem PySem.Spec PyProof.Rows L2
abbrev NoG (A : Around) : Prop := A.guards = some []
structure FnG (P : Program) (w : World) (K : PySem.W.Frag) (mg : Str → Option Value) (base : Heap) (k : Nat) (f : Addr) (fd : FuncData) (ps : List Str) (sp : Sp) : Prop where
  arity : ∀ xs H Q E, sp xs H Q E → xs.length = ps.length
  go : ∀ (A : Around) (out : List Env) (sh : Shared) (H : Hp) (ar : Args) (us : List Value) (xs : List V) (Q : VK) (E : XK), Room k A → NoG A → Env0 P w K mg base A out sh H → BindsTo sh fd ar (ps.zip us) → Vals xs us → sp xs H Q E →
    codeAny (model P w) A (.call (.ref f) ar) (CR CX0 out P w H sh Q E) sh
section
variable {P : Program} {w : World} {K : PySem.W.Frag} {mg : Str → Option Value} {base : Heap} {j k : Nat} {f : Addr} {fd : FuncData} {ps : List Str} {sp : Sp}
theorem FnG.of (F : FnOk P w K mg base CX0 k f fd ps sp) : FnG P w K mg base k f fd ps sp := ⟨F.len, fun A out sh H ar us xs Q E hr _ e b r z => F.run A out sh H ar us xs Q E hr e b r z⟩
theorem FnG.up (F : FnG P w K mg base j f fd ps sp) (h : j ≤ k) : FnG P w K mg base k f fd ps sp := ⟨F.arity, fun A out sh H ar us xs Q E hr => F.go A out sh H ar us xs Q E (hr.mono h)⟩
end
section
variable {X : Cx} {k : Nat} {f : Addr} {fd : FuncData} {ps : List Str} {sp : Sp} {x : Str} {p pos : Pos} {e : Expr} {es : List Expr} {t : TA}
end
end GU

set_option maxHeartbeats 2000000
namespace GE
open PySem PySem.Spec PyProof.Rows L2 GenW GxR
abbrev gcx (X : Cx) (A : Around) (s : Shared) (H : Hp) (cenv : Env) (fp : List Addr) (pn : List (Addr × Obj)) : Cx :=
  { X with A := A, s_0 := s, H_0 := H, env := cenv, outer := X.stack, stack := cenv :: X.stack, ex := fp, fn := fun x => cenv.scope.names.lookup x == some .cell, pn := pn, xe := fun _ _ => False }
theorem allBare_set {s : Shared} {g : Nat} {x : GenState} (h : AllBare s.gens) (hx : x.bare = true) : AllBare (s.setGen g x).gens := fun y hy => by
  obtain ⟨i, hi, e⟩ := Array.mem_iff_getElem.mp hy
  have hi' : i < s.gens.size := by
    have q : (s.setGen g x).gens.size = s.gens.size := setGen_size s g x
    rw [q] at hi; exact hi
  by_cases z : i = g
  · subst z
    have q : (s.setGen i x).gens[i]? = some x := by
      show (s.gens.setIfInBounds i x)[i]? = some x
      simp [hi']
    have q2 : (s.setGen i x).gens[i]? = some y := by rw [Array.getElem?_eq_getElem hi, e]
    rw [q] at q2; cases q2; exact hx
  · have q : (s.setGen g x).gens[i]? = s.gens[i]? := by
      show (s.gens.setIfInBounds g x)[i]? = _
      rw [Array.getElem?_setIfInBounds_ne (Ne.symm z)]
    have q2 : s.gens[i]? = some y := by rw [← q, Array.getElem?_eq_getElem hi, e]
    exact h y (Array.mem_of_getElem? q2)
theorem set_at {s : Shared} {g : Nat} {x : GenState} (h : g < s.gens.size) : (s.setGen g x).gens[g]? = some x := by
  show (s.gens.setIfInBounds g x)[g]? = some x
  simp [h]
section
variable {X : Cx} {pins : List (Addr × Obj)} {σ : L2.St} {H : Hp} {s : Shared}
theorem inv_set (I : Inv X pins σ H s) {g : Nat} {x : GenState} (hx : x.bare = true) : Inv X pins σ H (s.setGen g x) :=
  ⟨I.ok, I.os, allBare_set I.bare hx, I.base, I.loc, I.cell, I.free, I.freeC, I.pin, I.hok, I.len⟩
theorem gen_start {scope : Scope} {own : List (Str × Nat)} {fp : List Addr} {A' : Around} {code : Value} {a : Addr} {go : Obj} {h5 : Heap} {G5 : Array GenState} {t5 : Nat} {m : Str → Option Value}
    (I : Inv X pins σ H s) (ok : BlkOk X.N X.env.scope scope own) (hN : X.N.Nodup) (hnc : ∀ y ∈ scope.names, y.2 ≠ .cell) (hfp : ∀ b ∈ fp, FpOk X pins H b ∧ b < s.heap.objs.size)
    (hA : X.calm = true → A'.handled = none) (hfr : A'.frames = some (genEnv scope (cloFrom X.env.cells scope.names []) s.heap.objs.size code builtinsNs X.env :: X.stack))
    (kp : ∀ b o, s.heap.get? b = some o → h5.get? b = some o) (hns : h5.Ns s.heap.objs.size m) (hC : s.heap.objs.size < a) (ha : h5.get? a = some go) (hgo : ∀ v, go.data ≠ .cell v) (hb : AllBare G5) :
    Inv (gcx X A' s H (genEnv scope (cloFrom X.env.cells scope.names []) s.heap.objs.size code builtinsNs X.env) fp [(a, go)]) [] (wipe σ (own.map (·.2))) H { s with heap := h5, gens := G5, toks := t5 } := by
  have hfree : ∀ y ∈ scope.names, y.2 = .free → ∃ c, X.env.cells.lookup y.1 = some c := fun y hy e => by
    rcases ok.free y hy e with k | k
    · exact I.ok.has _ (.inl k)
    · exact I.ok.has _ (.inr k)
  generalize hcenv : genEnv scope (cloFrom X.env.cells scope.names []) s.heap.objs.size code builtinsNs X.env = cenv at hfr
  have hL : cenv.locals = s.heap.objs.size := by rw [← hcenv]; rfl
  have hcl : cenv.cells = cloFrom X.env.cells scope.names [] := by rw [← hcenv]; rfl
  have hsc : cenv.scope = scope := by rw [← hcenv]; rfl
  have hff : cenv.frame = some cenv.locals := by rw [← hcenv]; rfl
  have cm : ∀ {y c}, (y, c) ∈ cloFrom X.env.cells scope.names [] → X.env.cells.lookup y = some c ∧ c < s.heap.objs.size := fun {y c} hm => by
    rcases cloFrom_mem hm with hm | ⟨h1, rfl⟩
    · cases hm
    · obtain ⟨c, hc⟩ := hfree _ h1 rfl
      rw [hc]
      obtain ⟨w, z⟩ := I.cell _ _ hc
      exact ⟨rfl, z.lt⟩
  have mem : ∀ {y c}, cenv.cells.lookup y = some c → X.env.cells.lookup y = some c ∧ c < s.heap.objs.size := fun {y c} e => by
    rw [hcl] at e
    exact cm (PySem.mem_of_lookup e)
  have look : ∀ {y}, scope.names.lookup y = some .free → ∃ c, cenv.cells.lookup y = some c ∧ X.env.cells.lookup y = some c := fun {y} hl => by
    have hy : (y, NameKind.free) ∈ scope.names := PySem.mem_of_lookup hl
    obtain ⟨c', e'⟩ := mem_lookup (cloFrom_has (cells := X.env.cells) (acc := []) hy)
    rw [← hcl] at e'
    exact ⟨c', e', (mem e').1⟩
  have nocell : ∀ {y}, cenv.kindOf y ≠ some .cell := fun {y} z => by
    unfold Env.kindOf at z
    rw [hsc] at z
    exact hnc _ (PySem.mem_of_lookup z) rfl
  have okB : (gcx X A' s H cenv fp [(a, go)]).Ok := by
    refine ⟨I.ok.mod, by show cenv.scope.kind = _; rw [hsc]; exact ok.kind, by show cenv.globals = _; rw [← hcenv]; exact I.ok.glob, by show cenv.builtins = _; rw [← hcenv]; rfl, by show s.heap.objs.size ≤ cenv.locals; rw [hL]; exact Nat.le_refl _,
      fun y z c e1 e2 => I.ok.inj y z c (mem e1).1 (mem e2).1, fun y hy => ?_, fun y c z e => ?_, hA, hfr, .inr ⟨rfl, hff⟩, fun b hb => ⟨?_, fun y c e => (hfp b hb).1.2.2.2.2.1 y c (mem e).1⟩, I.bs, Nat.le_trans I.ok.bsz I.sz, fun b o e hb => ?_, fun b hb z => ?_, I.stack, I.stkFree⟩
    · rcases hy with hy | hy
      · exact absurd hy nocell
      · have hy' : scope.names.lookup y = some .free := by
          have z : cenv.scope.names.lookup y = some .free := hy
          rw [hsc] at z
          exact z
        obtain ⟨c, h1, _⟩ := look hy'
        exact ⟨c, h1⟩
    · have z : (cenv.scope.names.lookup y == some NameKind.cell) = true := z
      have z : cenv.scope.names.lookup y = some .cell := by simpa using z
      exact absurd z nocell
    · show b ≠ cenv.locals
      rw [hL]; exact Nat.ne_of_lt (hfp b hb).2
    · rcases (hfp b hb).1.2.2.2.1 with z | z
      · exact I.ok.noex b o e z
      · exact absurd (Nat.lt_of_lt_of_le (Heap.lt_size e) (Nat.le_trans I.ok.bsz z)) (Nat.lt_irrefl _)
    · rcases List.mem_cons.mp (I.stkSub b z) with z | z
      · exact (hfp b hb).1.2.1 z
      · exact (hfp b hb).1.2.2.1 z
  refine ⟨okB, rfl, hb, Un.kept kp, ⟨m, ?_, fun i y av e1 e2 e3 => ?_⟩, fun y c e => ?_, ?_, fun y c e => I.freeC y c (mem e).1, fun p hp => ?_, I.hok.kept kp, by rw [wipe_length]; exact I.len⟩
  · show Heap.Ns _ cenv.locals _
    rw [hL]
    exact hns
  · obtain ⟨e2, hne⟩ := wipe_some e2
    have hfr : scope.names.lookup y = some .free := by
      have e3 : Vis cenv.scope y := e3
      rw [hsc] at e3
      have no : ∀ k, scope.names.lookup y = some k → ¬ (k = .local ∨ k = .cell) := fun k e hh => by
        rcases ok.own _ (PySem.mem_of_lookup e) hh with e' | e'
        · obtain ⟨p, hp, hpy⟩ := List.mem_map.mp e'
          have e3 := ok.ix p hp
          have : p.1 = y := hpy
          rw [this] at e3
          exact hne (List.mem_map.mpr ⟨p, hp, nodup_ix hN e3 e1⟩)
        · exact e' (List.mem_of_getElem? e1)
      rcases e3 with e3 | e3 | e3
      · exact absurd (.inl rfl) (no _ e3)
      · exact absurd (.inr rfl) (no _ e3)
      · exact e3
    obtain ⟨mX, hn, hl⟩ := I.loc
    have hvis : Vis X.env.scope y := (ok.free _ (PySem.mem_of_lookup hfr) rfl).elim (fun k => .inr (.inl k)) (fun k => .inr (.inr k))
    obtain ⟨w, r, q⟩ := hl i y av e1 e2 hvis
    refine ⟨w, r, .inr ⟨.inr (by show cenv.scope.names.lookup y = _; rw [hsc]; exact hfr), ?_⟩⟩
    obtain ⟨c, h1, h2⟩ := look hfr
    rcases q with ⟨k, _⟩ | ⟨_, c', e', z⟩
    · have k : X.env.scope.names.lookup y = some .local := k
      rcases ok.free _ (PySem.mem_of_lookup hfr) rfl with k' | k' <;> rw [show X.env.scope.names.lookup y = _ from k'] at k <;> cases k
    · rw [h2] at e'; cases e'
      exact ⟨c, h1, z.keeps kp⟩
  · obtain ⟨w, z⟩ := I.cell y c (mem e).1
    exact ⟨w, z.keeps kp⟩
  · show H cenv.locals = none
    rw [hL]; exact I.hok.fresh (Nat.le_refl _)
  · rcases List.mem_append.mp hp with hp | hp
    · rw [List.mem_singleton.mp hp]
      refine ⟨ha, I.hok.fresh (Nat.le_of_lt hC), ?_, fun z => ?_, hgo⟩
      · show a ≠ cenv.locals
        rw [hL]; exact Nat.ne_of_gt hC
      · have z : a ∈ frs X.stack := z
        rcases List.mem_cons.mp (I.stkSub a z) with z | z
        · have := I.lt
          rw [← z] at this
          exact absurd (Nat.lt_trans hC this) (Nat.lt_irrefl _)
        · exact I.nofs (Nat.le_of_lt hC) z
    · cases hp
end

def GInv {ζ : Type} (X : Cx) (tn : Nat → Heap → Prop) (fp : List Addr) (σw : L2.St) (pz : ζ → List (Addr × Obj)) (Zi : ζ → Prop) (W : Nat → Nat → ζ → Hp → Prop) (i m : Nat) (z : ζ) (H : Hp) (s : Shared) : Prop :=
  Inv X (pz z) σw H s ∧ tn i s.heap ∧ (∀ b ∈ fp, H b = none) ∧ Zi z ∧ W i m z H
def GEnd0 {ζ : Type} (X : Cx) (σw : L2.St) (pz : ζ → List (Addr × Obj)) (Zi : ζ → Prop) (Fin : ζ → Hp → Prop) : Shared → Prop := fun s1 => ∃ z H, Inv X (pz z) σw H s1 ∧ Zi z ∧ Fin z H
def GPro {ζ : Type} (X : Cx) (tn : Nat → Heap → Prop) (fp : List Addr) (σw : L2.St) (pz : ζ → List (Addr × Obj)) (Zi : ζ → Prop) (W : Nat → Nat → ζ → Hp → Prop) (Cons : Nat → Nat → ζ → V → Hp → Prop) : Protocol := fun n _ v s kap =>
  ∃ i m z H y, m ≤ n ∧ RelV y v ∧ Inv X (pz z) σw H s ∧ tn (i + 1) s.heap ∧ (∀ b ∈ fp, H b = none) ∧ Zi z ∧ Cons i m z y H ∧ ∀ m' z' H' s'', m' < m → GInv X tn fp σw pz Zi W (i + 1) m' z' H' s'' → kap (.send .none) s''
def GTurn {ζ : Type} (J : It) (g : TG) (tt : TT) (te : TE) (σw : L2.St) (vs : List Nat) (W : Nat → Nat → ζ → Hp → Prop) (Fin : ζ → Hp → Prop) (Cons : Nat → Nat → ζ → V → Hp → Prop) : Prop :=
  ∀ i m z H, W i m z H → (J.stop i H ∧ Fin z H) ∨ (J.go i H ∧ ∀ x H', J.yld i H x H' → g x σw H' fun σ2 H2 => wipe σ2 vs = σw ∧ tt σ2 H2 fun b H3 => if b = true then te σ2 H3 fun y H4 => Cons i m z y H4 else ∃ m', m' < m ∧ W (i + 1) m' z H3)
section
variable {X : Cx} {ζ : Type} {tn : Nat → Heap → Prop} {fp : List Addr} {σ : L2.St} {vs : List Nat} {pz : ζ → List (Addr × Obj)} {Zi : ζ → Prop} {W : Nat → Nat → ζ → Hp → Prop} {Fin : ζ → Hp → Prop} {Cons : Nat → Nat → ζ → V → Hp → Prop}
  {J : It} {it : Addr} {tg elt iter : Expr} {ifs : List Expr} {scope : Scope} {pos : Pos} {g : TG} {tt : TT} {te : TE} {B : Around}
theorem gstat {pins : List (Addr × Obj)} {σ' : L2.St} {H' : Hp} {s' : Shared} (hex : X.ex = fp) (hp : ∀ p ∈ X.pn ++ pins, ∀ b ∈ fp, p.1 ≠ b) (I' : Inv X pins σ' H' s') (hn : ∀ b ∈ fp, H' b = none) : ∀ b ∈ fp, FpOk X pins H' b := fun b hb =>
  have hb' : b ∈ X.ex := by rw [hex]; exact hb
  ⟨hn b hb, (I'.ok.exf b hb').1, I'.ok.exfs b hb', .inl hb', fun x c e => (I'.ok.exf b hb').2 x c e, fun p h => hp p h b hb⟩
theorem seg_gloop (hover : B.over (.compLoop (.GeneratorExp elt [⟨tg, iter, ifs, 0⟩] scope pos) 0 (.ref it) .none X.env) [] = X.A) (T : Turn X.prog X.w X.K tg J fp it tn) (hc : X.calm = true) (hxe : X.xe = fun _ _ => False) (hex : X.ex = fp) (hpz : ∀ z, ∀ p ∈ X.pn ++ pz z, ∀ b ∈ fp, p.1 ≠ b)
    (pg : PG X tg g) (pt : PTs X ifs tt) (pe : PE X elt te) (hco : X.env.scope.isCoroutine = false) (turn : GTurn J g tt te (wipe σ vs) vs W Fin Cons) :
    ∀ (m n i : Nat) (z : ζ) (H : Hp) (s₀ s : Shared), m + 1 ≤ n → GInv X tn fp (wipe σ vs) pz Zi W i m z H s →
      Seg (model X.prog X.w) B (fun _ _ r s1 => r = .ok .next ∧ GEnd0 X (wipe σ vs) pz Zi Fin s1) (GPro X tn fp (wipe σ vs) pz Zi W Cons) n s₀ (.compLoop (.GeneratorExp elt [⟨tg, iter, ifs, 0⟩] scope pos) 0 (.ref it) .none X.env)
        ((model X.prog X.w).den (.compLoop (.GeneratorExp elt [⟨tg, iter, ifs, 0⟩] scope pos) 0 (.ref it) .none X.env)) [] s := by
  intro m
  induction m using Nat.strongRecOn with
  | ind m ih =>
    intro n i z H s₀ s hn ⟨I, st, nf, zi, w⟩
    have hE : ∀ {α : Type} {t : Sem α} {Q : α → Shared → Prop} {E : Value → Shared → Prop} {s : Shared}, wpAny (model X.prog X.w) X.A t Q X.xe s → wpAny (model X.prog X.w) X.A t Q E s := fun {α t Q E s} h => wpAny_mono h (fun _ _ z => z) fun _ _ z => by rw [hxe] at z; exact z.elim
    show Seg _ B _ _ _ s₀ _ ((compTurn (.GeneratorExp elt [⟨tg, iter, ifs, 0⟩] scope pos) 0 (.ref it) .none X.env).onRaise (leaving X.env)) [] s
    rw [compTurn_gen, Sem.onRaise_eq_wrap]
    refine seg_bind_wrap (wpAny_standAt ?_)
    refine seg_bind_wrap ?_
    rw [hover]
    rcases turn i m z H w with ⟨stop, qq⟩ | ⟨go, step⟩
    · have td := T.done X rfl rfl rfl hc i (pz z) s _ H (fun _ _ => False) I (gstat hex (hpz z) I nf) st stop
      refine thnF td fun r s6 ⟨hr, I6⟩ => ?_
      subst hr
      exact seg_end (.ok .next) ⟨rfl, z, H, I6, zi, qq⟩
    · have ti := T.item X rfl rfl rfl hc i (pz z) s _ H (fun _ _ => False) I (gstat hex (hpz z) I nf) st go
      refine thnF ti fun r s6 ⟨u, hr, h6⟩ => ?_
      subst hr
      refine seg_bind_wrap ?_
      rw [hover]
      refine thnF h6 fun _ s7 ⟨x, H7, I7, r7, y7, st7, n7⟩ => ?_
      have I7' := I7.pinned (gstat hex (hpz z) I7 n7) (T.obj _ _ st7)
      refine seg_bind_wrap ?_
      rw [hover]
      refine hE (thn (pg.run _ s7 _ H7 x u _ I7' r7 (step x H7 y7)) fun _ s8 ⟨σ8, H8, I8, hw8, q8⟩ => ?_)
      refine seg_bind_wrap ?_
      rw [hover]
      refine hE (thn (pt.run _ s8 σ8 H8 _ I8 q8) fun b s9 ⟨H9, I9, q9⟩ => ?_)
      have back : ∀ {s' : Shared} {H' : Hp}, Inv X (pz z ++ pinsAt fp s7.heap) σ8 H' s' → Inv X (pz z) (wipe σ vs) H' s' ∧ tn (i + 1) s'.heap ∧ (∀ b ∈ fp, H' b = none) := fun {s' H'} I' => by
        have pin' : ∀ b ∈ fp, ∀ o, s7.heap.get? b = some o → s'.heap.get? b = some o ∧ H' b = none := fun b hb o e =>
          let z := I'.pin (b, o) (List.mem_append_right _ (List.mem_append_right _ (mem_pinsAt hb e)))
          ⟨z.1, z.2.1⟩
        have hl : (wipe σ vs).length = σ8.length := by rw [← hw8, wipe_length]
        refine ⟨I'.unpinned.weak hl (fun j v e => ?_), T.keep _ _ _ st7 fun b hb o e => (pin' b hb o e).1, fun b hb => ?_⟩
        · rw [← hw8] at e
          exact (wipe_some e).1
        · obtain ⟨o, e, _⟩ := T.obj _ _ st7 b hb
          exact (pin' b hb o e).2
      cases b with
      | false =>
        simp only [Bool.false_eq_true, if_false] at q9 ⊢
        obtain ⟨m', hm, w'⟩ := q9
        obtain ⟨b1, b2, b3⟩ := back I9
        exact seg_again rfl (ih m' hm n (i + 1) z H9 s₀ s9 (by omega) ⟨b1, b2, b3, zi, w'⟩)
      | true =>
        simp only [if_true] at q9 ⊢
        obtain ⟨n, rfl⟩ : ∃ n', n = n' + 1 := ⟨n - 1, by omega⟩
        have hy : ∀ v, yieldOut X.env v = yieldValue v := fun v => by simp only [yieldOut, hco, Bool.false_eq_true, if_false]
        simp only [hy]
        rw [Sem.bind_eq_wrap', Sem.bind_eq_wrap', Sem.wrap_wrap, Sem.wrap_wrap]
        refine seg_wrap ?_
        rw [hover]
        refine hE (thn (pe.run _ s9 σ8 H9 _ I9 q9) fun v s10 ⟨yv, H10, I10, r10, cs⟩ => ?_)
        obtain ⟨b1, b2, b3⟩ := back I10
        refine seg_at (seg_yield rfl rfl rfl ⟨i, m, z, H10, yv, by omega, r10, b1, b2, b3, zi, cs, fun m' z' H' s'' hm G => ?_⟩)
        exact seg_again rfl (ih m' hm n (i + 1) z' H' s'' s'' (by omega) G)
theorem seg_gstart (hover : B.over (.compLoop (.GeneratorExp elt [⟨tg, iter, ifs, 0⟩] scope pos) 0 (.ref it) .none X.env) [] = X.A) (T : Turn X.prog X.w X.K tg J fp it tn) (hc : X.calm = true) (hxe : X.xe = fun _ _ => False) (hex : X.ex = fp) (hpz : ∀ z, ∀ p ∈ X.pn ++ pz z, ∀ b ∈ fp, p.1 ≠ b)
    (pg : PG X tg g) (pt : PTs X ifs tt) (pe : PE X elt te) (hco : X.env.scope.isCoroutine = false) (turn : GTurn J g tt te (wipe σ vs) vs W Fin Cons) (m n i : Nat) (z : ζ) (H : Hp) (s₀ s : Shared) (hn : m + 1 ≤ n) (G : GInv X tn fp (wipe σ vs) pz Zi W i m z H s) :
      Seg (model X.prog X.w) B (fun _ _ r s1 => r = .ok .next ∧ GEnd0 X (wipe σ vs) pz Zi Fin s1) (GPro X tn fp (wipe σ vs) pz Zi W Cons) n s₀ (.compStart (.GeneratorExp elt [⟨tg, iter, ifs, 0⟩] scope pos) 0 (.ref it) .none X.env)
        ((model X.prog X.w).den (.compStart (.GeneratorExp elt [⟨tg, iter, ifs, 0⟩] scope pos) 0 (.ref it) .none X.env)) [] s := by
  have loop := seg_gloop hover T hc hxe hex hpz pg pt pe hco turn m n i z H s₀ s hn G
  show Seg _ B _ _ _ s₀ _ ((compStart (.GeneratorExp elt [⟨tg, iter, ifs, 0⟩] scope pos) 0 (.ref it) .none X.env).onRaise (leaving X.env)) [] s
  unfold compStart
  rw [Sem.onRaise_eq_wrap]
  show Seg _ B _ _ _ s₀ _ ((ask >>= _).wrap _ _ _ _) [] s
  refine seg_bind_wrap (wpAny_askSetting ?_)
  split
  · exact seg_again rfl loop
  · first
      | exact seg_bind_wrap (wpAny_rule (seg_bind_wrap (wpAny_standAt (seg_bind_wrap (T.self _ i s _ _ G.2.1 (seg_again rfl loop))))))
      | (refine seg_bind_wrap (wpAny_rule ?_); show Seg _ B _ _ _ s₀ _ ((standAt iter.pos >>= _).wrap _ _ _ _) [] s; exact seg_bind_wrap (wpAny_standAt (seg_bind_wrap (T.self _ i s _ _ G.2.1 (seg_again rfl loop)))))
end
end GE

set_option maxHeartbeats 2000000
namespace GE
open PySem PySem.Spec PyProof.Rows L2 GenW GxR
theorem over_gen {A : Around} {e tg iter : Expr} {ifs : List Expr} {scope : Scope} {pos : Pos} {it : Value} {env : Env} : A.over (.compLoop (.GeneratorExp e [⟨tg, iter, ifs, 0⟩] scope pos) 0 it .none env) [] = A.deeper env := by
  first
    | rfl
    | (obtain ⟨hd, d, fr, gs, u⟩ := A; simp [Around.over, Around.deeper, marksOver, frameCount, unitsOf, envsOf, guardsOf, pushEnvs, pushGuards, Code.envs, Code.env?, Code.isFrame, Code.guards, Code.isGuard, Code.weight, Code.frames, Code.isCreation, Code.isCaller, Code.cUnits])
structure GMk (X : Cx) (pins : List (Addr × Obj)) (σ : L2.St) (tg elt iter : Expr) (ifs : List Expr) (scope : Scope) (pos : Pos) (own : List (Str × Nat)) (J : It) (H : Hp) (a : Addr) (s5 : Shared) : Prop where
  ex : ∃ (s3 : Shared) (fp : List Addr) (it : Addr) (tn : Nat → Heap → Prop) (code : Value) (go : Obj) (g : Nat), Inv X pins σ H s3 ∧ Turn X.prog X.w X.K tg J fp it tn ∧ (∀ b ∈ fp, FpOk X pins H b ∧ b < s3.heap.objs.size) ∧ tn 0 s5.heap ∧ (∀ h : Heap, h.get? a = some go → h.IsGen a g) ∧ s5.heap.get? a = some go ∧
    s5.gens[g]? = some (.fresh (.compStart (.GeneratorExp elt [⟨tg, iter, ifs, 0⟩] scope pos) 0 (.ref it) .none (genEnv scope (cloFrom X.env.cells scope.names []) s3.heap.objs.size code builtinsNs X.env))) ∧ s3.heap.objs.size < a ∧ s5.heap.objs.size = a + 1 ∧
    ∀ A' : Around, (X.calm = true → A'.handled = none) → A'.frames = some (genEnv scope (cloFrom X.env.cells scope.names []) s3.heap.objs.size code builtinsNs X.env :: X.stack) → Inv (gcx X A' s3 H (genEnv scope (cloFrom X.env.cells scope.names []) s3.heap.objs.size code builtinsNs X.env) fp [(a, go)]) [] (wipe σ (own.map (·.2))) H s5
section
variable {X : Cx} {pins : List (Addr × Obj)} {σ : L2.St} {H : Hp} {s : Shared} {c P : Addr} {elt tg iter : Expr} {ifs : List Expr} {scope : Scope} {own : List (Str × Nat)} {gpos : Pos} {wi : TI} {k : Nat}
theorem gen_make {Q' : Value → Shared → Prop} {R : It → Hp → Prop} (hr : Room k X.A) (TB : TabB X.base X.mg c P) (hcode : X.env.code = .ref c) (hco : scope.isCoroutine = false) (hdot : scope.names.lookup (".0" : Str) = some NameKind.local) (ok : BlkOk X.N X.env.scope scope own) (hN : X.N.Nodup)
    (hnc : ∀ y ∈ scope.names, y.2 ≠ .cell) (hi : PI X tg iter wi) (hs : ∀ v, genFold iter X.env v = pure v) (I : Inv X pins σ H s) (h : wi σ H fun J H1 => TabG H1 P ∧ ∀ H2, Tabbed P H1 H2 → R J H2)
    (hQ : ∀ J H2 a s5, R J H2 → GMk X pins σ tg elt iter ifs scope gpos own J H2 a s5 → Q' (.ref a) s5) :
    wpAny (model X.prog X.w) X.A (eval (.GeneratorExp elt [⟨tg, iter, ifs, 0⟩] scope gpos) X.env) Q' X.xe s := by
  have hfree : ∀ y ∈ scope.names, y.2 = .free → ∃ c, X.env.cells.lookup y.1 = some c := fun y hy e => by
    rcases ok.free y hy e with k | k
    · exact I.ok.has _ (.inl k)
    · exact I.ok.has _ (.inr k)
  refine wpAny_GeneratorExp_make hco (closure_ok hfree) hnc hdot ok.kind (by have := hr.dp; omega) ?_ hs
  refine thn (hi.run pins s σ H _ I h) fun xv s1 hx => thn hx fun itv s2 h2 => ?_
  obtain ⟨it, fp, tn, J, H2, rfl, I2, T, st2, f2, ⟨ps, hP, ht⟩, q⟩ := h2
  have hPs : s2.heap.get? P = some { cls := .none, data := .fields ps } := I2.hok P _ hP
  have cd : PySem.W.CodeHd s2.heap c P := TB.code.keeps fun b u e => I2.bk b u e
  have sz : ∀ b ∈ fp, b < s2.heap.objs.size := fun b hb => by
    obtain ⟨o, e, _⟩ := T.obj _ _ st2 b hb
    exact Heap.lt_size e
  have fP : ∀ b ∈ fp, b ≠ P := fun b hb z => by
    have := (f2 b hb).1
    rw [z, hP] at this
    cases this
  refine ⟨I2.nolimit, ?_⟩
  have cont : ∀ (code : Value) (h3 : Heap) (tk : Nat) (more : Array Value), Heap.ExtBut P s2.heap h3 → s2.heap.objs.size ≤ h3.objs.size → h3.get? P = some { cls := .none, data := .fields (ps ++ more) } → TriplesOk (ps ++ more).toList →
      wpAny (model X.prog X.w) X.A (builtinsFor X.env.globals X.env.builtins) (fun bi s₄ =>
        ∀ h', h'.Ns s₄.heap.objs.size (fun y => if y = ".0" then some (.ref it) else none) → Heap.SameBut s₄.heap.objs.size (s₄.heap.push { cls := .type "frame", data := .dict #[] }) h' →
          Q' (.ref h'.objs.size) { s₄ with
            gens := s₄.gens.push (.fresh (.compStart (.GeneratorExp elt [⟨tg, iter, ifs, 0⟩] scope gpos) 0 (.ref it) .none (genEnv scope (cloFrom X.env.cells scope.names []) s₄.heap.objs.size code bi X.env))),
            toks := s₄.toks + 1 + 1 + 1,
            heap := h'.push { cls := .type "generator", data := .fields #[.int s₄.gens.size 0, .str "<genexpr>" (s₄.toks + 1), .str (X.env.qual ++ "<genexpr>") (s₄.toks + 1 + 1)] } }) X.xe { s2 with heap := h3, toks := tk } := by
    intro code h3 tk more hx hsz hP3 ht3
    obtain ⟨bm, ob, e1, e2, e3, e4, e5, e6, e7, e8⟩ := TB.bm
    have I3 : Inv X pins σ (upd H2 P (.tbl (ps ++ more))) { s2 with heap := h3, toks := tk } := inv_tab (more := more) (h' := h3) (g' := s2.gens) (d' := s2.drawn) (t' := tk) I2 hP (fun b u hb e => hx b u hb e) hP3 I2.bare
    refine wpAny_builtinsFor (m := X.mg) (by rw [I2.ok.glob]; exact (I2.mod.glob.keeps I2.bk).extBut hx TB.gP) e1 e2 (hx _ _ e4 (I2.bk _ _ e5)) e6 e7 e8 ?_
    intro h' hn' hs'
    have hsz' : h'.objs.size = h3.objs.size + 1 := by
      have := hs'.1
      rw [this, Heap.size_push]
    have keep' : ∀ b o, h3.get? b = some o → h'.get? b = some o := fun b o e => hs'.extBut b o (Nat.ne_of_lt (Heap.lt_size e)) (Heap.get?_push_of_some _ e)
    generalize hgo : ({ cls := .type "generator", data := .fields #[.int s2.gens.size 0, .str "<genexpr>" (tk + 1), .str (X.env.qual ++ "<genexpr>") (tk + 1 + 1)] } : Obj) = go
    have keep5 : ∀ b o, h3.get? b = some o → (h'.push go).get? b = some o := fun b o e => Heap.get?_push_of_some _ (keep' b o e)
    have st3 : tn 0 h3 := T.keep _ _ _ st2 fun b hb o e => hx b o (fP b hb) e
    have f3 : ∀ b ∈ fp, FpOk X pins (upd H2 P (.tbl (ps ++ more))) b ∧ b < h3.objs.size := fun b hb => ⟨⟨by rw [upd_ne (fP b hb)]; exact (f2 b hb).1, (f2 b hb).2⟩, Nat.lt_of_lt_of_le (sz b hb) hsz⟩
    have hga : (h'.push go).get? h'.objs.size = some go := by
      subst hgo
      exact Heap.get?_push_size _ rfl
    refine hQ J (upd H2 P (.tbl (ps ++ more))) _ _ (q _ ⟨⟨ps ++ more, upd_same, ht3⟩, fun b hb => upd_ne hb⟩) ⟨{ s2 with heap := h3, toks := tk }, fp, it, tn, code, go, s2.gens.size, I3, T, f3, T.keep _ _ _ st3 fun b _ o e => keep5 b o e, fun h e => ?_, ?_, ?_, ?_, ?_, fun A' hA hfr => ?_⟩
    · subst hgo
      exact ⟨_, _, _, e, rfl, rfl, rfl⟩
    · exact hga
    · exact Array.getElem?_push_size ..
    · show h3.objs.size < h'.objs.size
      omega
    · show (h'.push _).objs.size = h'.objs.size + 1
      rw [Heap.size_push]
    · have hlt : h3.objs.size < h'.objs.size := by omega
      have Z := gen_start (A' := A') (code := code) (own := own) (scope := scope) (G5 := s2.gens.push (.fresh (.compStart (.GeneratorExp elt [⟨tg, iter, ifs, 0⟩] scope gpos) 0 (.ref it) .none (genEnv scope (cloFrom X.env.cells scope.names []) h3.objs.size code builtinsNs X.env)))) (t5 := tk + 1 + 1 + 1)
        (h5 := h'.push go) (a := h'.objs.size) (go := go) I3 ok hN hnc f3 hA hfr keep5 (hn'.push _) hlt hga (fun v z => by subst hgo; cases z) (AllBare.push I2.bare rfl)
      exact Z
  cases hf : codeAmong gpos ps.toList with
  | none =>
    refine wpAny_genexprCodeX hcode (cd.code hPs ht) (cd.tab hPs) hf fun c' h' tk hx hge hlt hco' _ htab' _ => ?_
    obtain ⟨o1, vs, f1, tf, fl, tg', inF, tx, tt, op, _, _, _, _, _, _, _, _, _, htr, _⟩ := hco'
    exact cont _ h' tk _ hx (Nat.le_trans hge (Nat.le_of_lt hlt)) htab'.2 htr
  | some cv =>
    refine wpAny_genexprCode_hit hcode (cd.code hPs ht) hf ?_
    have e0 : ps ++ #[] = ps := by simp
    exact cont cv s2.heap s2.toks #[] (Heap.ExtBut.refl _ _) (Nat.le_refl _) (by rw [e0]; exact hPs) (by rw [e0]; exact ht)
theorem gen_back {A' : Around} {s3 s' : Shared} {cenv : Env} {fp : List Addr} {pn pins' : List (Addr × Obj)} {σ' : L2.St} {H' : Hp} (I3 : Inv X pins σ H s3) (f3 : ∀ b ∈ fp, FpOk X pins H b ∧ b < s3.heap.objs.size) (I' : Inv (gcx X A' s3 H cenv fp pn) pins' σ' H' s') : Inv X pins σ H' s' :=
  I3.call' (ch := fp) I'.os I'.base I'.hok I'.bare fun b hb => ⟨(f3 b hb).1.2.2.2.1, (f3 b hb).1.2.1, (f3 b hb).1.2.2.2.2.1, (f3 b hb).1.2.2.2.2.2⟩
end

section
variable {X : Cx} {tn : Nat → Heap → Prop} {fp : List Addr} {σw : L2.St} {W : Nat → Nat → Unit → Hp → Prop} {Fin : Unit → Hp → Prop} {Cons : Nat → Nat → Unit → V → Hp → Prop} {Hit : Hp → Prop} {A : Around} {R : Result → Shared → Prop} {a : Addr} {go : Obj} {g : Nat}
end
end GE

set_option maxHeartbeats 2000000
namespace GE
open PySem PySem.Spec PyProof.Rows L2 GenW GxR
section
variable {X : Cx} {c P : Addr} {elt tg iter : Expr} {ifs : List Expr} {scope : Scope} {own : List (Str × Nat)} {p pos gpos : Pos} {wi : TI} {g : TG} {tt : TT} {te : TE} {k : Nat}
theorem frames_in {B : Around} {e : Env} {l : List Env} (h : B.frames = some l) : (B.deeper e).frames = some (e :: l) := by
  obtain ⟨h1, h2, h3, h4, h5⟩ := B
  cases (show h3 = some l from h)
  rfl
end
end GE

set_option maxHeartbeats 2000000
namespace GE
open PySem PySem.Spec PyProof.Rows L2 GenW GxR
def tTupX (P : Addr) (wi : TI) (g : TG) (tt : TT) (te : TE) (vs : List Nat) : TE := fun σ H Q => wi σ H fun J H1 => TabG H1 P ∧ ∀ H2, Tabbed P H1 H2 → ∃ W : Nat → Nat → List V → Hp → Prop, (∃ m, W 0 m [] H2) ∧ ∀ i m ys H, W i m ys H →
  (J.stop i H ∧ ys.length ≤ sizeLine ∧ ∀ p, H p = none → Q (.ref p) (upd H p (.tup ys))) ∨ (J.go i H ∧ ∀ x H', J.yld i H x H' → g x (wipe σ vs) H' fun σ2 H2 => wipe σ2 vs = wipe σ vs ∧ tt σ2 H2 fun b H3 =>
    if b = true then te σ2 H3 fun y H4 => ys.length < sizeLine ∧ ∃ m', m' < m ∧ W (i + 1) m' (ys ++ [y]) H4 else ∃ m', m' < m ∧ W (i + 1) m' ys H3)
abbrev Z3 := List V × Array Value × Nat
abbrev pz3 (S : Addr) : Z3 → List (Addr × Obj) := fun z => [(S, lstObj z.2.1 z.2.2)]
abbrev W3 (W : Nat → Nat → List V → Hp → Prop) : Nat → Nat → Z3 → Hp → Prop := fun i m z H => W i m z.1 H
abbrev F3 (F : List V → Hp → Prop) : Z3 → Hp → Prop := fun z H => F z.1 H
abbrev C3 (W : Nat → Nat → List V → Hp → Prop) : Nat → Nat → Z3 → V → Hp → Prop := fun i m z y H => z.1.length < sizeLine ∧ ∃ m', m' < m ∧ W (i + 1) m' (z.1 ++ [y]) H
abbrev Zi3 : Z3 → Prop := fun z => Vals z.1 z.2.1.toList
section
variable {X : Cx} {tn : Nat → Heap → Prop} {fp : List Addr} {σw : L2.St} {W : Nat → Nat → List V → Hp → Prop} {Fi : List V → Hp → Prop} {A : Around} {R : Result → Shared → Prop} {a S : Addr} {go : Obj} {g : Nat} {res : Value}
def TRdy (X : Cx) (B : Around) (tn : Nat → Heap → Prop) (fp : List Addr) (σw : L2.St) (S : Addr) (W : Nat → Nat → List V → Hp → Prop) (Fi : List V → Hp → Prop) (g n : Nat) (s : Shared) : Prop :=
  ∃ i m z H gs, m + 1 ≤ n ∧ GInv X tn fp σw (pz3 S) Zi3 (W3 W) i m z H s ∧ s.gens[g]? = some gs ∧ ∀ s'', GInv X tn fp σw (pz3 S) Zi3 (W3 W) i m z H s'' →
    gs.Goes (model X.prog X.w) B (fun _ _ r s1 => r = .ok .next ∧ GEnd0 X σw (pz3 S) Zi3 (F3 Fi) s1) (GPro X tn fp σw (pz3 S) Zi3 (W3 W) (C3 W)) n (.send .none) s''
theorem ext_gloop (hh : A.handled = none) (hd : A.depth < recursionLimit) (hgen : ∀ h : Heap, h.get? a = some go → h.IsGen a g) (hpn : X.pn = [(a, go)]) (hSa : a ≠ S) (hAp : Apart X S) (hSf : S ∉ fp)
    (hkeep : ∀ i (h h' : Heap), tn i h → (∀ b ∈ fp, ∀ o, h.get? b = some o → h'.get? b = some o) → tn i h')
    (hend : ∀ s' H' ys acc c, Inv X [(S, lstObj acc c)] σw H' s' → Vals ys acc.toList → Fi ys H' → R (.ok (.ret res)) s') :
    ∀ (n : Nat) (s : Shared), TRdy X A.in1.in1 tn fp σw S W Fi g n s → codeAny (model X.prog X.w) A (.builtin "list.extend.loop" ⟨[.ref S, .ref a, res], []⟩) R s := by
  intro n
  induction n with
  | zero => intro s ⟨i, m, z, H, gs, hm, _⟩; omega
  | succ n ih =>
    intro s ⟨i, m, z, H, gs, hm, G, hgs, hgo⟩
    have hgl : g < s.gens.size := (Array.getElem?_eq_some_iff.mp hgs).1
    refine codeAny_builtin F.entry_extend_loop ?_
    rw [Around.under_plainId F.plain_extend_loop _]
    show wpAny _ A.in1 (pyNext (.ref a) >>= _) _ _ s
    refine wpAny_bind (wpAny_gsz (n := g + 1) hgl (wpAny_pyNext_genexpQ (A := A.in1) (P := fun _ _ s1 => GEnd0 X σw (pz3 S) Zi3 (F3 Fi) s1) hh G.1.nolimit hd (hgen _ (G.1.pin (a, go) (List.mem_append_left _ (by rw [hpn]; exact List.mem_singleton.mpr rfl))).1) hgs (hgo _ ⟨inv_set G.1 rfl, G.2⟩) (fun v s₁ gs' hb hv => ?_) (fun s₁ hp h' hk => ?_)))
    · intro hsz
      obtain ⟨i', m', ⟨ys, acc, c⟩, H', y, hmn, ry, I', st', nf', rv, ⟨hlt, m'', hm'', w⟩, kap⟩ := hv
      have hsz1 : g < s₁.gens.size := by
        have q : (s₁.setGen g gs').gens.size = s₁.gens.size := setGen_size _ _ _
        have hsz' : g + 1 ≤ (s₁.setGen g gs').gens.size := hsz
        omega
      have hS1 : s₁.heap.get? S = some (lstObj acc c) := (I'.pin (S, lstObj acc c) (List.mem_append_right _ List.mem_cons_self)).1
      have hacc : acc.size = ys.length := by
        have e1 : ys.length = acc.toList.length := rv.length
        have e2 : acc.toList.length = acc.size := by simp
        omega
      have hmn' : m' ≤ n := hmn
      show wpAny _ A.in1 (updateSeq S (·.push v) >>= _) _ _ _
      refine wpAny_bind ?_
      have GI1 : GI X S [] ys σw H' s₁ := ⟨acc, c, rv, I'⟩
      have GI2 := GI1.woken (fun p hp => by rw [hpn] at hp; rw [List.mem_singleton.mp hp]; exact hSa) (fun p hp => absurd hp (by simp)) hAp ry (Slept.push (G := (s₁.setGen g gs').gens) hS1 (allBare_set I'.bare hb))
      obtain ⟨acc2, c2, rv2, I2⟩ := GI2
      refine wpAny_updateSeq (s := s₁.setGen g gs') hS1 rfl (wpAny_pure ⟨plainId_quiet F.plain_extend_loop _, ih _ ⟨i' + 1, m'', (ys ++ [y], acc2, c2), H', gs', by omega, ⟨I2, hkeep _ _ _ st' (fun b hb o e => (Heap.get?_update_other _ _ (fun h : S = b => hSf (by rw [h]; exact hb))).trans e), nf', rv2, w⟩, set_at hsz1, fun s'' G'' => kap m'' _ H' s'' hm'' G''⟩⟩)
        (by have h9 : ys.length < sizeLine := hlt; omega) (by have h9 : ys.length < sizeLine := hlt; show (acc.push v).size ≤ sizeLine + 1; rw [Array.size_push]; omega)
    · intro hsz
      obtain ⟨⟨ys, acc, c⟩, H', I', rv, fin⟩ := hp
      exact wpAny_pure (hend _ H' ys acc c ((inv_set I' (g := g) (x := .finished) rfl).kept (t' := s₁.toks) hk) rv fin)
theorem wpAny_collectG {Q : List Value → Shared → Prop} {E : Value → Shared → Prop} {s : Shared} (hh : A.handled = none) (hd : A.depth < recursionLimit) (hgen : ∀ h : Heap, h.get? a = some go → h.IsGen a g) (hga : s.heap.get? a = some go)
    (hX : ∀ S, s.heap.objs.size ≤ S → ∀ s', (∀ b o, s.heap.get? b = some o → s'.heap.get? b = some o) → s'.os = s.os → s'.gens = s.gens → s'.drawn = s.drawn → (∃ c, s'.heap.get? S = some (lstObj #[] c)) →
      codeAny (model X.prog X.w) A (.builtin "list.extend.loop" ⟨[.ref S, .ref a, .ref S], []⟩) (fun r s' => r = .ok (.ret (.ref S)) ∧ ∃ acc c, s'.heap.get? S = some (lstObj acc c) ∧ Q acc.toList s') s') :
    wpAny (model X.prog X.w) A (collect (.ref a)) Q E s := by
  have hSI : s.heap.objs.size ≠ a := Nat.ne_of_gt (Heap.lt_size hga)
  unfold collect
  refine wpAny_bind (wpAny_runValue (codeAny_builtin F.entry_proto_collect ?_))
  rw [Around.under_plainId F.plain_proto_collect _]
  show wpAny _ A.in1 (newList [] >>= fun l => again (.builtin "list.__iadd__" ⟨[l, .ref a], []⟩)) _ _ s
  refine wpAny_bind (wpAny_newObj_type ?_)
  refine wpAny_pure ⟨plainId_quiet F.plain_list_iadd _, codeAny_builtin F.entry_list_iadd ?_⟩
  rw [Around.under_plainId F.plain_list_iadd _]
  have k1 : ∀ b o, s.heap.get? b = some o → (s.heap.push { cls := .type "list", data := .seq ([] : List Value).toArray }).get? b = some o := fun b o e => Heap.get?_push_of_some _ e
  have gty : ∀ {h : Heap}, (∀ b o, s.heap.get? b = some o → h.get? b = some o) → h.IsGen a g := fun {h} q => hgen h (q _ _ hga)
  show wpAny _ A.in1 (Builtin.List.listExtendWith (.ref s.heap.objs.size) (.ref a) (.ref s.heap.objs.size)) _ _ _
  unfold Builtin.List.listExtendWith
  refine wpAny_bind (wpAny_typeOf (Heap.IsGen.typeIs (s := { s with heap := _ }) (gty k1)) ?_)
  have h1 : Builtin.List.listSameRef (.ref s.heap.objs.size) (.ref a) = false := by simp [Builtin.List.listSameRef, hSI]
  have h2 : (Value.type "generator" == Value.type "list") = false := by decide
  have h3 : (Value.type "generator" == Value.type "tuple") = false := by decide
  simp only [h1, h2, h3, Bool.or_false, Bool.false_eq_true, if_false]
  refine wpAny_bind (wpAny_pyIter_gen (s := { s with heap := _ }) (gty k1) ?_)
  refine wpAny_bind (wpAny_holding ?_)
  unfold Builtin.List.listLengthHint
  refine wpAny_bind (wpAny_specialOf (Heap.IsGen.typeIs (s := { s with heap := _ }) (gty k1)) F.gen_no_len ?_)
  show wpAny _ A.in1 (specialOf (Value.ref a) (Str.ofString "__length_hint__") >>= _) _ _ _
  refine wpAny_bind (wpAny_specialOf (Heap.IsGen.typeIs (s := { s with heap := _ }) (gty k1)) F.gen_no_hint ?_)
  refine wpAny_pure ?_
  show wpAny _ A.in1 (rule "list.extend.makes-room" >>= fun _ => Builtin.List.listTouch (.ref s.heap.objs.size) >>= fun _ =>
    again (.builtin "list.extend.loop" ⟨[.ref s.heap.objs.size, .ref a, .ref s.heap.objs.size], []⟩)) _ _ _
  refine wpAny_bind (wpAny_rule ?_)
  have hS₁ : (s.heap.push { cls := .type "list", data := .seq ([] : List Value).toArray }).get? s.heap.objs.size = some { cls := .type "list", data := .seq ([] : List Value).toArray } := Heap.get?_push_size _ rfl
  refine wpAny_bind ?_
  show wpAny _ A.in1 (updateSeq s.heap.objs.size (·.push .none) >>= fun _ => updateSeq s.heap.objs.size (·.pop)) _ _ _
  refine wpAny_bind (wpAny_updateSeq hS₁ rfl ?_)
  have hS₂ := Heap.get?_update_self (Obj.mapSeq (·.push Value.none)) hS₁ rfl
  refine wpAny_updateSeq (hz := by seq_fits) hS₂ rfl ?_
  have hS₃ := Heap.get?_update_self (Obj.mapSeq (·.pop)) hS₂ rfl
  refine wpAny_pure ⟨plainId_quiet F.plain_extend_loop _, codeAny_mono (hX s.heap.objs.size (Nat.le_refl _) _ (fun b o e => (Heap.get?_update_other _ _ (Ne.symm (Nat.ne_of_lt (Heap.lt_size e)))).trans ((Heap.get?_update_other _ _ (Ne.symm (Nat.ne_of_lt (Heap.lt_size e)))).trans (k1 b o e))) rfl rfl rfl ⟨_, hS₃⟩) fun r s' hr => ?_⟩
  obtain ⟨rfl, acc, c, hS', q⟩ := hr
  show wpAny _ A (load s.heap.objs.size >>= _) _ _ s'
  exact wpAny_bind (wpAny_load hS' (wpAny_pure q))
end
end GE

set_option maxHeartbeats 2000000
namespace GE
open PySem PySem.Spec PyProof.Rows L2 GenW GxR
section
variable {X : Cx} {A : Around} {a : Addr} {go : Obj} {g : Nat} {E : Value → Shared → Prop} {s : Shared}
theorem code_tuple_newG {Q₁ : Value → Shared → Prop} (hh : A.handled = none) (hd : A.depth < recursionLimit) (hgen : ∀ h : Heap, h.get? a = some go → h.IsGen a g) (hga : s.heap.get? a = some go)
    (hX : ∀ S, s.heap.objs.size ≤ S → ∀ s', (∀ b o, s.heap.get? b = some o → s'.heap.get? b = some o) → s'.os = s.os → s'.gens = s.gens → s'.drawn = s.drawn → (∃ c, s'.heap.get? S = some (lstObj #[] c)) →
      codeAny (model X.prog X.w) A.in1 (.builtin "list.extend.loop" ⟨[.ref S, .ref a, .ref S], []⟩) (fun r s' => r = .ok (.ret (.ref S)) ∧ ∃ acc c, s'.heap.get? S = some (lstObj acc c) ∧ acc.size ≤ sizeLine ∧ Q₁ (.ref s'.heap.objs.size) { s' with heap := s'.heap.push { cls := .type "tuple", data := .seq acc } }) s') :
    codeAny (model X.prog X.w) A (.call (.builtin "tuple.__new__") ⟨[.type "tuple", .ref a], []⟩) (wants Q₁ E) s := by
  refine codeAny_of_tree ?_
  show wpAny _ A.in1 (do checkBuiltinCall "tuple.__new__" ⟨[.type "tuple", .ref a], []⟩; again (.builtin "tuple.__new__" ⟨[.type "tuple", .ref a], []⟩)) _ _ s
  refine wpAny_bind (wpAny_of_eq (F.newCall_tuple_1 _) (wpAny_pure ⟨plainId_quiet F.plain_tuple_new _, codeAny_builtin F.entry_tuple_new ?_⟩))
  rw [Around.under_plainId F.plain_tuple_new _]
  have hsub := sub_tuple_self
  have hinit := init_tuple_lookup
  have hmh := madeHere_tuple
  have hTI := (hgen _ hga).typeIs (s := s)
  wp_walk using wpAny_typeOf hTI, wpAny_collectG (X := X) (A := A.in1) hh hd hgen hga
  intro S hS s' kp os gs dr hl
  refine codeAny_mono (hX S hS s' kp os gs dr hl) fun r s'' hr => ?_
  obtain ⟨e, acc, c, h1, h2, q⟩ := hr
  refine ⟨e, acc, c, h1, ?_⟩
  show wpAny _ _ (Builtin.Tuple.tupleExact acc.toList.toArray >>= fun v => ret v) _ _ _
  unfold Builtin.Tuple.tupleExact
  refine wpAny_bind (wpAny_newObj_type ?_ (by show acc.toList.toArray.size ≤ sizeLine; simp only [Array.toArray_toList]; exact h2))
  refine wpAny_pure ?_
  have e : acc.toList.toArray = acc := by simp
  rw [e]
  exact q
theorem call_tupleG {Q : Value → Shared → Prop} (hh : A.handled = none) (hd : A.depth < recursionLimit) (hgen : ∀ h : Heap, h.get? a = some go → h.IsGen a g) (hga : s.heap.get? a = some go)
    (hX : ∀ S, s.heap.objs.size ≤ S → ∀ s', (∀ b o, s.heap.get? b = some o → s'.heap.get? b = some o) → s'.os = s.os → s'.gens = s.gens → s'.drawn = s.drawn → (∃ c, s'.heap.get? S = some (lstObj #[] c)) →
      codeAny (model X.prog X.w) A.in1.in1 (.builtin "list.extend.loop" ⟨[.ref S, .ref a, .ref S], []⟩) (fun r s' => r = .ok (.ret (.ref S)) ∧ ∃ acc c, s'.heap.get? S = some (lstObj acc c) ∧ acc.size ≤ sizeLine ∧ Q (.ref s'.heap.objs.size) { s' with heap := s'.heap.push { cls := .type "tuple", data := .seq acc } }) s') :
    wpAny (model X.prog X.w) A (call (.type "tuple") [.ref a]) Q E s := by
  refine callType_codes (Q₁ := fun obj s₁ => s₁.TypeIs obj "tuple" ∧ Q obj s₁) F.called_tuple (F.typeCall_tuple_1 _) F.entry_object_init
    (code_tuple_newG (X := X) (A := A.in1) hh hd hgen hga fun S hS s' kp os gs dr hl => codeAny_mono (hX S hS s' kp os gs dr hl) fun r s'' hr => ?_) fun obj s₁ h₁ => ?_
  · obtain ⟨e, acc, c, h1, h2, q⟩ := hr
    exact ⟨e, acc, c, h1, h2, ⟨_, Heap.get?_push_size _ rfl, rfl⟩, q⟩
  · exact ⟨h₁.1, F.args_object_init_2 obj _, object_init_meets F.called_tuple.init.lookup F.called_tuple.made (by decide) X.prog X.w A.in1 _ s₁ ⟨h₁.1, rfl, h₁.2⟩⟩
end
section
variable {X : Cx} {c P : Addr} {elt tg iter : Expr} {ifs : List Expr} {scope : Scope} {own : List (Str × Nat)} {p pos gpos : Pos} {wi : TI} {g : TG} {tt : TT} {te : TE} {k : Nat}
theorem room_in4 {A : Around} {e : Env} (hr : Room (k + 1) A) : Room k (A.in1.in1.in1.in1.deeper e) :=
  ⟨hr.hd, by have := hr.dp; show A.depth + 1 + 3 * k + 5 < _; omega, by have := hr.un; show A.units + 1 + 1 + 1 + 1 + 3 + 16 * k + 200 < _; omega⟩
theorem pe_tupG (hc : X.calm = true) (hr : Room (k + 1) X.A) (hg : Gl X "tuple") (hm : X.mg "tuple" = none) (hb : bootBuiltins "tuple" = some (.type "tuple")) (TB : TabB X.base X.mg c P) (hcode : X.env.code = .ref c) (hco : scope.isCoroutine = false) (hdot : scope.names.lookup (".0" : Str) = some NameKind.local)
    (ok : BlkOk X.N X.env.scope scope own) (hN : X.N.Nodup) (hnc : ∀ y ∈ scope.names, y.2 ≠ .cell) (hi : PI X tg iter wi)
    (hgt : ∀ (A' : Around) (s : Shared) (H : Hp) (C : Addr) (cd : Value) (fp : List Addr) (pn : List (Addr × Obj)), Room k A' → A'.guards = X.A.guards → PG (gcx X A' s H (genEnv scope (cloFrom X.env.cells scope.names []) C cd builtinsNs X.env) fp pn) tg g)
    (htt : ∀ (A' : Around) (s : Shared) (H : Hp) (C : Addr) (cd : Value) (fp : List Addr) (pn : List (Addr × Obj)), Room k A' → A'.guards = X.A.guards → PTs (gcx X A' s H (genEnv scope (cloFrom X.env.cells scope.names []) C cd builtinsNs X.env) fp pn) ifs tt)
    (hte : ∀ (A' : Around) (s : Shared) (H : Hp) (C : Addr) (cd : Value) (fp : List Addr) (pn : List (Addr × Obj)), Room k A' → A'.guards = X.A.guards → PE (gcx X A' s H (genEnv scope (cloFrom X.env.cells scope.names []) C cd builtinsNs X.env) fp pn) elt te)
    (hs : ∀ v, genFold iter X.env v = pure v := by intro _; rfl)
    (he : starEach [.GeneratorExp elt [⟨tg, iter, ifs, 0⟩] scope gpos] X.env = (false, eval (.GeneratorExp elt [⟨tg, iter, ifs, 0⟩] scope gpos) X.env) :: starEach [] X.env := by rfl) :
    PE X (.Call (.Name "tuple" p) [.GeneratorExp elt [⟨tg, iter, ifs, 0⟩] scope gpos] [] pos) (tTupX P wi g tt te (own.map (·.2))) := by
  refine ⟨fun pins s σ H Q I h => ?_⟩
  refine wpAny_Call_Name_kw (ld_blt I hg hm hb ?_)
  refine PyProof.Rows.callWith_type1 ?_ he (by rfl)
  rw [he]
  show wpAny _ _ (spliced ((false, eval (.GeneratorExp elt [⟨tg, iter, ifs, 0⟩] scope gpos) X.env) :: backTo pos (starEach [] X.env))) _ _ s
  refine Calls.spliced_cons (gen_make hr TB hcode hco hdot ok hN hnc hi hs I h fun J H2 a s5 q hG => ?_)
  refine Calls.spliced_nil ?_
  obtain ⟨s3, fp, it, tn, code, go, gn, I3, T, f3, st5, hgen, hga, hgs, hsa, hs5, mk⟩ := hG
  have I5 := mk (X.A.in1.in1.in1.in1.deeper (genEnv scope (cloFrom X.env.cells scope.names []) s3.heap.objs.size code builtinsNs X.env)) (fun _ => hr.hd) (frames_in I.ok.frames)
  have hr' := room_in4 (e := genEnv scope (cloFrom X.env.cells scope.names []) s3.heap.objs.size code builtinsNs X.env) hr
  have pg := hgt _ s3 H2 s3.heap.objs.size code fp [(a, go)] hr' rfl
  have pt := htt _ s3 H2 s3.heap.objs.size code fp [(a, go)] hr' rfl
  have pe := hte _ s3 H2 s3.heap.objs.size code fp [(a, go)] hr' rfl
  obtain ⟨W, ⟨m0, w0⟩, turn⟩ := q
  have hlt : ∀ b ∈ fp, b < a := fun b hb => Nat.lt_trans (f3 b hb).2 hsa
  generalize hXg : gcx X (X.A.in1.in1.in1.in1.deeper (genEnv scope (cloFrom X.env.cells scope.names []) s3.heap.objs.size code builtinsNs X.env)) s3 H2 (genEnv scope (cloFrom X.env.cells scope.names []) s3.heap.objs.size code builtinsNs X.env) fp [(a, go)] = Xg at I5 pg pt pe
  have hover : X.A.in1.in1.in1.in1.over (.compLoop (.GeneratorExp elt [⟨tg, iter, ifs, 0⟩] scope gpos) 0 (.ref it) .none Xg.env) [] = Xg.A := by subst hXg; exact over_gen
  have ew : (model X.prog X.w) = model Xg.prog Xg.w := by subst hXg; rfl
  let Fi : List V → Hp → Prop := fun ys H => ys.length ≤ sizeLine ∧ ∀ p, H p = none → Q (.ref p) (upd H p (.tup ys))
  refine call_tupleG (X := X) (A := X.A) hr.hd (by have := hr.dp; omega) hgen hga fun S hS s6 kp os gs dr hl => ?_
  obtain ⟨c0, hS6⟩ := hl
  have hSa : a < S := by
    have h1 : s5.heap.objs.size ≤ S := hS
    rw [hs5] at h1
    exact h1
  have I6' : Inv Xg [] (wipe σ (own.map (·.2))) H2 s6 := by
    have z := I5.kept (h' := s6.heap) (t' := s6.toks) kp
    have e : ({ s5 with heap := s6.heap, toks := s6.toks } : Shared) = s6 := by
      cases s6
      cases os
      cases gs
      cases dr
      rfl
    rw [e] at z
    exact z
  have young : H2 S = none ∧ S ≠ Xg.env.locals ∧ S ∉ Xg.fs ∧ Xg.s_0.heap.objs.size ≤ S ∧ ∀ x c, Xg.env.cells.lookup x = some c → c ≠ S := by
    have h0 : s5.heap.objs.size ≤ S := hS
    refine ⟨I5.hok.fresh h0, Nat.ne_of_gt (Nat.lt_of_lt_of_le I5.lt h0), I5.nofs h0, Nat.le_trans I5.sz h0, fun x c e z => ?_⟩
    obtain ⟨v, q⟩ := I5.cell x c e
    exact absurd (Nat.lt_of_lt_of_le q.lt (by rw [z]; exact h0)) (Nat.lt_irrefl _)
  obtain ⟨y1, y2, y3, y4, y5⟩ := young
  have I6 : Inv Xg (pz3 S ([], #[], c0)) (wipe σ (own.map (·.2))) H2 s6 := I6'.pins_of fun p hp => by
    rw [List.mem_singleton.mp hp]
    exact ⟨hS6, y1, y2, y3, fun v z => by cases z⟩
  have hpz : ∀ z : Z3, ∀ p ∈ Xg.pn ++ pz3 S z, ∀ b ∈ fp, p.1 ≠ b := fun z p hp b hb => by
    subst hXg
    rcases List.mem_append.mp hp with hp | hp
    · rw [List.mem_singleton.mp hp]
      exact Nat.ne_of_gt (hlt b hb)
    · rw [List.mem_singleton.mp hp]
      exact Nat.ne_of_gt (Nat.lt_trans (hlt b hb) hSa)
  have st6 : tn 0 s6.heap := T.keep _ _ _ st5 fun b _ o e => kp b o e
  have G0 : GInv Xg tn fp (wipe σ (own.map (·.2))) (pz3 S) Zi3 (W3 W) 0 m0 ([], #[], c0) H2 s6 := ⟨I6, st6, fun b hb => (f3 b hb).1.1, .nil, w0⟩
  have start := fun s'' G => seg_gstart (X := Xg) (B := X.A.in1.in1.in1.in1) (J := J) (vs := own.map (·.2)) (pz := pz3 S) (Zi := Zi3) (W := W3 W) (Fin := F3 Fi) (Cons := C3 W)
    hover (by subst hXg; exact T) (by subst hXg; exact hc) (by subst hXg; rfl) (by subst hXg; rfl) hpz pg pt pe (by subst hXg; exact hco) (fun i m z H w => turn i m z.1 H w) m0 (m0 + 1) 0 ([], #[], c0) H2 s'' s'' (Nat.le_refl _) G
  have hAp : Apart Xg S := ⟨y4, y2, y5⟩
  rw [ew]
  refine ext_gloop (X := Xg) (A := X.A.in1.in1) (tn := tn) (fp := fp) (σw := wipe σ (own.map (·.2))) (W := W) (Fi := Fi) (go := go) (g := gn) hr.hd (by have := hr.dp; show X.A.depth < _; omega) hgen (by subst hXg; rfl) (Nat.ne_of_lt hSa) hAp (fun hm => absurd (Nat.lt_trans (hlt S hm) hSa) (Nat.lt_irrefl _)) T.keep (fun s' H' ys acc c I' rv q => ?_) (m0 + 1) s6 ⟨0, m0, _, H2, _, Nat.le_refl _, G0, (show s6.gens[gn]? = some (.fresh _) from by rw [gs]; exact hgs), fun s'' G => ⟨rfl, ?_⟩⟩
  · obtain ⟨ql, qq⟩ := q
    have hS' := (I'.pin (S, lstObj acc c) (List.mem_append_right _ List.mem_cons_self)).1
    have hacc : acc.size = ys.length := by
      have e1 : ys.length = acc.toList.length := rv.length
      have e2 : acc.toList.length = acc.size := by simp
      omega
    refine ⟨rfl, acc, c, hS', by omega, ?_⟩
    subst hXg
    have J' := gen_back I3 f3 I'
    have n0 : H' s'.heap.objs.size = none := J'.hok.fresh (Nat.le_refl _)
    refine ⟨.ref s'.heap.objs.size, _, J'.laid (a := s'.heap.objs.size) (o := .tup ys) (t' := s'.toks) (h' := s'.heap.push { cls := .type "tuple", data := .seq acc }) (fun b o e => Heap.get?_push_of_some _ e) (Nat.le_refl _) ⟨ql, acc.toList, rv, ?_⟩, rfl, qq _ n0⟩
    have e : acc.toList.toArray = acc := by simp
    rw [e]
    exact ⟨_, Heap.get?_push_size _ rfl, rfl, 0, rfl⟩
  · have := start s'' G
    subst hXg
    exact this
end
end GE

set_option maxHeartbeats 2000000
namespace GT
open PySem PySem.Spec PyProof.Rows L2 GxR
abbrev tab0 : Obj := { cls := .none, data := .fields #[] }
def OnlyT (cs : List (Addr × Addr)) (H : Hp) : Prop := ∀ b, H b = none ∨ b ∈ cs.map (·.2) ∨ ∃ o xs, H b = some (.frz o (.lst xs))
theorem law_GT {P : Program} {w : World} {K : PySem.W.Frag} {mg mb : Str → Option Value} {k : Nat} {fa a : Addr} {cs : List (Addr × Addr)} {fd : FuncData} {x : Str} {sp : Sp} {s₁ : Shared} {vs : List Value} {ns : List Int}
    (KX : K.In s₁.heap) (hns : s₁.heap.Ns mainGlobals mg) (hb : s₁.heap.Ns builtinsNs mb) (hbb : ∀ x : Str, x ≠ "__name__" → mb x = bootBuiltins x) (hlim : s₁.heap.NoLimit) (hg : s₁.gens = #[])
    (hT : ∀ p ∈ cs, s₁.heap.get? p.2 = some tab0) (nT : ∀ p ∈ cs, K.lookup p.2 = none) (C : ∀ p ∈ cs, PySem.W.CodeHd s₁.heap p.1 p.2)
    (hbm : ∃ (bm : Addr) (ob : Obj), mg "__builtins__" = some (.ref bm) ∧ bm ≠ builtinsNs ∧ s₁.heap.get? bm = some ob ∧ ob.cls = .type "module" ∧ ob.dict = some builtinsNs ∧ ob.data = .plain)
    (ha : s₁.heap.get? a = some { cls := .type "list", data := .seq vs.toArray }) (hi : IntsAre vs ns) (hl : ns.length ≤ sizeLine) (hr : Room k callerA)
    (F : ∀ base : Heap, K.In base → base.Ns mainGlobals mg → (∀ p ∈ cs, TabB base mg p.1 p.2) → GU.FnG P w K mg base k fa fd [x] sp) (hbind : ∀ (s : Shared) (u : Value), BindsTo s fd ⟨[u], []⟩ [(x, u)])
    (hsp : ∀ H : Hp, (∀ p ∈ cs, H p.2 = some (.tbl #[])) → OnlyT cs H → SqL K H a (ns.map V.int) → sp [.ref a] H (fun v _ => v = .bl true) fun _ _ _ => False) :
    codeAny (model P w) callerA (.call (.ref fa) ⟨[.ref a], []⟩) (fun r s' => r = .ok (.ret (.bool true)) ∧ OldK s₁.heap s'.heap ∧ s'.os = s₁.os ∧ AllBare s'.gens) s₁ := by
  have rv := vals_ints hi
  have lenV := hi.length
  have isT : ∀ b : Addr, b ∈ cs.map (·.2) → s₁.heap.get? b = some tab0 := fun b hb => by
    obtain ⟨p, hp, e⟩ := List.mem_map.mp hb
    rw [← e]
    exact hT p hp
  have aT : a ∉ cs.map (·.2) := fun z => by
    have q := isT a z
    rw [ha] at q
    have z' : Data.seq vs.toArray _ = Data.fields #[] := congrArg Obj.data (Option.some.inj q)
    cases z'
  have memT : ∀ p ∈ cs, p.2 ∈ cs.map (·.2) := fun p hp => List.mem_map.mpr ⟨p, hp, rfl⟩
  have core : ∀ H : Hp, (∀ p ∈ cs, H p.2 = some (.tbl #[])) → OnlyT cs H → SqL K H a (ns.map V.int) → HOk P w H s₁.heap → (∀ b, H b ≠ none → b = a ∨ b ∈ cs.map (·.2)) → (H a ≠ none → K.lookup a = none) →
      codeAny (model P w) callerA (.call (.ref fa) ⟨[.ref a], []⟩) (fun r s' => r = .ok (.ret (.bool true)) ∧ OldK s₁.heap s'.heap ∧ s'.os = s₁.os ∧ AllBare s'.gens) s₁ := by
    intro H hH hO hS hok hA hK
    have base_of : ∀ {b : Addr} {o : Obj}, s₁.heap.get? b = some o → H b = none → (hidT s₁.heap H).get? b = some o := fun e n => hidT_get e n
    have noD : ∀ {b : Addr} {o : Obj}, s₁.heap.get? b = some o → (∀ vs n, o.data ≠ .seq vs n) → o.data ≠ .fields #[] → H b = none := fun {b o} e h1 h2 => by
      cases q : H b with
      | none => rfl
      | some u =>
        rcases hA b (by rw [q]; simp) with e' | e'
        · rw [e', ha] at e
          cases e
          exact (h1 _ _ rfl).elim
        · rw [isT b e'] at e
          cases e
          exact (h2 rfl).elim
    have noA : ∀ {b : Addr} {o : Obj} {es : Array DictEntry} {ep : Nat}, s₁.heap.get? b = some o → o.data = .dict es ep → H b = none := fun {b o es ep} e d => by
      refine noD e (fun vs n z => ?_) fun z => ?_
      · rw [d] at z
        cases z
      · rw [d] at z
        cases z
    have nsK : ∀ {b : Addr} {m : Str → Option Value}, s₁.heap.Ns b m → (hidT s₁.heap H).Ns b m := fun {b m} ⟨o, es, ep, e, d, r⟩ => ⟨o, es, ep, base_of e (noA e d), d, r⟩
    have hKb : K.In (hidT s₁.heap H) := fun b o e => base_of (KX b o e) (by
      cases q : H b with
      | none => rfl
      | some u =>
        rcases hA b (by rw [q]; simp) with e' | e'
        · rw [e'] at e q
          rw [hK (by rw [q]; simp)] at e
          cases e
        · obtain ⟨p, hp, ep⟩ := List.mem_map.mp e'
          rw [← ep, nT p hp] at e
          cases e)
    have hM : L2.Mod K mg (hidT s₁.heap H) := ⟨hKb, nsK hns, ⟨mb, nsK hb, hbb⟩, let ⟨mc, h1, h2⟩ := hlim; ⟨mc, nsK h1, h2⟩⟩
    have TB : ∀ p ∈ cs, TabB (hidT s₁.heap H) mg p.1 p.2 := fun p hp => by
      have hTp := hT p hp
      refine ⟨?_, ?_, fun z => ?_⟩
      · obtain ⟨o, us, file, tf, flags, tg, inF, text, tt, e1, r1, r2, r3, r4, r5, r6, r7, r8, hne⟩ := C p hp
        refine ⟨o, us, file, tf, flags, tg, inF, text, tt, base_of e1 (noD e1 (fun vs n z => ?_) fun z => ?_), r1, r2, r3, r4, r5, r6, r7, r8, hne⟩
        · rw [r2] at z
          cases z
        · rw [r2] at z
          cases z
          simp at r3
      · obtain ⟨bm, ob, b1, b2, b3, b4, b5, b6⟩ := hbm
        have nG : bm ≠ mainGlobals := fun q => by
          obtain ⟨o, es, ep, e, hd, _⟩ := hns
          rw [q, e] at b3
          cases b3
          rw [hd] at b6
          cases b6
        have nP : bm ≠ p.2 := fun q => by
          rw [q, hTp] at b3
          cases b3
          cases b6
        refine ⟨bm, ob, b1, b2, nG, nP, base_of b3 (noD b3 (fun vs n z => ?_) fun z => ?_), b4, b5, b6⟩
        · rw [b6] at z
          cases z
        · rw [b6] at z
          cases z
      · obtain ⟨o, es, ep, e, hd, _⟩ := hns
        rw [z, hTp] at e
        cases e
        cases hd
    have e0 : Env0 P w K mg (hidT s₁.heap H) callerA [] s₁ H := ⟨rfl, hM, fun b o e => of_hidT e, Nat.le_of_eq (hidT_size _ _), trivial, fun b hb => absurd (show b ∈ ([] : List Addr) from hb) (by simp), hok, .of_eq hg⟩
    refine codeAny_mono ((F _ hKb (nsK hns) TB).go callerA [] s₁ H ⟨[.ref a], []⟩ [.ref a] [.ref a] _ _ hr rfl e0 (hbind s₁ (.ref a)) (.cons rfl .nil) (hsp H hH hO hS)) fun r s' h => ?_
    match r, h with
    | .error _, h => exact h.elim
    | .ok .next, h => exact h.elim
    | .ok .brk, h => exact h.elim
    | .ok .cont, h => exact h.elim
    | .ok (.ret u), h =>
      obtain ⟨v, H', os, bare, un, hok', r', q⟩ := h
      have q' : v = .bl true := q
      subst q'
      obtain rfl : u = Value.bool true := r'
      have key : ∀ b o, b ∉ cs.map (·.2) → s₁.heap.get? b = some o → s'.heap.get? b = some o := fun b o nb e => by
        cases q : H b with
        | none => exact un.keep b o e q (by intro z; exact absurd (show b ∈ ([] : List Addr) from z) (by simp)) (by simp)
        | some u =>
          rcases hO b with z | z | ⟨ob, xs, z⟩
          · rw [q] at z; cases z
          · exact absurd z nb
          · have z2 := un.frzs b ob _ z
            obtain ⟨e1, _⟩ := hok b _ z
            obtain ⟨e2, _⟩ := hok' b _ z2
            rw [e] at e1; cases e1
            exact e2
      have grown : ∀ p ∈ cs, ∃ more : Array Value, s'.heap.get? p.2 = some { cls := .none, data := .fields more } := fun p hp => by
        obtain ⟨more, z⟩ := un.tbls p.2 #[] (hH p hp)
        exact ⟨_, hok' p.2 _ z⟩
      refine ⟨rfl, ⟨fun b o e => ?_, fun b o e => ?_⟩, os, bare⟩
      · by_cases hb : b ∈ cs.map (·.2)
        · obtain ⟨p, hp, ep⟩ := List.mem_map.mp hb
          obtain ⟨more, hm⟩ := grown p hp
          rw [← ep] at e ⊢
          rw [hT p hp] at e
          cases e
          exact .inr (.inl ⟨((C p hp).tab (hT p hp)).isCodeTable, rfl, #[], more, rfl, by rw [Array.empty_append]; exact hm⟩)
        · exact .inl (key b o hb e)
      · by_cases hb : b ∈ cs.map (·.2)
        · obtain ⟨p, hp, ep⟩ := List.mem_map.mp hb
          obtain ⟨more, hm⟩ := grown p hp
          rw [← ep]
          exact ⟨_, hm⟩
        · exact ⟨o, key b o hb e⟩
  cases hk : K.lookup a with
  | some o =>
    have e := KX a o hk
    rw [ha] at e
    cases e
    refine core (fun b => if b ∈ cs.map (·.2) then some (.tbl #[]) else none) (fun p hp => if_pos (memT p hp)) (fun b => ?_) (.inr ⟨_, vs.toArray, _, hk, rfl, rfl, rfl, by rw [List.size_toArray, lenV]; exact hl, by simpa using rv⟩) (fun b u z => ?_) (fun b z => ?_) fun z => absurd (show (if a ∈ cs.map (·.2) then some (HO.tbl #[]) else none) = none from if_neg aT) z
    · by_cases hb : b ∈ cs.map (·.2)
      · exact .inr (.inl hb)
      · exact .inl (if_neg hb)
    · by_cases hb : b ∈ cs.map (·.2)
      · have z' := (if_pos hb).symm.trans z
        cases z'
        exact isT b hb
      · have z' := (if_neg hb).symm.trans z
        cases z'
    · by_cases hb : b ∈ cs.map (·.2)
      · exact .inr hb
      · exact absurd (if_neg hb) z
  | none =>
    refine core (fun b => if b = a then some (.frz { cls := .type "list", data := .seq vs.toArray } (.lst (ns.map V.int))) else if b ∈ cs.map (·.2) then some (.tbl #[]) else none) (fun p hp => (if_neg (show ¬ p.2 = a from fun z => aT (by rw [← z]; exact memT p hp))).trans (if_pos (memT p hp))) (fun b => ?_)
      (.inl (.inr ⟨{ cls := .type "list", data := .seq vs.toArray }, if_pos rfl⟩)) (fun b u z => ?_) (fun b z => ?_) fun _ => hk
    · by_cases hb : b = a
      · exact .inr (.inr ⟨_, _, if_pos hb⟩)
      · by_cases hb2 : b ∈ cs.map (·.2)
        · exact .inr (.inl hb2)
        · exact .inl ((if_neg hb).trans (if_neg hb2))
    · by_cases hb : b = a
      · have z' := (if_pos hb).symm.trans z
        cases z'
        rw [hb]
        exact ⟨ha, by rw [List.length_map]; exact hl, vs, _, rv, ha⟩
      · have z1 := (if_neg hb).symm.trans z
        by_cases hb2 : b ∈ cs.map (·.2)
        · have z' := (if_pos hb2).symm.trans z1
          cases z'
          exact isT b hb2
        · have z' := (if_neg hb2).symm.trans z1
          cases z'
    · by_cases hb : b = a
      · exact .inl hb
      · by_cases hb2 : b ∈ cs.map (·.2)
        · exact .inr hb2
        · exact absurd ((if_neg hb).trans (if_neg hb2)) z
def LawAt (P : Program) (w : World) (k n : Nat) (x : Str) (mg : Str → Option Value) (fa : Addr) (h : Heap) : Prop :=
  ∃ K : PySem.W.Frag, K.In h ∧ ∃ (fd : FuncData) (cs : List (Addr × Addr)) (sp : Sp), (∀ p ∈ cs, h.get? p.2 = some tab0) ∧ (∀ p ∈ cs, K.lookup p.2 = none) ∧ (∀ p ∈ cs, PySem.W.CodeHd h p.1 p.2) ∧ (∀ (s : Shared) (u : Value), BindsTo s fd ⟨[u], []⟩ [(x, u)]) ∧
    (∀ (H : Hp) (a : Addr) (ns : List Int), ns.length ≤ n → (∀ p ∈ cs, H p.2 = some (.tbl #[])) → OnlyT cs H → SqL K H a (ns.map V.int) → sp [.ref a] H (fun v _ => v = .bl true) fun _ _ _ => False) ∧
    ∀ base : Heap, K.In base → base.Ns mainGlobals mg → (∀ p ∈ cs, TabB base mg p.1 p.2) → GU.FnG P w K mg base k fa fd [x] sp
theorem walk_GT {l : PySem.W.OpenLaw} {n k : Nat} {q : Program} {loose : List Str} {XP : (Str → Option Value) → Heap → Prop} {YP : World → Heap → Prop} {d : DefRec} {x : Str}
    (hn : l.most = some n) (hn2 : n ≤ sizeLine) (hdf : d.params.defaults = []) (hr : Room k callerA)
    (F : ∀ (w : World) (mg : Str → Option Value) (fa : Addr) (h : Heap), YP w h → h.Ns mainGlobals mg → mg d.name = some (.ref fa) → LawAt l.prog w k n x mg fa h) :
    PySem.W.WalkO q loose XP YP l.row.toRowW d [] (fun f vs => PySem.call f vs) := by
  refine Att.attach_callB hn hdf fun w s₀ s₁ mg mb fa o pm cd doc a vs ns G Y ho hd hcd hmg hobj hints hlen hbits hg => ?_
  obtain ⟨K, KX, fd, cs, sp, hT, nT, C, hb, hsp, hF⟩ := F w mg fa _ Y G.T.g hmg
  exact law_GT KX G.T.g G.T.b G.T.builtins G.T.nolimit hg hT nT C G.T.bmain hobj hints (Nat.le_trans hlen hn2) hr hF hb fun H hH hO hS => hsp H a ns hlen hH hO hS
theorem law_at {P : Program} {w : World} {K : PySem.W.Frag} {k n : Nat} {x : Str} {mg : Str → Option Value} {fa : Addr} {h : Heap} {cs : List (Addr × Addr)} {sp : Sp} (X : K.In h) (tb : ∀ p ∈ cs.map (·.2), h.get? p = some tab0) (nk : (cs.map (·.2)).all (fun p => (K.lookup p).isNone) = true) (hd : cs.all (fun p => PySem.W.codeHdIn K p.1 p.2) = true)
    (ask : ∀ (H : Hp) (a : Addr) (ns : List Int), ns.length ≤ n → (∀ p ∈ cs, H p.2 = some (.tbl #[])) → OnlyT cs H → SqL K H a (ns.map V.int) → sp [.ref a] H (fun v _ => v = .bl true) fun _ _ _ => False)
    (F : ∃ fd : FuncData, (∀ (s : Shared) (u : Value), BindsTo s fd ⟨[u], []⟩ [(x, u)]) ∧ ∀ base : Heap, K.In base → base.Ns mainGlobals mg → (∀ p ∈ cs, TabB base mg p.1 p.2) → GU.FnG P w K mg base k fa fd [x] sp) : LawAt P w k n x mg fa h := by
  obtain ⟨fd, hb, hF⟩ := F
  have mem : ∀ p ∈ cs, p.2 ∈ cs.map (·.2) := fun p hp => List.mem_map.mpr ⟨p, hp, rfl⟩
  refine ⟨K, X, fd, cs, sp, fun p hp => tb _ (mem p hp), fun p hp => ?_, fun p hp => PySem.W.codeHd_of_K X (List.all_eq_true.mp hd p hp), hb, ask, hF⟩
  have z := List.all_eq_true.mp nk _ (mem p hp)
  cases q : K.lookup p.2 with
  | none => rfl
  | some o => rw [q] at z; cases z
end GT

namespace AL
open PySem PySem.Spec L2

inductive D where
  | non | bl (b : Bool) | int (i : Int) | str (x : Str) | tup (xs : List D) | obj (a : Addr) | fl (xs : List D)
inductive MO where
  | lst (xs : List D)
  | dic (kvs : List (Key × D))
  | raw (o : HO)
  | dif (od : Obj) (ws : List (Key × V)) (kvs : List (Key × D))
abbrev Sto := Addr → Option MO
def up (M : Sto) (a : Addr) (o : MO) : Sto := fun b => if b = a then some o else M b
theorem up_same {M : Sto} {a : Addr} {o : MO} : up M a o a = some o := by unfold up; rw [if_pos rfl]
theorem up_ne {M : Sto} {a b : Addr} {o : MO} (h : b ≠ a) : up M a o b = M b := by unfold up; rw [if_neg h]
def lstAt (M : Sto) (p : Addr) (k : List D → Prop) : Prop := match M p with
  | some (.lst ds) => k ds
  | _ => False
def dicAt (M : Sto) (p : Addr) (k : List (Key × D) → Prop) : Prop := match M p with
  | some (.dic ds) => k ds
  | _ => False
def optAt {α : Type} (o : Option α) (k : α → Prop) : Prop := match o with
  | some x => k x
  | none => False
theorem lstAt_ex {M : Sto} {p : Addr} {k : List D → Prop} (h : lstAt M p k) : ∃ ds, M p = some (.lst ds) ∧ k ds := by
  unfold lstAt at h
  split at h
  · exact ⟨_, by assumption, h⟩
  · exact h.elim
theorem dicAt_ex {M : Sto} {p : Addr} {k : List (Key × D) → Prop} (h : dicAt M p k) : ∃ ds, M p = some (.dic ds) ∧ k ds := by
  unfold dicAt at h
  split at h
  · exact ⟨_, by assumption, h⟩
  · exact h.elim
theorem optAt_ex {α : Type} {o : Option α} {k : α → Prop} (h : optAt o k) : ∃ x, o = some x ∧ k x := by
  cases o with
  | none => exact h.elim
  | some x => exact ⟨x, rfl, h⟩
def New (mo : MO) (M : Sto) (Q : D → Sto → Prop) : Prop := ∀ p, M p = none → Q (.obj p) (up M p mo)
def SqF (K : PySem.W.Frag) (H : Hp) (a : Addr) (xs : List V) : Prop :=
  (∃ o, H a = some (.frz o (.lst xs))) ∨
    ∃ (o : Obj) (its : Array Value) (n : Nat), K.lookup a = some o ∧ o.cls = .type "list" ∧ o.dict = none ∧ o.data = .seq its n ∧ its.size ≤ sizeLine ∧ Vals xs its.toList
theorem SqF.l {K : PySem.W.Frag} {H : Hp} {a : Addr} {xs : List V} (h : SqF K H a xs) : SqL K H a xs := by
  rcases h with ⟨o, h⟩ | h
  · exact .inl (.inr ⟨o, h⟩)
  · exact .inr h
def Fz : HO → Prop
  | .tup _ => True
  | .frz _ (.dK _) => False
  | .frz _ _ => True
  | _ => False
def Kp (H H' : Hp) : Prop := ∀ a o, Fz o → H a = some o → H' a = some o
theorem Kp.sqT {K : PySem.W.Frag} {H H' : Hp} (k : Kp H H') {a : Addr} {vs : List V} (e : SqT K H a vs) : SqT K H' a vs := by
  rcases e with (e | ⟨u, e⟩) | e
  · exact .inl (.inl (k a _ trivial e))
  · exact .inl (.inr ⟨u, k a _ trivial e⟩)
  · exact .inr e
theorem Kp.sqF {K : PySem.W.Frag} {H H' : Hp} (k : Kp H H') {a : Addr} {vs : List V} (e : SqF K H a vs) : SqF K H' a vs := by
  rcases e with ⟨u, e⟩ | e
  · exact .inl ⟨u, k a _ trivial e⟩
  · exact .inr e
mutual
def Rep (K : PySem.W.Frag) (H : Hp) : D → V → Prop
  | .non, v => v = .non
  | .bl b, v => v = .bl b
  | .int i, v => v = .int i
  | .str x, v => v = .str x
  | .tup ds, v => ∃ a vs, v = .ref a ∧ SqT K H a vs ∧ RepL K H ds vs
  | .obj a, v => v = .ref a
  | .fl ds, v => ∃ a vs, v = .ref a ∧ SqF K H a vs ∧ RepL K H ds vs
def RepL (K : PySem.W.Frag) (H : Hp) : List D → List V → Prop
  | [], vs => vs = []
  | d :: ds, vs => ∃ v r, vs = v :: r ∧ Rep K H d v ∧ RepL K H ds r
end
mutual
theorem Rep.mono {K : PySem.W.Frag} {H H' : Hp} (hT : Kp H H') : ∀ (d : D) (v : V), Rep K H d v → Rep K H' d v
  | .non, _, h => h
  | .bl _, _, h => h
  | .int _, _, h => h
  | .str _, _, h => h
  | .obj _, _, h => h
  | .tup ds, v, h => by
    obtain ⟨a, vs, e, t, r⟩ := h
    exact ⟨a, vs, e, hT.sqT t, RepL.mono hT ds vs r⟩
  | .fl ds, v, h => by
    obtain ⟨a, vs, e, t, r⟩ := h
    exact ⟨a, vs, e, hT.sqF t, RepL.mono hT ds vs r⟩
theorem RepL.mono {K : PySem.W.Frag} {H H' : Hp} (hT : Kp H H') : ∀ (ds : List D) (vs : List V), RepL K H ds vs → RepL K H' ds vs
  | [], _, h => h
  | d :: ds, vs, h => by
    obtain ⟨v, r, e, h1, h2⟩ := h
    exact ⟨v, r, e, Rep.mono hT d v h1, RepL.mono hT ds r h2⟩
end
section
variable {K : PySem.W.Frag} {H H' : Hp}
theorem RepL.length : ∀ {ds : List D} {vs : List V}, RepL K H ds vs → ds.length = vs.length
  | [], _, h => by cases (show _ = [] from h); rfl
  | d :: ds, _, h => by
    obtain ⟨v, r, rfl, _, h2⟩ := h
    rw [List.length_cons, List.length_cons, RepL.length h2]
theorem RepL.get : ∀ {ds : List D} {vs : List V} {i : Nat} {d : D}, RepL K H ds vs → ds[i]? = some d → ∃ v, vs[i]? = some v ∧ Rep K H d v
  | [], _, _, _, _, e => by simp at e
  | d :: ds, _, 0, _, h, e => by
    obtain ⟨v, r, rfl, h1, _⟩ := h
    cases (Option.some.inj e)
    exact ⟨v, rfl, h1⟩
  | d :: ds, _, i + 1, _, h, e => by
    obtain ⟨v, r, rfl, _, h2⟩ := h
    exact RepL.get (i := i) h2 e
theorem RepL.set : ∀ {ds : List D} {vs : List V} (i : Nat) {d : D} {v : V}, RepL K H ds vs → Rep K H d v → RepL K H (ds.set i d) (vs.set i v)
  | [], _, _, _, _, h, _ => by cases (show _ = [] from h); rfl
  | d :: ds, _, 0, _, _, h, q => by
    obtain ⟨v, r, rfl, _, h2⟩ := h
    exact ⟨_, r, rfl, q, h2⟩
  | d :: ds, _, i + 1, _, _, h, q => by
    obtain ⟨v, r, rfl, h1, h2⟩ := h
    exact ⟨v, _, rfl, h1, RepL.set i h2 q⟩
theorem RepL.append : ∀ {ds es : List D} {vs ws : List V}, RepL K H ds vs → RepL K H es ws → RepL K H (ds ++ es) (vs ++ ws)
  | [], _, _, _, h, q => by cases (show _ = [] from h); exact q
  | d :: ds, _, _, _, h, q => by
    obtain ⟨v, r, rfl, h1, h2⟩ := h
    exact ⟨v, _, rfl, h1, RepL.append h2 q⟩
theorem RepL.one {d : D} {v : V} (h : Rep K H d v) : RepL K H [d] [v] := ⟨v, [], rfl, h, rfl⟩
theorem RepL.take : ∀ {ds : List D} {vs : List V} (n : Nat), RepL K H ds vs → RepL K H (ds.take n) (vs.take n)
  | [], _, n, h => by cases (show _ = [] from h); rw [List.take_nil, List.take_nil]; rfl
  | d :: ds, _, 0, h => by rw [List.take_zero, List.take_zero]; rfl
  | d :: ds, _, n + 1, h => by
    obtain ⟨v, r, rfl, h1, h2⟩ := h
    exact ⟨v, _, rfl, h1, RepL.take n h2⟩
theorem RepL.drop : ∀ {ds : List D} {vs : List V} (n : Nat), RepL K H ds vs → RepL K H (ds.drop n) (vs.drop n)
  | [], _, n, h => by cases (show _ = [] from h); rw [List.drop_nil, List.drop_nil]; rfl
  | d :: ds, _, 0, h => h
  | d :: ds, _, n + 1, h => by
    obtain ⟨v, r, rfl, h1, h2⟩ := h
    exact RepL.drop n h2
theorem RepL.reverse : ∀ {ds : List D} {vs : List V}, RepL K H ds vs → RepL K H ds.reverse vs.reverse
  | [], _, h => by cases (show _ = [] from h); rfl
  | d :: ds, _, h => by
    obtain ⟨v, r, rfl, h1, h2⟩ := h
    rw [List.reverse_cons, List.reverse_cons]
    exact RepL.append (RepL.reverse h2) (RepL.one h1)
theorem RepL.dropLast {ds : List D} {vs : List V} (h : RepL K H ds vs) : RepL K H ds.dropLast vs.dropLast := by
  rw [List.dropLast_eq_take, List.dropLast_eq_take, h.length]
  exact h.take _
end
abbrev RepK (K : PySem.W.Frag) (H : Hp) : List (Key × D) → List (Key × V) → Prop := Paired fun p q => p.1 = q.1 ∧ Rep K H p.2 q.2
def MOk (K : PySem.W.Frag) (H : Hp) (a : Addr) : MO → Prop
  | .lst ds => ∃ vs, H a = some (.lst vs) ∧ RepL K H ds vs
  | .dic kvs => ∃ ws, H a = some (.dK ws) ∧ RepK K H kvs ws
  | .raw o => H a = some o ∧ ¬ Fz o
  | .dif od ws kvs => H a = some (.frz od (.dK ws)) ∧ RepK K H kvs ws
def Abs (K : PySem.W.Frag) (M : Sto) (H : Hp) : Prop := ∀ a mo, M a = some mo → MOk K H a mo
abbrev AEnv := List (Option D)
def RepS (K : PySem.W.Frag) (H : Hp) (env : AEnv) (σ : L2.St) : Prop := env.length = σ.length ∧ ∀ (i : Nat) (d : D), env[i]? = some (some d) → ∃ v, σ[i]? = some (some v) ∧ Rep K H d v
def Grw (o o' : HO) : Prop := o' = o ∨ ∃ ps qs : Array Value, o = .tbl ps ∧ o' = .tbl qs ∧ TriplesOk qs.toList
theorem Grw.refl {o : HO} : Grw o o := .inl rfl
theorem Grw.trans {o p q : HO} (a : Grw o p) (b : Grw p q) : Grw o q := by
  rcases a with rfl | ⟨ps, m1, rfl, rfl, t1⟩
  · exact b
  · rcases b with rfl | ⟨ps2, m2, e, rfl, t2⟩
    · exact .inr ⟨ps, m1, rfl, rfl, t1⟩
    · exact .inr ⟨ps, m2, rfl, rfl, t2⟩
structure Tr (K : PySem.W.Frag) (M : Sto) (H : Hp) (M' : Sto) (H' : Hp) : Prop where
  abs : Abs K M' H'
  kee : ∀ b o, H b = some o → M b = none → ∃ o', H' b = some o' ∧ Grw o o' ∧ M' b = none
theorem Tr.keep {K : PySem.W.Frag} {M M' : Sto} {H H' : Hp} (t : Tr K M H M' H') (b : Addr) (o : HO) (h : H b = some o) (n : M b = none) (nt : ∀ ps, o ≠ .tbl ps := by intro _ z; cases z) : H' b = some o ∧ M' b = none := by
  obtain ⟨o', e, g, n'⟩ := t.kee b o h n
  rcases g with rfl | ⟨ps, _, z, _⟩
  · exact ⟨e, n'⟩
  · exact absurd z (nt ps)
def tabs : List Addr := [69]
def Tabs (M : Sto) (H : Hp) : Prop := ∀ P ∈ tabs, M P = none ∧ GxR.TabG H P
theorem Tabs.next {K : PySem.W.Frag} {M M' : Sto} {H H' : Hp} (x : Tabs M H) (t : Tr K M H M' H') : Tabs M' H' := fun P hP => by
  obtain ⟨n, ps, e, ok⟩ := x P hP
  obtain ⟨o', e', g, n'⟩ := t.kee P _ e n
  rcases g with rfl | ⟨ps2, more, z, rfl, k⟩
  · exact ⟨n', ps, e', ok⟩
  · exact ⟨n', _, e', k⟩
section
variable {K : PySem.W.Frag} {M M1 M2 : Sto} {H H1 H2 : Hp}
theorem Tr.refl (h : Abs K M H) : Tr K M H M H := ⟨h, fun _ o h1 h2 => ⟨o, h1, .refl, h2⟩⟩
theorem Tr.trans (a : Tr K M H M1 H1) (b : Tr K M1 H1 M2 H2) : Tr K M H M2 H2 := ⟨b.abs, fun c o h1 h2 => let ⟨o1, h3, g1, h4⟩ := a.kee c o h1 h2; let ⟨o2, h5, g2, h6⟩ := b.kee c o1 h3 h4; ⟨o2, h5, g1.trans g2, h6⟩⟩
theorem Abs.fzFree (h : Abs K M H) {a : Addr} {o : HO} (f : Fz o) (e : H a = some o) : M a = none := by
  cases q : M a with
  | none => rfl
  | some mo =>
    have z := h a mo q
    cases mo with
    | lst ds => obtain ⟨ws, z, _⟩ := z; rw [z] at e; cases e; exact f.elim
    | dic ds => obtain ⟨ws, z, _⟩ := z; rw [z] at e; cases e; exact f.elim
    | raw o => rw [z.1] at e; cases e; exact absurd f z.2
    | dif od ws ds => obtain ⟨z, _⟩ := z; rw [z] at e; cases e; exact f.elim
theorem Tr.kp (t : Tr K M H M1 H1) (h : Abs K M H) : Kp H H1 := fun a o f e => (t.keep a o e (h.fzFree f e) (fun ps z => by subst z; exact f)).1
theorem Tr.sqT (t : Tr K M H M1 H1) (h : Abs K M H) {a : Addr} {vs : List V} (e : SqT K H a vs) : SqT K H1 a vs := (t.kp h).sqT e
theorem Tr.rep (t : Tr K M H M1 H1) (h : Abs K M H) {d : D} {v : V} (r : Rep K H d v) : Rep K H1 d v := Rep.mono (t.kp h) d v r
theorem Tr.repL (t : Tr K M H M1 H1) (h : Abs K M H) {d : List D} {v : List V} (r : RepL K H d v) : RepL K H1 d v := RepL.mono (t.kp h) d v r
theorem Tr.repS (t : Tr K M H M1 H1) (h : Abs K M H) {env : AEnv} {σ : L2.St} (r : RepS K H env σ) : RepS K H1 env σ :=
  ⟨r.1, fun i d e => let ⟨v, h1, h2⟩ := r.2 i d e; ⟨v, h1, t.rep h h2⟩⟩
theorem Abs.fresh (h : Abs K M H) {p : Addr} (hp : H p = none) : M p = none := by
  cases q : M p with
  | none => rfl
  | some mo =>
    have z := h p mo q
    cases mo with
    | lst ds => obtain ⟨ws, z, _⟩ := z; rw [hp] at z; cases z
    | dic ds => obtain ⟨ws, z, _⟩ := z; rw [hp] at z; cases z
    | raw o => have z1 := z.1; rw [hp] at z1; cases z1
    | dif od ws ds => obtain ⟨z, _⟩ := z; rw [hp] at z; cases z
theorem Kp.new {p : Addr} {o : HO} (hp : H p = none) : Kp H (upd H p o) := fun a u _ e => by rw [upd_ne (ne_of_none e hp)]; exact e
theorem Kp.write (h : Abs K M H) {p : Addr} {o : HO} {m0 : MO} (hp : M p = some m0) : Kp H (upd H p o) := fun a u f e => by
  have n : a ≠ p := fun z => by
    subst z
    rw [h.fzFree f e] at hp
    cases hp
  rw [upd_ne n]
  exact e
theorem Kp.updL {p : Addr} {vs ws : List V} (hp : H p = some (.lst vs)) : Kp H (upd H p (.lst ws)) := fun a u f e => by
  have n : a ≠ p := fun z => by
    subst z
    rw [hp] at e
    cases e
    exact f.elim
  rw [upd_ne n]
  exact e
theorem MOk.mono {H' : Hp} {a : Addr} (ha : ∀ o, H a = some o → H' a = some o) (hT : Kp H H') : ∀ {mo : MO}, MOk K H a mo → MOk K H' a mo
  | .lst ds, ⟨vs, e, r⟩ => ⟨vs, ha _ e, RepL.mono hT ds vs r⟩
  | .dic kvs, ⟨ws, e, r⟩ => ⟨ws, ha _ e, Paired.mapP r fun p q z => ⟨z.1, Rep.mono hT _ _ z.2⟩⟩
  | .raw o, ⟨e, n⟩ => ⟨ha _ e, n⟩
  | .dif od ws kvs, ⟨e, r⟩ => ⟨ha _ e, Paired.mapP r fun p q z => ⟨z.1, Rep.mono hT _ _ z.2⟩⟩
theorem Tr.newT (h : Abs K M H) {p : Addr} {o : HO} (hp : H p = none) : Tr K M H M (upd H p o) := by
  refine ⟨fun a mo e => ?_, fun b u e n => ⟨u, by rw [upd_ne (ne_of_none e hp)]; exact e, .refl, n⟩⟩
  exact (h a mo e).mono (fun u q => by rw [upd_ne (ne_of_none q hp)]; exact q) (Kp.new hp)
theorem Tr.newM (h : Abs K M H) {p : Addr} {o : HO} {mo : MO} (hp : H p = none) (hm : MOk K (upd H p o) p mo) : Tr K M H (up M p mo) (upd H p o) := by
  refine ⟨fun a m e => ?_, fun b u e n => ?_⟩
  · by_cases ha : a = p
    · subst ha
      rw [up_same] at e
      cases e
      exact hm
    · rw [up_ne ha] at e
      exact (h a m e).mono (fun u q => by rw [upd_ne (ne_of_none q hp)]; exact q) (Kp.new hp)
  · have nb := ne_of_none e hp
    exact ⟨u, by rw [upd_ne nb]; exact e, .refl, by rw [up_ne nb]; exact n⟩
theorem Tr.write (h : Abs K M H) {p : Addr} {o : HO} {mo m0 : MO} (hp : M p = some m0) (hm : MOk K (upd H p o) p mo) : Tr K M H (up M p mo) (upd H p o) := by
  have hT : Kp H (upd H p o) := Kp.write h hp
  refine ⟨fun a m e => ?_, fun b u e n => ?_⟩
  · by_cases ha : a = p
    · subst ha
      rw [up_same] at e
      cases e
      exact hm
    · rw [up_ne ha] at e
      exact (h a m e).mono (fun u q => by rw [upd_ne ha]; exact q) hT
  · have nb : b ≠ p := fun z => by subst z; rw [hp] at n; cases n
    exact ⟨u, by rw [upd_ne nb]; exact e, .refl, by rw [up_ne nb]; exact n⟩
theorem rep_write (h : Abs K M H) {p : Addr} {o : HO} {m0 : MO} (hp : M p = some m0) {d : D} {v : V} (r : Rep K H d v) : Rep K (upd H p o) d v := Rep.mono (Kp.write h hp) d v r
theorem repL_write (h : Abs K M H) {p : Addr} {o : HO} {m0 : MO} (hp : M p = some m0) {d : List D} {v : List V} (r : RepL K H d v) : RepL K (upd H p o) d v := RepL.mono (Kp.write h hp) d v r
theorem repL_new {p : Addr} {o : HO} (hp : H p = none) {d : List D} {v : List V} (r : RepL K H d v) : RepL K (upd H p o) d v := RepL.mono (Kp.new hp) d v r
theorem rep_newT {p : Addr} {ds : List D} {vs : List V} (hp : H p = none) (r : RepL K H ds vs) : Rep K (upd H p (.tup vs)) (.tup ds) (.ref p) := ⟨p, vs, rfl, .inl (.inl upd_same), repL_new hp r⟩
theorem RepS.get {env : AEnv} {σ : L2.St} (h : RepS K H env σ) {i : Nat} {d : D} (e : env[i]? = some (some d)) : ∃ v, σ[i]? = some (some v) ∧ Rep K H d v := h.2 i d e
theorem RepS.set {env : AEnv} {σ : L2.St} (h : RepS K H env σ) {i : Nat} {d : D} {v : V} (r : Rep K H d v) : RepS K H (env.set i (some d)) (σ.set i (some v)) := by
  refine ⟨by rw [List.length_set, List.length_set, h.1], fun j d' e => ?_⟩
  by_cases hj : i = j
  · subst hj
    by_cases hl : i < env.length
    · rw [List.getElem?_set_self hl] at e
      cases e
      exact ⟨v, by rw [List.getElem?_set_self (by rw [← h.1]; exact hl)], r⟩
    · rw [List.getElem?_eq_none (by rw [List.length_set]; omega)] at e
      cases e
  · rw [List.getElem?_set_ne hj] at e
    obtain ⟨v', q1, q2⟩ := h.2 j d' e
    exact ⟨v', by rw [List.getElem?_set_ne hj]; exact q1, q2⟩
end

abbrev AX := Value → List (Str × D) → AEnv → Sto → Prop
def RepX (K : PySem.W.Frag) (H : Hp) : Option Addr → List (Str × D) → Prop
  | none, fs => fs = []
  | some a, fs => ∃ ws : List (Str × V), H a = some (.xd ws) ∧ Paired (fun (p : Str × D) (q : Str × V) => p.1 = q.1 ∧ Rep K H p.2 q.2) fs ws
def XC (K : PySem.W.Frag) (W : WX) (ax : AX) (M : Sto) (H : Hp) : Prop := ∀ σ' env' H' M' cls d fs, Tr K M H M' H' → RepS K H' env' σ' → RepX K H' d fs → ax cls fs env' M' → W cls d σ' H'
theorem XC.next {K : PySem.W.Frag} {W : WX} {ax : AX} {M M1 : Sto} {H H1 : Hp} (x : XC K W ax M H) (t : Tr K M H M1 H1) : XC K W ax M1 H1 :=
  fun σ' env' H' M' cls d fs t' r x' a => x σ' env' H' M' cls d fs (t.trans t') r x' a
def ax0 : AX := fun _ _ _ _ => False
theorem XC.no {K : PySem.W.Frag} {W : WX} {M : Sto} {H : Hp} : XC K W ax0 M H := fun _ _ _ _ _ _ _ _ _ _ z => z.elim
structure Stt (K : PySem.W.Frag) (W : WX) (ax : AX) (env : AEnv) (M : Sto) (σ : L2.St) (H : Hp) : Prop where
  rs : RepS K H env σ
  abs : Abs K M H
  xc : XC K W ax M H
  tb : Tabs M H
section
variable {K : PySem.W.Frag} {W : WX} {ax : AX} {env env' : AEnv} {M M1 : Sto} {σ σ' : L2.St} {H H1 : Hp}
theorem Stt.next (s : Stt K W ax env M σ H) (t : Tr K M H M1 H1) : Stt K W ax env M1 σ H1 := ⟨t.repS s.abs s.rs, t.abs, s.xc.next t, s.tb.next t⟩
theorem Stt.at_ (s : Stt K W ax env M σ H) (t : Tr K M H M1 H1) (r : RepS K H1 env' σ') : Stt K W ax env' M1 σ' H1 := ⟨r, t.abs, s.xc.next t, s.tb.next t⟩
end

abbrev ATE := AX → AEnv → Sto → (D → Sto → Prop) → Prop
abbrev ATT := AX → AEnv → Sto → (Bool → Sto → Prop) → Prop
abbrev ATA := AX → AEnv → Sto → (List D → Sto → Prop) → Prop
structure AEnds where
  nx : AEnv → Sto → Prop
  rt : D → Sto → Prop
  bk : AEnv → Sto → Prop := fun _ _ => False
  ct : AEnv → Sto → Prop := fun _ _ => False
abbrev ATS := AX → AEnds → AEnv → Sto → Prop
abbrev ATG := D → AX → AEnv → Sto → (AEnv → Sto → Prop) → Prop
abbrev ATI := AX → AEnv → Sto → (List D → (Sto → Prop) → Sto → Prop) → Prop
section
variable (K : PySem.W.Frag) (W : WX)
def cE (a : ATE) : TE := fun σ H Q => ∃ ax env M Qa, Stt K W ax env M σ H ∧ a ax env M Qa ∧ ∀ v H' d M', Tr K M H M' H' → Rep K H' d v → Qa d M' → Q v H'
def cT (a : ATT) : TT := fun σ H Q => ∃ ax env M Qa, Stt K W ax env M σ H ∧ a ax env M Qa ∧ ∀ b H' M', Tr K M H M' H' → Qa b M' → Q b H'
def cA (a : ATA) : TA := fun σ H Q => ∃ ax env M Qa, Stt K W ax env M σ H ∧ a ax env M Qa ∧ ∀ vs H' ds M', Tr K M H M' H' → RepL K H' ds vs → Qa ds M' → Q vs H'
structure EndsOk (M : Sto) (H : Hp) (D : AEnds) (Dc : Ends) : Prop where
  nx : ∀ σ' H' env' M', Tr K M H M' H' → RepS K H' env' σ' → D.nx env' M' → Dc.nx σ' H'
  bk : ∀ σ' H' env' M', Tr K M H M' H' → RepS K H' env' σ' → D.bk env' M' → Dc.bk σ' H'
  ct : ∀ σ' H' env' M', Tr K M H M' H' → RepS K H' env' σ' → D.ct env' M' → Dc.ct σ' H'
  rt : ∀ v H' d M', Tr K M H M' H' → Rep K H' d v → D.rt d M' → Dc.rt v H'
def cS (a : ATS) : TS := fun Dc σ H => ∃ ax env M D, Stt K W ax env M σ H ∧ a ax D env M ∧ EndsOk K M H D Dc
def cG (g : ATG) : TG := fun v σ H Q => ∃ d ax env M Qa, Stt K W ax env M σ H ∧ Rep K H d v ∧ g d ax env M Qa ∧ ∀ σ' H' env' M', Tr K M H M' H' → RepS K H' env' σ' → Qa env' M' → Q σ' H'
def ItSim (J : It) (items : List D) (chk : Sto → Prop) (M1 : Sto) (H1 : Hp) : Prop := ∀ i M H, Tr K M1 H1 M H → chk M →
  (∀ d, items[i]? = some d → J.go i H ∧ ∀ x H', J.yld i H x H' → Tr K M H M H' ∧ Rep K H' d x) ∧ (items[i]? = none → J.stop i H)
def cI (a : ATI) : TI := fun σ H R => ∃ ax env M Ra, Stt K W ax env M σ H ∧ a ax env M Ra ∧ ∀ J items chk M' H', Tr K M H M' H' → ItSim K J items chk M' H' → Ra items chk M' → R J H'
end
theorem EndsOk.next {K : PySem.W.Frag} {M M1 : Sto} {H H1 : Hp} {D : AEnds} {Dc : Ends} (e : EndsOk K M H D Dc) (t : Tr K M H M1 H1) : EndsOk K M1 H1 D Dc :=
  ⟨fun σ' H' env' M' t' => e.nx σ' H' env' M' (t.trans t'), fun σ' H' env' M' t' => e.bk σ' H' env' M' (t.trans t'), fun σ' H' env' M' t' => e.ct σ' H' env' M' (t.trans t'), fun v H' d M' t' => e.rt v H' d M' (t.trans t')⟩

theorem PE.imp {X : Cx} {e : Expr} {t u : TE} (h : PE X e t) (k : ∀ σ H Q, u σ H Q → t σ H Q) : PE X e u := ⟨fun pins s σ H Q I q => h.run pins s σ H Q I (k σ H Q q)⟩
theorem PT.imp {X : Cx} {e : Expr} {t u : TT} (h : PT X e t) (k : ∀ σ H Q, u σ H Q → t σ H Q) : PT X e u := ⟨fun pins s σ H Q I q => h.run pins s σ H Q I (k σ H Q q)⟩
theorem PW.imp {X : Cx} {e : Expr} {t u : TT} (h : PW X e t) (k : ∀ σ H Q, u σ H Q → t σ H Q) : PW X e u := ⟨fun wh pins s σ H Q I q => h.run wh pins s σ H Q I (k σ H Q q)⟩
theorem PA.imp {X : Cx} {e : List Expr} {t u : TA} (h : PA X e t) (k : ∀ σ H Q, u σ H Q → t σ H Q) : PA X e u := ⟨fun pos pins s σ H Q I q => h.run pos pins s σ H Q I (k σ H Q q)⟩
theorem PS.imp {X : Cx} {e : Stmt} {t u : TS} (h : PS X e t) (k : ∀ D σ H, u D σ H → t D σ H) : PS X e u := ⟨fun pins s σ H D I q => h.run pins s σ H D I (k D σ H q)⟩
theorem PSs.imp {X : Cx} {e : List Stmt} {t u : TS} (h : PSs X e t) (k : ∀ D σ H, u D σ H → t D σ H) : PSs X e u := ⟨fun pins s σ H D I q => h.run pins s σ H D I (k D σ H q)⟩
theorem PG.imp {X : Cx} {e : Expr} {t u : TG} (h : PG X e t) (k : ∀ v σ H Q, u v σ H Q → t v σ H Q) : PG X e u := ⟨fun pins s σ H v w Q I r q => h.run pins s σ H v w Q I r (k v σ H Q q)⟩
theorem PI.imp {X : Cx} {g e : Expr} {t u : TI} (h : PI X g e t) (k : ∀ σ H Q, u σ H Q → t σ H Q) : PI X g e u := ⟨fun pins s σ H Q I q => h.run pins s σ H Q I (k σ H Q q)⟩

section
variable {K : PySem.W.Frag} {W : WX}
def aVar (i : Nat) : ATE := fun _ env M Q => optAt env[i]? fun o => optAt o fun d => Q d M
def aC (d : D) : ATE := fun _ _ M Q => Q d M
abbrev AR2 := D → D → Sto → (D → Sto → Prop) → Prop
abbrev ARs := List D → Sto → (D → Sto → Prop) → Prop
def SimR (K : PySem.W.Frag) (r : R2) (ρ : AR2) : Prop := ∀ x y dx dy H M (Q : D → Sto → Prop) (Qc : VK), Abs K M H → Rep K H dx x → Rep K H dy y → ρ dx dy M Q →
  (∀ v H' d M', Tr K M H M' H' → Rep K H' d v → Q d M' → Qc v H') → r x y H Qc
def SimC (K : PySem.W.Frag) (r : List V → Hp → VK → Prop) (ρ : ARs) : Prop := ∀ xs ds H M (Q : D → Sto → Prop) (Qc : VK), Abs K M H → RepL K H ds xs → ρ ds M Q →
  (∀ v H' d M', Tr K M H M' H' → Rep K H' d v → Q d M' → Qc v H') → r xs H Qc
def aOp (ρ : AR2) (a b : ATE) : ATE := fun ax env M Q => a ax env M fun x M1 => b ax env M1 fun y M2 => ρ x y M2 Q
theorem s_var {i : Nat} {σ : L2.St} {H : Hp} {Q : VK} (h : cE K W (aVar i) σ H Q) : tVar i σ H Q := by
  obtain ⟨ax, env, M, Qa, S, q, k⟩ := h
  obtain ⟨o, e, q⟩ := optAt_ex q
  obtain ⟨d, rfl, q⟩ := optAt_ex q
  obtain ⟨v, e', r⟩ := S.rs.get e
  exact ⟨v, e', k v H d M (Tr.refl S.abs) r q⟩
theorem s_c {d : D} {v : V} (hr : ∀ H, Rep K H d v) {σ : L2.St} {H : Hp} {Q : VK} (h : cE K W (aC d) σ H Q) : tC v σ H Q := by
  obtain ⟨ax, env, M, Qa, S, q, k⟩ := h
  exact k v H d M (Tr.refl S.abs) (hr H) q
theorem s_op {r : R2} {ρ : AR2} (hr : SimR K r ρ) {a b : ATE} {σ : L2.St} {H : Hp} {Q : VK} (h : cE K W (aOp ρ a b) σ H Q) : tOp r (cE K W a) (cE K W b) σ H Q := by
  obtain ⟨ax, env, M, Qa, S, q, k⟩ := h
  refine ⟨ax, env, M, _, S, q, fun x H1 dx M1 t1 r1 q1 => ?_⟩
  refine ⟨ax, env, M1, _, S.next t1, q1, fun y H2 dy M2 t2 r2 q2 => ?_⟩
  exact hr x y dx dy H2 M2 Qa _ t2.abs (t2.rep t1.abs r1) r2 q2 fun v H' d M' t3 r3 q3 => k v H' d M' ((t1.trans t2).trans t3) r3 q3
variable {X : Cx} {a b : Expr} {α β : ATE} {pos : Pos}
abbrev AE (X : Cx) (W : WX) (e : Expr) (a : ATE) : Prop := PE X e (cE X.K W a)
abbrev AT (X : Cx) (W : WX) (e : Expr) (a : ATT) : Prop := PT X e (cT X.K W a)
abbrev AW (X : Cx) (W : WX) (e : Expr) (a : ATT) : Prop := PW X e (cT X.K W a)
abbrev AA (X : Cx) (W : WX) (e : List Expr) (a : ATA) : Prop := PA X e (cA X.K W a)
abbrev AS (X : Cx) (W : WX) (e : Stmt) (a : ATS) : Prop := PS X e (cS X.K W a)
abbrev ASs (X : Cx) (W : WX) (e : List Stmt) (a : ATS) : Prop := PSs X e (cS X.K W a)
abbrev AG (X : Cx) (W : WX) (e : Expr) (a : ATG) : Prop := PG X e (cG X.K W a)
abbrev AI (X : Cx) (W : WX) (g e : Expr) (a : ATI) : Prop := PI X g e (cI X.K W a)
theorem ae_var (i : Nat) {x : Str} {pos : Pos} (hN : X.N[i]? = some x := by rfl) (hv : Vis X.env.scope x := by first | exact Or.inl rfl | exact Or.inr (Or.inl rfl) | exact Or.inr (Or.inr rfl)) (hd : (x == ("__debug__" : Str)) = false := by decide)
    (hcd : (x == ("__classdict__" : Str)) = false := by decide) : AE X W (.Name x pos) (aVar i) := PE.imp (pe_var hN hv hd hcd) fun _ _ _ => s_var
theorem ae_int {i j pos} : AE X W (.Constant (.int i) j pos) (aC (.int i)) := PE.imp pe_int fun _ _ _ h => s_c (d := .int i) (v := .int i) (fun _ => rfl) h
theorem ae_bl {i j pos} : AE X W (.Constant (.bool i) j pos) (aC (.bl i)) := PE.imp pe_bl fun _ _ _ h => s_c (d := .bl i) (v := .bl i) (fun _ => rfl) h
theorem ae_non {j pos} : AE X W (.Constant .none j pos) (aC .non) := PE.imp pe_non fun _ _ _ h => s_c (d := .non) (v := .non) (fun _ => rfl) h
theorem ae_str {x j pos} : AE X W (.Constant (.str x) j pos) (aC (.str x)) := PE.imp pe_str fun _ _ _ h => s_c (d := .str x) (v := .str x) (fun _ => rfl) h
theorem ae_op {op : Operator} {r : R2} {ρ : AR2} (ho : OpR X (binaryOp op) r) (hr : SimR X.K r ρ) (ha : AE X W a α) (hb : AE X W b β) : AE X W (.BinOp a op b pos) (aOp ρ α β) := PE.imp (pe_op ho ha hb) fun _ _ _ => s_op hr
theorem ae_cmpR {op : CmpOp} {r : R2} {ρ : AR2} (ho : OpR X (compareOp op) r) (hr : SimR X.K r ρ) (ha : AE X W a α) (hb : AE X W b β) (hm : behindInMarks op b = false) : AE X W (.Compare a [op] [b] pos) (aOp ρ α β) := PE.imp (pe_cmpR ho ha hb hm) fun _ _ _ => s_op hr
end

section
variable {K : PySem.W.Frag} {X : Cx}
def rPlus (K : PySem.W.Frag) : R2 := fun x y H Q => (rI0 fun i j => .int (i + j)) x y H Q ∨ (∃ i j, x = .str i ∧ y = .str j ∧ i.length + j.length ≤ sizeLine ∧ Q (.str (i ++ j)) H) ∨ rCat x y H Q ∨ rCatA K x y H Q
theorem op_plus : OpR X (binaryOp .Add) (rPlus X.K) := op_add.or (op_add_str.or (op_cat.or op_catA))
def ρAdd : AR2 := fun x y M Q => match x, y with
  | .int i, .int j => Q (.int (i + j)) M
  | .str i, .str j => i.length + j.length ≤ sizeLine ∧ Q (.str (i ++ j)) M
  | .tup ds, .tup es => ds.length + es.length ≤ sizeLine ∧ Q (.tup (ds ++ es)) M
  | .obj p, .obj q => lstAt M p fun ds => lstAt M q fun es => ds.length + es.length ≤ sizeLine ∧ New (.lst (ds ++ es)) M Q
  | _, _ => False
theorem sim_add : SimR K (rPlus K) ρAdd := by
  intro x y dx dy H M Q Qc ab rx ry q k
  cases dx with
  | int i =>
    cases dy with
    | int j =>
      cases (show x = V.int i from rx)
      cases (show y = V.int j from ry)
      exact .inl ⟨i, j, rfl, rfl, k _ H (.int (i + j)) M (Tr.refl ab) rfl q⟩
    | _ => exact False.elim q
  | str i =>
    cases dy with
    | str j =>
      cases (show x = V.str i from rx)
      cases (show y = V.str j from ry)
      obtain ⟨z, q⟩ := q
      exact .inr (.inl ⟨i, j, rfl, rfl, z, k _ H (.str (i ++ j)) M (Tr.refl ab) rfl q⟩)
    | _ => exact False.elim q
  | tup ds =>
    cases dy with
    | tup es =>
      obtain ⟨z, q⟩ := q
      obtain ⟨p, vs, rfl, hp, hv⟩ := rx
      obtain ⟨p', ws, rfl, hp', hw⟩ := ry
      have l1 := hv.length
      have l2 := hw.length
      refine .inr (.inr (.inr ⟨p, p', vs, ws, rfl, rfl, hp, hp', by omega, fun e => ?_, fun _ e => ?_, fun _ _ o ho => ?_⟩))
      · subst e
        have e0 : ds = [] := List.eq_nil_of_length_eq_zero l1
        subst e0
        exact k _ H (.tup ([] ++ es)) M (Tr.refl ab) ⟨p', ws, rfl, hp', hw⟩ q
      · subst e
        have e0 : es = [] := List.eq_nil_of_length_eq_zero l2
        subst e0
        exact k _ H (.tup (ds ++ [])) M (Tr.refl ab) ⟨p, vs, rfl, hp, by rw [List.append_nil]; exact hv⟩ q
      · exact k _ _ (.tup (ds ++ es)) M (Tr.newT ab ho) (rep_newT ho (hv.append hw)) q
    | _ => exact False.elim q
  | obj p =>
    cases dy with
    | obj p' =>
      obtain ⟨ds, m1, q⟩ := lstAt_ex q
      obtain ⟨es, m2, z, q⟩ := lstAt_ex q
      cases (show x = V.ref p from rx)
      cases (show y = V.ref p' from ry)
      obtain ⟨vs, h1, r1⟩ := ab p _ m1
      obtain ⟨ws, h2, r2⟩ := ab p' _ m2
      have l1 := r1.length
      have l2 := r2.length
      refine .inr (.inr (.inl ⟨p, p', vs, ws, rfl, rfl, h1, h2, by omega, fun o ho => ?_⟩))
      exact k _ _ (.obj o) _ (Tr.newM (mo := .lst (ds ++ es)) ab ho ⟨_, upd_same, repL_new ho (r1.append r2)⟩) rfl (q o (ab.fresh ho))
    | _ => exact False.elim q
  | _ => exact False.elim q
def ρI (C : Int → Int → Prop) (g : Int → Int → D) : AR2 := fun x y M Q => match x, y with
  | .int i, .int j => C i j ∧ Q (g i j) M
  | _, _ => False
def ρI0 (g : Int → Int → D) : AR2 := fun x y M Q => match x, y with
  | .int i, .int j => Q (g i j) M
  | _, _ => False
theorem sim_I {C : Int → Int → Prop} {g : Int → Int → D} {gv : Int → Int → V} (hg : ∀ H i j, Rep K H (g i j) (gv i j)) : SimR K (rI C gv) (ρI C g) := by
  intro x y dx dy H M Q Qc ab rx ry q k
  cases dx with
  | int i =>
    cases dy with
    | int j =>
      cases (show x = V.int i from rx)
      cases (show y = V.int j from ry)
      exact ⟨i, j, rfl, rfl, q.1, k _ H _ M (Tr.refl ab) (hg H i j) q.2⟩
    | _ => exact False.elim q
  | _ => exact False.elim q
theorem sim_I0 {g : Int → Int → D} {gv : Int → Int → V} (hg : ∀ H i j, Rep K H (g i j) (gv i j)) : SimR K (rI0 gv) (ρI0 g) := by
  intro x y dx dy H M Q Qc ab rx ry q k
  cases dx with
  | int i =>
    cases dy with
    | int j =>
      cases (show x = V.int i from rx)
      cases (show y = V.int j from ry)
      exact ⟨i, j, rfl, rfl, k _ H _ M (Tr.refl ab) (hg H i j) q⟩
    | _ => exact False.elim q
  | _ => exact False.elim q
abbrev ρSub : AR2 := ρI0 fun i j => .int (i - j)
abbrev ρMul : AR2 := ρI CMul fun i j => .int (i * j)
abbrev ρMod : AR2 := ρI (fun _ j => 0 < j) fun i j => .int (i % j)
abbrev ρFdiv : AR2 := ρI CDiv fun i j => .int (i / j)
abbrev ρPow : AR2 := ρI CPow fun i j => .int (i ^ j.toNat)
theorem sim_sub : SimR K (rI0 fun i j => .int (i - j)) ρSub := sim_I0 fun _ _ _ => rfl
theorem sim_mul : SimR K (rI CMul fun i j => .int (i * j)) ρMul := sim_I fun _ _ _ => rfl
theorem sim_mod : SimR K (rI (fun _ j => 0 < j) fun i j => .int (i % j)) ρMod := sim_I fun _ _ _ => rfl
theorem sim_fdiv : SimR K (rI CDiv fun i j => .int (i / j)) ρFdiv := sim_I fun _ _ _ => rfl
theorem sim_pow : SimR K (rI CPow fun i j => .int (i ^ j.toNat)) ρPow := sim_I fun _ _ _ => rfl
def rLtA : R2 := fun x y H Q => (rI0 fun i j => .bl (decide (i < j))) x y H Q ∨ ∃ i j, x = .str i ∧ y = .str j ∧ Q (.bl (decide (i.cps.toList < j.cps.toList))) H
def rLeA : R2 := fun x y H Q => (rI0 fun i j => .bl (decide (i ≤ j))) x y H Q ∨ ∃ i j, x = .str i ∧ y = .str j ∧ Q (.bl (!decide (j.cps.toList < i.cps.toList))) H
theorem op_ltA : OpR X (compareOp .Lt) rLtA := op_lt.or op_lt_str
theorem op_leA : OpR X (compareOp .LtE) rLeA := op_le.or op_le_str
def ρIS (g : Int → Int → Bool) (f : Str → Str → Bool) : AR2 := fun x y M Q => match x, y with
  | .int i, .int j => Q (.bl (g i j)) M
  | .str i, .str j => Q (.bl (f i j)) M
  | _, _ => False
abbrev ρLt : AR2 := ρIS (fun i j => decide (i < j)) (fun i j => decide (i.cps.toList < j.cps.toList))
abbrev ρLe : AR2 := ρIS (fun i j => decide (i ≤ j)) (fun i j => !decide (j.cps.toList < i.cps.toList))
abbrev ρGt : AR2 := ρI0 fun i j => .bl (decide (j < i))
abbrev ρGe : AR2 := ρI0 fun i j => .bl (decide (j ≤ i))
theorem sim_IS {g : Int → Int → Bool} {f : Str → Str → Bool} : SimR K (fun x y H Q => (rI0 fun i j => .bl (g i j)) x y H Q ∨ ∃ i j, x = .str i ∧ y = .str j ∧ Q (.bl (f i j)) H) (ρIS g f) := by
  intro x y dx dy H M Q Qc ab rx ry q k
  cases dx with
  | int i =>
    cases dy with
    | int j =>
      cases (show x = V.int i from rx)
      cases (show y = V.int j from ry)
      exact .inl ⟨i, j, rfl, rfl, k _ H (.bl _) M (Tr.refl ab) rfl q⟩
    | _ => exact False.elim q
  | str i =>
    cases dy with
    | str j =>
      cases (show x = V.str i from rx)
      cases (show y = V.str j from ry)
      exact .inr ⟨i, j, rfl, rfl, k _ H (.bl _) M (Tr.refl ab) rfl q⟩
    | _ => exact False.elim q
  | _ => exact False.elim q
theorem sim_lt : SimR K rLtA ρLt := sim_IS
theorem sim_le : SimR K rLeA ρLe := sim_IS
theorem sim_gt : SimR K (rI0 fun i j => .bl (decide (j < i))) ρGt := sim_I0 fun _ _ _ => rfl
theorem sim_ge : SimR K (rI0 fun i j => .bl (decide (j ≤ i))) ρGe := sim_I0 fun _ _ _ => rfl
mutual
def D.py : D → Option PyData
  | .non => some .none
  | .bl b => some (.bool b)
  | .int i => some (.int i)
  | .str x => some (.str x)
  | .tup ds => (D.pys ds).map .tuple
  | .obj _ => none
  | .fl _ => none
def D.pys : List D → Option (List PyData)
  | [] => some []
  | d :: ds => d.py.bind fun p => (D.pys ds).map fun ps => p :: ps
end
mutual
theorem Rep.dp {H : Hp} : ∀ (d : D) (v : V) (p : PyData), Rep K H d v → d.py = some p → Dp K H v p
  | .non, v, p, h, e => by cases (Option.some.inj e); cases (show v = V.non from h); exact .non
  | .bl b, v, p, h, e => by cases (Option.some.inj e); cases (show v = V.bl b from h); exact .bl b
  | .int i, v, p, h, e => by cases (Option.some.inj e); cases (show v = V.int i from h); exact .int i
  | .str i, v, p, h, e => by cases (Option.some.inj e); cases (show v = V.str i from h); exact .str i
  | .obj _, v, p, h, e => by cases e
  | .fl _, v, p, h, e => by cases e
  | .tup ds, v, p, h, e => by
    obtain ⟨a, vs, rfl, hT, hl⟩ := h
    rw [D.py, Option.map_eq_some_iff] at e
    obtain ⟨ps, e, rfl⟩ := e
    exact .tup hT (RepL.dp ds vs ps hl e)
theorem RepL.dp {H : Hp} : ∀ (ds : List D) (vs : List V) (ps : List PyData), RepL K H ds vs → D.pys ds = some ps → DpAll K H vs ps
  | [], vs, ps, h, e => by cases (show vs = [] from h); cases (Option.some.inj e); exact .nil
  | d :: ds, vs, ps, h, e => by
    obtain ⟨v, r, rfl, h1, h2⟩ := h
    rw [D.pys, Option.bind_eq_some_iff] at e
    obtain ⟨p, e1, e⟩ := e
    rw [Option.map_eq_some_iff] at e
    obtain ⟨ps', e2, rfl⟩ := e
    exact .cons (Rep.dp d v p h1 e1) (RepL.dp ds r ps' h2 e2)
end
def pyM (M : Sto) : D → Option PyData
  | .obj a => match M a with
    | some (.lst ds) => (D.pys ds).map .list
    | _ => none
  | d => d.py
theorem Rep.dpM {H : Hp} {M : Sto} (ab : Abs K M H) {d : D} {v : V} {p : PyData} (h : Rep K H d v) (e : pyM M d = some p) : Dp K H v p := by
  cases d with
  | obj a =>
    cases (show v = V.ref a from h)
    have e' : (match M a with | some (.lst ds) => (D.pys ds).map PyData.list | _ => none) = some p := e
    cases m : M a with
    | none => rw [m] at e'; cases e'
    | some mo =>
      cases mo with
      | dic kvs => rw [m] at e'; cases e'
      | raw o => rw [m] at e'; cases e'
      | dif od ws kvs => rw [m] at e'; cases e'
      | lst ds =>
        rw [m] at e'
        obtain ⟨ps, e2, rfl⟩ := Option.map_eq_some_iff.mp (show (D.pys ds).map PyData.list = some p from e')
        obtain ⟨vs, h1, r1⟩ := ab a _ m
        exact .lst (SqL.of h1) (RepL.dp ds vs ps r1 e2)
  | non => exact Rep.dp _ v p h e
  | bl b => exact Rep.dp _ v p h e
  | int b => exact Rep.dp _ v p h e
  | str b => exact Rep.dp _ v p h e
  | tup b => exact Rep.dp _ v p h e
  | fl b => cases e
def ρEqv (neg : Bool) : AR2 := fun x y M Q => ∃ p q, pyM M x = some p ∧ pyM M y = some q ∧ SeqAt.shaped p = true ∧ SeqAt.shaped q = true ∧ Q (.bl (if neg then !PyData.eqv p q else PyData.eqv p q)) M
def ρEq (neg : Bool) : AR2 := fun x y M Q => match x, y with
  | .str a, .str b => Q (.bl (if neg then !decide (a = b) else decide (a = b))) M
  | .int a, .int b => Q (.bl (if neg then !decide (a = b) else decide (a = b))) M
  | .bl a, .bl b => Q (.bl (if neg then !decide (a = b) else decide (a = b))) M
  | x, y => ρEqv neg x y M Q
def rEqA (K : PySem.W.Frag) (neg : Bool) : R2 := fun x y H Q => (if neg then rNe x y H Q else rEq x y H Q) ∨ (if neg then rNeD K x y H Q else rEqD K x y H Q)
theorem op_eqA (hu : X.A.units + 64 < cLine) : OpR X (compareOp .Eq) (rEqA X.K false) := op_eq.or (op_eqD hu)
theorem op_neA (hu : X.A.units + 64 < cLine) : OpR X (compareOp .NotEq) (rEqA X.K true) := op_ne.or (op_neD hu)
theorem sim_eqA {neg : Bool} : SimR K (rEqA K neg) (ρEq neg) := by
  intro x y dx dy H M Q Qc ab rx ry q k
  unfold ρEq at q
  split at q
  · rename_i a b
    cases (show x = V.str a from rx)
    cases (show y = V.str b from ry)
    refine .inl ?_
    cases neg with
    | true => exact ⟨rfl, k _ H (.bl _) M (Tr.refl ab) rfl (by rw [dec_str, Bool.beq_eq_decide_eq]; exact q)⟩
    | false => exact ⟨rfl, k _ H (.bl _) M (Tr.refl ab) rfl (by rw [dec_str, Bool.beq_eq_decide_eq]; exact q)⟩
  · rename_i a b
    cases (show x = V.int a from rx)
    cases (show y = V.int b from ry)
    refine .inl ?_
    cases neg with
    | true => exact ⟨rfl, k _ H (.bl _) M (Tr.refl ab) rfl (by rw [dec_int, Bool.beq_eq_decide_eq]; exact q)⟩
    | false => exact ⟨rfl, k _ H (.bl _) M (Tr.refl ab) rfl (by rw [dec_int, Bool.beq_eq_decide_eq]; exact q)⟩
  · rename_i a b
    cases (show x = V.bl a from rx)
    cases (show y = V.bl b from ry)
    refine .inl ?_
    cases neg with
    | true => exact ⟨rfl, k _ H (.bl _) M (Tr.refl ab) rfl (by rw [dec_bl, Bool.beq_eq_decide_eq]; exact q)⟩
    | false => exact ⟨rfl, k _ H (.bl _) M (Tr.refl ab) rfl (by rw [dec_bl, Bool.beq_eq_decide_eq]; exact q)⟩
  · obtain ⟨p, p', e1, e2, s1, s2, q⟩ := q
    refine .inr ?_
    cases neg with
    | true => exact ⟨p, p', rx.dpM ab e1, ry.dpM ab e2, s1, s2, k _ H (.bl _) M (Tr.refl ab) rfl q⟩
    | false => exact ⟨p, p', rx.dpM ab e1, ry.dpM ab e2, s1, s2, k _ H (.bl _) M (Tr.refl ab) rfl q⟩
def isNon : D → Bool
  | .non => true | .bl _ => false | .int _ => false | .str _ => false | .tup _ => false | .obj _ => false | .fl _ => false
def ρIsN (neg : Bool) : AR2 := fun x y M Q => isNon y = true ∧ Q (.bl (if neg then !isNon x else isNon x)) M
theorem rep_non {H : Hp} {d : D} {v : V} (h : Rep K H d v) : decide (v = V.non) = isNon d := by
  cases d with
  | non => cases (show v = V.non from h); rfl
  | bl b => cases (show v = V.bl b from h); rfl
  | int b => cases (show v = V.int b from h); rfl
  | str b => cases (show v = V.str b from h); rfl
  | obj b => cases (show v = V.ref b from h); rfl
  | tup ds => obtain ⟨a, vs, rfl, _⟩ := h; rfl
  | fl ds => obtain ⟨a, vs, rfl, _⟩ := h; rfl
theorem rep_isNon {H : Hp} {d : D} {v : V} (h : Rep K H d v) (e : isNon d = true) : v = V.non := by
  cases d with
  | non => exact h
  | _ => cases e
theorem sim_isN : SimR K (fun x y H Q => y = .non ∧ Q (.bl (decide (x = .non))) H) (ρIsN false) := by
  intro x y dx dy H M Q Qc ab rx ry q k
  refine ⟨rep_isNon ry q.1, k _ H (.bl (decide (x = .non))) M (Tr.refl ab) rfl ?_⟩
  rw [rep_non rx]
  exact q.2
theorem sim_notN : SimR K (fun x y H Q => y = .non ∧ Q (.bl (!decide (x = .non))) H) (ρIsN true) := by
  intro x y dx dy H M Q Qc ab rx ry q k
  refine ⟨rep_isNon ry q.1, k _ H (.bl (!decide (x = .non))) M (Tr.refl ab) rfl ?_⟩
  rw [rep_non rx]
  exact q.2
def flatD : D → Bool
  | .non => true | .bl _ => true | .int _ => true | .str _ => true | _ => false
def eqF : D → D → Bool
  | .non, .non => true
  | .bl a, .bl b => a == b
  | .bl a, .int b => (if a then 1 else 0) == b
  | .int a, .bl b => a == (if b then 1 else 0)
  | .int a, .int b => a == b
  | .str a, .str b => decide (a = b)
  | _, _ => false
theorem flat_rep {H : Hp} {d : D} {v : V} (h : Rep K H d v) (f : flatD d = true) : flatV v = true := by
  cases d with
  | non => cases (show v = V.non from h); rfl
  | bl b => cases (show v = V.bl b from h); rfl
  | int b => cases (show v = V.int b from h); rfl
  | str b => cases (show v = V.str b from h); rfl
  | obj b => cases f
  | tup ds => cases f
  | fl ds => cases f
theorem eqF_rep {H : Hp} {d e : D} {v w : V} (h : Rep K H d v) (h' : Rep K H e w) (f : flatD d = true) (f' : flatD e = true) : eqV v w = eqF d e := by
  cases d with
  | obj b => cases f
  | tup ds => cases f
  | fl ds => cases f
  | non =>
    cases (show v = V.non from h)
    cases e with
    | obj b => cases f'
    | tup ds => cases f'
    | fl ds => cases f'
    | non => cases (show w = V.non from h'); rfl
    | bl b => cases (show w = V.bl b from h'); rfl
    | int b => cases (show w = V.int b from h'); rfl
    | str b => cases (show w = V.str b from h'); rfl
  | bl b =>
    cases (show v = V.bl b from h)
    cases e with
    | obj b => cases f'
    | tup ds => cases f'
    | fl ds => cases f'
    | non => cases (show w = V.non from h'); rfl
    | bl b => cases (show w = V.bl b from h'); rfl
    | int b => cases (show w = V.int b from h'); rfl
    | str b => cases (show w = V.str b from h'); rfl
  | int b =>
    cases (show v = V.int b from h)
    cases e with
    | obj b => cases f'
    | tup ds => cases f'
    | fl ds => cases f'
    | non => cases (show w = V.non from h'); rfl
    | bl b => cases (show w = V.bl b from h'); rfl
    | int b => cases (show w = V.int b from h'); rfl
    | str b => cases (show w = V.str b from h'); rfl
  | str b =>
    cases (show v = V.str b from h)
    cases e with
    | obj b => cases f'
    | tup ds => cases f'
    | fl ds => cases f'
    | non => cases (show w = V.non from h'); rfl
    | bl b => cases (show w = V.bl b from h'); rfl
    | int b => cases (show w = V.int b from h'); rfl
    | str c => cases (show w = V.str c from h'); exact Bool.beq_eq_decide_eq b c
theorem flats_rep {H : Hp} : ∀ {ds : List D} {vs : List V}, RepL K H ds vs → ds.all flatD = true → vs.all flatV = true
  | [], vs, h, _ => by cases (show vs = [] from h); rfl
  | d :: ds, _, h, f => by
    obtain ⟨v, r, rfl, h1, h2⟩ := h
    rw [List.all_cons, Bool.and_eq_true] at f ⊢
    exact ⟨flat_rep h1 f.1, flats_rep h2 f.2⟩
theorem inF_rep {H : Hp} {x : V} {dx : D} (hx : Rep K H dx x) (fx : flatD dx = true) : ∀ {ds : List D} {vs : List V}, RepL K H ds vs → ds.all flatD = true → inV x vs = ds.any fun y => eqF y dx
  | [], vs, h, _ => by cases (show vs = [] from h); rfl
  | d :: ds, _, h, f => by
    obtain ⟨v, r, rfl, h1, h2⟩ := h
    rw [List.all_cons, Bool.and_eq_true] at f
    show (eqV v x || inV x r) = _
    rw [eqF_rep h1 hx f.1 fx, inF_rep hx fx h2 f.2, List.any_cons]
def rInA (K : PySem.W.Frag) (neg : Bool) : R2 := fun x y H Q => rIn K neg x y H Q ∨ (if neg then rNotInD K x y H Q else rInD K x y H Q) ∨ ∃ (c : Nat) (z : Str), x = .str ⟨#[c]⟩ ∧ y = .str z ∧ Q (.bl (if neg then !decide (c ∈ z.cps.toList) else decide (c ∈ z.cps.toList))) H
theorem op_inA (hu : X.A.units + 65 < cLine) : OpR X (compareOp .In) (rInA X.K false) := op_in_seq.or ((op_inD hu).or op_in_sign)
def ρIn (neg : Bool) : AR2 := fun x y M Q => match y with
  | .tup ds => flatD x = true ∧ ds.all flatD = true ∧ Q (.bl (if neg then !(ds.any fun y => eqF y x) else ds.any fun y => eqF y x)) M
  | .obj a => lstAt M a fun ds => ((flatD x = true ∧ ds.all flatD = true ∧ Q (.bl (if neg then !(ds.any fun y => eqF y x) else ds.any fun y => eqF y x)) M) ∨
      ∃ p ps, x.py = some p ∧ D.pys ds = some ps ∧ SeqAt.shaped p = true ∧ SeqAt.shaped (.list ps) = true ∧ Q (.bl (if neg then !(ps.any fun z => PyData.eqv z p) else ps.any fun z => PyData.eqv z p)) M)
  | .str z => ∃ c : Nat, x = .str ⟨#[c]⟩ ∧ Q (.bl (if neg then !decide (c ∈ z.cps.toList) else decide (c ∈ z.cps.toList))) M
  | _ => False
theorem sim_in {neg : Bool} : SimR K (rInA K neg) (ρIn neg) := by
  intro x y dx dy H M Q Qc ab rx ry q k
  cases dy with
  | tup ds =>
    obtain ⟨f, fs, q⟩ := q
    obtain ⟨p, vs, rfl, hp, hv⟩ := ry
    refine .inl ⟨p, vs, rfl, .inr hp, flat_rep rx f, flats_rep hv fs, k _ H (.bl _) M (Tr.refl ab) rfl ?_⟩
    rw [inF_rep rx f hv fs]
    exact q
  | obj a =>
    obtain ⟨ds, m, q⟩ := lstAt_ex q
    cases (show y = V.ref a from ry)
    obtain ⟨vs, h1, hv⟩ := ab a _ m
    rcases q with ⟨f, fs, q⟩ | ⟨p, ps, e1, e2, s1, s2, q⟩
    · refine .inl ⟨a, vs, rfl, .inl (SqL.of h1), flat_rep rx f, flats_rep hv fs, k _ H (.bl _) M (Tr.refl ab) rfl ?_⟩
      rw [inF_rep rx f hv fs]
      exact q
    · refine .inr (.inl ?_)
      cases neg with
      | true => exact ⟨p, ps, Rep.dp dx x p rx e1, .lst (SqL.of h1) (RepL.dp ds vs ps hv e2), s1, s2, k _ H (.bl _) M (Tr.refl ab) rfl q⟩
      | false => exact ⟨p, ps, Rep.dp dx x p rx e1, .lst (SqL.of h1) (RepL.dp ds vs ps hv e2), s1, s2, k _ H (.bl _) M (Tr.refl ab) rfl q⟩
  | str z =>
    obtain ⟨c, rfl, q⟩ := q
    cases (show x = V.str _ from rx)
    cases (show y = V.str _ from ry)
    exact .inr (.inr ⟨c, z, rfl, rfl, k _ H (.bl _) M (Tr.refl ab) rfl q⟩)
  | _ => exact q.elim
def ρIx : AR2 := fun x y M Q => match x, y with
  | .tup ds, .int i => optAt (atI ds i) fun d => Q d M
  | .str z, .int i => z.length ≤ sizeLine ∧ optAt (atI z.cps.toList i) fun c => Q (.str ⟨#[c]⟩) M
  | .obj a, .int i => lstAt M a fun ds => optAt (atI ds i) fun d => Q d M
  | .fl ds, .int i => optAt (atI ds i) fun d => Q d M
  | _, _ => False
theorem rep_at {H : Hp} {ds : List D} {vs : List V} {i : Int} {d : D} (h : RepL K H ds vs) (e : atI ds i = some d) : ∃ v, atI vs i = some v ∧ Rep K H d v := by
  unfold atI at e ⊢
  rw [Option.bind_eq_some_iff] at e
  obtain ⟨j, e1, e2⟩ := e
  obtain ⟨v, e3, r⟩ := h.get e2
  exact ⟨v, by rw [← h.length, e1]; exact e3, r⟩
theorem sim_ix : SimR K (rIx K) ρIx := by
  intro x y dx dy H M Q Qc ab rx ry q k
  cases dx with
  | tup ds =>
    cases dy with
    | int i =>
      obtain ⟨d, e, q⟩ := optAt_ex q
      obtain ⟨p, vs, rfl, hp, hv⟩ := rx
      cases (show y = V.int i from ry)
      obtain ⟨v, e', r⟩ := rep_at hv e
      exact .inr (.inl ⟨p, vs, i, v, rfl, rfl, hp, e', k v H d M (Tr.refl ab) r q⟩)
    | _ => exact False.elim q
  | str z =>
    cases dy with
    | int i =>
      obtain ⟨l, q⟩ := q
      obtain ⟨c, e, q⟩ := optAt_ex q
      cases (show x = V.str z from rx)
      cases (show y = V.int i from ry)
      exact .inr (.inr ⟨z, i, c, rfl, rfl, l, e, k _ H (.str _) M (Tr.refl ab) rfl q⟩)
    | _ => exact False.elim q
  | obj a =>
    cases dy with
    | int i =>
      obtain ⟨ds, m, q⟩ := lstAt_ex q
      obtain ⟨d, e, q⟩ := optAt_ex q
      cases (show x = V.ref a from rx)
      cases (show y = V.int i from ry)
      obtain ⟨vs, h1, hv⟩ := ab a _ m
      obtain ⟨v, e', r⟩ := rep_at hv e
      exact .inl ⟨a, vs, i, v, rfl, rfl, SqL.of h1, e', k v H d M (Tr.refl ab) r q⟩
    | _ => exact False.elim q
  | fl ds =>
    cases dy with
    | int i =>
      obtain ⟨d, e, q⟩ := optAt_ex q
      obtain ⟨p, vs, rfl, hp, hv⟩ := rx
      cases (show y = V.int i from ry)
      obtain ⟨v, e', r⟩ := rep_at hv e
      exact .inl ⟨p, vs, i, v, rfl, rfl, hp.l, e', k v H d M (Tr.refl ab) r q⟩
    | _ => exact False.elim q
  | _ => exact False.elim q
theorem ae_ix {W : WX} {a b : Expr} {α β : ATE} {pos : Pos} (ha : AE X W a α) (hb : AE X W b β) (hs : PlainIx b) : AE X W (.Subscript a b pos) (aOp ρIx α β) := PE.imp (pe_ix ix_seq ha hb hs) fun _ _ _ => s_op sim_ix
end

section
variable {W : WX} {X : Cx} {a b c : Expr} {α β γ : ATE} {A B : ATT} {rest : List Expr} {pos : Pos}
def aTest (a : ATE) : ATT := fun ax env M Q => a ax env M fun x M1 => match x with
  | .bl b => Q b M1
  | _ => False
theorem at_cmpR {op : CmpOp} {r : R2} {ρ : AR2} (ho : OpR X (compareOp op) r) (hr : SimR X.K r ρ) (ha : AE X W a α) (hb : AE X W b β) (hm : behindInMarks op b = false) : AT X W (.Compare a [op] [b] pos) (aTest (aOp ρ α β)) :=
  PT.imp (pt_cmpR ho ha hb hm) fun σ H Q h => by
    obtain ⟨ax, env, M, Qa, S, q, k⟩ := h
    refine s_op hr (ρ := ρ) ⟨ax, env, M, _, S, q, fun v H' d M' t r q => ?_⟩
    cases d with
    | bl b => cases (show v = V.bl b from r); exact ⟨b, rfl, k b H' M' t q⟩
    | _ => exact False.elim q
def aTruth (a : ATE) : ATT := fun ax env M Q => a ax env M fun x M1 => match x with
  | .non => Q false M1
  | .bl b => Q b M1
  | .int i => Q (i != 0) M1
  | .str z => z.length ≤ sizeLine ∧ Q ((z.length : Int) != 0) M1
  | .tup ds => Q (!ds.isEmpty) M1
  | .obj p => match M1 p with
    | some (.lst ds) => Q (!ds.isEmpty) M1
    | some (.dic kvs) => Q (!kvs.isEmpty) M1
    | _ => False
  | .fl _ => False
theorem isEmpty_rep {K : PySem.W.Frag} {H : Hp} {ds : List D} {vs : List V} (h : RepL K H ds vs) : vs.isEmpty = ds.isEmpty := by
  cases ds with
  | nil => cases (show vs = [] from h); rfl
  | cons d ds => obtain ⟨v, r, rfl, _⟩ := h; rfl
theorem isEmpty_repK {K : PySem.W.Frag} {H : Hp} {ds : List (Key × D)} {vs : List (Key × V)} (h : RepK K H ds vs) : vs.isEmpty = ds.isEmpty := by
  cases h <;> rfl
theorem at_truth (ha : AE X W a α) (he : ∀ whole, isTrue a X.env whole = (do let v ← whole; standAt a.pos; holding [v] (truthy v)) := by intro _; rfl) : AT X W a (aTruth α) :=
  PT.imp (pt_truth ha he) fun σ H Q h => by
    obtain ⟨ax, env, M, Qa, S, q, k⟩ := h
    refine ⟨ax, env, M, _, S, q, fun v H' d M' t r q => ?_⟩
    cases d with
    | non => cases (show v = V.non from r); exact ⟨false, rfl, k _ H' M' t q⟩
    | bl b => cases (show v = V.bl b from r); exact ⟨b, rfl, k _ H' M' t q⟩
    | int i => cases (show v = V.int i from r); exact ⟨_, rfl, k _ H' M' t q⟩
    | str z => cases (show v = V.str z from r); exact ⟨_, ⟨q.1, rfl⟩, k _ H' M' t q.2⟩
    | tup ds =>
      obtain ⟨p, vs, rfl, hp, hv⟩ := r
      exact ⟨_, .inr (.inl ⟨vs, hp, by rw [isEmpty_rep hv]⟩), k _ H' M' t q⟩
    | obj p =>
      cases (show v = V.ref p from r)
      have q' : (match M' p with | some (.lst ds) => Qa (!ds.isEmpty) M' | some (.dic kvs) => Qa (!kvs.isEmpty) M' | _ => False) := q
      split at q'
      · rename_i m
        obtain ⟨vs, h1, hv⟩ := t.abs p _ m
        exact ⟨_, .inl ⟨vs, SqL.of h1, by rw [isEmpty_rep hv]⟩, k _ H' M' t q'⟩
      · rename_i m
        obtain ⟨vs, h1, hv⟩ := t.abs p _ m
        exact ⟨_, .inr (.inr ⟨vs, h1, by rw [isEmpty_repK hv]⟩), k _ H' M' t q'⟩
      · exact q'.elim
    | fl ds => exact False.elim q
def aAnd (A B : ATT) : ATT := fun ax env M Q => A ax env M fun c M1 => if c = true then B ax env M1 Q else Q false M1
def aOr (A B : ATT) : ATT := fun ax env M Q => A ax env M fun c M1 => if c = true then Q true M1 else B ax env M1 Q
def aNot (A : ATT) : ATT := fun ax env M Q => A ax env M fun c M1 => Q (!c) M1
theorem aw_or1 (ha : AT X W a A) : AW X W (.BoolOp .Or [a] pos) A := pw_or1 ha
theorem aw_or (ha : AT X W a A) (hb : AW X W (.BoolOp .Or (b :: rest) pos) B) : AW X W (.BoolOp .Or (a :: b :: rest) pos) (aOr A B) := PW.imp (pw_or ha hb) fun σ H Q h => by
  obtain ⟨ax, env, M, Qa, S, q, k⟩ := h
  refine ⟨ax, env, M, _, S, q, fun c H1 M1 t q => ?_⟩
  cases c with
  | false => exact ⟨ax, env, M1, Qa, S.next t, q, fun b H' M' t' q => k b H' M' (t.trans t') q⟩
  | true => exact k true H1 M1 t q
theorem at_w (h : AW X W a A) : AT X W a A := PW.pt h
theorem at_not (ha : AT X W a A) : AT X W (.UnaryOp .Not a pos) (aNot A) := PT.imp (pt_not ha) fun σ H Q h => by
  obtain ⟨ax, env, M, Qa, S, q, k⟩ := h
  exact ⟨ax, env, M, _, S, q, fun c H1 M1 t q => k _ H1 M1 t q⟩
def aChain (ρ ρ' : AR2) (a b c : ATE) : ATE := fun ax env M Q => a ax env M fun x M1 => b ax env M1 fun y M2 => ρ x y M2 fun z M3 => match z with
  | .bl k => if k = true then c ax env M3 fun w M4 => ρ' y w M4 Q else Q (.bl false) M3
  | _ => False
theorem s_chain {K : PySem.W.Frag} {r r' : R2} {ρ ρ' : AR2} (hr : SimR K r ρ) (hr' : SimR K r' ρ') {σ : L2.St} {H : Hp} {Q : VK} (h : cE K W (aChain ρ ρ' α β γ) σ H Q) : tChain r r' (cE K W α) (cE K W β) (cE K W γ) σ H Q := by
  obtain ⟨ax, env, M, Qa, S, q, k⟩ := h
  refine ⟨ax, env, M, _, S, q, fun x H1 dx M1 t1 r1 q1 => ?_⟩
  refine ⟨ax, env, M1, _, S.next t1, q1, fun y H2 dy M2 t2 r2 q2 => ?_⟩
  refine hr x y dx dy H2 M2 _ _ t2.abs (t2.rep t1.abs r1) r2 q2 fun z H3 dz M3 t3 r3 q3 => ?_
  cases dz with
  | bl b =>
    cases (show z = V.bl b from r3)
    refine ⟨b, rfl, ?_⟩
    cases b with
    | true =>
      refine ⟨ax, env, M3, _, ((S.next t1).next t2).next t3, q3, fun w H4 dw M4 t4 r4 q4 => ?_⟩
      exact hr' y w dy dw H4 M4 Qa _ t4.abs (t4.rep t3.abs (t3.rep t2.abs r2)) r4 q4 fun v H' d M' t5 r5 q5 => k v H' d M' ((((t1.trans t2).trans t3).trans t4).trans t5) r5 q5
    | false => exact k _ H3 (.bl false) M3 ((t1.trans t2).trans t3) rfl q3
  | _ => exact False.elim q3
theorem ae_chain {op op' : CmpOp} {r r' : R2} {ρ ρ' : AR2} (ho : OpR X (compareOp op) r) (ho' : OpR X (compareOp op') r') (hr : SimR X.K r ρ) (hr' : SimR X.K r' ρ') (ha : AE X W a α) (hb : AE X W b β) (hc : AE X W c γ)
    (hm : lastMarks [op, op'] [b, c] = false := by rfl) : AE X W (.Compare a [op, op'] [b, c] pos) (aChain ρ ρ' α β γ) := PE.imp (pe_chain ho ho' ha hb hc hm) fun _ _ _ => s_chain hr hr'
def aTru1 (d : D) (M : Sto) (Q : Bool → Prop) : Prop := match d with
  | .non => Q false
  | .bl b => Q b
  | .int i => Q (i != 0)
  | .str z => z.length ≤ sizeLine ∧ Q ((z.length : Int) != 0)
  | .tup ds => Q (!ds.isEmpty)
  | .obj p => match M p with
    | some (.lst ds) => Q (!ds.isEmpty)
    | some (.dic kvs) => Q (!kvs.isEmpty)
    | _ => False
  | .fl _ => False
theorem tru1_rep {K : PySem.W.Frag} {M : Sto} {H : Hp} (ab : Abs K M H) {d : D} {v : V} (r : Rep K H d v) {Q : Bool → Prop} (q : aTru1 d M Q) : ∃ k, TruV K v H k ∧ Q k := by
  cases d with
  | non => cases (show v = V.non from r); exact ⟨false, rfl, q⟩
  | bl b => cases (show v = V.bl b from r); exact ⟨b, rfl, q⟩
  | int i => cases (show v = V.int i from r); exact ⟨_, rfl, q⟩
  | str z => cases (show v = V.str z from r); exact ⟨_, ⟨q.1, rfl⟩, q.2⟩
  | tup ds =>
    obtain ⟨p, vs, rfl, hp, hv⟩ := r
    exact ⟨_, .inr (.inl ⟨vs, hp, by rw [isEmpty_rep hv]⟩), q⟩
  | obj p =>
    cases (show v = V.ref p from r)
    have q' : (match M p with | some (.lst ds) => Q (!ds.isEmpty) | some (.dic kvs) => Q (!kvs.isEmpty) | _ => False) := q
    split at q'
    · rename_i m
      obtain ⟨vs, h1, hv⟩ := ab p _ m
      exact ⟨_, .inl ⟨vs, SqL.of h1, by rw [isEmpty_rep hv]⟩, q'⟩
    · rename_i m
      obtain ⟨vs, h1, hv⟩ := ab p _ m
      exact ⟨_, .inr (.inr ⟨vs, h1, by rw [isEmpty_repK hv]⟩), q'⟩
    · exact q'.elim
  | fl ds => exact False.elim q
def aOrV (a b : ATE) : ATE := fun ax env M Q => a ax env M fun x M1 => aTru1 x M1 fun k => if k = true then Q x M1 else b ax env M1 Q
def aAndV (a b : ATE) : ATE := fun ax env M Q => a ax env M fun x M1 => aTru1 x M1 fun k => if k = true then b ax env M1 Q else Q x M1
def aNotV (a : ATE) : ATE := fun ax env M Q => a ax env M fun x M1 => aTru1 x M1 fun k => Q (.bl (!k)) M1
theorem ae_one {op} (h : AE X W a α) : AE X W (.BoolOp op [a] pos) α := pe_one h
theorem ae_and (ha : AE X W a α) (hb : AE X W (.BoolOp .And (b :: rest) pos) β) : AE X W (.BoolOp .And (a :: b :: rest) pos) (aAndV α β) := PE.imp (pe_andT ha hb) fun σ H Q h => by
  obtain ⟨ax, env, M, Qa, S, q, k⟩ := h
  refine ⟨ax, env, M, _, S, q, fun x H1 dx M1 t r q => ?_⟩
  obtain ⟨b, tv, q⟩ := tru1_rep t.abs r q
  refine ⟨b, tv, ?_⟩
  cases b with
  | false => exact k x H1 dx M1 t r q
  | true => exact ⟨ax, env, M1, Qa, S.next t, q, fun v H' d M' t' r' q => k v H' d M' (t.trans t') r' q⟩
theorem ae_not (ha : AE X W a α) : AE X W (.UnaryOp .Not a pos) (aNotV α) := PE.imp (pe_notT ha) fun σ H Q h => by
  obtain ⟨ax, env, M, Qa, S, q, k⟩ := h
  refine ⟨ax, env, M, _, S, q, fun x H1 dx M1 t r q => ?_⟩
  obtain ⟨b, tv, q⟩ := tru1_rep t.abs r q
  exact ⟨b, tv, k _ H1 (.bl (!b)) M1 t rfl q⟩
def aIfE (A : ATT) (a b : ATE) : ATE := fun ax env M Q => A ax env M fun c M1 => if c = true then a ax env M1 Q else b ax env M1 Q
theorem ae_ifExp (hc : AT X W c A) (ha : AE X W a α) (hb : AE X W b β) : AE X W (.IfExp c a b pos) (aIfE A α β) := PE.imp (pe_ifExp hc ha hb) fun σ H Q h => by
  obtain ⟨ax, env, M, Qa, S, q, k⟩ := h
  refine ⟨ax, env, M, _, S, q, fun c H1 M1 t q => ?_⟩
  cases c with
  | true => exact ⟨ax, env, M1, Qa, S.next t, q, fun v H' d M' t' r q => k v H' d M' (t.trans t') r q⟩
  | false => exact ⟨ax, env, M1, Qa, S.next t, q, fun v H' d M' t' r q => k v H' d M' (t.trans t') r q⟩
def aNeg (a : ATE) : ATE := fun ax env M Q => a ax env M fun x M1 => match x with
  | .int i => Q (.int (-i)) M1
  | _ => False
theorem ae_neg (ha : AE X W a α) : AE X W (.UnaryOp .USub a pos) (aNeg α) := PE.imp (pe_un un_neg ha) fun σ H Q h => by
  obtain ⟨ax, env, M, Qa, S, q, k⟩ := h
  refine ⟨ax, env, M, _, S, q, fun x H1 dx M1 t r q => ?_⟩
  cases dx with
  | int i => cases (show x = V.int i from r); exact ⟨i, rfl, k _ H1 (.int (-i)) M1 t rfl q⟩
  | _ => exact False.elim q
end

section
variable {W : WX} {X : Cx} {e : Expr} {es : List Expr} {α β : ATE} {τ : ATA} {pos : Pos} {x : Str} {p : Pos}
def aNil : ATA := fun _ _ M Q => Q [] M
def aCons (a : ATE) (r : ATA) : ATA := fun ax env M Q => a ax env M fun x M1 => r ax env M1 fun xs M2 => Q (x :: xs) M2
theorem aa_nil : AA X W [] aNil := PA.imp pa_nil fun σ H Q h => by
  obtain ⟨ax, env, M, Qa, S, q, k⟩ := h
  exact k [] H [] M (Tr.refl S.abs) rfl q
theorem aa_cons (ha : AE X W e α) (hr : AA X W es τ) (hs : starEach (e :: es) X.env = (false, eval e X.env) :: starEach es X.env := by rfl) : AA X W (e :: es) (aCons α τ) := PA.imp (pa_cons ha hr hs) fun σ H Q h => by
  obtain ⟨ax, env, M, Qa, S, q, k⟩ := h
  refine ⟨ax, env, M, _, S, q, fun v H1 d M1 t r q => ?_⟩
  exact ⟨ax, env, M1, _, S.next t, q, fun vs H2 ds M2 t2 r2 q2 => k (v :: vs) H2 (d :: ds) M2 (t.trans t2) ⟨v, vs, rfl, t2.rep t.abs r, r2⟩ q2⟩
def aTup (τ : ATA) : ATE := fun ax env M Q => τ ax env M fun ds M1 => ds.length ≤ sizeLine ∧ Q (.tup ds) M1
def aLst (τ : ATA) : ATE := fun ax env M Q => τ ax env M fun ds M1 => ds.length ≤ sizeLine ∧ New (.lst ds) M1 Q
theorem ae_tup {x1} (h : AA X W es τ) : AE X W (.Tuple es x1 pos) (aTup τ) := PE.imp (pe_tup h) fun σ H Q h => by
  obtain ⟨ax, env, M, Qa, S, q, k⟩ := h
  refine ⟨ax, env, M, _, S, q, fun vs H1 ds M1 t r q => ?_⟩
  refine ⟨by rw [← r.length]; exact q.1, fun p hp => ?_⟩
  exact k _ _ (.tup ds) M1 (t.trans (Tr.newT t.abs hp)) (rep_newT hp r) q.2
theorem ae_lst (h : AA X W es τ) : AE X W (.List es pos) (aLst τ) := PE.imp (pe_lst h) fun σ H Q h => by
  obtain ⟨ax, env, M, Qa, S, q, k⟩ := h
  refine ⟨ax, env, M, _, S, q, fun vs H1 ds M1 t r q => ?_⟩
  refine ⟨by rw [← r.length]; exact q.1, fun p hp => ?_⟩
  exact k _ _ (.obj p) _ (t.trans (Tr.newM (mo := .lst ds) t.abs hp ⟨vs, upd_same, repL_new hp r⟩)) rfl (q.2 p (t.abs.fresh hp))
def aDNew : ATE := fun _ _ M Q => New (.dic []) M Q
theorem ae_dnew : AE X W (.Dict [] [] pos) aDNew := PE.imp pe_dnewK fun σ H Q h => by
  obtain ⟨ax, env, M, Qa, S, q, k⟩ := h
  intro p hp
  exact k _ _ (.obj p) _ (Tr.newM (mo := .dic []) S.abs hp ⟨[], upd_same, .nil⟩) rfl (q p (S.abs.fresh hp))
abbrev ASp := List D → Sto → (D → Sto → Prop) → (Value → List (Str × D) → Sto → Prop) → Prop
def conc (K : PySem.W.Frag) (n : Nat) (A : ASp) : Sp := fun vs H Q E => ∃ ds M Qa Xa, vs.length = n ∧ RepL K H ds vs ∧ Abs K M H ∧ Tabs M H ∧ A ds M Qa Xa ∧ (∀ v H' d M', Tr K M H M' H' → Rep K H' d v → Qa d M' → Q v H') ∧
  ∀ cls d H' M' fs, Tr K M H M' H' → RepX K H' d fs → Xa cls fs M' → E cls d H'
def xa0 : Value → List (Str × D) → Sto → Prop := fun _ _ _ => False
def Wait (n : Nat) (A : ASp) (ds : List D) (M : Sto) (Q : D → Sto → Prop) : Prop := ds.length = n ∧ A ds M Q xa0
def aCall (n : Nat) (A : ASp) (τ : ATA) : ATE := fun ax env M Q => τ ax env M fun ds M1 => Wait n A ds M1 Q
variable {CX : CXT} {k : Nat} {f : Addr} {fd : FuncData} {ps : List Str} {A : ASp} {n : Nat}
theorem s_call {K : PySem.W.Frag} {σ : L2.St} {H : Hp} {Q : VK} (h : cE K W (aCall n A τ) σ H Q) : tCall (conc K n A) [] E0 (cA K W τ) σ H Q := by
  obtain ⟨ax, env, M, Qa, S, q, k⟩ := h
  refine ⟨ax, env, M, _, S, q, fun vs H1 ds M1 t r q => ?_⟩
  show conc K n A (vs ++ []) H1 Q E0
  rw [List.append_nil]
  exact ⟨ds, M1, Qa, xa0, by rw [← r.length]; exact q.1, r, t.abs, (S.next t).tb, q.2, fun v H' d M' t' r' q' => k v H' d M' (t.trans t') r' q', fun cls d H' M' fs t' rx q' => q'.elim⟩
theorem ae_call (F : FnOk X.prog X.w X.K X.mg X.base CX0 k f fd ps (conc X.K n A)) (hr : Room k X.A) (hg : Gl X x) (hm : X.mg x = some (.ref f)) (hk : PySem.W.keepIn X.K (.ref f) = true) (hb : Binds X.K fd ps [])
    (ha : AA X W (e :: es) τ) (hdb : (x == ("__debug__" : Str)) = false := by decide) (he : starEach (e :: es) X.env = (false, eval e X.env) :: starEach es X.env := by rfl) (hpl : (backTo pos (starEach es X.env)).any (·.1) = false := by rfl) :
    AE X W (.Call (.Name x p) (e :: es) [] pos) (aCall n A τ) :=
  PE.imp (pe_call F hr hg hm hk hb .nil pass0 ha hdb he hpl) fun _ _ _ => s_call
def aCB (ρ : ARs) (τ : ATA) : ATE := fun ax env M Q => τ ax env M fun ds M1 => ρ ds M1 Q
theorem s_cb {K : PySem.W.Frag} {r : List V → Hp → VK → Prop} {ρ : ARs} (hr : SimC K r ρ) {σ : L2.St} {H : Hp} {Q : VK} (h : cE K W (aCB ρ τ) σ H Q) : tCB r (cA K W τ) σ H Q := by
  obtain ⟨ax, env, M, Qa, S, q, k⟩ := h
  refine ⟨ax, env, M, _, S, q, fun vs H1 ds M1 t r' q => ?_⟩
  exact hr vs ds H1 M1 Qa _ t.abs r' q fun v H' d M' t' r2 q' => k v H' d M' (t.trans t') r2 q'
variable {id T : String} {r : List V → Hp → VK → Prop} {ρ : ARs}
theorem ae_callB (hc : CallR X (.builtin id) r) (hs : SimC X.K r ρ) (hg : Gl X x) (hm : X.mg x = none) (hv : bootBuiltins x = some (.builtin id)) (ha : AA X W (e :: es) τ) (hn : x ≠ "__name__" := by decide) (hdb : (x == ("__debug__" : Str)) = false := by decide)
    (he : starEach (e :: es) X.env = (false, eval e X.env) :: starEach es X.env := by rfl) (hpl : (backTo pos (starEach es X.env)).any (·.1) = false := by rfl) : AE X W (.Call (.Name x p) (e :: es) [] pos) (aCB ρ τ) :=
  PE.imp (pe_callB hc hg hm hv ha hn hdb he hpl) fun _ _ _ => s_cb hs
theorem ae_callTy (hc : CallR X (.type T) r) (hs : SimC X.K r ρ) (hg : Gl X x) (hm : X.mg x = none) (hv : bootBuiltins x = some (.type T)) (ha : AA X W (e :: es) τ) (hn : x ≠ "__name__" := by decide) (hdb : (x == ("__debug__" : Str)) = false := by decide)
    (he : starEach (e :: es) X.env = (false, eval e X.env) :: starEach es X.env := by rfl) (hpl : (backTo pos (starEach es X.env)).any (·.1) = false := by rfl) : AE X W (.Call (.Name x p) (e :: es) [] pos) (aCB ρ τ) :=
  PE.imp (pe_callTy hc hg hm hv ha hn hdb he hpl) fun _ _ _ => s_cb hs
variable {K : PySem.W.Frag}
def rLenA (K : PySem.W.Frag) : List V → Hp → VK → Prop := fun xs H Q => (∃ p ys, xs = [.ref p] ∧ (SqL K H p ys ∨ SqT K H p ys) ∧ Q (.int ys.length) H) ∨ (∃ z, xs = [.str z] ∧ z.length ≤ sizeLine ∧ Q (.int z.length) H)
theorem call_lenA : CallR X (.builtin "len") (rLenA X.K) := call_len_seq.or call_len_str
def ρLen : ARs := fun ds M Q => match ds with
  | [.tup ds] => Q (.int ds.length) M
  | [.str z] => z.length ≤ sizeLine ∧ Q (.int z.length) M
  | [.fl ds] => Q (.int ds.length) M
  | [.obj p] => lstAt M p fun ds => Q (.int ds.length) M
  | _ => False
theorem repL1 {H : Hp} {d : D} {xs : List V} (h : RepL K H [d] xs) : ∃ v, xs = [v] ∧ Rep K H d v := by
  obtain ⟨v, r, rfl, h1, h2⟩ := h
  cases (show r = [] from h2)
  exact ⟨v, rfl, h1⟩
theorem repL2 {H : Hp} {d e : D} {xs : List V} (h : RepL K H [d, e] xs) : ∃ v w, xs = [v, w] ∧ Rep K H d v ∧ Rep K H e w := by
  obtain ⟨v, r, rfl, h1, h2⟩ := h
  obtain ⟨w, rfl, h3⟩ := repL1 h2
  exact ⟨v, w, rfl, h1, h3⟩
theorem sim_len : SimC K (rLenA K) ρLen := by
  intro xs ds H M Q Qc ab rx q k
  unfold ρLen at q
  split at q
  · obtain ⟨v, rfl, r1⟩ := repL1 rx
    obtain ⟨p, vs, rfl, hp, hv⟩ := r1
    exact .inl ⟨p, vs, rfl, .inr hp, k _ H (.int _) M (Tr.refl ab) rfl (by rw [← hv.length]; exact q)⟩
  · obtain ⟨v, rfl, r1⟩ := repL1 rx
    cases (show v = V.str _ from r1)
    exact .inr ⟨_, rfl, q.1, k _ H (.int _) M (Tr.refl ab) rfl q.2⟩
  · obtain ⟨v, rfl, r1⟩ := repL1 rx
    obtain ⟨p, vs, rfl, hp, hv⟩ := r1
    exact .inl ⟨p, vs, rfl, .inl hp.l, k _ H (.int _) M (Tr.refl ab) rfl (by rw [← hv.length]; exact q)⟩
  · obtain ⟨v, rfl, r1⟩ := repL1 rx
    cases (show v = V.ref _ from r1)
    obtain ⟨ds, m, q⟩ := lstAt_ex q
    obtain ⟨vs, h1, hv⟩ := ab _ _ m
    exact .inl ⟨_, vs, rfl, .inl (SqL.of h1), k _ H (.int _) M (Tr.refl ab) rfl (by rw [← hv.length]; exact q)⟩
  · exact q.elim
def ρInt : ARs := fun ds M Q => match ds with
  | [.int i] => Q (.int i) M
  | [.bl b] => Q (.int (if b then 1 else 0)) M
  | _ => False
theorem sim_int : SimC K (fun xs H Q => (∃ i, xs = [.int i] ∧ Q (.int i) H) ∨ ∃ k, xs = [.bl k] ∧ Q (.int (if k then 1 else 0)) H) ρInt := by
  intro xs ds H M Q Qc ab rx q k
  unfold ρInt at q
  split at q
  · obtain ⟨v, rfl, r1⟩ := repL1 rx
    cases (show v = V.int _ from r1)
    exact .inl ⟨_, rfl, k _ H (.int _) M (Tr.refl ab) rfl q⟩
  · obtain ⟨v, rfl, r1⟩ := repL1 rx
    cases (show v = V.bl _ from r1)
    exact .inr ⟨_, rfl, k _ H (.int _) M (Tr.refl ab) rfl q⟩
  · exact q.elim
def ρTuple : ARs := fun ds M Q => match ds with
  | [.tup ds] => Q (.tup ds) M
  | [.obj p] => lstAt M p fun ds => Q (.tup ds) M
  | _ => False
theorem sim_tuple : SimC K (fun xs H Q => ∃ p ys, xs = [.ref p] ∧ ((SqL K H p ys ∧ ∀ l, H l = none → Q (.ref l) (upd H l (.tup ys))) ∨ (SqT K H p ys ∧ Q (.ref p) H))) ρTuple := by
  intro xs ds H M Q Qc ab rx q k
  unfold ρTuple at q
  split at q
  · obtain ⟨v, rfl, r1⟩ := repL1 rx
    obtain ⟨p, vs, rfl, hp, hv⟩ := r1
    exact ⟨p, vs, rfl, .inr ⟨hp, k _ H (.tup _) M (Tr.refl ab) ⟨p, vs, rfl, hp, hv⟩ q⟩⟩
  · obtain ⟨v, rfl, r1⟩ := repL1 rx
    cases (show v = V.ref _ from r1)
    obtain ⟨ds, m, q⟩ := lstAt_ex q
    obtain ⟨vs, h1, hv⟩ := ab _ _ m
    exact ⟨_, vs, rfl, .inl ⟨SqL.of h1, fun l hl => k _ _ (.tup ds) M (Tr.newT ab hl) (rep_newT hl hv) q⟩⟩
  · exact q.elim
def ρList : ARs := fun ds M Q => match ds with
  | [.tup ds] => New (.lst ds) M Q
  | [.obj p] => lstAt M p fun ds => New (.lst ds) M Q
  | _ => False
def tyN (M : Sto) : D → String
  | .non => "NoneType" | .bl _ => "bool" | .int _ => "int" | .str _ => "str" | .tup _ => "tuple"
  | .obj p => match M p with
    | some (.lst _) => "list"
    | some (.dic _) => "dict"
    | _ => ""
  | .fl _ => ""
def aIsi (T : String) (a : ATE) : ATE := fun ax env M Q => a ax env M fun x M1 => optAt (kitB (tyN M1 x) T) fun b => Q (.bl b) M1
theorem rep_ty {M : Sto} {H : Hp} (ab : Abs K M H) {d : D} {v : V} (h : Rep K H d v) (hne : tyN M d ≠ "") : TyX K H v (.type (tyN M d)) := by
  cases d with
  | non => cases (show v = V.non from h); exact .base .non
  | bl b => cases (show v = V.bl b from h); exact .base (.bl b)
  | int b => cases (show v = V.int b from h); exact .base (.int b)
  | str b => cases (show v = V.str b from h); exact .base (.str b)
  | tup ds =>
    obtain ⟨a, vs, rfl, hT, _⟩ := h
    rcases hT with (hT | ⟨o, hT⟩) | ⟨o, its, n, hk, hc, _⟩
    · exact .base (.tup hT)
    · exact .fTuple hT
    · exact .kTuple hk hc
  | obj p =>
    cases (show v = V.ref p from h)
    cases m : M p with
    | none =>
      refine absurd ?_ hne
      show (match M p with | some (.lst _) => "list" | some (.dic _) => "dict" | _ => "") = ""
      rw [m]
    | some mo =>
      have z := ab p mo m
      cases mo with
      | lst ds =>
        obtain ⟨vs, h1, _⟩ := z
        have e : tyN M (.obj p) = "list" := by
          show (match M p with | some (.lst _) => "list" | some (.dic _) => "dict" | _ => "") = "list"
          rw [m]
        rw [e]
        exact .base (.lst h1)
      | dic ds =>
        obtain ⟨vs, h1, _⟩ := z
        have e : tyN M (.obj p) = "dict" := by
          show (match M p with | some (.lst _) => "list" | some (.dic _) => "dict" | _ => "") = "dict"
          rw [m]
        rw [e]
        exact .base (.dK h1)
      | raw o =>
        refine absurd ?_ hne
        show (match M p with | some (.lst _) => "list" | some (.dic _) => "dict" | _ => "") = ""
        rw [m]
      | dif od ws kvs =>
        refine absurd ?_ hne
        show (match M p with | some (.lst _) => "list" | some (.dic _) => "dict" | _ => "") = ""
        rw [m]
  | fl ds => exact absurd rfl hne
theorem ae_isi {y : Str} {py : Pos} {α : ATE} (hg : Gl X x) (hm : X.mg x = none) (hv : bootBuiltins x = some (.builtin "isinstance")) (ha : AE X W e α) (gy : Gl X y) (my : X.mg y = none) (vy : bootBuiltins y = some (.type T)) (hT : ∀ b, kitB "" T ≠ some b)
    (ny : y ≠ "__name__" := by decide) (dy : (y == ("__debug__" : Str)) = false := by decide) (hn : x ≠ "__name__" := by decide) (hdb : (x == ("__debug__" : Str)) = false := by decide)
    (h1 : starEach [e, .Name y py] X.env = (false, eval e X.env) :: starEach [.Name y py] X.env := by rfl) (h2 : starEach [.Name y py] X.env = (false, eval (.Name y py) X.env) :: starEach [] X.env := by rfl) (hpl : (backTo pos (starEach [.Name y py] X.env)).any (·.1) = false := by rfl) :
    AE X W (.Call (.Name x p) [e, .Name y py] [] pos) (aIsi T α) :=
  PE.imp (pe_callB call_isi hg hm hv (pa_cons ha (pa_cons (pe_bltn (v := .ty T) gy my vy rfl ny dy) pa_nil h2) h1) hn hdb h1 hpl) fun σ H Q h => by
    obtain ⟨ax, env, M, Qa, S, q, k⟩ := h
    refine ⟨ax, env, M, _, S, q, fun v H1 d M1 t r q => ?_⟩
    obtain ⟨b, e, q⟩ := optAt_ex q
    refine ⟨v, .ty T, .type (tyN M1 d), .type T, b, rfl, .ty T, rep_ty t.abs r fun z => ?_, kit_ty e, k _ H1 (.bl b) M1 t rfl q⟩
    rw [z] at e
    exact hT b e
end

section
variable {W : WX} {X : Cx} {e : Expr} {α β : ATE} {pos : Pos} {K : PySem.W.Frag}
abbrev ATO := AX → AEnv → Sto → (Option Int → Sto → Prop) → Prop
def cO (K : PySem.W.Frag) (W : WX) (a : ATO) : TO := fun σ H Q => ∃ ax env M Qa, Stt K W ax env M σ H ∧ a ax env M Qa ∧ ∀ o H' M', Tr K M H M' H' → Qa o M' → Q o H'
abbrev AO (X : Cx) (W : WX) (e : Option Expr) (a : ATO) : Prop := PO X e (cO X.K W a)
theorem PO.imp {X : Cx} {e : Option Expr} {t u : TO} (h : PO X e t) (k : ∀ σ H Q, u σ H Q → t σ H Q) : PO X e u := ⟨fun pins s σ H Q I q => h.run pins s σ H Q I (k σ H Q q)⟩
def aONone : ATO := fun _ _ M Q => Q none M
def aOSome (a : ATE) : ATO := fun ax env M Q => a ax env M fun x M1 => match x with
  | .int i => Q (some i) M1
  | _ => False
theorem ao_none : AO X W none aONone := PO.imp po_none fun σ H Q h => by
  obtain ⟨ax, env, M, Qa, S, q, k⟩ := h
  exact k none H M (Tr.refl S.abs) q
theorem ao_some (ha : AE X W e α) : AO X W (some e) (aOSome α) := PO.imp (po_some ha) fun σ H Q h => by
  obtain ⟨ax, env, M, Qa, S, q, k⟩ := h
  refine ⟨ax, env, M, _, S, q, fun x H1 dx M1 t r q => ?_⟩
  cases dx with
  | int i => cases (show x = V.int i from r); exact ⟨i, rfl, k _ H1 M1 t q⟩
  | _ => exact False.elim q
def cutL {α : Type} (xs : List α) (lo hi : Option Int) : List α := (xs.drop (HT.sIx xs.length 0 lo)).take (HT.sIx xs.length xs.length hi - HT.sIx xs.length 0 lo)
theorem rep_cut {H : Hp} {ds : List D} {vs : List V} (h : RepL K H ds vs) (lo hi : Option Int) : RepL K H (cutL ds lo hi) (cutV vs lo hi) := by
  unfold cutL cutV
  rw [h.length]
  exact (h.drop _).take _
theorem cutV_whole {vs : List V} {lo hi : Option Int} (h : HT.sIx vs.length 0 lo = 0 ∧ HT.sIx vs.length vs.length hi = vs.length) : cutV vs lo hi = vs := by
  unfold cutV
  rw [h.1, h.2, List.drop_zero, Nat.sub_zero, List.take_length]
def rSlAny (K : PySem.W.Frag) : V → Option Int → Option Int → Hp → VK → Prop := fun x lo hi H Q => rSlL K x lo hi H Q ∨ rSlA K x lo hi H Q ∨ rSlS x lo hi H Q
theorem sl_any : SlR X (rSlAny X.K) := sl_list.or (sl_tupA.or sl_str)
def aSl (a : ATE) (l h : ATO) : ATE := fun ax env M Q => a ax env M fun x M1 => l ax env M1 fun lo M2 => h ax env M2 fun hi M3 => match x with
  | .tup ds => Q (.tup (cutL ds lo hi)) M3
  | .str z => z.length ≤ sizeLine ∧ Q (.str (cutS z lo hi)) M3
  | .obj p => lstAt M3 p fun ds => New (.lst (cutL ds lo hi)) M3 Q
  | _ => False
theorem ae_sl {lo hi : Option Expr} {l h : ATO} {p2 : Pos} (ha : AE X W e α) (hl : AO X W lo l) (hh : AO X W hi h) : AE X W (.Subscript e (.Slice lo hi none p2) pos) (aSl α l h) := PE.imp (pe_slice sl_any ha hl hh) fun σ H Q h => by
  obtain ⟨ax, env, M, Qa, S, q, k⟩ := h
  refine ⟨ax, env, M, _, S, q, fun x H1 dx M1 t1 r q => ?_⟩
  refine ⟨ax, env, M1, _, S.next t1, q, fun lo H2 M2 t2 q => ?_⟩
  refine ⟨ax, env, M2, _, (S.next t1).next t2, q, fun hi H3 M3 t3 q => ?_⟩
  have t := (t1.trans t2).trans t3
  have r' := t3.rep t2.abs (t2.rep t1.abs r)
  cases dx with
  | tup ds =>
    obtain ⟨p, vs, rfl, hp, hv⟩ := r'
    refine .inr (.inl ⟨p, vs, rfl, hp, fun w => ?_, fun w o ho => ?_⟩)
    · refine k _ H3 (.tup (cutL ds lo hi)) M3 t ⟨p, vs, rfl, hp, ?_⟩ q
      have z := rep_cut hv lo hi
      rw [cutV_whole w] at z
      exact z
    · exact k _ _ (.tup (cutL ds lo hi)) M3 (t.trans (Tr.newT t3.abs ho)) (rep_newT ho (rep_cut hv lo hi)) q
  | str z =>
    cases (show x = V.str z from r')
    exact .inr (.inr ⟨z, rfl, q.1, k _ H3 (.str _) M3 t rfl q.2⟩)
  | obj p =>
    cases (show x = V.ref p from r')
    obtain ⟨ds, m, q⟩ := lstAt_ex q
    obtain ⟨vs, h1, hv⟩ := t3.abs p _ m
    exact .inl ⟨p, vs, rfl, SqL.of h1, fun o ho => k _ _ (.obj o) _ (t.trans (Tr.newM (mo := .lst (cutL ds lo hi)) t3.abs ho ⟨_, upd_same, repL_new ho (rep_cut hv lo hi)⟩)) rfl (q o (t3.abs.fresh ho))⟩
  | _ => exact False.elim q
def aRev (a : ATE) : ATE := fun ax env M Q => a ax env M fun x M1 => match x with
  | .obj p => lstAt M1 p fun ds => New (.lst ds.reverse) M1 Q
  | _ => False
end

section
variable {W : WX} {X : Cx} {e : Expr} {es : List Expr} {o : Expr} {α β : ATE} {τ : ATA} {pos apos cpos : Pos} {name : Str} {K : PySem.W.Frag}
def aLm (ρ : Addr → List D → List D → Sto → (D → Sto → Prop) → Prop) (a : ATE) (τ : ATA) : ATE := fun ax env M Q => a ax env M fun x M1 => match x with
  | .obj p => lstAt M1 p fun _ => τ ax env M1 fun xs M2 => lstAt M2 p fun ds => ρ p ds xs M2 Q
  | _ => False
def SimM (K : PySem.W.Frag) (r : V → List V → Hp → VK → Prop) (ρ : Addr → List D → List D → Sto → (D → Sto → Prop) → Prop) : Prop := ∀ p ds xs vs H M (Q : D → Sto → Prop) (Qc : VK), Abs K M H → M p = some (.lst ds) → RepL K H xs vs → ρ p ds xs M Q →
  (∀ v H' d M', Tr K M H M' H' → Rep K H' d v → Q d M' → Qc v H') → r (.ref p) vs H Qc
theorem s_lm {r : V → List V → Hp → VK → Prop} {ρ : Addr → List D → List D → Sto → (D → Sto → Prop) → Prop} (hr : SimM K r ρ) {σ : L2.St} {H : Hp} {Q : VK} (h : cE K W (aLm ρ α τ) σ H Q) : tBM K "list" r (cE K W α) (cA K W τ) σ H Q := by
  obtain ⟨ax, env, M, Qa, S, q, k⟩ := h
  refine ⟨ax, env, M, _, S, q, fun x H1 dx M1 t r q => ?_⟩
  cases dx with
  | obj p =>
    cases (show x = V.ref p from r)
    obtain ⟨ds, m, q⟩ := lstAt_ex q
    obtain ⟨vs, h1, hv⟩ := t.abs p _ m
    refine ⟨.inl ⟨rfl, _, SqL.of h1⟩, ax, env, M1, _, S.next t, q, fun vs H2 xs M2 t2 r2 q2 => ?_⟩
    obtain ⟨ds, m, q2⟩ := lstAt_ex q2
    exact hr p ds xs vs H2 M2 Qa _ t2.abs m r2 q2 fun v H' d M' t' r' q' => k v H' d M' ((t.trans t2).trans t') r' q'
  | _ => exact False.elim q
def ρAppend : Addr → List D → List D → Sto → (D → Sto → Prop) → Prop := fun p ds xs M Q => match xs with
  | [x] => ds.length < sizeLine ∧ Q .non (up M p (.lst (ds ++ [x])))
  | _ => False
theorem sim_append : SimM K rAppend ρAppend := by
  intro p ds xs vs H M Q Qc ab m rx q k
  unfold ρAppend at q
  split at q
  · rename_i x
    obtain ⟨v, rfl, r1⟩ := repL1 rx
    obtain ⟨ws, h1, hv⟩ := ab p _ m
    exact ⟨p, ws, v, rfl, rfl, h1, by rw [← hv.length]; exact q.1, k _ _ .non _ (Tr.write (mo := .lst (ds ++ [x])) ab m ⟨_, upd_same, repL_write ab m (hv.append (RepL.one r1))⟩) rfl q.2⟩
  · exact q.elim
def ρExtend : Addr → List D → List D → Sto → (D → Sto → Prop) → Prop := fun p ds xs M Q => match xs with
  | [.obj q] => lstAt M q fun es => ds.length + es.length ≤ sizeLine ∧ Q .non (up M p (.lst (ds ++ es)))
  | _ => False
theorem ae_append (ha : AE X W o α) (hb : AA X W (e :: es) τ) (hbase : attributeBase o "append" X.env (eval o X.env) = eval o X.env := by rfl)
    (hfew : ((backTo cpos (starEach (e :: es) X.env)).all (fun x => !x.1) && (backToKw cpos (keywordEach [] X.env)).all (fun x => x.1.isSome)
      && decide ((e :: es).length + ([] : List Keyword).length + (if ([] : List Keyword).isEmpty then 0 else 1) < 30)) = true := by rfl)
    (hline : (apos.endLine == cpos.line) = true := by rfl) (hs : starEach (e :: es) X.env = (false, eval e X.env) :: starEach es X.env := by rfl) (hplain : (backTo cpos (starEach es X.env)).any (·.1) = false := by rfl) :
    AE X W (.Call (.Attribute o "append" apos) (e :: es) [] cpos) (aLm ρAppend α τ) :=
  PE.imp (pe_bm PySem.F.plainAttrs_list PySem.F.slot_list_append PySem.F.type_list_append mt_append ha hb hbase hfew hline hs hplain) fun _ _ _ => s_lm sim_append
def aPop (a : ATE) : ATE := fun ax env M Q => a ax env M fun x M1 => match x with
  | .obj p => lstAt M1 p fun ds => optAt ds.getLast? fun d => Q d (up M1 p (.lst ds.dropLast))
  | _ => False
theorem ae_pop (ha : AE X W o α) (hbase : attributeBase o "pop" X.env (eval o X.env) = eval o X.env := by rfl) (hline : (apos.endLine == cpos.line) = true := by rfl) : AE X W (.Call (.Attribute o "pop" apos) [] [] cpos) (aPop α) :=
  PE.imp (pe_bm0 PySem.F.plainAttrs_list PySem.F.slot_list_pop PySem.F.type_list_pop mt_pop ha hbase hline) fun σ H Q h => by
    obtain ⟨ax, env, M, Qa, S, q, k⟩ := h
    refine ⟨ax, env, M, _, S, q, fun x H1 dx M1 t r q => ?_⟩
    cases dx with
    | obj p =>
      cases (show x = V.ref p from r)
      obtain ⟨ds, m, q⟩ := lstAt_ex q
      obtain ⟨d, e, q⟩ := optAt_ex q
      rw [List.getLast?_eq_getElem?] at e
      obtain ⟨vs, h1, hv⟩ := t.abs p _ m
      obtain ⟨v, e', r1⟩ := hv.get e
      refine ⟨.inl ⟨rfl, _, SqL.of h1⟩, p, vs, v, rfl, rfl, h1, by rw [← hv.length]; exact e', ?_⟩
      exact k v _ d _ (t.trans (Tr.write (mo := .lst ds.dropLast) t.abs m ⟨_, upd_same, repL_write t.abs m hv.dropLast⟩)) (rep_write t.abs m r1) q
    | _ => exact False.elim q
def strsOf : List D → Option (List Str)
  | [] => some []
  | .str x :: r => (strsOf r).map fun xs => x :: xs
  | _ :: _ => none
def strsM (M : Sto) : D → Option (List Str)
  | .tup ds => strsOf ds
  | .obj p => match M p with
    | some (.lst ds) => strsOf ds
    | _ => none
  | _ => none
theorem strsOf_map : ∀ (xs : List Str), strsOf (xs.map D.str) = some xs
  | [] => rfl
  | x :: xs => by show (strsOf (xs.map D.str)).map (fun ys => x :: ys) = _; rw [strsOf_map xs]; rfl
def aJoin (a b : ATE) : ATE := fun ax env M Q => a ax env M fun x M1 => match x with
  | .str z => b ax env M1 fun y M2 => optAt (strsM M2 y) fun xs => (xs.map (·.length)).sum + xs.length * z.length ≤ 16777216 ∧ Q (.str (Txt.join z xs)) M2
  | _ => False
end

section
variable {W : WX} {X : Cx} {o i value : Expr} {α β γ : ATE} {pos pos' apos cpos : Pos} {K : PySem.W.Frag}
def keyD : D → Option Key
  | .int i => some (.inl i)
  | .str x => some (.inr x)
  | _ => none
theorem key_rep {H : Hp} {d : D} {v : V} {k : Key} (h : Rep K H d v) (e : keyD d = some k) : v = kV k := by
  cases d with
  | int i => cases (Option.some.inj e); exact h
  | str x => cases (Option.some.inj e); exact h
  | _ => cases e
def valA (kvs : List (Key × D)) (k : Key) : Option D := (kvs.find? fun kv => decide (kv.1 = k)).map (·.2)
def putA (kvs : List (Key × D)) (k : Key) (v : D) : List (Key × D) :=
  if (kvs.any fun kv => decide (kv.1 = k)) = true then kvs.map (fun kv => if kv.1 = k then (kv.1, v) else kv) else kvs ++ [(k, v)]
theorem valA_rep {H : Hp} : ∀ {kvs : List (Key × D)} {ws : List (Key × V)} (k : Key), RepK K H kvs ws → (∀ d, valA kvs k = some d → ∃ v, valV ws k = some v ∧ Rep K H d v) ∧ (valA kvs k = none → valV ws k = none)
  | [], _, k, .nil => ⟨fun d e => (by cases e), fun _ => rfl⟩
  | (k', d') :: kvs, (k2, v2) :: ws, k, .cons ⟨e, r⟩ h => by
    cases (show k' = k2 from e)
    obtain ⟨i1, i2⟩ := valA_rep k h
    by_cases hk : k' = k
    · subst hk
      have e1 : valA ((k', d') :: kvs) k' = some d' := by unfold valA; rw [List.find?_cons_of_pos (by simp)]; rfl
      have e2 : valV ((k', v2) :: ws) k' = some v2 := valV_pos (p := (k', v2)) rfl
      refine ⟨fun d e => ?_, fun e => ?_⟩
      · rw [e1] at e; cases e; exact ⟨v2, e2, r⟩
      · rw [e1] at e; cases e
    · have e1 : valA ((k', d') :: kvs) k = valA kvs k := by unfold valA; rw [List.find?_cons_of_neg (by simpa using hk)]
      have e2 : valV ((k', v2) :: ws) k = valV ws k := valV_neg (p := (k', v2)) hk
      rw [e1, e2]
      exact ⟨i1, i2⟩
theorem any_rep {H : Hp} {k : Key} : ∀ {kvs : List (Key × D)} {ws : List (Key × V)}, RepK K H kvs ws → (ws.any fun kv => decide (kv.1 = k)) = (kvs.any fun kv => decide (kv.1 = k))
  | [], _, .nil => rfl
  | (k', d') :: kvs, (k2, v2) :: ws, .cons ⟨e, r⟩ h => by
    cases (show k' = k2 from e)
    rw [List.any_cons, List.any_cons, any_rep h]
theorem mapPut_rep {H : Hp} {k : Key} {d : D} {v : V} (r : Rep K H d v) : ∀ {kvs : List (Key × D)} {ws : List (Key × V)}, RepK K H kvs ws → RepK K H (kvs.map fun kv => if kv.1 = k then (kv.1, d) else kv) (ws.map fun kv => if kv.1 = k then (kv.1, v) else kv)
  | [], _, .nil => .nil
  | (k', d') :: kvs, (k2, v2) :: ws, .cons ⟨e, r'⟩ h => by
    cases (show k' = k2 from e)
    refine .cons ?_ (mapPut_rep r h)
    by_cases hk : k' = k
    · show (if k' = k then (k', d) else (k', d')).1 = (if k' = k then (k', v) else (k', v2)).1 ∧ Rep K H (if k' = k then (k', d) else (k', d')).2 (if k' = k then (k', v) else (k', v2)).2
      rw [if_pos hk, if_pos hk]; exact ⟨rfl, r⟩
    · show (if k' = k then (k', d) else (k', d')).1 = (if k' = k then (k', v) else (k', v2)).1 ∧ Rep K H (if k' = k then (k', d) else (k', d')).2 (if k' = k then (k', v) else (k', v2)).2
      rw [if_neg hk, if_neg hk]; exact ⟨rfl, r'⟩
theorem snoc_rep {H : Hp} {k : Key} {d : D} {v : V} (r : Rep K H d v) : ∀ {kvs : List (Key × D)} {ws : List (Key × V)}, RepK K H kvs ws → RepK K H (kvs ++ [(k, d)]) (ws ++ [(k, v)])
  | [], _, .nil => .cons ⟨rfl, r⟩ .nil
  | _ :: _, _ :: _, .cons q h => .cons q (snoc_rep r h)
theorem put_rep {H : Hp} {k : Key} {d : D} {v : V} (r : Rep K H d v) {kvs : List (Key × D)} {ws : List (Key × V)} (h : RepK K H kvs ws) : RepK K H (putA kvs k d) (putK ws k v) := by
  unfold putA putK
  rw [any_rep h]
  split
  · exact mapPut_rep r h
  · exact snoc_rep r h
theorem lenK {H : Hp} {kvs : List (Key × D)} {ws : List (Key × V)} (h : RepK K H kvs ws) : kvs.length = ws.length := Paired.length h
theorem repK_write {M : Sto} {H : Hp} (ab : Abs K M H) {p : Addr} {ob : HO} {m0 : MO} (hp : M p = some m0) {d : List (Key × D)} {v : List (Key × V)} (r : RepK K H d v) : RepK K (upd H p ob) d v := Paired.mapP r fun a b z => ⟨z.1, rep_write ab hp z.2⟩
def ρDGet : AR2 := fun x y M Q => match x with
  | .obj a => dicAt M a fun kvs => optAt (keyD y) fun k => optAt (valA kvs k) fun d => Q d M
  | _ => False
def ρDIn (neg : Bool) : AR2 := fun y x M Q => match x with
  | .obj a => dicAt M a fun kvs => optAt (keyD y) fun k => Q (.bl (if neg then !(valA kvs k).isSome else (valA kvs k).isSome)) M
  | _ => False
def aDGet2 (a b c : ATE) : ATE := fun ax env M Q => a ax env M fun x M1 => match x with
  | .obj p => dicAt M1 p fun _ => b ax env M1 fun y M2 => c ax env M2 fun z M3 => dicAt M3 p fun kvs => optAt (keyD y) fun k => Q ((valA kvs k).getD z) M3
  | _ => False
theorem ae_dget2 {e f : Expr} (hu : X.A.units + 1 < cLine) (ho : AE X W o α) (he : AE X W e β) (hf : AE X W f γ) (m : M2 X o "get" apos e f cpos) : AE X W (.Call (.Attribute o "get" apos) [e, f] [] cpos) (aDGet2 α β γ) :=
  PE.imp (pe_dget2 hu ho he hf m) fun σ H Q h => by
    obtain ⟨ax, env, M, Qa, S, q, k⟩ := h
    refine ⟨ax, env, M, _, S, q, fun x H1 dx M1 t1 r q => ?_⟩
    cases dx with
    | obj p =>
      cases (show x = V.ref p from r)
      obtain ⟨kvs, m, q⟩ := dicAt_ex q
      obtain ⟨ws, h1, hv⟩ := t1.abs p _ m
      refine ⟨p, rfl, .inl ⟨ws, .inl h1⟩, ax, env, M1, _, S.next t1, q, fun y H2 dy M2 t2 ry q => ?_⟩
      refine ⟨ax, env, M2, _, (S.next t1).next t2, q, fun z H3 dz M3 t3 rz q => ?_⟩
      obtain ⟨kvs, m, q⟩ := dicAt_ex q
      obtain ⟨key, e, q⟩ := optAt_ex q
      obtain ⟨ws, h1, hv⟩ := t3.abs p _ m
      refine ⟨valV ws key, by rw [key_rep (t3.rep t2.abs ry) e]; exact DGet.k h1, ?_⟩
      obtain ⟨i1, i2⟩ := valA_rep key hv
      cases g : valA kvs key with
      | none =>
        rw [i2 g]
        rw [g] at q
        exact k _ H3 dz M3 ((t1.trans t2).trans t3) rz q
      | some d =>
        obtain ⟨v, e2, r2⟩ := i1 d g
        rw [e2]
        rw [g] at q
        exact k _ H3 d M3 ((t1.trans t2).trans t3) r2 q
    | _ => exact False.elim q
end

section
variable {W : WX} {X : Cx} {st : Stmt} {rest body orelse : List Stmt} {e tg : Expr} {α β : ATE} {A : ATT} {t u : ATS} {g : ATG} {pos pos' : Pos}
def aNext : ATS := fun _ D env M => D.nx env M
def aSeq (t u : ATS) : ATS := fun ax D env M => t ax { D with nx := u ax D } env M
theorem as_nil : ASs X W [] aNext := PSs.imp pss_nil fun D σ H h => by
  obtain ⟨ax, env, M, Da, S, q, k⟩ := h
  exact k.nx σ H env M (Tr.refl S.abs) S.rs q
theorem as_cons (h1 : AS X W st t) (h2 : ASs X W rest u) : ASs X W (st :: rest) (aSeq t u) := PSs.imp (pss_cons h1 h2) fun D σ H h => by
  obtain ⟨ax, env, M, Da, S, q, k⟩ := h
  refine ⟨ax, env, M, _, S, q, ⟨fun σ' H' env' M' tr rs q => ?_, k.bk, k.ct, k.rt⟩⟩
  exact ⟨ax, env', M', Da, S.at_ tr rs, q, k.next tr⟩
theorem as_one (h1 : AS X W st t) : ASs X W [st] t := pss_one h1
def aBreak : ATS := fun _ D env M => D.bk env M
def aCont : ATS := fun _ D env M => D.ct env M
def aExpr (a : ATE) : ATS := fun ax D env M => a ax env M fun _ M1 => D.nx env M1
theorem as_expr (he : AE X W e α) (hs : swapsWith e none pos.line X.env = pure false := by rfl) : AS X W (.Expr e pos) (aExpr α) := PS.imp (ps_expr he hs) fun D σ H h => by
  obtain ⟨ax, env, M, Da, S, q, k⟩ := h
  exact ⟨ax, env, M, _, S, q, fun v H' d M' t r q => k.nx σ H' env M' t (S.next t).rs q⟩
def aRet (a : ATE) : ATS := fun ax D env M => a ax env M D.rt
theorem as_ret (he : AE X W e α) : AS X W (.Return (some e) pos) (aRet α) := PS.imp (ps_ret he) fun D σ H h => by
  obtain ⟨ax, env, M, Da, S, q, k⟩ := h
  exact ⟨ax, env, M, _, S, q, k.rt⟩
def aRetN : ATS := fun _ D _ M => D.rt .non M
def aIf (A : ATT) (t u : ATS) : ATS := fun ax D env M => A ax env M fun b M1 => if b = true then t ax D env M1 else u ax D env M1
theorem as_if {c : Expr} {a b : List Stmt} (hc : AT X W c A) (ha : ASs X W a t) (hb : ASs X W b u) : AS X W (.If c a b pos) (aIf A t u) := PS.imp (ps_if hc ha hb) fun D σ H h => by
  obtain ⟨ax, env, M, Da, S, q, k⟩ := h
  refine ⟨ax, env, M, _, S, q, fun b H1 M1 tr q => ?_⟩
  cases b with
  | true => exact ⟨ax, env, M1, Da, S.next tr, q, k.next tr⟩
  | false => exact ⟨ax, env, M1, Da, S.next tr, q, k.next tr⟩
def aNever : ATS := fun _ _ _ _ => False
theorem as_never : AS X W st aNever := ⟨fun _ _ _ _ _ _ h => by obtain ⟨_, _, _, _, _, q, _⟩ := h; exact q.elim⟩
def agName (i : Nat) : ATG := fun d _ env M Q => Q (env.set i (some d)) M
theorem ag_name (i : Nat) {x : Str} (hN : X.N.Nodup) (hi : X.N[i]? = some x := by rfl) (hx : Loc X.env.scope x := by first | exact .inl rfl | exact .inr rfl) (hf : X.fn x = true ∨ X.env.scope.names.lookup x = some .local := by first | exact .inl rfl | exact .inr rfl | assumption) : AG X W (.Name x pos) (agName i) :=
  PG.imp (pg_name hN hi hx hf) fun v σ H Q h => by
    obtain ⟨d, ax, env, M, Qa, S, r, q, k⟩ := h
    exact k _ H _ M (Tr.refl S.abs) (S.rs.set r) q
abbrev ATGs := List D → AX → AEnv → Sto → (AEnv → Sto → Prop) → Prop
def cGs (K : PySem.W.Frag) (W : WX) (g : ATGs) : TGs := fun vs σ H Q => ∃ ds ax env M Qa, Stt K W ax env M σ H ∧ RepL K H ds vs ∧ g ds ax env M Qa ∧ ∀ σ' H' env' M', Tr K M H M' H' → RepS K H' env' σ' → Qa env' M' → Q σ' H'
abbrev AGs (X : Cx) (W : WX) (ts : List Expr) (g : ATGs) : Prop := PGs X ts (cGs X.K W g)
theorem PGs.imp {X : Cx} {e : List Expr} {t u : TGs} (h : PGs X e t) (k : ∀ v σ H Q, u v σ H Q → t v σ H Q) : PGs X e u := ⟨fun pins s σ H v w Q I r q => h.run pins s σ H v w Q I r (k v σ H Q q)⟩
def agNil : ATGs := fun ds _ env M Q => match ds with
  | [] => Q env M
  | _ => False
def agCons (g : ATG) (r : ATGs) : ATGs := fun ds ax env M Q => match ds with
  | d :: ds => g d ax env M fun env1 M1 => r ds ax env1 M1 Q
  | _ => False
theorem ags_nil : AGs X W [] agNil := PGs.imp pgs_nil fun v σ H Q h => by
  obtain ⟨ds, ax, env, M, Qa, S, r, q, k⟩ := h
  cases ds with
  | nil => exact ⟨r, k σ H env M (Tr.refl S.abs) S.rs q⟩
  | cons d ds => exact q.elim
theorem ags_cons {es : List Expr} {r : ATGs} (h1 : AG X W e g) (h2 : AGs X W es r) (hs : (assignEach (e :: es) X.env).map (·.2) = assign e X.env :: (assignEach es X.env).map (·.2) := by rfl) : AGs X W (e :: es) (agCons g r) := PGs.imp (pgs_cons h1 h2 hs) fun v σ H Q h => by
  obtain ⟨ds, ax, env, M, Qa, S, r, q, k⟩ := h
  cases ds with
  | nil => exact q.elim
  | cons d ds =>
    obtain ⟨v, vs, rfl, r1, r2⟩ := r
    refine ⟨v, vs, rfl, d, ax, env, M, _, S, r1, q, fun σ1 H1 env1 M1 t rs q => ?_⟩
    exact ⟨ds, ax, env1, M1, Qa, S.at_ t rs, t.repL S.abs r2, q, fun σ' H' env' M' t' => k σ' H' env' M' (t.trans t')⟩
def agTup (n : Nat) (g : ATGs) : ATG := fun d ax env M Q => match d with
  | .tup ds => ds.length = n ∧ g ds ax env M Q
  | _ => False
theorem ag_tup {es : List Expr} {k : Nat} {r : ATGs} {n : Nat} (hc : X.calm = true) (h : AGs X W es r)
    (hn : (assignEach es X.env).length = n := by rfl) (hst : (assignEach es X.env).findIdx? (·.1) = none := by rfl) : AG X W (.Tuple es k pos) (agTup n r) := PG.imp (pg_tup hc h hn hst) fun v σ H Q h => by
  obtain ⟨d, ax, env, M, Qa, S, r, q, k⟩ := h
  cases d with
  | tup ds =>
    obtain ⟨p, vs, rfl, hp, hv⟩ := r
    exact ⟨p, vs, rfl, hp, by rw [← hv.length]; exact q.1, ds, ax, env, M, Qa, S, hv, q.2, k⟩
  | _ => exact False.elim q
def aAsg (a : ATE) (g : ATG) : ATS := fun ax D env M => a ax env M fun d M1 => g d ax env M1 D.nx
theorem as_asg (he : AE X W e α) (hg : AG X W tg g) (hs : swapsWithSole [tg] e pos.line X.env = pure false := by rfl) (hw : swappedStores [tg] e X.env = pure none := by rfl)
    (h1 : (assignEach [tg] X.env).map (·.2) = [assign tg X.env] := by rfl) : AS X W (.Assign [tg] e pos) (aAsg α g) := PS.imp (ps_asg he hg hs hw h1) fun D σ H h => by
  obtain ⟨ax, env, M, Da, S, q, k⟩ := h
  refine ⟨ax, env, M, _, S, q, fun v H1 d M1 t r q => ?_⟩
  exact ⟨d, ax, env, M1, _, S.next t, r, q, fun σ' H' env' M' t' => k.nx σ' H' env' M' (t.trans t')⟩
theorem as_set (i : Nat) {x : Str} (hN : X.N.Nodup) (he : AE X W e α) (hi : X.N[i]? = some x := by rfl) (hx : Loc X.env.scope x := by first | exact .inl rfl | exact .inr rfl) (hs : swapsWith e (some (.Name x pos')) pos.line X.env = pure false := by rfl) (hf : X.fn x = true ∨ X.env.scope.names.lookup x = some .local := by first | exact .inl rfl | exact .inr rfl | assumption) :
    AS X W (.Assign [.Name x pos'] e pos) (aAsg α (agName i)) := PS.imp (ps_set hN hi hx he hs hf) fun D σ H h => by
  obtain ⟨ax, env, M, Da, S, q, k⟩ := h
  exact ⟨ax, env, M, _, S, q, fun v H1 d M1 t r q => k.nx _ H1 _ M1 t ((S.next t).rs.set r) q⟩
def agSub (a b : ATE) : ATG := fun d ax env M Q => a ax env M fun x M1 => b ax env M1 fun y M2 => match x, y with
  | .obj p, .int i => lstAt M2 p fun ds => optAt (ixN ds.length i) fun j => Q env (up M2 p (.lst (ds.set j d)))
  | _, _ => False
theorem ag_sub {o i : Expr} (ho : AE X W o α) (hi : AE X W i β)
    (ha : ∀ v, assign (.Subscript o i pos) X.env v = (do
      let ov ← holding [v] (eval o X.env)
      let iv ← holding [v, ov] (eval i X.env)
      standAt pos
      holding [v, ov, iv] (setItem ov iv v)
      release [v, ov, iv] []) := by intro _; rfl) : AG X W (.Subscript o i pos) (agSub α β) := PG.imp (pg_sub ho hi set_list ha) fun v σ H Q h => by
  obtain ⟨d, ax, env, M, Qa, S, r, q, k⟩ := h
  refine ⟨ax, env, M, _, S, q, fun x H1 dx M1 t1 rx q => ?_⟩
  refine ⟨ax, env, M1, _, S.next t1, q, fun y H2 dy M2 t2 ry q => ?_⟩
  cases dx with
  | obj p =>
    cases dy with
    | int i =>
      obtain ⟨ds, m, q⟩ := lstAt_ex q
      obtain ⟨j, e, q⟩ := optAt_ex q
      cases (show x = V.ref p from rx)
      cases (show y = V.int i from ry)
      obtain ⟨vs, h1, hv⟩ := t2.abs p _ m
      have t := t1.trans t2
      have rd := t.rep S.abs r
      have tw := Tr.write (mo := .lst (ds.set j d)) t2.abs m ⟨_, upd_same, repL_write t2.abs m (hv.set j rd)⟩
      exact ⟨p, vs, i, j, rfl, rfl, h1, by rw [← hv.length]; exact e, k σ _ env _ (t.trans tw) ((S.next t).next tw).rs q⟩
    | _ => exact False.elim q
  | _ => exact False.elim q
def aDPut (a b c : ATE) : ATS := fun ax D env M => c ax env M fun z M1 => a ax env M1 fun x M2 => b ax env M2 fun y M3 => match x with
  | .obj p => dicAt M3 p fun kvs => optAt (keyD y) fun k => kvs.length < sizeLine ∧ D.nx env (up M3 p (.dic (putA kvs k z)))
  | _ => False
theorem as_dput {o i value : Expr} {γ : ATE} (hu : X.A.units + 1 < cLine) (ho : AE X W o α) (hi : AE X W i β) (hv : AE X W value γ) (hs : swapsWith value (some (.Subscript o i pos')) pos.line X.env = pure false := by rfl) :
    AS X W (.Assign [.Subscript o i pos'] value pos) (aDPut α β γ) := PS.imp (ps_dput hu ho hi hv hs) fun D σ H h => by
  obtain ⟨ax, env, M, Da, S, q, k⟩ := h
  refine ⟨ax, env, M, _, S, q, fun z H1 dz M1 t1 rz q => ?_⟩
  refine ⟨ax, env, M1, _, S.next t1, q, fun x H2 dx M2 t2 rx q => ?_⟩
  refine ⟨ax, env, M2, _, (S.next t1).next t2, q, fun y H3 dy M3 t3 ry q => ?_⟩
  cases dx with
  | obj p =>
    obtain ⟨kvs, m, q⟩ := dicAt_ex q
    obtain ⟨key, e, l, q⟩ := optAt_ex q
    cases (show x = V.ref p from rx)
    obtain ⟨ws, h1, hv⟩ := t3.abs p _ m
    have t := (t1.trans t2).trans t3
    have rz' := t3.rep t2.abs (t2.rep t1.abs rz)
    have tw := Tr.write (mo := .dic (putA kvs key dz)) t3.abs m ⟨_, upd_same, repK_write t3.abs m (put_rep rz' hv)⟩
    refine ⟨p, _, rfl, ?_, k.nx σ _ env _ (t.trans tw) ((S.next t).next tw).rs q⟩
    rw [key_rep ry e]
    exact DPut.k h1 (by rw [← lenK hv]; exact l)
  | _ => exact False.elim q
def aAug (ρ : AR2) (i : Nat) (a : ATE) : ATS := fun ax D env M => optAt env[i]? fun o => optAt o fun x => a ax env M fun y M1 => ρ x y M1 fun z M2 => D.nx (env.set i (some z)) M2
theorem as_aug (i : Nat) {x : Str} {op : Operator} {r : R2} {ρ : AR2} (hN : X.N.Nodup) (ho : OpR X (inplaceOp op) r) (hr : SimR X.K r ρ) (he : AE X W e α) (hi : X.N[i]? = some x := by rfl) (hx : Loc X.env.scope x := by first | exact .inl rfl | exact .inr rfl) (hf : X.fn x = true ∨ X.env.scope.names.lookup x = some .local := by first | exact .inl rfl | exact .inr rfl | assumption) :
    AS X W (.AugAssign (.Name x pos') op e pos) (aAug ρ i α) := PS.imp (ps_aug hN hi hx he (fun pins s σ H x y v u Q I rx ry q => ho pins s σ H x y v u Q I rx ry q) hf) fun D σ H h => by
  obtain ⟨ax, env, M, Da, S, q, k⟩ := h
  obtain ⟨o, ed, q⟩ := optAt_ex q
  obtain ⟨d, rfl, q⟩ := optAt_ex q
  obtain ⟨v, ev, rv⟩ := S.rs.get ed
  refine ⟨v, ev, ax, env, M, _, S, q, fun y H1 dy M1 t ry q => ?_⟩
  refine hr v y d dy H1 M1 _ _ t.abs (t.rep S.abs rv) ry q fun z H2 dz M2 t2 rz q => ?_
  exact k.nx _ H2 _ M2 (t.trans t2) (((S.next t).next t2).rs.set rz) q
def rIPlus : R2 := fun x y H Q => (rI0 fun i j => .int (i + j)) x y H Q ∨ (∃ i j, x = .str i ∧ y = .str j ∧ i.length + j.length ≤ sizeLine ∧ Q (.str (i ++ j)) H) ∨ rExt2 x y H Q
theorem iop_plus : OpR X (inplaceOp .Add) rIPlus := iop_add.or (iop_add_str.or iop_ext)
def ρIAdd : AR2 := fun x y M Q => match x, y with
  | .int i, .int j => Q (.int (i + j)) M
  | .str i, .str j => i.length + j.length ≤ sizeLine ∧ Q (.str (i ++ j)) M
  | .obj p, .obj q => lstAt M p fun ds => lstAt M q fun es => ds.length + es.length ≤ sizeLine ∧ Q (.obj p) (up M p (.lst (ds ++ es)))
  | _, _ => False
theorem sim_iadd {K : PySem.W.Frag} : SimR K rIPlus ρIAdd := by
  intro x y dx dy H M Q Qc ab rx ry q k
  cases dx with
  | int i =>
    cases dy with
    | int j =>
      cases (show x = V.int i from rx)
      cases (show y = V.int j from ry)
      exact .inl ⟨i, j, rfl, rfl, k _ H (.int (i + j)) M (Tr.refl ab) rfl q⟩
    | _ => exact False.elim q
  | str i =>
    cases dy with
    | str j =>
      cases (show x = V.str i from rx)
      cases (show y = V.str j from ry)
      obtain ⟨z, q⟩ := q
      exact .inr (.inl ⟨i, j, rfl, rfl, z, k _ H (.str (i ++ j)) M (Tr.refl ab) rfl q⟩)
    | _ => exact False.elim q
  | obj p =>
    cases dy with
    | obj p' =>
      obtain ⟨ds, m1, q⟩ := lstAt_ex q
      obtain ⟨es, m2, z, q⟩ := lstAt_ex q
      cases (show x = V.ref p from rx)
      cases (show y = V.ref p' from ry)
      obtain ⟨vs, h1, r1⟩ := ab p _ m1
      obtain ⟨ws, h2, r2⟩ := ab p' _ m2
      exact .inr (.inr ⟨p, p', vs, ws, rfl, rfl, h1, h2, by rw [← r1.length, ← r2.length]; exact z, k _ _ (.obj p) _ (Tr.write (mo := .lst (ds ++ es)) ab m1 ⟨_, upd_same, repL_write ab m1 (r1.append r2)⟩) rfl q⟩)
    | _ => exact False.elim q
  | _ => exact False.elim q
end

section
variable {W : WX} {X : Cx} {body : List Stmt} {e tg iter : Expr} {α β : ATE} {A : ATT} {t u : ATS} {g : ATG} {ι : ATI} {pos pos' : Pos}
def aWhileN (A : ATT) (b : ATS) (ax : AX) (D : AEnds) : Nat → AEnv → Sto → Prop
  | 0, _, _ => False
  | n + 1, env, M => A ax env M fun k M1 => if k = true then b ax ⟨aWhileN A b ax D n, D.rt, D.nx, aWhileN A b ax D n⟩ env M1 else D.nx env M1
def aWhile (A : ATT) (b : ATS) : ATS := fun ax D env M => ∃ n, aWhileN A b ax D n env M
theorem s_while {K : PySem.W.Frag} {D : Ends} {σ : L2.St} {H : Hp} (h : cS K W (aWhile A t) D σ H) : tWhile (cT K W A) (cS K W t) D σ H := by
  obtain ⟨ax, env, M, Da, S, ⟨n, q⟩, k⟩ := h
  refine ⟨fun m σ' H' => ∃ env' M', Tr K M H M' H' ∧ RepS K H' env' σ' ∧ aWhileN A t ax Da m env' M', ⟨n, env, M, Tr.refl S.abs, S.rs, q⟩, ?_⟩
  rintro m σ1 H1 ⟨env1, M1, t1, rs1, q1⟩
  cases m with
  | zero => exact q1.elim
  | succ m =>
    refine ⟨ax, env1, M1, _, S.at_ t1 rs1, q1, fun b H2 M2 t2 q2 => ?_⟩
    cases b with
    | false => exact k.nx σ1 H2 env1 M2 (t1.trans t2) ((S.at_ t1 rs1).next t2).rs q2
    | true =>
      refine ⟨fun σ' H' => ∃ env' M', Tr K M H M' H' ∧ RepS K H' env' σ' ∧ aWhileN A t ax Da m env' M', fun σ' H' z => ⟨m, Nat.lt_succ_self m, z⟩, ?_⟩
      have t12 := t1.trans t2
      exact ⟨ax, env1, M2, _, (S.at_ t1 rs1).next t2, q2, ⟨fun σ' H' env' M' t' rs q => ⟨env', M', t12.trans t', rs, q⟩, fun σ' H' env' M' t' rs q => k.nx σ' H' env' M' (t12.trans t') rs q, fun σ' H' env' M' t' rs q => ⟨env', M', t12.trans t', rs, q⟩, fun v H' d M' t' r q => k.rt v H' d M' (t12.trans t') r q⟩⟩
theorem as_while {c : Expr} (hp : PassesOwn (model X.prog X.w) X.A X.env X.xe) (hc : AT X W c A) (hb : ASs X W body t) : AS X W (.While c body [] pos) (aWhile A t) := PS.imp (ps_while hp hc hb) fun _ _ _ => s_while

def aForGo (chk : Sto → Prop) (g : ATG) (b : ATS) (ax : AX) (De : AEnds) : List D → AEnv → Sto → Prop
  | [], env, M => chk M ∧ De.nx env M
  | d :: r, env, M => chk M ∧ g d ax env M fun env1 M1 => b ax ⟨aForGo chk g b ax De r, De.rt, De.nx, aForGo chk g b ax De r⟩ env1 M1
def aFor (ι : ATI) (g : ATG) (b : ATS) : ATS := fun ax D env M => ι ax env M fun items chk M1 => aForGo chk g b ax D items env M1
theorem drop_at {α : Type} {l : List α} {i : Nat} {x : α} {r : List α} (h : l.drop i = x :: r) : l[i]? = some x ∧ l.drop (i + 1) = r ∧ i < l.length := by
  have hi : i < l.length := by
    by_cases hi : i < l.length
    · exact hi
    · rw [List.drop_eq_nil_of_le (by omega)] at h
      cases h
  rw [List.drop_eq_getElem_cons hi] at h
  injection h with h1 h2
  exact ⟨by rw [List.getElem?_eq_getElem hi, h1], h2, hi⟩
theorem drop_end {α : Type} {l : List α} {i : Nat} (h : l.drop i = []) : l[i]? = none := List.getElem?_eq_none (List.drop_eq_nil_iff.mp h)
theorem s_for {K : PySem.W.Frag} {D : Ends} {σ : L2.St} {H : Hp} (h : cS K W (aFor ι g t) D σ H) : tFor (cI K W ι) (cG K W g) (cS K W t) D σ H := by
  obtain ⟨ax, env, M, Da, S, q, k⟩ := h
  refine ⟨ax, env, M, _, S, q, fun J items chk M1 H1 t1 sim q => ?_⟩
  refine ⟨fun i m σ' H' => m = items.length - i ∧ ∃ env' M', Tr K M1 H1 M' H' ∧ RepS K H' env' σ' ∧ aForGo chk g t ax Da (items.drop i) env' M', ⟨items.length, rfl, env, M1, Tr.refl t1.abs, (S.next t1).rs, q⟩, ?_⟩
  rintro i m σ2 H2 ⟨rfl, env2, M2, t2, rs2, q2⟩
  cases hd : items.drop i with
  | nil =>
    rw [hd] at q2
    exact .inl ⟨(sim i M2 H2 t2 q2.1).2 (drop_end hd), k.nx σ2 H2 env2 M2 (t1.trans t2) rs2 q2.2⟩
  | cons d r =>
    rw [hd] at q2
    obtain ⟨hi, hr, hl⟩ := drop_at hd
    obtain ⟨go, yld⟩ := (sim i M2 H2 t2 q2.1).1 d hi
    refine .inr ⟨go, fun σ' H' => ∃ env' M', Tr K M1 H1 M' H' ∧ RepS K H' env' σ' ∧ aForGo chk g t ax Da (items.drop (i + 1)) env' M', fun σ' H' z => ⟨items.length - (i + 1), by omega, rfl, z⟩, fun x H3 y => ?_⟩
    obtain ⟨t3, r3⟩ := yld x H3 y
    have t23 := t2.trans t3
    refine ⟨d, ax, env2, M2, _, (S.at_ (t1.trans t2) rs2).next t3, r3, q2.2, fun σ4 H4 env4 M4 t4 rs4 q4 => ?_⟩
    have t24 := t23.trans t4
    have t14 := t1.trans t24
    refine ⟨ax, env4, M4, _, S.at_ t14 rs4, q4, ⟨fun σ' H' env' M' t' rs q => ⟨env', M', t24.trans t', rs, by rw [hr]; exact q⟩, fun σ' H' env' M' t' rs q => k.nx σ' H' env' M' (t14.trans t') rs q, fun σ' H' env' M' t' rs q => ⟨env', M', t24.trans t', rs, by rw [hr]; exact q⟩, fun v H' d M' t' r q => k.rt v H' d M' (t14.trans t') r q⟩⟩
theorem as_for (hp : PassesOwn (model X.prog X.w) X.A X.env X.xe) (hc : X.calm = true) (hi : AI X W tg iter ι) (hg : AG X W tg g) (hb : ASs X W body t)
    (hs : ∀ x, foldedSetIterable iter X.env x = pure x := by intro _; rfl) : AS X W (.For tg iter body [] pos) (aFor ι g t) := PS.imp (ps_for hp hc hi hg hb hs) fun _ _ _ => s_for

def aIList (a : ATE) : ATI := fun ax env M R => a ax env M fun x M1 => match x with
  | .obj p => lstAt M1 p fun ds => R ds (fun M => M p = some (.lst ds)) M1
  | _ => False
def aITup (a : ATE) : ATI := fun ax env M R => a ax env M fun x M1 => match x with
  | .tup ds => R ds (fun _ => True) M1
  | _ => False
theorem itsim_list {K : PySem.W.Frag} {p : Addr} {ds : List D} {M1 : Sto} {H1 : Hp} : ItSim K (Itl K p) ds (fun M => M p = some (.lst ds)) M1 H1 := fun i M H t m => by
  obtain ⟨vs, h1, hv⟩ := t.abs p _ m
  refine ⟨fun d e => ?_, fun e => ?_⟩
  · obtain ⟨v, e', r⟩ := hv.get e
    refine ⟨⟨vs, v, SqL.of h1, e'⟩, fun x H' y => ?_⟩
    obtain ⟨rfl, y⟩ := y
    have z := y vs (SqL.of h1)
    rw [e'] at z
    cases z
    exact ⟨Tr.refl t.abs, r⟩
  · refine ⟨vs, SqL.of h1, ?_⟩
    rw [← hv.length]
    exact List.getElem?_eq_none_iff.mp e
theorem itsim_tup {K : PySem.W.Frag} {p : Addr} {ds : List D} {vs : List V} {M1 : Sto} {H1 : Hp} (ab : Abs K M1 H1) (hp : SqT K H1 p vs) (hv : RepL K H1 ds vs) : ItSim K (Itt K p) ds (fun _ => True) M1 H1 := fun i M H t _ => by
  have hp' := t.sqT ab hp
  have hv' := t.repL ab hv
  refine ⟨fun d e => ?_, fun e => ?_⟩
  · obtain ⟨v, e', r⟩ := hv'.get e
    refine ⟨⟨vs, v, hp', e'⟩, fun x H' y => ?_⟩
    obtain ⟨rfl, y⟩ := y
    have z := y vs hp'
    rw [e'] at z
    cases z
    exact ⟨Tr.refl t.abs, r⟩
  · refine ⟨vs, hp', ?_⟩
    rw [← hv'.length]
    exact List.getElem?_eq_none_iff.mp e
theorem ai_list (ha : AE X W e α) : AI X W tg e (aIList α) := PI.imp (pi_list ha) fun σ H R h => by
  obtain ⟨ax, env, M, Ra, S, q, k⟩ := h
  refine ⟨ax, env, M, _, S, q, fun x H1 dx M1 t r q => ?_⟩
  cases dx with
  | obj p =>
    cases (show x = V.ref p from r)
    obtain ⟨ds, m, q⟩ := lstAt_ex q
    obtain ⟨vs, h1, hv⟩ := t.abs p _ m
    exact ⟨p, rfl, ⟨vs, SqL.of h1⟩, k _ ds _ M1 H1 t itsim_list q⟩
  | _ => exact False.elim q
theorem ai_tup (ha : AE X W e α) : AI X W tg e (aITup α) := PI.imp (pi_tup ha) fun σ H R h => by
  obtain ⟨ax, env, M, Ra, S, q, k⟩ := h
  refine ⟨ax, env, M, _, S, q, fun x H1 dx M1 t r q => ?_⟩
  cases dx with
  | tup ds =>
    obtain ⟨p, vs, rfl, hp, hv⟩ := r
    exact ⟨p, rfl, ⟨vs, hp⟩, k _ ds _ M1 H1 t (itsim_tup t.abs hp hv) q⟩
  | _ => exact False.elim q
def rngD : Int → Nat → List D
  | _, 0 => []
  | lo, n + 1 => .int lo :: rngD (lo + 1) n
theorem rngD_get : ∀ (n : Nat) (lo : Int) (i : Nat), (rngD lo n)[i]? = if i < n then some (.int (lo + i)) else none
  | 0, _, _ => by simp [rngD]
  | n + 1, lo, 0 => by simp [rngD]
  | n + 1, lo, i + 1 => by
    rw [rngD, List.getElem?_cons_succ, rngD_get n (lo + 1) i]
    by_cases h : i < n
    · rw [if_pos h, if_pos (by omega)]
      congr 2
      omega
    · rw [if_neg h, if_neg (by omega)]
theorem rngD_length : ∀ (n : Nat) (lo : Int), (rngD lo n).length = n
  | 0, _ => rfl
  | n + 1, lo => by rw [rngD, List.length_cons, rngD_length n]
theorem itsim_rng {K : PySem.W.Frag} {lo : Int} {n : Nat} {M1 : Sto} {H1 : Hp} : ItSim K (Itr lo n) (rngD lo n) (fun _ => True) M1 H1 := fun i M H t _ => by
  refine ⟨fun d e => ?_, fun e => ?_⟩
  · rw [rngD_get] at e
    by_cases h : i < n
    · rw [if_pos h] at e
      cases e
      refine ⟨h, fun x H' y => ?_⟩
      obtain ⟨rfl, rfl⟩ := y
      exact ⟨Tr.refl t.abs, rfl⟩
    · rw [if_neg h] at e
      cases e
  · have z := List.getElem?_eq_none_iff.mp e
    rw [rngD_length] at z
    exact z
def aIRng1 (τ : ATA) : ATI := fun ax env M R => τ ax env M fun ds M1 => match ds with
  | [.int j] => -(2 ^ 62) ≤ j ∧ j < 2 ^ 62 ∧ R (rngD 0 j.toNat) (fun _ => True) M1
  | _ => False
def aIRng2 (τ : ATA) : ATI := fun ax env M R => τ ax env M fun ds M1 => match ds with
  | [.int i, .int j] => (-(2 ^ 62) ≤ i ∧ i < 2 ^ 62 ∧ -(2 ^ 62) ≤ j ∧ j < 2 ^ 62) ∧ R (rngD i (j - i).toNat) (fun _ => True) M1
  | _ => False
theorem ai_rng1 {a : Expr} {τ : ATA} {p : Pos} (hg : Gl X "range") (hm : X.mg "range" = none) (ha : AA X W [a] τ) (hs : starEach [a] X.env = [(false, eval a X.env)] := by rfl) : AI X W tg (.Call (.Name "range" p) [a] [] pos) (aIRng1 τ) :=
  PI.imp (pi_range1 hg hm ha hs) fun σ H R h => by
    obtain ⟨ax, env, M, Ra, S, q, k⟩ := h
    refine ⟨ax, env, M, _, S, q, fun vs H1 ds M1 t r q => ?_⟩
    split at q
    · obtain ⟨v, rfl, r1⟩ := repL1 r
      cases (show v = V.int _ from r1)
      exact ⟨_, rfl, q.1, q.2.1, k _ _ _ M1 H1 t itsim_rng q.2.2⟩
    · exact q.elim
theorem ai_rng2 {a b : Expr} {τ : ATA} {p : Pos} (hg : Gl X "range") (hm : X.mg "range" = none) (ha : AA X W [a, b] τ) (hs : starEach [a, b] X.env = [(false, eval a X.env), (false, eval b X.env)] := by rfl) (hs2 : starEach [b] X.env = [(false, eval b X.env)] := by rfl) :
    AI X W tg (.Call (.Name "range" p) [a, b] [] pos) (aIRng2 τ) :=
  PI.imp (pi_range2 hg hm ha hs hs2) fun σ H R h => by
    obtain ⟨ax, env, M, Ra, S, q, k⟩ := h
    refine ⟨ax, env, M, _, S, q, fun vs H1 ds M1 t r q => ?_⟩
    split at q
    · obtain ⟨v, w, rfl, r1, r2⟩ := repL2 r
      cases (show v = V.int _ from r1)
      cases (show w = V.int _ from r2)
      exact ⟨_, _, rfl, q.1, k _ _ _ M1 H1 t itsim_rng q.2⟩
    · exact q.elim
end

section
variable {W : WX} {X : Cx} {K : PySem.W.Frag}
theorem abs_updL {M : Sto} {H : Hp} (ab : Abs K M H) {p : Addr} {vs ws : List V} (hp : H p = some (.lst vs)) (mp : M p = none) : Abs K M (upd H p (.lst ws)) := fun a mo m => by
  have na : a ≠ p := fun z => by subst z; rw [mp] at m; cases m
  exact (ab a mo m).mono (fun u q => by rw [upd_ne na]; exact q) (Kp.updL hp)
def aLcGo (chk : Sto → Prop) (i : Nat) (t : ATT) (e : ATE) (ax : AX) (env : AEnv) : List D → List D → Sto → (List D → Sto → Prop) → Prop
  | [], acc, M, Q => chk M ∧ Q acc M
  | d :: r, acc, M, Q => chk M ∧ t ax (env.set i (some d)) M fun b M1 => if b = true then e ax (env.set i (some d)) M1 fun y M2 => aLcGo chk i t e ax env r (acc ++ [y]) M2 Q else aLcGo chk i t e ax env r acc M1 Q
def aLc (ι : ATI) (i : Nat) (t : ATT) (e : ATE) : ATE := fun ax env M Q => ι ax env M fun items chk M1 => items.length ≤ 1000000 ∧ aLcGo chk i t e ax env items [] M1 fun acc M2 => New (.lst acc) M2 Q
theorem s_lc {i : Nat} {ι : ATI} {t : ATT} {e : ATE} {σ : L2.St} {H : Hp} {Q : VK} (h : cE K W (aLc ι i t e) σ H Q) : tLc (cI K W ι) (gName i) (cT K W t) (cE K W e) [i] σ H Q := by
  obtain ⟨ax, env, M, Qa, S, q, k⟩ := h
  refine ⟨ax, env, M, _, S, q, fun J items chk M1 H1 t1 sim q => ?_⟩
  obtain ⟨hlen, q⟩ := q
  intro D hD
  have md : M1 D = none := t1.abs.fresh hD
  let Qf : List AL.D → Sto → Prop := fun acc M2 => ∀ p, M2 p = none → Qa (.obj p) (up M2 p (.lst acc))
  let Inv : Nat → Hp → Prop := fun i' H' => ∃ M' acc vs, Tr K M1 H1 M' H' ∧ H' D = some (.lst vs) ∧ M' D = none ∧ RepL K H' acc vs ∧ acc.length ≤ i' ∧ aLcGo chk i t e ax env (items.drop i') acc M' Qf
  refine ⟨fun i' m H' => m = items.length - i' ∧ Inv i' H', ⟨items.length, rfl, M1, [], [], Tr.newT t1.abs hD, upd_same, md, rfl, Nat.le_refl _, q⟩, ?_⟩
  rintro i' m H2 ⟨rfl, M2, acc, vs, t2, hD2, md2, ra, hl, q2⟩
  cases hd : items.drop i' with
  | nil =>
    rw [hd] at q2
    refine .inl ⟨(sim i' M2 H2 t2 q2.1).2 (drop_end hd), ?_⟩
    refine k (.ref D) H2 (.obj D) (up M2 D (.lst acc)) (t1.trans ?_) rfl (q2.2 D md2)
    refine ⟨fun a mo m => ?_, fun b o e1 n => ?_⟩
    · by_cases ha : a = D
      · subst ha
        rw [up_same] at m
        cases m
        exact ⟨vs, hD2, ra⟩
      · rw [up_ne ha] at m
        exact t2.abs a mo m
    · obtain ⟨o2, z1, zg, z2⟩ := t2.kee b o e1 n
      exact ⟨o2, z1, zg, by rw [up_ne (ne_of_none e1 hD)]; exact z2⟩
  | cons d r =>
    rw [hd] at q2
    obtain ⟨hi, hr, hlt⟩ := drop_at hd
    obtain ⟨go, yld⟩ := (sim i' M2 H2 t2 q2.1).1 d hi
    refine .inr ⟨go, Inv (i' + 1), fun H' z => ⟨items.length - (i' + 1), by omega, rfl, z⟩, fun x H3 y => ?_⟩
    obtain ⟨t3, r3⟩ := yld x H3 y
    have t13 := t1.trans (t2.trans t3)
    have S3 : Stt K W ax (env.set i (some d)) M2 ((wipe σ [i]).set i (some x)) H3 := by
      have rs := (S.next t13).rs.set (i := i) r3
      have e1 : (wipe σ [i]).set i (some x) = σ.set i (some x) := by
        show (σ.set i none).set i (some x) = σ.set i (some x)
        rw [List.set_set]
      rw [e1]
      exact S.at_ t13 rs
    show wipe ((wipe σ [i]).set i (some x)) [i] = wipe σ [i] ∧ _
    refine ⟨?_, ax, _, M2, _, S3, q2.2, fun b H4 M4 t4 q4 => ?_⟩
    · show ((σ.set i none).set i (some x)).set i none = σ.set i none
      rw [List.set_set, List.set_set]
    obtain ⟨hD3, _⟩ := t3.keep D _ hD2 md2
    obtain ⟨hD4, md4⟩ := t4.keep D _ hD3 md2
    have ra4 : RepL K H4 acc vs := t4.repL t3.abs (t3.repL t2.abs ra)
    have t24 := t2.trans (t3.trans t4)
    cases b with
    | false => exact ⟨M4, acc, vs, t24, hD4, md4, ra4, by omega, by rw [hr]; exact q4⟩
    | true =>
      refine ⟨ax, _, M4, _, S3.next t4, q4, fun v H5 dv M5 t5 r5 q5 => ?_⟩
      obtain ⟨hD5, md5⟩ := t5.keep D _ hD4 md4
      have ra5 : RepL K H5 acc vs := t5.repL t4.abs ra4
      have t25 := t24.trans t5
      refine ⟨vs, hD5, ?_, M5, acc ++ [dv], vs ++ [v], ⟨abs_updL t5.abs hD5 md5, fun b o e1 n => ?_⟩, upd_same, md5, ?_, ?_, by rw [hr]; exact q5⟩
      · rw [← ra5.length]
        exact Nat.lt_of_le_of_lt hl (Nat.lt_of_lt_of_le hlt (Nat.le_trans hlen (by decide)))
      · obtain ⟨o2, z1, zg, z2⟩ := t25.kee b o e1 n
        exact ⟨o2, by rw [upd_ne (ne_of_none e1 hD)]; exact z1, zg, z2⟩
      · exact RepL.mono (Kp.updL hD5) _ _ (ra5.append (RepL.one r5))
      · rw [List.length_append, List.length_singleton]
        omega
abbrev ATTs (X : Cx) (W : WX) (es : List Expr) (t : ATT) : Prop := PTs X es (cT X.K W t)
def aYes : ATT := fun _ _ M Q => Q true M
theorem PTs.imp {X : Cx} {e : List Expr} {t u : TT} (h : PTs X e t) (k : ∀ σ H Q, u σ H Q → t σ H Q) : PTs X e u := ⟨fun pins s σ H Q I q => h.run pins s σ H Q I (k σ H Q q)⟩
theorem ats_nil : ATTs X W [] aYes := PTs.imp pts_nil fun σ H Q h => by
  obtain ⟨ax, env, M, Qa, S, q, k⟩ := h
  exact k true H M (Tr.refl S.abs) q
theorem ae_lc {x : Str} (i : Nat) {elt iter : Expr} {ifs : List Expr} {scope : Scope} {pos px : Pos} {ι : ATI} {t : ATT} {e : ATE} (hc : X.calm = true) (hN : X.N.Nodup) (hi : AI X W (.Name x px) iter ι) (ok : BlkOk X.N X.env.scope scope [(x, i)])
    (hg : ∀ (s : Shared) (H : Hp) (C : Addr) (cl : List (Str × Addr)) (fp : List Addr), PG (X.blk s H scope (compEnvC scope cl C X.env) fp) (.Name x px) (gName i)) (ht : ∀ (s : Shared) (H : Hp) (C : Addr) (cl : List (Str × Addr)) (fp : List Addr), ATTs (X.blk s H scope (compEnvC scope cl C X.env) fp) W ifs t)
    (he : ∀ (s : Shared) (H : Hp) (C : Addr) (cl : List (Str × Addr)) (fp : List Addr), AE (X.blk s H scope (compEnvC scope cl C X.env) fp) W elt e) (hs : ∀ x, foldedSetIterable iter X.env x = pure x := by intro _; rfl) :
    AE X W (.ListComp elt [⟨.Name x px, iter, ifs, 0⟩] scope pos) (aLc ι i t e) := PE.imp (pe_lc (own := [(x, i)]) hc hN hi ok hg ht he hs) fun _ _ _ => s_lc
end

section
variable {P : Program} {w : World} {K : PySem.W.Frag} {mg : Str → Option Value} {base : Heap}
def W0 : WX := fun _ _ _ _ => False
def startA (N : List Str) (ds : List D) : AEnv := ds.map some ++ List.replicate (N.length - ds.length) none
theorem start_rep {H : Hp} {N : List Str} {ds : List D} {vs : List V} (r : RepL K H ds vs) : RepS K H (startA N ds) (L2.start N vs) := by
  have l := r.length
  refine ⟨?_, fun i d e => ?_⟩
  · unfold startA L2.start
    rw [List.length_append, List.length_append, List.length_map, List.length_map, List.length_replicate, List.length_replicate, l]
  · unfold startA at e
    unfold L2.start
    by_cases hi : i < ds.length
    · rw [List.getElem?_append_left (by rw [List.length_map]; exact hi), List.getElem?_map, Option.map_eq_some_iff] at e
      obtain ⟨d', e1, e2⟩ := e
      cases e2
      obtain ⟨v, e3, rv⟩ := r.get e1
      exact ⟨v, by rw [List.getElem?_append_left (by rw [List.length_map]; omega), List.getElem?_map, e3]; rfl, rv⟩
    · rw [List.getElem?_append_right (by rw [List.length_map]; omega)] at e
      have z := List.mem_of_getElem? e
      rw [List.mem_replicate] at z
      cases z.2
theorem fn_abs {x qual : Str} {st : Stmt} {f : Addr} {fd : FuncData} {N ps : List Str} {k n : Nat} {A : ASp} {a : ATS} (F : Fun K x qual st f fd) (S : FnScope N ps (defScope st)) (hn : ps.length = n)
    (hbody : ∀ (cdv : Value) (A : Around) (outer : List Env) (s : Shared) (H : Hp) (E : XK), Room k (A.deeper (PyProof.Rows.envOfC qual (defScope st) s.heap.objs.size f cdv)) → ASs (cxOf CX0 P w K mg base N qual (defScope st) f cdv A outer s H E).nox W0 (defBody st) a)
    (hp : ∀ ds M Q Xa, ds.length = n → A ds M Q Xa → a ax0 { nx := fun _ M => Q .non M, rt := Q } (startA N ds) M) : FnOk P w K mg base CX0 (k + 1) f fd ps (conc K n A) := by
  refine F.ok S (fun vs H Q E h => ?_) (fun cdv Ar outer s H vs Q E hr h => ?_)
  · obtain ⟨ds, M, Qa, Xa, e, _⟩ := h
    rw [e, hn]
  · obtain ⟨ds, M, Qa, Xa, e, r, ab, tb, q, k1, _⟩ := h
    refine ⟨_, hbody cdv Ar outer s H E hr, ax0, startA N ds, M, { nx := fun _ M => Qa .non M, rt := Qa }, ⟨start_rep r, ab, XC.no, tb⟩, hp ds M Qa Xa (by rw [r.length]; exact e) q, ⟨fun σ' H' env' M' t rs q => k1 .non H' .non M' t rfl q, fun _ _ _ _ _ _ z => z.elim, fun _ _ _ _ _ _ z => z.elim, fun v H' d M' t r q => k1 v H' d M' t r q⟩⟩
end

theorem hu64 {k : Nat} {A : Around} (r : Room k A) : A.units + 64 < cLine := r.units
theorem hu65 {k : Nat} {A : Around} (r : Room k A) : A.units + 65 < cLine := by have := r.un; omega
theorem hu1 {k : Nat} {A : Around} (r : Room k A) : A.units + 1 < cLine := hu_of r
section
variable {W : WX} {X : Cx} {o e : Expr} {α β : ATE} {pos apos cpos : Pos}
end

section
variable {X : Cx} {W : WX} {e f o : Expr} {α β γ : ATE} {τ : ATA} {p p2 q2 pos apos cpos : Pos}
def aSortSet (α : ATE) : ATE := fun ax env M Q => α ax env M fun x M1 => match x with
  | .obj p => lstAt M1 p fun ds => optAt (strsOf ds) fun xs => xs.length ≤ 4000 ∧ ∀ ys : List Str, ys.Nodup → (∀ k, k ∈ ys ↔ k ∈ xs) → PyProof.Rows.sortedS ys = true → New (.lst (ys.map D.str)) M1 Q
  | _ => False
def ρSortS : ARs := fun ds M Q => match ds with
  | [.obj p] => lstAt M p fun ds => optAt (strsOf ds) fun xs => xs.length < 64 ∧ ∀ ys : List Str, ys.Perm xs → PyProof.Rows.sortedS ys = true → New (.lst (ys.map D.str)) M Q
  | _ => False
def aSetd (a b c : ATE) : ATE := fun ax env M Q => a ax env M fun x M1 => match x with
  | .obj p => dicAt M1 p fun _ => b ax env M1 fun y M2 => c ax env M2 fun z M3 => dicAt M3 p fun kvs => optAt (keyD y) fun k => kvs.length < sizeLine ∧ match valA kvs k with
    | some v => Q v M3
    | none => Q z (up M3 p (.dic (putA kvs k z)))
  | _ => False
def intsOf : List D → Option (List Int)
  | [] => some []
  | .int i :: r => (intsOf r).map fun xs => i :: xs
  | _ => none
theorem intsOf_eq : ∀ {ds : List D} {xs : List Int}, intsOf ds = some xs → ds = xs.map D.int
  | [], _, e => by cases (Option.some.inj e); rfl
  | d :: r, xs, e => by
    cases d with
    | int i =>
      obtain ⟨ys, e1, rfl⟩ := Option.map_eq_some_iff.mp (show (intsOf r).map (fun xs => i :: xs) = some xs from e)
      rw [intsOf_eq e1, List.map_cons]
    | _ => cases e
theorem intsOf_map : ∀ xs : List Int, intsOf (xs.map D.int) = some xs
  | [] => rfl
  | x :: xs => by show (intsOf (xs.map D.int)).map (fun ys => x :: ys) = _; rw [intsOf_map xs]; rfl
theorem repL_ints' {K : PySem.W.Frag} {H : Hp} : ∀ {xs : List Int} {vs : List V}, RepL K H (xs.map D.int) vs → vs = xs.map V.int
  | [], vs, h => h
  | x :: r, vs, h => by
    obtain ⟨v, us, rfl, h1, h2⟩ := h
    rw [repL_ints' h2, show v = V.int x from h1]
    rfl
def ρMaxI : ARs := fun ds M Q => match ds with
  | [.obj p] => lstAt M p fun ds => optAt (intsOf ds) fun xs => 0 < xs.length ∧ ∀ m, m ∈ xs → (∀ y, y ∈ xs → y ≤ m) → Q (.int m) M
  | _ => False
theorem sim_maxI {K : PySem.W.Frag} : SimC K (rMax K) ρMaxI := by
  intro vs ds H M Q Qc ab r q k
  unfold ρMaxI at q
  split at q
  · rename_i p
    obtain ⟨v, rfl, rv⟩ := repL1 r
    cases (show v = V.ref p from rv)
    obtain ⟨ds, m, q⟩ := lstAt_ex q
    obtain ⟨xs, es, pos, q⟩ := optAt_ex q
    obtain ⟨us, h1, ru⟩ := ab p _ m
    rw [intsOf_eq es] at ru
    rw [repL_ints' ru] at h1
    exact ⟨p, xs, rfl, .inl (.inl h1), pos, fun n hn hy => k (.int n) H (.int n) M (Tr.refl ab) rfl (q n hn hy)⟩
  · exact q.elim
end

section
variable {X : Cx} {W : WX} {K : PySem.W.Frag}
def aPairs : List (Str × ATE) → AX → AEnv → Sto → (List (Key × D) → Sto → Prop) → Prop
  | [], _, _, M, Q => Q [] M
  | (s, a) :: r, ax, env, M, Q => a ax env M fun y M1 => aPairs r ax env M1 fun kvs M2 => Q ((.inr s, y) :: kvs) M2
def mergeA (kvs : List (Key × D)) (more : List (Key × D)) : List (Key × D) := more.foldl (fun acc kv => putA acc kv.1 kv.2) kvs
def aDisp (prs : List (Str × ATE)) : ATE := fun ax env M Q => ∀ p, M p = none → aPairs prs ax env (up M p (.dic [])) fun kvs M2 => M2 p = some (.dic []) ∧ kvs.length ≤ 15 ∧ Q (.obj p) (up M2 p (.dic (mergeA [] kvs)))
end

section
variable {W : WX} {X : Cx} {K : PySem.W.Frag}
def enumD : Int → List D → List D
  | _, [] => []
  | k, d :: r => .tup [.int k, d] :: enumD (k + 1) r
theorem enumD_get : ∀ (ds : List D) (k : Int) (i : Nat), (enumD k ds)[i]? = (ds[i]?).map fun d => D.tup [.int (k + i), d]
  | [], _, _ => by simp [enumD]
  | d :: r, k, 0 => by simp [enumD]
  | d :: r, k, i + 1 => by
    rw [enumD, List.getElem?_cons_succ, List.getElem?_cons_succ, enumD_get r (k + 1) i]
    congr 1
    funext x
    congr 3
    push_cast
    omega
def aIEnum (τ : ATA) : ATI := fun ax env M R => τ ax env M fun ds M1 => match ds with
  | [.tup ds] => R (enumD 0 ds) (fun _ => True) M1
  | [.obj p] => lstAt M1 p fun ds => R (enumD 0 ds) (fun M => M p = some (.lst ds)) M1
  | _ => False
theorem rep_pair {H : Hp} {T : Addr} {d e : D} {v w : V} (hT : H T = none) (h1 : Rep K H d v) (h2 : Rep K H e w) : Rep K (upd H T (.tup [v, w])) (.tup [d, e]) (.ref T) := rep_newT hT ⟨v, [w], rfl, h1, RepL.one h2⟩
theorem itsim_enL {p : Addr} {ds : List D} {M1 : Sto} {H1 : Hp} : ItSim K (Ite K p) (enumD 0 ds) (fun M => M p = some (.lst ds)) M1 H1 := fun i M H t m => by
  obtain ⟨vs, h1, hv⟩ := t.abs p _ m
  refine ⟨fun d e => ?_, fun e => ?_⟩
  · rw [enumD_get, Option.map_eq_some_iff] at e
    obtain ⟨d0, e0, rfl⟩ := e
    obtain ⟨v, e', r⟩ := hv.get e0
    refine ⟨⟨vs, v, SqL.of h1, e'⟩, fun x H' y => ?_⟩
    obtain ⟨T, v', rfl, hT, rfl, y⟩ := y
    cases e'.symm.trans (y vs (SqL.of h1))
    refine ⟨Tr.newT t.abs hT, ?_⟩
    rw [Int.zero_add]
    exact rep_pair (d := .int (i : Nat)) hT rfl r
  · refine ⟨vs, SqL.of h1, ?_⟩
    rw [enumD_get, Option.map_eq_none_iff] at e
    rw [← hv.length]
    exact List.getElem?_eq_none_iff.mp e
theorem itsim_enT {p : Addr} {ds : List D} {vs : List V} {M1 : Sto} {H1 : Hp} (ab : Abs K M1 H1) (hp : SqT K H1 p vs) (hv : RepL K H1 ds vs) : ItSim K (EN.ItEn K p) (enumD 0 ds) (fun _ => True) M1 H1 := fun i M H t m => by
  have hp' := t.sqT ab hp
  have hv' := t.repL ab hv
  refine ⟨fun d e => ?_, fun e => ?_⟩
  · rw [enumD_get, Option.map_eq_some_iff] at e
    obtain ⟨d0, e0, rfl⟩ := e
    obtain ⟨v, e', r⟩ := hv'.get e0
    refine ⟨⟨vs, v, hp', e'⟩, fun x H' y => ?_⟩
    obtain ⟨T, v', rfl, hT, rfl, y⟩ := y
    cases e'.symm.trans (y vs hp')
    refine ⟨Tr.newT t.abs hT, ?_⟩
    rw [Int.zero_add]
    exact rep_pair (d := .int (i : Nat)) hT rfl r
  · refine ⟨vs, hp', ?_⟩
    rw [enumD_get, Option.map_eq_none_iff] at e
    rw [← hv'.length]
    exact List.getElem?_eq_none_iff.mp e
theorem ai_enum {a : Expr} {τ : ATA} {p pos tp : Pos} {es : List Expr} {kk : Nat} (hg : Gl X "enumerate") (hm : X.mg "enumerate" = none) (ha : AA X W [a] τ) (hs : starEach [a] X.env = [(false, eval a X.env)] := by rfl) :
    AI X W (.Tuple es kk tp) (.Call (.Name "enumerate" p) [a] [] pos) (aIEnum τ) :=
  PI.imp (EN.pi_enA hg hm ha hs) fun σ H R h => by
    obtain ⟨ax, env, M, Ra, S, q, k⟩ := h
    refine ⟨ax, env, M, _, S, q, fun vs H1 ds M1 t r q => ?_⟩
    split at q
    · obtain ⟨v, rfl, r1⟩ := repL1 r
      obtain ⟨b, ws, rfl, hp, hv⟩ := r1
      exact ⟨b, ws, rfl, .inr ⟨hp, k _ _ _ M1 H1 t (itsim_enT t.abs hp hv) q⟩⟩
    · obtain ⟨v, rfl, r1⟩ := repL1 r
      cases (show v = V.ref _ from r1)
      obtain ⟨ds, m, q⟩ := lstAt_ex q
      obtain ⟨ws, h1, hv⟩ := t.abs _ _ m
      exact ⟨_, ws, rfl, .inl ⟨SqL.of h1, k _ _ _ M1 H1 t itsim_enL q⟩⟩
    · exact q.elim
def zipD : List D → List D → List D
  | d :: r, e :: s => .tup [d, e] :: zipD r s
  | _, _ => []
def aIZip (τ : ATA) : ATI := fun ax env M R => τ ax env M fun ds M1 => match ds with
  | [.tup ds, .tup es] => R (zipD ds es) (fun _ => True) M1
  | [.obj p, .obj q] => lstAt M1 p fun ds => lstAt M1 q fun es => R (zipD ds es) (fun M => M p = some (.lst ds) ∧ M q = some (.lst es)) M1
  | _ => False
end
section
variable {W : WX} {X : Cx} {K : PySem.W.Frag}
def aLc2Go (chk : Sto → Prop) (i j : Nat) (t : ATT) (e : ATE) (ax : AX) (env : AEnv) : List D → List D → Sto → (List D → Sto → Prop) → Prop
  | [], acc, M, Q => chk M ∧ Q acc M
  | .tup [d, c] :: r, acc, M, Q => chk M ∧ t ax ((env.set i (some d)).set j (some c)) M fun b M1 => if b = true then e ax ((env.set i (some d)).set j (some c)) M1 fun y M2 => aLc2Go chk i j t e ax env r (acc ++ [y]) M2 Q else aLc2Go chk i j t e ax env r acc M1 Q
  | _ :: _, _, _, _ => False
def aLc2 (ι : ATI) (i j : Nat) (t : ATT) (e : ATE) : ATE := fun ax env M Q => ι ax env M fun items chk M1 => i ≠ j ∧ items.length ≤ 1000000 ∧ aLc2Go chk i j t e ax env items [] M1 fun acc M2 => New (.lst acc) M2 Q
abbrev gPair (K : PySem.W.Frag) (i j : Nat) : TG := gTup K 2 (gCons (gName i) (gCons (gName j) gNil))
theorem set_pair {σ : L2.St} {i j : Nat} (n : i ≠ j) (v w : V) : ((wipe σ [i, j]).set i (some v)).set j (some w) = (σ.set i (some v)).set j (some w) := by
  show (((σ.set j none).set i none).set i (some v)).set j (some w) = _
  rw [List.set_set, List.set_comm _ _ n.symm, List.set_set]
theorem wipe_pair {σ : L2.St} {i j : Nat} (n : i ≠ j) (v w : V) : wipe ((σ.set i (some v)).set j (some w)) [i, j] = wipe σ [i, j] := by
  show (((σ.set i (some v)).set j (some w)).set j none).set i none = (σ.set j none).set i none
  rw [List.set_set, List.set_comm _ _ n, List.set_set]
theorem lc2_cons {chk : Sto → Prop} {i j : Nat} {t : ATT} {e : ATE} {ax : AX} {env : AEnv} {d : D} {r acc : List D} {M : Sto} {Q : List D → Sto → Prop} (h : aLc2Go chk i j t e ax env (d :: r) acc M Q) : ∃ a b, d = .tup [a, b] ∧
    chk M ∧ t ax ((env.set i (some a)).set j (some b)) M fun k M1 => if k = true then e ax ((env.set i (some a)).set j (some b)) M1 fun y M2 => aLc2Go chk i j t e ax env r (acc ++ [y]) M2 Q else aLc2Go chk i j t e ax env r acc M1 Q := by
  match d, h with
  | .tup [a, b], h => exact ⟨a, b, rfl, h⟩
theorem s_lc2 {i j : Nat} {ι : ATI} {t : ATT} {e : ATE} {σ : L2.St} {H : Hp} {Q : VK} (h : cE K W (aLc2 ι i j t e) σ H Q) : tLc (cI K W ι) (gPair K i j) (cT K W t) (cE K W e) [i, j] σ H Q := by
  obtain ⟨ax, env, M, Qa, S, q, k⟩ := h
  refine ⟨ax, env, M, _, S, q, fun J items chk M1 H1 t1 sim q => ?_⟩
  obtain ⟨nij, hlen, q⟩ := q
  intro D hD
  have md : M1 D = none := t1.abs.fresh hD
  let Qf : List AL.D → Sto → Prop := fun acc M2 => ∀ p, M2 p = none → Qa (.obj p) (up M2 p (.lst acc))
  let Inv : Nat → Hp → Prop := fun i' H' => ∃ M' acc vs, Tr K M1 H1 M' H' ∧ H' D = some (.lst vs) ∧ M' D = none ∧ RepL K H' acc vs ∧ acc.length ≤ i' ∧ aLc2Go chk i j t e ax env (items.drop i') acc M' Qf
  refine ⟨fun i' m H' => m = items.length - i' ∧ Inv i' H', ⟨items.length, rfl, M1, [], [], Tr.newT t1.abs hD, upd_same, md, rfl, Nat.le_refl _, q⟩, ?_⟩
  rintro i' m H2 ⟨rfl, M2, acc, vs, t2, hD2, md2, ra, hl, q2⟩
  cases hd : items.drop i' with
  | nil =>
    rw [hd] at q2
    refine .inl ⟨(sim i' M2 H2 t2 q2.1).2 (drop_end hd), ?_⟩
    refine k (.ref D) H2 (.obj D) (up M2 D (.lst acc)) (t1.trans ?_) rfl (q2.2 D md2)
    refine ⟨fun a mo m => ?_, fun b o e1 n => ?_⟩
    · by_cases ha : a = D
      · subst ha
        rw [up_same] at m
        cases m
        exact ⟨vs, hD2, ra⟩
      · rw [up_ne ha] at m
        exact t2.abs a mo m
    · obtain ⟨o2, z1, zg, z2⟩ := t2.kee b o e1 n
      exact ⟨o2, z1, zg, by rw [up_ne (ne_of_none e1 hD)]; exact z2⟩
  | cons d r =>
    rw [hd] at q2
    obtain ⟨d1, d2, rfl, q2⟩ := lc2_cons q2
    obtain ⟨hi, hr, hlt⟩ := drop_at hd
    obtain ⟨go, yld⟩ := (sim i' M2 H2 t2 q2.1).1 _ hi
    refine .inr ⟨go, Inv (i' + 1), fun H' z => ⟨items.length - (i' + 1), by omega, rfl, z⟩, fun x H3 y => ?_⟩
    obtain ⟨t3, r3⟩ := yld x H3 y
    obtain ⟨a, us, rfl, hT, hu⟩ := r3
    obtain ⟨v1, v2, rfl, rv1, rv2⟩ := repL2 hu
    have t13 := t1.trans (t2.trans t3)
    have S3 : Stt K W ax ((env.set i (some d1)).set j (some d2)) M2 ((σ.set i (some v1)).set j (some v2)) H3 := S.at_ t13 (((S.next t13).rs.set (i := i) rv1).set (i := j) rv2)
    refine ⟨a, [v1, v2], rfl, hT, rfl, v1, [v2], rfl, ?_⟩
    show ∃ v r, [v2] = v :: r ∧ _
    refine ⟨v2, [], rfl, ?_⟩
    show [] = [] ∧ _
    refine ⟨rfl, ?_⟩
    rw [set_pair nij]
    refine ⟨wipe_pair nij v1 v2, ax, _, M2, _, S3, q2.2, fun b H4 M4 t4 q4 => ?_⟩
    obtain ⟨hD3, _⟩ := t3.keep D _ hD2 md2
    obtain ⟨hD4, md4⟩ := t4.keep D _ hD3 md2
    have ra4 : RepL K H4 acc vs := t4.repL t3.abs (t3.repL t2.abs ra)
    have t24 := t2.trans (t3.trans t4)
    cases b with
    | false => exact ⟨M4, acc, vs, t24, hD4, md4, ra4, by omega, by rw [hr]; exact q4⟩
    | true =>
      refine ⟨ax, _, M4, _, S3.next t4, q4, fun v H5 dv M5 t5 r5 q5 => ?_⟩
      obtain ⟨hD5, md5⟩ := t5.keep D _ hD4 md4
      have ra5 : RepL K H5 acc vs := t5.repL t4.abs ra4
      have t25 := t24.trans t5
      refine ⟨vs, hD5, ?_, M5, acc ++ [dv], vs ++ [v], ⟨abs_updL t5.abs hD5 md5, fun b o e1 n => ?_⟩, upd_same, md5, ?_, ?_, by rw [hr]; exact q5⟩
      · rw [← ra5.length]
        exact Nat.lt_of_le_of_lt hl (Nat.lt_of_lt_of_le hlt (Nat.le_trans hlen (by decide)))
      · obtain ⟨o2, z1, zg, z2⟩ := t25.kee b o e1 n
        exact ⟨o2, by rw [upd_ne (ne_of_none e1 hD)]; exact z1, zg, z2⟩
      · exact RepL.mono (Kp.updL hD5) _ _ (ra5.append (RepL.one r5))
      · rw [List.length_append, List.length_singleton]
        omega
theorem as_setLc2 {x y z : Str} (i j l : Nat) {pz : Pos} {elt iter : Expr} {ifs : List Expr} {scope : Scope} {pos px py pt spos : Pos} {kk : Nat} {ι : ATI} {t : ATT} {e : ATE} (hc : X.calm = true) (hN : X.N.Nodup) (hz : X.N[l]? = some z) (hzl : X.env.scope.names.lookup z = some .local)
    (hsw : swapsWith (.ListComp elt [⟨.Tuple [.Name x px, .Name y py] kk pt, iter, ifs, 0⟩] scope pos) (some (.Name z pz)) spos.line X.env = pure true) (hi : AI X W (.Tuple [.Name x px, .Name y py] kk pt) iter ι) (ok : BlkOk X.N X.env.scope scope [(x, i), (y, j)])
    (hg : ∀ (s : Shared) (H : Hp) (C : Addr) (cl : List (Str × Addr)) (fp : List Addr), PG (X.blk s H scope (compEnvC scope cl C X.env) fp) (.Tuple [.Name x px, .Name y py] kk pt) (gPair X.K i j))
    (ht : ∀ (s : Shared) (H : Hp) (C : Addr) (cl : List (Str × Addr)) (fp : List Addr), ATTs (X.blk s H scope (compEnvC scope cl C X.env) fp) W ifs t)
    (he : ∀ (s : Shared) (H : Hp) (C : Addr) (cl : List (Str × Addr)) (fp : List Addr), AE (X.blk s H scope (compEnvC scope cl C X.env) fp) W elt e) (hs : ∀ x, foldedSetIterable iter X.env x = pure x := by intro _; rfl) :
    AS X W (.Assign [.Name z pz] (.ListComp elt [⟨.Tuple [.Name x px, .Name y py] kk pt, iter, ifs, 0⟩] scope pos) spos) (aAsg (aLc2 ι i j t e) (agName l)) := PS.imp (ps_setLc (i := l) (own := [(x, i), (y, j)]) hc hN hz hzl hsw hi ok hg ht he hs) fun D σ H h => by
  obtain ⟨ax, env, M, Da, S, q, k⟩ := h
  exact s_lc2 (W := W) ⟨ax, env, M, _, S, q, fun v H1 d M1 t r q => k.nx _ H1 _ M1 t ((S.next t).rs.set r) q⟩
end
section
variable {K : PySem.W.Frag}
def blsOf : List D → Option (List Bool)
  | [] => some []
  | .bl x :: r => (blsOf r).map fun xs => x :: xs
  | _ :: _ => none
theorem blsOf_map : ∀ (xs : List Bool), blsOf (xs.map D.bl) = some xs
  | [] => rfl
  | x :: xs => by show (blsOf (xs.map D.bl)).map (fun ys => x :: ys) = _; rw [blsOf_map xs]; rfl
def ρAny : ARs := fun ds M Q => match ds with
  | [.obj p] => lstAt M p fun ds => optAt (blsOf ds) fun bs => Q (.bl (bs.any id)) M
  | _ => False
def ρAll : ARs := fun ds M Q => match ds with
  | [.obj p] => lstAt M p fun ds => optAt (blsOf ds) fun bs => Q (.bl (bs.all id)) M
  | _ => False
def ρMulS : AR2 := fun x y M Q => match x, y with
  | .str z, .int k => 0 ≤ k ∧ k ≤ 1000 ∧ z.length ≤ 1000 ∧ Q (.str (EN.reps z k.toNat)) M
  | x, y => ρMul x y M Q
end

section
variable {W : WX} {X : Cx} {K : PySem.W.Frag} {e o : Expr} {es : List Expr} {α : ATE} {τ : ATA} {pos p apos cpos : Pos} {x : Str}
def aSet0 (w : World) : ATE := fun _ _ M Q => ∀ p, M p = none → Q (.obj p) (up M p (.raw (SetTx w p [])))
def aSAdd (w : World) (a : ATE) (τ : ATA) : ATE := fun ax env M Q => a ax env M fun x M1 => match x with
  | .obj p => (∃ ks, M1 p = some (.raw (SetTx w p ks))) ∧ τ ax env M1 fun xs M2 => match xs with
    | [.str k] => ∃ ks, M2 p = some (.raw (SetTx w p ks)) ∧ ks.length ≤ 4000 ∧ Q .non (up M2 p (.raw (SetTx w p (if k ∈ ks then ks else k :: ks))))
    | _ => False
  | _ => False
def ρSortTx (w : World) : ARs := fun ds M Q => match ds with
  | [.obj p] => ∃ ks, M p = some (.raw (SetTx w p ks)) ∧ ∀ ys : List Str, ys.Perm ks → PyProof.Rows.sortedS ys = true → New (.lst (ys.map D.str)) M Q
  | _ => False
def ρSortD : ARs := fun ds M Q => match ds with
  | [.obj p] => dicAt M p fun kvs => ∃ ks : List Str, kvs.map (·.1) = ks.map Sum.inr ∧ ks.length < 64 ∧ ∀ ys : List Str, ys.Perm ks → PyProof.Rows.sortedS ys = true → New (.lst (ys.map D.str)) M Q
  | _ => False
def pysM (M : Sto) : List D → Option (List PyData)
  | [] => some []
  | d :: ds => (pyM M d).bind fun p => (pysM M ds).map fun ps => p :: ps
def pyM2 (M : Sto) : D → Option PyData
  | .obj a => match M a with
    | some (.lst ds) => (pysM M ds).map .list
    | _ => none
  | d => d.py
theorem RepL.dpM {H : Hp} {M : Sto} (ab : Abs K M H) : ∀ {ds : List D} {vs : List V} {ps : List PyData}, RepL K H ds vs → pysM M ds = some ps → DpAll K H vs ps
  | [], vs, ps, h, e => by cases (show vs = [] from h); cases (Option.some.inj e); exact .nil
  | d :: ds, vs, ps, h, e => by
    obtain ⟨v, r, rfl, h1, h2⟩ := h
    rw [pysM, Option.bind_eq_some_iff] at e
    obtain ⟨p, e1, e⟩ := e
    rw [Option.map_eq_some_iff] at e
    obtain ⟨ps', e2, rfl⟩ := e
    exact .cons (Rep.dpM ab h1 e1) (RepL.dpM ab h2 e2)
def isRef : D → Bool
  | .tup _ => true
  | .obj _ => true
  | _ => false
def ρRepr : ARs := fun ds M Q => match ds with
  | [d] => ∃ p, isRef d = true ∧ pyM2 M d = some p ∧ p.showable = true ∧ p.hasDict = false ∧ p.depth ≤ 64 ∧ p.shown.length ≤ sizeLine ∧ Q (.str p.shown) M
  | _ => False
end
section
variable {P : Program} {w : World} {K : PySem.W.Frag} {mg : Str → Option Value} {base : Heap}
end
section
variable {W : WX} {X : Cx} {k n : Nat} {f : Addr} {fd : FuncData} {ps : List Str} {A : ASp} {x : Str} {p pos : Pos} {e : Expr} {es : List Expr} {τ : ATA}
end

section
variable {W : WX} {X : Cx} {K : PySem.W.Frag} {e o : Expr} {es : List Expr} {α : ATE} {τ : ATA} {pos p apos cpos : Pos} {x : Str}
def ρExtT : Addr → List D → List D → Sto → (D → Sto → Prop) → Prop := fun p ds xs M Q => match xs with
  | [.tup es] => ds.length + es.length ≤ sizeLine ∧ Q .non (up M p (.lst (ds ++ es)))
  | _ => False
end

section
variable {W : WX} {X : Cx} {K : PySem.W.Frag}
def aScGo2 (chk : Sto → Prop) (i j : Nat) (t : ATT) (e : ATE) (ax : AX) (env : AEnv) : List D → List Int → Sto → (List Int → Sto → Prop) → Prop
  | [], acc, M, Q => chk M ∧ Q acc M
  | .tup [d, c] :: r, acc, M, Q => chk M ∧ t ax ((env.set i (some d)).set j (some c)) M fun b M1 => if b = true then e ax ((env.set i (some d)).set j (some c)) M1 fun y M2 => match y with
      | .int k => aScGo2 chk i j t e ax env r (acc ++ [k]) M2 Q
      | _ => False
    else aScGo2 chk i j t e ax env r acc M1 Q
  | _ :: _, _, _, _ => False
def aSc2 (w : World) (ι : ATI) (i j : Nat) (t : ATT) (e : ATE) : ATE := fun ax env M Q => ι ax env M fun items chk M1 => i ≠ j ∧ items.length ≤ 4000 ∧ aScGo2 chk i j t e ax env items [] M1 fun acc M2 =>
  ∀ (p : Addr) (n : Nat), n ≤ acc.length → M2 p = none → Q (.obj p) (up M2 p (.raw (SetO w p (fun k => decide (k ∈ acc)) n)))
def ρSortZ (w : World) : ARs := fun ds M Q => match ds with
  | [.obj p] => ∃ S n, M p = some (.raw (SetO w p S n)) ∧ n < 64 ∧ ∀ ns : List Int, ns.Pairwise (· < ·) → (∀ k : Int, k ∈ ns ↔ S k = true) → New (.lst (ns.map D.int)) M Q
  | _ => False
def aTupVals (a : ATE) : ATE := fun ax env M Q => a ax env M fun x M1 => match x with
  | .obj p => dicAt M1 p fun kvs => Q (.tup (kvs.map (·.2))) M1
  | _ => False
end

section
open PySem PySem.Spec L2 PyProof.Rows
def RepW (K : PySem.W.Frag) (d : D) (u : Value) : Prop := ∃ v, RelV v u ∧ ∀ H, Rep K H d v
def EntsOk (K : PySem.W.Frag) (w : World) : List DictEntry → List (Key × D) → Prop
  | [], [] => True
  | e :: es, (k, d) :: tab => keyIs k e.key = true ∧ e.hash = keyH w k ∧ RepW K d e.val ∧ EntsOk K w es tab
  | _, _ => False
structure WDct (K : PySem.W.Frag) (w : World) (a : Addr) (tab : List (Key × D)) : Prop where
  ents : ∃ es n, K.lookup a = some ⟨.type "dict", none, .dict es n, #[]⟩ ∧ EntsOk K w es.toList tab
  low : (a == sysModules) = false
theorem RepW.int {K : PySem.W.Frag} {i : Int} {t : Tok} : RepW K (.int i) (.int i t) := ⟨.int i, ⟨t, rfl⟩, fun _ => rfl⟩
theorem RepW.str {K : PySem.W.Frag} {x : Str} {t : Tok} : RepW K (.str x) (.str x t) := ⟨.str x, ⟨t, rfl⟩, fun _ => rfl⟩
theorem repW_all {K : PySem.W.Frag} : ∀ {ds : List D} {us : List Value}, Paired (RepW K) ds us → ∃ vs, Vals vs us ∧ ∀ H, RepL K H ds vs
  | _, _, .nil => ⟨[], .nil, fun _ => rfl⟩
  | _, _, .cons ⟨v, r, q⟩ h => by
    obtain ⟨vs, r2, q2⟩ := repW_all h
    exact ⟨v :: vs, .cons r r2, fun H => ⟨v, vs, rfl, q H, q2 H⟩⟩
theorem RepW.tup {K : PySem.W.Frag} {ds : List D} {a : Addr} {dd : Option Addr} {its : Array Value} {n : Nat} {sl : Array (Option Value)} (h : K.lookup a = some ⟨.type "tuple", dd, .seq its n, sl⟩) (z : its.size ≤ sizeLine) (q : Paired (RepW K) ds its.toList) : RepW K (.tup ds) (.ref a) := by
  obtain ⟨vs, r, q2⟩ := repW_all q
  exact ⟨.ref a, rfl, fun H => ⟨a, vs, rfl, .inr ⟨_, its, n, h, rfl, rfl, z, r⟩, q2 H⟩⟩
section
variable {P : Program} {w : World} {K : PySem.W.Frag}
end
section
variable {W : WX} {X : Cx} {K : PySem.W.Frag}
def aWGet (tab : List (Key × D)) (α : ATE) : ATE := fun ax env M Q => α ax env M fun y M1 => optAt (keyD y) fun k => Q ((valA tab k).getD .non) M1
def aWIx (tab : List (Key × D)) (α : ATE) : ATE := fun ax env M Q => α ax env M fun y M1 => optAt (keyD y) fun k => optAt (valA tab k) fun d => Q d M1
end
end

set_option maxHeartbeats 2000000
namespace ZL
open PySem PySem.Spec PyProof.Rows L2
open PySem.Sem (wp)
abbrev IsZip2 (h : Heap) (z TI TO T : Addr) (b : Bool) : Prop :=
  h.get? z = some { cls := .type "zip", dict := none, data := .fields #[rawInt T, .bool b, .bool false, .ref TI, .ref TO], slots := #[] }
section
variable {prog : Program} {w : World} {A : Around} {E : Value → Shared → Prop} {s : Shared}
theorem wpAny_loadIfAlive {a : Addr} {Q : Option Obj → Shared → Prop} (h : Q (s.heap.get? a) s) : wpAny (model prog w) A (loadIfAlive a) Q E s := fun Γ p hΓ => by
  unfold loadIfAlive
  rw [Sem.wp_loadIfAlive]
  exact wpAny_pure h Γ p hΓ
theorem notFree {z TI TO T : Addr} {b : Bool} {o : Obj} {Q : Bool → Shared → Prop} (hz : IsZip2 s.heap z TI TO T b) (hT : s.heap.get? T = some o)
    (hQ : ∀ h', IsZip2 h' z TI TO T true → Heap.SameBut z s.heap h' → Q false { s with heap := h' }) : wpAny (model prog w) A (Builtin.SmallTypes.ownedTupleIsFree (.ref z)) Q E s := by
  unfold Builtin.SmallTypes.ownedTupleIsFree
  refine wpAny_bind (wpAny_field hz rfl (x := rawInt T) rfl ?_)
  show wpAny _ _ (loadIfAlive ((T : Int)).toNat >>= _) _ _ _
  refine wpAny_bind (wpAny_loadIfAlive ?_)
  rw [Int.toNat_natCast, hT]
  show wpAny _ _ (field (.ref z) 1 >>= _) _ _ _
  refine wpAny_bind (wpAny_field hz rfl (x := .bool b) rfl ?_)
  cases b with
  | true =>
    have e : (Value.bool true != Value.bool true) = false := by decide
    rw [e]
    show wpAny _ _ (pure false) _ _ _
    refine wpAny_pure (hQ s.heap hz ?_)
    exact ⟨rfl, fun _ _ => rfl⟩
  | false =>
    have e : (Value.bool false != Value.bool true) = true := by decide
    rw [e]
    show wpAny _ _ (setField (.ref z) 1 (.bool true) >>= _) _ _ _
    refine wpAny_bind (wpAny_setField_rec hz (by simp) fun h₁ hz₁ hs₁ => ?_)
    exact wpAny_pure (hQ h₁ hz₁ hs₁)
theorem zipT_next_more {z TI TO i1 i2 l1 l2 T : Addr} {k1 k2 : Nat} {o : Obj} {bo : Bool} {xs ys : Array Value} {x y : Value} {Q : Value → Shared → Prop} (D : ZipApart z TI TO i1 i2 l1 l2)
    (hz : IsZip2 s.heap z TI TO T bo) (hT : s.heap.get? T = some o) (hTI : IsPair s.heap TI (.ref i1) (.ref i2))
    (h1 : s.heap.IsTupleIter i1 l1 k1) (h2 : s.heap.IsTupleIter i2 l2 k2) (hl1 : s.heap.IsTuple l1 xs) (hl2 : s.heap.IsTuple l2 ys) (hx : xs[k1]? = some x) (hy : ys[k2]? = some y)
    (hQ : ∀ h', IsZip2 h' z TI TO T true → h'.IsTupleIter i1 l1 (k1 + 1) → h'.IsTupleIter i2 l2 (k2 + 1) → IsPair h' s.heap.objs.size x y → h'.objs.size = s.heap.objs.size + 1 →
      (∀ c o, c ≠ z → c ≠ i1 → c ≠ i2 → s.heap.get? c = some o → h'.get? c = some o) → Q (.ref s.heap.objs.size) { s with heap := h' }) :
    wpAny (model prog w) A (Builtin.«zip.__next__» ⟨[.ref z], []⟩) (fun fin s' => ∃ v, fin = .done (.ret v) ∧ Q v s') E s := by
  show wpAny _ _ (field (.ref z) 2 >>= _) _ _ _
  refine wpAny_bind (wpAny_field hz rfl (x := .bool false) rfl ?_)
  show wpAny _ _ (field (.ref z) 3 >>= _) _ _ _
  refine wpAny_bind (wpAny_field hz rfl (x := .ref TI) rfl ?_)
  refine wpAny_bind (wpAny_seqItems hTI rfl ?_)
  show wpAny _ _ (Builtin.SmallTypes.ownedTupleIsFree (.ref z) >>= _) _ _ _
  refine wpAny_bind (notFree hz hT fun h₁ hz₁ hs₁ => ?_)
  simp only [Bool.false_eq_true, if_false]
  refine wpAny_bind ?_
  simp only [← Array.forIn_toList, List.forIn_cons, List.forIn_nil]
  refine wpAny_bind (wpAny_bind (wpAny_holding ?_))
  show wpAny _ _ (Builtin.SmallTypes.nextOf (.ref i1) >>= _) _ _ _
  refine wpAny_bind (RZ.nextOf_tuple_item (h1.extBut hs₁.extBut D.i1z) (hl1.extBut hs₁.extBut D.l1z) hx fun h₂ h1₂ hs₂ => wpAny_pure (wpAny_pure ?_))
  refine wpAny_bind (wpAny_bind (wpAny_holding ?_))
  show wpAny _ _ (Builtin.SmallTypes.nextOf (.ref i2) >>= _) _ _ _
  refine wpAny_bind (RZ.nextOf_tuple_item ((h2.extBut hs₁.extBut D.i2z).extBut hs₂.extBut D.i12.symm) ((hl2.extBut hs₁.extBut D.l2z).extBut hs₂.extBut D.l2i1) hy fun h₃ h2₃ hs₃ => wpAny_pure (wpAny_pure (wpAny_pure ?_)))
  show wpAny _ _ (newTuple [x, y] >>= _) _ _ _
  refine wpAny_bind (wpAny_newTuple (wpAny_pure ⟨_, rfl, ?_⟩))
  have hsz : h₃.objs.size = s.heap.objs.size := by rw [hs₃.1, hs₂.1, hs₁.1]
  have up : ∀ c o, c ≠ z → c ≠ i1 → c ≠ i2 → s.heap.get? c = some o → h₃.get? c = some o := fun c o c1 c3 c4 e => hs₃.extBut _ _ c4 (hs₂.extBut _ _ c3 (hs₁.extBut _ _ c1 e))
  have hz₃ : IsZip2 h₃ z TI TO T true := hs₃.extBut _ _ D.i2z.symm (hs₂.extBut _ _ D.i1z.symm hz₁)
  show Q (.ref h₃.objs.size) _
  have q := hQ (h₃.push { cls := .type "tuple", data := .seq #[x, y] }) (Heap.get?_push_of_some _ hz₃) (((h1₂.extBut hs₃.extBut D.i12).at fun o e => Heap.get?_push_of_some _ e)) (h2₃.at fun o e => Heap.get?_push_of_some _ e) (by rw [← hsz]; exact Heap.get?_push_size _ rfl) (by rw [Heap.size_push, hsz]) fun c o c1 c3 c4 e => Heap.get?_push_of_some _ (up c o c1 c3 c4 e)
  rw [hsz]
  exact q
theorem zipT_end_more {z TI TO i1 i2 l1 l2 T : Addr} {k1 : Nat} {o : Obj} {bo : Bool} {xs : Array Value} {Q : Fin → Shared → Prop} (hh : A.handled = none) (D : ZipApart z TI TO i1 i2 l1 l2)
    (hz : IsZip2 s.heap z TI TO T bo) (hT : s.heap.get? T = some o) (hTI : IsPair s.heap TI (.ref i1) (.ref i2))
    (h1 : s.heap.IsTupleIter i1 l1 k1) (hl1 : s.heap.IsTuple l1 xs) (hend : xs[k1]? = none)
    (hE : ∀ h' e, (∀ c o, c ≠ z → c ≠ i1 → s.heap.get? c = some o → h'.get? c = some o) → (∃ o, h'.get? e = some o ∧ o.cls = .type "StopIteration") → E (.ref e) { s with heap := h' }) :
    wpAny (model prog w) A (Builtin.«zip.__next__» ⟨[.ref z], []⟩) Q E s := by
  show wpAny _ _ (field (.ref z) 2 >>= _) _ _ _
  refine wpAny_bind (wpAny_field hz rfl (x := .bool false) rfl ?_)
  show wpAny _ _ (field (.ref z) 3 >>= _) _ _ _
  refine wpAny_bind (wpAny_field hz rfl (x := .ref TI) rfl ?_)
  refine wpAny_bind (wpAny_seqItems hTI rfl ?_)
  show wpAny _ _ (Builtin.SmallTypes.ownedTupleIsFree (.ref z) >>= _) _ _ _
  refine wpAny_bind (notFree hz hT fun h₁ hz₁ hs₁ => ?_)
  simp only [Bool.false_eq_true, if_false]
  refine wpAny_bind ?_
  simp only [← Array.forIn_toList, List.forIn_cons, List.forIn_nil]
  refine wpAny_bind (wpAny_bind (wpAny_holding ?_))
  show wpAny _ _ (Builtin.SmallTypes.nextOf (.ref i1) >>= _) _ _ _
  exact wpAny_bind (RZ.nextOf_tuple_end hh (h1.extBut hs₁.extBut D.i1z) (hl1.extBut hs₁.extBut D.l1z) hend fun h₂ e hs₂ he => hE h₂ e (fun c o c1 c3 x => hs₂ _ _ c3 (hs₁.extBut _ _ c1 x)) he)
theorem pyNext_more {z TI TO i1 i2 l1 l2 T : Addr} {k1 k2 : Nat} {o : Obj} {bo : Bool} {xs ys : Array Value} {x y : Value} {Q : Option Value → Shared → Prop} (D : ZipApart z TI TO i1 i2 l1 l2)
    (hz : IsZip2 s.heap z TI TO T bo) (hT : s.heap.get? T = some o) (hTI : IsPair s.heap TI (.ref i1) (.ref i2))
    (h1 : s.heap.IsTupleIter i1 l1 k1) (h2 : s.heap.IsTupleIter i2 l2 k2) (hl1 : s.heap.IsTuple l1 xs) (hl2 : s.heap.IsTuple l2 ys) (hx : xs[k1]? = some x) (hy : ys[k2]? = some y)
    (hQ : ∀ h', IsZip2 h' z TI TO T true → h'.IsTupleIter i1 l1 (k1 + 1) → h'.IsTupleIter i2 l2 (k2 + 1) → IsPair h' s.heap.objs.size x y → h'.objs.size = s.heap.objs.size + 1 →
      (∀ c o, c ≠ z → c ≠ i1 → c ≠ i2 → s.heap.get? c = some o → h'.get? c = some o) → Q (some (.ref s.heap.objs.size)) { s with heap := h' }) :
    wpAny (model prog w) A (pyNext (.ref z)) Q E s := by
  have hTy : s.TypeIs (.ref z) "zip" := ⟨_, hz, rfl⟩
  unfold pyNext
  exact wpAny_bind (wpAny_attempt (wpAny_callSpecial?_slot (name := Str.ofString "__next__") hTy F.slot_zip_next
    (wpAny_call_entry F.slot_zip_next hTy F.entry_zip_next
      (zipT_next_more D hz hT hTI h1 h2 hl1 hl2 hx hy fun h' a1 a3 a4 a5 a6 a7 => wpAny_pure (hQ h' a1 a3 a4 a5 a6 a7)) (F.args_zip_next_1 _))))
theorem pyNext_end {z TI TO i1 i2 l1 l2 T : Addr} {k1 : Nat} {o : Obj} {bo : Bool} {xs : Array Value} {Q : Option Value → Shared → Prop} (hh : A.handled = none) (D : ZipApart z TI TO i1 i2 l1 l2)
    (hz : IsZip2 s.heap z TI TO T bo) (hT : s.heap.get? T = some o) (hTI : IsPair s.heap TI (.ref i1) (.ref i2))
    (h1 : s.heap.IsTupleIter i1 l1 k1) (hl1 : s.heap.IsTuple l1 xs) (hend : xs[k1]? = none)
    (hQ : ∀ h', (∀ c o, c ≠ z → c ≠ i1 → s.heap.get? c = some o → h'.get? c = some o) → Q none { s with heap := h' }) : wpAny (model prog w) A (pyNext (.ref z)) Q E s := by
  have hTy : s.TypeIs (.ref z) "zip" := ⟨_, hz, rfl⟩
  unfold pyNext
  refine wpAny_bind (wpAny_attempt (wpAny_callSpecial?_slot (name := Str.ofString "__next__") hTy F.slot_zip_next
    (wpAny_call_entry F.slot_zip_next hTy F.entry_zip_next (zipT_end_more hh D hz hT hTI h1 hl1 hend fun h' e hk he => ?_) (F.args_zip_next_1 _))))
  obtain ⟨o, ho, hc⟩ := he
  refine wpAny_bind (wpAny_isInstance (T := "StopIteration") (b := true) ⟨o, ho, hc⟩ isSubtype_stop ?_)
  exact wpAny_pure (hQ _ hk)
end
end ZL
namespace ZL
open PySem PySem.Spec PyProof.Rows L2
open PySem.Sem (wp)
inductive Laid : Hp → List (V × V) → List V → Hp → Prop where
  | nil {G : Hp} : Laid G [] [] G
  | cons {G G' : Hp} {T : Addr} {x y : V} {r : List (V × V)} {vs : List V} (h : G T = none) (l : Laid (upd G T (.tup [x, y])) r vs G') : Laid G ((x, y) :: r) (.ref T :: vs) G'
theorem Laid.snoc {G G' : Hp} {r : List (V × V)} {vs : List V} {T : Addr} {x y : V} (l : Laid G r vs G') (h : G' T = none) : Laid G (r ++ [(x, y)]) (vs ++ [.ref T]) (upd G' T (.tup [x, y])) := by
  induction l with
  | nil => exact .cons h .nil
  | cons h1 l ih => exact .cons h1 (ih h)
theorem upd_comm {H : Hp} {a b : Addr} {x y : HO} (h : a ≠ b) : upd (upd H a x) b y = upd (upd H b y) a x := by
  funext c
  by_cases ca : c = a
  · subst ca; rw [upd_ne h, upd_same, upd_same]
  · by_cases cb : c = b
    · subst cb; rw [upd_same, upd_ne ca, upd_same]
    · rw [upd_ne cb, upd_ne ca, upd_ne ca, upd_ne cb]
theorem upd_upd {H : Hp} {a : Addr} {x y : HO} : upd (upd H a x) a y = upd H a y := by
  funext c
  by_cases ca : c = a
  · subst ca; rw [upd_same, upd_same]
  · rw [upd_ne ca, upd_ne ca, upd_ne ca]
def Zst (h : Heap) (H : Hp) (z TI TO i1 i2 a b : Addr) (i : Nat) : Prop :=
  ((i = 0 ∧ IsZip h z TI TO .none ∧ ∃ x y, IsPair h TO x y) ∨ (0 < i ∧ ∃ T bo t o, IsZip2 h z TI TO T bo ∧ H T = some (.tup t) ∧ h.get? TO = some o)) ∧ IsPair h TI (.ref i1) (.ref i2) ∧ h.IsTupleIter i1 a i ∧ h.IsTupleIter i2 b i
section
variable {X : Cx} {pins : List (Addr × Obj)} {σ : L2.St}
theorem loop {A : Around} {z TI TO i1 i2 a b S : Addr} {res : Value} {R : Result → Shared → Prop} (hh : A.handled = none) (D : ZipApart z TI TO i1 i2 a b) {xs ys : List V} (hl : xs.length = ys.length) (hb : xs.length ≤ 1000) {G0 : Hp} (hG0 : SqT X.K G0 a xs ∧ SqT X.K G0 b ys)
    (hR : ∀ s' acc G, Laid G0 (xs.zip ys) acc G → G S = none → Inv X pins σ (upd G S (.lst acc)) s' → R (.ok (.ret res)) s') :
    ∀ (k i : Nat) (s : Shared) (G : Hp) (acc : List V), xs.length - i = k → i ≤ xs.length → Inv X pins σ (upd G S (.lst acc)) s → (∀ c ∈ [z, TI, TO, i1, i2], FpOk X pins (upd G S (.lst acc)) c) → Zst s.heap G z TI TO i1 i2 a b i →
      SqT X.K G a xs → SqT X.K G b ys → G S = none → acc.length = i → Laid G0 ((xs.zip ys).take i) acc G →
      codeAny (model X.prog X.w) A (.builtin "list.extend.loop" ⟨[.ref S, .ref z, res], []⟩) R s := by
  intro k
  induction k with
  | zero =>
    intro i s G acc hk hi I hf st qa qb hS hacc la
    have hin : i = xs.length := by omega
    obtain ⟨st0, hTI, h1, h2⟩ := st
    have sub : ∀ l vs, SqT X.K G l vs → SqT X.K (upd G S (.lst acc)) l vs := fun l vs q => AL.Kp.sqT (fun c u nf e => by rw [upd_ne (ne_of_none e hS)]; exact e) q
    obtain ⟨its, rv, p, _⟩ := I.tuple (sub a xs qa)
    obtain ⟨its2, rv2, p2, _⟩ := I.tuple (sub b ys qb)
    have l1 := rv.length
    have full : (xs.zip ys).take i = xs.zip ys := List.take_of_length_le (by rw [List.length_zip]; omega)
    rw [full] at la
    have he : its.toArray[i]? = none := by simp; omega
    refine codeAny_builtin F.entry_extend_loop ?_
    rw [Around.under_plainId F.plain_extend_loop _]
    show wpAny _ A.in1 (pyNext (.ref z) >>= _) _ _ s
    refine wpAny_bind ?_
    rcases st0 with ⟨_, hz, x0, y0, hTO⟩ | ⟨_, T, bo, t, oO, hz, hT, hO⟩
    · exact RZ.pyNext_zipT_end hh D hz hTI hTO h1 h2 p p2 (.inl he) fun h' hk => wpAny_pure (hR _ acc G la hS (I.turnedL (t' := s.toks) (ch := [z, TI, TO, i1, i2]) (fun c o hb q =>
        hk c o (fun q' => hb (by simp [q'])) (fun q' => hb (by simp [q'])) (fun q' => hb (by simp [q'])) (fun q' => hb (by simp [q'])) q) hf))
    · have hT2 : (upd G S (.lst acc)) T = some (.tup t) := by rw [upd_ne (ne_of_none hT hS)]; exact hT
      obtain ⟨_, _, _, oT, hoT, _⟩ := (show ObjOk X.prog X.w _ s.heap T (.tup t) from I.hok T _ hT2)
      exact pyNext_end hh D hz hoT hTI h1 p he fun h' hk => wpAny_pure (hR _ acc G la hS (I.turnedL (t' := s.toks) (ch := [z, TI, TO, i1, i2]) (fun c o hb q =>
        hk c o (fun q' => hb (by simp [q'])) (fun q' => hb (by simp [q'])) q) hf))
  | succ k ih =>
    intro i s G acc hk hi I hf st qa qb hS hacc la
    have hlt : i < xs.length := by omega
    obtain ⟨st0, hTI, h1, h2⟩ := st
    have sub : ∀ l vs, SqT X.K G l vs → SqT X.K (upd G S (.lst acc)) l vs := fun l vs q => AL.Kp.sqT (fun c u nf e => by rw [upd_ne (ne_of_none e hS)]; exact e) q
    obtain ⟨its, rv, p, _⟩ := I.tuple (sub a xs qa)
    obtain ⟨its2, rv2, p2, _⟩ := I.tuple (sub b ys qb)
    have hx : xs[i]? = some xs[i] := List.getElem?_eq_getElem hlt
    have hlt2 : i < ys.length := by omega
    have hy : ys[i]? = some ys[i] := List.getElem?_eq_getElem hlt2
    obtain ⟨u, hu, ru⟩ := rv.get hx
    obtain ⟨u2, hu2, ru2⟩ := rv2.get hy
    have hSs : S < s.heap.objs.size := by
      obtain ⟨_, its3, n3, _, e3⟩ := (show ObjOk X.prog X.w _ s.heap S (.lst acc) from I.hok S _ upd_same)
      exact Heap.lt_size e3
    have hSf : S ∉ [z, TI, TO, i1, i2] := fun m => by
      have q := (hf S m).1
      rw [upd_same] at q
      cases q
    have hsub : ∀ {c}, c ∈ [z, TI, TO, i1, i2] → c < s.heap.objs.size := fun {c} hc => by
      have e' : c = z ∨ c = TI ∨ c = TO ∨ c = i1 ∨ c = i2 := by simpa using hc
      have hz' : z < s.heap.objs.size := by rcases st0 with ⟨_, hz, _⟩ | ⟨_, T, bo, t, oO, hz, _⟩ <;> exact Heap.lt_size hz
      rcases e' with q | q | q | q | q
      · rw [q]; exact hz'
      · rw [q]; exact Heap.lt_size hTI
      · rw [q]
        rcases st0 with ⟨_, hz, x0, y0, hTO⟩ | ⟨_, T, bo, t, oO, hz, hT, hO⟩
        · exact Heap.lt_size hTO
        · exact Heap.lt_size hO
      · rw [q]; obtain ⟨_, e1, _⟩ := h1; exact Heap.lt_size e1
      · rw [q]; obtain ⟨_, e2, _⟩ := h2; exact Heap.lt_size e2
    have size2 : ∀ {c}, c ∈ [z, TI, TO, i1, i2] → c ≠ S := fun {c} hc e => hSf (e ▸ hc)
    refine codeAny_builtin F.entry_extend_loop ?_
    rw [Around.under_plainId F.plain_extend_loop _]
    show wpAny _ A.in1 (pyNext (.ref z) >>= _) _ _ s
    refine wpAny_bind ?_
    -- what comes behind the item
    have hGT : G s.heap.objs.size = none := by
      have q := I.hok.fresh (Nat.le_refl s.heap.objs.size)
      rw [upd_ne (Nat.ne_of_gt hSs)] at q
      exact q
    have fin : ∀ (h' : Heap), h'.IsTupleIter i1 a (i + 1) → h'.IsTupleIter i2 b (i + 1) → IsPair h' s.heap.objs.size u u2 →
        (∀ c o, c ∉ [z, TI, TO, i1, i2] → s.heap.get? c = some o → h'.get? c = some o) → IsPair h' TI (.ref i1) (.ref i2) → (∃ o, h'.get? TO = some o) → (∃ T bo, IsZip2 h' z TI TO T bo ∧ (T = s.heap.objs.size ∨ ∃ t, G T = some (.tup t))) →
        ∃ av c, h'.get? S = some { cls := .type "list", dict := none, data := .seq av c, slots := #[] } ∧ av.size ≤ 1000 ∧
        codeAny (model X.prog X.w) A (.builtin "list.extend.loop" ⟨[.ref S, .ref z, res], []⟩) R { s with heap := h'.update S (Obj.mapSeq (·.push (.ref s.heap.objs.size))) } := by
      intro h' n1 n2 hT hk hTI' ⟨oO, hO⟩ ⟨T, bo, hz, hTT⟩
      have hTS : s.heap.objs.size ≠ S := Nat.ne_of_gt hSs
      have new : ObjOk X.prog X.w (upd (upd G S (.lst acc)) s.heap.objs.size (.tup [xs[i], ys[i]])) h' s.heap.objs.size (.tup [xs[i], ys[i]]) :=
        ⟨by show 2 ≤ sizeLine; decide, [u, u2], .cons ru (.cons ru2 .nil), ⟨_, hT, rfl, _, rfl⟩⟩
      have I1 : Inv X pins σ (upd (upd G S (.lst acc)) s.heap.objs.size (.tup [xs[i], ys[i]])) { s with heap := h' } :=
        I.turnedNew (t' := s.toks) (ch := [z, TI, TO, i1, i2]) hk hf (Nat.le_refl _) new
      rw [upd_comm hTS.symm] at I1
      obtain ⟨_, its3, n3, r3, e3⟩ := (show ObjOk X.prog X.w _ h' S (.lst acc) from I1.hok S _ upd_same)
      have len3 := r3.length
      refine ⟨_, _, e3, by rw [List.size_toArray]; omega, ?_⟩
      obtain ⟨n4, e4⟩ : ∃ n4, (h'.update S (Obj.mapSeq (·.push (.ref s.heap.objs.size)))).get? S = some { cls := .type "list", dict := none, data := .seq (its3.toArray.push (.ref s.heap.objs.size)) n4, slots := #[] } := ⟨_, Heap.get?_update_self (Obj.mapSeq (·.push (.ref s.heap.objs.size))) e3 rfl⟩
      have oth : ∀ c o, c ≠ S → h'.get? c = some o → (h'.update S (Obj.mapSeq (·.push (.ref s.heap.objs.size)))).get? c = some o := fun c o hc e => (Heap.get?_update_other _ _ (Ne.symm hc)).trans e
      have I2 : Inv X pins σ (upd (upd G s.heap.objs.size (.tup [xs[i], ys[i]])) S (.lst (acc ++ [.ref s.heap.objs.size]))) { s with heap := h'.update S (Obj.mapSeq (·.push (.ref s.heap.objs.size))) } := by
        have z := I1.write (x := S) (e := S) (o := .lst (acc ++ [.ref s.heap.objs.size])) (h' := h'.update S (Obj.mapSeq (·.push (.ref s.heap.objs.size)))) (t' := s.toks) (by rw [upd_same]; trivial) (.inl rfl) (fun c o hc e => oth c o hc e) ⟨_, e4⟩
          ⟨by rw [List.length_append, List.length_singleton]; have : sizeLine = 16777216 := rfl; omega, its3 ++ [.ref s.heap.objs.size], n4, r3.append (.cons (show RelV (.ref s.heap.objs.size) (.ref s.heap.objs.size) from rfl) .nil), by rw [e4]; simp⟩
        rw [upd_upd] at z
        exact z
      have fz : ∀ c ∈ [z, TI, TO, i1, i2], c ≠ S ∧ c ≠ s.heap.objs.size := fun c hc => ⟨size2 hc, Nat.ne_of_lt (hsub hc)⟩
      have keepT : ∀ l vs, SqT X.K G l vs → SqT X.K (upd G s.heap.objs.size (.tup [xs[i], ys[i]])) l vs := fun l vs q => AL.Kp.sqT (fun c u nf e => by rw [upd_ne (ne_of_none e hGT)]; exact e) q
      refine ih (i + 1) _ (upd G s.heap.objs.size (.tup [xs[i], ys[i]])) (acc ++ [.ref s.heap.objs.size]) (by omega) hlt I2 (fun c hc => ?_) ⟨.inr ⟨Nat.succ_pos _, ?_⟩, ?_, ?_, ?_⟩ (keepT a xs qa) (keepT b ys qb) (by rw [upd_ne hTS.symm]; exact hS) (by rw [List.length_append, List.length_singleton, hacc]) ?_
      · obtain ⟨f1, f2⟩ := fz c hc
        refine ⟨?_, (hf c hc).2⟩
        have q := (hf c hc).1
        rw [upd_ne f1] at q
        rw [upd_ne f1, upd_ne f2]
        exact q
      · rcases hTT with rfl | ⟨t, hTt⟩
        · exact ⟨_, bo, [xs[i], ys[i]], oO, oth _ _ (fz z (by simp)).1 hz, upd_same, oth _ _ (fz TO (by simp)).1 hO⟩
        · exact ⟨T, bo, t, oO, oth _ _ (fz z (by simp)).1 hz, by rw [upd_ne (ne_of_none hTt hGT)]; exact hTt, oth _ _ (fz TO (by simp)).1 hO⟩
      · exact oth _ _ (fz TI (by simp)).1 hTI'
      · exact n1.at fun o e => oth _ _ (fz i1 (by simp)).1 e
      · exact n2.at fun o e => oth _ _ (fz i2 (by simp)).1 e
      · have e : (xs.zip ys).take (i + 1) = (xs.zip ys).take i ++ [(xs[i], ys[i])] := by
          rw [List.take_add_one]
          have : (xs.zip ys)[i]? = some (xs[i], ys[i]) := by
            rw [List.getElem?_zip_eq_some]
            exact ⟨hx, hy⟩
          rw [this]
          rfl
        rw [e]
        exact la.snoc hGT
    have big : ∀ n : Nat, n ≤ 1000 → n + 1 ≤ sizeLine := fun n h => by have : sizeLine = 16777216 := rfl; omega
    rcases st0 with ⟨_, hz, x0, y0, hTO⟩ | ⟨_, T, bo, t, oO, hz, hT, hO⟩
    · refine RZ.pyNext_zipT_item D hz hTI hTO h1 h2 p p2 (x := u) (y := u2) (by simpa using hu) (by simpa using hu2) fun h' z' TO' h1' h2' hT hsz hk => ?_
      obtain ⟨av, c, e, hav, q⟩ := fin h' h1' h2' hT (fun c o hb q => hk c o (fun q' => hb (by simp [q'])) (fun q' => hb (by simp [q'])) (fun q' => hb (by simp [q'])) (fun q' => hb (by simp [q'])) q) (hk _ _ D.TIz D.TITO D.TIi1 D.TIi2 hTI) ⟨_, TO'⟩ ⟨_, false, z', .inl rfl⟩
      show wpAny _ A.in1 (updateSeq S (·.push (.ref s.heap.objs.size)) >>= _) _ _ _
      refine wpAny_bind ?_
      exact wpAny_updateSeq e rfl (wpAny_pure ⟨plainId_quiet F.plain_extend_loop _, q⟩) (Nat.le_of_succ_le (big _ hav)) (by show (av.push _).size ≤ sizeLine + 1; rw [Array.size_push]; exact Nat.le_succ_of_le (big _ hav))
    · have hT2 : (upd G S (.lst acc)) T = some (.tup t) := by rw [upd_ne (ne_of_none hT hS)]; exact hT
      obtain ⟨_, _, _, oT, hoT, _⟩ := (show ObjOk X.prog X.w _ s.heap T (.tup t) from I.hok T _ hT2)
      refine pyNext_more D hz hoT hTI h1 h2 p p2 (x := u) (y := u2) (by simpa using hu) (by simpa using hu2) fun h' z' h1' h2' hT' hsz hk => ?_
      obtain ⟨av, c, e, hav, q⟩ := fin h' h1' h2' hT' (fun c o hb q => hk c o (fun q' => hb (by simp [q'])) (fun q' => hb (by simp [q'])) (fun q' => hb (by simp [q'])) q) (hk _ _ D.TIz D.TIi1 D.TIi2 hTI) ⟨_, hk _ _ D.TOz D.TOi1 D.TOi2 hO⟩ ⟨T, true, z', .inr ⟨t, hT⟩⟩
      show wpAny _ A.in1 (updateSeq S (·.push (.ref s.heap.objs.size)) >>= _) _ _ _
      refine wpAny_bind ?_
      exact wpAny_updateSeq e rfl (wpAny_pure ⟨plainId_quiet F.plain_extend_loop _, q⟩) (Nat.le_of_succ_le (big _ hav)) (by show (av.push _).size ≤ sizeLine + 1; rw [Array.size_push]; exact Nat.le_succ_of_le (big _ hav))
end
end ZL
namespace ZL
open PySem PySem.Spec PyProof.Rows L2
open PySem.Sem (wp)
section
variable {X : Cx} {pins : List (Addr × Obj)} {σ : L2.St} {H : Hp}
end
end ZL

section
variable {W : WX} {X : Cx} {K : PySem.W.Frag}
def aListZip (τ : ATA) : ATE := fun ax env M Q => τ ax env M fun xs M1 => match xs with
  | [.tup ds, .tup es] => ds.length = es.length ∧ ds.length ≤ 1000 ∧ New (.lst (zipD ds es)) M1 Q
  | _ => False
end
section
open PySem PySem.Spec L2 PyProof.Rows
section
variable {W : WX} {X : Cx} {K : PySem.W.Frag}
end
end

section
variable {K : PySem.W.Frag} {M M' : Sto} {H H' : Hp} {p : Addr} {kvs : List (Key × D)} {ws : List (Key × V)} {od : Obj}
end
section
variable {W : WX} {X : Cx} {K : PySem.W.Frag}
def keyB : Key → D
  | .inl i => .int i
  | .inr s => .str s
def aIDif (a : ATE) : ATI := fun ax env M R => a ax env M fun x M1 => match x with
  | .obj p => ∃ od ws kvs, M1 p = some (.dif od ws kvs) ∧ R (kvs.map fun kv => keyB kv.1) (fun M => M p = some (.dif od ws kvs)) M1
  | _ => False
def ρDGetF : AR2 := fun x y M Q => match x with
  | .obj p => ∃ od ws kvs, M p = some (.dif od ws kvs) ∧ optAt (keyD y) fun k => optAt (valA kvs k) fun d => Q d M
  | _ => False
end

section
variable {X : Cx} {W : WX} {K : PySem.W.Frag}
def ρIsB (neg : Bool) : AR2 := fun x y M Q => match x, y with
  | .bl a, .bl b => Q (.bl (if neg then !decide (a = b) else decide (a = b))) M
  | _, _ => False
def ρSortI : ARs := fun ds M Q => match ds with
  | [.obj p] => lstAt M p fun ds => ∃ ns : List Int, ds = ns.map D.int ∧ ∀ ys : List Int, ys.Perm ns → ys.Pairwise (· ≤ ·) → New (.lst (ys.map D.int)) M Q
  | _ => False
def aSortSetI (α : ATE) : ATE := fun ax env M Q => α ax env M fun x M1 => match x with
  | .obj p => lstAt M1 p fun ds => ∃ ns : List Int, ds = ns.map D.int ∧ ns.length < 64 ∧ ∀ zs : List Int, zs.Pairwise (· < ·) → (∀ k, k ∈ zs ↔ k ∈ ns) → New (.lst (zs.map D.int)) M1 Q
  | _ => False
end

section
variable {W : WX} {X : Cx} {K : PySem.W.Frag} {e o : Expr} {es : List Expr} {α β : ATE} {τ : ATA} {pos p apos cpos : Pos} {x : Str}
def aTailR (a : ATE) : ATE := fun ax env M Q => a ax env M fun x M1 => match x with
  | .tup ds => Q (.tup (ds.drop 1).reverse) M1
  | _ => False
def ρDivmod : ARs := fun ds M Q => match ds with
  | [.int i, .int j] => CDiv i j ∧ Q (.tup [.int (i / j), .int (i % j)]) M
  | _ => False
def ρStrI : ARs := fun ds M Q => match ds with
  | [.int i] => i.natAbs.log2 < 1920 ∧ Q (.str (toString i)) M
  | _ => False
def ρLenD : ARs := fun ds M Q => match ds with
  | [.obj p] => dicAt M p fun kvs => Q (.int kvs.length) M
  | _ => False
def aFmt (a : ATE) : ATE := fun ax env M Q => a ax env M fun x M1 => match x with
  | .str y => y.length ≤ sizeLine ∧ Q (.str y) M1
  | .int i => i.natAbs.log2 < 1920 ∧ Q (.str (toString i)) M1
  | _ => False
def aFs2 (a b : ATE) : ATE := fun ax env M Q => a ax env M fun x M1 => match x with
  | .str y => y.length ≤ sizeLine ∧ b ax env M1 fun x2 M2 => match x2 with
    | .str z => (y ++ z).length ≤ sizeLine ∧ Q (.str (y ++ z)) M2
    | _ => False
  | _ => False
end

open PySem PySem.Spec L2 RT
section
variable {W : WX} {X : Cx} {K : PySem.W.Frag} {e o tg : Expr} {es : List Expr} {α β : ATE} {τ : ATA} {pos p : Pos} {x : Str}
abbrev rowD (r : List Str) : D := .tup (r.map D.str)
def ρSortR : ARs := fun ds M Q => match ds with
  | [.obj p] => lstAt M p fun es => ∃ rows : List (List Str), es = rows.map rowD ∧ rows.head? = some [] ∧ ∀ rows' : List (List Str), rows'.Perm rows → rows'.Pairwise (fun x y => SR.lexS y x = false) → New (.lst (rows'.map rowD)) M Q
  | _ => False
def ρSortTS : ARs := fun ds M Q => match ds with
  | [.tup es] => ∃ xs : List Str, es = xs.map D.str ∧ ∀ ys : List Str, ys.Perm xs → New (.lst (ys.map D.str)) M Q
  | _ => False
def aIRevT (a : ATE) : ATI := fun ax env M R => a ax env M fun x M1 => match x with
  | .tup ds => R ds.reverse (fun _ => True) M1
  | _ => False
end

section
variable {W : WX} {X : Cx} {K : PySem.W.Frag} {tg : Expr} {pos : Pos} {x : Str}
end

section
variable {W : WX} {X : Cx} {K : PySem.W.Frag} {tg : Expr}
def aIRevR1 (a : ATE) : ATI := fun ax env M R => a ax env M fun x M1 => match x with
  | .int j => 0 ≤ j ∧ j < 2 ^ 62 ∧ R (rngD 0 j.toNat).reverse (fun _ => True) M1
  | _ => False
end
section
variable {W : WX} {X : Cx} {K : PySem.W.Frag} {o e : Expr} {es : List Expr} {α : ATE} {τ : ATA} {apos cpos : Pos}
def ρIndexI : Addr → List D → List D → Sto → (D → Sto → Prop) → Prop := fun _ ds xs M Q => match xs with
  | [.int n] => ∃ (ns : List Int) (j : Nat), ds = ns.map D.int ∧ ns[j]? = some n ∧ (∀ (m : Nat) (z : Int), m < j → ns[m]? = some z → z ≠ n) ∧ Q (.int (j : Nat)) M
  | _ => False
end

section
variable {W : WX} {X : Cx} {K : PySem.W.Frag} {tg o e value : Expr} {es : List Expr} {α β : ATE} {τ : ATA} {k n : Nat} {f C : Addr} {fd : FuncData} {ps : List Str} {A : ASp} {x m fn : Str} {p pos apos pos' : Pos}
def flV : D → Option V
  | .non => some .non
  | .bl b => some (.bl b)
  | .int i => some (.int i)
  | .str s => some (.str s)
  | .obj a => some (.ref a)
  | _ => none
def aFld (C : Addr) (f : Str) (a : ATE) : ATE := fun ax env M Q => a ax env M fun x M1 => match x with
  | .obj p => ∃ dx fs d v, M1 p = some (.raw (.ins C dx fs)) ∧ fs.lookup f = some v ∧ flV d = some v ∧ Q d M1
  | _ => False
def aSetF (C : Addr) (f : Str) (a b : ATE) : ATS := fun ax De env M => b ax env M fun y M1 => a ax env M1 fun x M2 => match x with
  | .obj p => ∃ dx fs v, M2 p = some (.raw (.ins C dx fs)) ∧ fs.length < 1000 ∧ flV y = some v ∧ De.nx env (up M2 p (.raw (.ins C dx (putF f v fs))))
  | _ => False
def aMeth (C : Addr) (m : Str) (n : Nat) (A : ASp) (a : ATE) (τ : ATA) : ATE := fun ax env M Q => a ax env M fun x M1 => match x with
  | .obj p => (∃ dx fs, M1 p = some (.raw (.ins C dx fs)) ∧ fs.lookup m = none) ∧ τ ax env M1 fun ds M2 => Wait n A (.obj p :: ds) M2 Q
  | _ => False
def aMake (C : Addr) (n : Nat) (A : ASp) (τ : ATA) : ATE := fun ax env M Q => τ ax env M fun ds M1 => ∀ x dx, M1 x = none → dx ≠ x → Wait n A (.obj x :: ds) (up M1 x (.raw (.ins C dx []))) fun d M2 => d = .non ∧ Q (.obj x) M2
end
section
variable {W : WX} {X : Cx} {K : PySem.W.Frag} {τ : ATA}
def aPar (i j : Nat) (τ : ATA) : ATS := fun ax De env M => τ ax env M fun ds M1 => match ds with
  | [x, y] => De.nx ((env.set i (some x)).set j (some y)) M1
  | _ => False
end

namespace GU
open PySem PySem.Spec PyProof.Rows L2
section
variable {X : Cx} {k : Nat} {f : Addr} {fd : FuncData} {ps : List Str} {sp : Sp} {x : Str} {p pos : Pos}
end
end GU
section
variable {W : WX} {X : Cx} {K : PySem.W.Frag}
def ρDictC : ARs := fun ds M Q => match ds with
  | [.obj p] => dicAt M p fun kvs => ∀ a, M a = none → Q (.obj a) (up M a (.dic kvs))
  | _ => False
end
section
variable {W : WX} {X : Cx} {k n : Nat} {f : Addr} {fd : FuncData} {ps : List Str} {A : ASp} {x : Str} {p pos : Pos}
end

section
variable {W : WX} {X : Cx} {K : PySem.W.Frag}
theorem Tr.tab {M : Sto} {H H2 : Hp} {P : Addr} (ab : Abs K M H) (hM : M P = none) (hT : GxR.TabG H P) (t : GxR.Tabbed P H H2) : Tr K M H M H2 := by
  obtain ⟨ps, e, _⟩ := hT
  obtain ⟨⟨qs, e2, ok2⟩, k⟩ := t
  have kp : Kp H H2 := fun a o f ea => by
    have n : a ≠ P := fun z => by
      subst z
      rw [e] at ea
      cases ea
      exact f
    rw [k a n]
    exact ea
  refine ⟨fun a mo m => ?_, fun b o eb n => ?_⟩
  · have n : a ≠ P := fun z => by
      subst z
      rw [hM] at m
      cases m
    exact (ab a mo m).mono (fun u q => by rw [k a n]; exact q) kp
  · by_cases hb : b = P
    · subst hb
      rw [e] at eb
      cases eb
      exact ⟨_, e2, .inr ⟨_, _, rfl, rfl, ok2⟩, n⟩
    · exact ⟨o, by rw [k b hb]; exact eb, .refl, n⟩
def anyY (b0 : Bool) (Q : Bool → Sto → Prop) (go : Sto → Prop) (y : D) (M : Sto) : Prop := match y with
  | .bl b => if b = b0 then Q b0 M else go M
  | _ => False
def aAnyGo (b0 : Bool) (chk : Sto → Prop) (i : Nat) (t : ATT) (e : ATE) (ax : AX) (env : AEnv) : List D → Sto → (Bool → Sto → Prop) → Prop
  | [], M, Q => chk M ∧ Q (!b0) M
  | d :: r, M, Q => chk M ∧ t ax (env.set i (some d)) M fun b M1 => if b = true then e ax (env.set i (some d)) M1 fun y M2 => anyY b0 Q (fun M2 => aAnyGo b0 chk i t e ax env r M2 Q) y M2 else aAnyGo b0 chk i t e ax env r M1 Q
def aAny (b0 : Bool) (ι : ATI) (i : Nat) (t : ATT) (e : ATE) : ATE := fun ax env M Q => ι ax env M fun items chk M1 => aAnyGo b0 chk i t e ax env items M1 fun b M2 => Q (.bl b) M2
def aAny2Go (b0 : Bool) (chk : Sto → Prop) (i j : Nat) (t : ATT) (e : ATE) (ax : AX) (env : AEnv) : List D → Sto → (Bool → Sto → Prop) → Prop
  | [], M, Q => chk M ∧ Q (!b0) M
  | .tup [d, c] :: r, M, Q => chk M ∧ t ax ((env.set i (some d)).set j (some c)) M fun b M1 => if b = true then e ax ((env.set i (some d)).set j (some c)) M1 fun y M2 => anyY b0 Q (fun M2 => aAny2Go b0 chk i j t e ax env r M2 Q) y M2 else aAny2Go b0 chk i j t e ax env r M1 Q
  | _ :: _, _, _ => False
def aAny2 (b0 : Bool) (ι : ATI) (i j : Nat) (t : ATT) (e : ATE) : ATE := fun ax env M Q => ι ax env M fun items chk M1 => i ≠ j ∧ aAny2Go b0 chk i j t e ax env items M1 fun b M2 => Q (.bl b) M2
def aTg (ι : ATI) (i : Nat) (t : ATT) (e : ATE) : ATE := fun ax env M Q => ι ax env M fun items chk M1 => items.length ≤ 1000000 ∧ aLcGo chk i t e ax env items [] M1 fun acc M2 => Q (.tup acc) M2
theorem s_tg {P : Addr} (hP : P ∈ tabs) {i : Nat} {ι : ATI} {t : ATT} {e : ATE} {σ : L2.St} {H : Hp} {Q : VK} (h : cE K W (aTg ι i t e) σ H Q) : GE.tTupX P (cI K W ι) (gName i) (cT K W t) (cE K W e) [i] σ H Q := by
  obtain ⟨ax, env, M, Qa, S, q, k⟩ := h
  refine ⟨ax, env, M, _, S, q, fun J items chk M1 H1 t1 sim q => ?_⟩
  obtain ⟨hlen, q⟩ := q
  obtain ⟨mP, tP⟩ := (S.next t1).tb P hP
  refine ⟨tP, fun H2 tb => ?_⟩
  have tt := Tr.tab t1.abs mP tP tb
  let Inv : Nat → List V → Hp → Prop := fun i' vs H' => ∃ M' acc, Tr K M1 H1 M' H' ∧ RepL K H' acc vs ∧ acc.length ≤ i' ∧ aLcGo chk i t e ax env (items.drop i') acc M' fun acc M2 => Qa (.tup acc) M2
  refine ⟨fun i' m vs H' => m = items.length - i' ∧ i' ≤ items.length ∧ Inv i' vs H', ⟨items.length, rfl, Nat.zero_le _, M1, [], tt, rfl, Nat.le_refl _, q⟩, ?_⟩
  rintro i' m vs H3 ⟨rfl, hle, M2, acc, t2, ra, hl, q2⟩
  have sl : items.length < sizeLine := Nat.lt_of_le_of_lt hlen (by decide)
  have la := ra.length
  cases hd : items.drop i' with
  | nil =>
    rw [hd] at q2
    refine .inl ⟨(sim i' M2 H3 t2 q2.1).2 (drop_end hd), by omega, fun p hp => ?_⟩
    exact k _ _ (.tup acc) M2 ((t1.trans t2).trans (Tr.newT t2.abs hp)) (rep_newT hp ra) q2.2
  | cons d r =>
    rw [hd] at q2
    obtain ⟨hi, hr, hlt⟩ := drop_at hd
    obtain ⟨go, yld⟩ := (sim i' M2 H3 t2 q2.1).1 d hi
    refine .inr ⟨go, fun x H4 y => ?_⟩
    obtain ⟨t3, r3⟩ := yld x H4 y
    have t13 := t1.trans (t2.trans t3)
    have S3 : Stt K W ax (env.set i (some d)) M2 ((wipe σ [i]).set i (some x)) H4 := by
      have rs := (S.next t13).rs.set (i := i) r3
      have e1 : (wipe σ [i]).set i (some x) = σ.set i (some x) := by
        show (σ.set i none).set i (some x) = σ.set i (some x)
        rw [List.set_set]
      rw [e1]
      exact S.at_ t13 rs
    show wipe ((wipe σ [i]).set i (some x)) [i] = wipe σ [i] ∧ _
    refine ⟨?_, ax, _, M2, _, S3, q2.2, fun b H5 M4 t4 q4 => ?_⟩
    · show ((σ.set i none).set i (some x)).set i none = σ.set i none
      rw [List.set_set, List.set_set]
    have t24 := t2.trans (t3.trans t4)
    have ra5 : RepL K H5 acc vs := t4.repL t3.abs (t3.repL t2.abs ra)
    cases b with
    | false => exact ⟨items.length - (i' + 1), by omega, rfl, hlt, M4, acc, t24, ra5, by omega, by rw [hr]; exact q4⟩
    | true =>
      refine ⟨ax, _, M4, _, S3.next t4, q4, fun v H6 dv M5 t5 r5 q5 => ?_⟩
      exact ⟨by omega, items.length - (i' + 1), by omega, rfl, hlt, M5, acc ++ [dv], t24.trans t5, (t5.repL t4.abs ra5).append (RepL.one r5), by rw [List.length_append, List.length_singleton]; omega, by rw [hr]; exact q5⟩
def aTg2 (ι : ATI) (i j : Nat) (t : ATT) (e : ATE) : ATE := fun ax env M Q => ι ax env M fun items chk M1 => i ≠ j ∧ items.length ≤ 1000000 ∧ aLc2Go chk i j t e ax env items [] M1 fun acc M2 => Q (.tup acc) M2
end

structure FunC (K : PySem.W.Frag) (x qual : Str) (st : Stmt) (f : Addr) (fd : FuncData) (c : Addr) : Prop where
  ex : ∃ (oc : Value) (od : Option Addr) (kV doc pm : Value) (an : Option Addr) (ct : Value) (osl : Array (Option Value)),
    fd = PySem.W.fnOf x qual (defArgs st) (defBody st) (defScope st) .none kV doc pm an (.ref c) ct ∧ K.lookup f = some ⟨oc, od, .func fd, osl⟩ ∧ PySem.W.codeIn K (.ref c) qual = true
  kp : PySem.W.keepIn K (.ref f) = true
section
variable {P : Program} {w : World} {K : PySem.W.Frag} {mg : Str → Option Value} {base : Heap}
theorem FunC.fn {x qual : Str} {st : Stmt} {f : Addr} {fd : FuncData} {c : Addr} (F : FunC K x qual st f fd c) : Fun K x qual st f fd := by
  obtain ⟨⟨oc, od, kV, doc, pm, an, ct, osl, e, l, h⟩, k⟩ := F
  exact ⟨⟨oc, od, kV, doc, pm, an, _, ct, osl, e, l, h⟩, k⟩
theorem func_mk {x qual : Str} {st : Stmt} {f c : Addr} {oc : Value} {od an : Option Addr} {osl : Array (Option Value)} {kV doc pm cdv ct : Value} (e : cdv = .ref c) (l : K.lookup f = some ⟨oc, od, .func (PySem.W.fnOf x qual (defArgs st) (defBody st) (defScope st) .none kV doc pm an cdv ct), osl⟩)
    (h : PySem.W.codeIn K cdv qual = true) (k : PySem.W.keepIn K (.ref f) = true) : FunC K x qual st f (PySem.W.fnOf x qual (defArgs st) (defBody st) (defScope st) .none kV doc pm an cdv ct) c := by
  subst e
  exact ⟨⟨oc, od, kV, doc, pm, an, ct, osl, rfl, l, h⟩, k⟩
theorem fn_absT {x qual : Str} {st : Stmt} {f c : Addr} {fd : FuncData} {N ps : List Str} {k n : Nat} {A : ASp} {a : ATS} (F : FunC K x qual st f fd c) (S : FnScope N ps (defScope st)) (hn : ps.length = n)
    (hbody : ∀ (A : Around) (outer : List Env) (s : Shared) (H : Hp) (E : XK), Room k (A.deeper (PyProof.Rows.envOfC qual (defScope st) s.heap.objs.size f (.ref c))) → ASs (cxOf CX0 P w K mg base N qual (defScope st) f (.ref c) A outer s H E).nox W0 (defBody st) a)
    (hp : ∀ ds M Q Xa, ds.length = n → A ds M Q Xa → a ax0 { nx := fun _ M => Q .non M, rt := Q } (startA N ds) M) : FnOk P w K mg base CX0 (k + 1) f fd ps (conc K n A) := by
  obtain ⟨oc, od, kV, doc, pm, an, ct, osl, rfl, lk, hcd⟩ := F.ex
  refine fn_of lk hcd S (fun vs H Q E h => ?_) fun Ar outer s H vs Q E hr h => ?_
  · obtain ⟨ds, M, Qa, Xa, e, _⟩ := h
    rw [e, hn]
  · obtain ⟨ds, M, Qa, Xa, e, r, ab, tb, q, k1, _⟩ := h
    refine ⟨_, (hbody Ar outer s H E hr).nox, ax0, startA N ds, M, { nx := fun _ M => Qa .non M, rt := Qa }, ⟨start_rep r, ab, XC.no, tb⟩, hp ds M Qa Xa (by rw [r.length]; exact e) q, ⟨fun σ' H' env' M' t rs q => k1 .non H' .non M' t rfl q, fun _ _ _ _ _ _ z => z.elim, fun _ _ _ _ _ _ z => z.elim, fun v H' d M' t r q => k1 v H' d M' t r q⟩⟩
end
section
variable {W : WX} {X : Cx} {c P : Addr} {elt iter tg : Expr} {ifs : List Expr} {scope : Scope} {p pos gpos px py pt : Pos} {ι : ATI} {t : ATT} {e : ATE} {k kk : Nat}
abbrev GPG (X : Cx) (k : Nat) (scope : Scope) (tg : Expr) (g : TG) : Prop := ∀ (A' : Around) (s : Shared) (H : Hp) (C : Addr) (cd : Value) (fp : List Addr) (pn : List (Addr × Obj)), Room k A' → A'.guards = X.A.guards → PG (GE.gcx X A' s H (genEnv scope (cloFrom X.env.cells scope.names []) C cd builtinsNs X.env) fp pn) tg g
abbrev GTs (X : Cx) (W : WX) (k : Nat) (scope : Scope) (ifs : List Expr) (t : ATT) : Prop := ∀ (A' : Around) (s : Shared) (H : Hp) (C : Addr) (cd : Value) (fp : List Addr) (pn : List (Addr × Obj)), Room k A' → A'.guards = X.A.guards → ATTs (GE.gcx X A' s H (genEnv scope (cloFrom X.env.cells scope.names []) C cd builtinsNs X.env) fp pn) W ifs t
abbrev GEl (X : Cx) (W : WX) (k : Nat) (scope : Scope) (elt : Expr) (e : ATE) : Prop := ∀ (A' : Around) (s : Shared) (H : Hp) (C : Addr) (cd : Value) (fp : List Addr) (pn : List (Addr × Obj)), Room k A' → A'.guards = X.A.guards → AE (GE.gcx X A' s H (genEnv scope (cloFrom X.env.cells scope.names []) C cd builtinsNs X.env) fp pn) W elt e
theorem ae_tupg {x : Str} (i : Nat) (hc : X.calm = true) (hr : Room (k + 1) X.A) (hg : Gl X "tuple") (hm : X.mg "tuple" = none) (TB : GxR.TabB X.base X.mg c P) (hcode : X.env.code = .ref c) (hP : P ∈ tabs) (hN : X.N.Nodup) (hi : AI X W (.Name x px) iter ι) (ok : BlkOk X.N X.env.scope scope [(x, i)]) (hnc : ∀ y ∈ scope.names, y.2 ≠ .cell)
    (hgt : GPG X k scope (.Name x px) (gName i)) (ht : GTs X W k scope ifs t) (he : GEl X W k scope elt e) (hco : scope.isCoroutine = false := by rfl) (hdot : scope.names.lookup (".0" : Str) = some NameKind.local := by rfl) (hs : ∀ v, genFold iter X.env v = pure v := by intro _; rfl)
    (hst : starEach [.GeneratorExp elt [⟨.Name x px, iter, ifs, 0⟩] scope gpos] X.env = (false, eval (.GeneratorExp elt [⟨.Name x px, iter, ifs, 0⟩] scope gpos) X.env) :: starEach [] X.env := by rfl) :
    AE X W (.Call (.Name "tuple" p) [.GeneratorExp elt [⟨.Name x px, iter, ifs, 0⟩] scope gpos] [] pos) (aTg ι i t e) := PE.imp (GE.pe_tupG (own := [(x, i)]) hc hr hg hm (by decide +kernel) TB hcode hco hdot ok hN hnc hi hgt ht he hs hst) fun _ _ _ h => s_tg hP h
end

def z_letter : Str := "letter"
def z_abcdefgh : Str := "abcdefgh"
def z_not : Str := "not"
def z_if : Str := "if"
def z_a : Str := "a"
def z_b : Str := "b"
def z_z : Str := "z"
def z_c7 : Str := "c7"
def z_a0 : Str := "a0"
def z_m9 : Str := "m9"
def z_c : Str := "c"
def z_d : Str := "d"
def z_e : Str := "e"
def z_f : Str := "f"
def z_g : Str := "g"
def z_h : Str := "h"
theorem zln : (z_letter = z_not) = False := eq_false (by decide +kernel)
theorem znl : (z_not = z_letter) = False := eq_false (by decide +kernel)
theorem zli : (z_letter = z_if) = False := eq_false (by decide +kernel)
theorem zil : (z_if = z_letter) = False := eq_false (by decide +kernel)
theorem zni : (z_not = z_if) = False := eq_false (by decide +kernel)
theorem zin : (z_if = z_not) = False := eq_false (by decide +kernel)

section
variable {ax : AX} {De : AEnds} {env : AEnv} {M : Sto} {Q : D → Sto → Prop} {R : Bool → Sto → Prop} {L : List D → Sto → Prop} {N : AEnv → Sto → Prop} {d x y : D} {o : Option D} {α β γ : ATE} {A B : ATT} {t u : ATS} {τ : ATA} {g : ATG} {ρ : AR2} {i : Nat}
theorem e_seq : aSeq t u ax De env M = t ax ⟨u ax De, De.rt, De.bk, De.ct⟩ env M := rfl
theorem e_next : aNext ax De env M = De.nx env M := rfl
theorem e_break : aBreak ax De env M = De.bk env M := rfl
theorem e_cont : aCont ax De env M = De.ct env M := rfl
theorem e_expr : aExpr α ax De env M = α ax env M (fun _ M1 => De.nx env M1) := rfl
theorem e_ret : aRet α ax De env M = α ax env M De.rt := rfl
theorem e_retN : aRetN ax De env M = De.rt .non M := rfl
theorem e_if : aIf A t u ax De env M = A ax env M (fun b M1 => if b = true then t ax De env M1 else u ax De env M1) := rfl
theorem e_never : aNever ax De env M = False := rfl
theorem e_asg : aAsg α g ax De env M = α ax env M (fun d M1 => g d ax env M1 De.nx) := rfl
theorem e_name : agName i d ax env M N = N (env.set i (some d)) M := rfl
theorem e_agtup {n : Nat} {gs : ATGs} {ds : List D} : agTup n gs (.tup ds) ax env M N = (ds.length = n ∧ gs ds ax env M N) := rfl
theorem e_agcons {gs : ATGs} {ds : List D} : agCons g gs (d :: ds) ax env M N = g d ax env M (fun env1 M1 => gs ds ax env1 M1 N) := rfl
theorem e_agnil : agNil [] ax env M N = N env M := rfl
theorem e_agsub : agSub α β d ax env M N = α ax env M (fun x M1 => β ax env M1 fun y M2 => match x, y with
  | .obj p, .int i => lstAt M2 p fun ds => optAt (ixN ds.length i) fun j => N env (up M2 p (.lst (ds.set j d)))
  | _, _ => False) := rfl
theorem e_aug : aAug ρ i α ax De env M = optAt env[i]? fun o => optAt o fun x => α ax env M fun y M1 => ρ x y M1 fun z M2 => De.nx (env.set i (some z)) M2 := rfl
theorem e_dput : aDPut α β γ ax De env M = γ ax env M fun z M1 => α ax env M1 fun x M2 => β ax env M2 fun y M3 => match x with
  | .obj p => dicAt M3 p fun kvs => optAt (keyD y) fun k => kvs.length < sizeLine ∧ De.nx env (up M3 p (.dic (putA kvs k z)))
  | _ => False := rfl
theorem e_var : aVar i ax env M Q = optAt env[i]? fun o => optAt o fun d => Q d M := rfl
theorem e_c : aC d ax env M Q = Q d M := rfl
theorem e_op : aOp ρ α β ax env M Q = α ax env M fun x M1 => β ax env M1 fun y M2 => ρ x y M2 Q := rfl
theorem e_some {α : Type} {x : α} {k : α → Prop} : optAt (some x) k = k x := rfl
theorem e_none {α : Type} {k : α → Prop} : optAt none k = False := rfl
theorem e_test : aTest α ax env M R = α ax env M fun x M1 => match x with
  | .bl b => R b M1
  | _ => False := rfl
theorem e_and : aAnd A B ax env M R = A ax env M fun c M1 => if c = true then B ax env M1 R else R false M1 := rfl
theorem e_or : aOr A B ax env M R = A ax env M fun c M1 => if c = true then R true M1 else B ax env M1 R := rfl
theorem e_not : aNot A ax env M R = A ax env M fun c M1 => R (!c) M1 := rfl
theorem e_yes : aYes ax env M R = R true M := rfl
theorem e_truth : aTruth α ax env M R = α ax env M fun x M1 => aTru1 x M1 fun b => R b M1 := by
  unfold aTruth
  congr 1
theorem e_tru_bl {b : Bool} {P : Bool → Prop} : aTru1 (.bl b) M P = P b := rfl
theorem e_tru_int {i : Int} {P : Bool → Prop} : aTru1 (.int i) M P = P (i != 0) := rfl
theorem e_tru_non {P : Bool → Prop} : aTru1 .non M P = P false := rfl
theorem e_tru_str {z : Str} {P : Bool → Prop} : aTru1 (.str z) M P = (z.length ≤ sizeLine ∧ P ((z.length : Int) != 0)) := rfl
theorem e_tru_tup {ds : List D} {P : Bool → Prop} : aTru1 (.tup ds) M P = P (!ds.isEmpty) := rfl
theorem e_tru_obj {p : Addr} {P : Bool → Prop} : aTru1 (.obj p) M P = (match M p with
    | some (.lst ds) => P (!ds.isEmpty)
    | some (.dic kvs) => P (!kvs.isEmpty)
    | _ => False) := rfl
theorem e_chain {ρ' : AR2} : aChain ρ ρ' α β γ ax env M Q = α ax env M fun x M1 => β ax env M1 fun y M2 => ρ x y M2 fun z M3 => match z with
  | .bl k => if k = true then γ ax env M3 fun w M4 => ρ' y w M4 Q else Q (.bl false) M3
  | _ => False := rfl
theorem e_orV : aOrV α β ax env M Q = α ax env M fun x M1 => aTru1 x M1 fun k => if k = true then Q x M1 else β ax env M1 Q := rfl
theorem e_andV : aAndV α β ax env M Q = α ax env M fun x M1 => aTru1 x M1 fun k => if k = true then β ax env M1 Q else Q x M1 := rfl
theorem e_notV : aNotV α ax env M Q = α ax env M fun x M1 => aTru1 x M1 fun k => Q (.bl (!k)) M1 := rfl
theorem e_ifE : aIfE A α β ax env M Q = A ax env M fun c M1 => if c = true then α ax env M1 Q else β ax env M1 Q := rfl
theorem e_neg : aNeg α ax env M Q = α ax env M fun x M1 => match x with
  | .int i => Q (.int (-i)) M1
  | _ => False := rfl
theorem e_nil : aNil ax env M L = L [] M := rfl
theorem e_cons : aCons α τ ax env M L = α ax env M fun x M1 => τ ax env M1 fun xs M2 => L (x :: xs) M2 := rfl
theorem e_tup : aTup τ ax env M Q = τ ax env M fun ds M1 => ds.length ≤ sizeLine ∧ Q (.tup ds) M1 := rfl
theorem e_lst : aLst τ ax env M Q = τ ax env M fun ds M1 => ds.length ≤ sizeLine ∧ New (.lst ds) M1 Q := rfl
theorem e_dnew : aDNew ax env M Q = New (.dic []) M Q := rfl
theorem e_call {n : Nat} {S : ASp} : aCall n S τ ax env M Q = τ ax env M fun ds M1 => Wait n S ds M1 Q := rfl
theorem e_cb {r : ARs} : aCB r τ ax env M Q = τ ax env M fun ds M1 => r ds M1 Q := rfl
theorem e_isi {T : String} : aIsi T α ax env M Q = α ax env M fun x M1 => optAt (kitB (tyN M1 x) T) fun b => Q (.bl b) M1 := rfl
theorem e_sl {l h : ATO} : aSl α l h ax env M Q = α ax env M fun x M1 => l ax env M1 fun lo M2 => h ax env M2 fun hi M3 => match x with
  | .tup ds => Q (.tup (cutL ds lo hi)) M3
  | .str z => z.length ≤ sizeLine ∧ Q (.str (cutS z lo hi)) M3
  | .obj p => lstAt M3 p fun ds => New (.lst (cutL ds lo hi)) M3 Q
  | _ => False := rfl
theorem e_onone {P : Option Int → Sto → Prop} : aONone ax env M P = P none M := rfl
theorem e_osome {P : Option Int → Sto → Prop} : aOSome α ax env M P = α ax env M fun x M1 => match x with
  | .int i => P (some i) M1
  | _ => False := rfl
theorem e_rev : aRev α ax env M Q = α ax env M fun x M1 => match x with
  | .obj p => lstAt M1 p fun ds => New (.lst ds.reverse) M1 Q
  | _ => False := rfl
theorem e_lm {r : Addr → List D → List D → Sto → (D → Sto → Prop) → Prop} : aLm r α τ ax env M Q = α ax env M fun x M1 => match x with
  | .obj p => lstAt M1 p fun _ => τ ax env M1 fun xs M2 => lstAt M2 p fun ds => r p ds xs M2 Q
  | _ => False := rfl
theorem e_append {p : Addr} {ds : List D} : ρAppend p ds [x] M Q = (ds.length < sizeLine ∧ Q .non (up M p (.lst (ds ++ [x])))) := rfl
theorem e_extend {p q : Addr} {ds : List D} : ρExtend p ds [.obj q] M Q = lstAt M q fun es => ds.length + es.length ≤ sizeLine ∧ Q .non (up M p (.lst (ds ++ es))) := rfl
theorem e_pop : aPop α ax env M Q = α ax env M fun x M1 => match x with
  | .obj p => lstAt M1 p fun ds => optAt ds.getLast? fun d => Q d (up M1 p (.lst ds.dropLast))
  | _ => False := rfl
theorem e_join : aJoin α β ax env M Q = α ax env M fun x M1 => match x with
  | .str z => β ax env M1 fun y M2 => optAt (strsM M2 y) fun xs => (xs.map (·.length)).sum + xs.length * z.length ≤ 16777216 ∧ Q (.str (Txt.join z xs)) M2
  | _ => False := rfl
theorem e_dget2 : aDGet2 α β γ ax env M Q = α ax env M fun x M1 => match x with
  | .obj p => dicAt M1 p fun _ => β ax env M1 fun y M2 => γ ax env M2 fun z M3 => dicAt M3 p fun kvs => optAt (keyD y) fun k => Q ((valA kvs k).getD z) M3
  | _ => False := rfl
theorem e_sortSet : aSortSet α ax env M Q = α ax env M fun x M1 => match x with
  | .obj p => lstAt M1 p fun ds => optAt (strsOf ds) fun xs => xs.length ≤ 4000 ∧ ∀ ys : List Str, ys.Nodup → (∀ k, k ∈ ys ↔ k ∈ xs) → PyProof.Rows.sortedS ys = true → New (.lst (ys.map D.str)) M1 Q
  | _ => False := rfl
theorem e_sortS {p : Addr} : ρSortS [.obj p] M Q = lstAt M p fun ds => optAt (strsOf ds) fun xs => xs.length < 64 ∧ ∀ ys : List Str, ys.Perm xs → PyProof.Rows.sortedS ys = true → New (.lst (ys.map D.str)) M Q := rfl
theorem e_setd : aSetd α β γ ax env M Q = α ax env M fun x M1 => match x with
  | .obj p => dicAt M1 p fun _ => β ax env M1 fun y M2 => γ ax env M2 fun z M3 => dicAt M3 p fun kvs => optAt (keyD y) fun k => kvs.length < sizeLine ∧ match valA kvs k with
    | some v => Q v M3
    | none => Q z (up M3 p (.dic (putA kvs k z)))
  | _ => False := rfl
theorem e_maxI {p : Addr} : ρMaxI [.obj p] M Q = lstAt M p fun ds => optAt (intsOf ds) fun xs => 0 < xs.length ∧ ∀ m, m ∈ xs → (∀ y, y ∈ xs → y ≤ m) → Q (.int m) M := rfl
theorem e_disp {prs : List (Str × ATE)} : aDisp prs ax env M Q = ∀ p, M p = none → aPairs prs ax env (up M p (.dic [])) fun kvs M2 => M2 p = some (.dic []) ∧ kvs.length ≤ 15 ∧ Q (.obj p) (up M2 p (.dic (mergeA [] kvs))) := rfl
theorem e_pairN {P : List (Key × D) → Sto → Prop} : aPairs [] ax env M P = P [] M := rfl
theorem e_pairC {P : List (Key × D) → Sto → Prop} {s : Str} {r : List (Str × ATE)} : aPairs ((s, α) :: r) ax env M P = α ax env M fun y M1 => aPairs r ax env M1 fun kvs M2 => P ((.inr s, y) :: kvs) M2 := rfl
theorem e_for {ι : ATI} : aFor ι g t ax De env M = ι ax env M fun items chk M1 => aForGo chk g t ax De items env M1 := rfl
theorem e_forN {chk : Sto → Prop} : aForGo chk g t ax De [] env M = (chk M ∧ De.nx env M) := rfl
theorem e_forC {chk : Sto → Prop} {r : List D} : aForGo chk g t ax De (d :: r) env M = (chk M ∧ g d ax env M fun env1 M1 => t ax ⟨aForGo chk g t ax De r, De.rt, De.nx, aForGo chk g t ax De r⟩ env1 M1) := rfl
theorem e_ilist {P : List D → (Sto → Prop) → Sto → Prop} : aIList α ax env M P = α ax env M fun x M1 => match x with
  | .obj p => lstAt M1 p fun ds => P ds (fun M => M p = some (.lst ds)) M1
  | _ => False := rfl
theorem e_itup {P : List D → (Sto → Prop) → Sto → Prop} : aITup α ax env M P = α ax env M fun x M1 => match x with
  | .tup ds => P ds (fun _ => True) M1
  | _ => False := rfl
theorem e_rng1 {P : List D → (Sto → Prop) → Sto → Prop} : aIRng1 τ ax env M P = τ ax env M fun ds M1 => match ds with
  | [.int j] => -(2 ^ 62) ≤ j ∧ j < 2 ^ 62 ∧ P (rngD 0 j.toNat) (fun _ => True) M1
  | _ => False := rfl
theorem e_rng2 {P : List D → (Sto → Prop) → Sto → Prop} : aIRng2 τ ax env M P = τ ax env M fun ds M1 => match ds with
  | [.int i, .int j] => (-(2 ^ 62) ≤ i ∧ i < 2 ^ 62 ∧ -(2 ^ 62) ≤ j ∧ j < 2 ^ 62) ∧ P (rngD i (j - i).toNat) (fun _ => True) M1
  | _ => False := rfl
theorem e_lc {ι : ATI} {e : ATE} : aLc ι i A e ax env M Q = ι ax env M fun items chk M1 => items.length ≤ 1000000 ∧ aLcGo chk i A e ax env items [] M1 fun acc M2 => New (.lst acc) M2 Q := rfl
theorem e_lc2 {ι : ATI} {e : ATE} {j : Nat} : aLc2 ι i j A e ax env M Q = ι ax env M fun items chk M1 => i ≠ j ∧ items.length ≤ 1000000 ∧ aLc2Go chk i j A e ax env items [] M1 fun acc M2 => New (.lst acc) M2 Q := rfl
theorem e_lc2N {chk : Sto → Prop} {e : ATE} {acc : List D} {j : Nat} : aLc2Go chk i j A e ax env [] acc M L = (chk M ∧ L acc M) := rfl
theorem e_ienum {P : List D → (Sto → Prop) → Sto → Prop} : aIEnum τ ax env M P = τ ax env M fun ds M1 => match ds with
  | [.tup ds] => P (enumD 0 ds) (fun _ => True) M1
  | [.obj p] => lstAt M1 p fun ds => P (enumD 0 ds) (fun M => M p = some (.lst ds)) M1
  | _ => False := rfl
theorem e_izip {P : List D → (Sto → Prop) → Sto → Prop} : aIZip τ ax env M P = τ ax env M fun ds M1 => match ds with
  | [.tup ds, .tup es] => P (zipD ds es) (fun _ => True) M1
  | [.obj p, .obj q] => lstAt M1 p fun ds => lstAt M1 q fun es => P (zipD ds es) (fun M => M p = some (.lst ds) ∧ M q = some (.lst es)) M1
  | _ => False := rfl
theorem e_anyB {p : Addr} : ρAny [.obj p] M Q = lstAt M p fun ds => optAt (blsOf ds) fun bs => Q (.bl (bs.any id)) M := rfl
theorem e_allB {p : Addr} : ρAll [.obj p] M Q = lstAt M p fun ds => optAt (blsOf ds) fun bs => Q (.bl (bs.all id)) M := rfl
theorem e_mulS {z : Str} {k : Int} : ρMulS (.str z) (.int k) M Q = (0 ≤ k ∧ k ≤ 1000 ∧ z.length ≤ 1000 ∧ Q (.str (EN.reps z k.toNat)) M) := rfl
theorem e_set0 {w : World} : aSet0 w ax env M Q = ∀ p, M p = none → Q (.obj p) (up M p (.raw (SetTx w p []))) := rfl
theorem e_sadd {w : World} : aSAdd w α τ ax env M Q = α ax env M fun x M1 => match x with
  | .obj p => (∃ ks, M1 p = some (.raw (SetTx w p ks))) ∧ τ ax env M1 fun xs M2 => match xs with
    | [.str k] => ∃ ks, M2 p = some (.raw (SetTx w p ks)) ∧ ks.length ≤ 4000 ∧ Q .non (up M2 p (.raw (SetTx w p (if k ∈ ks then ks else k :: ks))))
    | _ => False
  | _ => False := rfl
theorem e_sortTx {w : World} {p : Addr} : ρSortTx w [.obj p] M Q = ∃ ks, M p = some (.raw (SetTx w p ks)) ∧ ∀ ys : List Str, ys.Perm ks → PyProof.Rows.sortedS ys = true → New (.lst (ys.map D.str)) M Q := rfl
theorem e_sortD {p : Addr} : ρSortD [.obj p] M Q = dicAt M p fun kvs => ∃ ks : List Str, kvs.map (·.1) = ks.map Sum.inr ∧ ks.length < 64 ∧ ∀ ys : List Str, ys.Perm ks → PyProof.Rows.sortedS ys = true → New (.lst (ys.map D.str)) M Q := rfl
theorem e_repr : ρRepr [d] M Q = ∃ p, isRef d = true ∧ pyM2 M d = some p ∧ p.showable = true ∧ p.hasDict = false ∧ p.depth ≤ 64 ∧ p.shown.length ≤ sizeLine ∧ Q (.str p.shown) M := rfl
theorem e_lcN {chk : Sto → Prop} {e : ATE} {acc : List D} : aLcGo chk i A e ax env [] acc M L = (chk M ∧ L acc M) := rfl
theorem e_lcC {chk : Sto → Prop} {e : ATE} {acc r : List D} : aLcGo chk i A e ax env (d :: r) acc M L = (chk M ∧ A ax (env.set i (some d)) M fun b M1 => if b = true then e ax (env.set i (some d)) M1 fun y M2 => aLcGo chk i A e ax env r (acc ++ [y]) M2 L else aLcGo chk i A e ax env r acc M1 L) := rfl
theorem e_add_int {i j : Int} : ρAdd (.int i) (.int j) M Q = Q (.int (i + j)) M := rfl
theorem e_add_str {i j : Str} : ρAdd (.str i) (.str j) M Q = (i.length + j.length ≤ sizeLine ∧ Q (.str (i ++ j)) M) := rfl
theorem e_add_tup {i j : List D} : ρAdd (.tup i) (.tup j) M Q = (i.length + j.length ≤ sizeLine ∧ Q (.tup (i ++ j)) M) := rfl
theorem e_add_obj {p q : Addr} : ρAdd (.obj p) (.obj q) M Q = lstAt M p fun ds => lstAt M q fun es => ds.length + es.length ≤ sizeLine ∧ New (.lst (ds ++ es)) M Q := rfl
theorem e_iadd_int {i j : Int} : ρIAdd (.int i) (.int j) M Q = Q (.int (i + j)) M := rfl
theorem e_iadd_str {i j : Str} : ρIAdd (.str i) (.str j) M Q = (i.length + j.length ≤ sizeLine ∧ Q (.str (i ++ j)) M) := rfl
theorem e_iadd_obj {p q : Addr} : ρIAdd (.obj p) (.obj q) M Q = lstAt M p fun ds => lstAt M q fun es => ds.length + es.length ≤ sizeLine ∧ Q (.obj p) (up M p (.lst (ds ++ es))) := rfl
theorem e_I {C : Int → Int → Prop} {f : Int → Int → D} {i j : Int} : ρI C f (.int i) (.int j) M Q = (C i j ∧ Q (f i j) M) := rfl
theorem e_I0 {f : Int → Int → D} {i j : Int} : ρI0 f (.int i) (.int j) M Q = Q (f i j) M := rfl
theorem e_IS_int {f : Int → Int → Bool} {h : Str → Str → Bool} {i j : Int} : ρIS f h (.int i) (.int j) M Q = Q (.bl (f i j)) M := rfl
theorem e_IS_str {f : Int → Int → Bool} {h : Str → Str → Bool} {i j : Str} : ρIS f h (.str i) (.str j) M Q = Q (.bl (h i j)) M := rfl
theorem e_eq_str {i j : Str} : ρEq false (.str i) (.str j) M Q = Q (.bl (decide (i = j))) M := rfl
theorem e_ne_str {i j : Str} : ρEq true (.str i) (.str j) M Q = Q (.bl (!decide (i = j))) M := rfl
theorem e_eq_int {i j : Int} : ρEq false (.int i) (.int j) M Q = Q (.bl (decide (i = j))) M := rfl
theorem e_ne_int {i j : Int} : ρEq true (.int i) (.int j) M Q = Q (.bl (!decide (i = j))) M := rfl
theorem e_eq_bl {i j : Bool} : ρEq false (.bl i) (.bl j) M Q = Q (.bl (decide (i = j))) M := rfl
theorem e_ne_bl {i j : Bool} : ρEq true (.bl i) (.bl j) M Q = Q (.bl (!decide (i = j))) M := rfl
theorem e_isN : ρIsN false x .non M Q = Q (.bl (isNon x)) M := by
  unfold ρIsN
  exact propext ⟨fun h => h.2, fun h => ⟨rfl, h⟩⟩
theorem e_notN : ρIsN true x .non M Q = Q (.bl (!isNon x)) M := by
  unfold ρIsN
  exact propext ⟨fun h => h.2, fun h => ⟨rfl, h⟩⟩
theorem e_ix_tup {ds : List D} {i : Int} : ρIx (.tup ds) (.int i) M Q = optAt (atI ds i) fun d => Q d M := rfl
theorem e_ix_fl {ds : List D} {i : Int} : ρIx (.fl ds) (.int i) M Q = optAt (atI ds i) fun d => Q d M := rfl
theorem e_ix_str {z : Str} {i : Int} : ρIx (.str z) (.int i) M Q = (z.length ≤ sizeLine ∧ optAt (atI z.cps.toList i) fun c => Q (.str ⟨#[c]⟩) M) := rfl
theorem e_ix_obj {p : Addr} {i : Int} : ρIx (.obj p) (.int i) M Q = lstAt M p fun ds => optAt (atI ds i) fun d => Q d M := rfl
theorem e_in_tup {ds : List D} : ρIn false x (.tup ds) M Q = (flatD x = true ∧ ds.all flatD = true ∧ Q (.bl (ds.any fun y => eqF y x)) M) := rfl
theorem e_nin_tup {ds : List D} : ρIn true x (.tup ds) M Q = (flatD x = true ∧ ds.all flatD = true ∧ Q (.bl (!ds.any fun y => eqF y x)) M) := rfl
theorem e_len_tup {ds : List D} : ρLen [.tup ds] M Q = Q (.int ds.length) M := rfl
theorem e_len_fl {ds : List D} : ρLen [.fl ds] M Q = Q (.int ds.length) M := rfl
theorem e_len_str {z : Str} : ρLen [.str z] M Q = (z.length ≤ sizeLine ∧ Q (.int z.length) M) := rfl
theorem e_len_obj {p : Addr} : ρLen [.obj p] M Q = lstAt M p fun ds => Q (.int ds.length) M := rfl
theorem e_int_int {i : Int} : ρInt [.int i] M Q = Q (.int i) M := rfl
theorem e_tuple_tup {ds : List D} : ρTuple [.tup ds] M Q = Q (.tup ds) M := rfl
theorem e_tuple_obj {p : Addr} : ρTuple [.obj p] M Q = lstAt M p fun ds => Q (.tup ds) M := rfl
theorem e_list_tup {ds : List D} : ρList [.tup ds] M Q = New (.lst ds) M Q := rfl
theorem e_list_obj {p : Addr} : ρList [.obj p] M Q = lstAt M p fun ds => New (.lst ds) M Q := rfl
theorem e_dget {p : Addr} : ρDGet (.obj p) y M Q = dicAt M p fun kvs => optAt (keyD y) fun k => optAt (valA kvs k) fun d => Q d M := rfl
theorem e_din {p : Addr} : ρDIn false y (.obj p) M Q = dicAt M p fun kvs => optAt (keyD y) fun k => Q (.bl (valA kvs k).isSome) M := rfl
theorem e_dnin {p : Addr} : ρDIn true y (.obj p) M Q = dicAt M p fun kvs => optAt (keyD y) fun k => Q (.bl (!(valA kvs k).isSome)) M := rfl
theorem e_lstAt {p : Addr} {k : List D → Prop} : lstAt M p k = (match M p with
  | some (.lst ds) => k ds
  | _ => False) := rfl
theorem e_dicAt {p : Addr} {k : List (Key × D) → Prop} : dicAt M p k = (match M p with
  | some (.dic ds) => k ds
  | _ => False) := rfl
theorem e_key_int {i : Int} : keyD (.int i) = some (.inl i) := rfl
theorem e_key_str {i : Str} : keyD (.str i) = some (.inr i) := rfl
theorem e_up {p q : Addr} {mo : MO} : up M p mo q = if q = p then some mo else M q := rfl
theorem e_ty_str {z : Str} : tyN M (.str z) = "str" := rfl
theorem e_ty_tup {ds : List D} : tyN M (.tup ds) = "tuple" := rfl
theorem e_ty_int {z : Int} : tyN M (.int z) = "int" := rfl
theorem e_ty_bl {z : Bool} : tyN M (.bl z) = "bool" := rfl
theorem e_ty_non : tyN M .non = "NoneType" := rfl
end
theorem atI0 {α : Type} {a : α} {r : List α} : atI (a :: r) 0 = some a := atI_nat (j := 0) rfl
theorem atI1 {α : Type} {a b : α} {r : List α} : atI (a :: b :: r) 1 = some b := atI_nat (j := 1) rfl
theorem atI2 {α : Type} {a b c : α} {r : List α} : atI (a :: b :: c :: r) 2 = some c := atI_nat (j := 2) rfl
theorem atI3 {α : Type} {a b c d : α} {r : List α} : atI (a :: b :: c :: d :: r) 3 = some d := atI_nat (j := 3) rfl
theorem atIL {α : Type} {a : α} {r : List α} : atI (r ++ [a]) (-1) = some a := atI_last r a
theorem atIn {α : Type} {r : List α} {n : Nat} : atI r (n : Int) = r[n]? := by
  cases e : r[n]? with
  | some x => exact atI_nat e
  | none =>
    have h := List.getElem?_eq_none_iff.mp e
    unfold atI ixN
    rw [if_pos (by omega), if_neg (by omega)]
    rfl
theorem ixN0 {n : Nat} : ixN (n + 1) 0 = some 0 := by unfold ixN; rw [if_pos (by omega), if_pos (by omega)]; rfl
theorem ixN1 {n : Nat} : ixN (n + 2) 1 = some 1 := by unfold ixN; rw [if_pos (by omega), if_pos (by omega)]; rfl
theorem cut_from1 {α : Type} {a : α} {r : List α} : cutL (a :: r) (some 1) none = r := by
  unfold cutL
  rw [show HT.sIx (a :: r).length 0 (some 1) = 1 by
    show min (1 : Int).toNat (a :: r).length = 1
    rw [List.length_cons]
    have : (1 : Int).toNat = 1 := rfl
    omega, HT.sIx_none]
  show r.take ((a :: r).length - 1) = r
  rw [List.length_cons, Nat.add_sub_cancel, List.take_length]
theorem e_ite_or {a b : Prop} [Decidable a] [Decidable b] {X Y : Prop} : (if a then X else if b then X else Y) = if a ∨ b then X else Y := by
  by_cases ha : a
  · rw [if_pos ha, if_pos (Or.inl ha)]
  · rw [if_neg ha]
    by_cases hb : b
    · rw [if_pos hb, if_pos (Or.inr hb)]
    · rw [if_neg hb, if_neg (fun h => h.elim ha hb)]
theorem e_ite_and {a b : Prop} [Decidable a] [Decidable b] {X Y : Prop} : (if a then (if b then X else Y) else Y) = if a ∧ b then X else Y := by
  by_cases ha : a
  · rw [if_pos ha]
    by_cases hb : b
    · rw [if_pos hb, if_pos ⟨ha, hb⟩]
    · rw [if_neg hb, if_neg fun h => hb h.2]
  · rw [if_neg ha, if_neg fun h => ha h.1]
theorem isEmpty_snoc {α : Type} {l : List α} {a : α} : (l ++ [a]).isEmpty = false := by cases l <;> rfl
theorem cpow1018 : CPow 10 18 = True := eq_true ⟨by decide, by decide, by decide⟩
theorem sizeLine_eq : sizeLine = 16777216 := rfl
theorem in_non : isNon .non = true := rfl
theorem in_tup {a : List D} : isNon (.tup a) = false := rfl
theorem in_str {a : Str} : isNon (.str a) = false := rfl
theorem in_int {a : Int} : isNon (.int a) = false := rfl
theorem in_bl {a : Bool} : isNon (.bl a) = false := rfl
theorem in_obj {a : Addr} : isNon (.obj a) = false := rfl
theorem in_fl {a : List D} : isNon (.fl a) = false := rfl
theorem kb_strstr : kitB "str" "str" = some true := by decide +kernel
theorem kb_tupstr : kitB "tuple" "str" = some false := by decide +kernel
theorem kb_tuptup : kitB "tuple" "tuple" = some true := by decide +kernel
theorem kb_strtup : kitB "str" "tuple" = some false := by decide +kernel
theorem kb_inttup : kitB "int" "tuple" = some false := by decide +kernel
theorem kb_bltup : kitB "bool" "tuple" = some false := by decide +kernel
theorem kb_nontup : kitB "NoneType" "tuple" = some false := by decide +kernel
theorem kb_strbl : kitB "str" "bool" = some false := by decide +kernel
theorem kb_strint : kitB "str" "int" = some false := by decide +kernel
theorem kb_intbl : kitB "int" "bool" = some false := by decide +kernel
theorem kb_intint : kitB "int" "int" = some true := by decide +kernel
theorem kb_blbl : kitB "bool" "bool" = some true := by decide +kernel
theorem kb_blint : kitB "bool" "int" = some true := by decide +kernel
theorem kb_nonbl : kitB "NoneType" "bool" = some false := by decide +kernel
theorem kb_nonint : kitB "NoneType" "int" = some false := by decide +kernel
theorem kb_nonstr : kitB "NoneType" "str" = some false := by decide +kernel
theorem kb_intstr : kitB "int" "str" = some false := by decide +kernel
theorem kb_blstr : kitB "bool" "str" = some false := by decide +kernel
theorem kb_tupbl : kitB "tuple" "bool" = some false := by decide +kernel
theorem kb_tupint : kitB "tuple" "int" = some false := by decide +kernel


def Ext (M M' : Sto) : Prop := ∀ a mo, M a = some mo → M' a = some mo
def ExtB (b : Addr) (M M' : Sto) : Prop := ∀ a mo, a ≠ b → M a = some mo → M' a = some mo
theorem Ext.refl (M : Sto) : Ext M M := fun _ _ h => h
theorem Ext.trans {M M1 M2 : Sto} (a : Ext M M1) (b : Ext M1 M2) : Ext M M2 := fun c o h => b c o (a c o h)
theorem Ext.new {M : Sto} {p : Addr} {mo : MO} (h : M p = none) : Ext M (up M p mo) := fun a o e => by
  have n : a ≠ p := fun z => by subst z; rw [h] at e; cases e
  rw [up_ne n]
  exact e
theorem ExtB.refl (b : Addr) (M : Sto) : ExtB b M M := fun _ _ _ h => h
theorem ExtB.trans {b : Addr} {M M1 M2 : Sto} (x : ExtB b M M1) (y : ExtB b M1 M2) : ExtB b M M2 := fun c o n h => y c o n (x c o n h)
theorem Ext.b {b : Addr} {M M' : Sto} (x : Ext M M') : ExtB b M M' := fun c o _ h => x c o h
theorem ExtB.new {b : Addr} {M : Sto} {p : Addr} {mo : MO} (h : M p = none) : ExtB b M (up M p mo) := (Ext.new h).b
theorem ExtB.upd {b : Addr} {M : Sto} {mo : MO} : ExtB b M (up M b mo) := fun a o n e => by rw [up_ne n]; exact e
theorem fresh_ne {M : Sto} {p a : Addr} {mo : MO} (h : M p = none) (e : M a = some mo) : a ≠ p := fun z => by subst z; rw [h] at e; cases e
theorem while_runN {A : ATT} {t : ATS} {ax : AX} {De : AEnds} (I : Nat → AEnv → Sto → Prop)
    (turn : ∀ n N env M, I n env M → (∀ m env' M', m < n → I m env' M' → N env' M') → A ax env M fun k M1 => if k = true then t ax ⟨N, De.rt, De.nx, N⟩ env M1 else De.nx env M1)
    {n : Nat} {env : AEnv} {M : Sto} (h : I n env M) : aWhile A t ax De env M := by
  have all : ∀ k n env M, I n env M → n < k → aWhileN A t ax De k env M := by
    intro k
    induction k with
    | zero => intro n env M _ l; omega
    | succ k ih => exact fun n env M i l => turn n _ env M i fun m env' M' lt i' => ih m env' M' i' (by omega)
  exact ⟨_, all _ n env M h (Nat.lt_succ_self _)⟩
theorem Ext.upd {M M' : Sto} {p : Addr} {mo : MO} (h : M p = none) (e : Ext M M') : Ext M (up M' p mo) := fun a o m => by
  rw [up_ne (fresh_ne h m)]
  exact e a o m
theorem Ext.none {M M' : Sto} {p : Addr} (e : Ext M M') (h : M' p = none) : M p = none := by
  cases z : M p with
  | none => rfl
  | some mo => rw [e _ _ z] at h; cases h
theorem for_run {chk : Sto → Prop} {g : ATG} {t : ATS} {ax : AX} {De : AEnds} (I : List D → AEnv → Sto → Prop) (hc : ∀ ds env M, I ds env M → chk M) (hn : ∀ env M, I [] env M → De.nx env M)
    (turn : ∀ d r N env M, I (d :: r) env M → (∀ env' M', I r env' M' → N env' M') → g d ax env M fun env1 M1 => t ax ⟨N, De.rt, De.nx, N⟩ env1 M1) : ∀ {ds : List D} {env : AEnv} {M : Sto}, I ds env M → aForGo chk g t ax De ds env M
  | [], env, M, h => ⟨hc _ _ _ h, hn env M h⟩
  | d :: r, env, M, h => ⟨hc _ _ _ h, turn d r _ env M h fun env' M' i => for_run I hc hn turn i⟩
theorem lc_run {chk : Sto → Prop} {i : Nat} {t : ATT} {e : ATE} {ax : AX} {env : AEnv} {Q : List D → Sto → Prop} (I : List D → List D → Sto → Prop) (hc : ∀ ds acc M, I ds acc M → chk M) (hn : ∀ acc M, I [] acc M → Q acc M)
    (turn : ∀ d r acc M (N : List D → Sto → Prop), I (d :: r) acc M → (∀ acc' M', I r acc' M' → N acc' M') → t ax (env.set i (some d)) M fun b M1 => if b = true then e ax (env.set i (some d)) M1 fun y M2 => N (acc ++ [y]) M2 else N acc M1) :
    ∀ {ds acc : List D} {M : Sto}, I ds acc M → aLcGo chk i t e ax env ds acc M Q
  | [], acc, M, h => ⟨hc _ _ _ h, hn acc M h⟩
  | d :: r, acc, M, h => ⟨hc _ _ _ h, turn d r acc M _ h fun acc' M' i => lc_run I hc hn turn i⟩
theorem lc2_run {chk : Sto → Prop} {i j : Nat} {t : ATT} {e : ATE} {ax : AX} {env : AEnv} {Q : List D → Sto → Prop} (I : List D → List D → Sto → Prop) (hc : ∀ ds acc M, I ds acc M → chk M) (hn : ∀ acc M, I [] acc M → Q acc M)
    (turn : ∀ d r acc M (N : List D → Sto → Prop), I (d :: r) acc M → (∀ acc' M', I r acc' M' → N acc' M') → ∃ a b, d = .tup [a, b] ∧ t ax ((env.set i (some a)).set j (some b)) M fun k M1 => if k = true then e ax ((env.set i (some a)).set j (some b)) M1 fun y M2 => N (acc ++ [y]) M2 else N acc M1) :
    ∀ {ds acc : List D} {M : Sto}, I ds acc M → aLc2Go chk i j t e ax env ds acc M Q
  | [], acc, M, h => ⟨hc _ _ _ h, hn acc M h⟩
  | d :: r, acc, M, h => by
    obtain ⟨a, b, rfl, z⟩ := turn d r acc M (fun acc' M' => aLc2Go chk i j t e ax env r acc' M' Q) h fun acc' M' i => lc2_run I hc hn turn i
    exact ⟨hc _ _ _ h, z⟩
theorem fn_none {P : Program} {w : World} {K : PySem.W.Frag} {mg : Str → Option Value} {base : Heap} {k n : Nat} {f : Addr} {fd : FuncData} {ps : List Str} {A : ASp} (h : ∀ ds M Q Xa, ¬ A ds M Q Xa) : FnOk P w K mg base CX0 k f fd ps (conc K n A) := by
  have no : ∀ vs H Q E, ¬ conc K n A vs H Q E := fun vs H Q E z => by
    obtain ⟨ds, M, Qa, Xa, _, _, _, _, q, _⟩ := z
    exact h _ _ _ _ q
  exact ⟨fun vs H Q E z => absurd z (no vs H Q E), fun A outer s H args us vs Q E _ _ _ _ z => absurd z (no vs H Q E)⟩
theorem valA_pos {k : Key} {v : D} {r : List (Key × D)} : valA ((k, v) :: r) k = some v := by unfold valA; rw [List.find?_cons_of_pos (by simp)]; rfl
theorem valA_neg {k j : Key} {v : D} {r : List (Key × D)} (h : ¬ j = k) : valA ((j, v) :: r) k = valA r k := by unfold valA; rw [List.find?_cons_of_neg (by simpa using h)]
theorem valA_map (k j : Key) (y : D) : ∀ kvs : List (Key × D), valA (kvs.map fun kv => if kv.1 = k then (kv.1, y) else kv) j = (valA kvs j).map fun x => if j = k then y else x
  | [] => rfl
  | (a, x) :: r => by
    have ih := valA_map k j y r
    rw [List.map_cons]
    by_cases h : a = j
    · subst h
      by_cases hk : a = k
      · subst hk
        show valA ((if a = a then (a, y) else (a, x)) :: _) a = _
        rw [if_pos rfl, valA_pos, valA_pos, Option.map_some, if_pos rfl]
      · show valA ((if a = k then (a, y) else (a, x)) :: _) a = _
        rw [if_neg hk, valA_pos, valA_pos, Option.map_some, if_neg hk]
    · have e : valA ((if a = k then (a, y) else (a, x)) :: r.map fun kv => if kv.1 = k then (kv.1, y) else kv) j = valA (r.map fun kv => if kv.1 = k then (kv.1, y) else kv) j := by
        split
        · exact valA_neg h
        · exact valA_neg h
      show valA ((if a = k then (a, y) else (a, x)) :: r.map fun kv => if kv.1 = k then (kv.1, y) else kv) j = _
      rw [e, ih, valA_neg h]
theorem valA_any (k : Key) : ∀ kvs : List (Key × D), (kvs.any fun kv => decide (kv.1 = k)) = (valA kvs k).isSome
  | [] => rfl
  | (a, x) :: r => by
    rw [List.any_cons, valA_any k r]
    by_cases h : a = k
    · subst h
      rw [valA_pos, decide_eq_true rfl]
      rfl
    · rw [valA_neg h, decide_eq_false h, Bool.false_or]
theorem valA_snoc (k j : Key) (y : D) : ∀ kvs : List (Key × D), valA kvs k = none → valA (kvs ++ [(k, y)]) j = if j = k then some y else valA kvs j
  | [], _ => by
    by_cases h : k = j
    · subst h; rw [if_pos rfl]; exact valA_pos
    · rw [if_neg fun e => h e.symm]; exact valA_neg h
  | (a, x) :: r, h0 => by
    have ha : ¬ a = k := fun e => by subst e; rw [valA_pos] at h0; cases h0
    rw [valA_neg ha] at h0
    have ih := valA_snoc k j y r h0
    rw [List.cons_append]
    by_cases h : a = j
    · subst h
      rw [valA_pos, valA_pos, if_neg ha]
    · rw [valA_neg h, valA_neg h, ih]
theorem valA_put (kvs : List (Key × D)) (k j : Key) (y : D) : valA (putA kvs k y) j = if j = k then some y else valA kvs j := by
  unfold putA
  rw [valA_any]
  cases h : valA kvs k with
  | none =>
    rw [if_neg (by simp)]
    exact valA_snoc k j y kvs h
  | some v =>
    rw [if_pos (show (some v).isSome = true from rfl), valA_map]
    by_cases e : j = k
    · subst e
      rw [h, if_pos rfl, Option.map_some, if_pos rfl]
    · rw [if_neg e]
      cases valA kvs j with
      | none => rfl
      | some w => rw [Option.map_some, if_neg e]
theorem putA_length (kvs : List (Key × D)) (k : Key) (v : D) : (putA kvs k v).length ≤ kvs.length + 1 := by
  unfold putA
  split
  · rw [List.length_map]; omega
  · rw [List.length_append, List.length_singleton]; omega

section
variable {ax : AX} {De : AEnds} {env : AEnv} {M : Sto} {Q : D → Sto → Prop} {d x y : D}
theorem e_extT {p : Addr} {ds es : List D} : ρExtT p ds [.tup es] M Q = (ds.length + es.length ≤ sizeLine ∧ Q .non (up M p (.lst (ds ++ es)))) := rfl
theorem e_sc2 {w : World} {ι : ATI} {e : ATE} {A : ATT} {i j : Nat} : aSc2 w ι i j A e ax env M Q = ι ax env M fun items chk M1 => i ≠ j ∧ items.length ≤ 4000 ∧ aScGo2 chk i j A e ax env items [] M1 fun acc M2 =>
  ∀ (p : Addr) (n : Nat), n ≤ acc.length → M2 p = none → Q (.obj p) (up M2 p (.raw (SetO w p (fun k => decide (k ∈ acc)) n))) := rfl
theorem e_sortZ {w : World} {p : Addr} : ρSortZ w [.obj p] M Q = ∃ S n, M p = some (.raw (SetO w p S n)) ∧ n < 64 ∧ ∀ ns : List Int, ns.Pairwise (· < ·) → (∀ k : Int, k ∈ ns ↔ S k = true) → New (.lst (ns.map D.int)) M Q := rfl
theorem e_tupVals {α : ATE} : aTupVals α ax env M Q = α ax env M fun x M1 => match x with
  | .obj p => dicAt M1 p fun kvs => Q (.tup (kvs.map (·.2))) M1
  | _ => False := rfl
end
section
variable {ax : AX} {De : AEnds} {env : AEnv} {M : Sto} {Q : D → Sto → Prop} {d x y : D} {α : ATE} {τ : ATA}
theorem e_wget {tab : List (Key × D)} : aWGet tab α ax env M Q = α ax env M fun y M1 => optAt (keyD y) fun k => Q ((valA tab k).getD .non) M1 := rfl
theorem e_wix {tab : List (Key × D)} : aWIx tab α ax env M Q = α ax env M fun y M1 => optAt (keyD y) fun k => optAt (valA tab k) fun d => Q d M1 := rfl
theorem e_listZip : aListZip τ ax env M Q = τ ax env M fun xs M1 => match xs with
  | [.tup ds, .tup es] => ds.length = es.length ∧ ds.length ≤ 1000 ∧ New (.lst (zipD ds es)) M1 Q
  | _ => False := rfl
theorem zipD_nil {es : List D} : zipD [] es = [] := rfl
theorem zipD_cons {d e : D} {ds es : List D} : zipD (d :: ds) (e :: es) = .tup [d, e] :: zipD ds es := rfl
end

section
variable {ax : AX} {De : AEnds} {env : AEnv} {M : Sto} {Q : D → Sto → Prop} {d x y : D} {α : ATE} {τ : ATA}
theorem e_dgetF {p : Addr} : ρDGetF (.obj p) y M Q = (match M p with
  | some (.dif od ws kvs) => optAt (keyD y) fun k => optAt (valA kvs k) fun d => Q d M
  | _ => False) := by
  show (∃ od ws kvs, M p = some (.dif od ws kvs) ∧ optAt (keyD y) fun k => optAt (valA kvs k) fun d => Q d M) = _
  cases h : M p with
  | none => simp
  | some mo =>
    cases mo with
    | dif od ws kvs =>
      refine propext ⟨fun ⟨od', ws', kvs', e, z⟩ => ?_, fun z => ⟨od, ws, kvs, rfl, z⟩⟩
      cases e
      exact z
    | _ => simp
theorem e_idif {R : List D → (Sto → Prop) → Sto → Prop} : aIDif α ax env M R = α ax env M fun x M1 => match x with
  | .obj p => ∃ od ws kvs, M1 p = some (.dif od ws kvs) ∧ R (kvs.map fun kv => keyB kv.1) (fun M => M p = some (.dif od ws kvs)) M1
  | _ => False := rfl
end

section
variable {ax : AX} {De : AEnds} {env : AEnv} {M : Sto} {Q : D → Sto → Prop} {d x y : D} {α : ATE} {τ : ATA}
theorem e_isB {n a b : Bool} : ρIsB n (.bl a) (.bl b) M Q = Q (.bl (if n then !decide (a = b) else decide (a = b))) M := rfl
theorem e_sortI {p : Addr} : ρSortI [.obj p] M Q = lstAt M p fun ds => ∃ ns : List Int, ds = ns.map D.int ∧ ∀ ys : List Int, ys.Perm ns → ys.Pairwise (· ≤ ·) → New (.lst (ys.map D.int)) M Q := rfl
theorem e_sortSetI : aSortSetI α ax env M Q = α ax env M fun x M1 => match x with
  | .obj p => lstAt M1 p fun ds => ∃ ns : List Int, ds = ns.map D.int ∧ ns.length < 64 ∧ ∀ zs : List Int, zs.Pairwise (· < ·) → (∀ k, k ∈ zs ↔ k ∈ ns) → New (.lst (zs.map D.int)) M1 Q
  | _ => False := rfl
end

section
variable {ax : AX} {De : AEnds} {env : AEnv} {M : Sto} {Q : D → Sto → Prop} {d x y : D} {α β : ATE} {τ : ATA}
theorem e_tailR : aTailR α ax env M Q = α ax env M fun x M1 => match x with
  | .tup ds => Q (.tup (ds.drop 1).reverse) M1
  | _ => False := rfl
theorem e_divmod {i j : Int} : ρDivmod [.int i, .int j] M Q = (CDiv i j ∧ Q (.tup [.int (i / j), .int (i % j)]) M) := rfl
theorem e_strI {i : Int} : ρStrI [.int i] M Q = (i.natAbs.log2 < 1920 ∧ Q (.str (toString i)) M) := rfl
theorem e_lenD {p : Addr} : ρLenD [.obj p] M Q = dicAt M p fun kvs => Q (.int kvs.length) M := rfl
theorem e_fmt : aFmt α ax env M Q = α ax env M fun x M1 => match x with
  | .str y => y.length ≤ sizeLine ∧ Q (.str y) M1
  | .int i => i.natAbs.log2 < 1920 ∧ Q (.str (toString i)) M1
  | _ => False := rfl
theorem e_fs2 : aFs2 α β ax env M Q = α ax env M fun x M1 => match x with
  | .str y => y.length ≤ sizeLine ∧ β ax env M1 fun x2 M2 => match x2 with
    | .str z => (y ++ z).length ≤ sizeLine ∧ Q (.str (y ++ z)) M2
    | _ => False
  | _ => False := rfl
end

section
variable {ax : AX} {De : AEnds} {env : AEnv} {M : Sto} {Q : D → Sto → Prop} {α : ATE}
theorem e_sortR {p : Addr} : ρSortR [.obj p] M Q = lstAt M p fun es => ∃ rows : List (List Str), es = rows.map rowD ∧ rows.head? = some [] ∧ ∀ rows' : List (List Str), rows'.Perm rows → rows'.Pairwise (fun x y => SR.lexS y x = false) → New (.lst (rows'.map rowD)) M Q := rfl
theorem e_sortTS {es : List D} : ρSortTS [.tup es] M Q = ∃ xs : List Str, es = xs.map D.str ∧ ∀ ys : List Str, ys.Perm xs → New (.lst (ys.map D.str)) M Q := rfl
theorem e_irevT {R : List D → (Sto → Prop) → Sto → Prop} : aIRevT α ax env M R = α ax env M fun x M1 => match x with
  | .tup ds => R ds.reverse (fun _ => True) M1
  | _ => False := rfl
end
theorem cut_toN {α : Type} {l : List α} {n : Nat} : cutL l none (some (n : Int)) = l.take n := by
  unfold cutL
  rw [HT.sIx_none, HT.sIx_nat, List.drop_zero, Nat.sub_zero]
  by_cases h : n ≤ l.length
  · rw [Nat.min_eq_left h]
  · rw [Nat.min_eq_right (by omega), List.take_of_length_le (Nat.le_refl _), List.take_of_length_le (by omega)]
theorem cut_to1 {α : Type} {l : List α} : cutL l none (some 1) = l.take 1 := cut_toN (n := 1)
theorem cut_to3 {α : Type} {l : List α} : cutL l none (some 3) = l.take 3 := cut_toN (n := 3)
theorem cut_fromN {α : Type} {l : List α} {n : Nat} : cutL l (some (n : Int)) none = l.drop n := by
  unfold cutL
  rw [HT.sIx_none, HT.sIx_nat]
  by_cases h : n ≤ l.length
  · rw [Nat.min_eq_left h, List.take_of_length_le (by rw [List.length_drop]; exact Nat.le_refl _)]
  · rw [Nat.min_eq_right (by omega), Nat.sub_self, List.take_zero, List.drop_eq_nil_of_le (by omega)]
theorem cut_from1' {α : Type} {l : List α} : cutL l (some 1) none = l.drop 1 := cut_fromN (n := 1)

section
variable {ax : AX} {De : AEnds} {env : AEnv} {M : Sto} {Q : D → Sto → Prop} {α : ATE}
theorem e_irevR1 {R : List D → (Sto → Prop) → Sto → Prop} : aIRevR1 α ax env M R = α ax env M fun x M1 => match x with
  | .int j => 0 ≤ j ∧ j < 2 ^ 62 ∧ R (rngD 0 j.toNat).reverse (fun _ => True) M1
  | _ => False := rfl
theorem e_indexI {p : Addr} {ds : List D} {n : Int} : ρIndexI p ds [.int n] M Q = ∃ (ns : List Int) (j : Nat), ds = ns.map D.int ∧ ns[j]? = some n ∧ (∀ (m : Nat) (z : Int), m < j → ns[m]? = some z → z ≠ n) ∧ Q (.int (j : Nat)) M := rfl
end

section
variable {ax : AX} {De : AEnds} {env : AEnv} {M : Sto} {Q : D → Sto → Prop} {α β : ATE} {τ : ATA} {C : Addr} {f m : Str} {n : Nat} {A : ASp}
theorem e_fld : aFld C f α ax env M Q = α ax env M fun x M1 => match x with
  | .obj p => ∃ dx fs d v, M1 p = some (.raw (.ins C dx fs)) ∧ fs.lookup f = some v ∧ flV d = some v ∧ Q d M1
  | _ => False := rfl
theorem e_setF : aSetF C f α β ax De env M = β ax env M fun y M1 => α ax env M1 fun x M2 => match x with
  | .obj p => ∃ dx fs v, M2 p = some (.raw (.ins C dx fs)) ∧ fs.length < 1000 ∧ flV y = some v ∧ De.nx env (up M2 p (.raw (.ins C dx (putF f v fs))))
  | _ => False := rfl
theorem e_meth : aMeth C m n A α τ ax env M Q = α ax env M fun x M1 => match x with
  | .obj p => (∃ dx fs, M1 p = some (.raw (.ins C dx fs)) ∧ fs.lookup m = none) ∧ τ ax env M1 fun ds M2 => Wait n A (.obj p :: ds) M2 Q
  | _ => False := rfl
theorem e_make : aMake C n A τ ax env M Q = τ ax env M fun ds M1 => ∀ x dx, M1 x = none → dx ≠ x → Wait n A (.obj x :: ds) (up M1 x (.raw (.ins C dx []))) fun d M2 => d = .non ∧ Q (.obj x) M2 := rfl
theorem e_par {i j : Nat} : aPar i j τ ax De env M = τ ax env M fun ds M1 => match ds with
  | [x, y] => De.nx ((env.set i (some x)).set j (some y)) M1
  | _ => False := rfl
end

section
variable {M : Sto} {Q : D → Sto → Prop}
theorem e_dictC {p : Addr} : ρDictC [.obj p] M Q = dicAt M p fun kvs => ∀ a, M a = none → Q (.obj a) (up M a (.dic kvs)) := rfl
end

section
variable {ax : AX} {env : AEnv} {M : Sto} {Q : D → Sto → Prop} {b0 : Bool} {chk : Sto → Prop} {i j : Nat} {t : ATT} {e : ATE} {ι : ATI} {d : D} {r : List D} {Qb : Bool → Sto → Prop} {go : Sto → Prop} {b : Bool}
theorem e_any : aAny b0 ι i t e ax env M Q = ι ax env M fun items chk M1 => aAnyGo b0 chk i t e ax env items M1 fun b M2 => Q (.bl b) M2 := rfl
theorem e_anyN : aAnyGo b0 chk i t e ax env [] M Qb = (chk M ∧ Qb (!b0) M) := rfl
theorem e_anyC : aAnyGo b0 chk i t e ax env (d :: r) M Qb = (chk M ∧ t ax (env.set i (some d)) M fun b M1 => if b = true then e ax (env.set i (some d)) M1 fun y M2 => anyY b0 Qb (fun M2 => aAnyGo b0 chk i t e ax env r M2 Qb) y M2 else aAnyGo b0 chk i t e ax env r M1 Qb) := rfl
theorem e_anyY : anyY b0 Qb go (.bl b) M = if b = b0 then Qb b0 M else go M := rfl
theorem e_any2 : aAny2 b0 ι i j t e ax env M Q = ι ax env M fun items chk M1 => i ≠ j ∧ aAny2Go b0 chk i j t e ax env items M1 fun b M2 => Q (.bl b) M2 := rfl
theorem e_any2N : aAny2Go b0 chk i j t e ax env [] M Qb = (chk M ∧ Qb (!b0) M) := rfl
theorem e_tg : aTg ι i t e ax env M Q = ι ax env M fun items chk M1 => items.length ≤ 1000000 ∧ aLcGo chk i t e ax env items [] M1 fun acc M2 => Q (.tup acc) M2 := rfl
theorem e_tg2 : aTg2 ι i j t e ax env M Q = ι ax env M fun items chk M1 => i ≠ j ∧ items.length ≤ 1000000 ∧ aLc2Go chk i j t e ax env items [] M1 fun acc M2 => Q (.tup acc) M2 := rfl
end

/- slots of _law_cell: 0 script, 1 k -/
def a__law_cell  : ATS :=
    (aSeq (aIf (aTest (aOp ρLt (aVar 1) (aCB ρLen (aCons (aVar 0) aNil)))) (aRet (aOp ρIx (aVar 0) (aVar 1))) aNext)
    (aRet (aC (.int 0))))
/- slots of _law_digits: 0 script, 1 first, 2 last, 3 digits, 4 k, 5 cell, 6 turn, 7 seed -/
def a__law_digits (A__law_cell : ASp) : ATS :=
    (aSeq (aAsg (aLst aNil) (agName 3))
    (aSeq (aFor (aIRng2 (aCons (aVar 1) (aCons (aVar 2) aNil))) (agName 4) (aSeq (aAsg (aCall 2 A__law_cell (aCons (aVar 0) (aCons (aVar 4) aNil))) (agName 5))
    (aSeq (aIf (aTest (aOp ρLt (aVar 5) (aC (.int 0)))) (aAsg (aOp ρSub (aC (.int 1)) (aOp ρMul (aC (.int 2)) (aVar 5))) (agName 5)) aNext)
    (aIf (aTest (aOp ρGe (aVar 5) (aOp ρPow (aC (.int 10)) (aC (.int 18))))) (aFor (aIRng1 (aCons (aC (.int 60)) aNil)) (agName 6) (aIf (aTest (aOp ρGt (aVar 5) (aC (.int 0)))) (aSeq (aExpr (aLm ρAppend (aVar 3) (aCons (aOp ρMod (aCB ρInt (aCons (aVar 5) aNil)) (aC (.int 1000))) aNil)))
    (aAsg (aOp ρFdiv (aVar 5) (aC (.int 1000))) (agName 5))) aNext)) (aSeq (aAsg (aOp ρMod (aCB ρInt (aCons (aOp ρAdd (aOp ρAdd (aOp ρMul (aVar 5) (aC (.int 48271))) (aOp ρMul (aVar 4) (aC (.int 69621)))) (aC (.int 11))) aNil)) (aC (.int 2147483647))) (agName 7))
    (aFor (aIRng1 (aCons (aC (.int 12)) aNil)) (agName 6) (aSeq (aAsg (aOp ρMod (aCB ρInt (aCons (aOp ρAdd (aOp ρAdd (aOp ρMul (aVar 7) (aC (.int 16807))) (aOp ρMul (aC (.int 7)) (aVar 6))) (aC (.int 1))) aNil)) (aC (.int 2147483647))) (agName 7))
    (aExpr (aLm ρAppend (aVar 3) (aCons (aOp ρMod (aCB ρInt (aCons (aOp ρFdiv (aVar 7) (aC (.int 997))) aNil)) (aC (.int 1000))) aNil))))))))))
    (aRet (aVar 3))))
/- slots of _law_box: 0 script, 1 first, 2 last -/
def a__law_box (A__law_digits : ASp) : ATS :=
    (aRet (aLst (aCons (aCall 3 A__law_digits (aCons (aVar 0) (aCons (aVar 1) (aCons (aVar 2) aNil)))) (aCons (aC (.int 0)) aNil))))
/- slots of _law_draw: 0 box, 1 many, 2 at -/
def a__law_draw  : ATS :=
    (aSeq (aAsg (aOp ρIx (aVar 0) (aC (.int 1))) (agName 2))
    (aSeq (aAsg (aOp ρAdd (aVar 2) (aC (.int 1))) (agSub (aVar 0) (aC (.int 1))))
    (aSeq (aIf (aTest (aOp ρLt (aVar 2) (aCB ρLen (aCons (aOp ρIx (aVar 0) (aC (.int 0))) aNil)))) (aRet (aOp ρMod (aCB ρInt (aCons (aOp ρIx (aOp ρIx (aVar 0) (aC (.int 0))) (aVar 2)) aNil)) (aVar 1))) aNext)
    (aRet (aC (.int 0))))))
/- slots of _law_put: 0 formula, 1 table, 2 part -/
def a__law_put (A__law_put : ASp) : ATS :=
    (aSeq (aIf (aTest (aOp (ρEq false) (aOp ρIx (aVar 0) (aC (.int 0))) (aC (.str z_letter)))) (aRet (aDGet2 (aVar 1) (aOp ρIx (aVar 0) (aC (.int 1))) (aVar 0))) aNext)
    (aRet (aOp ρAdd (aTup (aCons (aOp ρIx (aVar 0) (aC (.int 0))) aNil)) (aCB ρTuple (aCons (aLc (aITup (aSl (aVar 0) (aOSome (aC (.int 1))) aONone)) 2 aYes (aCall 2 A__law_put (aCons (aVar 2) (aCons (aVar 1) aNil)))) aNil)))))
/- slots of _law_any: 0 box, 1 room, 2 many, 3 kind, 4 left, 5 first -/
def a__law_any (A__law_draw : ASp) (A__law_any : ASp) : ATS :=
    (aSeq (aAsg (aCall 2 A__law_draw (aCons (aVar 0) (aCons (aC (.int 8)) aNil))) (agName 3))
    (aSeq (aIf (aOr (aTest (aOp ρLt (aVar 1) (aC (.int 2)))) (aTest (aOp ρLt (aVar 3) (aC (.int 2))))) (aRet (aTup (aCons (aC (.str z_letter)) (aCons (aOp ρIx (aC (.str z_abcdefgh)) (aCall 2 A__law_draw (aCons (aVar 0) (aCons (aVar 2) aNil)))) aNil)))) aNext)
    (aSeq (aIf (aOr (aTest (aOp ρLt (aVar 1) (aC (.int 3)))) (aTest (aOp ρLt (aVar 3) (aC (.int 4))))) (aRet (aTup (aCons (aC (.str z_not)) (aCons (aCall 3 A__law_any (aCons (aVar 0) (aCons (aOp ρSub (aVar 1) (aC (.int 1))) (aCons (aVar 2) aNil)))) aNil)))) aNext)
    (aSeq (aAsg (aOp ρAdd (aC (.int 1)) (aCall 2 A__law_draw (aCons (aVar 0) (aCons (aOp ρSub (aVar 1) (aC (.int 2))) aNil)))) (agName 4))
    (aSeq (aAsg (aCall 3 A__law_any (aCons (aVar 0) (aCons (aVar 4) (aCons (aVar 2) aNil)))) (agName 5))
    (aRet (aTup (aCons (aC (.str z_if)) (aCons (aVar 5) (aCons (aCall 3 A__law_any (aCons (aVar 0) (aCons (aOp ρSub (aOp ρSub (aVar 1) (aC (.int 1))) (aVar 4)) (aCons (aVar 2) aNil)))) aNil))))))))))
/- slots of _law_lettered: 0 box, 1 room, 2 many, 3 names, 4 table, 5 name -/
def a__law_lettered (A__law_draw : ASp) (A__law_put : ASp) (A__law_any : ASp) : ATS :=
    (aSeq (aAsg (aLst (aCons (aC (.str z_a)) (aCons (aC (.str z_b)) (aCons (aC (.str z_z)) (aCons (aC (.str z_c7)) (aCons (aC (.str z_a0)) (aCons (aC (.str z_m9)) aNil))))))) (agName 3))
    (aSeq (aAsg aDNew (agName 4))
    (aSeq (aFor (aIList (aLst (aCons (aC (.str z_a)) (aCons (aC (.str z_b)) (aCons (aC (.str z_c)) (aCons (aC (.str z_d)) (aCons (aC (.str z_e)) (aCons (aC (.str z_f)) (aCons (aC (.str z_g)) (aCons (aC (.str z_h)) aNil)))))))))) (agName 5) (aDPut (aVar 4) (aVar 5) (aTup (aCons (aC (.str z_letter)) (aCons (aOp ρIx (aVar 3) (aCall 2 A__law_draw (aCons (aVar 0) (aCons (aC (.int 6)) aNil)))) aNil)))))
    (aRet (aCall 2 A__law_put (aCons (aCall 3 A__law_any (aCons (aVar 0) (aCons (aVar 1) (aCons (aVar 2) aNil)))) (aCons (aVar 4) aNil)))))))
/- slots of _law_text: 0 formula, 1 first -/
/- slots of _law_same: 0 actual, 1 expected, 2 k -/
def a__law_same (A__law_same : ASp) : ATS :=
    (aSeq (aIf (aTruth (aIsi "tuple" (aVar 1))) (aSeq (aIf (aOr (aNot (aTruth (aIsi "tuple" (aVar 0)))) (aTest (aOp (ρEq true) (aCB ρLen (aCons (aVar 0) aNil)) (aCB ρLen (aCons (aVar 1) aNil))))) (aRet (aC (.bl false))) aNext)
    (aSeq (aFor (aIRng1 (aCons (aCB ρLen (aCons (aVar 1) aNil)) aNil)) (agName 2) (aIf (aNot (aTruth (aCall 2 A__law_same (aCons (aOp ρIx (aVar 0) (aVar 2)) (aCons (aOp ρIx (aVar 1) (aVar 2)) aNil))))) (aRet (aC (.bl false))) aNext))
    (aRet (aC (.bl true))))) aNext)
    (aSeq (aIf (aTest (aOp (ρIsN false) (aVar 1) (aC .non))) (aRet (aOp (ρIsN false) (aVar 0) (aC .non))) aNext)
    (aSeq (aIf (aTruth (aIsi "bool" (aVar 1))) (aRet (aAndV (aIsi "bool" (aVar 0)) (aOp (ρEq false) (aVar 0) (aVar 1)))) aNext)
    (aSeq (aIf (aTruth (aIsi "int" (aVar 1))) (aRet (aAndV (aIsi "int" (aVar 0)) (aAndV (aNotV (aIsi "bool" (aVar 0))) (aOp (ρEq false) (aVar 0) (aVar 1))))) aNext)
    (aRet (aAndV (aIsi "str" (aVar 0)) (aOp (ρEq false) (aVar 0) (aVar 1))))))))

theorem rngD_cons {lo : Int} {n : Nat} {d : D} {r : List D} (h : rngD lo n = d :: r) : ∃ m, n = m + 1 ∧ d = .int lo ∧ r = rngD (lo + 1) m := by
  cases n with
  | zero => cases h
  | succ m =>
    rw [rngD] at h
    injection h with h1 h2
    exact ⟨m, rfl, h1.symm, h2.symm⟩
theorem rngD_nil {lo : Int} {n : Nat} (h : rngD lo n = []) : n = 0 := by
  cases n with
  | zero => rfl
  | succ m => cases h
theorem atI_int {zs : List Int} {i : Int} (h0 : 0 ≤ i) (h : i < (zs.length : Int)) : ∃ z, atI (zs.map D.int) i = some (.int z) := by
  have hk : i.toNat < zs.length := by omega
  have e : i = ((i.toNat : Nat) : Int) := by omega
  rw [e, atIn, List.getElem?_map, List.getElem?_eq_getElem hk]
  exact ⟨_, rfl⟩
theorem ExtB.ext {M M' : Sto} {p : Addr} (h : M p = none) (e : ExtB p M M') : Ext M M' := fun a o m => e a o (fresh_ne h m) m
theorem map_snoc (zs : List Int) (z : Int) : zs.map D.int ++ [.int z] = (zs ++ [z]).map D.int := by rw [List.map_append]; rfl
def BoxAt (M : Sto) (b d : Addr) : Prop := ∃ (zs : List Int) (at_ : Int), M b = some (.lst [.obj d, .int at_]) ∧ M d = some (.lst (zs.map D.int)) ∧ 0 ≤ at_ ∧ d ≠ b
theorem BoxAt.ext {M M' : Sto} {b d : Addr} (h : BoxAt M b d) (e : Ext M M') : BoxAt M' b d := by
  obtain ⟨zs, at_, h1, h2, h3, h4⟩ := h
  exact ⟨zs, at_, e _ _ h1, e _ _ h2, h3, h4⟩
theorem BoxAt.upd {M : Sto} {b d p : Addr} {mo : MO} (h : BoxAt M b d) (h1 : b ≠ p) (h2 : d ≠ p) : BoxAt (up M p mo) b d := by
  obtain ⟨zs, at_, z1, z2, z3, z4⟩ := h
  exact ⟨zs, at_, by rw [up_ne h1]; exact z1, by rw [up_ne h2]; exact z2, z3, z4⟩
theorem BoxAt.fresh {M : Sto} {b d p : Addr} (h : BoxAt M b d) (hp : M p = none) : b ≠ p ∧ d ≠ p := by
  obtain ⟨zs, at_, z1, z2, z3, z4⟩ := h
  exact ⟨fresh_ne hp z1, fresh_ne hp z2⟩
theorem BoxAt.new {M : Sto} {b d p : Addr} {mo : MO} (h : BoxAt M b d) (hp : M p = none) : BoxAt (up M p mo) b d := h.upd (h.fresh hp).1 (h.fresh hp).2
theorem BoxAt.ne {M : Sto} {b d : Addr} (h : BoxAt M b d) : d ≠ b := by
  obtain ⟨zs, at_, z1, z2, z3, z4⟩ := h
  exact z4
def A_draw : ASp := fun ds M Q _ => ∃ b d n, ds = [.obj b, .int n] ∧ BoxAt M b d ∧ 0 < n ∧ ∀ v M', 0 ≤ v → v < n → BoxAt M' b d → ExtB b M M' → Q (.int v) M'
theorem p__law_draw (ds : List D) (M : Sto) (Q : D → Sto → Prop) (Xa) (hl : ds.length = 2) (h : A_draw ds M Q Xa) : a__law_draw ax0 ⟨fun _ M => Q .non M, Q, fun _ _ => False, fun _ _ => False⟩ (startA ["box", "many", "at"] ds) M := by
  obtain ⟨b, d, n, rfl, ⟨zs, at_, hb, hd, h0, hne⟩, hn, q⟩ := h
  have fin : ∀ v, 0 ≤ v → v < n → Q (.int v) (up M b (.lst [.obj d, .int (at_ + 1)])) := fun v h1 h2 => q v _ h1 h2 ⟨zs, at_ + 1, up_same, by rw [up_ne hne]; exact hd, by omega, hne⟩ ExtB.upd
  unfold a__law_draw
  try (simp only [↓e_seq, ↓e_next, ↓e_break, ↓e_cont, ↓e_expr, ↓e_ret, ↓e_retN, ↓e_if, ↓e_never, ↓e_asg, ↓e_name, ↓e_agtup, ↓e_agcons, ↓e_agnil, ↓e_agsub, ↓e_aug, ↓e_dput, ↓e_var, ↓e_c, ↓e_op, ↓e_some, ↓e_none, ↓e_test, ↓e_and, ↓e_or, ↓e_not, ↓e_yes, ↓e_truth,   ↓e_tru_bl, ↓e_tru_int, ↓e_tru_non, ↓e_tru_str, ↓e_tru_tup, ↓e_tru_obj, ↓e_chain, ↓e_orV, ↓e_andV, ↓e_notV, ↓e_ifE, ↓e_neg, ↓e_nil, ↓e_cons, ↓e_tup, ↓e_lst, ↓e_dnew, ↓e_call, ↓e_cb, ↓e_isi, ↓e_sl, ↓e_onone, ↓e_osome, ↓e_rev, ↓e_lm, ↓e_append, ↓e_extend, ↓e_pop, ↓e_join, ↓e_dget2, ↓e_sortSet, ↓e_sortS, ↓e_setd, strsOf_map, ↓e_maxI, ↓e_disp, ↓e_pairN, ↓e_pairC, intsOf_map, ↓e_for, ↓e_ilist, ↓e_itup, ↓e_rng1, ↓e_rng2, ↓e_lc, ↓e_lc2, e_lc2N, ↓e_ienum, ↓e_izip, ↓e_anyB, ↓e_allB, ↓e_mulS, blsOf_map, ↓e_set0, ↓e_sadd, ↓e_sortTx, ↓e_sortD, ↓e_repr, ↓e_extT, ↓e_sc2, ↓e_sortZ, ↓e_tupVals, ↓e_wget, ↓e_wix, ↓e_listZip, zipD_nil, zipD_cons, ↓e_dgetF, ↓e_idif,   ↓e_add_int, ↓e_add_str, ↓e_add_tup, ↓e_add_obj, ↓e_iadd_int, ↓e_iadd_str, ↓e_iadd_obj, ↓e_I, ↓e_I0, ↓e_IS_int, ↓e_IS_str, ↓e_eq_str, ↓e_ne_str, ↓e_eq_int, ↓e_ne_int, ↓e_eq_bl, ↓e_ne_bl, ↓e_isN, ↓e_notN, ↓e_ix_tup, ↓e_ix_fl, ↓e_ix_str, ↓e_ix_obj, ↓e_in_tup, ↓e_nin_tup, ↓e_len_tup, ↓e_len_fl, ↓e_len_str, ↓e_len_obj, ↓e_int_int, ↓e_tuple_tup, ↓e_tuple_obj, ↓e_list_tup, ↓e_list_obj, ↓e_dget, ↓e_din, ↓e_dnin, ↓e_lstAt, ↓e_dicAt,   e_key_int, e_key_str, e_up, e_ty_str, e_ty_tup, e_ty_int, e_ty_bl, e_ty_non, atI0, atI1, atI2, atI3, atIL, ixN0, ixN1, cut_from1, e_ite_or, e_ite_and, zln, znl, zli, zil, zni, zin, sizeLine_eq, CMul, CDiv, cpow1018, true_or, or_true, kb_strstr, kb_tupstr, kb_tuptup, kb_strtup, kb_inttup, kb_bltup, kb_nontup, kb_strbl, kb_strint, kb_intbl, kb_intint, kb_blbl, kb_blint, kb_nonbl, kb_nonint, kb_nonstr, kb_intstr, kb_blstr, kb_tupbl, kb_tupint,   List.set_cons_zero, List.set_cons_succ, List.set_nil, List.getElem?_cons_zero, List.getElem?_cons_succ, List.getElem?_nil, List.length_cons, List.length_nil, List.length_map, List.length_append, e_lcN, e_lcC, e_forN, e_forC, List.getLast?_concat, List.dropLast_concat, List.nil_append, List.cons_append, List.append_nil, List.append_assoc, List.reverse_cons, List.reverse_nil, List.isEmpty_nil, List.isEmpty_cons, isEmpty_snoc, List.any_cons, List.any_nil, List.all_cons, List.all_nil, flatD, eqF, in_non, in_tup, in_str, in_int, in_bl, in_obj, in_fl, startA, List.map_cons, List.map_nil, List.replicate_succ, List.replicate_zero,   Nat.reduceAdd, Nat.reduceSub, Nat.reduceLeDiff, Nat.zero_add, Int.reduceLE, Int.reduceLT, Int.reduceToNat, Int.reducePow, Int.reduceNeg, Int.reduceAdd, Int.reduceSub,   Option.isSome_some, Option.isSome_none, Bool.not_true, Bool.not_false, Bool.not_eq_true', Bool.not_eq_eq_eq_not, Bool.not_eq_true, Bool.false_eq_true, Bool.true_eq_false, Bool.and_true, Bool.true_and, Bool.or_false, Bool.false_or, Bool.or_true, Bool.true_or, Bool.and_false, Bool.false_and, if_true, if_false, ite_true, ite_false, reduceIte, reduceCtorEq, decide_true, decide_false, decide_eq_true_eq, decide_eq_false_iff_not, true_and, and_true, eq_self, ne_eq, not_false_eq_true, not_true_eq_false, and_self, *])
  split
  · rename_i hlt
    obtain ⟨z, hz⟩ := atI_int h0 hlt
    try (simp only [↓e_seq, ↓e_next, ↓e_break, ↓e_cont, ↓e_expr, ↓e_ret, ↓e_retN, ↓e_if, ↓e_never, ↓e_asg, ↓e_name, ↓e_agtup, ↓e_agcons, ↓e_agnil, ↓e_agsub, ↓e_aug, ↓e_dput, ↓e_var, ↓e_c, ↓e_op, ↓e_some, ↓e_none, ↓e_test, ↓e_and, ↓e_or, ↓e_not, ↓e_yes, ↓e_truth,   ↓e_tru_bl, ↓e_tru_int, ↓e_tru_non, ↓e_tru_str, ↓e_tru_tup, ↓e_tru_obj, ↓e_chain, ↓e_orV, ↓e_andV, ↓e_notV, ↓e_ifE, ↓e_neg, ↓e_nil, ↓e_cons, ↓e_tup, ↓e_lst, ↓e_dnew, ↓e_call, ↓e_cb, ↓e_isi, ↓e_sl, ↓e_onone, ↓e_osome, ↓e_rev, ↓e_lm, ↓e_append, ↓e_extend, ↓e_pop, ↓e_join, ↓e_dget2, ↓e_sortSet, ↓e_sortS, ↓e_setd, strsOf_map, ↓e_maxI, ↓e_disp, ↓e_pairN, ↓e_pairC, intsOf_map, ↓e_for, ↓e_ilist, ↓e_itup, ↓e_rng1, ↓e_rng2, ↓e_lc, ↓e_lc2, e_lc2N, ↓e_ienum, ↓e_izip, ↓e_anyB, ↓e_allB, ↓e_mulS, blsOf_map, ↓e_set0, ↓e_sadd, ↓e_sortTx, ↓e_sortD, ↓e_repr, ↓e_extT, ↓e_sc2, ↓e_sortZ, ↓e_tupVals, ↓e_wget, ↓e_wix, ↓e_listZip, zipD_nil, zipD_cons, ↓e_dgetF, ↓e_idif,   ↓e_add_int, ↓e_add_str, ↓e_add_tup, ↓e_add_obj, ↓e_iadd_int, ↓e_iadd_str, ↓e_iadd_obj, ↓e_I, ↓e_I0, ↓e_IS_int, ↓e_IS_str, ↓e_eq_str, ↓e_ne_str, ↓e_eq_int, ↓e_ne_int, ↓e_eq_bl, ↓e_ne_bl, ↓e_isN, ↓e_notN, ↓e_ix_tup, ↓e_ix_fl, ↓e_ix_str, ↓e_ix_obj, ↓e_in_tup, ↓e_nin_tup, ↓e_len_tup, ↓e_len_fl, ↓e_len_str, ↓e_len_obj, ↓e_int_int, ↓e_tuple_tup, ↓e_tuple_obj, ↓e_list_tup, ↓e_list_obj, ↓e_dget, ↓e_din, ↓e_dnin, ↓e_lstAt, ↓e_dicAt,   e_key_int, e_key_str, e_up, e_ty_str, e_ty_tup, e_ty_int, e_ty_bl, e_ty_non, atI0, atI1, atI2, atI3, atIL, ixN0, ixN1, cut_from1, e_ite_or, e_ite_and, zln, znl, zli, zil, zni, zin, sizeLine_eq, CMul, CDiv, cpow1018, true_or, or_true, kb_strstr, kb_tupstr, kb_tuptup, kb_strtup, kb_inttup, kb_bltup, kb_nontup, kb_strbl, kb_strint, kb_intbl, kb_intint, kb_blbl, kb_blint, kb_nonbl, kb_nonint, kb_nonstr, kb_intstr, kb_blstr, kb_tupbl, kb_tupint,   List.set_cons_zero, List.set_cons_succ, List.set_nil, List.getElem?_cons_zero, List.getElem?_cons_succ, List.getElem?_nil, List.length_cons, List.length_nil, List.length_map, List.length_append, e_lcN, e_lcC, e_forN, e_forC, List.getLast?_concat, List.dropLast_concat, List.nil_append, List.cons_append, List.append_nil, List.append_assoc, List.reverse_cons, List.reverse_nil, List.isEmpty_nil, List.isEmpty_cons, isEmpty_snoc, List.any_cons, List.any_nil, List.all_cons, List.all_nil, flatD, eqF, in_non, in_tup, in_str, in_int, in_bl, in_obj, in_fl, startA, List.map_cons, List.map_nil, List.replicate_succ, List.replicate_zero,   Nat.reduceAdd, Nat.reduceSub, Nat.reduceLeDiff, Nat.zero_add, Int.reduceLE, Int.reduceLT, Int.reduceToNat, Int.reducePow, Int.reduceNeg, Int.reduceAdd, Int.reduceSub,   Option.isSome_some, Option.isSome_none, Bool.not_true, Bool.not_false, Bool.not_eq_true', Bool.not_eq_eq_eq_not, Bool.not_eq_true, Bool.false_eq_true, Bool.true_eq_false, Bool.and_true, Bool.true_and, Bool.or_false, Bool.false_or, Bool.or_true, Bool.true_or, Bool.and_false, Bool.false_and, if_true, if_false, ite_true, ite_false, reduceIte, reduceCtorEq, decide_true, decide_false, decide_eq_true_eq, decide_eq_false_iff_not, true_and, and_true, eq_self, ne_eq, not_false_eq_true, not_true_eq_false, and_self, *])
    exact fin _ (Int.emod_nonneg _ (by omega)) (Int.emod_lt_of_pos _ hn)
  · trivial
def A_cell : ASp := fun ds M Q _ => ∃ (ns : List Int) (k : Int), ds = [.fl (ns.map D.int), .int k] ∧ 0 ≤ k ∧ ∀ v, Q (.int v) M
theorem p__law_cell (ds : List D) (M : Sto) (Q : D → Sto → Prop) (Xa) (hl : ds.length = 2) (h : A_cell ds M Q Xa) : a__law_cell ax0 ⟨fun _ M => Q .non M, Q, fun _ _ => False, fun _ _ => False⟩ (startA ["script", "k"] ds) M := by
  obtain ⟨ns, k, rfl, h0, q⟩ := h
  unfold a__law_cell
  try (simp only [↓e_seq, ↓e_next, ↓e_break, ↓e_cont, ↓e_expr, ↓e_ret, ↓e_retN, ↓e_if, ↓e_never, ↓e_asg, ↓e_name, ↓e_agtup, ↓e_agcons, ↓e_agnil, ↓e_agsub, ↓e_aug, ↓e_dput, ↓e_var, ↓e_c, ↓e_op, ↓e_some, ↓e_none, ↓e_test, ↓e_and, ↓e_or, ↓e_not, ↓e_yes, ↓e_truth,   ↓e_tru_bl, ↓e_tru_int, ↓e_tru_non, ↓e_tru_str, ↓e_tru_tup, ↓e_tru_obj, ↓e_chain, ↓e_orV, ↓e_andV, ↓e_notV, ↓e_ifE, ↓e_neg, ↓e_nil, ↓e_cons, ↓e_tup, ↓e_lst, ↓e_dnew, ↓e_call, ↓e_cb, ↓e_isi, ↓e_sl, ↓e_onone, ↓e_osome, ↓e_rev, ↓e_lm, ↓e_append, ↓e_extend, ↓e_pop, ↓e_join, ↓e_dget2, ↓e_sortSet, ↓e_sortS, ↓e_setd, strsOf_map, ↓e_maxI, ↓e_disp, ↓e_pairN, ↓e_pairC, intsOf_map, ↓e_for, ↓e_ilist, ↓e_itup, ↓e_rng1, ↓e_rng2, ↓e_lc, ↓e_lc2, e_lc2N, ↓e_ienum, ↓e_izip, ↓e_anyB, ↓e_allB, ↓e_mulS, blsOf_map, ↓e_set0, ↓e_sadd, ↓e_sortTx, ↓e_sortD, ↓e_repr, ↓e_extT, ↓e_sc2, ↓e_sortZ, ↓e_tupVals, ↓e_wget, ↓e_wix, ↓e_listZip, zipD_nil, zipD_cons, ↓e_dgetF, ↓e_idif,   ↓e_add_int, ↓e_add_str, ↓e_add_tup, ↓e_add_obj, ↓e_iadd_int, ↓e_iadd_str, ↓e_iadd_obj, ↓e_I, ↓e_I0, ↓e_IS_int, ↓e_IS_str, ↓e_eq_str, ↓e_ne_str, ↓e_eq_int, ↓e_ne_int, ↓e_eq_bl, ↓e_ne_bl, ↓e_isN, ↓e_notN, ↓e_ix_tup, ↓e_ix_fl, ↓e_ix_str, ↓e_ix_obj, ↓e_in_tup, ↓e_nin_tup, ↓e_len_tup, ↓e_len_fl, ↓e_len_str, ↓e_len_obj, ↓e_int_int, ↓e_tuple_tup, ↓e_tuple_obj, ↓e_list_tup, ↓e_list_obj, ↓e_dget, ↓e_din, ↓e_dnin, ↓e_lstAt, ↓e_dicAt,   e_key_int, e_key_str, e_up, e_ty_str, e_ty_tup, e_ty_int, e_ty_bl, e_ty_non, atI0, atI1, atI2, atI3, atIL, ixN0, ixN1, cut_from1, e_ite_or, e_ite_and, zln, znl, zli, zil, zni, zin, sizeLine_eq, CMul, CDiv, cpow1018, true_or, or_true, kb_strstr, kb_tupstr, kb_tuptup, kb_strtup, kb_inttup, kb_bltup, kb_nontup, kb_strbl, kb_strint, kb_intbl, kb_intint, kb_blbl, kb_blint, kb_nonbl, kb_nonint, kb_nonstr, kb_intstr, kb_blstr, kb_tupbl, kb_tupint,   List.set_cons_zero, List.set_cons_succ, List.set_nil, List.getElem?_cons_zero, List.getElem?_cons_succ, List.getElem?_nil, List.length_cons, List.length_nil, List.length_map, List.length_append, e_lcN, e_lcC, e_forN, e_forC, List.getLast?_concat, List.dropLast_concat, List.nil_append, List.cons_append, List.append_nil, List.append_assoc, List.reverse_cons, List.reverse_nil, List.isEmpty_nil, List.isEmpty_cons, isEmpty_snoc, List.any_cons, List.any_nil, List.all_cons, List.all_nil, flatD, eqF, in_non, in_tup, in_str, in_int, in_bl, in_obj, in_fl, startA, List.map_cons, List.map_nil, List.replicate_succ, List.replicate_zero,   Nat.reduceAdd, Nat.reduceSub, Nat.reduceLeDiff, Nat.zero_add, Int.reduceLE, Int.reduceLT, Int.reduceToNat, Int.reducePow, Int.reduceNeg, Int.reduceAdd, Int.reduceSub,   Option.isSome_some, Option.isSome_none, Bool.not_true, Bool.not_false, Bool.not_eq_true', Bool.not_eq_eq_eq_not, Bool.not_eq_true, Bool.false_eq_true, Bool.true_eq_false, Bool.and_true, Bool.true_and, Bool.or_false, Bool.false_or, Bool.or_true, Bool.true_or, Bool.and_false, Bool.false_and, if_true, if_false, ite_true, ite_false, reduceIte, reduceCtorEq, decide_true, decide_false, decide_eq_true_eq, decide_eq_false_iff_not, true_and, and_true, eq_self, ne_eq, not_false_eq_true, not_true_eq_false, and_self, *])
  split
  · rename_i hlt
    obtain ⟨z, hz⟩ := atI_int h0 hlt
    try (simp only [↓e_seq, ↓e_next, ↓e_break, ↓e_cont, ↓e_expr, ↓e_ret, ↓e_retN, ↓e_if, ↓e_never, ↓e_asg, ↓e_name, ↓e_agtup, ↓e_agcons, ↓e_agnil, ↓e_agsub, ↓e_aug, ↓e_dput, ↓e_var, ↓e_c, ↓e_op, ↓e_some, ↓e_none, ↓e_test, ↓e_and, ↓e_or, ↓e_not, ↓e_yes, ↓e_truth,   ↓e_tru_bl, ↓e_tru_int, ↓e_tru_non, ↓e_tru_str, ↓e_tru_tup, ↓e_tru_obj, ↓e_chain, ↓e_orV, ↓e_andV, ↓e_notV, ↓e_ifE, ↓e_neg, ↓e_nil, ↓e_cons, ↓e_tup, ↓e_lst, ↓e_dnew, ↓e_call, ↓e_cb, ↓e_isi, ↓e_sl, ↓e_onone, ↓e_osome, ↓e_rev, ↓e_lm, ↓e_append, ↓e_extend, ↓e_pop, ↓e_join, ↓e_dget2, ↓e_sortSet, ↓e_sortS, ↓e_setd, strsOf_map, ↓e_maxI, ↓e_disp, ↓e_pairN, ↓e_pairC, intsOf_map, ↓e_for, ↓e_ilist, ↓e_itup, ↓e_rng1, ↓e_rng2, ↓e_lc, ↓e_lc2, e_lc2N, ↓e_ienum, ↓e_izip, ↓e_anyB, ↓e_allB, ↓e_mulS, blsOf_map, ↓e_set0, ↓e_sadd, ↓e_sortTx, ↓e_sortD, ↓e_repr, ↓e_extT, ↓e_sc2, ↓e_sortZ, ↓e_tupVals, ↓e_wget, ↓e_wix, ↓e_listZip, zipD_nil, zipD_cons, ↓e_dgetF, ↓e_idif,   ↓e_add_int, ↓e_add_str, ↓e_add_tup, ↓e_add_obj, ↓e_iadd_int, ↓e_iadd_str, ↓e_iadd_obj, ↓e_I, ↓e_I0, ↓e_IS_int, ↓e_IS_str, ↓e_eq_str, ↓e_ne_str, ↓e_eq_int, ↓e_ne_int, ↓e_eq_bl, ↓e_ne_bl, ↓e_isN, ↓e_notN, ↓e_ix_tup, ↓e_ix_fl, ↓e_ix_str, ↓e_ix_obj, ↓e_in_tup, ↓e_nin_tup, ↓e_len_tup, ↓e_len_fl, ↓e_len_str, ↓e_len_obj, ↓e_int_int, ↓e_tuple_tup, ↓e_tuple_obj, ↓e_list_tup, ↓e_list_obj, ↓e_dget, ↓e_din, ↓e_dnin, ↓e_lstAt, ↓e_dicAt,   e_key_int, e_key_str, e_up, e_ty_str, e_ty_tup, e_ty_int, e_ty_bl, e_ty_non, atI0, atI1, atI2, atI3, atIL, ixN0, ixN1, cut_from1, e_ite_or, e_ite_and, zln, znl, zli, zil, zni, zin, sizeLine_eq, CMul, CDiv, cpow1018, true_or, or_true, kb_strstr, kb_tupstr, kb_tuptup, kb_strtup, kb_inttup, kb_bltup, kb_nontup, kb_strbl, kb_strint, kb_intbl, kb_intint, kb_blbl, kb_blint, kb_nonbl, kb_nonint, kb_nonstr, kb_intstr, kb_blstr, kb_tupbl, kb_tupint,   List.set_cons_zero, List.set_cons_succ, List.set_nil, List.getElem?_cons_zero, List.getElem?_cons_succ, List.getElem?_nil, List.length_cons, List.length_nil, List.length_map, List.length_append, e_lcN, e_lcC, e_forN, e_forC, List.getLast?_concat, List.dropLast_concat, List.nil_append, List.cons_append, List.append_nil, List.append_assoc, List.reverse_cons, List.reverse_nil, List.isEmpty_nil, List.isEmpty_cons, isEmpty_snoc, List.any_cons, List.any_nil, List.all_cons, List.all_nil, flatD, eqF, in_non, in_tup, in_str, in_int, in_bl, in_obj, in_fl, startA, List.map_cons, List.map_nil, List.replicate_succ, List.replicate_zero,   Nat.reduceAdd, Nat.reduceSub, Nat.reduceLeDiff, Nat.zero_add, Int.reduceLE, Int.reduceLT, Int.reduceToNat, Int.reducePow, Int.reduceNeg, Int.reduceAdd, Int.reduceSub,   Option.isSome_some, Option.isSome_none, Bool.not_true, Bool.not_false, Bool.not_eq_true', Bool.not_eq_eq_eq_not, Bool.not_eq_true, Bool.false_eq_true, Bool.true_eq_false, Bool.and_true, Bool.true_and, Bool.or_false, Bool.false_or, Bool.or_true, Bool.true_or, Bool.and_false, Bool.false_and, if_true, if_false, ite_true, ite_false, reduceIte, reduceCtorEq, decide_true, decide_false, decide_eq_true_eq, decide_eq_false_iff_not, true_and, and_true, eq_self, ne_eq, not_false_eq_true, not_true_eq_false, and_self, *])
  · trivial
def A_digits : ASp := fun ds M Q _ => ∃ (ns : List Int) (n : Int), ds = [.fl (ns.map D.int), .int 0, .int n] ∧ 0 ≤ n ∧ n ≤ 63 ∧ ∀ p (zs : List Int) M', M p = none → Ext M M' → M' p = some (.lst (zs.map D.int)) → Q (.obj p) M'
theorem p__law_digits (ds : List D) (M : Sto) (Q : D → Sto → Prop) (Xa) (hl : ds.length = 3) (h : A_digits ds M Q Xa) : a__law_digits A_cell ax0 ⟨fun _ M => Q .non M, Q, fun _ _ => False, fun _ _ => False⟩ (startA ["script", "first", "last", "digits", "k", "cell", "turn", "seed"] ds) M := by
  obtain ⟨ns, n, rfl, h0, h1, q⟩ := h
  unfold a__law_digits
  try (simp only [↓e_seq, ↓e_next, ↓e_break, ↓e_cont, ↓e_expr, ↓e_ret, ↓e_retN, ↓e_if, ↓e_never, ↓e_asg, ↓e_name, ↓e_agtup, ↓e_agcons, ↓e_agnil, ↓e_agsub, ↓e_aug, ↓e_dput, ↓e_var, ↓e_c, ↓e_op, ↓e_some, ↓e_none, ↓e_test, ↓e_and, ↓e_or, ↓e_not, ↓e_yes, ↓e_truth,   ↓e_tru_bl, ↓e_tru_int, ↓e_tru_non, ↓e_tru_str, ↓e_tru_tup, ↓e_tru_obj, ↓e_chain, ↓e_orV, ↓e_andV, ↓e_notV, ↓e_ifE, ↓e_neg, ↓e_nil, ↓e_cons, ↓e_tup, ↓e_lst, ↓e_dnew, ↓e_call, ↓e_cb, ↓e_isi, ↓e_sl, ↓e_onone, ↓e_osome, ↓e_rev, ↓e_lm, ↓e_append, ↓e_extend, ↓e_pop, ↓e_join, ↓e_dget2, ↓e_sortSet, ↓e_sortS, ↓e_setd, strsOf_map, ↓e_maxI, ↓e_disp, ↓e_pairN, ↓e_pairC, intsOf_map, ↓e_for, ↓e_ilist, ↓e_itup, ↓e_rng1, ↓e_rng2, ↓e_lc, ↓e_lc2, e_lc2N, ↓e_ienum, ↓e_izip, ↓e_anyB, ↓e_allB, ↓e_mulS, blsOf_map, ↓e_set0, ↓e_sadd, ↓e_sortTx, ↓e_sortD, ↓e_repr, ↓e_extT, ↓e_sc2, ↓e_sortZ, ↓e_tupVals, ↓e_wget, ↓e_wix, ↓e_listZip, zipD_nil, zipD_cons, ↓e_dgetF, ↓e_idif,   ↓e_add_int, ↓e_add_str, ↓e_add_tup, ↓e_add_obj, ↓e_iadd_int, ↓e_iadd_str, ↓e_iadd_obj, ↓e_I, ↓e_I0, ↓e_IS_int, ↓e_IS_str, ↓e_eq_str, ↓e_ne_str, ↓e_eq_int, ↓e_ne_int, ↓e_eq_bl, ↓e_ne_bl, ↓e_isN, ↓e_notN, ↓e_ix_tup, ↓e_ix_fl, ↓e_ix_str, ↓e_ix_obj, ↓e_in_tup, ↓e_nin_tup, ↓e_len_tup, ↓e_len_fl, ↓e_len_str, ↓e_len_obj, ↓e_int_int, ↓e_tuple_tup, ↓e_tuple_obj, ↓e_list_tup, ↓e_list_obj, ↓e_dget, ↓e_din, ↓e_dnin, ↓e_lstAt, ↓e_dicAt,   e_key_int, e_key_str, e_up, e_ty_str, e_ty_tup, e_ty_int, e_ty_bl, e_ty_non, atI0, atI1, atI2, atI3, atIL, ixN0, ixN1, cut_from1, e_ite_or, e_ite_and, zln, znl, zli, zil, zni, zin, sizeLine_eq, CMul, CDiv, cpow1018, true_or, or_true, kb_strstr, kb_tupstr, kb_tuptup, kb_strtup, kb_inttup, kb_bltup, kb_nontup, kb_strbl, kb_strint, kb_intbl, kb_intint, kb_blbl, kb_blint, kb_nonbl, kb_nonint, kb_nonstr, kb_intstr, kb_blstr, kb_tupbl, kb_tupint,   List.set_cons_zero, List.set_cons_succ, List.set_nil, List.getElem?_cons_zero, List.getElem?_cons_succ, List.getElem?_nil, List.length_cons, List.length_nil, List.length_map, List.length_append, e_lcN, e_lcC, e_forN, e_forC, List.getLast?_concat, List.dropLast_concat, List.nil_append, List.cons_append, List.append_nil, List.append_assoc, List.reverse_cons, List.reverse_nil, List.isEmpty_nil, List.isEmpty_cons, isEmpty_snoc, List.any_cons, List.any_nil, List.all_cons, List.all_nil, flatD, eqF, in_non, in_tup, in_str, in_int, in_bl, in_obj, in_fl, startA, List.map_cons, List.map_nil, List.replicate_succ, List.replicate_zero,   Nat.reduceAdd, Nat.reduceSub, Nat.reduceLeDiff, Nat.zero_add, Int.reduceLE, Int.reduceLT, Int.reduceToNat, Int.reducePow, Int.reduceNeg, Int.reduceAdd, Int.reduceSub,   Option.isSome_some, Option.isSome_none, Bool.not_true, Bool.not_false, Bool.not_eq_true', Bool.not_eq_eq_eq_not, Bool.not_eq_true, Bool.false_eq_true, Bool.true_eq_false, Bool.and_true, Bool.true_and, Bool.or_false, Bool.false_or, Bool.or_true, Bool.true_or, Bool.and_false, Bool.false_and, if_true, if_false, ite_true, ite_false, reduceIte, reduceCtorEq, decide_true, decide_false, decide_eq_true_eq, decide_eq_false_iff_not, true_and, and_true, eq_self, ne_eq, not_false_eq_true, not_true_eq_false, and_self, *])
  intro p hp
  try (simp only [↓e_seq, ↓e_next, ↓e_break, ↓e_cont, ↓e_expr, ↓e_ret, ↓e_retN, ↓e_if, ↓e_never, ↓e_asg, ↓e_name, ↓e_agtup, ↓e_agcons, ↓e_agnil, ↓e_agsub, ↓e_aug, ↓e_dput, ↓e_var, ↓e_c, ↓e_op, ↓e_some, ↓e_none, ↓e_test, ↓e_and, ↓e_or, ↓e_not, ↓e_yes, ↓e_truth,   ↓e_tru_bl, ↓e_tru_int, ↓e_tru_non, ↓e_tru_str, ↓e_tru_tup, ↓e_tru_obj, ↓e_chain, ↓e_orV, ↓e_andV, ↓e_notV, ↓e_ifE, ↓e_neg, ↓e_nil, ↓e_cons, ↓e_tup, ↓e_lst, ↓e_dnew, ↓e_call, ↓e_cb, ↓e_isi, ↓e_sl, ↓e_onone, ↓e_osome, ↓e_rev, ↓e_lm, ↓e_append, ↓e_extend, ↓e_pop, ↓e_join, ↓e_dget2, ↓e_sortSet, ↓e_sortS, ↓e_setd, strsOf_map, ↓e_maxI, ↓e_disp, ↓e_pairN, ↓e_pairC, intsOf_map, ↓e_for, ↓e_ilist, ↓e_itup, ↓e_rng1, ↓e_rng2, ↓e_lc, ↓e_lc2, e_lc2N, ↓e_ienum, ↓e_izip, ↓e_anyB, ↓e_allB, ↓e_mulS, blsOf_map, ↓e_set0, ↓e_sadd, ↓e_sortTx, ↓e_sortD, ↓e_repr, ↓e_extT, ↓e_sc2, ↓e_sortZ, ↓e_tupVals, ↓e_wget, ↓e_wix, ↓e_listZip, zipD_nil, zipD_cons, ↓e_dgetF, ↓e_idif,   ↓e_add_int, ↓e_add_str, ↓e_add_tup, ↓e_add_obj, ↓e_iadd_int, ↓e_iadd_str, ↓e_iadd_obj, ↓e_I, ↓e_I0, ↓e_IS_int, ↓e_IS_str, ↓e_eq_str, ↓e_ne_str, ↓e_eq_int, ↓e_ne_int, ↓e_eq_bl, ↓e_ne_bl, ↓e_isN, ↓e_notN, ↓e_ix_tup, ↓e_ix_fl, ↓e_ix_str, ↓e_ix_obj, ↓e_in_tup, ↓e_nin_tup, ↓e_len_tup, ↓e_len_fl, ↓e_len_str, ↓e_len_obj, ↓e_int_int, ↓e_tuple_tup, ↓e_tuple_obj, ↓e_list_tup, ↓e_list_obj, ↓e_dget, ↓e_din, ↓e_dnin, ↓e_lstAt, ↓e_dicAt,   e_key_int, e_key_str, e_up, e_ty_str, e_ty_tup, e_ty_int, e_ty_bl, e_ty_non, atI0, atI1, atI2, atI3, atIL, ixN0, ixN1, cut_from1, e_ite_or, e_ite_and, zln, znl, zli, zil, zni, zin, sizeLine_eq, CMul, CDiv, cpow1018, true_or, or_true, kb_strstr, kb_tupstr, kb_tuptup, kb_strtup, kb_inttup, kb_bltup, kb_nontup, kb_strbl, kb_strint, kb_intbl, kb_intint, kb_blbl, kb_blint, kb_nonbl, kb_nonint, kb_nonstr, kb_intstr, kb_blstr, kb_tupbl, kb_tupint,   List.set_cons_zero, List.set_cons_succ, List.set_nil, List.getElem?_cons_zero, List.getElem?_cons_succ, List.getElem?_nil, List.length_cons, List.length_nil, List.length_map, List.length_append, e_lcN, e_lcC, e_forN, e_forC, List.getLast?_concat, List.dropLast_concat, List.nil_append, List.cons_append, List.append_nil, List.append_assoc, List.reverse_cons, List.reverse_nil, List.isEmpty_nil, List.isEmpty_cons, isEmpty_snoc, List.any_cons, List.any_nil, List.all_cons, List.all_nil, flatD, eqF, in_non, in_tup, in_str, in_int, in_bl, in_obj, in_fl, startA, List.map_cons, List.map_nil, List.replicate_succ, List.replicate_zero,   Nat.reduceAdd, Nat.reduceSub, Nat.reduceLeDiff, Nat.zero_add, Int.reduceLE, Int.reduceLT, Int.reduceToNat, Int.reducePow, Int.reduceNeg, Int.reduceAdd, Int.reduceSub,   Option.isSome_some, Option.isSome_none, Bool.not_true, Bool.not_false, Bool.not_eq_true', Bool.not_eq_eq_eq_not, Bool.not_eq_true, Bool.false_eq_true, Bool.true_eq_false, Bool.and_true, Bool.true_and, Bool.or_false, Bool.false_or, Bool.or_true, Bool.true_or, Bool.and_false, Bool.false_and, if_true, if_false, ite_true, ite_false, reduceIte, reduceCtorEq, decide_true, decide_false, decide_eq_true_eq, decide_eq_false_iff_not, true_and, and_true, eq_self, ne_eq, not_false_eq_true, not_true_eq_false, and_self, *])
  refine ⟨⟨by omega, by omega⟩, ?_⟩
  refine for_run (fun ds env M' => ∃ lo m x4 x5 x6 x7 zs, ds = rngD lo m ∧ 0 ≤ lo ∧ lo ≤ 100 ∧ lo + m ≤ 100 ∧ env = [some (.fl (ns.map D.int)), some (.int 0), some (.int n), some (.obj p), x4, x5, x6, x7] ∧ M' p = some (.lst (zs.map D.int)) ∧ ExtB p M M' ∧ zs.length + 60 * m ≤ 10000) (fun _ _ _ _ => trivial) ?_ ?_ ⟨0, _, none, none, none, none, [], rfl, by omega, by omega, by omega, rfl, up_same, ExtB.upd, by simp; omega⟩
  · rintro env M' ⟨lo, m, x4, x5, x6, x7, zs, _, _, _, _, rfl, hp', he, _⟩
    try (simp only [↓e_seq, ↓e_next, ↓e_break, ↓e_cont, ↓e_expr, ↓e_ret, ↓e_retN, ↓e_if, ↓e_never, ↓e_asg, ↓e_name, ↓e_agtup, ↓e_agcons, ↓e_agnil, ↓e_agsub, ↓e_aug, ↓e_dput, ↓e_var, ↓e_c, ↓e_op, ↓e_some, ↓e_none, ↓e_test, ↓e_and, ↓e_or, ↓e_not, ↓e_yes, ↓e_truth,   ↓e_tru_bl, ↓e_tru_int, ↓e_tru_non, ↓e_tru_str, ↓e_tru_tup, ↓e_tru_obj, ↓e_chain, ↓e_orV, ↓e_andV, ↓e_notV, ↓e_ifE, ↓e_neg, ↓e_nil, ↓e_cons, ↓e_tup, ↓e_lst, ↓e_dnew, ↓e_call, ↓e_cb, ↓e_isi, ↓e_sl, ↓e_onone, ↓e_osome, ↓e_rev, ↓e_lm, ↓e_append, ↓e_extend, ↓e_pop, ↓e_join, ↓e_dget2, ↓e_sortSet, ↓e_sortS, ↓e_setd, strsOf_map, ↓e_maxI, ↓e_disp, ↓e_pairN, ↓e_pairC, intsOf_map, ↓e_for, ↓e_ilist, ↓e_itup, ↓e_rng1, ↓e_rng2, ↓e_lc, ↓e_lc2, e_lc2N, ↓e_ienum, ↓e_izip, ↓e_anyB, ↓e_allB, ↓e_mulS, blsOf_map, ↓e_set0, ↓e_sadd, ↓e_sortTx, ↓e_sortD, ↓e_repr, ↓e_extT, ↓e_sc2, ↓e_sortZ, ↓e_tupVals, ↓e_wget, ↓e_wix, ↓e_listZip, zipD_nil, zipD_cons, ↓e_dgetF, ↓e_idif,   ↓e_add_int, ↓e_add_str, ↓e_add_tup, ↓e_add_obj, ↓e_iadd_int, ↓e_iadd_str, ↓e_iadd_obj, ↓e_I, ↓e_I0, ↓e_IS_int, ↓e_IS_str, ↓e_eq_str, ↓e_ne_str, ↓e_eq_int, ↓e_ne_int, ↓e_eq_bl, ↓e_ne_bl, ↓e_isN, ↓e_notN, ↓e_ix_tup, ↓e_ix_fl, ↓e_ix_str, ↓e_ix_obj, ↓e_in_tup, ↓e_nin_tup, ↓e_len_tup, ↓e_len_fl, ↓e_len_str, ↓e_len_obj, ↓e_int_int, ↓e_tuple_tup, ↓e_tuple_obj, ↓e_list_tup, ↓e_list_obj, ↓e_dget, ↓e_din, ↓e_dnin, ↓e_lstAt, ↓e_dicAt,   e_key_int, e_key_str, e_up, e_ty_str, e_ty_tup, e_ty_int, e_ty_bl, e_ty_non, atI0, atI1, atI2, atI3, atIL, ixN0, ixN1, cut_from1, e_ite_or, e_ite_and, zln, znl, zli, zil, zni, zin, sizeLine_eq, CMul, CDiv, cpow1018, true_or, or_true, kb_strstr, kb_tupstr, kb_tuptup, kb_strtup, kb_inttup, kb_bltup, kb_nontup, kb_strbl, kb_strint, kb_intbl, kb_intint, kb_blbl, kb_blint, kb_nonbl, kb_nonint, kb_nonstr, kb_intstr, kb_blstr, kb_tupbl, kb_tupint,   List.set_cons_zero, List.set_cons_succ, List.set_nil, List.getElem?_cons_zero, List.getElem?_cons_succ, List.getElem?_nil, List.length_cons, List.length_nil, List.length_map, List.length_append, e_lcN, e_lcC, e_forN, e_forC, List.getLast?_concat, List.dropLast_concat, List.nil_append, List.cons_append, List.append_nil, List.append_assoc, List.reverse_cons, List.reverse_nil, List.isEmpty_nil, List.isEmpty_cons, isEmpty_snoc, List.any_cons, List.any_nil, List.all_cons, List.all_nil, flatD, eqF, in_non, in_tup, in_str, in_int, in_bl, in_obj, in_fl, startA, List.map_cons, List.map_nil, List.replicate_succ, List.replicate_zero,   Nat.reduceAdd, Nat.reduceSub, Nat.reduceLeDiff, Nat.zero_add, Int.reduceLE, Int.reduceLT, Int.reduceToNat, Int.reducePow, Int.reduceNeg, Int.reduceAdd, Int.reduceSub,   Option.isSome_some, Option.isSome_none, Bool.not_true, Bool.not_false, Bool.not_eq_true', Bool.not_eq_eq_eq_not, Bool.not_eq_true, Bool.false_eq_true, Bool.true_eq_false, Bool.and_true, Bool.true_and, Bool.or_false, Bool.false_or, Bool.or_true, Bool.true_or, Bool.and_false, Bool.false_and, if_true, if_false, ite_true, ite_false, reduceIte, reduceCtorEq, decide_true, decide_false, decide_eq_true_eq, decide_eq_false_iff_not, true_and, and_true, eq_self, ne_eq, not_false_eq_true, not_true_eq_false, and_self, *])
    exact q p zs M' hp (he.ext hp) hp'
  · rintro d r N env M' ⟨lo, m, x4, x5, x6, x7, zs, hd, hlo, hlo1, hlo2, rfl, hp', he, hz⟩ next
    obtain ⟨m, rfl, rfl, rfl⟩ := rngD_cons hd.symm
    try (simp only [↓e_seq, ↓e_next, ↓e_break, ↓e_cont, ↓e_expr, ↓e_ret, ↓e_retN, ↓e_if, ↓e_never, ↓e_asg, ↓e_name, ↓e_agtup, ↓e_agcons, ↓e_agnil, ↓e_agsub, ↓e_aug, ↓e_dput, ↓e_var, ↓e_c, ↓e_op, ↓e_some, ↓e_none, ↓e_test, ↓e_and, ↓e_or, ↓e_not, ↓e_yes, ↓e_truth,   ↓e_tru_bl, ↓e_tru_int, ↓e_tru_non, ↓e_tru_str, ↓e_tru_tup, ↓e_tru_obj, ↓e_chain, ↓e_orV, ↓e_andV, ↓e_notV, ↓e_ifE, ↓e_neg, ↓e_nil, ↓e_cons, ↓e_tup, ↓e_lst, ↓e_dnew, ↓e_call, ↓e_cb, ↓e_isi, ↓e_sl, ↓e_onone, ↓e_osome, ↓e_rev, ↓e_lm, ↓e_append, ↓e_extend, ↓e_pop, ↓e_join, ↓e_dget2, ↓e_sortSet, ↓e_sortS, ↓e_setd, strsOf_map, ↓e_maxI, ↓e_disp, ↓e_pairN, ↓e_pairC, intsOf_map, ↓e_for, ↓e_ilist, ↓e_itup, ↓e_rng1, ↓e_rng2, ↓e_lc, ↓e_lc2, e_lc2N, ↓e_ienum, ↓e_izip, ↓e_anyB, ↓e_allB, ↓e_mulS, blsOf_map, ↓e_set0, ↓e_sadd, ↓e_sortTx, ↓e_sortD, ↓e_repr, ↓e_extT, ↓e_sc2, ↓e_sortZ, ↓e_tupVals, ↓e_wget, ↓e_wix, ↓e_listZip, zipD_nil, zipD_cons, ↓e_dgetF, ↓e_idif,   ↓e_add_int, ↓e_add_str, ↓e_add_tup, ↓e_add_obj, ↓e_iadd_int, ↓e_iadd_str, ↓e_iadd_obj, ↓e_I, ↓e_I0, ↓e_IS_int, ↓e_IS_str, ↓e_eq_str, ↓e_ne_str, ↓e_eq_int, ↓e_ne_int, ↓e_eq_bl, ↓e_ne_bl, ↓e_isN, ↓e_notN, ↓e_ix_tup, ↓e_ix_fl, ↓e_ix_str, ↓e_ix_obj, ↓e_in_tup, ↓e_nin_tup, ↓e_len_tup, ↓e_len_fl, ↓e_len_str, ↓e_len_obj, ↓e_int_int, ↓e_tuple_tup, ↓e_tuple_obj, ↓e_list_tup, ↓e_list_obj, ↓e_dget, ↓e_din, ↓e_dnin, ↓e_lstAt, ↓e_dicAt,   e_key_int, e_key_str, e_up, e_ty_str, e_ty_tup, e_ty_int, e_ty_bl, e_ty_non, atI0, atI1, atI2, atI3, atIL, ixN0, ixN1, cut_from1, e_ite_or, e_ite_and, zln, znl, zli, zil, zni, zin, sizeLine_eq, CMul, CDiv, cpow1018, true_or, or_true, kb_strstr, kb_tupstr, kb_tuptup, kb_strtup, kb_inttup, kb_bltup, kb_nontup, kb_strbl, kb_strint, kb_intbl, kb_intint, kb_blbl, kb_blint, kb_nonbl, kb_nonint, kb_nonstr, kb_intstr, kb_blstr, kb_tupbl, kb_tupint,   List.set_cons_zero, List.set_cons_succ, List.set_nil, List.getElem?_cons_zero, List.getElem?_cons_succ, List.getElem?_nil, List.length_cons, List.length_nil, List.length_map, List.length_append, e_lcN, e_lcC, e_forN, e_forC, List.getLast?_concat, List.dropLast_concat, List.nil_append, List.cons_append, List.append_nil, List.append_assoc, List.reverse_cons, List.reverse_nil, List.isEmpty_nil, List.isEmpty_cons, isEmpty_snoc, List.any_cons, List.any_nil, List.all_cons, List.all_nil, flatD, eqF, in_non, in_tup, in_str, in_int, in_bl, in_obj, in_fl, startA, List.map_cons, List.map_nil, List.replicate_succ, List.replicate_zero,   Nat.reduceAdd, Nat.reduceSub, Nat.reduceLeDiff, Nat.zero_add, Int.reduceLE, Int.reduceLT, Int.reduceToNat, Int.reducePow, Int.reduceNeg, Int.reduceAdd, Int.reduceSub,   Option.isSome_some, Option.isSome_none, Bool.not_true, Bool.not_false, Bool.not_eq_true', Bool.not_eq_eq_eq_not, Bool.not_eq_true, Bool.false_eq_true, Bool.true_eq_false, Bool.and_true, Bool.true_and, Bool.or_false, Bool.false_or, Bool.or_true, Bool.true_or, Bool.and_false, Bool.false_and, if_true, if_false, ite_true, ite_false, reduceIte, reduceCtorEq, decide_true, decide_false, decide_eq_true_eq, decide_eq_false_iff_not, true_and, and_true, eq_self, ne_eq, not_false_eq_true, not_true_eq_false, and_self, *])
    refine ⟨rfl, ns, lo, rfl, hlo, fun v => ?_⟩
    try (simp only [↓e_seq, ↓e_next, ↓e_break, ↓e_cont, ↓e_expr, ↓e_ret, ↓e_retN, ↓e_if, ↓e_never, ↓e_asg, ↓e_name, ↓e_agtup, ↓e_agcons, ↓e_agnil, ↓e_agsub, ↓e_aug, ↓e_dput, ↓e_var, ↓e_c, ↓e_op, ↓e_some, ↓e_none, ↓e_test, ↓e_and, ↓e_or, ↓e_not, ↓e_yes, ↓e_truth,   ↓e_tru_bl, ↓e_tru_int, ↓e_tru_non, ↓e_tru_str, ↓e_tru_tup, ↓e_tru_obj, ↓e_chain, ↓e_orV, ↓e_andV, ↓e_notV, ↓e_ifE, ↓e_neg, ↓e_nil, ↓e_cons, ↓e_tup, ↓e_lst, ↓e_dnew, ↓e_call, ↓e_cb, ↓e_isi, ↓e_sl, ↓e_onone, ↓e_osome, ↓e_rev, ↓e_lm, ↓e_append, ↓e_extend, ↓e_pop, ↓e_join, ↓e_dget2, ↓e_sortSet, ↓e_sortS, ↓e_setd, strsOf_map, ↓e_maxI, ↓e_disp, ↓e_pairN, ↓e_pairC, intsOf_map, ↓e_for, ↓e_ilist, ↓e_itup, ↓e_rng1, ↓e_rng2, ↓e_lc, ↓e_lc2, e_lc2N, ↓e_ienum, ↓e_izip, ↓e_anyB, ↓e_allB, ↓e_mulS, blsOf_map, ↓e_set0, ↓e_sadd, ↓e_sortTx, ↓e_sortD, ↓e_repr, ↓e_extT, ↓e_sc2, ↓e_sortZ, ↓e_tupVals, ↓e_wget, ↓e_wix, ↓e_listZip, zipD_nil, zipD_cons, ↓e_dgetF, ↓e_idif,   ↓e_add_int, ↓e_add_str, ↓e_add_tup, ↓e_add_obj, ↓e_iadd_int, ↓e_iadd_str, ↓e_iadd_obj, ↓e_I, ↓e_I0, ↓e_IS_int, ↓e_IS_str, ↓e_eq_str, ↓e_ne_str, ↓e_eq_int, ↓e_ne_int, ↓e_eq_bl, ↓e_ne_bl, ↓e_isN, ↓e_notN, ↓e_ix_tup, ↓e_ix_fl, ↓e_ix_str, ↓e_ix_obj, ↓e_in_tup, ↓e_nin_tup, ↓e_len_tup, ↓e_len_fl, ↓e_len_str, ↓e_len_obj, ↓e_int_int, ↓e_tuple_tup, ↓e_tuple_obj, ↓e_list_tup, ↓e_list_obj, ↓e_dget, ↓e_din, ↓e_dnin, ↓e_lstAt, ↓e_dicAt,   e_key_int, e_key_str, e_up, e_ty_str, e_ty_tup, e_ty_int, e_ty_bl, e_ty_non, atI0, atI1, atI2, atI3, atIL, ixN0, ixN1, cut_from1, e_ite_or, e_ite_and, zln, znl, zli, zil, zni, zin, sizeLine_eq, CMul, CDiv, cpow1018, true_or, or_true, kb_strstr, kb_tupstr, kb_tuptup, kb_strtup, kb_inttup, kb_bltup, kb_nontup, kb_strbl, kb_strint, kb_intbl, kb_intint, kb_blbl, kb_blint, kb_nonbl, kb_nonint, kb_nonstr, kb_intstr, kb_blstr, kb_tupbl, kb_tupint,   List.set_cons_zero, List.set_cons_succ, List.set_nil, List.getElem?_cons_zero, List.getElem?_cons_succ, List.getElem?_nil, List.length_cons, List.length_nil, List.length_map, List.length_append, e_lcN, e_lcC, e_forN, e_forC, List.getLast?_concat, List.dropLast_concat, List.nil_append, List.cons_append, List.append_nil, List.append_assoc, List.reverse_cons, List.reverse_nil, List.isEmpty_nil, List.isEmpty_cons, isEmpty_snoc, List.any_cons, List.any_nil, List.all_cons, List.all_nil, flatD, eqF, in_non, in_tup, in_str, in_int, in_bl, in_obj, in_fl, startA, List.map_cons, List.map_nil, List.replicate_succ, List.replicate_zero,   Nat.reduceAdd, Nat.reduceSub, Nat.reduceLeDiff, Nat.zero_add, Int.reduceLE, Int.reduceLT, Int.reduceToNat, Int.reducePow, Int.reduceNeg, Int.reduceAdd, Int.reduceSub,   Option.isSome_some, Option.isSome_none, Bool.not_true, Bool.not_false, Bool.not_eq_true', Bool.not_eq_eq_eq_not, Bool.not_eq_true, Bool.false_eq_true, Bool.true_eq_false, Bool.and_true, Bool.true_and, Bool.or_false, Bool.false_or, Bool.or_true, Bool.true_or, Bool.and_false, Bool.false_and, if_true, if_false, ite_true, ite_false, reduceIte, reduceCtorEq, decide_true, decide_false, decide_eq_true_eq, decide_eq_false_iff_not, true_and, and_true, eq_self, ne_eq, not_false_eq_true, not_true_eq_false, and_self, *])
    split <;> split
    iterate 2
      · refine for_run (fun ds env M'' => ∃ l2 m2 w x6 zs2, ds = rngD l2 m2 ∧ env = [some (.fl (ns.map D.int)), some (.int 0), some (.int n), some (.obj p), some (.int lo), some (.int w), x6, x7] ∧ M'' p = some (.lst (zs2.map D.int)) ∧ ExtB p M M'' ∧ zs2.length + m2 ≤ zs.length + 60) (fun _ _ _ _ => trivial) ?_ ?_ ⟨0, 60, _, x6, zs, rfl, rfl, hp', he, by omega⟩
        · rintro env M'' ⟨l2, m2, w, x6, zs2, hd2, rfl, hp2, he2, hz2⟩
          have z := rngD_nil hd2.symm
          subst z
          exact next _ _ ⟨lo + 1, m, _, _, _, _, zs2, rfl, by omega, by omega, by omega, rfl, hp2, he2, by omega⟩
        · rintro d r N2 env M'' ⟨l2, m2, w, x6, zs2, hd2, rfl, hp2, he2, hz2⟩ next2
          obtain ⟨m2, rfl, rfl, rfl⟩ := rngD_cons hd2.symm
          try (simp only [↓e_seq, ↓e_next, ↓e_break, ↓e_cont, ↓e_expr, ↓e_ret, ↓e_retN, ↓e_if, ↓e_never, ↓e_asg, ↓e_name, ↓e_agtup, ↓e_agcons, ↓e_agnil, ↓e_agsub, ↓e_aug, ↓e_dput, ↓e_var, ↓e_c, ↓e_op, ↓e_some, ↓e_none, ↓e_test, ↓e_and, ↓e_or, ↓e_not, ↓e_yes, ↓e_truth,   ↓e_tru_bl, ↓e_tru_int, ↓e_tru_non, ↓e_tru_str, ↓e_tru_tup, ↓e_tru_obj, ↓e_chain, ↓e_orV, ↓e_andV, ↓e_notV, ↓e_ifE, ↓e_neg, ↓e_nil, ↓e_cons, ↓e_tup, ↓e_lst, ↓e_dnew, ↓e_call, ↓e_cb, ↓e_isi, ↓e_sl, ↓e_onone, ↓e_osome, ↓e_rev, ↓e_lm, ↓e_append, ↓e_extend, ↓e_pop, ↓e_join, ↓e_dget2, ↓e_sortSet, ↓e_sortS, ↓e_setd, strsOf_map, ↓e_maxI, ↓e_disp, ↓e_pairN, ↓e_pairC, intsOf_map, ↓e_for, ↓e_ilist, ↓e_itup, ↓e_rng1, ↓e_rng2, ↓e_lc, ↓e_lc2, e_lc2N, ↓e_ienum, ↓e_izip, ↓e_anyB, ↓e_allB, ↓e_mulS, blsOf_map, ↓e_set0, ↓e_sadd, ↓e_sortTx, ↓e_sortD, ↓e_repr, ↓e_extT, ↓e_sc2, ↓e_sortZ, ↓e_tupVals, ↓e_wget, ↓e_wix, ↓e_listZip, zipD_nil, zipD_cons, ↓e_dgetF, ↓e_idif,   ↓e_add_int, ↓e_add_str, ↓e_add_tup, ↓e_add_obj, ↓e_iadd_int, ↓e_iadd_str, ↓e_iadd_obj, ↓e_I, ↓e_I0, ↓e_IS_int, ↓e_IS_str, ↓e_eq_str, ↓e_ne_str, ↓e_eq_int, ↓e_ne_int, ↓e_eq_bl, ↓e_ne_bl, ↓e_isN, ↓e_notN, ↓e_ix_tup, ↓e_ix_fl, ↓e_ix_str, ↓e_ix_obj, ↓e_in_tup, ↓e_nin_tup, ↓e_len_tup, ↓e_len_fl, ↓e_len_str, ↓e_len_obj, ↓e_int_int, ↓e_tuple_tup, ↓e_tuple_obj, ↓e_list_tup, ↓e_list_obj, ↓e_dget, ↓e_din, ↓e_dnin, ↓e_lstAt, ↓e_dicAt,   e_key_int, e_key_str, e_up, e_ty_str, e_ty_tup, e_ty_int, e_ty_bl, e_ty_non, atI0, atI1, atI2, atI3, atIL, ixN0, ixN1, cut_from1, e_ite_or, e_ite_and, zln, znl, zli, zil, zni, zin, sizeLine_eq, CMul, CDiv, cpow1018, true_or, or_true, kb_strstr, kb_tupstr, kb_tuptup, kb_strtup, kb_inttup, kb_bltup, kb_nontup, kb_strbl, kb_strint, kb_intbl, kb_intint, kb_blbl, kb_blint, kb_nonbl, kb_nonint, kb_nonstr, kb_intstr, kb_blstr, kb_tupbl, kb_tupint,   List.set_cons_zero, List.set_cons_succ, List.set_nil, List.getElem?_cons_zero, List.getElem?_cons_succ, List.getElem?_nil, List.length_cons, List.length_nil, List.length_map, List.length_append, e_lcN, e_lcC, e_forN, e_forC, List.getLast?_concat, List.dropLast_concat, List.nil_append, List.cons_append, List.append_nil, List.append_assoc, List.reverse_cons, List.reverse_nil, List.isEmpty_nil, List.isEmpty_cons, isEmpty_snoc, List.any_cons, List.any_nil, List.all_cons, List.all_nil, flatD, eqF, in_non, in_tup, in_str, in_int, in_bl, in_obj, in_fl, startA, List.map_cons, List.map_nil, List.replicate_succ, List.replicate_zero,   Nat.reduceAdd, Nat.reduceSub, Nat.reduceLeDiff, Nat.zero_add, Int.reduceLE, Int.reduceLT, Int.reduceToNat, Int.reducePow, Int.reduceNeg, Int.reduceAdd, Int.reduceSub,   Option.isSome_some, Option.isSome_none, Bool.not_true, Bool.not_false, Bool.not_eq_true', Bool.not_eq_eq_eq_not, Bool.not_eq_true, Bool.false_eq_true, Bool.true_eq_false, Bool.and_true, Bool.true_and, Bool.or_false, Bool.false_or, Bool.or_true, Bool.true_or, Bool.and_false, Bool.false_and, if_true, if_false, ite_true, ite_false, reduceIte, reduceCtorEq, decide_true, decide_false, decide_eq_true_eq, decide_eq_false_iff_not, true_and, and_true, eq_self, ne_eq, not_false_eq_true, not_true_eq_false, and_self, *])
          split
          · refine ⟨by omega, ?_⟩
            refine next2 _ _ ⟨l2 + 1, m2, _, _, zs2 ++ [w % 1000], rfl, rfl, ?_, he2.trans ExtB.upd, ?_⟩
            · rw [up_same, map_snoc]
            · rw [List.length_append, List.length_singleton]
              omega
          · exact next2 _ _ ⟨l2 + 1, m2, _, _, zs2, rfl, rfl, hp2, he2, by omega⟩
      · refine for_run (fun ds env M'' => ∃ l2 m2 x5 x6 sd zs2, ds = rngD l2 m2 ∧ env = [some (.fl (ns.map D.int)), some (.int 0), some (.int n), some (.obj p), some (.int lo), x5, x6, some (.int sd)] ∧ M'' p = some (.lst (zs2.map D.int)) ∧ ExtB p M M'' ∧ zs2.length + m2 ≤ zs.length + 12) (fun _ _ _ _ => trivial) ?_ ?_ ⟨0, 12, _, x6, _, zs, rfl, rfl, hp', he, by omega⟩
        · rintro env M'' ⟨l2, m2, x5, x6, sd, zs2, hd2, rfl, hp2, he2, hz2⟩
          have z := rngD_nil hd2.symm
          subst z
          exact next _ _ ⟨lo + 1, m, _, _, _, _, zs2, rfl, by omega, by omega, by omega, rfl, hp2, he2, by omega⟩
        · rintro d r N2 env M'' ⟨l2, m2, x5, x6, sd, zs2, hd2, rfl, hp2, he2, hz2⟩ next2
          obtain ⟨m2, rfl, rfl, rfl⟩ := rngD_cons hd2.symm
          try (simp only [↓e_seq, ↓e_next, ↓e_break, ↓e_cont, ↓e_expr, ↓e_ret, ↓e_retN, ↓e_if, ↓e_never, ↓e_asg, ↓e_name, ↓e_agtup, ↓e_agcons, ↓e_agnil, ↓e_agsub, ↓e_aug, ↓e_dput, ↓e_var, ↓e_c, ↓e_op, ↓e_some, ↓e_none, ↓e_test, ↓e_and, ↓e_or, ↓e_not, ↓e_yes, ↓e_truth,   ↓e_tru_bl, ↓e_tru_int, ↓e_tru_non, ↓e_tru_str, ↓e_tru_tup, ↓e_tru_obj, ↓e_chain, ↓e_orV, ↓e_andV, ↓e_notV, ↓e_ifE, ↓e_neg, ↓e_nil, ↓e_cons, ↓e_tup, ↓e_lst, ↓e_dnew, ↓e_call, ↓e_cb, ↓e_isi, ↓e_sl, ↓e_onone, ↓e_osome, ↓e_rev, ↓e_lm, ↓e_append, ↓e_extend, ↓e_pop, ↓e_join, ↓e_dget2, ↓e_sortSet, ↓e_sortS, ↓e_setd, strsOf_map, ↓e_maxI, ↓e_disp, ↓e_pairN, ↓e_pairC, intsOf_map, ↓e_for, ↓e_ilist, ↓e_itup, ↓e_rng1, ↓e_rng2, ↓e_lc, ↓e_lc2, e_lc2N, ↓e_ienum, ↓e_izip, ↓e_anyB, ↓e_allB, ↓e_mulS, blsOf_map, ↓e_set0, ↓e_sadd, ↓e_sortTx, ↓e_sortD, ↓e_repr, ↓e_extT, ↓e_sc2, ↓e_sortZ, ↓e_tupVals, ↓e_wget, ↓e_wix, ↓e_listZip, zipD_nil, zipD_cons, ↓e_dgetF, ↓e_idif,   ↓e_add_int, ↓e_add_str, ↓e_add_tup, ↓e_add_obj, ↓e_iadd_int, ↓e_iadd_str, ↓e_iadd_obj, ↓e_I, ↓e_I0, ↓e_IS_int, ↓e_IS_str, ↓e_eq_str, ↓e_ne_str, ↓e_eq_int, ↓e_ne_int, ↓e_eq_bl, ↓e_ne_bl, ↓e_isN, ↓e_notN, ↓e_ix_tup, ↓e_ix_fl, ↓e_ix_str, ↓e_ix_obj, ↓e_in_tup, ↓e_nin_tup, ↓e_len_tup, ↓e_len_fl, ↓e_len_str, ↓e_len_obj, ↓e_int_int, ↓e_tuple_tup, ↓e_tuple_obj, ↓e_list_tup, ↓e_list_obj, ↓e_dget, ↓e_din, ↓e_dnin, ↓e_lstAt, ↓e_dicAt,   e_key_int, e_key_str, e_up, e_ty_str, e_ty_tup, e_ty_int, e_ty_bl, e_ty_non, atI0, atI1, atI2, atI3, atIL, ixN0, ixN1, cut_from1, e_ite_or, e_ite_and, zln, znl, zli, zil, zni, zin, sizeLine_eq, CMul, CDiv, cpow1018, true_or, or_true, kb_strstr, kb_tupstr, kb_tuptup, kb_strtup, kb_inttup, kb_bltup, kb_nontup, kb_strbl, kb_strint, kb_intbl, kb_intint, kb_blbl, kb_blint, kb_nonbl, kb_nonint, kb_nonstr, kb_intstr, kb_blstr, kb_tupbl, kb_tupint,   List.set_cons_zero, List.set_cons_succ, List.set_nil, List.getElem?_cons_zero, List.getElem?_cons_succ, List.getElem?_nil, List.length_cons, List.length_nil, List.length_map, List.length_append, e_lcN, e_lcC, e_forN, e_forC, List.getLast?_concat, List.dropLast_concat, List.nil_append, List.cons_append, List.append_nil, List.append_assoc, List.reverse_cons, List.reverse_nil, List.isEmpty_nil, List.isEmpty_cons, isEmpty_snoc, List.any_cons, List.any_nil, List.all_cons, List.all_nil, flatD, eqF, in_non, in_tup, in_str, in_int, in_bl, in_obj, in_fl, startA, List.map_cons, List.map_nil, List.replicate_succ, List.replicate_zero,   Nat.reduceAdd, Nat.reduceSub, Nat.reduceLeDiff, Nat.zero_add, Int.reduceLE, Int.reduceLT, Int.reduceToNat, Int.reducePow, Int.reduceNeg, Int.reduceAdd, Int.reduceSub,   Option.isSome_some, Option.isSome_none, Bool.not_true, Bool.not_false, Bool.not_eq_true', Bool.not_eq_eq_eq_not, Bool.not_eq_true, Bool.false_eq_true, Bool.true_eq_false, Bool.and_true, Bool.true_and, Bool.or_false, Bool.false_or, Bool.or_true, Bool.true_or, Bool.and_false, Bool.false_and, if_true, if_false, ite_true, ite_false, reduceIte, reduceCtorEq, decide_true, decide_false, decide_eq_true_eq, decide_eq_false_iff_not, true_and, and_true, eq_self, ne_eq, not_false_eq_true, not_true_eq_false, and_self, *])
          refine ⟨by omega, ?_⟩
          refine next2 _ _ ⟨l2 + 1, m2, _, _, _, zs2 ++ [(sd * 16807 + 7 * l2 + 1) % 2147483647 / 997 % 1000], rfl, rfl, ?_, he2.trans ExtB.upd, ?_⟩
          · rw [up_same, map_snoc]
          · rw [List.length_append, List.length_singleton]
            omega
def A_box : ASp := fun ds M Q _ => ∃ (ns : List Int) (n : Int), ds = [.fl (ns.map D.int), .int 0, .int n] ∧ 0 ≤ n ∧ n ≤ 63 ∧ ∀ b d M', M b = none → M d = none → Ext M M' → BoxAt M' b d → Q (.obj b) M'
theorem p__law_box (ds : List D) (M : Sto) (Q : D → Sto → Prop) (Xa) (hl : ds.length = 3) (h : A_box ds M Q Xa) : a__law_box A_digits ax0 ⟨fun _ M => Q .non M, Q, fun _ _ => False, fun _ _ => False⟩ (startA ["script", "first", "last"] ds) M := by
  obtain ⟨ns, n, rfl, h0, h1, q⟩ := h
  unfold a__law_box
  try (simp only [↓e_seq, ↓e_next, ↓e_break, ↓e_cont, ↓e_expr, ↓e_ret, ↓e_retN, ↓e_if, ↓e_never, ↓e_asg, ↓e_name, ↓e_agtup, ↓e_agcons, ↓e_agnil, ↓e_agsub, ↓e_aug, ↓e_dput, ↓e_var, ↓e_c, ↓e_op, ↓e_some, ↓e_none, ↓e_test, ↓e_and, ↓e_or, ↓e_not, ↓e_yes, ↓e_truth,   ↓e_tru_bl, ↓e_tru_int, ↓e_tru_non, ↓e_tru_str, ↓e_tru_tup, ↓e_tru_obj, ↓e_chain, ↓e_orV, ↓e_andV, ↓e_notV, ↓e_ifE, ↓e_neg, ↓e_nil, ↓e_cons, ↓e_tup, ↓e_lst, ↓e_dnew, ↓e_call, ↓e_cb, ↓e_isi, ↓e_sl, ↓e_onone, ↓e_osome, ↓e_rev, ↓e_lm, ↓e_append, ↓e_extend, ↓e_pop, ↓e_join, ↓e_dget2, ↓e_sortSet, ↓e_sortS, ↓e_setd, strsOf_map, ↓e_maxI, ↓e_disp, ↓e_pairN, ↓e_pairC, intsOf_map, ↓e_for, ↓e_ilist, ↓e_itup, ↓e_rng1, ↓e_rng2, ↓e_lc, ↓e_lc2, e_lc2N, ↓e_ienum, ↓e_izip, ↓e_anyB, ↓e_allB, ↓e_mulS, blsOf_map, ↓e_set0, ↓e_sadd, ↓e_sortTx, ↓e_sortD, ↓e_repr, ↓e_extT, ↓e_sc2, ↓e_sortZ, ↓e_tupVals, ↓e_wget, ↓e_wix, ↓e_listZip, zipD_nil, zipD_cons, ↓e_dgetF, ↓e_idif,   ↓e_add_int, ↓e_add_str, ↓e_add_tup, ↓e_add_obj, ↓e_iadd_int, ↓e_iadd_str, ↓e_iadd_obj, ↓e_I, ↓e_I0, ↓e_IS_int, ↓e_IS_str, ↓e_eq_str, ↓e_ne_str, ↓e_eq_int, ↓e_ne_int, ↓e_eq_bl, ↓e_ne_bl, ↓e_isN, ↓e_notN, ↓e_ix_tup, ↓e_ix_fl, ↓e_ix_str, ↓e_ix_obj, ↓e_in_tup, ↓e_nin_tup, ↓e_len_tup, ↓e_len_fl, ↓e_len_str, ↓e_len_obj, ↓e_int_int, ↓e_tuple_tup, ↓e_tuple_obj, ↓e_list_tup, ↓e_list_obj, ↓e_dget, ↓e_din, ↓e_dnin, ↓e_lstAt, ↓e_dicAt,   e_key_int, e_key_str, e_up, e_ty_str, e_ty_tup, e_ty_int, e_ty_bl, e_ty_non, atI0, atI1, atI2, atI3, atIL, ixN0, ixN1, cut_from1, e_ite_or, e_ite_and, zln, znl, zli, zil, zni, zin, sizeLine_eq, CMul, CDiv, cpow1018, true_or, or_true, kb_strstr, kb_tupstr, kb_tuptup, kb_strtup, kb_inttup, kb_bltup, kb_nontup, kb_strbl, kb_strint, kb_intbl, kb_intint, kb_blbl, kb_blint, kb_nonbl, kb_nonint, kb_nonstr, kb_intstr, kb_blstr, kb_tupbl, kb_tupint,   List.set_cons_zero, List.set_cons_succ, List.set_nil, List.getElem?_cons_zero, List.getElem?_cons_succ, List.getElem?_nil, List.length_cons, List.length_nil, List.length_map, List.length_append, e_lcN, e_lcC, e_forN, e_forC, List.getLast?_concat, List.dropLast_concat, List.nil_append, List.cons_append, List.append_nil, List.append_assoc, List.reverse_cons, List.reverse_nil, List.isEmpty_nil, List.isEmpty_cons, isEmpty_snoc, List.any_cons, List.any_nil, List.all_cons, List.all_nil, flatD, eqF, in_non, in_tup, in_str, in_int, in_bl, in_obj, in_fl, startA, List.map_cons, List.map_nil, List.replicate_succ, List.replicate_zero,   Nat.reduceAdd, Nat.reduceSub, Nat.reduceLeDiff, Nat.zero_add, Int.reduceLE, Int.reduceLT, Int.reduceToNat, Int.reducePow, Int.reduceNeg, Int.reduceAdd, Int.reduceSub,   Option.isSome_some, Option.isSome_none, Bool.not_true, Bool.not_false, Bool.not_eq_true', Bool.not_eq_eq_eq_not, Bool.not_eq_true, Bool.false_eq_true, Bool.true_eq_false, Bool.and_true, Bool.true_and, Bool.or_false, Bool.false_or, Bool.or_true, Bool.true_or, Bool.and_false, Bool.false_and, if_true, if_false, ite_true, ite_false, reduceIte, reduceCtorEq, decide_true, decide_false, decide_eq_true_eq, decide_eq_false_iff_not, true_and, and_true, eq_self, ne_eq, not_false_eq_true, not_true_eq_false, and_self, *])
  refine ⟨rfl, ns, n, rfl, h0, h1, fun p zs M' hp e hz => ?_⟩
  try (simp only [↓e_seq, ↓e_next, ↓e_break, ↓e_cont, ↓e_expr, ↓e_ret, ↓e_retN, ↓e_if, ↓e_never, ↓e_asg, ↓e_name, ↓e_agtup, ↓e_agcons, ↓e_agnil, ↓e_agsub, ↓e_aug, ↓e_dput, ↓e_var, ↓e_c, ↓e_op, ↓e_some, ↓e_none, ↓e_test, ↓e_and, ↓e_or, ↓e_not, ↓e_yes, ↓e_truth,   ↓e_tru_bl, ↓e_tru_int, ↓e_tru_non, ↓e_tru_str, ↓e_tru_tup, ↓e_tru_obj, ↓e_chain, ↓e_orV, ↓e_andV, ↓e_notV, ↓e_ifE, ↓e_neg, ↓e_nil, ↓e_cons, ↓e_tup, ↓e_lst, ↓e_dnew, ↓e_call, ↓e_cb, ↓e_isi, ↓e_sl, ↓e_onone, ↓e_osome, ↓e_rev, ↓e_lm, ↓e_append, ↓e_extend, ↓e_pop, ↓e_join, ↓e_dget2, ↓e_sortSet, ↓e_sortS, ↓e_setd, strsOf_map, ↓e_maxI, ↓e_disp, ↓e_pairN, ↓e_pairC, intsOf_map, ↓e_for, ↓e_ilist, ↓e_itup, ↓e_rng1, ↓e_rng2, ↓e_lc, ↓e_lc2, e_lc2N, ↓e_ienum, ↓e_izip, ↓e_anyB, ↓e_allB, ↓e_mulS, blsOf_map, ↓e_set0, ↓e_sadd, ↓e_sortTx, ↓e_sortD, ↓e_repr, ↓e_extT, ↓e_sc2, ↓e_sortZ, ↓e_tupVals, ↓e_wget, ↓e_wix, ↓e_listZip, zipD_nil, zipD_cons, ↓e_dgetF, ↓e_idif,   ↓e_add_int, ↓e_add_str, ↓e_add_tup, ↓e_add_obj, ↓e_iadd_int, ↓e_iadd_str, ↓e_iadd_obj, ↓e_I, ↓e_I0, ↓e_IS_int, ↓e_IS_str, ↓e_eq_str, ↓e_ne_str, ↓e_eq_int, ↓e_ne_int, ↓e_eq_bl, ↓e_ne_bl, ↓e_isN, ↓e_notN, ↓e_ix_tup, ↓e_ix_fl, ↓e_ix_str, ↓e_ix_obj, ↓e_in_tup, ↓e_nin_tup, ↓e_len_tup, ↓e_len_fl, ↓e_len_str, ↓e_len_obj, ↓e_int_int, ↓e_tuple_tup, ↓e_tuple_obj, ↓e_list_tup, ↓e_list_obj, ↓e_dget, ↓e_din, ↓e_dnin, ↓e_lstAt, ↓e_dicAt,   e_key_int, e_key_str, e_up, e_ty_str, e_ty_tup, e_ty_int, e_ty_bl, e_ty_non, atI0, atI1, atI2, atI3, atIL, ixN0, ixN1, cut_from1, e_ite_or, e_ite_and, zln, znl, zli, zil, zni, zin, sizeLine_eq, CMul, CDiv, cpow1018, true_or, or_true, kb_strstr, kb_tupstr, kb_tuptup, kb_strtup, kb_inttup, kb_bltup, kb_nontup, kb_strbl, kb_strint, kb_intbl, kb_intint, kb_blbl, kb_blint, kb_nonbl, kb_nonint, kb_nonstr, kb_intstr, kb_blstr, kb_tupbl, kb_tupint,   List.set_cons_zero, List.set_cons_succ, List.set_nil, List.getElem?_cons_zero, List.getElem?_cons_succ, List.getElem?_nil, List.length_cons, List.length_nil, List.length_map, List.length_append, e_lcN, e_lcC, e_forN, e_forC, List.getLast?_concat, List.dropLast_concat, List.nil_append, List.cons_append, List.append_nil, List.append_assoc, List.reverse_cons, List.reverse_nil, List.isEmpty_nil, List.isEmpty_cons, isEmpty_snoc, List.any_cons, List.any_nil, List.all_cons, List.all_nil, flatD, eqF, in_non, in_tup, in_str, in_int, in_bl, in_obj, in_fl, startA, List.map_cons, List.map_nil, List.replicate_succ, List.replicate_zero,   Nat.reduceAdd, Nat.reduceSub, Nat.reduceLeDiff, Nat.zero_add, Int.reduceLE, Int.reduceLT, Int.reduceToNat, Int.reducePow, Int.reduceNeg, Int.reduceAdd, Int.reduceSub,   Option.isSome_some, Option.isSome_none, Bool.not_true, Bool.not_false, Bool.not_eq_true', Bool.not_eq_eq_eq_not, Bool.not_eq_true, Bool.false_eq_true, Bool.true_eq_false, Bool.and_true, Bool.true_and, Bool.or_false, Bool.false_or, Bool.or_true, Bool.true_or, Bool.and_false, Bool.false_and, if_true, if_false, ite_true, ite_false, reduceIte, reduceCtorEq, decide_true, decide_false, decide_eq_true_eq, decide_eq_false_iff_not, true_and, and_true, eq_self, ne_eq, not_false_eq_true, not_true_eq_false, and_self, *])
  intro b hb
  have hne := fresh_ne hb hz
  have hb0 : M b = none := by
    cases z : M b with
    | none => rfl
    | some mo => rw [e _ _ z] at hb; cases hb
  exact q b p _ hb0 hp (e.trans (Ext.new hb)) ⟨zs, 0, up_same, by rw [up_ne hne]; exact hz, by omega, hne⟩

inductive Fm where
  | lt (s : Str) | ng (p : Fm) | im (p q : Fm)
  deriving DecidableEq
def Fm.d : Fm → D
  | .lt s => .tup [.str z_letter, .str s]
  | .ng p => .tup [.str z_not, p.d]
  | .im p q => .tup [.str z_if, p.d, q.d]
def Fm.All (P : Str → Prop) : Fm → Prop
  | .lt s => P s
  | .ng p => p.All P
  | .im p q => p.All P ∧ q.All P
def Fm.sz : Fm → Nat
  | .lt _ => 1
  | .ng p => p.sz + 1
  | .im p q => p.sz + q.sz + 1
def Fm.sub (σ : Str → Fm) : Fm → Fm
  | .lt s => σ s
  | .ng p => .ng (p.sub σ)
  | .im p q => .im (p.sub σ) (q.sub σ)
theorem Fm.d_lt (s : Str) : (Fm.lt s).d = .tup [.str z_letter, .str s] := rfl
theorem Fm.d_ng (p : Fm) : (Fm.ng p).d = .tup [.str z_not, p.d] := rfl
theorem Fm.d_im (p q : Fm) : (Fm.im p q).d = .tup [.str z_if, p.d, q.d] := rfl
theorem Fm.All.mono {P R : Str → Prop} (h : ∀ s, P s → R s) : ∀ {f : Fm}, f.All P → f.All R
  | .lt s, a => h s a
  | .ng p, a => Fm.All.mono (f := p) h a
  | .im p q, a => ⟨Fm.All.mono (f := p) h a.1, Fm.All.mono (f := q) h a.2⟩
theorem Fm.sub_all {P R : Str → Prop} {σ : Str → Fm} (h : ∀ s, P s → (σ s).All R) : ∀ {f : Fm}, f.All P → (f.sub σ).All R
  | .lt s, a => h s a
  | .ng p, a => Fm.sub_all (f := p) h a
  | .im p q, a => ⟨Fm.sub_all (f := p) h a.1, Fm.sub_all (f := q) h a.2⟩
theorem Fm.sub_sz {P : Str → Prop} {σ : Str → Fm} (h : ∀ s, P s → (σ s).sz = 1) : ∀ {f : Fm}, f.All P → (f.sub σ).sz = f.sz
  | .lt s, a => h s a
  | .ng p, a => by show (p.sub σ).sz + 1 = p.sz + 1; rw [Fm.sub_sz (f := p) h a]
  | .im p q, a => by show (p.sub σ).sz + (q.sub σ).sz + 1 = p.sz + q.sz + 1; rw [Fm.sub_sz (f := p) h a.1, Fm.sub_sz (f := q) h a.2]
theorem Fm.sz_pos : ∀ f : Fm, 1 ≤ f.sz
  | .lt _ => Nat.le_refl _
  | .ng p => Nat.le_add_left _ _
  | .im p q => Nat.le_add_left _ _
def lets8 : List Nat := [97, 98, 99, 100, 101, 102, 103, 104]
theorem z8 : z_abcdefgh.cps.toList = lets8 := by decide +kernel
theorem z8l : z_abcdefgh.length ≤ 16777216 := by decide +kernel
def L8 (s : Str) : Prop := ∃ c ∈ lets8, s = ⟨#[c]⟩
theorem at8 {v : Int} (h0 : 0 ≤ v) (h : v < 8) : ∃ c ∈ lets8, atI lets8 v = some c := by
  have e : v = ((v.toNat : Nat) : Int) := by omega
  have hk : v.toNat < lets8.length := by show v.toNat < 8; omega
  rw [e, atIn, List.getElem?_eq_getElem hk]
  exact ⟨_, List.getElem_mem hk, rfl⟩
abbrev Done (Q : D → Sto → Prop) : AEnds := ⟨fun _ M => Q .non M, Q, fun _ _ => False, fun _ _ => False⟩
def A_any (L : Nat) : ASp := fun ds M Q _ => ∃ b d room many, ds = [.obj b, .int room, .int many] ∧ BoxAt M b d ∧ 1 ≤ room ∧ room ≤ (L : Int) ∧ 1 ≤ many ∧ many ≤ 8 ∧ ∀ (f : Fm) M', f.All L8 → (f.sz : Int) ≤ room → BoxAt M' b d → ExtB b M M' → Q f.d M'
theorem p__law_any (L : Nat) (ds : List D) (M : Sto) (Q : D → Sto → Prop) (Xa) (hl : ds.length = 3) (h : A_any (L + 1) ds M Q Xa) : a__law_any A_draw (A_any L) ax0 (Done Q) (startA ["box", "room", "many", "kind", "left", "first"] ds) M := by
  obtain ⟨b, d, room, many, rfl, hb, hr, hL, hm, hm8, q⟩ := h
  unfold a__law_any
  try (simp only [↓e_seq, ↓e_next, ↓e_break, ↓e_cont, ↓e_expr, ↓e_ret, ↓e_retN, ↓e_if, ↓e_never, ↓e_asg, ↓e_name, ↓e_agtup, ↓e_agcons, ↓e_agnil, ↓e_agsub, ↓e_aug, ↓e_dput, ↓e_var, ↓e_c, ↓e_op, ↓e_some, ↓e_none, ↓e_test, ↓e_and, ↓e_or, ↓e_not, ↓e_yes, ↓e_truth,   ↓e_tru_bl, ↓e_tru_int, ↓e_tru_non, ↓e_tru_str, ↓e_tru_tup, ↓e_tru_obj, ↓e_chain, ↓e_orV, ↓e_andV, ↓e_notV, ↓e_ifE, ↓e_neg, ↓e_nil, ↓e_cons, ↓e_tup, ↓e_lst, ↓e_dnew, ↓e_call, ↓e_cb, ↓e_isi, ↓e_sl, ↓e_onone, ↓e_osome, ↓e_rev, ↓e_lm, ↓e_append, ↓e_extend, ↓e_pop, ↓e_join, ↓e_dget2, ↓e_sortSet, ↓e_sortS, ↓e_setd, strsOf_map, ↓e_maxI, ↓e_disp, ↓e_pairN, ↓e_pairC, intsOf_map, ↓e_for, ↓e_ilist, ↓e_itup, ↓e_rng1, ↓e_rng2, ↓e_lc, ↓e_lc2, e_lc2N, ↓e_ienum, ↓e_izip, ↓e_anyB, ↓e_allB, ↓e_mulS, blsOf_map, ↓e_set0, ↓e_sadd, ↓e_sortTx, ↓e_sortD, ↓e_repr, ↓e_extT, ↓e_sc2, ↓e_sortZ, ↓e_tupVals, ↓e_wget, ↓e_wix, ↓e_listZip, zipD_nil, zipD_cons, ↓e_dgetF, ↓e_idif,   ↓e_add_int, ↓e_add_str, ↓e_add_tup, ↓e_add_obj, ↓e_iadd_int, ↓e_iadd_str, ↓e_iadd_obj, ↓e_I, ↓e_I0, ↓e_IS_int, ↓e_IS_str, ↓e_eq_str, ↓e_ne_str, ↓e_eq_int, ↓e_ne_int, ↓e_eq_bl, ↓e_ne_bl, ↓e_isN, ↓e_notN, ↓e_ix_tup, ↓e_ix_fl, ↓e_ix_str, ↓e_ix_obj, ↓e_in_tup, ↓e_nin_tup, ↓e_len_tup, ↓e_len_fl, ↓e_len_str, ↓e_len_obj, ↓e_int_int, ↓e_tuple_tup, ↓e_tuple_obj, ↓e_list_tup, ↓e_list_obj, ↓e_dget, ↓e_din, ↓e_dnin, ↓e_lstAt, ↓e_dicAt,   e_key_int, e_key_str, e_up, e_ty_str, e_ty_tup, e_ty_int, e_ty_bl, e_ty_non, atI0, atI1, atI2, atI3, atIL, ixN0, ixN1, cut_from1, e_ite_or, e_ite_and, zln, znl, zli, zil, zni, zin, sizeLine_eq, CMul, CDiv, cpow1018, true_or, or_true, kb_strstr, kb_tupstr, kb_tuptup, kb_strtup, kb_inttup, kb_bltup, kb_nontup, kb_strbl, kb_strint, kb_intbl, kb_intint, kb_blbl, kb_blint, kb_nonbl, kb_nonint, kb_nonstr, kb_intstr, kb_blstr, kb_tupbl, kb_tupint,   List.set_cons_zero, List.set_cons_succ, List.set_nil, List.getElem?_cons_zero, List.getElem?_cons_succ, List.getElem?_nil, List.length_cons, List.length_nil, List.length_map, List.length_append, e_lcN, e_lcC, e_forN, e_forC, List.getLast?_concat, List.dropLast_concat, List.nil_append, List.cons_append, List.append_nil, List.append_assoc, List.reverse_cons, List.reverse_nil, List.isEmpty_nil, List.isEmpty_cons, isEmpty_snoc, List.any_cons, List.any_nil, List.all_cons, List.all_nil, flatD, eqF, in_non, in_tup, in_str, in_int, in_bl, in_obj, in_fl, startA, List.map_cons, List.map_nil, List.replicate_succ, List.replicate_zero,   Nat.reduceAdd, Nat.reduceSub, Nat.reduceLeDiff, Nat.zero_add, Int.reduceLE, Int.reduceLT, Int.reduceToNat, Int.reducePow, Int.reduceNeg, Int.reduceAdd, Int.reduceSub,   Option.isSome_some, Option.isSome_none, Bool.not_true, Bool.not_false, Bool.not_eq_true', Bool.not_eq_eq_eq_not, Bool.not_eq_true, Bool.false_eq_true, Bool.true_eq_false, Bool.and_true, Bool.true_and, Bool.or_false, Bool.false_or, Bool.or_true, Bool.true_or, Bool.and_false, Bool.false_and, if_true, if_false, ite_true, ite_false, reduceIte, reduceCtorEq, decide_true, decide_false, decide_eq_true_eq, decide_eq_false_iff_not, true_and, and_true, eq_self, ne_eq, not_false_eq_true, not_true_eq_false, and_self, *])
  refine ⟨rfl, b, d, 8, rfl, hb, by decide, fun kind M1 hk0 hk8 hb1 e1 => ?_⟩
  try (simp only [↓e_seq, ↓e_next, ↓e_break, ↓e_cont, ↓e_expr, ↓e_ret, ↓e_retN, ↓e_if, ↓e_never, ↓e_asg, ↓e_name, ↓e_agtup, ↓e_agcons, ↓e_agnil, ↓e_agsub, ↓e_aug, ↓e_dput, ↓e_var, ↓e_c, ↓e_op, ↓e_some, ↓e_none, ↓e_test, ↓e_and, ↓e_or, ↓e_not, ↓e_yes, ↓e_truth,   ↓e_tru_bl, ↓e_tru_int, ↓e_tru_non, ↓e_tru_str, ↓e_tru_tup, ↓e_tru_obj, ↓e_chain, ↓e_orV, ↓e_andV, ↓e_notV, ↓e_ifE, ↓e_neg, ↓e_nil, ↓e_cons, ↓e_tup, ↓e_lst, ↓e_dnew, ↓e_call, ↓e_cb, ↓e_isi, ↓e_sl, ↓e_onone, ↓e_osome, ↓e_rev, ↓e_lm, ↓e_append, ↓e_extend, ↓e_pop, ↓e_join, ↓e_dget2, ↓e_sortSet, ↓e_sortS, ↓e_setd, strsOf_map, ↓e_maxI, ↓e_disp, ↓e_pairN, ↓e_pairC, intsOf_map, ↓e_for, ↓e_ilist, ↓e_itup, ↓e_rng1, ↓e_rng2, ↓e_lc, ↓e_lc2, e_lc2N, ↓e_ienum, ↓e_izip, ↓e_anyB, ↓e_allB, ↓e_mulS, blsOf_map, ↓e_set0, ↓e_sadd, ↓e_sortTx, ↓e_sortD, ↓e_repr, ↓e_extT, ↓e_sc2, ↓e_sortZ, ↓e_tupVals, ↓e_wget, ↓e_wix, ↓e_listZip, zipD_nil, zipD_cons, ↓e_dgetF, ↓e_idif,   ↓e_add_int, ↓e_add_str, ↓e_add_tup, ↓e_add_obj, ↓e_iadd_int, ↓e_iadd_str, ↓e_iadd_obj, ↓e_I, ↓e_I0, ↓e_IS_int, ↓e_IS_str, ↓e_eq_str, ↓e_ne_str, ↓e_eq_int, ↓e_ne_int, ↓e_eq_bl, ↓e_ne_bl, ↓e_isN, ↓e_notN, ↓e_ix_tup, ↓e_ix_fl, ↓e_ix_str, ↓e_ix_obj, ↓e_in_tup, ↓e_nin_tup, ↓e_len_tup, ↓e_len_fl, ↓e_len_str, ↓e_len_obj, ↓e_int_int, ↓e_tuple_tup, ↓e_tuple_obj, ↓e_list_tup, ↓e_list_obj, ↓e_dget, ↓e_din, ↓e_dnin, ↓e_lstAt, ↓e_dicAt,   e_key_int, e_key_str, e_up, e_ty_str, e_ty_tup, e_ty_int, e_ty_bl, e_ty_non, atI0, atI1, atI2, atI3, atIL, ixN0, ixN1, cut_from1, e_ite_or, e_ite_and, zln, znl, zli, zil, zni, zin, sizeLine_eq, CMul, CDiv, cpow1018, true_or, or_true, kb_strstr, kb_tupstr, kb_tuptup, kb_strtup, kb_inttup, kb_bltup, kb_nontup, kb_strbl, kb_strint, kb_intbl, kb_intint, kb_blbl, kb_blint, kb_nonbl, kb_nonint, kb_nonstr, kb_intstr, kb_blstr, kb_tupbl, kb_tupint,   List.set_cons_zero, List.set_cons_succ, List.set_nil, List.getElem?_cons_zero, List.getElem?_cons_succ, List.getElem?_nil, List.length_cons, List.length_nil, List.length_map, List.length_append, e_lcN, e_lcC, e_forN, e_forC, List.getLast?_concat, List.dropLast_concat, List.nil_append, List.cons_append, List.append_nil, List.append_assoc, List.reverse_cons, List.reverse_nil, List.isEmpty_nil, List.isEmpty_cons, isEmpty_snoc, List.any_cons, List.any_nil, List.all_cons, List.all_nil, flatD, eqF, in_non, in_tup, in_str, in_int, in_bl, in_obj, in_fl, startA, List.map_cons, List.map_nil, List.replicate_succ, List.replicate_zero,   Nat.reduceAdd, Nat.reduceSub, Nat.reduceLeDiff, Nat.zero_add, Int.reduceLE, Int.reduceLT, Int.reduceToNat, Int.reducePow, Int.reduceNeg, Int.reduceAdd, Int.reduceSub,   Option.isSome_some, Option.isSome_none, Bool.not_true, Bool.not_false, Bool.not_eq_true', Bool.not_eq_eq_eq_not, Bool.not_eq_true, Bool.false_eq_true, Bool.true_eq_false, Bool.and_true, Bool.true_and, Bool.or_false, Bool.false_or, Bool.or_true, Bool.true_or, Bool.and_false, Bool.false_and, if_true, if_false, ite_true, ite_false, reduceIte, reduceCtorEq, decide_true, decide_false, decide_eq_true_eq, decide_eq_false_iff_not, true_and, and_true, eq_self, ne_eq, not_false_eq_true, not_true_eq_false, and_self, *])
  split
  · refine ⟨rfl, b, d, many, rfl, hb1, by omega, fun v M2 hv0 hv1 hb2 e2 => ?_⟩
    obtain ⟨c, hc, hat⟩ := at8 hv0 (by omega : v < 8)
    have h8 := z8
    have h8l := z8l
    try (simp only [↓e_seq, ↓e_next, ↓e_break, ↓e_cont, ↓e_expr, ↓e_ret, ↓e_retN, ↓e_if, ↓e_never, ↓e_asg, ↓e_name, ↓e_agtup, ↓e_agcons, ↓e_agnil, ↓e_agsub, ↓e_aug, ↓e_dput, ↓e_var, ↓e_c, ↓e_op, ↓e_some, ↓e_none, ↓e_test, ↓e_and, ↓e_or, ↓e_not, ↓e_yes, ↓e_truth,   ↓e_tru_bl, ↓e_tru_int, ↓e_tru_non, ↓e_tru_str, ↓e_tru_tup, ↓e_tru_obj, ↓e_chain, ↓e_orV, ↓e_andV, ↓e_notV, ↓e_ifE, ↓e_neg, ↓e_nil, ↓e_cons, ↓e_tup, ↓e_lst, ↓e_dnew, ↓e_call, ↓e_cb, ↓e_isi, ↓e_sl, ↓e_onone, ↓e_osome, ↓e_rev, ↓e_lm, ↓e_append, ↓e_extend, ↓e_pop, ↓e_join, ↓e_dget2, ↓e_sortSet, ↓e_sortS, ↓e_setd, strsOf_map, ↓e_maxI, ↓e_disp, ↓e_pairN, ↓e_pairC, intsOf_map, ↓e_for, ↓e_ilist, ↓e_itup, ↓e_rng1, ↓e_rng2, ↓e_lc, ↓e_lc2, e_lc2N, ↓e_ienum, ↓e_izip, ↓e_anyB, ↓e_allB, ↓e_mulS, blsOf_map, ↓e_set0, ↓e_sadd, ↓e_sortTx, ↓e_sortD, ↓e_repr, ↓e_extT, ↓e_sc2, ↓e_sortZ, ↓e_tupVals, ↓e_wget, ↓e_wix, ↓e_listZip, zipD_nil, zipD_cons, ↓e_dgetF, ↓e_idif,   ↓e_add_int, ↓e_add_str, ↓e_add_tup, ↓e_add_obj, ↓e_iadd_int, ↓e_iadd_str, ↓e_iadd_obj, ↓e_I, ↓e_I0, ↓e_IS_int, ↓e_IS_str, ↓e_eq_str, ↓e_ne_str, ↓e_eq_int, ↓e_ne_int, ↓e_eq_bl, ↓e_ne_bl, ↓e_isN, ↓e_notN, ↓e_ix_tup, ↓e_ix_fl, ↓e_ix_str, ↓e_ix_obj, ↓e_in_tup, ↓e_nin_tup, ↓e_len_tup, ↓e_len_fl, ↓e_len_str, ↓e_len_obj, ↓e_int_int, ↓e_tuple_tup, ↓e_tuple_obj, ↓e_list_tup, ↓e_list_obj, ↓e_dget, ↓e_din, ↓e_dnin, ↓e_lstAt, ↓e_dicAt,   e_key_int, e_key_str, e_up, e_ty_str, e_ty_tup, e_ty_int, e_ty_bl, e_ty_non, atI0, atI1, atI2, atI3, atIL, ixN0, ixN1, cut_from1, e_ite_or, e_ite_and, zln, znl, zli, zil, zni, zin, sizeLine_eq, CMul, CDiv, cpow1018, true_or, or_true, kb_strstr, kb_tupstr, kb_tuptup, kb_strtup, kb_inttup, kb_bltup, kb_nontup, kb_strbl, kb_strint, kb_intbl, kb_intint, kb_blbl, kb_blint, kb_nonbl, kb_nonint, kb_nonstr, kb_intstr, kb_blstr, kb_tupbl, kb_tupint,   List.set_cons_zero, List.set_cons_succ, List.set_nil, List.getElem?_cons_zero, List.getElem?_cons_succ, List.getElem?_nil, List.length_cons, List.length_nil, List.length_map, List.length_append, e_lcN, e_lcC, e_forN, e_forC, List.getLast?_concat, List.dropLast_concat, List.nil_append, List.cons_append, List.append_nil, List.append_assoc, List.reverse_cons, List.reverse_nil, List.isEmpty_nil, List.isEmpty_cons, isEmpty_snoc, List.any_cons, List.any_nil, List.all_cons, List.all_nil, flatD, eqF, in_non, in_tup, in_str, in_int, in_bl, in_obj, in_fl, startA, List.map_cons, List.map_nil, List.replicate_succ, List.replicate_zero,   Nat.reduceAdd, Nat.reduceSub, Nat.reduceLeDiff, Nat.zero_add, Int.reduceLE, Int.reduceLT, Int.reduceToNat, Int.reducePow, Int.reduceNeg, Int.reduceAdd, Int.reduceSub,   Option.isSome_some, Option.isSome_none, Bool.not_true, Bool.not_false, Bool.not_eq_true', Bool.not_eq_eq_eq_not, Bool.not_eq_true, Bool.false_eq_true, Bool.true_eq_false, Bool.and_true, Bool.true_and, Bool.or_false, Bool.false_or, Bool.or_true, Bool.true_or, Bool.and_false, Bool.false_and, if_true, if_false, ite_true, ite_false, reduceIte, reduceCtorEq, decide_true, decide_false, decide_eq_true_eq, decide_eq_false_iff_not, true_and, and_true, eq_self, ne_eq, not_false_eq_true, not_true_eq_false, and_self, *])
    exact q (.lt ⟨#[c]⟩) M2 ⟨c, hc, rfl⟩ (by show (1 : Int) ≤ room; omega) hb2 (e1.trans e2)
  · rename_i hc1
    split
    · rename_i hc2
      refine ⟨rfl, b, d, room - 1, many, rfl, hb1, by omega, by omega, hm, hm8, fun f M2 hf hs hb2 e2 => ?_⟩
      try (simp only [↓e_seq, ↓e_next, ↓e_break, ↓e_cont, ↓e_expr, ↓e_ret, ↓e_retN, ↓e_if, ↓e_never, ↓e_asg, ↓e_name, ↓e_agtup, ↓e_agcons, ↓e_agnil, ↓e_agsub, ↓e_aug, ↓e_dput, ↓e_var, ↓e_c, ↓e_op, ↓e_some, ↓e_none, ↓e_test, ↓e_and, ↓e_or, ↓e_not, ↓e_yes, ↓e_truth,   ↓e_tru_bl, ↓e_tru_int, ↓e_tru_non, ↓e_tru_str, ↓e_tru_tup, ↓e_tru_obj, ↓e_chain, ↓e_orV, ↓e_andV, ↓e_notV, ↓e_ifE, ↓e_neg, ↓e_nil, ↓e_cons, ↓e_tup, ↓e_lst, ↓e_dnew, ↓e_call, ↓e_cb, ↓e_isi, ↓e_sl, ↓e_onone, ↓e_osome, ↓e_rev, ↓e_lm, ↓e_append, ↓e_extend, ↓e_pop, ↓e_join, ↓e_dget2, ↓e_sortSet, ↓e_sortS, ↓e_setd, strsOf_map, ↓e_maxI, ↓e_disp, ↓e_pairN, ↓e_pairC, intsOf_map, ↓e_for, ↓e_ilist, ↓e_itup, ↓e_rng1, ↓e_rng2, ↓e_lc, ↓e_lc2, e_lc2N, ↓e_ienum, ↓e_izip, ↓e_anyB, ↓e_allB, ↓e_mulS, blsOf_map, ↓e_set0, ↓e_sadd, ↓e_sortTx, ↓e_sortD, ↓e_repr, ↓e_extT, ↓e_sc2, ↓e_sortZ, ↓e_tupVals, ↓e_wget, ↓e_wix, ↓e_listZip, zipD_nil, zipD_cons, ↓e_dgetF, ↓e_idif,   ↓e_add_int, ↓e_add_str, ↓e_add_tup, ↓e_add_obj, ↓e_iadd_int, ↓e_iadd_str, ↓e_iadd_obj, ↓e_I, ↓e_I0, ↓e_IS_int, ↓e_IS_str, ↓e_eq_str, ↓e_ne_str, ↓e_eq_int, ↓e_ne_int, ↓e_eq_bl, ↓e_ne_bl, ↓e_isN, ↓e_notN, ↓e_ix_tup, ↓e_ix_fl, ↓e_ix_str, ↓e_ix_obj, ↓e_in_tup, ↓e_nin_tup, ↓e_len_tup, ↓e_len_fl, ↓e_len_str, ↓e_len_obj, ↓e_int_int, ↓e_tuple_tup, ↓e_tuple_obj, ↓e_list_tup, ↓e_list_obj, ↓e_dget, ↓e_din, ↓e_dnin, ↓e_lstAt, ↓e_dicAt,   e_key_int, e_key_str, e_up, e_ty_str, e_ty_tup, e_ty_int, e_ty_bl, e_ty_non, atI0, atI1, atI2, atI3, atIL, ixN0, ixN1, cut_from1, e_ite_or, e_ite_and, zln, znl, zli, zil, zni, zin, sizeLine_eq, CMul, CDiv, cpow1018, true_or, or_true, kb_strstr, kb_tupstr, kb_tuptup, kb_strtup, kb_inttup, kb_bltup, kb_nontup, kb_strbl, kb_strint, kb_intbl, kb_intint, kb_blbl, kb_blint, kb_nonbl, kb_nonint, kb_nonstr, kb_intstr, kb_blstr, kb_tupbl, kb_tupint,   List.set_cons_zero, List.set_cons_succ, List.set_nil, List.getElem?_cons_zero, List.getElem?_cons_succ, List.getElem?_nil, List.length_cons, List.length_nil, List.length_map, List.length_append, e_lcN, e_lcC, e_forN, e_forC, List.getLast?_concat, List.dropLast_concat, List.nil_append, List.cons_append, List.append_nil, List.append_assoc, List.reverse_cons, List.reverse_nil, List.isEmpty_nil, List.isEmpty_cons, isEmpty_snoc, List.any_cons, List.any_nil, List.all_cons, List.all_nil, flatD, eqF, in_non, in_tup, in_str, in_int, in_bl, in_obj, in_fl, startA, List.map_cons, List.map_nil, List.replicate_succ, List.replicate_zero,   Nat.reduceAdd, Nat.reduceSub, Nat.reduceLeDiff, Nat.zero_add, Int.reduceLE, Int.reduceLT, Int.reduceToNat, Int.reducePow, Int.reduceNeg, Int.reduceAdd, Int.reduceSub,   Option.isSome_some, Option.isSome_none, Bool.not_true, Bool.not_false, Bool.not_eq_true', Bool.not_eq_eq_eq_not, Bool.not_eq_true, Bool.false_eq_true, Bool.true_eq_false, Bool.and_true, Bool.true_and, Bool.or_false, Bool.false_or, Bool.or_true, Bool.true_or, Bool.and_false, Bool.false_and, if_true, if_false, ite_true, ite_false, reduceIte, reduceCtorEq, decide_true, decide_false, decide_eq_true_eq, decide_eq_false_iff_not, true_and, and_true, eq_self, ne_eq, not_false_eq_true, not_true_eq_false, and_self, *])
      exact q (.ng f) M2 hf (by show ((f.sz + 1 : Nat) : Int) ≤ room; omega) hb2 (e1.trans e2)
    · refine ⟨rfl, b, d, room - 2, rfl, hb1, by omega, fun v M2 hv0 hv1 hb2 e2 => ?_⟩
      try (simp only [↓e_seq, ↓e_next, ↓e_break, ↓e_cont, ↓e_expr, ↓e_ret, ↓e_retN, ↓e_if, ↓e_never, ↓e_asg, ↓e_name, ↓e_agtup, ↓e_agcons, ↓e_agnil, ↓e_agsub, ↓e_aug, ↓e_dput, ↓e_var, ↓e_c, ↓e_op, ↓e_some, ↓e_none, ↓e_test, ↓e_and, ↓e_or, ↓e_not, ↓e_yes, ↓e_truth,   ↓e_tru_bl, ↓e_tru_int, ↓e_tru_non, ↓e_tru_str, ↓e_tru_tup, ↓e_tru_obj, ↓e_chain, ↓e_orV, ↓e_andV, ↓e_notV, ↓e_ifE, ↓e_neg, ↓e_nil, ↓e_cons, ↓e_tup, ↓e_lst, ↓e_dnew, ↓e_call, ↓e_cb, ↓e_isi, ↓e_sl, ↓e_onone, ↓e_osome, ↓e_rev, ↓e_lm, ↓e_append, ↓e_extend, ↓e_pop, ↓e_join, ↓e_dget2, ↓e_sortSet, ↓e_sortS, ↓e_setd, strsOf_map, ↓e_maxI, ↓e_disp, ↓e_pairN, ↓e_pairC, intsOf_map, ↓e_for, ↓e_ilist, ↓e_itup, ↓e_rng1, ↓e_rng2, ↓e_lc, ↓e_lc2, e_lc2N, ↓e_ienum, ↓e_izip, ↓e_anyB, ↓e_allB, ↓e_mulS, blsOf_map, ↓e_set0, ↓e_sadd, ↓e_sortTx, ↓e_sortD, ↓e_repr, ↓e_extT, ↓e_sc2, ↓e_sortZ, ↓e_tupVals, ↓e_wget, ↓e_wix, ↓e_listZip, zipD_nil, zipD_cons, ↓e_dgetF, ↓e_idif,   ↓e_add_int, ↓e_add_str, ↓e_add_tup, ↓e_add_obj, ↓e_iadd_int, ↓e_iadd_str, ↓e_iadd_obj, ↓e_I, ↓e_I0, ↓e_IS_int, ↓e_IS_str, ↓e_eq_str, ↓e_ne_str, ↓e_eq_int, ↓e_ne_int, ↓e_eq_bl, ↓e_ne_bl, ↓e_isN, ↓e_notN, ↓e_ix_tup, ↓e_ix_fl, ↓e_ix_str, ↓e_ix_obj, ↓e_in_tup, ↓e_nin_tup, ↓e_len_tup, ↓e_len_fl, ↓e_len_str, ↓e_len_obj, ↓e_int_int, ↓e_tuple_tup, ↓e_tuple_obj, ↓e_list_tup, ↓e_list_obj, ↓e_dget, ↓e_din, ↓e_dnin, ↓e_lstAt, ↓e_dicAt,   e_key_int, e_key_str, e_up, e_ty_str, e_ty_tup, e_ty_int, e_ty_bl, e_ty_non, atI0, atI1, atI2, atI3, atIL, ixN0, ixN1, cut_from1, e_ite_or, e_ite_and, zln, znl, zli, zil, zni, zin, sizeLine_eq, CMul, CDiv, cpow1018, true_or, or_true, kb_strstr, kb_tupstr, kb_tuptup, kb_strtup, kb_inttup, kb_bltup, kb_nontup, kb_strbl, kb_strint, kb_intbl, kb_intint, kb_blbl, kb_blint, kb_nonbl, kb_nonint, kb_nonstr, kb_intstr, kb_blstr, kb_tupbl, kb_tupint,   List.set_cons_zero, List.set_cons_succ, List.set_nil, List.getElem?_cons_zero, List.getElem?_cons_succ, List.getElem?_nil, List.length_cons, List.length_nil, List.length_map, List.length_append, e_lcN, e_lcC, e_forN, e_forC, List.getLast?_concat, List.dropLast_concat, List.nil_append, List.cons_append, List.append_nil, List.append_assoc, List.reverse_cons, List.reverse_nil, List.isEmpty_nil, List.isEmpty_cons, isEmpty_snoc, List.any_cons, List.any_nil, List.all_cons, List.all_nil, flatD, eqF, in_non, in_tup, in_str, in_int, in_bl, in_obj, in_fl, startA, List.map_cons, List.map_nil, List.replicate_succ, List.replicate_zero,   Nat.reduceAdd, Nat.reduceSub, Nat.reduceLeDiff, Nat.zero_add, Int.reduceLE, Int.reduceLT, Int.reduceToNat, Int.reducePow, Int.reduceNeg, Int.reduceAdd, Int.reduceSub,   Option.isSome_some, Option.isSome_none, Bool.not_true, Bool.not_false, Bool.not_eq_true', Bool.not_eq_eq_eq_not, Bool.not_eq_true, Bool.false_eq_true, Bool.true_eq_false, Bool.and_true, Bool.true_and, Bool.or_false, Bool.false_or, Bool.or_true, Bool.true_or, Bool.and_false, Bool.false_and, if_true, if_false, ite_true, ite_false, reduceIte, reduceCtorEq, decide_true, decide_false, decide_eq_true_eq, decide_eq_false_iff_not, true_and, and_true, eq_self, ne_eq, not_false_eq_true, not_true_eq_false, and_self, *])
      refine ⟨rfl, b, d, 1 + v, many, rfl, hb2, by omega, by omega, hm, hm8, fun f M3 hf hs hb3 e3 => ?_⟩
      try (simp only [↓e_seq, ↓e_next, ↓e_break, ↓e_cont, ↓e_expr, ↓e_ret, ↓e_retN, ↓e_if, ↓e_never, ↓e_asg, ↓e_name, ↓e_agtup, ↓e_agcons, ↓e_agnil, ↓e_agsub, ↓e_aug, ↓e_dput, ↓e_var, ↓e_c, ↓e_op, ↓e_some, ↓e_none, ↓e_test, ↓e_and, ↓e_or, ↓e_not, ↓e_yes, ↓e_truth,   ↓e_tru_bl, ↓e_tru_int, ↓e_tru_non, ↓e_tru_str, ↓e_tru_tup, ↓e_tru_obj, ↓e_chain, ↓e_orV, ↓e_andV, ↓e_notV, ↓e_ifE, ↓e_neg, ↓e_nil, ↓e_cons, ↓e_tup, ↓e_lst, ↓e_dnew, ↓e_call, ↓e_cb, ↓e_isi, ↓e_sl, ↓e_onone, ↓e_osome, ↓e_rev, ↓e_lm, ↓e_append, ↓e_extend, ↓e_pop, ↓e_join, ↓e_dget2, ↓e_sortSet, ↓e_sortS, ↓e_setd, strsOf_map, ↓e_maxI, ↓e_disp, ↓e_pairN, ↓e_pairC, intsOf_map, ↓e_for, ↓e_ilist, ↓e_itup, ↓e_rng1, ↓e_rng2, ↓e_lc, ↓e_lc2, e_lc2N, ↓e_ienum, ↓e_izip, ↓e_anyB, ↓e_allB, ↓e_mulS, blsOf_map, ↓e_set0, ↓e_sadd, ↓e_sortTx, ↓e_sortD, ↓e_repr, ↓e_extT, ↓e_sc2, ↓e_sortZ, ↓e_tupVals, ↓e_wget, ↓e_wix, ↓e_listZip, zipD_nil, zipD_cons, ↓e_dgetF, ↓e_idif,   ↓e_add_int, ↓e_add_str, ↓e_add_tup, ↓e_add_obj, ↓e_iadd_int, ↓e_iadd_str, ↓e_iadd_obj, ↓e_I, ↓e_I0, ↓e_IS_int, ↓e_IS_str, ↓e_eq_str, ↓e_ne_str, ↓e_eq_int, ↓e_ne_int, ↓e_eq_bl, ↓e_ne_bl, ↓e_isN, ↓e_notN, ↓e_ix_tup, ↓e_ix_fl, ↓e_ix_str, ↓e_ix_obj, ↓e_in_tup, ↓e_nin_tup, ↓e_len_tup, ↓e_len_fl, ↓e_len_str, ↓e_len_obj, ↓e_int_int, ↓e_tuple_tup, ↓e_tuple_obj, ↓e_list_tup, ↓e_list_obj, ↓e_dget, ↓e_din, ↓e_dnin, ↓e_lstAt, ↓e_dicAt,   e_key_int, e_key_str, e_up, e_ty_str, e_ty_tup, e_ty_int, e_ty_bl, e_ty_non, atI0, atI1, atI2, atI3, atIL, ixN0, ixN1, cut_from1, e_ite_or, e_ite_and, zln, znl, zli, zil, zni, zin, sizeLine_eq, CMul, CDiv, cpow1018, true_or, or_true, kb_strstr, kb_tupstr, kb_tuptup, kb_strtup, kb_inttup, kb_bltup, kb_nontup, kb_strbl, kb_strint, kb_intbl, kb_intint, kb_blbl, kb_blint, kb_nonbl, kb_nonint, kb_nonstr, kb_intstr, kb_blstr, kb_tupbl, kb_tupint,   List.set_cons_zero, List.set_cons_succ, List.set_nil, List.getElem?_cons_zero, List.getElem?_cons_succ, List.getElem?_nil, List.length_cons, List.length_nil, List.length_map, List.length_append, e_lcN, e_lcC, e_forN, e_forC, List.getLast?_concat, List.dropLast_concat, List.nil_append, List.cons_append, List.append_nil, List.append_assoc, List.reverse_cons, List.reverse_nil, List.isEmpty_nil, List.isEmpty_cons, isEmpty_snoc, List.any_cons, List.any_nil, List.all_cons, List.all_nil, flatD, eqF, in_non, in_tup, in_str, in_int, in_bl, in_obj, in_fl, startA, List.map_cons, List.map_nil, List.replicate_succ, List.replicate_zero,   Nat.reduceAdd, Nat.reduceSub, Nat.reduceLeDiff, Nat.zero_add, Int.reduceLE, Int.reduceLT, Int.reduceToNat, Int.reducePow, Int.reduceNeg, Int.reduceAdd, Int.reduceSub,   Option.isSome_some, Option.isSome_none, Bool.not_true, Bool.not_false, Bool.not_eq_true', Bool.not_eq_eq_eq_not, Bool.not_eq_true, Bool.false_eq_true, Bool.true_eq_false, Bool.and_true, Bool.true_and, Bool.or_false, Bool.false_or, Bool.or_true, Bool.true_or, Bool.and_false, Bool.false_and, if_true, if_false, ite_true, ite_false, reduceIte, reduceCtorEq, decide_true, decide_false, decide_eq_true_eq, decide_eq_false_iff_not, true_and, and_true, eq_self, ne_eq, not_false_eq_true, not_true_eq_false, and_self, *])
      refine ⟨rfl, b, d, room - 1 - (1 + v), many, rfl, hb3, by omega, by omega, hm, hm8, fun g M4 hg hs2 hb4 e4 => ?_⟩
      try (simp only [↓e_seq, ↓e_next, ↓e_break, ↓e_cont, ↓e_expr, ↓e_ret, ↓e_retN, ↓e_if, ↓e_never, ↓e_asg, ↓e_name, ↓e_agtup, ↓e_agcons, ↓e_agnil, ↓e_agsub, ↓e_aug, ↓e_dput, ↓e_var, ↓e_c, ↓e_op, ↓e_some, ↓e_none, ↓e_test, ↓e_and, ↓e_or, ↓e_not, ↓e_yes, ↓e_truth,   ↓e_tru_bl, ↓e_tru_int, ↓e_tru_non, ↓e_tru_str, ↓e_tru_tup, ↓e_tru_obj, ↓e_chain, ↓e_orV, ↓e_andV, ↓e_notV, ↓e_ifE, ↓e_neg, ↓e_nil, ↓e_cons, ↓e_tup, ↓e_lst, ↓e_dnew, ↓e_call, ↓e_cb, ↓e_isi, ↓e_sl, ↓e_onone, ↓e_osome, ↓e_rev, ↓e_lm, ↓e_append, ↓e_extend, ↓e_pop, ↓e_join, ↓e_dget2, ↓e_sortSet, ↓e_sortS, ↓e_setd, strsOf_map, ↓e_maxI, ↓e_disp, ↓e_pairN, ↓e_pairC, intsOf_map, ↓e_for, ↓e_ilist, ↓e_itup, ↓e_rng1, ↓e_rng2, ↓e_lc, ↓e_lc2, e_lc2N, ↓e_ienum, ↓e_izip, ↓e_anyB, ↓e_allB, ↓e_mulS, blsOf_map, ↓e_set0, ↓e_sadd, ↓e_sortTx, ↓e_sortD, ↓e_repr, ↓e_extT, ↓e_sc2, ↓e_sortZ, ↓e_tupVals, ↓e_wget, ↓e_wix, ↓e_listZip, zipD_nil, zipD_cons, ↓e_dgetF, ↓e_idif,   ↓e_add_int, ↓e_add_str, ↓e_add_tup, ↓e_add_obj, ↓e_iadd_int, ↓e_iadd_str, ↓e_iadd_obj, ↓e_I, ↓e_I0, ↓e_IS_int, ↓e_IS_str, ↓e_eq_str, ↓e_ne_str, ↓e_eq_int, ↓e_ne_int, ↓e_eq_bl, ↓e_ne_bl, ↓e_isN, ↓e_notN, ↓e_ix_tup, ↓e_ix_fl, ↓e_ix_str, ↓e_ix_obj, ↓e_in_tup, ↓e_nin_tup, ↓e_len_tup, ↓e_len_fl, ↓e_len_str, ↓e_len_obj, ↓e_int_int, ↓e_tuple_tup, ↓e_tuple_obj, ↓e_list_tup, ↓e_list_obj, ↓e_dget, ↓e_din, ↓e_dnin, ↓e_lstAt, ↓e_dicAt,   e_key_int, e_key_str, e_up, e_ty_str, e_ty_tup, e_ty_int, e_ty_bl, e_ty_non, atI0, atI1, atI2, atI3, atIL, ixN0, ixN1, cut_from1, e_ite_or, e_ite_and, zln, znl, zli, zil, zni, zin, sizeLine_eq, CMul, CDiv, cpow1018, true_or, or_true, kb_strstr, kb_tupstr, kb_tuptup, kb_strtup, kb_inttup, kb_bltup, kb_nontup, kb_strbl, kb_strint, kb_intbl, kb_intint, kb_blbl, kb_blint, kb_nonbl, kb_nonint, kb_nonstr, kb_intstr, kb_blstr, kb_tupbl, kb_tupint,   List.set_cons_zero, List.set_cons_succ, List.set_nil, List.getElem?_cons_zero, List.getElem?_cons_succ, List.getElem?_nil, List.length_cons, List.length_nil, List.length_map, List.length_append, e_lcN, e_lcC, e_forN, e_forC, List.getLast?_concat, List.dropLast_concat, List.nil_append, List.cons_append, List.append_nil, List.append_assoc, List.reverse_cons, List.reverse_nil, List.isEmpty_nil, List.isEmpty_cons, isEmpty_snoc, List.any_cons, List.any_nil, List.all_cons, List.all_nil, flatD, eqF, in_non, in_tup, in_str, in_int, in_bl, in_obj, in_fl, startA, List.map_cons, List.map_nil, List.replicate_succ, List.replicate_zero,   Nat.reduceAdd, Nat.reduceSub, Nat.reduceLeDiff, Nat.zero_add, Int.reduceLE, Int.reduceLT, Int.reduceToNat, Int.reducePow, Int.reduceNeg, Int.reduceAdd, Int.reduceSub,   Option.isSome_some, Option.isSome_none, Bool.not_true, Bool.not_false, Bool.not_eq_true', Bool.not_eq_eq_eq_not, Bool.not_eq_true, Bool.false_eq_true, Bool.true_eq_false, Bool.and_true, Bool.true_and, Bool.or_false, Bool.false_or, Bool.or_true, Bool.true_or, Bool.and_false, Bool.false_and, if_true, if_false, ite_true, ite_false, reduceIte, reduceCtorEq, decide_true, decide_false, decide_eq_true_eq, decide_eq_false_iff_not, true_and, and_true, eq_self, ne_eq, not_false_eq_true, not_true_eq_false, and_self, *])
      exact q (.im f g) M4 ⟨hf, hg⟩ (by show ((f.sz + g.sz + 1 : Nat) : Int) ≤ room; omega) hb4 (((e1.trans e2).trans e3).trans e4)
def A_put (L : Nat) : ASp := fun ds M Q _ => ∃ (f : Fm) (t : Addr) (kvs : List (Key × D)) (σ : Str → Fm), ds = [f.d, .obj t] ∧ f.sz ≤ L ∧ M t = some (.dic kvs) ∧ (∀ s, (valA kvs (.inr s)).getD (Fm.lt s).d = (σ s).d) ∧ ∀ M', Ext M M' → Q (f.sub σ).d M'
theorem p__law_put (L : Nat) (ds : List D) (M : Sto) (Q : D → Sto → Prop) (Xa) (hl : ds.length = 2) (h : A_put (L + 1) ds M Q Xa) : a__law_put (A_put L) ax0 (Done Q) (startA ["formula", "table", "part"] ds) M := by
  obtain ⟨f, t, kvs, σ, rfl, hf, ht, hs, q⟩ := h
  unfold a__law_put
  cases f with
  | lt s =>
    rw [Fm.d_lt]
    have hs' := hs s
    try (simp only [↓e_seq, ↓e_next, ↓e_break, ↓e_cont, ↓e_expr, ↓e_ret, ↓e_retN, ↓e_if, ↓e_never, ↓e_asg, ↓e_name, ↓e_agtup, ↓e_agcons, ↓e_agnil, ↓e_agsub, ↓e_aug, ↓e_dput, ↓e_var, ↓e_c, ↓e_op, ↓e_some, ↓e_none, ↓e_test, ↓e_and, ↓e_or, ↓e_not, ↓e_yes, ↓e_truth,   ↓e_tru_bl, ↓e_tru_int, ↓e_tru_non, ↓e_tru_str, ↓e_tru_tup, ↓e_tru_obj, ↓e_chain, ↓e_orV, ↓e_andV, ↓e_notV, ↓e_ifE, ↓e_neg, ↓e_nil, ↓e_cons, ↓e_tup, ↓e_lst, ↓e_dnew, ↓e_call, ↓e_cb, ↓e_isi, ↓e_sl, ↓e_onone, ↓e_osome, ↓e_rev, ↓e_lm, ↓e_append, ↓e_extend, ↓e_pop, ↓e_join, ↓e_dget2, ↓e_sortSet, ↓e_sortS, ↓e_setd, strsOf_map, ↓e_maxI, ↓e_disp, ↓e_pairN, ↓e_pairC, intsOf_map, ↓e_for, ↓e_ilist, ↓e_itup, ↓e_rng1, ↓e_rng2, ↓e_lc, ↓e_lc2, e_lc2N, ↓e_ienum, ↓e_izip, ↓e_anyB, ↓e_allB, ↓e_mulS, blsOf_map, ↓e_set0, ↓e_sadd, ↓e_sortTx, ↓e_sortD, ↓e_repr, ↓e_extT, ↓e_sc2, ↓e_sortZ, ↓e_tupVals, ↓e_wget, ↓e_wix, ↓e_listZip, zipD_nil, zipD_cons, ↓e_dgetF, ↓e_idif,   ↓e_add_int, ↓e_add_str, ↓e_add_tup, ↓e_add_obj, ↓e_iadd_int, ↓e_iadd_str, ↓e_iadd_obj, ↓e_I, ↓e_I0, ↓e_IS_int, ↓e_IS_str, ↓e_eq_str, ↓e_ne_str, ↓e_eq_int, ↓e_ne_int, ↓e_eq_bl, ↓e_ne_bl, ↓e_isN, ↓e_notN, ↓e_ix_tup, ↓e_ix_fl, ↓e_ix_str, ↓e_ix_obj, ↓e_in_tup, ↓e_nin_tup, ↓e_len_tup, ↓e_len_fl, ↓e_len_str, ↓e_len_obj, ↓e_int_int, ↓e_tuple_tup, ↓e_tuple_obj, ↓e_list_tup, ↓e_list_obj, ↓e_dget, ↓e_din, ↓e_dnin, ↓e_lstAt, ↓e_dicAt,   e_key_int, e_key_str, e_up, e_ty_str, e_ty_tup, e_ty_int, e_ty_bl, e_ty_non, atI0, atI1, atI2, atI3, atIL, ixN0, ixN1, cut_from1, e_ite_or, e_ite_and, zln, znl, zli, zil, zni, zin, sizeLine_eq, CMul, CDiv, cpow1018, true_or, or_true, kb_strstr, kb_tupstr, kb_tuptup, kb_strtup, kb_inttup, kb_bltup, kb_nontup, kb_strbl, kb_strint, kb_intbl, kb_intint, kb_blbl, kb_blint, kb_nonbl, kb_nonint, kb_nonstr, kb_intstr, kb_blstr, kb_tupbl, kb_tupint,   List.set_cons_zero, List.set_cons_succ, List.set_nil, List.getElem?_cons_zero, List.getElem?_cons_succ, List.getElem?_nil, List.length_cons, List.length_nil, List.length_map, List.length_append, e_lcN, e_lcC, e_forN, e_forC, List.getLast?_concat, List.dropLast_concat, List.nil_append, List.cons_append, List.append_nil, List.append_assoc, List.reverse_cons, List.reverse_nil, List.isEmpty_nil, List.isEmpty_cons, isEmpty_snoc, List.any_cons, List.any_nil, List.all_cons, List.all_nil, flatD, eqF, in_non, in_tup, in_str, in_int, in_bl, in_obj, in_fl, startA, List.map_cons, List.map_nil, List.replicate_succ, List.replicate_zero,   Nat.reduceAdd, Nat.reduceSub, Nat.reduceLeDiff, Nat.zero_add, Int.reduceLE, Int.reduceLT, Int.reduceToNat, Int.reducePow, Int.reduceNeg, Int.reduceAdd, Int.reduceSub,   Option.isSome_some, Option.isSome_none, Bool.not_true, Bool.not_false, Bool.not_eq_true', Bool.not_eq_eq_eq_not, Bool.not_eq_true, Bool.false_eq_true, Bool.true_eq_false, Bool.and_true, Bool.true_and, Bool.or_false, Bool.false_or, Bool.or_true, Bool.true_or, Bool.and_false, Bool.false_and, if_true, if_false, ite_true, ite_false, reduceIte, reduceCtorEq, decide_true, decide_false, decide_eq_true_eq, decide_eq_false_iff_not, true_and, and_true, eq_self, ne_eq, not_false_eq_true, not_true_eq_false, and_self, *])
    rw [← Fm.d_lt, hs']
    exact q M (Ext.refl M)
  | ng p =>
    rw [Fm.d_ng]
    try (simp only [↓e_seq, ↓e_next, ↓e_break, ↓e_cont, ↓e_expr, ↓e_ret, ↓e_retN, ↓e_if, ↓e_never, ↓e_asg, ↓e_name, ↓e_agtup, ↓e_agcons, ↓e_agnil, ↓e_agsub, ↓e_aug, ↓e_dput, ↓e_var, ↓e_c, ↓e_op, ↓e_some, ↓e_none, ↓e_test, ↓e_and, ↓e_or, ↓e_not, ↓e_yes, ↓e_truth,   ↓e_tru_bl, ↓e_tru_int, ↓e_tru_non, ↓e_tru_str, ↓e_tru_tup, ↓e_tru_obj, ↓e_chain, ↓e_orV, ↓e_andV, ↓e_notV, ↓e_ifE, ↓e_neg, ↓e_nil, ↓e_cons, ↓e_tup, ↓e_lst, ↓e_dnew, ↓e_call, ↓e_cb, ↓e_isi, ↓e_sl, ↓e_onone, ↓e_osome, ↓e_rev, ↓e_lm, ↓e_append, ↓e_extend, ↓e_pop, ↓e_join, ↓e_dget2, ↓e_sortSet, ↓e_sortS, ↓e_setd, strsOf_map, ↓e_maxI, ↓e_disp, ↓e_pairN, ↓e_pairC, intsOf_map, ↓e_for, ↓e_ilist, ↓e_itup, ↓e_rng1, ↓e_rng2, ↓e_lc, ↓e_lc2, e_lc2N, ↓e_ienum, ↓e_izip, ↓e_anyB, ↓e_allB, ↓e_mulS, blsOf_map, ↓e_set0, ↓e_sadd, ↓e_sortTx, ↓e_sortD, ↓e_repr, ↓e_extT, ↓e_sc2, ↓e_sortZ, ↓e_tupVals, ↓e_wget, ↓e_wix, ↓e_listZip, zipD_nil, zipD_cons, ↓e_dgetF, ↓e_idif,   ↓e_add_int, ↓e_add_str, ↓e_add_tup, ↓e_add_obj, ↓e_iadd_int, ↓e_iadd_str, ↓e_iadd_obj, ↓e_I, ↓e_I0, ↓e_IS_int, ↓e_IS_str, ↓e_eq_str, ↓e_ne_str, ↓e_eq_int, ↓e_ne_int, ↓e_eq_bl, ↓e_ne_bl, ↓e_isN, ↓e_notN, ↓e_ix_tup, ↓e_ix_fl, ↓e_ix_str, ↓e_ix_obj, ↓e_in_tup, ↓e_nin_tup, ↓e_len_tup, ↓e_len_fl, ↓e_len_str, ↓e_len_obj, ↓e_int_int, ↓e_tuple_tup, ↓e_tuple_obj, ↓e_list_tup, ↓e_list_obj, ↓e_dget, ↓e_din, ↓e_dnin, ↓e_lstAt, ↓e_dicAt,   e_key_int, e_key_str, e_up, e_ty_str, e_ty_tup, e_ty_int, e_ty_bl, e_ty_non, atI0, atI1, atI2, atI3, atIL, ixN0, ixN1, cut_from1, e_ite_or, e_ite_and, zln, znl, zli, zil, zni, zin, sizeLine_eq, CMul, CDiv, cpow1018, true_or, or_true, kb_strstr, kb_tupstr, kb_tuptup, kb_strtup, kb_inttup, kb_bltup, kb_nontup, kb_strbl, kb_strint, kb_intbl, kb_intint, kb_blbl, kb_blint, kb_nonbl, kb_nonint, kb_nonstr, kb_intstr, kb_blstr, kb_tupbl, kb_tupint,   List.set_cons_zero, List.set_cons_succ, List.set_nil, List.getElem?_cons_zero, List.getElem?_cons_succ, List.getElem?_nil, List.length_cons, List.length_nil, List.length_map, List.length_append, e_lcN, e_lcC, e_forN, e_forC, List.getLast?_concat, List.dropLast_concat, List.nil_append, List.cons_append, List.append_nil, List.append_assoc, List.reverse_cons, List.reverse_nil, List.isEmpty_nil, List.isEmpty_cons, isEmpty_snoc, List.any_cons, List.any_nil, List.all_cons, List.all_nil, flatD, eqF, in_non, in_tup, in_str, in_int, in_bl, in_obj, in_fl, startA, List.map_cons, List.map_nil, List.replicate_succ, List.replicate_zero,   Nat.reduceAdd, Nat.reduceSub, Nat.reduceLeDiff, Nat.zero_add, Int.reduceLE, Int.reduceLT, Int.reduceToNat, Int.reducePow, Int.reduceNeg, Int.reduceAdd, Int.reduceSub,   Option.isSome_some, Option.isSome_none, Bool.not_true, Bool.not_false, Bool.not_eq_true', Bool.not_eq_eq_eq_not, Bool.not_eq_true, Bool.false_eq_true, Bool.true_eq_false, Bool.and_true, Bool.true_and, Bool.or_false, Bool.false_or, Bool.or_true, Bool.true_or, Bool.and_false, Bool.false_and, if_true, if_false, ite_true, ite_false, reduceIte, reduceCtorEq, decide_true, decide_false, decide_eq_true_eq, decide_eq_false_iff_not, true_and, and_true, eq_self, ne_eq, not_false_eq_true, not_true_eq_false, and_self, *])
    refine ⟨rfl, p, t, kvs, σ, rfl, by have : (Fm.ng p).sz = p.sz + 1 := rfl; omega, ht, hs, fun M1 e1 => ?_⟩
    try (simp only [↓e_seq, ↓e_next, ↓e_break, ↓e_cont, ↓e_expr, ↓e_ret, ↓e_retN, ↓e_if, ↓e_never, ↓e_asg, ↓e_name, ↓e_agtup, ↓e_agcons, ↓e_agnil, ↓e_agsub, ↓e_aug, ↓e_dput, ↓e_var, ↓e_c, ↓e_op, ↓e_some, ↓e_none, ↓e_test, ↓e_and, ↓e_or, ↓e_not, ↓e_yes, ↓e_truth,   ↓e_tru_bl, ↓e_tru_int, ↓e_tru_non, ↓e_tru_str, ↓e_tru_tup, ↓e_tru_obj, ↓e_chain, ↓e_orV, ↓e_andV, ↓e_notV, ↓e_ifE, ↓e_neg, ↓e_nil, ↓e_cons, ↓e_tup, ↓e_lst, ↓e_dnew, ↓e_call, ↓e_cb, ↓e_isi, ↓e_sl, ↓e_onone, ↓e_osome, ↓e_rev, ↓e_lm, ↓e_append, ↓e_extend, ↓e_pop, ↓e_join, ↓e_dget2, ↓e_sortSet, ↓e_sortS, ↓e_setd, strsOf_map, ↓e_maxI, ↓e_disp, ↓e_pairN, ↓e_pairC, intsOf_map, ↓e_for, ↓e_ilist, ↓e_itup, ↓e_rng1, ↓e_rng2, ↓e_lc, ↓e_lc2, e_lc2N, ↓e_ienum, ↓e_izip, ↓e_anyB, ↓e_allB, ↓e_mulS, blsOf_map, ↓e_set0, ↓e_sadd, ↓e_sortTx, ↓e_sortD, ↓e_repr, ↓e_extT, ↓e_sc2, ↓e_sortZ, ↓e_tupVals, ↓e_wget, ↓e_wix, ↓e_listZip, zipD_nil, zipD_cons, ↓e_dgetF, ↓e_idif,   ↓e_add_int, ↓e_add_str, ↓e_add_tup, ↓e_add_obj, ↓e_iadd_int, ↓e_iadd_str, ↓e_iadd_obj, ↓e_I, ↓e_I0, ↓e_IS_int, ↓e_IS_str, ↓e_eq_str, ↓e_ne_str, ↓e_eq_int, ↓e_ne_int, ↓e_eq_bl, ↓e_ne_bl, ↓e_isN, ↓e_notN, ↓e_ix_tup, ↓e_ix_fl, ↓e_ix_str, ↓e_ix_obj, ↓e_in_tup, ↓e_nin_tup, ↓e_len_tup, ↓e_len_fl, ↓e_len_str, ↓e_len_obj, ↓e_int_int, ↓e_tuple_tup, ↓e_tuple_obj, ↓e_list_tup, ↓e_list_obj, ↓e_dget, ↓e_din, ↓e_dnin, ↓e_lstAt, ↓e_dicAt,   e_key_int, e_key_str, e_up, e_ty_str, e_ty_tup, e_ty_int, e_ty_bl, e_ty_non, atI0, atI1, atI2, atI3, atIL, ixN0, ixN1, cut_from1, e_ite_or, e_ite_and, zln, znl, zli, zil, zni, zin, sizeLine_eq, CMul, CDiv, cpow1018, true_or, or_true, kb_strstr, kb_tupstr, kb_tuptup, kb_strtup, kb_inttup, kb_bltup, kb_nontup, kb_strbl, kb_strint, kb_intbl, kb_intint, kb_blbl, kb_blint, kb_nonbl, kb_nonint, kb_nonstr, kb_intstr, kb_blstr, kb_tupbl, kb_tupint,   List.set_cons_zero, List.set_cons_succ, List.set_nil, List.getElem?_cons_zero, List.getElem?_cons_succ, List.getElem?_nil, List.length_cons, List.length_nil, List.length_map, List.length_append, e_lcN, e_lcC, e_forN, e_forC, List.getLast?_concat, List.dropLast_concat, List.nil_append, List.cons_append, List.append_nil, List.append_assoc, List.reverse_cons, List.reverse_nil, List.isEmpty_nil, List.isEmpty_cons, isEmpty_snoc, List.any_cons, List.any_nil, List.all_cons, List.all_nil, flatD, eqF, in_non, in_tup, in_str, in_int, in_bl, in_obj, in_fl, startA, List.map_cons, List.map_nil, List.replicate_succ, List.replicate_zero,   Nat.reduceAdd, Nat.reduceSub, Nat.reduceLeDiff, Nat.zero_add, Int.reduceLE, Int.reduceLT, Int.reduceToNat, Int.reducePow, Int.reduceNeg, Int.reduceAdd, Int.reduceSub,   Option.isSome_some, Option.isSome_none, Bool.not_true, Bool.not_false, Bool.not_eq_true', Bool.not_eq_eq_eq_not, Bool.not_eq_true, Bool.false_eq_true, Bool.true_eq_false, Bool.and_true, Bool.true_and, Bool.or_false, Bool.false_or, Bool.or_true, Bool.true_or, Bool.and_false, Bool.false_and, if_true, if_false, ite_true, ite_false, reduceIte, reduceCtorEq, decide_true, decide_false, decide_eq_true_eq, decide_eq_false_iff_not, true_and, and_true, eq_self, ne_eq, not_false_eq_true, not_true_eq_false, and_self, *])
    intro o ho
    try (simp only [↓e_seq, ↓e_next, ↓e_break, ↓e_cont, ↓e_expr, ↓e_ret, ↓e_retN, ↓e_if, ↓e_never, ↓e_asg, ↓e_name, ↓e_agtup, ↓e_agcons, ↓e_agnil, ↓e_agsub, ↓e_aug, ↓e_dput, ↓e_var, ↓e_c, ↓e_op, ↓e_some, ↓e_none, ↓e_test, ↓e_and, ↓e_or, ↓e_not, ↓e_yes, ↓e_truth,   ↓e_tru_bl, ↓e_tru_int, ↓e_tru_non, ↓e_tru_str, ↓e_tru_tup, ↓e_tru_obj, ↓e_chain, ↓e_orV, ↓e_andV, ↓e_notV, ↓e_ifE, ↓e_neg, ↓e_nil, ↓e_cons, ↓e_tup, ↓e_lst, ↓e_dnew, ↓e_call, ↓e_cb, ↓e_isi, ↓e_sl, ↓e_onone, ↓e_osome, ↓e_rev, ↓e_lm, ↓e_append, ↓e_extend, ↓e_pop, ↓e_join, ↓e_dget2, ↓e_sortSet, ↓e_sortS, ↓e_setd, strsOf_map, ↓e_maxI, ↓e_disp, ↓e_pairN, ↓e_pairC, intsOf_map, ↓e_for, ↓e_ilist, ↓e_itup, ↓e_rng1, ↓e_rng2, ↓e_lc, ↓e_lc2, e_lc2N, ↓e_ienum, ↓e_izip, ↓e_anyB, ↓e_allB, ↓e_mulS, blsOf_map, ↓e_set0, ↓e_sadd, ↓e_sortTx, ↓e_sortD, ↓e_repr, ↓e_extT, ↓e_sc2, ↓e_sortZ, ↓e_tupVals, ↓e_wget, ↓e_wix, ↓e_listZip, zipD_nil, zipD_cons, ↓e_dgetF, ↓e_idif,   ↓e_add_int, ↓e_add_str, ↓e_add_tup, ↓e_add_obj, ↓e_iadd_int, ↓e_iadd_str, ↓e_iadd_obj, ↓e_I, ↓e_I0, ↓e_IS_int, ↓e_IS_str, ↓e_eq_str, ↓e_ne_str, ↓e_eq_int, ↓e_ne_int, ↓e_eq_bl, ↓e_ne_bl, ↓e_isN, ↓e_notN, ↓e_ix_tup, ↓e_ix_fl, ↓e_ix_str, ↓e_ix_obj, ↓e_in_tup, ↓e_nin_tup, ↓e_len_tup, ↓e_len_fl, ↓e_len_str, ↓e_len_obj, ↓e_int_int, ↓e_tuple_tup, ↓e_tuple_obj, ↓e_list_tup, ↓e_list_obj, ↓e_dget, ↓e_din, ↓e_dnin, ↓e_lstAt, ↓e_dicAt,   e_key_int, e_key_str, e_up, e_ty_str, e_ty_tup, e_ty_int, e_ty_bl, e_ty_non, atI0, atI1, atI2, atI3, atIL, ixN0, ixN1, cut_from1, e_ite_or, e_ite_and, zln, znl, zli, zil, zni, zin, sizeLine_eq, CMul, CDiv, cpow1018, true_or, or_true, kb_strstr, kb_tupstr, kb_tuptup, kb_strtup, kb_inttup, kb_bltup, kb_nontup, kb_strbl, kb_strint, kb_intbl, kb_intint, kb_blbl, kb_blint, kb_nonbl, kb_nonint, kb_nonstr, kb_intstr, kb_blstr, kb_tupbl, kb_tupint,   List.set_cons_zero, List.set_cons_succ, List.set_nil, List.getElem?_cons_zero, List.getElem?_cons_succ, List.getElem?_nil, List.length_cons, List.length_nil, List.length_map, List.length_append, e_lcN, e_lcC, e_forN, e_forC, List.getLast?_concat, List.dropLast_concat, List.nil_append, List.cons_append, List.append_nil, List.append_assoc, List.reverse_cons, List.reverse_nil, List.isEmpty_nil, List.isEmpty_cons, isEmpty_snoc, List.any_cons, List.any_nil, List.all_cons, List.all_nil, flatD, eqF, in_non, in_tup, in_str, in_int, in_bl, in_obj, in_fl, startA, List.map_cons, List.map_nil, List.replicate_succ, List.replicate_zero,   Nat.reduceAdd, Nat.reduceSub, Nat.reduceLeDiff, Nat.zero_add, Int.reduceLE, Int.reduceLT, Int.reduceToNat, Int.reducePow, Int.reduceNeg, Int.reduceAdd, Int.reduceSub,   Option.isSome_some, Option.isSome_none, Bool.not_true, Bool.not_false, Bool.not_eq_true', Bool.not_eq_eq_eq_not, Bool.not_eq_true, Bool.false_eq_true, Bool.true_eq_false, Bool.and_true, Bool.true_and, Bool.or_false, Bool.false_or, Bool.or_true, Bool.true_or, Bool.and_false, Bool.false_and, if_true, if_false, ite_true, ite_false, reduceIte, reduceCtorEq, decide_true, decide_false, decide_eq_true_eq, decide_eq_false_iff_not, true_and, and_true, eq_self, ne_eq, not_false_eq_true, not_true_eq_false, and_self, *])
    exact q _ (e1.trans (Ext.new ho))
  | im p r =>
    rw [Fm.d_im]
    try (simp only [↓e_seq, ↓e_next, ↓e_break, ↓e_cont, ↓e_expr, ↓e_ret, ↓e_retN, ↓e_if, ↓e_never, ↓e_asg, ↓e_name, ↓e_agtup, ↓e_agcons, ↓e_agnil, ↓e_agsub, ↓e_aug, ↓e_dput, ↓e_var, ↓e_c, ↓e_op, ↓e_some, ↓e_none, ↓e_test, ↓e_and, ↓e_or, ↓e_not, ↓e_yes, ↓e_truth,   ↓e_tru_bl, ↓e_tru_int, ↓e_tru_non, ↓e_tru_str, ↓e_tru_tup, ↓e_tru_obj, ↓e_chain, ↓e_orV, ↓e_andV, ↓e_notV, ↓e_ifE, ↓e_neg, ↓e_nil, ↓e_cons, ↓e_tup, ↓e_lst, ↓e_dnew, ↓e_call, ↓e_cb, ↓e_isi, ↓e_sl, ↓e_onone, ↓e_osome, ↓e_rev, ↓e_lm, ↓e_append, ↓e_extend, ↓e_pop, ↓e_join, ↓e_dget2, ↓e_sortSet, ↓e_sortS, ↓e_setd, strsOf_map, ↓e_maxI, ↓e_disp, ↓e_pairN, ↓e_pairC, intsOf_map, ↓e_for, ↓e_ilist, ↓e_itup, ↓e_rng1, ↓e_rng2, ↓e_lc, ↓e_lc2, e_lc2N, ↓e_ienum, ↓e_izip, ↓e_anyB, ↓e_allB, ↓e_mulS, blsOf_map, ↓e_set0, ↓e_sadd, ↓e_sortTx, ↓e_sortD, ↓e_repr, ↓e_extT, ↓e_sc2, ↓e_sortZ, ↓e_tupVals, ↓e_wget, ↓e_wix, ↓e_listZip, zipD_nil, zipD_cons, ↓e_dgetF, ↓e_idif,   ↓e_add_int, ↓e_add_str, ↓e_add_tup, ↓e_add_obj, ↓e_iadd_int, ↓e_iadd_str, ↓e_iadd_obj, ↓e_I, ↓e_I0, ↓e_IS_int, ↓e_IS_str, ↓e_eq_str, ↓e_ne_str, ↓e_eq_int, ↓e_ne_int, ↓e_eq_bl, ↓e_ne_bl, ↓e_isN, ↓e_notN, ↓e_ix_tup, ↓e_ix_fl, ↓e_ix_str, ↓e_ix_obj, ↓e_in_tup, ↓e_nin_tup, ↓e_len_tup, ↓e_len_fl, ↓e_len_str, ↓e_len_obj, ↓e_int_int, ↓e_tuple_tup, ↓e_tuple_obj, ↓e_list_tup, ↓e_list_obj, ↓e_dget, ↓e_din, ↓e_dnin, ↓e_lstAt, ↓e_dicAt,   e_key_int, e_key_str, e_up, e_ty_str, e_ty_tup, e_ty_int, e_ty_bl, e_ty_non, atI0, atI1, atI2, atI3, atIL, ixN0, ixN1, cut_from1, e_ite_or, e_ite_and, zln, znl, zli, zil, zni, zin, sizeLine_eq, CMul, CDiv, cpow1018, true_or, or_true, kb_strstr, kb_tupstr, kb_tuptup, kb_strtup, kb_inttup, kb_bltup, kb_nontup, kb_strbl, kb_strint, kb_intbl, kb_intint, kb_blbl, kb_blint, kb_nonbl, kb_nonint, kb_nonstr, kb_intstr, kb_blstr, kb_tupbl, kb_tupint,   List.set_cons_zero, List.set_cons_succ, List.set_nil, List.getElem?_cons_zero, List.getElem?_cons_succ, List.getElem?_nil, List.length_cons, List.length_nil, List.length_map, List.length_append, e_lcN, e_lcC, e_forN, e_forC, List.getLast?_concat, List.dropLast_concat, List.nil_append, List.cons_append, List.append_nil, List.append_assoc, List.reverse_cons, List.reverse_nil, List.isEmpty_nil, List.isEmpty_cons, isEmpty_snoc, List.any_cons, List.any_nil, List.all_cons, List.all_nil, flatD, eqF, in_non, in_tup, in_str, in_int, in_bl, in_obj, in_fl, startA, List.map_cons, List.map_nil, List.replicate_succ, List.replicate_zero,   Nat.reduceAdd, Nat.reduceSub, Nat.reduceLeDiff, Nat.zero_add, Int.reduceLE, Int.reduceLT, Int.reduceToNat, Int.reducePow, Int.reduceNeg, Int.reduceAdd, Int.reduceSub,   Option.isSome_some, Option.isSome_none, Bool.not_true, Bool.not_false, Bool.not_eq_true', Bool.not_eq_eq_eq_not, Bool.not_eq_true, Bool.false_eq_true, Bool.true_eq_false, Bool.and_true, Bool.true_and, Bool.or_false, Bool.false_or, Bool.or_true, Bool.true_or, Bool.and_false, Bool.false_and, if_true, if_false, ite_true, ite_false, reduceIte, reduceCtorEq, decide_true, decide_false, decide_eq_true_eq, decide_eq_false_iff_not, true_and, and_true, eq_self, ne_eq, not_false_eq_true, not_true_eq_false, and_self, *])
    have hz : (Fm.im p r).sz = p.sz + r.sz + 1 := rfl
    refine ⟨rfl, p, t, kvs, σ, rfl, by omega, ht, hs, fun M1 e1 => ?_⟩
    try (simp only [↓e_seq, ↓e_next, ↓e_break, ↓e_cont, ↓e_expr, ↓e_ret, ↓e_retN, ↓e_if, ↓e_never, ↓e_asg, ↓e_name, ↓e_agtup, ↓e_agcons, ↓e_agnil, ↓e_agsub, ↓e_aug, ↓e_dput, ↓e_var, ↓e_c, ↓e_op, ↓e_some, ↓e_none, ↓e_test, ↓e_and, ↓e_or, ↓e_not, ↓e_yes, ↓e_truth,   ↓e_tru_bl, ↓e_tru_int, ↓e_tru_non, ↓e_tru_str, ↓e_tru_tup, ↓e_tru_obj, ↓e_chain, ↓e_orV, ↓e_andV, ↓e_notV, ↓e_ifE, ↓e_neg, ↓e_nil, ↓e_cons, ↓e_tup, ↓e_lst, ↓e_dnew, ↓e_call, ↓e_cb, ↓e_isi, ↓e_sl, ↓e_onone, ↓e_osome, ↓e_rev, ↓e_lm, ↓e_append, ↓e_extend, ↓e_pop, ↓e_join, ↓e_dget2, ↓e_sortSet, ↓e_sortS, ↓e_setd, strsOf_map, ↓e_maxI, ↓e_disp, ↓e_pairN, ↓e_pairC, intsOf_map, ↓e_for, ↓e_ilist, ↓e_itup, ↓e_rng1, ↓e_rng2, ↓e_lc, ↓e_lc2, e_lc2N, ↓e_ienum, ↓e_izip, ↓e_anyB, ↓e_allB, ↓e_mulS, blsOf_map, ↓e_set0, ↓e_sadd, ↓e_sortTx, ↓e_sortD, ↓e_repr, ↓e_extT, ↓e_sc2, ↓e_sortZ, ↓e_tupVals, ↓e_wget, ↓e_wix, ↓e_listZip, zipD_nil, zipD_cons, ↓e_dgetF, ↓e_idif,   ↓e_add_int, ↓e_add_str, ↓e_add_tup, ↓e_add_obj, ↓e_iadd_int, ↓e_iadd_str, ↓e_iadd_obj, ↓e_I, ↓e_I0, ↓e_IS_int, ↓e_IS_str, ↓e_eq_str, ↓e_ne_str, ↓e_eq_int, ↓e_ne_int, ↓e_eq_bl, ↓e_ne_bl, ↓e_isN, ↓e_notN, ↓e_ix_tup, ↓e_ix_fl, ↓e_ix_str, ↓e_ix_obj, ↓e_in_tup, ↓e_nin_tup, ↓e_len_tup, ↓e_len_fl, ↓e_len_str, ↓e_len_obj, ↓e_int_int, ↓e_tuple_tup, ↓e_tuple_obj, ↓e_list_tup, ↓e_list_obj, ↓e_dget, ↓e_din, ↓e_dnin, ↓e_lstAt, ↓e_dicAt,   e_key_int, e_key_str, e_up, e_ty_str, e_ty_tup, e_ty_int, e_ty_bl, e_ty_non, atI0, atI1, atI2, atI3, atIL, ixN0, ixN1, cut_from1, e_ite_or, e_ite_and, zln, znl, zli, zil, zni, zin, sizeLine_eq, CMul, CDiv, cpow1018, true_or, or_true, kb_strstr, kb_tupstr, kb_tuptup, kb_strtup, kb_inttup, kb_bltup, kb_nontup, kb_strbl, kb_strint, kb_intbl, kb_intint, kb_blbl, kb_blint, kb_nonbl, kb_nonint, kb_nonstr, kb_intstr, kb_blstr, kb_tupbl, kb_tupint,   List.set_cons_zero, List.set_cons_succ, List.set_nil, List.getElem?_cons_zero, List.getElem?_cons_succ, List.getElem?_nil, List.length_cons, List.length_nil, List.length_map, List.length_append, e_lcN, e_lcC, e_forN, e_forC, List.getLast?_concat, List.dropLast_concat, List.nil_append, List.cons_append, List.append_nil, List.append_assoc, List.reverse_cons, List.reverse_nil, List.isEmpty_nil, List.isEmpty_cons, isEmpty_snoc, List.any_cons, List.any_nil, List.all_cons, List.all_nil, flatD, eqF, in_non, in_tup, in_str, in_int, in_bl, in_obj, in_fl, startA, List.map_cons, List.map_nil, List.replicate_succ, List.replicate_zero,   Nat.reduceAdd, Nat.reduceSub, Nat.reduceLeDiff, Nat.zero_add, Int.reduceLE, Int.reduceLT, Int.reduceToNat, Int.reducePow, Int.reduceNeg, Int.reduceAdd, Int.reduceSub,   Option.isSome_some, Option.isSome_none, Bool.not_true, Bool.not_false, Bool.not_eq_true', Bool.not_eq_eq_eq_not, Bool.not_eq_true, Bool.false_eq_true, Bool.true_eq_false, Bool.and_true, Bool.true_and, Bool.or_false, Bool.false_or, Bool.or_true, Bool.true_or, Bool.and_false, Bool.false_and, if_true, if_false, ite_true, ite_false, reduceIte, reduceCtorEq, decide_true, decide_false, decide_eq_true_eq, decide_eq_false_iff_not, true_and, and_true, eq_self, ne_eq, not_false_eq_true, not_true_eq_false, and_self, *])
    refine ⟨rfl, r, t, kvs, σ, rfl, by omega, e1 _ _ ht, hs, fun M2 e2 => ?_⟩
    try (simp only [↓e_seq, ↓e_next, ↓e_break, ↓e_cont, ↓e_expr, ↓e_ret, ↓e_retN, ↓e_if, ↓e_never, ↓e_asg, ↓e_name, ↓e_agtup, ↓e_agcons, ↓e_agnil, ↓e_agsub, ↓e_aug, ↓e_dput, ↓e_var, ↓e_c, ↓e_op, ↓e_some, ↓e_none, ↓e_test, ↓e_and, ↓e_or, ↓e_not, ↓e_yes, ↓e_truth,   ↓e_tru_bl, ↓e_tru_int, ↓e_tru_non, ↓e_tru_str, ↓e_tru_tup, ↓e_tru_obj, ↓e_chain, ↓e_orV, ↓e_andV, ↓e_notV, ↓e_ifE, ↓e_neg, ↓e_nil, ↓e_cons, ↓e_tup, ↓e_lst, ↓e_dnew, ↓e_call, ↓e_cb, ↓e_isi, ↓e_sl, ↓e_onone, ↓e_osome, ↓e_rev, ↓e_lm, ↓e_append, ↓e_extend, ↓e_pop, ↓e_join, ↓e_dget2, ↓e_sortSet, ↓e_sortS, ↓e_setd, strsOf_map, ↓e_maxI, ↓e_disp, ↓e_pairN, ↓e_pairC, intsOf_map, ↓e_for, ↓e_ilist, ↓e_itup, ↓e_rng1, ↓e_rng2, ↓e_lc, ↓e_lc2, e_lc2N, ↓e_ienum, ↓e_izip, ↓e_anyB, ↓e_allB, ↓e_mulS, blsOf_map, ↓e_set0, ↓e_sadd, ↓e_sortTx, ↓e_sortD, ↓e_repr, ↓e_extT, ↓e_sc2, ↓e_sortZ, ↓e_tupVals, ↓e_wget, ↓e_wix, ↓e_listZip, zipD_nil, zipD_cons, ↓e_dgetF, ↓e_idif,   ↓e_add_int, ↓e_add_str, ↓e_add_tup, ↓e_add_obj, ↓e_iadd_int, ↓e_iadd_str, ↓e_iadd_obj, ↓e_I, ↓e_I0, ↓e_IS_int, ↓e_IS_str, ↓e_eq_str, ↓e_ne_str, ↓e_eq_int, ↓e_ne_int, ↓e_eq_bl, ↓e_ne_bl, ↓e_isN, ↓e_notN, ↓e_ix_tup, ↓e_ix_fl, ↓e_ix_str, ↓e_ix_obj, ↓e_in_tup, ↓e_nin_tup, ↓e_len_tup, ↓e_len_fl, ↓e_len_str, ↓e_len_obj, ↓e_int_int, ↓e_tuple_tup, ↓e_tuple_obj, ↓e_list_tup, ↓e_list_obj, ↓e_dget, ↓e_din, ↓e_dnin, ↓e_lstAt, ↓e_dicAt,   e_key_int, e_key_str, e_up, e_ty_str, e_ty_tup, e_ty_int, e_ty_bl, e_ty_non, atI0, atI1, atI2, atI3, atIL, ixN0, ixN1, cut_from1, e_ite_or, e_ite_and, zln, znl, zli, zil, zni, zin, sizeLine_eq, CMul, CDiv, cpow1018, true_or, or_true, kb_strstr, kb_tupstr, kb_tuptup, kb_strtup, kb_inttup, kb_bltup, kb_nontup, kb_strbl, kb_strint, kb_intbl, kb_intint, kb_blbl, kb_blint, kb_nonbl, kb_nonint, kb_nonstr, kb_intstr, kb_blstr, kb_tupbl, kb_tupint,   List.set_cons_zero, List.set_cons_succ, List.set_nil, List.getElem?_cons_zero, List.getElem?_cons_succ, List.getElem?_nil, List.length_cons, List.length_nil, List.length_map, List.length_append, e_lcN, e_lcC, e_forN, e_forC, List.getLast?_concat, List.dropLast_concat, List.nil_append, List.cons_append, List.append_nil, List.append_assoc, List.reverse_cons, List.reverse_nil, List.isEmpty_nil, List.isEmpty_cons, isEmpty_snoc, List.any_cons, List.any_nil, List.all_cons, List.all_nil, flatD, eqF, in_non, in_tup, in_str, in_int, in_bl, in_obj, in_fl, startA, List.map_cons, List.map_nil, List.replicate_succ, List.replicate_zero,   Nat.reduceAdd, Nat.reduceSub, Nat.reduceLeDiff, Nat.zero_add, Int.reduceLE, Int.reduceLT, Int.reduceToNat, Int.reducePow, Int.reduceNeg, Int.reduceAdd, Int.reduceSub,   Option.isSome_some, Option.isSome_none, Bool.not_true, Bool.not_false, Bool.not_eq_true', Bool.not_eq_eq_eq_not, Bool.not_eq_true, Bool.false_eq_true, Bool.true_eq_false, Bool.and_true, Bool.true_and, Bool.or_false, Bool.false_or, Bool.or_true, Bool.true_or, Bool.and_false, Bool.false_and, if_true, if_false, ite_true, ite_false, reduceIte, reduceCtorEq, decide_true, decide_false, decide_eq_true_eq, decide_eq_false_iff_not, true_and, and_true, eq_self, ne_eq, not_false_eq_true, not_true_eq_false, and_self, *])
    intro o ho
    try (simp only [↓e_seq, ↓e_next, ↓e_break, ↓e_cont, ↓e_expr, ↓e_ret, ↓e_retN, ↓e_if, ↓e_never, ↓e_asg, ↓e_name, ↓e_agtup, ↓e_agcons, ↓e_agnil, ↓e_agsub, ↓e_aug, ↓e_dput, ↓e_var, ↓e_c, ↓e_op, ↓e_some, ↓e_none, ↓e_test, ↓e_and, ↓e_or, ↓e_not, ↓e_yes, ↓e_truth,   ↓e_tru_bl, ↓e_tru_int, ↓e_tru_non, ↓e_tru_str, ↓e_tru_tup, ↓e_tru_obj, ↓e_chain, ↓e_orV, ↓e_andV, ↓e_notV, ↓e_ifE, ↓e_neg, ↓e_nil, ↓e_cons, ↓e_tup, ↓e_lst, ↓e_dnew, ↓e_call, ↓e_cb, ↓e_isi, ↓e_sl, ↓e_onone, ↓e_osome, ↓e_rev, ↓e_lm, ↓e_append, ↓e_extend, ↓e_pop, ↓e_join, ↓e_dget2, ↓e_sortSet, ↓e_sortS, ↓e_setd, strsOf_map, ↓e_maxI, ↓e_disp, ↓e_pairN, ↓e_pairC, intsOf_map, ↓e_for, ↓e_ilist, ↓e_itup, ↓e_rng1, ↓e_rng2, ↓e_lc, ↓e_lc2, e_lc2N, ↓e_ienum, ↓e_izip, ↓e_anyB, ↓e_allB, ↓e_mulS, blsOf_map, ↓e_set0, ↓e_sadd, ↓e_sortTx, ↓e_sortD, ↓e_repr, ↓e_extT, ↓e_sc2, ↓e_sortZ, ↓e_tupVals, ↓e_wget, ↓e_wix, ↓e_listZip, zipD_nil, zipD_cons, ↓e_dgetF, ↓e_idif,   ↓e_add_int, ↓e_add_str, ↓e_add_tup, ↓e_add_obj, ↓e_iadd_int, ↓e_iadd_str, ↓e_iadd_obj, ↓e_I, ↓e_I0, ↓e_IS_int, ↓e_IS_str, ↓e_eq_str, ↓e_ne_str, ↓e_eq_int, ↓e_ne_int, ↓e_eq_bl, ↓e_ne_bl, ↓e_isN, ↓e_notN, ↓e_ix_tup, ↓e_ix_fl, ↓e_ix_str, ↓e_ix_obj, ↓e_in_tup, ↓e_nin_tup, ↓e_len_tup, ↓e_len_fl, ↓e_len_str, ↓e_len_obj, ↓e_int_int, ↓e_tuple_tup, ↓e_tuple_obj, ↓e_list_tup, ↓e_list_obj, ↓e_dget, ↓e_din, ↓e_dnin, ↓e_lstAt, ↓e_dicAt,   e_key_int, e_key_str, e_up, e_ty_str, e_ty_tup, e_ty_int, e_ty_bl, e_ty_non, atI0, atI1, atI2, atI3, atIL, ixN0, ixN1, cut_from1, e_ite_or, e_ite_and, zln, znl, zli, zil, zni, zin, sizeLine_eq, CMul, CDiv, cpow1018, true_or, or_true, kb_strstr, kb_tupstr, kb_tuptup, kb_strtup, kb_inttup, kb_bltup, kb_nontup, kb_strbl, kb_strint, kb_intbl, kb_intint, kb_blbl, kb_blint, kb_nonbl, kb_nonint, kb_nonstr, kb_intstr, kb_blstr, kb_tupbl, kb_tupint,   List.set_cons_zero, List.set_cons_succ, List.set_nil, List.getElem?_cons_zero, List.getElem?_cons_succ, List.getElem?_nil, List.length_cons, List.length_nil, List.length_map, List.length_append, e_lcN, e_lcC, e_forN, e_forC, List.getLast?_concat, List.dropLast_concat, List.nil_append, List.cons_append, List.append_nil, List.append_assoc, List.reverse_cons, List.reverse_nil, List.isEmpty_nil, List.isEmpty_cons, isEmpty_snoc, List.any_cons, List.any_nil, List.all_cons, List.all_nil, flatD, eqF, in_non, in_tup, in_str, in_int, in_bl, in_obj, in_fl, startA, List.map_cons, List.map_nil, List.replicate_succ, List.replicate_zero,   Nat.reduceAdd, Nat.reduceSub, Nat.reduceLeDiff, Nat.zero_add, Int.reduceLE, Int.reduceLT, Int.reduceToNat, Int.reducePow, Int.reduceNeg, Int.reduceAdd, Int.reduceSub,   Option.isSome_some, Option.isSome_none, Bool.not_true, Bool.not_false, Bool.not_eq_true', Bool.not_eq_eq_eq_not, Bool.not_eq_true, Bool.false_eq_true, Bool.true_eq_false, Bool.and_true, Bool.true_and, Bool.or_false, Bool.false_or, Bool.or_true, Bool.true_or, Bool.and_false, Bool.false_and, if_true, if_false, ite_true, ite_false, reduceIte, reduceCtorEq, decide_true, decide_false, decide_eq_true_eq, decide_eq_false_iff_not, true_and, and_true, eq_self, ne_eq, not_false_eq_true, not_true_eq_false, and_self, *])
    exact q _ ((e1.trans e2).trans (Ext.new ho))

def names6 : List Str := [z_a, z_b, z_z, z_c7, z_a0, z_m9]
def names8 : List Str := [z_a, z_b, z_c, z_d, z_e, z_f, z_g, z_h]
theorem L8_names {s : Str} (h : L8 s) : s ∈ names8 := by
  obtain ⟨c, hc, rfl⟩ := h
  have all : ∀ c ∈ lets8, (⟨#[c]⟩ : Str) ∈ names8 := by decide +kernel
  exact all c hc
def unlet : D → Fm
  | .tup [_, .str t] => .lt t
  | _ => .lt Str.empty
def A_lettered (L : Nat) : ASp := fun ds M Q _ => ∃ b d room many, ds = [.obj b, .int room, .int many] ∧ BoxAt M b d ∧ 1 ≤ room ∧ room ≤ (L : Int) ∧ 1 ≤ many ∧ many ≤ 8 ∧ ∀ (f : Fm) M', f.All (· ∈ names6) → (f.sz : Int) ≤ room → BoxAt M' b d → ExtB b M M' → Q f.d M'
theorem at6 {v : Int} (h0 : 0 ≤ v) (h : v < 6) : ∃ s ∈ names6, atI (names6.map D.str) v = some (.str s) := by
  have e : v = ((v.toNat : Nat) : Int) := by omega
  have hk : v.toNat < names6.length := by show v.toNat < 6; omega
  rw [e, atIn, List.getElem?_map, List.getElem?_eq_getElem hk]
  exact ⟨_, List.getElem_mem hk, rfl⟩
theorem p__law_lettered (L : Nat) (ds : List D) (M : Sto) (Q : D → Sto → Prop) (Xa) (hl : ds.length = 3) (h : A_lettered L ds M Q Xa) : a__law_lettered A_draw (A_put L) (A_any L) ax0 (Done Q) (startA ["box", "room", "many", "names", "table", "name"] ds) M := by
  obtain ⟨b, d, room, many, rfl, hb, hr, hL, hm, hm8, q⟩ := h
  unfold a__law_lettered
  try (simp only [↓e_seq, ↓e_next, ↓e_break, ↓e_cont, ↓e_expr, ↓e_ret, ↓e_retN, ↓e_if, ↓e_never, ↓e_asg, ↓e_name, ↓e_agtup, ↓e_agcons, ↓e_agnil, ↓e_agsub, ↓e_aug, ↓e_dput, ↓e_var, ↓e_c, ↓e_op, ↓e_some, ↓e_none, ↓e_test, ↓e_and, ↓e_or, ↓e_not, ↓e_yes, ↓e_truth,   ↓e_tru_bl, ↓e_tru_int, ↓e_tru_non, ↓e_tru_str, ↓e_tru_tup, ↓e_tru_obj, ↓e_chain, ↓e_orV, ↓e_andV, ↓e_notV, ↓e_ifE, ↓e_neg, ↓e_nil, ↓e_cons, ↓e_tup, ↓e_lst, ↓e_dnew, ↓e_call, ↓e_cb, ↓e_isi, ↓e_sl, ↓e_onone, ↓e_osome, ↓e_rev, ↓e_lm, ↓e_append, ↓e_extend, ↓e_pop, ↓e_join, ↓e_dget2, ↓e_sortSet, ↓e_sortS, ↓e_setd, strsOf_map, ↓e_maxI, ↓e_disp, ↓e_pairN, ↓e_pairC, intsOf_map, ↓e_for, ↓e_ilist, ↓e_itup, ↓e_rng1, ↓e_rng2, ↓e_lc, ↓e_lc2, e_lc2N, ↓e_ienum, ↓e_izip, ↓e_anyB, ↓e_allB, ↓e_mulS, blsOf_map, ↓e_set0, ↓e_sadd, ↓e_sortTx, ↓e_sortD, ↓e_repr, ↓e_extT, ↓e_sc2, ↓e_sortZ, ↓e_tupVals, ↓e_wget, ↓e_wix, ↓e_listZip, zipD_nil, zipD_cons, ↓e_dgetF, ↓e_idif,   ↓e_add_int, ↓e_add_str, ↓e_add_tup, ↓e_add_obj, ↓e_iadd_int, ↓e_iadd_str, ↓e_iadd_obj, ↓e_I, ↓e_I0, ↓e_IS_int, ↓e_IS_str, ↓e_eq_str, ↓e_ne_str, ↓e_eq_int, ↓e_ne_int, ↓e_eq_bl, ↓e_ne_bl, ↓e_isN, ↓e_notN, ↓e_ix_tup, ↓e_ix_fl, ↓e_ix_str, ↓e_ix_obj, ↓e_in_tup, ↓e_nin_tup, ↓e_len_tup, ↓e_len_fl, ↓e_len_str, ↓e_len_obj, ↓e_int_int, ↓e_tuple_tup, ↓e_tuple_obj, ↓e_list_tup, ↓e_list_obj, ↓e_dget, ↓e_din, ↓e_dnin, ↓e_lstAt, ↓e_dicAt,   e_key_int, e_key_str, e_up, e_ty_str, e_ty_tup, e_ty_int, e_ty_bl, e_ty_non, atI0, atI1, atI2, atI3, atIL, ixN0, ixN1, cut_from1, e_ite_or, e_ite_and, zln, znl, zli, zil, zni, zin, sizeLine_eq, CMul, CDiv, cpow1018, true_or, or_true, kb_strstr, kb_tupstr, kb_tuptup, kb_strtup, kb_inttup, kb_bltup, kb_nontup, kb_strbl, kb_strint, kb_intbl, kb_intint, kb_blbl, kb_blint, kb_nonbl, kb_nonint, kb_nonstr, kb_intstr, kb_blstr, kb_tupbl, kb_tupint,   List.set_cons_zero, List.set_cons_succ, List.set_nil, List.getElem?_cons_zero, List.getElem?_cons_succ, List.getElem?_nil, List.length_cons, List.length_nil, List.length_map, List.length_append, e_lcN, e_lcC, e_forN, e_forC, List.getLast?_concat, List.dropLast_concat, List.nil_append, List.cons_append, List.append_nil, List.append_assoc, List.reverse_cons, List.reverse_nil, List.isEmpty_nil, List.isEmpty_cons, isEmpty_snoc, List.any_cons, List.any_nil, List.all_cons, List.all_nil, flatD, eqF, in_non, in_tup, in_str, in_int, in_bl, in_obj, in_fl, startA, List.map_cons, List.map_nil, List.replicate_succ, List.replicate_zero,   Nat.reduceAdd, Nat.reduceSub, Nat.reduceLeDiff, Nat.zero_add, Int.reduceLE, Int.reduceLT, Int.reduceToNat, Int.reducePow, Int.reduceNeg, Int.reduceAdd, Int.reduceSub,   Option.isSome_some, Option.isSome_none, Bool.not_true, Bool.not_false, Bool.not_eq_true', Bool.not_eq_eq_eq_not, Bool.not_eq_true, Bool.false_eq_true, Bool.true_eq_false, Bool.and_true, Bool.true_and, Bool.or_false, Bool.false_or, Bool.or_true, Bool.true_or, Bool.and_false, Bool.false_and, if_true, if_false, ite_true, ite_false, reduceIte, reduceCtorEq, decide_true, decide_false, decide_eq_true_eq, decide_eq_false_iff_not, true_and, and_true, eq_self, ne_eq, not_false_eq_true, not_true_eq_false, and_self, *])
  intro n hn
  try (simp only [↓e_seq, ↓e_next, ↓e_break, ↓e_cont, ↓e_expr, ↓e_ret, ↓e_retN, ↓e_if, ↓e_never, ↓e_asg, ↓e_name, ↓e_agtup, ↓e_agcons, ↓e_agnil, ↓e_agsub, ↓e_aug, ↓e_dput, ↓e_var, ↓e_c, ↓e_op, ↓e_some, ↓e_none, ↓e_test, ↓e_and, ↓e_or, ↓e_not, ↓e_yes, ↓e_truth,   ↓e_tru_bl, ↓e_tru_int, ↓e_tru_non, ↓e_tru_str, ↓e_tru_tup, ↓e_tru_obj, ↓e_chain, ↓e_orV, ↓e_andV, ↓e_notV, ↓e_ifE, ↓e_neg, ↓e_nil, ↓e_cons, ↓e_tup, ↓e_lst, ↓e_dnew, ↓e_call, ↓e_cb, ↓e_isi, ↓e_sl, ↓e_onone, ↓e_osome, ↓e_rev, ↓e_lm, ↓e_append, ↓e_extend, ↓e_pop, ↓e_join, ↓e_dget2, ↓e_sortSet, ↓e_sortS, ↓e_setd, strsOf_map, ↓e_maxI, ↓e_disp, ↓e_pairN, ↓e_pairC, intsOf_map, ↓e_for, ↓e_ilist, ↓e_itup, ↓e_rng1, ↓e_rng2, ↓e_lc, ↓e_lc2, e_lc2N, ↓e_ienum, ↓e_izip, ↓e_anyB, ↓e_allB, ↓e_mulS, blsOf_map, ↓e_set0, ↓e_sadd, ↓e_sortTx, ↓e_sortD, ↓e_repr, ↓e_extT, ↓e_sc2, ↓e_sortZ, ↓e_tupVals, ↓e_wget, ↓e_wix, ↓e_listZip, zipD_nil, zipD_cons, ↓e_dgetF, ↓e_idif,   ↓e_add_int, ↓e_add_str, ↓e_add_tup, ↓e_add_obj, ↓e_iadd_int, ↓e_iadd_str, ↓e_iadd_obj, ↓e_I, ↓e_I0, ↓e_IS_int, ↓e_IS_str, ↓e_eq_str, ↓e_ne_str, ↓e_eq_int, ↓e_ne_int, ↓e_eq_bl, ↓e_ne_bl, ↓e_isN, ↓e_notN, ↓e_ix_tup, ↓e_ix_fl, ↓e_ix_str, ↓e_ix_obj, ↓e_in_tup, ↓e_nin_tup, ↓e_len_tup, ↓e_len_fl, ↓e_len_str, ↓e_len_obj, ↓e_int_int, ↓e_tuple_tup, ↓e_tuple_obj, ↓e_list_tup, ↓e_list_obj, ↓e_dget, ↓e_din, ↓e_dnin, ↓e_lstAt, ↓e_dicAt,   e_key_int, e_key_str, e_up, e_ty_str, e_ty_tup, e_ty_int, e_ty_bl, e_ty_non, atI0, atI1, atI2, atI3, atIL, ixN0, ixN1, cut_from1, e_ite_or, e_ite_and, zln, znl, zli, zil, zni, zin, sizeLine_eq, CMul, CDiv, cpow1018, true_or, or_true, kb_strstr, kb_tupstr, kb_tuptup, kb_strtup, kb_inttup, kb_bltup, kb_nontup, kb_strbl, kb_strint, kb_intbl, kb_intint, kb_blbl, kb_blint, kb_nonbl, kb_nonint, kb_nonstr, kb_intstr, kb_blstr, kb_tupbl, kb_tupint,   List.set_cons_zero, List.set_cons_succ, List.set_nil, List.getElem?_cons_zero, List.getElem?_cons_succ, List.getElem?_nil, List.length_cons, List.length_nil, List.length_map, List.length_append, e_lcN, e_lcC, e_forN, e_forC, List.getLast?_concat, List.dropLast_concat, List.nil_append, List.cons_append, List.append_nil, List.append_assoc, List.reverse_cons, List.reverse_nil, List.isEmpty_nil, List.isEmpty_cons, isEmpty_snoc, List.any_cons, List.any_nil, List.all_cons, List.all_nil, flatD, eqF, in_non, in_tup, in_str, in_int, in_bl, in_obj, in_fl, startA, List.map_cons, List.map_nil, List.replicate_succ, List.replicate_zero,   Nat.reduceAdd, Nat.reduceSub, Nat.reduceLeDiff, Nat.zero_add, Int.reduceLE, Int.reduceLT, Int.reduceToNat, Int.reducePow, Int.reduceNeg, Int.reduceAdd, Int.reduceSub,   Option.isSome_some, Option.isSome_none, Bool.not_true, Bool.not_false, Bool.not_eq_true', Bool.not_eq_eq_eq_not, Bool.not_eq_true, Bool.false_eq_true, Bool.true_eq_false, Bool.and_true, Bool.true_and, Bool.or_false, Bool.false_or, Bool.or_true, Bool.true_or, Bool.and_false, Bool.false_and, if_true, if_false, ite_true, ite_false, reduceIte, reduceCtorEq, decide_true, decide_false, decide_eq_true_eq, decide_eq_false_iff_not, true_and, and_true, eq_self, ne_eq, not_false_eq_true, not_true_eq_false, and_self, *])
  intro t ht
  try (simp only [↓e_seq, ↓e_next, ↓e_break, ↓e_cont, ↓e_expr, ↓e_ret, ↓e_retN, ↓e_if, ↓e_never, ↓e_asg, ↓e_name, ↓e_agtup, ↓e_agcons, ↓e_agnil, ↓e_agsub, ↓e_aug, ↓e_dput, ↓e_var, ↓e_c, ↓e_op, ↓e_some, ↓e_none, ↓e_test, ↓e_and, ↓e_or, ↓e_not, ↓e_yes, ↓e_truth,   ↓e_tru_bl, ↓e_tru_int, ↓e_tru_non, ↓e_tru_str, ↓e_tru_tup, ↓e_tru_obj, ↓e_chain, ↓e_orV, ↓e_andV, ↓e_notV, ↓e_ifE, ↓e_neg, ↓e_nil, ↓e_cons, ↓e_tup, ↓e_lst, ↓e_dnew, ↓e_call, ↓e_cb, ↓e_isi, ↓e_sl, ↓e_onone, ↓e_osome, ↓e_rev, ↓e_lm, ↓e_append, ↓e_extend, ↓e_pop, ↓e_join, ↓e_dget2, ↓e_sortSet, ↓e_sortS, ↓e_setd, strsOf_map, ↓e_maxI, ↓e_disp, ↓e_pairN, ↓e_pairC, intsOf_map, ↓e_for, ↓e_ilist, ↓e_itup, ↓e_rng1, ↓e_rng2, ↓e_lc, ↓e_lc2, e_lc2N, ↓e_ienum, ↓e_izip, ↓e_anyB, ↓e_allB, ↓e_mulS, blsOf_map, ↓e_set0, ↓e_sadd, ↓e_sortTx, ↓e_sortD, ↓e_repr, ↓e_extT, ↓e_sc2, ↓e_sortZ, ↓e_tupVals, ↓e_wget, ↓e_wix, ↓e_listZip, zipD_nil, zipD_cons, ↓e_dgetF, ↓e_idif,   ↓e_add_int, ↓e_add_str, ↓e_add_tup, ↓e_add_obj, ↓e_iadd_int, ↓e_iadd_str, ↓e_iadd_obj, ↓e_I, ↓e_I0, ↓e_IS_int, ↓e_IS_str, ↓e_eq_str, ↓e_ne_str, ↓e_eq_int, ↓e_ne_int, ↓e_eq_bl, ↓e_ne_bl, ↓e_isN, ↓e_notN, ↓e_ix_tup, ↓e_ix_fl, ↓e_ix_str, ↓e_ix_obj, ↓e_in_tup, ↓e_nin_tup, ↓e_len_tup, ↓e_len_fl, ↓e_len_str, ↓e_len_obj, ↓e_int_int, ↓e_tuple_tup, ↓e_tuple_obj, ↓e_list_tup, ↓e_list_obj, ↓e_dget, ↓e_din, ↓e_dnin, ↓e_lstAt, ↓e_dicAt,   e_key_int, e_key_str, e_up, e_ty_str, e_ty_tup, e_ty_int, e_ty_bl, e_ty_non, atI0, atI1, atI2, atI3, atIL, ixN0, ixN1, cut_from1, e_ite_or, e_ite_and, zln, znl, zli, zil, zni, zin, sizeLine_eq, CMul, CDiv, cpow1018, true_or, or_true, kb_strstr, kb_tupstr, kb_tuptup, kb_strtup, kb_inttup, kb_bltup, kb_nontup, kb_strbl, kb_strint, kb_intbl, kb_intint, kb_blbl, kb_blint, kb_nonbl, kb_nonint, kb_nonstr, kb_intstr, kb_blstr, kb_tupbl, kb_tupint,   List.set_cons_zero, List.set_cons_succ, List.set_nil, List.getElem?_cons_zero, List.getElem?_cons_succ, List.getElem?_nil, List.length_cons, List.length_nil, List.length_map, List.length_append, e_lcN, e_lcC, e_forN, e_forC, List.getLast?_concat, List.dropLast_concat, List.nil_append, List.cons_append, List.append_nil, List.append_assoc, List.reverse_cons, List.reverse_nil, List.isEmpty_nil, List.isEmpty_cons, isEmpty_snoc, List.any_cons, List.any_nil, List.all_cons, List.all_nil, flatD, eqF, in_non, in_tup, in_str, in_int, in_bl, in_obj, in_fl, startA, List.map_cons, List.map_nil, List.replicate_succ, List.replicate_zero,   Nat.reduceAdd, Nat.reduceSub, Nat.reduceLeDiff, Nat.zero_add, Int.reduceLE, Int.reduceLT, Int.reduceToNat, Int.reducePow, Int.reduceNeg, Int.reduceAdd, Int.reduceSub,   Option.isSome_some, Option.isSome_none, Bool.not_true, Bool.not_false, Bool.not_eq_true', Bool.not_eq_eq_eq_not, Bool.not_eq_true, Bool.false_eq_true, Bool.true_eq_false, Bool.and_true, Bool.true_and, Bool.or_false, Bool.false_or, Bool.or_true, Bool.true_or, Bool.and_false, Bool.false_and, if_true, if_false, ite_true, ite_false, reduceIte, reduceCtorEq, decide_true, decide_false, decide_eq_true_eq, decide_eq_false_iff_not, true_and, and_true, eq_self, ne_eq, not_false_eq_true, not_true_eq_false, and_self, *])
  intro o ho
  have hn6 : (up M n (.lst [.str z_a, .str z_b, .str z_z, .str z_c7, .str z_a0, .str z_m9])) n = some (.lst (names6.map D.str)) := up_same
  have nt := fresh_ne ht hn6
  have no := fresh_ne ho (Ext.new ht _ _ hn6)
  have to := fresh_ne ho (up_same (M := up M n (.lst [.str z_a, .str z_b, .str z_z, .str z_c7, .str z_a0, .str z_m9])) (a := t) (o := .dic []))
  have ho8 : ∀ M' : Sto, up M' o (.lst [.str z_a, .str z_b, .str z_c, .str z_d, .str z_e, .str z_f, .str z_g, .str z_h]) o = some (.lst (names8.map D.str)) := fun _ => up_same
  have hb1 := ((hb.new (mo := .lst [.str z_a, .str z_b, .str z_z, .str z_c7, .str z_a0, .str z_m9]) hn).new (mo := .dic []) ht).new (mo := .lst [.str z_a, .str z_b, .str z_c, .str z_d, .str z_e, .str z_f, .str z_g, .str z_h]) ho
  have e1 : Ext M _ := ((Ext.new (mo := .lst [.str z_a, .str z_b, .str z_z, .str z_c7, .str z_a0, .str z_m9]) hn).trans (Ext.new (mo := .dic []) ht)).trans (Ext.new (mo := .lst [.str z_a, .str z_b, .str z_c, .str z_d, .str z_e, .str z_f, .str z_g, .str z_h]) ho)
  have bn := (hb.fresh hn).1
  have bt := ((hb.new (mo := .lst [.str z_a, .str z_b, .str z_z, .str z_c7, .str z_a0, .str z_m9]) hn).fresh ht)
  have bo := (((hb.new (mo := .lst [.str z_a, .str z_b, .str z_z, .str z_c7, .str z_a0, .str z_m9]) hn).new (mo := .dic []) ht).fresh ho).1
  show lstAt _ o _
  unfold lstAt
  rw [ho8]
  refine for_run (fun ds env M' => ∃ done rest x5 kvs, names8 = done ++ rest ∧ ds = rest.map D.str ∧ env = [some (.obj b), some (.int room), some (.int many), some (.obj n), some (.obj t), x5] ∧ M' n = some (.lst (names6.map D.str)) ∧ M' t = some (.dic kvs) ∧ M' o = some (.lst (names8.map D.str)) ∧ BoxAt M' b d ∧ ExtB b M M' ∧ kvs.length ≤ done.length ∧
    (∀ s ∈ done, ∃ u ∈ names6, valA kvs (.inr s) = some (Fm.lt u).d) ∧ ∀ s v, valA kvs (.inr s) = some v → ∃ u, v = (Fm.lt u).d) ?_ ?_ ?_ ⟨[], names8, none, [], rfl, rfl, rfl, ?_, ?_, ho8 _, hb1, e1.b, Nat.le_refl _, (fun s hs => nomatch hs), (fun s v hv => nomatch hv)⟩
  · rintro ds env M' ⟨done, rest, x5, kvs, _, _, _, _, _, h8, _⟩
    exact h8
  · rintro env M' ⟨done, rest, x5, kvs, he8, hd, rfl, h6, ht', h8, hb', e', hl, hs, hv⟩
    have hr : rest = [] := List.map_eq_nil_iff.mp hd.symm
    subst hr
    rw [List.append_nil] at he8
    try (simp only [↓e_seq, ↓e_next, ↓e_break, ↓e_cont, ↓e_expr, ↓e_ret, ↓e_retN, ↓e_if, ↓e_never, ↓e_asg, ↓e_name, ↓e_agtup, ↓e_agcons, ↓e_agnil, ↓e_agsub, ↓e_aug, ↓e_dput, ↓e_var, ↓e_c, ↓e_op, ↓e_some, ↓e_none, ↓e_test, ↓e_and, ↓e_or, ↓e_not, ↓e_yes, ↓e_truth,   ↓e_tru_bl, ↓e_tru_int, ↓e_tru_non, ↓e_tru_str, ↓e_tru_tup, ↓e_tru_obj, ↓e_chain, ↓e_orV, ↓e_andV, ↓e_notV, ↓e_ifE, ↓e_neg, ↓e_nil, ↓e_cons, ↓e_tup, ↓e_lst, ↓e_dnew, ↓e_call, ↓e_cb, ↓e_isi, ↓e_sl, ↓e_onone, ↓e_osome, ↓e_rev, ↓e_lm, ↓e_append, ↓e_extend, ↓e_pop, ↓e_join, ↓e_dget2, ↓e_sortSet, ↓e_sortS, ↓e_setd, strsOf_map, ↓e_maxI, ↓e_disp, ↓e_pairN, ↓e_pairC, intsOf_map, ↓e_for, ↓e_ilist, ↓e_itup, ↓e_rng1, ↓e_rng2, ↓e_lc, ↓e_lc2, e_lc2N, ↓e_ienum, ↓e_izip, ↓e_anyB, ↓e_allB, ↓e_mulS, blsOf_map, ↓e_set0, ↓e_sadd, ↓e_sortTx, ↓e_sortD, ↓e_repr, ↓e_extT, ↓e_sc2, ↓e_sortZ, ↓e_tupVals, ↓e_wget, ↓e_wix, ↓e_listZip, zipD_nil, zipD_cons, ↓e_dgetF, ↓e_idif,   ↓e_add_int, ↓e_add_str, ↓e_add_tup, ↓e_add_obj, ↓e_iadd_int, ↓e_iadd_str, ↓e_iadd_obj, ↓e_I, ↓e_I0, ↓e_IS_int, ↓e_IS_str, ↓e_eq_str, ↓e_ne_str, ↓e_eq_int, ↓e_ne_int, ↓e_eq_bl, ↓e_ne_bl, ↓e_isN, ↓e_notN, ↓e_ix_tup, ↓e_ix_fl, ↓e_ix_str, ↓e_ix_obj, ↓e_in_tup, ↓e_nin_tup, ↓e_len_tup, ↓e_len_fl, ↓e_len_str, ↓e_len_obj, ↓e_int_int, ↓e_tuple_tup, ↓e_tuple_obj, ↓e_list_tup, ↓e_list_obj, ↓e_dget, ↓e_din, ↓e_dnin, ↓e_lstAt, ↓e_dicAt,   e_key_int, e_key_str, e_up, e_ty_str, e_ty_tup, e_ty_int, e_ty_bl, e_ty_non, atI0, atI1, atI2, atI3, atIL, ixN0, ixN1, cut_from1, e_ite_or, e_ite_and, zln, znl, zli, zil, zni, zin, sizeLine_eq, CMul, CDiv, cpow1018, true_or, or_true, kb_strstr, kb_tupstr, kb_tuptup, kb_strtup, kb_inttup, kb_bltup, kb_nontup, kb_strbl, kb_strint, kb_intbl, kb_intint, kb_blbl, kb_blint, kb_nonbl, kb_nonint, kb_nonstr, kb_intstr, kb_blstr, kb_tupbl, kb_tupint,   List.set_cons_zero, List.set_cons_succ, List.set_nil, List.getElem?_cons_zero, List.getElem?_cons_succ, List.getElem?_nil, List.length_cons, List.length_nil, List.length_map, List.length_append, e_lcN, e_lcC, e_forN, e_forC, List.getLast?_concat, List.dropLast_concat, List.nil_append, List.cons_append, List.append_nil, List.append_assoc, List.reverse_cons, List.reverse_nil, List.isEmpty_nil, List.isEmpty_cons, isEmpty_snoc, List.any_cons, List.any_nil, List.all_cons, List.all_nil, flatD, eqF, in_non, in_tup, in_str, in_int, in_bl, in_obj, in_fl, startA, List.map_cons, List.map_nil, List.replicate_succ, List.replicate_zero,   Nat.reduceAdd, Nat.reduceSub, Nat.reduceLeDiff, Nat.zero_add, Int.reduceLE, Int.reduceLT, Int.reduceToNat, Int.reducePow, Int.reduceNeg, Int.reduceAdd, Int.reduceSub,   Option.isSome_some, Option.isSome_none, Bool.not_true, Bool.not_false, Bool.not_eq_true', Bool.not_eq_eq_eq_not, Bool.not_eq_true, Bool.false_eq_true, Bool.true_eq_false, Bool.and_true, Bool.true_and, Bool.or_false, Bool.false_or, Bool.or_true, Bool.true_or, Bool.and_false, Bool.false_and, if_true, if_false, ite_true, ite_false, reduceIte, reduceCtorEq, decide_true, decide_false, decide_eq_true_eq, decide_eq_false_iff_not, true_and, and_true, eq_self, ne_eq, not_false_eq_true, not_true_eq_false, and_self, *])
    refine ⟨rfl, b, d, room, many, rfl, hb', hr, hL, hm, hm8, fun f M2 hf hz hb2 e2 => ?_⟩
    try (simp only [↓e_seq, ↓e_next, ↓e_break, ↓e_cont, ↓e_expr, ↓e_ret, ↓e_retN, ↓e_if, ↓e_never, ↓e_asg, ↓e_name, ↓e_agtup, ↓e_agcons, ↓e_agnil, ↓e_agsub, ↓e_aug, ↓e_dput, ↓e_var, ↓e_c, ↓e_op, ↓e_some, ↓e_none, ↓e_test, ↓e_and, ↓e_or, ↓e_not, ↓e_yes, ↓e_truth,   ↓e_tru_bl, ↓e_tru_int, ↓e_tru_non, ↓e_tru_str, ↓e_tru_tup, ↓e_tru_obj, ↓e_chain, ↓e_orV, ↓e_andV, ↓e_notV, ↓e_ifE, ↓e_neg, ↓e_nil, ↓e_cons, ↓e_tup, ↓e_lst, ↓e_dnew, ↓e_call, ↓e_cb, ↓e_isi, ↓e_sl, ↓e_onone, ↓e_osome, ↓e_rev, ↓e_lm, ↓e_append, ↓e_extend, ↓e_pop, ↓e_join, ↓e_dget2, ↓e_sortSet, ↓e_sortS, ↓e_setd, strsOf_map, ↓e_maxI, ↓e_disp, ↓e_pairN, ↓e_pairC, intsOf_map, ↓e_for, ↓e_ilist, ↓e_itup, ↓e_rng1, ↓e_rng2, ↓e_lc, ↓e_lc2, e_lc2N, ↓e_ienum, ↓e_izip, ↓e_anyB, ↓e_allB, ↓e_mulS, blsOf_map, ↓e_set0, ↓e_sadd, ↓e_sortTx, ↓e_sortD, ↓e_repr, ↓e_extT, ↓e_sc2, ↓e_sortZ, ↓e_tupVals, ↓e_wget, ↓e_wix, ↓e_listZip, zipD_nil, zipD_cons, ↓e_dgetF, ↓e_idif,   ↓e_add_int, ↓e_add_str, ↓e_add_tup, ↓e_add_obj, ↓e_iadd_int, ↓e_iadd_str, ↓e_iadd_obj, ↓e_I, ↓e_I0, ↓e_IS_int, ↓e_IS_str, ↓e_eq_str, ↓e_ne_str, ↓e_eq_int, ↓e_ne_int, ↓e_eq_bl, ↓e_ne_bl, ↓e_isN, ↓e_notN, ↓e_ix_tup, ↓e_ix_fl, ↓e_ix_str, ↓e_ix_obj, ↓e_in_tup, ↓e_nin_tup, ↓e_len_tup, ↓e_len_fl, ↓e_len_str, ↓e_len_obj, ↓e_int_int, ↓e_tuple_tup, ↓e_tuple_obj, ↓e_list_tup, ↓e_list_obj, ↓e_dget, ↓e_din, ↓e_dnin, ↓e_lstAt, ↓e_dicAt,   e_key_int, e_key_str, e_up, e_ty_str, e_ty_tup, e_ty_int, e_ty_bl, e_ty_non, atI0, atI1, atI2, atI3, atIL, ixN0, ixN1, cut_from1, e_ite_or, e_ite_and, zln, znl, zli, zil, zni, zin, sizeLine_eq, CMul, CDiv, cpow1018, true_or, or_true, kb_strstr, kb_tupstr, kb_tuptup, kb_strtup, kb_inttup, kb_bltup, kb_nontup, kb_strbl, kb_strint, kb_intbl, kb_intint, kb_blbl, kb_blint, kb_nonbl, kb_nonint, kb_nonstr, kb_intstr, kb_blstr, kb_tupbl, kb_tupint,   List.set_cons_zero, List.set_cons_succ, List.set_nil, List.getElem?_cons_zero, List.getElem?_cons_succ, List.getElem?_nil, List.length_cons, List.length_nil, List.length_map, List.length_append, e_lcN, e_lcC, e_forN, e_forC, List.getLast?_concat, List.dropLast_concat, List.nil_append, List.cons_append, List.append_nil, List.append_assoc, List.reverse_cons, List.reverse_nil, List.isEmpty_nil, List.isEmpty_cons, isEmpty_snoc, List.any_cons, List.any_nil, List.all_cons, List.all_nil, flatD, eqF, in_non, in_tup, in_str, in_int, in_bl, in_obj, in_fl, startA, List.map_cons, List.map_nil, List.replicate_succ, List.replicate_zero,   Nat.reduceAdd, Nat.reduceSub, Nat.reduceLeDiff, Nat.zero_add, Int.reduceLE, Int.reduceLT, Int.reduceToNat, Int.reducePow, Int.reduceNeg, Int.reduceAdd, Int.reduceSub,   Option.isSome_some, Option.isSome_none, Bool.not_true, Bool.not_false, Bool.not_eq_true', Bool.not_eq_eq_eq_not, Bool.not_eq_true, Bool.false_eq_true, Bool.true_eq_false, Bool.and_true, Bool.true_and, Bool.or_false, Bool.false_or, Bool.or_true, Bool.true_or, Bool.and_false, Bool.false_and, if_true, if_false, ite_true, ite_false, reduceIte, reduceCtorEq, decide_true, decide_false, decide_eq_true_eq, decide_eq_false_iff_not, true_and, and_true, eq_self, ne_eq, not_false_eq_true, not_true_eq_false, and_self, *])
    refine ⟨rfl, f, t, kvs, fun s => unlet ((valA kvs (.inr s)).getD (Fm.lt s).d), rfl, by omega, e2 _ _ bt.1.symm ht', fun s => ?_, fun M3 e3 => ?_⟩
    · show (valA kvs (.inr s)).getD (Fm.lt s).d = (unlet ((valA kvs (.inr s)).getD (Fm.lt s).d)).d
      cases hvs : valA kvs (.inr s) with
      | none => rfl
      | some dv =>
        obtain ⟨u, rfl⟩ := hv s dv hvs
        rfl
    · have lt1 : ∀ s, L8 s → ∃ u ∈ names6, unlet ((valA kvs (.inr s)).getD (Fm.lt s).d) = Fm.lt u := fun s h => by
        obtain ⟨u, hu, e⟩ := hs s (by rw [← he8]; exact L8_names h)
        exact ⟨u, hu, by rw [e]; rfl⟩
      refine q _ M3 (Fm.sub_all (P := L8) (fun s h => ?_) hf) ?_ (hb2.ext e3) (e'.trans (e2.trans e3.b))
      · obtain ⟨u, hu, e⟩ := lt1 s h
        rw [e]
        exact hu
      · rw [Fm.sub_sz (P := L8) (fun s h => ?_) hf]
        · exact hz
        · obtain ⟨u, hu, e⟩ := lt1 s h
          rw [e]
          rfl
  · rintro x r N env M' ⟨done, rest, x5, kvs, he8, hd, rfl, h6, ht', h8, hb', e', hl, hs, hv⟩ next
    cases rest with
    | nil => cases hd
    | cons s rest =>
      rw [List.map_cons] at hd
      injection hd with hd1 hd2
      subst hd1 hd2
      try (simp only [↓e_seq, ↓e_next, ↓e_break, ↓e_cont, ↓e_expr, ↓e_ret, ↓e_retN, ↓e_if, ↓e_never, ↓e_asg, ↓e_name, ↓e_agtup, ↓e_agcons, ↓e_agnil, ↓e_agsub, ↓e_aug, ↓e_dput, ↓e_var, ↓e_c, ↓e_op, ↓e_some, ↓e_none, ↓e_test, ↓e_and, ↓e_or, ↓e_not, ↓e_yes, ↓e_truth,   ↓e_tru_bl, ↓e_tru_int, ↓e_tru_non, ↓e_tru_str, ↓e_tru_tup, ↓e_tru_obj, ↓e_chain, ↓e_orV, ↓e_andV, ↓e_notV, ↓e_ifE, ↓e_neg, ↓e_nil, ↓e_cons, ↓e_tup, ↓e_lst, ↓e_dnew, ↓e_call, ↓e_cb, ↓e_isi, ↓e_sl, ↓e_onone, ↓e_osome, ↓e_rev, ↓e_lm, ↓e_append, ↓e_extend, ↓e_pop, ↓e_join, ↓e_dget2, ↓e_sortSet, ↓e_sortS, ↓e_setd, strsOf_map, ↓e_maxI, ↓e_disp, ↓e_pairN, ↓e_pairC, intsOf_map, ↓e_for, ↓e_ilist, ↓e_itup, ↓e_rng1, ↓e_rng2, ↓e_lc, ↓e_lc2, e_lc2N, ↓e_ienum, ↓e_izip, ↓e_anyB, ↓e_allB, ↓e_mulS, blsOf_map, ↓e_set0, ↓e_sadd, ↓e_sortTx, ↓e_sortD, ↓e_repr, ↓e_extT, ↓e_sc2, ↓e_sortZ, ↓e_tupVals, ↓e_wget, ↓e_wix, ↓e_listZip, zipD_nil, zipD_cons, ↓e_dgetF, ↓e_idif,   ↓e_add_int, ↓e_add_str, ↓e_add_tup, ↓e_add_obj, ↓e_iadd_int, ↓e_iadd_str, ↓e_iadd_obj, ↓e_I, ↓e_I0, ↓e_IS_int, ↓e_IS_str, ↓e_eq_str, ↓e_ne_str, ↓e_eq_int, ↓e_ne_int, ↓e_eq_bl, ↓e_ne_bl, ↓e_isN, ↓e_notN, ↓e_ix_tup, ↓e_ix_fl, ↓e_ix_str, ↓e_ix_obj, ↓e_in_tup, ↓e_nin_tup, ↓e_len_tup, ↓e_len_fl, ↓e_len_str, ↓e_len_obj, ↓e_int_int, ↓e_tuple_tup, ↓e_tuple_obj, ↓e_list_tup, ↓e_list_obj, ↓e_dget, ↓e_din, ↓e_dnin, ↓e_lstAt, ↓e_dicAt,   e_key_int, e_key_str, e_up, e_ty_str, e_ty_tup, e_ty_int, e_ty_bl, e_ty_non, atI0, atI1, atI2, atI3, atIL, ixN0, ixN1, cut_from1, e_ite_or, e_ite_and, zln, znl, zli, zil, zni, zin, sizeLine_eq, CMul, CDiv, cpow1018, true_or, or_true, kb_strstr, kb_tupstr, kb_tuptup, kb_strtup, kb_inttup, kb_bltup, kb_nontup, kb_strbl, kb_strint, kb_intbl, kb_intint, kb_blbl, kb_blint, kb_nonbl, kb_nonint, kb_nonstr, kb_intstr, kb_blstr, kb_tupbl, kb_tupint,   List.set_cons_zero, List.set_cons_succ, List.set_nil, List.getElem?_cons_zero, List.getElem?_cons_succ, List.getElem?_nil, List.length_cons, List.length_nil, List.length_map, List.length_append, e_lcN, e_lcC, e_forN, e_forC, List.getLast?_concat, List.dropLast_concat, List.nil_append, List.cons_append, List.append_nil, List.append_assoc, List.reverse_cons, List.reverse_nil, List.isEmpty_nil, List.isEmpty_cons, isEmpty_snoc, List.any_cons, List.any_nil, List.all_cons, List.all_nil, flatD, eqF, in_non, in_tup, in_str, in_int, in_bl, in_obj, in_fl, startA, List.map_cons, List.map_nil, List.replicate_succ, List.replicate_zero,   Nat.reduceAdd, Nat.reduceSub, Nat.reduceLeDiff, Nat.zero_add, Int.reduceLE, Int.reduceLT, Int.reduceToNat, Int.reducePow, Int.reduceNeg, Int.reduceAdd, Int.reduceSub,   Option.isSome_some, Option.isSome_none, Bool.not_true, Bool.not_false, Bool.not_eq_true', Bool.not_eq_eq_eq_not, Bool.not_eq_true, Bool.false_eq_true, Bool.true_eq_false, Bool.and_true, Bool.true_and, Bool.or_false, Bool.false_or, Bool.or_true, Bool.true_or, Bool.and_false, Bool.false_and, if_true, if_false, ite_true, ite_false, reduceIte, reduceCtorEq, decide_true, decide_false, decide_eq_true_eq, decide_eq_false_iff_not, true_and, and_true, eq_self, ne_eq, not_false_eq_true, not_true_eq_false, and_self, *])
      refine ⟨rfl, b, d, 6, rfl, hb', by decide, fun v M2 hv0 hv1 hb2 e2 => ?_⟩
      have h62 := e2 _ _ bn.symm h6
      have ht2 := e2 _ _ bt.1.symm ht'
      have h82 := e2 _ _ bo.symm h8
      obtain ⟨u, hu, hat⟩ := at6 hv0 hv1
      try (simp only [↓e_seq, ↓e_next, ↓e_break, ↓e_cont, ↓e_expr, ↓e_ret, ↓e_retN, ↓e_if, ↓e_never, ↓e_asg, ↓e_name, ↓e_agtup, ↓e_agcons, ↓e_agnil, ↓e_agsub, ↓e_aug, ↓e_dput, ↓e_var, ↓e_c, ↓e_op, ↓e_some, ↓e_none, ↓e_test, ↓e_and, ↓e_or, ↓e_not, ↓e_yes, ↓e_truth,   ↓e_tru_bl, ↓e_tru_int, ↓e_tru_non, ↓e_tru_str, ↓e_tru_tup, ↓e_tru_obj, ↓e_chain, ↓e_orV, ↓e_andV, ↓e_notV, ↓e_ifE, ↓e_neg, ↓e_nil, ↓e_cons, ↓e_tup, ↓e_lst, ↓e_dnew, ↓e_call, ↓e_cb, ↓e_isi, ↓e_sl, ↓e_onone, ↓e_osome, ↓e_rev, ↓e_lm, ↓e_append, ↓e_extend, ↓e_pop, ↓e_join, ↓e_dget2, ↓e_sortSet, ↓e_sortS, ↓e_setd, strsOf_map, ↓e_maxI, ↓e_disp, ↓e_pairN, ↓e_pairC, intsOf_map, ↓e_for, ↓e_ilist, ↓e_itup, ↓e_rng1, ↓e_rng2, ↓e_lc, ↓e_lc2, e_lc2N, ↓e_ienum, ↓e_izip, ↓e_anyB, ↓e_allB, ↓e_mulS, blsOf_map, ↓e_set0, ↓e_sadd, ↓e_sortTx, ↓e_sortD, ↓e_repr, ↓e_extT, ↓e_sc2, ↓e_sortZ, ↓e_tupVals, ↓e_wget, ↓e_wix, ↓e_listZip, zipD_nil, zipD_cons, ↓e_dgetF, ↓e_idif,   ↓e_add_int, ↓e_add_str, ↓e_add_tup, ↓e_add_obj, ↓e_iadd_int, ↓e_iadd_str, ↓e_iadd_obj, ↓e_I, ↓e_I0, ↓e_IS_int, ↓e_IS_str, ↓e_eq_str, ↓e_ne_str, ↓e_eq_int, ↓e_ne_int, ↓e_eq_bl, ↓e_ne_bl, ↓e_isN, ↓e_notN, ↓e_ix_tup, ↓e_ix_fl, ↓e_ix_str, ↓e_ix_obj, ↓e_in_tup, ↓e_nin_tup, ↓e_len_tup, ↓e_len_fl, ↓e_len_str, ↓e_len_obj, ↓e_int_int, ↓e_tuple_tup, ↓e_tuple_obj, ↓e_list_tup, ↓e_list_obj, ↓e_dget, ↓e_din, ↓e_dnin, ↓e_lstAt, ↓e_dicAt,   e_key_int, e_key_str, e_up, e_ty_str, e_ty_tup, e_ty_int, e_ty_bl, e_ty_non, atI0, atI1, atI2, atI3, atIL, ixN0, ixN1, cut_from1, e_ite_or, e_ite_and, zln, znl, zli, zil, zni, zin, sizeLine_eq, CMul, CDiv, cpow1018, true_or, or_true, kb_strstr, kb_tupstr, kb_tuptup, kb_strtup, kb_inttup, kb_bltup, kb_nontup, kb_strbl, kb_strint, kb_intbl, kb_intint, kb_blbl, kb_blint, kb_nonbl, kb_nonint, kb_nonstr, kb_intstr, kb_blstr, kb_tupbl, kb_tupint,   List.set_cons_zero, List.set_cons_succ, List.set_nil, List.getElem?_cons_zero, List.getElem?_cons_succ, List.getElem?_nil, List.length_cons, List.length_nil, List.length_map, List.length_append, e_lcN, e_lcC, e_forN, e_forC, List.getLast?_concat, List.dropLast_concat, List.nil_append, List.cons_append, List.append_nil, List.append_assoc, List.reverse_cons, List.reverse_nil, List.isEmpty_nil, List.isEmpty_cons, isEmpty_snoc, List.any_cons, List.any_nil, List.all_cons, List.all_nil, flatD, eqF, in_non, in_tup, in_str, in_int, in_bl, in_obj, in_fl, startA, List.map_cons, List.map_nil, List.replicate_succ, List.replicate_zero,   Nat.reduceAdd, Nat.reduceSub, Nat.reduceLeDiff, Nat.zero_add, Int.reduceLE, Int.reduceLT, Int.reduceToNat, Int.reducePow, Int.reduceNeg, Int.reduceAdd, Int.reduceSub,   Option.isSome_some, Option.isSome_none, Bool.not_true, Bool.not_false, Bool.not_eq_true', Bool.not_eq_eq_eq_not, Bool.not_eq_true, Bool.false_eq_true, Bool.true_eq_false, Bool.and_true, Bool.true_and, Bool.or_false, Bool.false_or, Bool.or_true, Bool.true_or, Bool.and_false, Bool.false_and, if_true, if_false, ite_true, ite_false, reduceIte, reduceCtorEq, decide_true, decide_false, decide_eq_true_eq, decide_eq_false_iff_not, true_and, and_true, eq_self, ne_eq, not_false_eq_true, not_true_eq_false, and_self, *])
      have hl8 : done.length ≤ 8 := by
        have z := congrArg List.length he8
        rw [List.length_append] at z
        have z8 : names8.length = 8 := rfl
        omega
      refine ⟨by omega, next _ _ ⟨done ++ [s], rest, _, _, by rw [he8, List.append_assoc]; rfl, rfl, rfl, by rw [up_ne nt]; exact h62, up_same, by rw [up_ne to.symm]; exact h82, hb2.upd bt.1 bt.2, (fun a mo na m => ?_), ?_, fun s' hs' => ?_, fun s' v' hv' => ?_⟩⟩
      · have ht0 : M t = none := by rw [up_ne nt.symm] at ht; exact ht
        rw [up_ne (fresh_ne ht0 m)]
        exact e2 _ _ na (e' _ _ na m)
      · have z := putA_length kvs (.inr s) (.tup [.str z_letter, .str u])
        rw [List.length_append, List.length_singleton]
        omega
      · rw [valA_put]
        by_cases hss : s' = s
        · subst hss
          rw [if_pos rfl]
          exact ⟨u, hu, rfl⟩
        · rw [if_neg (fun z => hss (Sum.inr.inj z))]
          rcases List.mem_append.mp hs' with h | h
          · exact hs s' h
          · exact absurd (List.mem_singleton.mp h) hss
      · rw [valA_put] at hv'
        by_cases hss : s' = s
        · subst hss
          rw [if_pos rfl] at hv'
          cases hv'
          exact ⟨u, rfl⟩
        · rw [if_neg (fun z => hss (Sum.inr.inj z))] at hv'
          exact hv s' v' hv'
  · rw [up_ne no, up_ne nt]
    exact hn6
  · rw [up_ne to]
    exact up_same

theorem atI_any {α : Type} {xs : List α} {i : Int} (h0 : 0 ≤ i) (h : i < (xs.length : Int)) : ∃ x, atI xs i = some x ∧ xs[i.toNat]? = some x := by
  have hk : i.toNat < xs.length := by omega
  have e : i = ((i.toNat : Nat) : Int) := by omega
  refine ⟨xs[i.toNat], ?_, List.getElem?_eq_getElem hk⟩
  have z : atI xs ((i.toNat : Nat) : Int) = xs[i.toNat]? := atIn
  rw [← e, List.getElem?_eq_getElem hk] at z
  exact z
mutual
def D.dep : D → Nat
  | .tup ds => D.deps ds + 1
  | _ => 0
def D.deps : List D → Nat
  | [] => 0
  | d :: r => max d.dep (D.deps r)
end
mutual
def D.plain : D → Prop
  | .tup ds => ds.length ≤ 1000000 ∧ D.plains ds
  | .obj _ => False
  | .fl _ => False
  | _ => True
def D.plains : List D → Prop
  | [] => True
  | d :: r => d.plain ∧ D.plains r
end
theorem deps_mem : ∀ {ds : List D} {i : Nat} {d : D}, ds[i]? = some d → d.dep ≤ D.deps ds
  | [], _, _, e => by simp at e
  | d :: r, 0, _, e => by cases (Option.some.inj e); exact Nat.le_max_left _ _
  | d :: r, i + 1, _, e => Nat.le_trans (deps_mem (ds := r) (i := i) e) (Nat.le_max_right _ _)
theorem plains_mem : ∀ {ds : List D} {i : Nat} {d : D}, ds[i]? = some d → D.plains ds → d.plain
  | [], _, _, e, _ => by simp at e
  | d :: r, 0, _, e, h => by cases (Option.some.inj e); exact h.1
  | d :: r, i + 1, _, e, h => plains_mem (ds := r) (i := i) e h.2
theorem deps_le : ∀ {ds : List D} {n : Nat}, (∀ d ∈ ds, d.dep ≤ n) → D.deps ds ≤ n
  | [], _, _ => Nat.zero_le _
  | d :: r, n, h => Nat.max_le.mpr ⟨h d List.mem_cons_self, deps_le fun x hx => h x (List.mem_cons_of_mem _ hx)⟩
theorem plains_all : ∀ {ds : List D}, (∀ d ∈ ds, d.plain) → D.plains ds
  | [], _ => trivial
  | d :: r, h => ⟨h d List.mem_cons_self, plains_all fun x hx => h x (List.mem_cons_of_mem _ hx)⟩
theorem Fm.plain : ∀ f : Fm, f.d.plain
  | .lt _ => ⟨(by show 2 ≤ 1000000; omega), trivial, trivial, trivial⟩
  | .ng p => ⟨(by show 2 ≤ 1000000; omega), trivial, Fm.plain p, trivial⟩
  | .im p q => ⟨(by show 3 ≤ 1000000; omega), trivial, Fm.plain p, Fm.plain q, trivial⟩
theorem Fm.dep : ∀ f : Fm, f.d.dep ≤ f.sz
  | .lt _ => Nat.le_refl _
  | .ng p => by
    have h := Fm.dep p
    show max 0 (max p.d.dep 0) + 1 ≤ p.sz + 1
    omega
  | .im p q => by
    have h := Fm.dep p
    have h2 := Fm.dep q
    show max 0 (max p.d.dep (max q.d.dep 0)) + 1 ≤ p.sz + q.sz + 1
    omega
def A_same (L : Nat) : ASp := fun ds M Q _ => ∃ x, ds = [x, x] ∧ x.plain ∧ x.dep < L ∧ Q (.bl true) M
theorem p__law_same (L : Nat) (ds : List D) (M : Sto) (Q : D → Sto → Prop) (Xa) (hl : ds.length = 2) (h : A_same (L + 1) ds M Q Xa) : a__law_same (A_same L) ax0 (Done Q) (startA ["actual", "expected", "k"] ds) M := by
  obtain ⟨x, rfl, hp, hd, q⟩ := h
  unfold a__law_same
  cases x with
  | non => try (simp only [↓e_seq, ↓e_next, ↓e_break, ↓e_cont, ↓e_expr, ↓e_ret, ↓e_retN, ↓e_if, ↓e_never, ↓e_asg, ↓e_name, ↓e_agtup, ↓e_agcons, ↓e_agnil, ↓e_agsub, ↓e_aug, ↓e_dput, ↓e_var, ↓e_c, ↓e_op, ↓e_some, ↓e_none, ↓e_test, ↓e_and, ↓e_or, ↓e_not, ↓e_yes, ↓e_truth,   ↓e_tru_bl, ↓e_tru_int, ↓e_tru_non, ↓e_tru_str, ↓e_tru_tup, ↓e_tru_obj, ↓e_chain, ↓e_orV, ↓e_andV, ↓e_notV, ↓e_ifE, ↓e_neg, ↓e_nil, ↓e_cons, ↓e_tup, ↓e_lst, ↓e_dnew, ↓e_call, ↓e_cb, ↓e_isi, ↓e_sl, ↓e_onone, ↓e_osome, ↓e_rev, ↓e_lm, ↓e_append, ↓e_extend, ↓e_pop, ↓e_join, ↓e_dget2, ↓e_sortSet, ↓e_sortS, ↓e_setd, strsOf_map, ↓e_maxI, ↓e_disp, ↓e_pairN, ↓e_pairC, intsOf_map, ↓e_for, ↓e_ilist, ↓e_itup, ↓e_rng1, ↓e_rng2, ↓e_lc, ↓e_lc2, e_lc2N, ↓e_ienum, ↓e_izip, ↓e_anyB, ↓e_allB, ↓e_mulS, blsOf_map, ↓e_set0, ↓e_sadd, ↓e_sortTx, ↓e_sortD, ↓e_repr, ↓e_extT, ↓e_sc2, ↓e_sortZ, ↓e_tupVals, ↓e_wget, ↓e_wix, ↓e_listZip, zipD_nil, zipD_cons, ↓e_dgetF, ↓e_idif,   ↓e_add_int, ↓e_add_str, ↓e_add_tup, ↓e_add_obj, ↓e_iadd_int, ↓e_iadd_str, ↓e_iadd_obj, ↓e_I, ↓e_I0, ↓e_IS_int, ↓e_IS_str, ↓e_eq_str, ↓e_ne_str, ↓e_eq_int, ↓e_ne_int, ↓e_eq_bl, ↓e_ne_bl, ↓e_isN, ↓e_notN, ↓e_ix_tup, ↓e_ix_fl, ↓e_ix_str, ↓e_ix_obj, ↓e_in_tup, ↓e_nin_tup, ↓e_len_tup, ↓e_len_fl, ↓e_len_str, ↓e_len_obj, ↓e_int_int, ↓e_tuple_tup, ↓e_tuple_obj, ↓e_list_tup, ↓e_list_obj, ↓e_dget, ↓e_din, ↓e_dnin, ↓e_lstAt, ↓e_dicAt,   e_key_int, e_key_str, e_up, e_ty_str, e_ty_tup, e_ty_int, e_ty_bl, e_ty_non, atI0, atI1, atI2, atI3, atIL, ixN0, ixN1, cut_from1, e_ite_or, e_ite_and, zln, znl, zli, zil, zni, zin, sizeLine_eq, CMul, CDiv, cpow1018, true_or, or_true, kb_strstr, kb_tupstr, kb_tuptup, kb_strtup, kb_inttup, kb_bltup, kb_nontup, kb_strbl, kb_strint, kb_intbl, kb_intint, kb_blbl, kb_blint, kb_nonbl, kb_nonint, kb_nonstr, kb_intstr, kb_blstr, kb_tupbl, kb_tupint,   List.set_cons_zero, List.set_cons_succ, List.set_nil, List.getElem?_cons_zero, List.getElem?_cons_succ, List.getElem?_nil, List.length_cons, List.length_nil, List.length_map, List.length_append, e_lcN, e_lcC, e_forN, e_forC, List.getLast?_concat, List.dropLast_concat, List.nil_append, List.cons_append, List.append_nil, List.append_assoc, List.reverse_cons, List.reverse_nil, List.isEmpty_nil, List.isEmpty_cons, isEmpty_snoc, List.any_cons, List.any_nil, List.all_cons, List.all_nil, flatD, eqF, in_non, in_tup, in_str, in_int, in_bl, in_obj, in_fl, startA, List.map_cons, List.map_nil, List.replicate_succ, List.replicate_zero,   Nat.reduceAdd, Nat.reduceSub, Nat.reduceLeDiff, Nat.zero_add, Int.reduceLE, Int.reduceLT, Int.reduceToNat, Int.reducePow, Int.reduceNeg, Int.reduceAdd, Int.reduceSub,   Option.isSome_some, Option.isSome_none, Bool.not_true, Bool.not_false, Bool.not_eq_true', Bool.not_eq_eq_eq_not, Bool.not_eq_true, Bool.false_eq_true, Bool.true_eq_false, Bool.and_true, Bool.true_and, Bool.or_false, Bool.false_or, Bool.or_true, Bool.true_or, Bool.and_false, Bool.false_and, if_true, if_false, ite_true, ite_false, reduceIte, reduceCtorEq, decide_true, decide_false, decide_eq_true_eq, decide_eq_false_iff_not, true_and, and_true, eq_self, ne_eq, not_false_eq_true, not_true_eq_false, and_self, *])
  | bl b => try (simp only [↓e_seq, ↓e_next, ↓e_break, ↓e_cont, ↓e_expr, ↓e_ret, ↓e_retN, ↓e_if, ↓e_never, ↓e_asg, ↓e_name, ↓e_agtup, ↓e_agcons, ↓e_agnil, ↓e_agsub, ↓e_aug, ↓e_dput, ↓e_var, ↓e_c, ↓e_op, ↓e_some, ↓e_none, ↓e_test, ↓e_and, ↓e_or, ↓e_not, ↓e_yes, ↓e_truth,   ↓e_tru_bl, ↓e_tru_int, ↓e_tru_non, ↓e_tru_str, ↓e_tru_tup, ↓e_tru_obj, ↓e_chain, ↓e_orV, ↓e_andV, ↓e_notV, ↓e_ifE, ↓e_neg, ↓e_nil, ↓e_cons, ↓e_tup, ↓e_lst, ↓e_dnew, ↓e_call, ↓e_cb, ↓e_isi, ↓e_sl, ↓e_onone, ↓e_osome, ↓e_rev, ↓e_lm, ↓e_append, ↓e_extend, ↓e_pop, ↓e_join, ↓e_dget2, ↓e_sortSet, ↓e_sortS, ↓e_setd, strsOf_map, ↓e_maxI, ↓e_disp, ↓e_pairN, ↓e_pairC, intsOf_map, ↓e_for, ↓e_ilist, ↓e_itup, ↓e_rng1, ↓e_rng2, ↓e_lc, ↓e_lc2, e_lc2N, ↓e_ienum, ↓e_izip, ↓e_anyB, ↓e_allB, ↓e_mulS, blsOf_map, ↓e_set0, ↓e_sadd, ↓e_sortTx, ↓e_sortD, ↓e_repr, ↓e_extT, ↓e_sc2, ↓e_sortZ, ↓e_tupVals, ↓e_wget, ↓e_wix, ↓e_listZip, zipD_nil, zipD_cons, ↓e_dgetF, ↓e_idif,   ↓e_add_int, ↓e_add_str, ↓e_add_tup, ↓e_add_obj, ↓e_iadd_int, ↓e_iadd_str, ↓e_iadd_obj, ↓e_I, ↓e_I0, ↓e_IS_int, ↓e_IS_str, ↓e_eq_str, ↓e_ne_str, ↓e_eq_int, ↓e_ne_int, ↓e_eq_bl, ↓e_ne_bl, ↓e_isN, ↓e_notN, ↓e_ix_tup, ↓e_ix_fl, ↓e_ix_str, ↓e_ix_obj, ↓e_in_tup, ↓e_nin_tup, ↓e_len_tup, ↓e_len_fl, ↓e_len_str, ↓e_len_obj, ↓e_int_int, ↓e_tuple_tup, ↓e_tuple_obj, ↓e_list_tup, ↓e_list_obj, ↓e_dget, ↓e_din, ↓e_dnin, ↓e_lstAt, ↓e_dicAt,   e_key_int, e_key_str, e_up, e_ty_str, e_ty_tup, e_ty_int, e_ty_bl, e_ty_non, atI0, atI1, atI2, atI3, atIL, ixN0, ixN1, cut_from1, e_ite_or, e_ite_and, zln, znl, zli, zil, zni, zin, sizeLine_eq, CMul, CDiv, cpow1018, true_or, or_true, kb_strstr, kb_tupstr, kb_tuptup, kb_strtup, kb_inttup, kb_bltup, kb_nontup, kb_strbl, kb_strint, kb_intbl, kb_intint, kb_blbl, kb_blint, kb_nonbl, kb_nonint, kb_nonstr, kb_intstr, kb_blstr, kb_tupbl, kb_tupint,   List.set_cons_zero, List.set_cons_succ, List.set_nil, List.getElem?_cons_zero, List.getElem?_cons_succ, List.getElem?_nil, List.length_cons, List.length_nil, List.length_map, List.length_append, e_lcN, e_lcC, e_forN, e_forC, List.getLast?_concat, List.dropLast_concat, List.nil_append, List.cons_append, List.append_nil, List.append_assoc, List.reverse_cons, List.reverse_nil, List.isEmpty_nil, List.isEmpty_cons, isEmpty_snoc, List.any_cons, List.any_nil, List.all_cons, List.all_nil, flatD, eqF, in_non, in_tup, in_str, in_int, in_bl, in_obj, in_fl, startA, List.map_cons, List.map_nil, List.replicate_succ, List.replicate_zero,   Nat.reduceAdd, Nat.reduceSub, Nat.reduceLeDiff, Nat.zero_add, Int.reduceLE, Int.reduceLT, Int.reduceToNat, Int.reducePow, Int.reduceNeg, Int.reduceAdd, Int.reduceSub,   Option.isSome_some, Option.isSome_none, Bool.not_true, Bool.not_false, Bool.not_eq_true', Bool.not_eq_eq_eq_not, Bool.not_eq_true, Bool.false_eq_true, Bool.true_eq_false, Bool.and_true, Bool.true_and, Bool.or_false, Bool.false_or, Bool.or_true, Bool.true_or, Bool.and_false, Bool.false_and, if_true, if_false, ite_true, ite_false, reduceIte, reduceCtorEq, decide_true, decide_false, decide_eq_true_eq, decide_eq_false_iff_not, true_and, and_true, eq_self, ne_eq, not_false_eq_true, not_true_eq_false, and_self, *])
  | int i => try (simp only [↓e_seq, ↓e_next, ↓e_break, ↓e_cont, ↓e_expr, ↓e_ret, ↓e_retN, ↓e_if, ↓e_never, ↓e_asg, ↓e_name, ↓e_agtup, ↓e_agcons, ↓e_agnil, ↓e_agsub, ↓e_aug, ↓e_dput, ↓e_var, ↓e_c, ↓e_op, ↓e_some, ↓e_none, ↓e_test, ↓e_and, ↓e_or, ↓e_not, ↓e_yes, ↓e_truth,   ↓e_tru_bl, ↓e_tru_int, ↓e_tru_non, ↓e_tru_str, ↓e_tru_tup, ↓e_tru_obj, ↓e_chain, ↓e_orV, ↓e_andV, ↓e_notV, ↓e_ifE, ↓e_neg, ↓e_nil, ↓e_cons, ↓e_tup, ↓e_lst, ↓e_dnew, ↓e_call, ↓e_cb, ↓e_isi, ↓e_sl, ↓e_onone, ↓e_osome, ↓e_rev, ↓e_lm, ↓e_append, ↓e_extend, ↓e_pop, ↓e_join, ↓e_dget2, ↓e_sortSet, ↓e_sortS, ↓e_setd, strsOf_map, ↓e_maxI, ↓e_disp, ↓e_pairN, ↓e_pairC, intsOf_map, ↓e_for, ↓e_ilist, ↓e_itup, ↓e_rng1, ↓e_rng2, ↓e_lc, ↓e_lc2, e_lc2N, ↓e_ienum, ↓e_izip, ↓e_anyB, ↓e_allB, ↓e_mulS, blsOf_map, ↓e_set0, ↓e_sadd, ↓e_sortTx, ↓e_sortD, ↓e_repr, ↓e_extT, ↓e_sc2, ↓e_sortZ, ↓e_tupVals, ↓e_wget, ↓e_wix, ↓e_listZip, zipD_nil, zipD_cons, ↓e_dgetF, ↓e_idif,   ↓e_add_int, ↓e_add_str, ↓e_add_tup, ↓e_add_obj, ↓e_iadd_int, ↓e_iadd_str, ↓e_iadd_obj, ↓e_I, ↓e_I0, ↓e_IS_int, ↓e_IS_str, ↓e_eq_str, ↓e_ne_str, ↓e_eq_int, ↓e_ne_int, ↓e_eq_bl, ↓e_ne_bl, ↓e_isN, ↓e_notN, ↓e_ix_tup, ↓e_ix_fl, ↓e_ix_str, ↓e_ix_obj, ↓e_in_tup, ↓e_nin_tup, ↓e_len_tup, ↓e_len_fl, ↓e_len_str, ↓e_len_obj, ↓e_int_int, ↓e_tuple_tup, ↓e_tuple_obj, ↓e_list_tup, ↓e_list_obj, ↓e_dget, ↓e_din, ↓e_dnin, ↓e_lstAt, ↓e_dicAt,   e_key_int, e_key_str, e_up, e_ty_str, e_ty_tup, e_ty_int, e_ty_bl, e_ty_non, atI0, atI1, atI2, atI3, atIL, ixN0, ixN1, cut_from1, e_ite_or, e_ite_and, zln, znl, zli, zil, zni, zin, sizeLine_eq, CMul, CDiv, cpow1018, true_or, or_true, kb_strstr, kb_tupstr, kb_tuptup, kb_strtup, kb_inttup, kb_bltup, kb_nontup, kb_strbl, kb_strint, kb_intbl, kb_intint, kb_blbl, kb_blint, kb_nonbl, kb_nonint, kb_nonstr, kb_intstr, kb_blstr, kb_tupbl, kb_tupint,   List.set_cons_zero, List.set_cons_succ, List.set_nil, List.getElem?_cons_zero, List.getElem?_cons_succ, List.getElem?_nil, List.length_cons, List.length_nil, List.length_map, List.length_append, e_lcN, e_lcC, e_forN, e_forC, List.getLast?_concat, List.dropLast_concat, List.nil_append, List.cons_append, List.append_nil, List.append_assoc, List.reverse_cons, List.reverse_nil, List.isEmpty_nil, List.isEmpty_cons, isEmpty_snoc, List.any_cons, List.any_nil, List.all_cons, List.all_nil, flatD, eqF, in_non, in_tup, in_str, in_int, in_bl, in_obj, in_fl, startA, List.map_cons, List.map_nil, List.replicate_succ, List.replicate_zero,   Nat.reduceAdd, Nat.reduceSub, Nat.reduceLeDiff, Nat.zero_add, Int.reduceLE, Int.reduceLT, Int.reduceToNat, Int.reducePow, Int.reduceNeg, Int.reduceAdd, Int.reduceSub,   Option.isSome_some, Option.isSome_none, Bool.not_true, Bool.not_false, Bool.not_eq_true', Bool.not_eq_eq_eq_not, Bool.not_eq_true, Bool.false_eq_true, Bool.true_eq_false, Bool.and_true, Bool.true_and, Bool.or_false, Bool.false_or, Bool.or_true, Bool.true_or, Bool.and_false, Bool.false_and, if_true, if_false, ite_true, ite_false, reduceIte, reduceCtorEq, decide_true, decide_false, decide_eq_true_eq, decide_eq_false_iff_not, true_and, and_true, eq_self, ne_eq, not_false_eq_true, not_true_eq_false, and_self, *])
  | str s => try (simp only [↓e_seq, ↓e_next, ↓e_break, ↓e_cont, ↓e_expr, ↓e_ret, ↓e_retN, ↓e_if, ↓e_never, ↓e_asg, ↓e_name, ↓e_agtup, ↓e_agcons, ↓e_agnil, ↓e_agsub, ↓e_aug, ↓e_dput, ↓e_var, ↓e_c, ↓e_op, ↓e_some, ↓e_none, ↓e_test, ↓e_and, ↓e_or, ↓e_not, ↓e_yes, ↓e_truth,   ↓e_tru_bl, ↓e_tru_int, ↓e_tru_non, ↓e_tru_str, ↓e_tru_tup, ↓e_tru_obj, ↓e_chain, ↓e_orV, ↓e_andV, ↓e_notV, ↓e_ifE, ↓e_neg, ↓e_nil, ↓e_cons, ↓e_tup, ↓e_lst, ↓e_dnew, ↓e_call, ↓e_cb, ↓e_isi, ↓e_sl, ↓e_onone, ↓e_osome, ↓e_rev, ↓e_lm, ↓e_append, ↓e_extend, ↓e_pop, ↓e_join, ↓e_dget2, ↓e_sortSet, ↓e_sortS, ↓e_setd, strsOf_map, ↓e_maxI, ↓e_disp, ↓e_pairN, ↓e_pairC, intsOf_map, ↓e_for, ↓e_ilist, ↓e_itup, ↓e_rng1, ↓e_rng2, ↓e_lc, ↓e_lc2, e_lc2N, ↓e_ienum, ↓e_izip, ↓e_anyB, ↓e_allB, ↓e_mulS, blsOf_map, ↓e_set0, ↓e_sadd, ↓e_sortTx, ↓e_sortD, ↓e_repr, ↓e_extT, ↓e_sc2, ↓e_sortZ, ↓e_tupVals, ↓e_wget, ↓e_wix, ↓e_listZip, zipD_nil, zipD_cons, ↓e_dgetF, ↓e_idif,   ↓e_add_int, ↓e_add_str, ↓e_add_tup, ↓e_add_obj, ↓e_iadd_int, ↓e_iadd_str, ↓e_iadd_obj, ↓e_I, ↓e_I0, ↓e_IS_int, ↓e_IS_str, ↓e_eq_str, ↓e_ne_str, ↓e_eq_int, ↓e_ne_int, ↓e_eq_bl, ↓e_ne_bl, ↓e_isN, ↓e_notN, ↓e_ix_tup, ↓e_ix_fl, ↓e_ix_str, ↓e_ix_obj, ↓e_in_tup, ↓e_nin_tup, ↓e_len_tup, ↓e_len_fl, ↓e_len_str, ↓e_len_obj, ↓e_int_int, ↓e_tuple_tup, ↓e_tuple_obj, ↓e_list_tup, ↓e_list_obj, ↓e_dget, ↓e_din, ↓e_dnin, ↓e_lstAt, ↓e_dicAt,   e_key_int, e_key_str, e_up, e_ty_str, e_ty_tup, e_ty_int, e_ty_bl, e_ty_non, atI0, atI1, atI2, atI3, atIL, ixN0, ixN1, cut_from1, e_ite_or, e_ite_and, zln, znl, zli, zil, zni, zin, sizeLine_eq, CMul, CDiv, cpow1018, true_or, or_true, kb_strstr, kb_tupstr, kb_tuptup, kb_strtup, kb_inttup, kb_bltup, kb_nontup, kb_strbl, kb_strint, kb_intbl, kb_intint, kb_blbl, kb_blint, kb_nonbl, kb_nonint, kb_nonstr, kb_intstr, kb_blstr, kb_tupbl, kb_tupint,   List.set_cons_zero, List.set_cons_succ, List.set_nil, List.getElem?_cons_zero, List.getElem?_cons_succ, List.getElem?_nil, List.length_cons, List.length_nil, List.length_map, List.length_append, e_lcN, e_lcC, e_forN, e_forC, List.getLast?_concat, List.dropLast_concat, List.nil_append, List.cons_append, List.append_nil, List.append_assoc, List.reverse_cons, List.reverse_nil, List.isEmpty_nil, List.isEmpty_cons, isEmpty_snoc, List.any_cons, List.any_nil, List.all_cons, List.all_nil, flatD, eqF, in_non, in_tup, in_str, in_int, in_bl, in_obj, in_fl, startA, List.map_cons, List.map_nil, List.replicate_succ, List.replicate_zero,   Nat.reduceAdd, Nat.reduceSub, Nat.reduceLeDiff, Nat.zero_add, Int.reduceLE, Int.reduceLT, Int.reduceToNat, Int.reducePow, Int.reduceNeg, Int.reduceAdd, Int.reduceSub,   Option.isSome_some, Option.isSome_none, Bool.not_true, Bool.not_false, Bool.not_eq_true', Bool.not_eq_eq_eq_not, Bool.not_eq_true, Bool.false_eq_true, Bool.true_eq_false, Bool.and_true, Bool.true_and, Bool.or_false, Bool.false_or, Bool.or_true, Bool.true_or, Bool.and_false, Bool.false_and, if_true, if_false, ite_true, ite_false, reduceIte, reduceCtorEq, decide_true, decide_false, decide_eq_true_eq, decide_eq_false_iff_not, true_and, and_true, eq_self, ne_eq, not_false_eq_true, not_true_eq_false, and_self, *])
  | obj a => exact hp.elim
  | fl a => exact hp.elim
  | tup xs =>
    have hx := hp.1
    have hdd : D.deps xs + 1 < L + 1 := hd
    try (simp only [↓e_seq, ↓e_next, ↓e_break, ↓e_cont, ↓e_expr, ↓e_ret, ↓e_retN, ↓e_if, ↓e_never, ↓e_asg, ↓e_name, ↓e_agtup, ↓e_agcons, ↓e_agnil, ↓e_agsub, ↓e_aug, ↓e_dput, ↓e_var, ↓e_c, ↓e_op, ↓e_some, ↓e_none, ↓e_test, ↓e_and, ↓e_or, ↓e_not, ↓e_yes, ↓e_truth,   ↓e_tru_bl, ↓e_tru_int, ↓e_tru_non, ↓e_tru_str, ↓e_tru_tup, ↓e_tru_obj, ↓e_chain, ↓e_orV, ↓e_andV, ↓e_notV, ↓e_ifE, ↓e_neg, ↓e_nil, ↓e_cons, ↓e_tup, ↓e_lst, ↓e_dnew, ↓e_call, ↓e_cb, ↓e_isi, ↓e_sl, ↓e_onone, ↓e_osome, ↓e_rev, ↓e_lm, ↓e_append, ↓e_extend, ↓e_pop, ↓e_join, ↓e_dget2, ↓e_sortSet, ↓e_sortS, ↓e_setd, strsOf_map, ↓e_maxI, ↓e_disp, ↓e_pairN, ↓e_pairC, intsOf_map, ↓e_for, ↓e_ilist, ↓e_itup, ↓e_rng1, ↓e_rng2, ↓e_lc, ↓e_lc2, e_lc2N, ↓e_ienum, ↓e_izip, ↓e_anyB, ↓e_allB, ↓e_mulS, blsOf_map, ↓e_set0, ↓e_sadd, ↓e_sortTx, ↓e_sortD, ↓e_repr, ↓e_extT, ↓e_sc2, ↓e_sortZ, ↓e_tupVals, ↓e_wget, ↓e_wix, ↓e_listZip, zipD_nil, zipD_cons, ↓e_dgetF, ↓e_idif,   ↓e_add_int, ↓e_add_str, ↓e_add_tup, ↓e_add_obj, ↓e_iadd_int, ↓e_iadd_str, ↓e_iadd_obj, ↓e_I, ↓e_I0, ↓e_IS_int, ↓e_IS_str, ↓e_eq_str, ↓e_ne_str, ↓e_eq_int, ↓e_ne_int, ↓e_eq_bl, ↓e_ne_bl, ↓e_isN, ↓e_notN, ↓e_ix_tup, ↓e_ix_fl, ↓e_ix_str, ↓e_ix_obj, ↓e_in_tup, ↓e_nin_tup, ↓e_len_tup, ↓e_len_fl, ↓e_len_str, ↓e_len_obj, ↓e_int_int, ↓e_tuple_tup, ↓e_tuple_obj, ↓e_list_tup, ↓e_list_obj, ↓e_dget, ↓e_din, ↓e_dnin, ↓e_lstAt, ↓e_dicAt,   e_key_int, e_key_str, e_up, e_ty_str, e_ty_tup, e_ty_int, e_ty_bl, e_ty_non, atI0, atI1, atI2, atI3, atIL, ixN0, ixN1, cut_from1, e_ite_or, e_ite_and, zln, znl, zli, zil, zni, zin, sizeLine_eq, CMul, CDiv, cpow1018, true_or, or_true, kb_strstr, kb_tupstr, kb_tuptup, kb_strtup, kb_inttup, kb_bltup, kb_nontup, kb_strbl, kb_strint, kb_intbl, kb_intint, kb_blbl, kb_blint, kb_nonbl, kb_nonint, kb_nonstr, kb_intstr, kb_blstr, kb_tupbl, kb_tupint,   List.set_cons_zero, List.set_cons_succ, List.set_nil, List.getElem?_cons_zero, List.getElem?_cons_succ, List.getElem?_nil, List.length_cons, List.length_nil, List.length_map, List.length_append, e_lcN, e_lcC, e_forN, e_forC, List.getLast?_concat, List.dropLast_concat, List.nil_append, List.cons_append, List.append_nil, List.append_assoc, List.reverse_cons, List.reverse_nil, List.isEmpty_nil, List.isEmpty_cons, isEmpty_snoc, List.any_cons, List.any_nil, List.all_cons, List.all_nil, flatD, eqF, in_non, in_tup, in_str, in_int, in_bl, in_obj, in_fl, startA, List.map_cons, List.map_nil, List.replicate_succ, List.replicate_zero,   Nat.reduceAdd, Nat.reduceSub, Nat.reduceLeDiff, Nat.zero_add, Int.reduceLE, Int.reduceLT, Int.reduceToNat, Int.reducePow, Int.reduceNeg, Int.reduceAdd, Int.reduceSub,   Option.isSome_some, Option.isSome_none, Bool.not_true, Bool.not_false, Bool.not_eq_true', Bool.not_eq_eq_eq_not, Bool.not_eq_true, Bool.false_eq_true, Bool.true_eq_false, Bool.and_true, Bool.true_and, Bool.or_false, Bool.false_or, Bool.or_true, Bool.true_or, Bool.and_false, Bool.false_and, if_true, if_false, ite_true, ite_false, reduceIte, reduceCtorEq, decide_true, decide_false, decide_eq_true_eq, decide_eq_false_iff_not, true_and, and_true, eq_self, ne_eq, not_false_eq_true, not_true_eq_false, and_self, *])
    refine ⟨by omega, by omega, ?_⟩
    refine for_run (fun ds env M' => ∃ lo m x2, ds = rngD lo m ∧ env = [some (.tup xs), some (.tup xs), x2] ∧ 0 ≤ lo ∧ lo + m = xs.length ∧ M' = M) (fun _ _ _ _ => trivial) ?_ ?_ ⟨0, _, none, rfl, rfl, by omega, by omega, rfl⟩
    · rintro env M' ⟨lo, m, x2, _, rfl, _, _, rfl⟩
      try (simp only [↓e_seq, ↓e_next, ↓e_break, ↓e_cont, ↓e_expr, ↓e_ret, ↓e_retN, ↓e_if, ↓e_never, ↓e_asg, ↓e_name, ↓e_agtup, ↓e_agcons, ↓e_agnil, ↓e_agsub, ↓e_aug, ↓e_dput, ↓e_var, ↓e_c, ↓e_op, ↓e_some, ↓e_none, ↓e_test, ↓e_and, ↓e_or, ↓e_not, ↓e_yes, ↓e_truth,   ↓e_tru_bl, ↓e_tru_int, ↓e_tru_non, ↓e_tru_str, ↓e_tru_tup, ↓e_tru_obj, ↓e_chain, ↓e_orV, ↓e_andV, ↓e_notV, ↓e_ifE, ↓e_neg, ↓e_nil, ↓e_cons, ↓e_tup, ↓e_lst, ↓e_dnew, ↓e_call, ↓e_cb, ↓e_isi, ↓e_sl, ↓e_onone, ↓e_osome, ↓e_rev, ↓e_lm, ↓e_append, ↓e_extend, ↓e_pop, ↓e_join, ↓e_dget2, ↓e_sortSet, ↓e_sortS, ↓e_setd, strsOf_map, ↓e_maxI, ↓e_disp, ↓e_pairN, ↓e_pairC, intsOf_map, ↓e_for, ↓e_ilist, ↓e_itup, ↓e_rng1, ↓e_rng2, ↓e_lc, ↓e_lc2, e_lc2N, ↓e_ienum, ↓e_izip, ↓e_anyB, ↓e_allB, ↓e_mulS, blsOf_map, ↓e_set0, ↓e_sadd, ↓e_sortTx, ↓e_sortD, ↓e_repr, ↓e_extT, ↓e_sc2, ↓e_sortZ, ↓e_tupVals, ↓e_wget, ↓e_wix, ↓e_listZip, zipD_nil, zipD_cons, ↓e_dgetF, ↓e_idif,   ↓e_add_int, ↓e_add_str, ↓e_add_tup, ↓e_add_obj, ↓e_iadd_int, ↓e_iadd_str, ↓e_iadd_obj, ↓e_I, ↓e_I0, ↓e_IS_int, ↓e_IS_str, ↓e_eq_str, ↓e_ne_str, ↓e_eq_int, ↓e_ne_int, ↓e_eq_bl, ↓e_ne_bl, ↓e_isN, ↓e_notN, ↓e_ix_tup, ↓e_ix_fl, ↓e_ix_str, ↓e_ix_obj, ↓e_in_tup, ↓e_nin_tup, ↓e_len_tup, ↓e_len_fl, ↓e_len_str, ↓e_len_obj, ↓e_int_int, ↓e_tuple_tup, ↓e_tuple_obj, ↓e_list_tup, ↓e_list_obj, ↓e_dget, ↓e_din, ↓e_dnin, ↓e_lstAt, ↓e_dicAt,   e_key_int, e_key_str, e_up, e_ty_str, e_ty_tup, e_ty_int, e_ty_bl, e_ty_non, atI0, atI1, atI2, atI3, atIL, ixN0, ixN1, cut_from1, e_ite_or, e_ite_and, zln, znl, zli, zil, zni, zin, sizeLine_eq, CMul, CDiv, cpow1018, true_or, or_true, kb_strstr, kb_tupstr, kb_tuptup, kb_strtup, kb_inttup, kb_bltup, kb_nontup, kb_strbl, kb_strint, kb_intbl, kb_intint, kb_blbl, kb_blint, kb_nonbl, kb_nonint, kb_nonstr, kb_intstr, kb_blstr, kb_tupbl, kb_tupint,   List.set_cons_zero, List.set_cons_succ, List.set_nil, List.getElem?_cons_zero, List.getElem?_cons_succ, List.getElem?_nil, List.length_cons, List.length_nil, List.length_map, List.length_append, e_lcN, e_lcC, e_forN, e_forC, List.getLast?_concat, List.dropLast_concat, List.nil_append, List.cons_append, List.append_nil, List.append_assoc, List.reverse_cons, List.reverse_nil, List.isEmpty_nil, List.isEmpty_cons, isEmpty_snoc, List.any_cons, List.any_nil, List.all_cons, List.all_nil, flatD, eqF, in_non, in_tup, in_str, in_int, in_bl, in_obj, in_fl, startA, List.map_cons, List.map_nil, List.replicate_succ, List.replicate_zero,   Nat.reduceAdd, Nat.reduceSub, Nat.reduceLeDiff, Nat.zero_add, Int.reduceLE, Int.reduceLT, Int.reduceToNat, Int.reducePow, Int.reduceNeg, Int.reduceAdd, Int.reduceSub,   Option.isSome_some, Option.isSome_none, Bool.not_true, Bool.not_false, Bool.not_eq_true', Bool.not_eq_eq_eq_not, Bool.not_eq_true, Bool.false_eq_true, Bool.true_eq_false, Bool.and_true, Bool.true_and, Bool.or_false, Bool.false_or, Bool.or_true, Bool.true_or, Bool.and_false, Bool.false_and, if_true, if_false, ite_true, ite_false, reduceIte, reduceCtorEq, decide_true, decide_false, decide_eq_true_eq, decide_eq_false_iff_not, true_and, and_true, eq_self, ne_eq, not_false_eq_true, not_true_eq_false, and_self, *])
    · rintro d r N env M' ⟨lo, m, x2, hd2, rfl, hlo, hm, rfl⟩ next
      obtain ⟨m, rfl, rfl, rfl⟩ := rngD_cons hd2.symm
      obtain ⟨x, hat, hget⟩ := atI_any (xs := xs) hlo (by omega)
      try (simp only [↓e_seq, ↓e_next, ↓e_break, ↓e_cont, ↓e_expr, ↓e_ret, ↓e_retN, ↓e_if, ↓e_never, ↓e_asg, ↓e_name, ↓e_agtup, ↓e_agcons, ↓e_agnil, ↓e_agsub, ↓e_aug, ↓e_dput, ↓e_var, ↓e_c, ↓e_op, ↓e_some, ↓e_none, ↓e_test, ↓e_and, ↓e_or, ↓e_not, ↓e_yes, ↓e_truth,   ↓e_tru_bl, ↓e_tru_int, ↓e_tru_non, ↓e_tru_str, ↓e_tru_tup, ↓e_tru_obj, ↓e_chain, ↓e_orV, ↓e_andV, ↓e_notV, ↓e_ifE, ↓e_neg, ↓e_nil, ↓e_cons, ↓e_tup, ↓e_lst, ↓e_dnew, ↓e_call, ↓e_cb, ↓e_isi, ↓e_sl, ↓e_onone, ↓e_osome, ↓e_rev, ↓e_lm, ↓e_append, ↓e_extend, ↓e_pop, ↓e_join, ↓e_dget2, ↓e_sortSet, ↓e_sortS, ↓e_setd, strsOf_map, ↓e_maxI, ↓e_disp, ↓e_pairN, ↓e_pairC, intsOf_map, ↓e_for, ↓e_ilist, ↓e_itup, ↓e_rng1, ↓e_rng2, ↓e_lc, ↓e_lc2, e_lc2N, ↓e_ienum, ↓e_izip, ↓e_anyB, ↓e_allB, ↓e_mulS, blsOf_map, ↓e_set0, ↓e_sadd, ↓e_sortTx, ↓e_sortD, ↓e_repr, ↓e_extT, ↓e_sc2, ↓e_sortZ, ↓e_tupVals, ↓e_wget, ↓e_wix, ↓e_listZip, zipD_nil, zipD_cons, ↓e_dgetF, ↓e_idif,   ↓e_add_int, ↓e_add_str, ↓e_add_tup, ↓e_add_obj, ↓e_iadd_int, ↓e_iadd_str, ↓e_iadd_obj, ↓e_I, ↓e_I0, ↓e_IS_int, ↓e_IS_str, ↓e_eq_str, ↓e_ne_str, ↓e_eq_int, ↓e_ne_int, ↓e_eq_bl, ↓e_ne_bl, ↓e_isN, ↓e_notN, ↓e_ix_tup, ↓e_ix_fl, ↓e_ix_str, ↓e_ix_obj, ↓e_in_tup, ↓e_nin_tup, ↓e_len_tup, ↓e_len_fl, ↓e_len_str, ↓e_len_obj, ↓e_int_int, ↓e_tuple_tup, ↓e_tuple_obj, ↓e_list_tup, ↓e_list_obj, ↓e_dget, ↓e_din, ↓e_dnin, ↓e_lstAt, ↓e_dicAt,   e_key_int, e_key_str, e_up, e_ty_str, e_ty_tup, e_ty_int, e_ty_bl, e_ty_non, atI0, atI1, atI2, atI3, atIL, ixN0, ixN1, cut_from1, e_ite_or, e_ite_and, zln, znl, zli, zil, zni, zin, sizeLine_eq, CMul, CDiv, cpow1018, true_or, or_true, kb_strstr, kb_tupstr, kb_tuptup, kb_strtup, kb_inttup, kb_bltup, kb_nontup, kb_strbl, kb_strint, kb_intbl, kb_intint, kb_blbl, kb_blint, kb_nonbl, kb_nonint, kb_nonstr, kb_intstr, kb_blstr, kb_tupbl, kb_tupint,   List.set_cons_zero, List.set_cons_succ, List.set_nil, List.getElem?_cons_zero, List.getElem?_cons_succ, List.getElem?_nil, List.length_cons, List.length_nil, List.length_map, List.length_append, e_lcN, e_lcC, e_forN, e_forC, List.getLast?_concat, List.dropLast_concat, List.nil_append, List.cons_append, List.append_nil, List.append_assoc, List.reverse_cons, List.reverse_nil, List.isEmpty_nil, List.isEmpty_cons, isEmpty_snoc, List.any_cons, List.any_nil, List.all_cons, List.all_nil, flatD, eqF, in_non, in_tup, in_str, in_int, in_bl, in_obj, in_fl, startA, List.map_cons, List.map_nil, List.replicate_succ, List.replicate_zero,   Nat.reduceAdd, Nat.reduceSub, Nat.reduceLeDiff, Nat.zero_add, Int.reduceLE, Int.reduceLT, Int.reduceToNat, Int.reducePow, Int.reduceNeg, Int.reduceAdd, Int.reduceSub,   Option.isSome_some, Option.isSome_none, Bool.not_true, Bool.not_false, Bool.not_eq_true', Bool.not_eq_eq_eq_not, Bool.not_eq_true, Bool.false_eq_true, Bool.true_eq_false, Bool.and_true, Bool.true_and, Bool.or_false, Bool.false_or, Bool.or_true, Bool.true_or, Bool.and_false, Bool.false_and, if_true, if_false, ite_true, ite_false, reduceIte, reduceCtorEq, decide_true, decide_false, decide_eq_true_eq, decide_eq_false_iff_not, true_and, and_true, eq_self, ne_eq, not_false_eq_true, not_true_eq_false, and_self, *])
      refine ⟨rfl, _, rfl, plains_mem hget hp.2, Nat.lt_of_le_of_lt (deps_mem hget) (by omega), ?_⟩
      try (simp only [↓e_seq, ↓e_next, ↓e_break, ↓e_cont, ↓e_expr, ↓e_ret, ↓e_retN, ↓e_if, ↓e_never, ↓e_asg, ↓e_name, ↓e_agtup, ↓e_agcons, ↓e_agnil, ↓e_agsub, ↓e_aug, ↓e_dput, ↓e_var, ↓e_c, ↓e_op, ↓e_some, ↓e_none, ↓e_test, ↓e_and, ↓e_or, ↓e_not, ↓e_yes, ↓e_truth,   ↓e_tru_bl, ↓e_tru_int, ↓e_tru_non, ↓e_tru_str, ↓e_tru_tup, ↓e_tru_obj, ↓e_chain, ↓e_orV, ↓e_andV, ↓e_notV, ↓e_ifE, ↓e_neg, ↓e_nil, ↓e_cons, ↓e_tup, ↓e_lst, ↓e_dnew, ↓e_call, ↓e_cb, ↓e_isi, ↓e_sl, ↓e_onone, ↓e_osome, ↓e_rev, ↓e_lm, ↓e_append, ↓e_extend, ↓e_pop, ↓e_join, ↓e_dget2, ↓e_sortSet, ↓e_sortS, ↓e_setd, strsOf_map, ↓e_maxI, ↓e_disp, ↓e_pairN, ↓e_pairC, intsOf_map, ↓e_for, ↓e_ilist, ↓e_itup, ↓e_rng1, ↓e_rng2, ↓e_lc, ↓e_lc2, e_lc2N, ↓e_ienum, ↓e_izip, ↓e_anyB, ↓e_allB, ↓e_mulS, blsOf_map, ↓e_set0, ↓e_sadd, ↓e_sortTx, ↓e_sortD, ↓e_repr, ↓e_extT, ↓e_sc2, ↓e_sortZ, ↓e_tupVals, ↓e_wget, ↓e_wix, ↓e_listZip, zipD_nil, zipD_cons, ↓e_dgetF, ↓e_idif,   ↓e_add_int, ↓e_add_str, ↓e_add_tup, ↓e_add_obj, ↓e_iadd_int, ↓e_iadd_str, ↓e_iadd_obj, ↓e_I, ↓e_I0, ↓e_IS_int, ↓e_IS_str, ↓e_eq_str, ↓e_ne_str, ↓e_eq_int, ↓e_ne_int, ↓e_eq_bl, ↓e_ne_bl, ↓e_isN, ↓e_notN, ↓e_ix_tup, ↓e_ix_fl, ↓e_ix_str, ↓e_ix_obj, ↓e_in_tup, ↓e_nin_tup, ↓e_len_tup, ↓e_len_fl, ↓e_len_str, ↓e_len_obj, ↓e_int_int, ↓e_tuple_tup, ↓e_tuple_obj, ↓e_list_tup, ↓e_list_obj, ↓e_dget, ↓e_din, ↓e_dnin, ↓e_lstAt, ↓e_dicAt,   e_key_int, e_key_str, e_up, e_ty_str, e_ty_tup, e_ty_int, e_ty_bl, e_ty_non, atI0, atI1, atI2, atI3, atIL, ixN0, ixN1, cut_from1, e_ite_or, e_ite_and, zln, znl, zli, zil, zni, zin, sizeLine_eq, CMul, CDiv, cpow1018, true_or, or_true, kb_strstr, kb_tupstr, kb_tuptup, kb_strtup, kb_inttup, kb_bltup, kb_nontup, kb_strbl, kb_strint, kb_intbl, kb_intint, kb_blbl, kb_blint, kb_nonbl, kb_nonint, kb_nonstr, kb_intstr, kb_blstr, kb_tupbl, kb_tupint,   List.set_cons_zero, List.set_cons_succ, List.set_nil, List.getElem?_cons_zero, List.getElem?_cons_succ, List.getElem?_nil, List.length_cons, List.length_nil, List.length_map, List.length_append, e_lcN, e_lcC, e_forN, e_forC, List.getLast?_concat, List.dropLast_concat, List.nil_append, List.cons_append, List.append_nil, List.append_assoc, List.reverse_cons, List.reverse_nil, List.isEmpty_nil, List.isEmpty_cons, isEmpty_snoc, List.any_cons, List.any_nil, List.all_cons, List.all_nil, flatD, eqF, in_non, in_tup, in_str, in_int, in_bl, in_obj, in_fl, startA, List.map_cons, List.map_nil, List.replicate_succ, List.replicate_zero,   Nat.reduceAdd, Nat.reduceSub, Nat.reduceLeDiff, Nat.zero_add, Int.reduceLE, Int.reduceLT, Int.reduceToNat, Int.reducePow, Int.reduceNeg, Int.reduceAdd, Int.reduceSub,   Option.isSome_some, Option.isSome_none, Bool.not_true, Bool.not_false, Bool.not_eq_true', Bool.not_eq_eq_eq_not, Bool.not_eq_true, Bool.false_eq_true, Bool.true_eq_false, Bool.and_true, Bool.true_and, Bool.or_false, Bool.false_or, Bool.or_true, Bool.true_or, Bool.and_false, Bool.false_and, if_true, if_false, ite_true, ite_false, reduceIte, reduceCtorEq, decide_true, decide_false, decide_eq_true_eq, decide_eq_false_iff_not, true_and, and_true, eq_self, ne_eq, not_false_eq_true, not_true_eq_false, and_self, *])
      exact next _ _ ⟨lo + 1, m, _, rfl, rfl, by omega, by omega, rfl⟩

def Fm.py : Fm → PyData
  | .lt s => .tuple [.str z_letter, .str s]
  | .ng p => .tuple [.str z_not, p.py]
  | .im p q => .tuple [.str z_if, p.py, q.py]
def Fm.Small (f : Fm) : Prop := f.py.depth ≤ 64 ∧ f.py.canLay0 = true
theorem Fm.Small.shaped {f : Fm} (h : f.Small) : SeqAt.shaped f.py = true := by
  show (f.py.canLay0 && decide (f.py.depth ≤ 64)) = true
  rw [h.2, decide_eq_true h.1]
  rfl
abbrev S (l : List Nat) : Str := ⟨l.toArray⟩
theorem S_tl (x : Str) : S (TL.tl x) = x := TL.ext_tl (TL.tl_mk _)
theorem S_app (a b : List Nat) : S a ++ S b = S (a ++ b) := TL.ext_tl (by rw [TL.tl_append, TL.tl_mk, TL.tl_mk, TL.tl_mk])
theorem S_inj {a b : List Nat} (h : S a = S b) : a = b := by
  have z := congrArg TL.tl h
  rw [TL.tl_mk, TL.tl_mk] at z
  exact z
theorem S_len (l : List Nat) : (S l).length = l.length := by rw [TL.len_tl, TL.tl_mk]
def smallC (c : Nat) : Bool := decide (97 ≤ c) && decide (c ≤ 122)
def digitC (c : Nat) : Bool := decide (48 ≤ c) && decide (c ≤ 57)
def isIm : Fm → Bool
  | .im _ _ => true
  | _ => false
def txl : Fm → List Nat
  | .lt s => TL.tl s
  | .ng p => 126 :: (if isIm p then 40 :: (txl p ++ [41]) else txl p)
  | .im p q => (if isIm p then 40 :: (txl p ++ [41]) else txl p) ++ (32 :: 45 :: 62 :: 32 :: txl q)
def nameOk (s : Str) : Prop := (∃ c, TL.tl s = [c] ∧ smallC c = true) ∨ ∃ c e, TL.tl s = [c, e] ∧ smallC c = true ∧ digitC e = true
def toks : Fm → List (List Nat)
  | .lt s => [TL.tl s]
  | .ng p => [126] :: (if isIm p then [40] :: (toks p ++ [[41]]) else toks p)
  | .im p q => (if isIm p then [40] :: (toks p ++ [[41]]) else toks p) ++ ([45, 62] :: toks q)
theorem small_ne {c : Nat} (h : smallC c = true) : c ≠ 45 ∧ c ≠ 32 ∧ c ≠ 126 ∧ c ≠ 40 ∧ c ≠ 41 := by
  unfold smallC at h
  rw [Bool.and_eq_true, decide_eq_true_eq, decide_eq_true_eq] at h
  omega
inductive Wt where
  | til | par | arr (f : Fm)
def negd : List Wt → Fm → List Wt × Fm
  | .til :: ws, f => negd ws (.ng f)
  | .par :: ws, f => (.par :: ws, f)
  | .arr c :: ws, f => (.arr c :: ws, f)
  | [], f => ([], f)
def bcond : List Wt → Fm → List Wt × Fm
  | .arr c :: ws, f => bcond ws (.im c f)
  | .par :: ws, f => (.par :: ws, f)
  | .til :: ws, f => (.til :: ws, f)
  | [], f => ([], f)
def headC (w : List Nat) : Nat := w.headD 0
def stepW (ws : List Wt) (o : Option Fm) (w : List Nat) : Option (List Wt × Option Fm) := match o with
  | none => if w = [126] then some (.til :: ws, none) else if w = [40] then some (.par :: ws, none) else
      if smallC (headC w) = true then some ((negd ws (.lt (S w))).1, some (negd ws (.lt (S w))).2) else none
  | some f => if w = [45, 62] then some (.arr f :: ws, none) else if w = [41] then (match bcond ws f with
      | ([], _) => none
      | (_ :: ws2, g) => some ((negd ws2 g).1, some (negd ws2 g).2)) else none
def runW : List (List Nat) → List Wt → Option Fm → Option (List Wt × Option Fm)
  | [], ws, o => some (ws, o)
  | w :: r, ws, o => (stepW ws o w).bind fun z => runW r z.1 z.2
theorem runW_app (a b : List (List Nat)) : ∀ (ws : List Wt) (o : Option Fm), runW (a ++ b) ws o = (runW a ws o).bind fun z => runW b z.1 z.2 := by
  induction a with
  | nil => intro ws o; rfl
  | cons w r ih =>
    intro ws o
    show (stepW ws o w).bind _ = ((stepW ws o w).bind _).bind _
    cases stepW ws o w with
    | none => rfl
    | some z => exact ih z.1 z.2
def NoTil : List Wt → Prop
  | .til :: _ => False
  | _ => True
theorem negd_noTil {ws : List Wt} (h : NoTil ws) (f : Fm) : negd ws f = (ws, f) := by
  cases ws with
  | nil => rfl
  | cons w ws => cases w with
    | til => exact h.elim
    | par => rfl
    | arr c => rfl
theorem step_name {s : Str} (h : nameOk s) (ws : List Wt) : stepW ws none (TL.tl s) = some ((negd ws (.lt s)).1, some (negd ws (.lt s)).2) := by
  have hS := S_tl s
  have hh : smallC (headC (TL.tl s)) = true ∧ TL.tl s ≠ [126] ∧ TL.tl s ≠ [40] := by
    rcases h with ⟨c, e, hc⟩ | ⟨c, d, e, hc, hd⟩
    · rw [e]
      have n := small_ne hc
      exact ⟨hc, fun z => n.2.2.1 (by injection z), fun z => n.2.2.2.1 (by injection z)⟩
    · rw [e]
      exact ⟨hc, (fun z => by injection z with _ z; cases z), (fun z => by injection z with _ z; cases z)⟩
  show (if TL.tl s = [126] then _ else if TL.tl s = [40] then _ else if smallC (headC (TL.tl s)) = true then _ else _) = _
  rw [if_neg hh.2.1, if_neg hh.2.2, if_pos hh.1, hS]
mutual
/-- a formula that is no conditional, at any stack -/
theorem run_atom : ∀ (f : Fm), f.All nameOk → isIm f = false → ∀ ws, runW (toks f) ws none = some ((negd ws f).1, some (negd ws f).2)
  | .lt s, h, _, ws => by
    show (stepW ws none (TL.tl s)).bind _ = _
    rw [step_name h]
    rfl
  | .ng p, h, _, ws => by
    show (stepW ws none [126]).bind (fun z => runW (if isIm p then [40] :: (toks p ++ [[41]]) else toks p) z.1 z.2) = _
    show runW (if isIm p then [40] :: (toks p ++ [[41]]) else toks p) (.til :: ws) none = _
    cases hp : isIm p with
    | false =>
      rw [if_neg Bool.false_ne_true, run_atom p h hp]
      rfl
    | true =>
      rw [if_pos rfl]
      show runW (toks p ++ [[41]]) (.par :: .til :: ws) none = _
      obtain ⟨T, g, e, b⟩ := run_any p h (.par :: .til :: ws) trivial
      rw [runW_app, e]
      show (stepW (T ++ .par :: .til :: ws) (some g) [41]).bind _ = _
      have z : stepW (T ++ .par :: .til :: ws) (some g) [41] = some ((negd (.til :: ws) p).1, some (negd (.til :: ws) p).2) := by
        show (match bcond (T ++ .par :: .til :: ws) g with | ([], _) => none | (_ :: ws2, g) => some ((negd ws2 g).1, some (negd ws2 g).2)) = _
        rw [b]
        rfl
      rw [z]
      rfl
  | .im _ _, _, h, _ => by cases h
/-- any formula, at a stack without a negation on top: conditions stay behind it -/
theorem run_any : ∀ (f : Fm), f.All nameOk → ∀ ws, NoTil ws → ∃ T g, runW (toks f) ws none = some (T ++ ws, some g) ∧ bcond (T ++ ws) g = bcond ws f
  | .lt s, h, ws, n => ⟨[], .lt s, by rw [run_atom (.lt s) h rfl, negd_noTil n]; rfl, rfl⟩
  | .ng p, h, ws, n => ⟨[], .ng p, by rw [run_atom (.ng p) h rfl, negd_noTil n]; rfl, rfl⟩
  | .im p q, h, ws, n => by
    have hq := fun ws' n' => run_any q h.2 ws' n'
    have first : runW (if isIm p then [40] :: (toks p ++ [[41]]) else toks p) ws none = some (ws, some p) := by
      cases hp : isIm p with
      | false =>
        rw [if_neg Bool.false_ne_true, run_atom p h.1 hp, negd_noTil n]
      | true =>
        rw [if_pos rfl]
        show runW (toks p ++ [[41]]) (.par :: ws) none = _
        obtain ⟨T, g, e, b⟩ := run_any p h.1 (.par :: ws) trivial
        rw [runW_app, e]
        have z : stepW (T ++ .par :: ws) (some g) [41] = some ((negd ws p).1, some (negd ws p).2) := by
          show (match bcond (T ++ .par :: ws) g with | ([], _) => none | (_ :: ws2, g) => some ((negd ws2 g).1, some (negd ws2 g).2)) = _
          rw [b]
          rfl
        show (stepW (T ++ .par :: ws) (some g) [41]).bind _ = _
        rw [z, negd_noTil n]
        rfl
    obtain ⟨T, g, e, b⟩ := hq (.arr p :: ws) trivial
    refine ⟨T ++ [.arr p], g, ?_, ?_⟩
    · show runW ((if isIm p then [40] :: (toks p ++ [[41]]) else toks p) ++ ([45, 62] :: toks q)) ws none = _
      rw [runW_app, first]
      show runW (toks q) (.arr p :: ws) none = _
      rw [e, List.append_assoc]
      rfl
    · rw [List.append_assoc]
      show bcond (T ++ (.arr p :: ws)) g = _
      rw [b]
      rfl
end
def z__20_ : Str := " "
def z__2d_ : Str := "-"
def z_0 : Str := "0"
def z_9 : Str := "9"
/- slots of write: 0 formula, 1 written, 2 waiting, 3 part -/
/- slots of pieces: 0 formula -/
/- slots of grouped: 0 formula -/
/- slots of read: 0 text, 1 waiting, 2 formula, 3 place, 4 word -/
/- slots of words: 0 text, 1 found, 2 place, 3 word -/
/- slots of word_at: 0 text, 1 place, 2 pair -/
/- slots of is_small: 0 sign -/
def a_is_small  : ATS :=
    (aRet (aChain ρLe ρLe (aC (.str z_a)) (aVar 0) (aC (.str z_z))))
/- slots of is_digit: 0 sign -/
def a_is_digit  : ATS :=
    (aRet (aChain ρLe ρLe (aC (.str z_0)) (aVar 0) (aC (.str z_9))))
/- slots of begun: 0 waiting, 1 place, 2 word -/
/- slots of gone_on: 0 waiting, 1 formula, 2 place, 3 word, 4 group -/
/- slots of negated: 0 waiting, 1 formula -/
/- slots of behind_conditions: 0 waiting, 1 formula, 2 _, 3 condition -/
theorem zS_dash : z__2d_ = S [45] := by decide +kernel
theorem zS_blank : z__20_ = S [32] := by decide +kernel
theorem S_eq {a b : List Nat} : (S a = S b) = (a = b) := propext ⟨S_inj, fun e => by rw [e]⟩
inductive Pc where
  | s (l : List Nat) | f (p : Fm)
def Pc.d : Pc → D
  | .s l => .str (S l)
  | .f p => p.d
def Pc.tl : Pc → List Nat
  | .s l => l
  | .f p => txl p
theorem Fm.ty (M : Sto) (f : Fm) : tyN M f.d = "tuple" := by cases f <;> rfl
theorem lt1 (c d : Nat) : (([c] : List Nat) < [d]) = (c < d) := by
  refine propext ⟨fun h => ?_, fun h => List.Lex.rel h⟩
  rcases List.cons_lt_cons_iff.mp h with h | ⟨_, h⟩
  · exact h
  · exact absurd h (by simp)
theorem lt0 (d : Nat) : (([] : List Nat) < [d]) = True := eq_true List.Lex.nil
def A_is_small : ASp := fun ds M Q _ => ∃ c, ds = [.str (S [c])] ∧ Q (.bl (smallC c)) M
theorem zS_a : z_a = S [97] := by decide +kernel
theorem zS_z : z_z = S [122] := by decide +kernel
theorem zS_0 : z_0 = S [48] := by decide +kernel
theorem zS_9 : z_9 = S [57] := by decide +kernel
theorem p_is_small (ds : List D) (M : Sto) (Q : D → Sto → Prop) (Xa) (hl : ds.length = 1) (h : A_is_small ds M Q Xa) : a_is_small ax0 (Done Q) (startA ["sign"] ds) M := by
  obtain ⟨c, rfl, q⟩ := h
  unfold a_is_small
  have z1 := zS_a
  have z2 := zS_z
  have l1 := lt1
  have e : smallC c = (!decide (c < 97) && !decide (122 < c)) := by
    unfold smallC
    rw [← decide_not, ← decide_not]
    congr 1
    · exact decide_eq_decide.mpr (by omega)
    · exact decide_eq_decide.mpr (by omega)
  rw [e] at q
  clear e
  by_cases h1 : c < 97
  · rw [decide_eq_true h1] at q
    try (simp only [↓e_seq, ↓e_next, ↓e_break, ↓e_cont, ↓e_expr, ↓e_ret, ↓e_retN, ↓e_if, ↓e_never, ↓e_asg, ↓e_name, ↓e_agtup, ↓e_agcons, ↓e_agnil, ↓e_agsub, ↓e_aug, ↓e_dput, ↓e_var, ↓e_c, ↓e_op, ↓e_some, ↓e_none, ↓e_test, ↓e_and, ↓e_or, ↓e_not, ↓e_yes, ↓e_truth,   ↓e_tru_bl, ↓e_tru_int, ↓e_tru_non, ↓e_tru_str, ↓e_tru_tup, ↓e_tru_obj, ↓e_chain, ↓e_orV, ↓e_andV, ↓e_notV, ↓e_ifE, ↓e_neg, ↓e_nil, ↓e_cons, ↓e_tup, ↓e_lst, ↓e_dnew, ↓e_call, ↓e_cb, ↓e_isi, ↓e_sl, ↓e_onone, ↓e_osome, ↓e_rev, ↓e_lm, ↓e_append, ↓e_extend, ↓e_pop, ↓e_join, ↓e_dget2, ↓e_sortSet, ↓e_sortS, ↓e_setd, strsOf_map, ↓e_maxI, ↓e_disp, ↓e_pairN, ↓e_pairC, intsOf_map, ↓e_for, ↓e_ilist, ↓e_itup, ↓e_rng1, ↓e_rng2, ↓e_lc, ↓e_lc2, e_lc2N, ↓e_ienum, ↓e_izip, ↓e_anyB, ↓e_allB, ↓e_mulS, blsOf_map, ↓e_set0, ↓e_sadd, ↓e_sortTx, ↓e_sortD, ↓e_repr, ↓e_extT, ↓e_sc2, ↓e_sortZ, ↓e_tupVals, ↓e_wget, ↓e_wix, ↓e_listZip, zipD_nil, zipD_cons, ↓e_dgetF, ↓e_idif,   ↓e_add_int, ↓e_add_str, ↓e_add_tup, ↓e_add_obj, ↓e_iadd_int, ↓e_iadd_str, ↓e_iadd_obj, ↓e_I, ↓e_I0, ↓e_IS_int, ↓e_IS_str, ↓e_eq_str, ↓e_ne_str, ↓e_eq_int, ↓e_ne_int, ↓e_eq_bl, ↓e_ne_bl, ↓e_isN, ↓e_notN, ↓e_ix_tup, ↓e_ix_fl, ↓e_ix_str, ↓e_ix_obj, ↓e_in_tup, ↓e_nin_tup, ↓e_len_tup, ↓e_len_fl, ↓e_len_str, ↓e_len_obj, ↓e_int_int, ↓e_tuple_tup, ↓e_tuple_obj, ↓e_list_tup, ↓e_list_obj, ↓e_dget, ↓e_din, ↓e_dnin, ↓e_lstAt, ↓e_dicAt,   e_key_int, e_key_str, e_up, e_ty_str, e_ty_tup, e_ty_int, e_ty_bl, e_ty_non, atI0, atI1, atI2, atI3, atIL, ixN0, ixN1, cut_from1, e_ite_or, e_ite_and, zln, znl, zli, zil, zni, zin, sizeLine_eq, CMul, CDiv, cpow1018, true_or, or_true, kb_strstr, kb_tupstr, kb_tuptup, kb_strtup, kb_inttup, kb_bltup, kb_nontup, kb_strbl, kb_strint, kb_intbl, kb_intint, kb_blbl, kb_blint, kb_nonbl, kb_nonint, kb_nonstr, kb_intstr, kb_blstr, kb_tupbl, kb_tupint,   List.set_cons_zero, List.set_cons_succ, List.set_nil, List.getElem?_cons_zero, List.getElem?_cons_succ, List.getElem?_nil, List.length_cons, List.length_nil, List.length_map, List.length_append, e_lcN, e_lcC, e_forN, e_forC, List.getLast?_concat, List.dropLast_concat, List.nil_append, List.cons_append, List.append_nil, List.append_assoc, List.reverse_cons, List.reverse_nil, List.isEmpty_nil, List.isEmpty_cons, isEmpty_snoc, List.any_cons, List.any_nil, List.all_cons, List.all_nil, flatD, eqF, in_non, in_tup, in_str, in_int, in_bl, in_obj, in_fl, startA, List.map_cons, List.map_nil, List.replicate_succ, List.replicate_zero,   Nat.reduceAdd, Nat.reduceSub, Nat.reduceLeDiff, Nat.zero_add, Int.reduceLE, Int.reduceLT, Int.reduceToNat, Int.reducePow, Int.reduceNeg, Int.reduceAdd, Int.reduceSub,   Option.isSome_some, Option.isSome_none, Bool.not_true, Bool.not_false, Bool.not_eq_true', Bool.not_eq_eq_eq_not, Bool.not_eq_true, Bool.false_eq_true, Bool.true_eq_false, Bool.and_true, Bool.true_and, Bool.or_false, Bool.false_or, Bool.or_true, Bool.true_or, Bool.and_false, Bool.false_and, if_true, if_false, ite_true, ite_false, reduceIte, reduceCtorEq, decide_true, decide_false, decide_eq_true_eq, decide_eq_false_iff_not, true_and, and_true, eq_self, ne_eq, not_false_eq_true, not_true_eq_false, and_self, *])
    exact q
  · rw [decide_eq_false h1] at q
    try (simp only [↓e_seq, ↓e_next, ↓e_break, ↓e_cont, ↓e_expr, ↓e_ret, ↓e_retN, ↓e_if, ↓e_never, ↓e_asg, ↓e_name, ↓e_agtup, ↓e_agcons, ↓e_agnil, ↓e_agsub, ↓e_aug, ↓e_dput, ↓e_var, ↓e_c, ↓e_op, ↓e_some, ↓e_none, ↓e_test, ↓e_and, ↓e_or, ↓e_not, ↓e_yes, ↓e_truth,   ↓e_tru_bl, ↓e_tru_int, ↓e_tru_non, ↓e_tru_str, ↓e_tru_tup, ↓e_tru_obj, ↓e_chain, ↓e_orV, ↓e_andV, ↓e_notV, ↓e_ifE, ↓e_neg, ↓e_nil, ↓e_cons, ↓e_tup, ↓e_lst, ↓e_dnew, ↓e_call, ↓e_cb, ↓e_isi, ↓e_sl, ↓e_onone, ↓e_osome, ↓e_rev, ↓e_lm, ↓e_append, ↓e_extend, ↓e_pop, ↓e_join, ↓e_dget2, ↓e_sortSet, ↓e_sortS, ↓e_setd, strsOf_map, ↓e_maxI, ↓e_disp, ↓e_pairN, ↓e_pairC, intsOf_map, ↓e_for, ↓e_ilist, ↓e_itup, ↓e_rng1, ↓e_rng2, ↓e_lc, ↓e_lc2, e_lc2N, ↓e_ienum, ↓e_izip, ↓e_anyB, ↓e_allB, ↓e_mulS, blsOf_map, ↓e_set0, ↓e_sadd, ↓e_sortTx, ↓e_sortD, ↓e_repr, ↓e_extT, ↓e_sc2, ↓e_sortZ, ↓e_tupVals, ↓e_wget, ↓e_wix, ↓e_listZip, zipD_nil, zipD_cons, ↓e_dgetF, ↓e_idif,   ↓e_add_int, ↓e_add_str, ↓e_add_tup, ↓e_add_obj, ↓e_iadd_int, ↓e_iadd_str, ↓e_iadd_obj, ↓e_I, ↓e_I0, ↓e_IS_int, ↓e_IS_str, ↓e_eq_str, ↓e_ne_str, ↓e_eq_int, ↓e_ne_int, ↓e_eq_bl, ↓e_ne_bl, ↓e_isN, ↓e_notN, ↓e_ix_tup, ↓e_ix_fl, ↓e_ix_str, ↓e_ix_obj, ↓e_in_tup, ↓e_nin_tup, ↓e_len_tup, ↓e_len_fl, ↓e_len_str, ↓e_len_obj, ↓e_int_int, ↓e_tuple_tup, ↓e_tuple_obj, ↓e_list_tup, ↓e_list_obj, ↓e_dget, ↓e_din, ↓e_dnin, ↓e_lstAt, ↓e_dicAt,   e_key_int, e_key_str, e_up, e_ty_str, e_ty_tup, e_ty_int, e_ty_bl, e_ty_non, atI0, atI1, atI2, atI3, atIL, ixN0, ixN1, cut_from1, e_ite_or, e_ite_and, zln, znl, zli, zil, zni, zin, sizeLine_eq, CMul, CDiv, cpow1018, true_or, or_true, kb_strstr, kb_tupstr, kb_tuptup, kb_strtup, kb_inttup, kb_bltup, kb_nontup, kb_strbl, kb_strint, kb_intbl, kb_intint, kb_blbl, kb_blint, kb_nonbl, kb_nonint, kb_nonstr, kb_intstr, kb_blstr, kb_tupbl, kb_tupint,   List.set_cons_zero, List.set_cons_succ, List.set_nil, List.getElem?_cons_zero, List.getElem?_cons_succ, List.getElem?_nil, List.length_cons, List.length_nil, List.length_map, List.length_append, e_lcN, e_lcC, e_forN, e_forC, List.getLast?_concat, List.dropLast_concat, List.nil_append, List.cons_append, List.append_nil, List.append_assoc, List.reverse_cons, List.reverse_nil, List.isEmpty_nil, List.isEmpty_cons, isEmpty_snoc, List.any_cons, List.any_nil, List.all_cons, List.all_nil, flatD, eqF, in_non, in_tup, in_str, in_int, in_bl, in_obj, in_fl, startA, List.map_cons, List.map_nil, List.replicate_succ, List.replicate_zero,   Nat.reduceAdd, Nat.reduceSub, Nat.reduceLeDiff, Nat.zero_add, Int.reduceLE, Int.reduceLT, Int.reduceToNat, Int.reducePow, Int.reduceNeg, Int.reduceAdd, Int.reduceSub,   Option.isSome_some, Option.isSome_none, Bool.not_true, Bool.not_false, Bool.not_eq_true', Bool.not_eq_eq_eq_not, Bool.not_eq_true, Bool.false_eq_true, Bool.true_eq_false, Bool.and_true, Bool.true_and, Bool.or_false, Bool.false_or, Bool.or_true, Bool.true_or, Bool.and_false, Bool.false_and, if_true, if_false, ite_true, ite_false, reduceIte, reduceCtorEq, decide_true, decide_false, decide_eq_true_eq, decide_eq_false_iff_not, true_and, and_true, eq_self, ne_eq, not_false_eq_true, not_true_eq_false, and_self, *])
    exact q
def A_is_digit : ASp := fun ds M Q _ => (ds = [.str (S [])] ∧ Q (.bl false) M) ∨ ∃ c, ds = [.str (S [c])] ∧ Q (.bl (digitC c)) M
theorem p_is_digit (ds : List D) (M : Sto) (Q : D → Sto → Prop) (Xa) (hl : ds.length = 1) (h : A_is_digit ds M Q Xa) : a_is_digit ax0 (Done Q) (startA ["sign"] ds) M := by
  unfold a_is_digit
  have z1 := zS_0
  have z2 := zS_9
  rcases h with ⟨rfl, q⟩ | ⟨c, rfl, q⟩
  · have l0 := lt0
    try (simp only [↓e_seq, ↓e_next, ↓e_break, ↓e_cont, ↓e_expr, ↓e_ret, ↓e_retN, ↓e_if, ↓e_never, ↓e_asg, ↓e_name, ↓e_agtup, ↓e_agcons, ↓e_agnil, ↓e_agsub, ↓e_aug, ↓e_dput, ↓e_var, ↓e_c, ↓e_op, ↓e_some, ↓e_none, ↓e_test, ↓e_and, ↓e_or, ↓e_not, ↓e_yes, ↓e_truth,   ↓e_tru_bl, ↓e_tru_int, ↓e_tru_non, ↓e_tru_str, ↓e_tru_tup, ↓e_tru_obj, ↓e_chain, ↓e_orV, ↓e_andV, ↓e_notV, ↓e_ifE, ↓e_neg, ↓e_nil, ↓e_cons, ↓e_tup, ↓e_lst, ↓e_dnew, ↓e_call, ↓e_cb, ↓e_isi, ↓e_sl, ↓e_onone, ↓e_osome, ↓e_rev, ↓e_lm, ↓e_append, ↓e_extend, ↓e_pop, ↓e_join, ↓e_dget2, ↓e_sortSet, ↓e_sortS, ↓e_setd, strsOf_map, ↓e_maxI, ↓e_disp, ↓e_pairN, ↓e_pairC, intsOf_map, ↓e_for, ↓e_ilist, ↓e_itup, ↓e_rng1, ↓e_rng2, ↓e_lc, ↓e_lc2, e_lc2N, ↓e_ienum, ↓e_izip, ↓e_anyB, ↓e_allB, ↓e_mulS, blsOf_map, ↓e_set0, ↓e_sadd, ↓e_sortTx, ↓e_sortD, ↓e_repr, ↓e_extT, ↓e_sc2, ↓e_sortZ, ↓e_tupVals, ↓e_wget, ↓e_wix, ↓e_listZip, zipD_nil, zipD_cons, ↓e_dgetF, ↓e_idif,   ↓e_add_int, ↓e_add_str, ↓e_add_tup, ↓e_add_obj, ↓e_iadd_int, ↓e_iadd_str, ↓e_iadd_obj, ↓e_I, ↓e_I0, ↓e_IS_int, ↓e_IS_str, ↓e_eq_str, ↓e_ne_str, ↓e_eq_int, ↓e_ne_int, ↓e_eq_bl, ↓e_ne_bl, ↓e_isN, ↓e_notN, ↓e_ix_tup, ↓e_ix_fl, ↓e_ix_str, ↓e_ix_obj, ↓e_in_tup, ↓e_nin_tup, ↓e_len_tup, ↓e_len_fl, ↓e_len_str, ↓e_len_obj, ↓e_int_int, ↓e_tuple_tup, ↓e_tuple_obj, ↓e_list_tup, ↓e_list_obj, ↓e_dget, ↓e_din, ↓e_dnin, ↓e_lstAt, ↓e_dicAt,   e_key_int, e_key_str, e_up, e_ty_str, e_ty_tup, e_ty_int, e_ty_bl, e_ty_non, atI0, atI1, atI2, atI3, atIL, ixN0, ixN1, cut_from1, e_ite_or, e_ite_and, zln, znl, zli, zil, zni, zin, sizeLine_eq, CMul, CDiv, cpow1018, true_or, or_true, kb_strstr, kb_tupstr, kb_tuptup, kb_strtup, kb_inttup, kb_bltup, kb_nontup, kb_strbl, kb_strint, kb_intbl, kb_intint, kb_blbl, kb_blint, kb_nonbl, kb_nonint, kb_nonstr, kb_intstr, kb_blstr, kb_tupbl, kb_tupint,   List.set_cons_zero, List.set_cons_succ, List.set_nil, List.getElem?_cons_zero, List.getElem?_cons_succ, List.getElem?_nil, List.length_cons, List.length_nil, List.length_map, List.length_append, e_lcN, e_lcC, e_forN, e_forC, List.getLast?_concat, List.dropLast_concat, List.nil_append, List.cons_append, List.append_nil, List.append_assoc, List.reverse_cons, List.reverse_nil, List.isEmpty_nil, List.isEmpty_cons, isEmpty_snoc, List.any_cons, List.any_nil, List.all_cons, List.all_nil, flatD, eqF, in_non, in_tup, in_str, in_int, in_bl, in_obj, in_fl, startA, List.map_cons, List.map_nil, List.replicate_succ, List.replicate_zero,   Nat.reduceAdd, Nat.reduceSub, Nat.reduceLeDiff, Nat.zero_add, Int.reduceLE, Int.reduceLT, Int.reduceToNat, Int.reducePow, Int.reduceNeg, Int.reduceAdd, Int.reduceSub,   Option.isSome_some, Option.isSome_none, Bool.not_true, Bool.not_false, Bool.not_eq_true', Bool.not_eq_eq_eq_not, Bool.not_eq_true, Bool.false_eq_true, Bool.true_eq_false, Bool.and_true, Bool.true_and, Bool.or_false, Bool.false_or, Bool.or_true, Bool.true_or, Bool.and_false, Bool.false_and, if_true, if_false, ite_true, ite_false, reduceIte, reduceCtorEq, decide_true, decide_false, decide_eq_true_eq, decide_eq_false_iff_not, true_and, and_true, eq_self, ne_eq, not_false_eq_true, not_true_eq_false, and_self, *])
  · have l1 := lt1
    have e : digitC c = (!decide (c < 48) && !decide (57 < c)) := by
      unfold digitC
      rw [← decide_not, ← decide_not]
      congr 1
      · exact decide_eq_decide.mpr (by omega)
      · exact decide_eq_decide.mpr (by omega)
    rw [e] at q
    clear e
    by_cases h1 : c < 48
    · rw [decide_eq_true h1] at q
      try (simp only [↓e_seq, ↓e_next, ↓e_break, ↓e_cont, ↓e_expr, ↓e_ret, ↓e_retN, ↓e_if, ↓e_never, ↓e_asg, ↓e_name, ↓e_agtup, ↓e_agcons, ↓e_agnil, ↓e_agsub, ↓e_aug, ↓e_dput, ↓e_var, ↓e_c, ↓e_op, ↓e_some, ↓e_none, ↓e_test, ↓e_and, ↓e_or, ↓e_not, ↓e_yes, ↓e_truth,   ↓e_tru_bl, ↓e_tru_int, ↓e_tru_non, ↓e_tru_str, ↓e_tru_tup, ↓e_tru_obj, ↓e_chain, ↓e_orV, ↓e_andV, ↓e_notV, ↓e_ifE, ↓e_neg, ↓e_nil, ↓e_cons, ↓e_tup, ↓e_lst, ↓e_dnew, ↓e_call, ↓e_cb, ↓e_isi, ↓e_sl, ↓e_onone, ↓e_osome, ↓e_rev, ↓e_lm, ↓e_append, ↓e_extend, ↓e_pop, ↓e_join, ↓e_dget2, ↓e_sortSet, ↓e_sortS, ↓e_setd, strsOf_map, ↓e_maxI, ↓e_disp, ↓e_pairN, ↓e_pairC, intsOf_map, ↓e_for, ↓e_ilist, ↓e_itup, ↓e_rng1, ↓e_rng2, ↓e_lc, ↓e_lc2, e_lc2N, ↓e_ienum, ↓e_izip, ↓e_anyB, ↓e_allB, ↓e_mulS, blsOf_map, ↓e_set0, ↓e_sadd, ↓e_sortTx, ↓e_sortD, ↓e_repr, ↓e_extT, ↓e_sc2, ↓e_sortZ, ↓e_tupVals, ↓e_wget, ↓e_wix, ↓e_listZip, zipD_nil, zipD_cons, ↓e_dgetF, ↓e_idif,   ↓e_add_int, ↓e_add_str, ↓e_add_tup, ↓e_add_obj, ↓e_iadd_int, ↓e_iadd_str, ↓e_iadd_obj, ↓e_I, ↓e_I0, ↓e_IS_int, ↓e_IS_str, ↓e_eq_str, ↓e_ne_str, ↓e_eq_int, ↓e_ne_int, ↓e_eq_bl, ↓e_ne_bl, ↓e_isN, ↓e_notN, ↓e_ix_tup, ↓e_ix_fl, ↓e_ix_str, ↓e_ix_obj, ↓e_in_tup, ↓e_nin_tup, ↓e_len_tup, ↓e_len_fl, ↓e_len_str, ↓e_len_obj, ↓e_int_int, ↓e_tuple_tup, ↓e_tuple_obj, ↓e_list_tup, ↓e_list_obj, ↓e_dget, ↓e_din, ↓e_dnin, ↓e_lstAt, ↓e_dicAt,   e_key_int, e_key_str, e_up, e_ty_str, e_ty_tup, e_ty_int, e_ty_bl, e_ty_non, atI0, atI1, atI2, atI3, atIL, ixN0, ixN1, cut_from1, e_ite_or, e_ite_and, zln, znl, zli, zil, zni, zin, sizeLine_eq, CMul, CDiv, cpow1018, true_or, or_true, kb_strstr, kb_tupstr, kb_tuptup, kb_strtup, kb_inttup, kb_bltup, kb_nontup, kb_strbl, kb_strint, kb_intbl, kb_intint, kb_blbl, kb_blint, kb_nonbl, kb_nonint, kb_nonstr, kb_intstr, kb_blstr, kb_tupbl, kb_tupint,   List.set_cons_zero, List.set_cons_succ, List.set_nil, List.getElem?_cons_zero, List.getElem?_cons_succ, List.getElem?_nil, List.length_cons, List.length_nil, List.length_map, List.length_append, e_lcN, e_lcC, e_forN, e_forC, List.getLast?_concat, List.dropLast_concat, List.nil_append, List.cons_append, List.append_nil, List.append_assoc, List.reverse_cons, List.reverse_nil, List.isEmpty_nil, List.isEmpty_cons, isEmpty_snoc, List.any_cons, List.any_nil, List.all_cons, List.all_nil, flatD, eqF, in_non, in_tup, in_str, in_int, in_bl, in_obj, in_fl, startA, List.map_cons, List.map_nil, List.replicate_succ, List.replicate_zero,   Nat.reduceAdd, Nat.reduceSub, Nat.reduceLeDiff, Nat.zero_add, Int.reduceLE, Int.reduceLT, Int.reduceToNat, Int.reducePow, Int.reduceNeg, Int.reduceAdd, Int.reduceSub,   Option.isSome_some, Option.isSome_none, Bool.not_true, Bool.not_false, Bool.not_eq_true', Bool.not_eq_eq_eq_not, Bool.not_eq_true, Bool.false_eq_true, Bool.true_eq_false, Bool.and_true, Bool.true_and, Bool.or_false, Bool.false_or, Bool.or_true, Bool.true_or, Bool.and_false, Bool.false_and, if_true, if_false, ite_true, ite_false, reduceIte, reduceCtorEq, decide_true, decide_false, decide_eq_true_eq, decide_eq_false_iff_not, true_and, and_true, eq_self, ne_eq, not_false_eq_true, not_true_eq_false, and_self, *])
      exact q
    · rw [decide_eq_false h1] at q
      try (simp only [↓e_seq, ↓e_next, ↓e_break, ↓e_cont, ↓e_expr, ↓e_ret, ↓e_retN, ↓e_if, ↓e_never, ↓e_asg, ↓e_name, ↓e_agtup, ↓e_agcons, ↓e_agnil, ↓e_agsub, ↓e_aug, ↓e_dput, ↓e_var, ↓e_c, ↓e_op, ↓e_some, ↓e_none, ↓e_test, ↓e_and, ↓e_or, ↓e_not, ↓e_yes, ↓e_truth,   ↓e_tru_bl, ↓e_tru_int, ↓e_tru_non, ↓e_tru_str, ↓e_tru_tup, ↓e_tru_obj, ↓e_chain, ↓e_orV, ↓e_andV, ↓e_notV, ↓e_ifE, ↓e_neg, ↓e_nil, ↓e_cons, ↓e_tup, ↓e_lst, ↓e_dnew, ↓e_call, ↓e_cb, ↓e_isi, ↓e_sl, ↓e_onone, ↓e_osome, ↓e_rev, ↓e_lm, ↓e_append, ↓e_extend, ↓e_pop, ↓e_join, ↓e_dget2, ↓e_sortSet, ↓e_sortS, ↓e_setd, strsOf_map, ↓e_maxI, ↓e_disp, ↓e_pairN, ↓e_pairC, intsOf_map, ↓e_for, ↓e_ilist, ↓e_itup, ↓e_rng1, ↓e_rng2, ↓e_lc, ↓e_lc2, e_lc2N, ↓e_ienum, ↓e_izip, ↓e_anyB, ↓e_allB, ↓e_mulS, blsOf_map, ↓e_set0, ↓e_sadd, ↓e_sortTx, ↓e_sortD, ↓e_repr, ↓e_extT, ↓e_sc2, ↓e_sortZ, ↓e_tupVals, ↓e_wget, ↓e_wix, ↓e_listZip, zipD_nil, zipD_cons, ↓e_dgetF, ↓e_idif,   ↓e_add_int, ↓e_add_str, ↓e_add_tup, ↓e_add_obj, ↓e_iadd_int, ↓e_iadd_str, ↓e_iadd_obj, ↓e_I, ↓e_I0, ↓e_IS_int, ↓e_IS_str, ↓e_eq_str, ↓e_ne_str, ↓e_eq_int, ↓e_ne_int, ↓e_eq_bl, ↓e_ne_bl, ↓e_isN, ↓e_notN, ↓e_ix_tup, ↓e_ix_fl, ↓e_ix_str, ↓e_ix_obj, ↓e_in_tup, ↓e_nin_tup, ↓e_len_tup, ↓e_len_fl, ↓e_len_str, ↓e_len_obj, ↓e_int_int, ↓e_tuple_tup, ↓e_tuple_obj, ↓e_list_tup, ↓e_list_obj, ↓e_dget, ↓e_din, ↓e_dnin, ↓e_lstAt, ↓e_dicAt,   e_key_int, e_key_str, e_up, e_ty_str, e_ty_tup, e_ty_int, e_ty_bl, e_ty_non, atI0, atI1, atI2, atI3, atIL, ixN0, ixN1, cut_from1, e_ite_or, e_ite_and, zln, znl, zli, zil, zni, zin, sizeLine_eq, CMul, CDiv, cpow1018, true_or, or_true, kb_strstr, kb_tupstr, kb_tuptup, kb_strtup, kb_inttup, kb_bltup, kb_nontup, kb_strbl, kb_strint, kb_intbl, kb_intint, kb_blbl, kb_blint, kb_nonbl, kb_nonint, kb_nonstr, kb_intstr, kb_blstr, kb_tupbl, kb_tupint,   List.set_cons_zero, List.set_cons_succ, List.set_nil, List.getElem?_cons_zero, List.getElem?_cons_succ, List.getElem?_nil, List.length_cons, List.length_nil, List.length_map, List.length_append, e_lcN, e_lcC, e_forN, e_forC, List.getLast?_concat, List.dropLast_concat, List.nil_append, List.cons_append, List.append_nil, List.append_assoc, List.reverse_cons, List.reverse_nil, List.isEmpty_nil, List.isEmpty_cons, isEmpty_snoc, List.any_cons, List.any_nil, List.all_cons, List.all_nil, flatD, eqF, in_non, in_tup, in_str, in_int, in_bl, in_obj, in_fl, startA, List.map_cons, List.map_nil, List.replicate_succ, List.replicate_zero,   Nat.reduceAdd, Nat.reduceSub, Nat.reduceLeDiff, Nat.zero_add, Int.reduceLE, Int.reduceLT, Int.reduceToNat, Int.reducePow, Int.reduceNeg, Int.reduceAdd, Int.reduceSub,   Option.isSome_some, Option.isSome_none, Bool.not_true, Bool.not_false, Bool.not_eq_true', Bool.not_eq_eq_eq_not, Bool.not_eq_true, Bool.false_eq_true, Bool.true_eq_false, Bool.and_true, Bool.true_and, Bool.or_false, Bool.false_or, Bool.or_true, Bool.true_or, Bool.and_false, Bool.false_and, if_true, if_false, ite_true, ite_false, reduceIte, reduceCtorEq, decide_true, decide_false, decide_eq_true_eq, decide_eq_false_iff_not, true_and, and_true, eq_self, ne_eq, not_false_eq_true, not_true_eq_false, and_self, *])
      exact q
def Wt.d : Wt → D
  | .til => .tup [.str (S [126]), .non]
  | .par => .tup [.str (S [40]), .non]
  | .arr f => .tup [.str (S [45, 62]), f.d]
def stD (ws : List Wt) : List D := ws.reverse.map Wt.d
def A_behind : ASp := fun ds M Q _ => ∃ (p : Addr) (ws : List Wt) (f : Fm), ds = [.obj p, f.d] ∧ M p = some (.lst (stD ws)) ∧ ∀ M', M' p = some (.lst (stD (bcond ws f).1)) → ExtB p M M' → Q (bcond ws f).2.d M'
def oD : Option Fm → D
  | none => .non
  | some f => f.d
theorem oD_isNon : ∀ f : Fm, isNon f.d = false := by intro f; cases f <;> rfl
theorem zS_b : z_b = S [98] := by decide +kernel
theorem zS_c7 : z_c7 = S [99, 55] := by decide +kernel
theorem zS_a0 : z_a0 = S [97, 48] := by decide +kernel
theorem zS_m9 : z_m9 = S [109, 57] := by decide +kernel
theorem names6_name {s : Str} (h : s ∈ names6) : nameOk s := by
  have one : ∀ c, smallC c = true → nameOk (S [c]) := fun c h => .inl ⟨c, TL.tl_mk _, h⟩
  have two : ∀ c d, smallC c = true → digitC d = true → nameOk (S [c, d]) := fun c d h h2 => .inr ⟨c, d, TL.tl_mk _, h, h2⟩
  unfold names6 at h
  rw [zS_a, zS_b, zS_z, zS_c7, zS_a0, zS_m9] at h
  rcases List.mem_cons.mp h with rfl | h
  · exact one _ rfl
  rcases List.mem_cons.mp h with rfl | h
  · exact one _ rfl
  rcases List.mem_cons.mp h with rfl | h
  · exact one _ rfl
  rcases List.mem_cons.mp h with rfl | h
  · exact two _ _ rfl rfl
  rcases List.mem_cons.mp h with rfl | h
  · exact two _ _ rfl rfl
  rcases List.mem_cons.mp h with rfl | h
  · exact two _ _ rfl rfl
  exact nomatch h
def A_law : ASp := fun ds M Q _ => ∃ ns : List Int, ds = [.fl (ns.map D.int)] ∧ ∀ M', Q (.bl true) M'

theorem repL_ints {K : PySem.W.Frag} {H : Hp} : ∀ ns : List Int, RepL K H (ns.map D.int) (ns.map V.int)
  | [] => rfl
  | x :: r => ⟨_, _, rfl, rfl, repL_ints r⟩
def z__2d__20_ : Str := "- "
def z__2a_ : Str := "*"
def z__2b_ : Str := "+"
def z__7c_ : Str := "|"
def z__60_ : Str := "`"
/- slots of _law_under: 0 rows, 1 first, 2 others, 3 row -/
def a__law_under  : ATS :=
    (aRet (aOp ρAdd (aLst (aCons (aOp ρAdd (aVar 1) (aOp ρIx (aVar 0) (aC (.int 0)))) aNil)) (aLc (aIList (aSl (aVar 0) (aOSome (aC (.int 1))) aONone)) 3 aYes (aOp ρAdd (aVar 2) (aVar 3)))))
/- slots of _law_drawing: 0 formula, 1 upper -/
def a__law_drawing (A__law_under : ASp) (A__law_drawing : ASp) : ATS :=
    (aSeq (aIf (aTest (aOp (ρEq false) (aOp ρIx (aVar 0) (aC (.int 0))) (aC (.str z_letter)))) (aRet (aLst (aCons (aOp ρAdd (aC (.str z__2d__20_)) (aOp ρIx (aVar 0) (aC (.int 1)))) aNil))) aNext)
    (aSeq (aIf (aTest (aOp (ρEq false) (aOp ρIx (aVar 0) (aC (.int 0))) (aC (.str z_not)))) (aRet (aCall 3 A__law_under (aCons (aCall 1 A__law_drawing (aCons (aOp ρIx (aVar 0) (aC (.int 1))) aNil)) (aCons (aC (.str z__2a_)) (aCons (aC (.str z__20_)) aNil))))) aNext)
    (aSeq (aAsg (aCall 3 A__law_under (aCons (aCall 1 A__law_drawing (aCons (aOp ρIx (aVar 0) (aC (.int 2))) aNil)) (aCons (aC (.str z__2b_)) (aCons (aC (.str z__7c_)) aNil)))) (agName 1))
    (aRet (aOp ρAdd (aVar 1) (aCall 3 A__law_under (aCons (aCall 1 A__law_drawing (aCons (aOp ρIx (aVar 0) (aC (.int 1))) aNil)) (aCons (aC (.str z__60_)) (aCons (aC (.str z__20_)) aNil)))))))))

def rowsD (rows : List (List Nat)) : List D := rows.map fun r => .str (S r)
def under (a b : List Nat) : List (List Nat) → List (List Nat)
  | [] => []
  | r :: rs => (a ++ r) :: rs.map fun x => b ++ x
def drw : Fm → List (List Nat)
  | .lt s => [45 :: 32 :: TL.tl s]
  | .ng p => under [42] [32] (drw p)
  | .im p q => under [43] [124] (drw q) ++ under [96] [32] (drw p)
theorem under_len (a b : List Nat) (rs : List (List Nat)) : (under a b rs).length = rs.length := by
  cases rs with
  | nil => rfl
  | cons r rs => show (rs.map _).length + 1 = rs.length + 1; rw [List.length_map]
theorem under_wide {a b : List Nat} {n k : Nat} (ha : a.length ≤ k) (hb : b.length ≤ k) {rs : List (List Nat)} (h : ∀ r ∈ rs, r.length ≤ n) : ∀ r ∈ under a b rs, r.length ≤ n + k := by
  cases rs with
  | nil => exact fun r hr => nomatch hr
  | cons r rs =>
    intro x hx
    rcases List.mem_cons.mp hx with z | z
    · rw [z, List.length_append]
      have := h r List.mem_cons_self
      omega
    · obtain ⟨y, hy, rfl⟩ := List.mem_map.mp z
      rw [List.length_append]
      have := h y (List.mem_cons_of_mem _ hy)
      omega
theorem drw_len : ∀ f : Fm, (drw f).length ≤ f.sz ∧ 1 ≤ (drw f).length
  | .lt s => ⟨Nat.le_refl _, Nat.le_refl _⟩
  | .ng p => by
    have z := drw_len p
    have u := under_len [42] [32] (drw p)
    show (under [42] [32] (drw p)).length ≤ p.sz + 1 ∧ 1 ≤ (under [42] [32] (drw p)).length
    omega
  | .im p q => by
    have z := drw_len p
    have z2 := drw_len q
    have u := under_len [43] [124] (drw q)
    have u2 := under_len [96] [32] (drw p)
    show (under [43] [124] (drw q) ++ under [96] [32] (drw p)).length ≤ p.sz + q.sz + 1 ∧ 1 ≤ (under [43] [124] (drw q) ++ under [96] [32] (drw p)).length
    rw [List.length_append]
    omega
theorem drw_wide : ∀ f : Fm, f.All nameOk → ∀ r ∈ drw f, r.length ≤ f.sz + 4
  | .lt s, h => fun r hr => by
    rw [List.mem_singleton.mp hr]
    show (TL.tl s).length + 1 + 1 ≤ 1 + 4
    rcases h with ⟨c, e, hc⟩ | ⟨c, d, e, hc, hd⟩
    · rw [e]; show 1 + 1 + 1 ≤ 5; omega
    · rw [e]; show 2 + 1 + 1 ≤ 5; omega
  | .ng p, h => fun r hr => by
    have z := under_wide (a := [42]) (b := [32]) (k := 1) (Nat.le_refl _) (Nat.le_refl _) (drw_wide p h) r hr
    show r.length ≤ p.sz + 1 + 4
    omega
  | .im p q, h => fun r hr => by
    show r.length ≤ p.sz + q.sz + 1 + 4
    rcases List.mem_append.mp hr with z | z
    · have y := under_wide (a := [43]) (b := [124]) (k := 1) (Nat.le_refl _) (Nat.le_refl _) (drw_wide q h.2) r z
      omega
    · have y := under_wide (a := [96]) (b := [32]) (k := 1) (Nat.le_refl _) (Nat.le_refl _) (drw_wide p h.1) r z
      omega
def A_under : ASp := fun ds M Q _ => ∃ (p : Addr) (a b : List Nat) (rs : List (List Nat)), ds = [.obj p, .str (S a), .str (S b)] ∧ M p = some (.lst (rowsD rs)) ∧ rs ≠ [] ∧ rs.length ≤ 10000 ∧ a.length ≤ 100 ∧ b.length ≤ 100 ∧ (∀ r ∈ rs, r.length ≤ 10000) ∧
  ∀ o M', M o = none → Ext M M' → M' o = some (.lst (rowsD (under a b rs))) → Q (.obj o) M'
theorem p__law_under (ds : List D) (M : Sto) (Q : D → Sto → Prop) (Xa) (hl : ds.length = 3) (h : A_under ds M Q Xa) : a__law_under ax0 (Done Q) (startA ["rows", "first", "others", "row"] ds) M := by
  obtain ⟨p, a, b, rs, rfl, hp, hne, hlen, ha, hb, hw, q⟩ := h
  unfold a__law_under
  cases rs with
  | nil => exact absurd rfl hne
  | cons r rs =>
    have hp' : M p = some (.lst (.str (S r) :: rowsD rs)) := hp
    have wr := hw r List.mem_cons_self
    have hap := S_app
    have hsl := S_len
    rw [List.length_cons] at hlen
    clear hp
    try (simp only [↓e_seq, ↓e_next, ↓e_break, ↓e_cont, ↓e_expr, ↓e_ret, ↓e_retN, ↓e_if, ↓e_never, ↓e_asg, ↓e_name, ↓e_agtup, ↓e_agcons, ↓e_agnil, ↓e_agsub, ↓e_aug, ↓e_dput, ↓e_var, ↓e_c, ↓e_op, ↓e_some, ↓e_none, ↓e_test, ↓e_and, ↓e_or, ↓e_not, ↓e_yes, ↓e_truth,   ↓e_tru_bl, ↓e_tru_int, ↓e_tru_non, ↓e_tru_str, ↓e_tru_tup, ↓e_tru_obj, ↓e_chain, ↓e_orV, ↓e_andV, ↓e_notV, ↓e_ifE, ↓e_neg, ↓e_nil, ↓e_cons, ↓e_tup, ↓e_lst, ↓e_dnew, ↓e_call, ↓e_cb, ↓e_isi, ↓e_sl, ↓e_onone, ↓e_osome, ↓e_rev, ↓e_lm, ↓e_append, ↓e_extend, ↓e_pop, ↓e_join, ↓e_dget2, ↓e_sortSet, ↓e_sortS, ↓e_setd, strsOf_map, ↓e_maxI, ↓e_disp, ↓e_pairN, ↓e_pairC, intsOf_map, ↓e_for, ↓e_ilist, ↓e_itup, ↓e_rng1, ↓e_rng2, ↓e_lc, ↓e_lc2, e_lc2N, ↓e_ienum, ↓e_izip, ↓e_anyB, ↓e_allB, ↓e_mulS, blsOf_map, ↓e_set0, ↓e_sadd, ↓e_sortTx, ↓e_sortD, ↓e_repr, ↓e_extT, ↓e_sc2, ↓e_sortZ, ↓e_tupVals, ↓e_wget, ↓e_wix, ↓e_listZip, zipD_nil, zipD_cons, ↓e_dgetF, ↓e_idif,   ↓e_add_int, ↓e_add_str, ↓e_add_tup, ↓e_add_obj, ↓e_iadd_int, ↓e_iadd_str, ↓e_iadd_obj, ↓e_I, ↓e_I0, ↓e_IS_int, ↓e_IS_str, ↓e_eq_str, ↓e_ne_str, ↓e_eq_int, ↓e_ne_int, ↓e_eq_bl, ↓e_ne_bl, ↓e_isN, ↓e_notN, ↓e_ix_tup, ↓e_ix_fl, ↓e_ix_str, ↓e_ix_obj, ↓e_in_tup, ↓e_nin_tup, ↓e_len_tup, ↓e_len_fl, ↓e_len_str, ↓e_len_obj, ↓e_int_int, ↓e_tuple_tup, ↓e_tuple_obj, ↓e_list_tup, ↓e_list_obj, ↓e_dget, ↓e_din, ↓e_dnin, ↓e_lstAt, ↓e_dicAt,   e_key_int, e_key_str, e_up, e_ty_str, e_ty_tup, e_ty_int, e_ty_bl, e_ty_non, atI0, atI1, atI2, atI3, atIL, ixN0, ixN1, cut_from1, e_ite_or, e_ite_and, zln, znl, zli, zil, zni, zin, sizeLine_eq, CMul, CDiv, cpow1018, true_or, or_true, kb_strstr, kb_tupstr, kb_tuptup, kb_strtup, kb_inttup, kb_bltup, kb_nontup, kb_strbl, kb_strint, kb_intbl, kb_intint, kb_blbl, kb_blint, kb_nonbl, kb_nonint, kb_nonstr, kb_intstr, kb_blstr, kb_tupbl, kb_tupint,   List.set_cons_zero, List.set_cons_succ, List.set_nil, List.getElem?_cons_zero, List.getElem?_cons_succ, List.getElem?_nil, List.length_cons, List.length_nil, List.length_map, List.length_append, e_lcN, e_lcC, e_forN, e_forC, List.getLast?_concat, List.dropLast_concat, List.nil_append, List.cons_append, List.append_nil, List.append_assoc, List.reverse_cons, List.reverse_nil, List.isEmpty_nil, List.isEmpty_cons, isEmpty_snoc, List.any_cons, List.any_nil, List.all_cons, List.all_nil, flatD, eqF, in_non, in_tup, in_str, in_int, in_bl, in_obj, in_fl, startA, List.map_cons, List.map_nil, List.replicate_succ, List.replicate_zero,   Nat.reduceAdd, Nat.reduceSub, Nat.reduceLeDiff, Nat.zero_add, Int.reduceLE, Int.reduceLT, Int.reduceToNat, Int.reducePow, Int.reduceNeg, Int.reduceAdd, Int.reduceSub,   Option.isSome_some, Option.isSome_none, Bool.not_true, Bool.not_false, Bool.not_eq_true', Bool.not_eq_eq_eq_not, Bool.not_eq_true, Bool.false_eq_true, Bool.true_eq_false, Bool.and_true, Bool.true_and, Bool.or_false, Bool.false_or, Bool.or_true, Bool.true_or, Bool.and_false, Bool.false_and, if_true, if_false, ite_true, ite_false, reduceIte, reduceCtorEq, decide_true, decide_false, decide_eq_true_eq, decide_eq_false_iff_not, true_and, and_true, eq_self, ne_eq, not_false_eq_true, not_true_eq_false, and_self, *])
    refine ⟨by omega, ?_⟩
    intro p1 n1
    have np1 := fresh_ne n1 hp'
    try (simp only [↓e_seq, ↓e_next, ↓e_break, ↓e_cont, ↓e_expr, ↓e_ret, ↓e_retN, ↓e_if, ↓e_never, ↓e_asg, ↓e_name, ↓e_agtup, ↓e_agcons, ↓e_agnil, ↓e_agsub, ↓e_aug, ↓e_dput, ↓e_var, ↓e_c, ↓e_op, ↓e_some, ↓e_none, ↓e_test, ↓e_and, ↓e_or, ↓e_not, ↓e_yes, ↓e_truth,   ↓e_tru_bl, ↓e_tru_int, ↓e_tru_non, ↓e_tru_str, ↓e_tru_tup, ↓e_tru_obj, ↓e_chain, ↓e_orV, ↓e_andV, ↓e_notV, ↓e_ifE, ↓e_neg, ↓e_nil, ↓e_cons, ↓e_tup, ↓e_lst, ↓e_dnew, ↓e_call, ↓e_cb, ↓e_isi, ↓e_sl, ↓e_onone, ↓e_osome, ↓e_rev, ↓e_lm, ↓e_append, ↓e_extend, ↓e_pop, ↓e_join, ↓e_dget2, ↓e_sortSet, ↓e_sortS, ↓e_setd, strsOf_map, ↓e_maxI, ↓e_disp, ↓e_pairN, ↓e_pairC, intsOf_map, ↓e_for, ↓e_ilist, ↓e_itup, ↓e_rng1, ↓e_rng2, ↓e_lc, ↓e_lc2, e_lc2N, ↓e_ienum, ↓e_izip, ↓e_anyB, ↓e_allB, ↓e_mulS, blsOf_map, ↓e_set0, ↓e_sadd, ↓e_sortTx, ↓e_sortD, ↓e_repr, ↓e_extT, ↓e_sc2, ↓e_sortZ, ↓e_tupVals, ↓e_wget, ↓e_wix, ↓e_listZip, zipD_nil, zipD_cons, ↓e_dgetF, ↓e_idif,   ↓e_add_int, ↓e_add_str, ↓e_add_tup, ↓e_add_obj, ↓e_iadd_int, ↓e_iadd_str, ↓e_iadd_obj, ↓e_I, ↓e_I0, ↓e_IS_int, ↓e_IS_str, ↓e_eq_str, ↓e_ne_str, ↓e_eq_int, ↓e_ne_int, ↓e_eq_bl, ↓e_ne_bl, ↓e_isN, ↓e_notN, ↓e_ix_tup, ↓e_ix_fl, ↓e_ix_str, ↓e_ix_obj, ↓e_in_tup, ↓e_nin_tup, ↓e_len_tup, ↓e_len_fl, ↓e_len_str, ↓e_len_obj, ↓e_int_int, ↓e_tuple_tup, ↓e_tuple_obj, ↓e_list_tup, ↓e_list_obj, ↓e_dget, ↓e_din, ↓e_dnin, ↓e_lstAt, ↓e_dicAt,   e_key_int, e_key_str, e_up, e_ty_str, e_ty_tup, e_ty_int, e_ty_bl, e_ty_non, atI0, atI1, atI2, atI3, atIL, ixN0, ixN1, cut_from1, e_ite_or, e_ite_and, zln, znl, zli, zil, zni, zin, sizeLine_eq, CMul, CDiv, cpow1018, true_or, or_true, kb_strstr, kb_tupstr, kb_tuptup, kb_strtup, kb_inttup, kb_bltup, kb_nontup, kb_strbl, kb_strint, kb_intbl, kb_intint, kb_blbl, kb_blint, kb_nonbl, kb_nonint, kb_nonstr, kb_intstr, kb_blstr, kb_tupbl, kb_tupint,   List.set_cons_zero, List.set_cons_succ, List.set_nil, List.getElem?_cons_zero, List.getElem?_cons_succ, List.getElem?_nil, List.length_cons, List.length_nil, List.length_map, List.length_append, e_lcN, e_lcC, e_forN, e_forC, List.getLast?_concat, List.dropLast_concat, List.nil_append, List.cons_append, List.append_nil, List.append_assoc, List.reverse_cons, List.reverse_nil, List.isEmpty_nil, List.isEmpty_cons, isEmpty_snoc, List.any_cons, List.any_nil, List.all_cons, List.all_nil, flatD, eqF, in_non, in_tup, in_str, in_int, in_bl, in_obj, in_fl, startA, List.map_cons, List.map_nil, List.replicate_succ, List.replicate_zero,   Nat.reduceAdd, Nat.reduceSub, Nat.reduceLeDiff, Nat.zero_add, Int.reduceLE, Int.reduceLT, Int.reduceToNat, Int.reducePow, Int.reduceNeg, Int.reduceAdd, Int.reduceSub,   Option.isSome_some, Option.isSome_none, Bool.not_true, Bool.not_false, Bool.not_eq_true', Bool.not_eq_eq_eq_not, Bool.not_eq_true, Bool.false_eq_true, Bool.true_eq_false, Bool.and_true, Bool.true_and, Bool.or_false, Bool.false_or, Bool.or_true, Bool.true_or, Bool.and_false, Bool.false_and, if_true, if_false, ite_true, ite_false, reduceIte, reduceCtorEq, decide_true, decide_false, decide_eq_true_eq, decide_eq_false_iff_not, true_and, and_true, eq_self, ne_eq, not_false_eq_true, not_true_eq_false, and_self, *])
    intro p2 n2
    have ne12 := fresh_ne n2 (up_same (M := M) (a := p1) (o := .lst [.str (S (a ++ r))]))
    have e2 : Ext M (up (up M p1 (.lst [.str (S (a ++ r))])) p2 (.lst (rowsD rs))) := (Ext.new n1).trans (Ext.new n2)
    have at1 : (up (up M p1 (.lst [.str (S (a ++ r))])) p2 (.lst (rowsD rs))) p1 = some (.lst [.str (S (a ++ r))]) := by rw [up_ne ne12]; exact up_same
    have at2 : (up (up M p1 (.lst [.str (S (a ++ r))])) p2 (.lst (rowsD rs))) p2 = some (.lst (rowsD rs)) := up_same
    have sl : (rowsD rs).length = rs.length := List.length_map _
    generalize up (up M p1 (.lst [.str (S (a ++ r))])) p2 (.lst (rowsD rs)) = M2 at *
    try (simp only [↓e_seq, ↓e_next, ↓e_break, ↓e_cont, ↓e_expr, ↓e_ret, ↓e_retN, ↓e_if, ↓e_never, ↓e_asg, ↓e_name, ↓e_agtup, ↓e_agcons, ↓e_agnil, ↓e_agsub, ↓e_aug, ↓e_dput, ↓e_var, ↓e_c, ↓e_op, ↓e_some, ↓e_none, ↓e_test, ↓e_and, ↓e_or, ↓e_not, ↓e_yes, ↓e_truth,   ↓e_tru_bl, ↓e_tru_int, ↓e_tru_non, ↓e_tru_str, ↓e_tru_tup, ↓e_tru_obj, ↓e_chain, ↓e_orV, ↓e_andV, ↓e_notV, ↓e_ifE, ↓e_neg, ↓e_nil, ↓e_cons, ↓e_tup, ↓e_lst, ↓e_dnew, ↓e_call, ↓e_cb, ↓e_isi, ↓e_sl, ↓e_onone, ↓e_osome, ↓e_rev, ↓e_lm, ↓e_append, ↓e_extend, ↓e_pop, ↓e_join, ↓e_dget2, ↓e_sortSet, ↓e_sortS, ↓e_setd, strsOf_map, ↓e_maxI, ↓e_disp, ↓e_pairN, ↓e_pairC, intsOf_map, ↓e_for, ↓e_ilist, ↓e_itup, ↓e_rng1, ↓e_rng2, ↓e_lc, ↓e_lc2, e_lc2N, ↓e_ienum, ↓e_izip, ↓e_anyB, ↓e_allB, ↓e_mulS, blsOf_map, ↓e_set0, ↓e_sadd, ↓e_sortTx, ↓e_sortD, ↓e_repr, ↓e_extT, ↓e_sc2, ↓e_sortZ, ↓e_tupVals, ↓e_wget, ↓e_wix, ↓e_listZip, zipD_nil, zipD_cons, ↓e_dgetF, ↓e_idif,   ↓e_add_int, ↓e_add_str, ↓e_add_tup, ↓e_add_obj, ↓e_iadd_int, ↓e_iadd_str, ↓e_iadd_obj, ↓e_I, ↓e_I0, ↓e_IS_int, ↓e_IS_str, ↓e_eq_str, ↓e_ne_str, ↓e_eq_int, ↓e_ne_int, ↓e_eq_bl, ↓e_ne_bl, ↓e_isN, ↓e_notN, ↓e_ix_tup, ↓e_ix_fl, ↓e_ix_str, ↓e_ix_obj, ↓e_in_tup, ↓e_nin_tup, ↓e_len_tup, ↓e_len_fl, ↓e_len_str, ↓e_len_obj, ↓e_int_int, ↓e_tuple_tup, ↓e_tuple_obj, ↓e_list_tup, ↓e_list_obj, ↓e_dget, ↓e_din, ↓e_dnin, ↓e_lstAt, ↓e_dicAt,   e_key_int, e_key_str, e_up, e_ty_str, e_ty_tup, e_ty_int, e_ty_bl, e_ty_non, atI0, atI1, atI2, atI3, atIL, ixN0, ixN1, cut_from1, e_ite_or, e_ite_and, zln, znl, zli, zil, zni, zin, sizeLine_eq, CMul, CDiv, cpow1018, true_or, or_true, kb_strstr, kb_tupstr, kb_tuptup, kb_strtup, kb_inttup, kb_bltup, kb_nontup, kb_strbl, kb_strint, kb_intbl, kb_intint, kb_blbl, kb_blint, kb_nonbl, kb_nonint, kb_nonstr, kb_intstr, kb_blstr, kb_tupbl, kb_tupint,   List.set_cons_zero, List.set_cons_succ, List.set_nil, List.getElem?_cons_zero, List.getElem?_cons_succ, List.getElem?_nil, List.length_cons, List.length_nil, List.length_map, List.length_append, e_lcN, e_lcC, e_forN, e_forC, List.getLast?_concat, List.dropLast_concat, List.nil_append, List.cons_append, List.append_nil, List.append_assoc, List.reverse_cons, List.reverse_nil, List.isEmpty_nil, List.isEmpty_cons, isEmpty_snoc, List.any_cons, List.any_nil, List.all_cons, List.all_nil, flatD, eqF, in_non, in_tup, in_str, in_int, in_bl, in_obj, in_fl, startA, List.map_cons, List.map_nil, List.replicate_succ, List.replicate_zero,   Nat.reduceAdd, Nat.reduceSub, Nat.reduceLeDiff, Nat.zero_add, Int.reduceLE, Int.reduceLT, Int.reduceToNat, Int.reducePow, Int.reduceNeg, Int.reduceAdd, Int.reduceSub,   Option.isSome_some, Option.isSome_none, Bool.not_true, Bool.not_false, Bool.not_eq_true', Bool.not_eq_eq_eq_not, Bool.not_eq_true, Bool.false_eq_true, Bool.true_eq_false, Bool.and_true, Bool.true_and, Bool.or_false, Bool.false_or, Bool.or_true, Bool.true_or, Bool.and_false, Bool.false_and, if_true, if_false, ite_true, ite_false, reduceIte, reduceCtorEq, decide_true, decide_false, decide_eq_true_eq, decide_eq_false_iff_not, true_and, and_true, eq_self, ne_eq, not_false_eq_true, not_true_eq_false, and_self, *])
    refine ⟨by omega, ?_⟩
    refine lc_run (fun ds acc M' => ∃ (rest done : List (List Nat)), ds = rowsD rest ∧ acc = rowsD (done.map fun x => b ++ x) ∧ M' = M2 ∧ done ++ rest = rs) ?_ ?_ ?_ ⟨rs, [], rfl, rfl, rfl, rfl⟩
    · rintro ds acc M' ⟨rest, done, _, _, rfl, _⟩
      exact at2
    · rintro acc M' ⟨rest, done, hr, rfl, rfl, hs⟩
      have z := List.map_eq_nil_iff.mp hr.symm
      subst z
      rw [List.append_nil] at hs
      subst hs
      clear hr
      intro p3 n3
      have ne3 := fresh_ne n3 at1
      have sl2 : (rowsD (done.map fun x => b ++ x)).length = done.length := by unfold rowsD; rw [List.length_map, List.length_map]
      try (simp only [↓e_seq, ↓e_next, ↓e_break, ↓e_cont, ↓e_expr, ↓e_ret, ↓e_retN, ↓e_if, ↓e_never, ↓e_asg, ↓e_name, ↓e_agtup, ↓e_agcons, ↓e_agnil, ↓e_agsub, ↓e_aug, ↓e_dput, ↓e_var, ↓e_c, ↓e_op, ↓e_some, ↓e_none, ↓e_test, ↓e_and, ↓e_or, ↓e_not, ↓e_yes, ↓e_truth,   ↓e_tru_bl, ↓e_tru_int, ↓e_tru_non, ↓e_tru_str, ↓e_tru_tup, ↓e_tru_obj, ↓e_chain, ↓e_orV, ↓e_andV, ↓e_notV, ↓e_ifE, ↓e_neg, ↓e_nil, ↓e_cons, ↓e_tup, ↓e_lst, ↓e_dnew, ↓e_call, ↓e_cb, ↓e_isi, ↓e_sl, ↓e_onone, ↓e_osome, ↓e_rev, ↓e_lm, ↓e_append, ↓e_extend, ↓e_pop, ↓e_join, ↓e_dget2, ↓e_sortSet, ↓e_sortS, ↓e_setd, strsOf_map, ↓e_maxI, ↓e_disp, ↓e_pairN, ↓e_pairC, intsOf_map, ↓e_for, ↓e_ilist, ↓e_itup, ↓e_rng1, ↓e_rng2, ↓e_lc, ↓e_lc2, e_lc2N, ↓e_ienum, ↓e_izip, ↓e_anyB, ↓e_allB, ↓e_mulS, blsOf_map, ↓e_set0, ↓e_sadd, ↓e_sortTx, ↓e_sortD, ↓e_repr, ↓e_extT, ↓e_sc2, ↓e_sortZ, ↓e_tupVals, ↓e_wget, ↓e_wix, ↓e_listZip, zipD_nil, zipD_cons, ↓e_dgetF, ↓e_idif,   ↓e_add_int, ↓e_add_str, ↓e_add_tup, ↓e_add_obj, ↓e_iadd_int, ↓e_iadd_str, ↓e_iadd_obj, ↓e_I, ↓e_I0, ↓e_IS_int, ↓e_IS_str, ↓e_eq_str, ↓e_ne_str, ↓e_eq_int, ↓e_ne_int, ↓e_eq_bl, ↓e_ne_bl, ↓e_isN, ↓e_notN, ↓e_ix_tup, ↓e_ix_fl, ↓e_ix_str, ↓e_ix_obj, ↓e_in_tup, ↓e_nin_tup, ↓e_len_tup, ↓e_len_fl, ↓e_len_str, ↓e_len_obj, ↓e_int_int, ↓e_tuple_tup, ↓e_tuple_obj, ↓e_list_tup, ↓e_list_obj, ↓e_dget, ↓e_din, ↓e_dnin, ↓e_lstAt, ↓e_dicAt,   e_key_int, e_key_str, e_up, e_ty_str, e_ty_tup, e_ty_int, e_ty_bl, e_ty_non, atI0, atI1, atI2, atI3, atIL, ixN0, ixN1, cut_from1, e_ite_or, e_ite_and, zln, znl, zli, zil, zni, zin, sizeLine_eq, CMul, CDiv, cpow1018, true_or, or_true, kb_strstr, kb_tupstr, kb_tuptup, kb_strtup, kb_inttup, kb_bltup, kb_nontup, kb_strbl, kb_strint, kb_intbl, kb_intint, kb_blbl, kb_blint, kb_nonbl, kb_nonint, kb_nonstr, kb_intstr, kb_blstr, kb_tupbl, kb_tupint,   List.set_cons_zero, List.set_cons_succ, List.set_nil, List.getElem?_cons_zero, List.getElem?_cons_succ, List.getElem?_nil, List.length_cons, List.length_nil, List.length_map, List.length_append, e_lcN, e_lcC, e_forN, e_forC, List.getLast?_concat, List.dropLast_concat, List.nil_append, List.cons_append, List.append_nil, List.append_assoc, List.reverse_cons, List.reverse_nil, List.isEmpty_nil, List.isEmpty_cons, isEmpty_snoc, List.any_cons, List.any_nil, List.all_cons, List.all_nil, flatD, eqF, in_non, in_tup, in_str, in_int, in_bl, in_obj, in_fl, startA, List.map_cons, List.map_nil, List.replicate_succ, List.replicate_zero,   Nat.reduceAdd, Nat.reduceSub, Nat.reduceLeDiff, Nat.zero_add, Int.reduceLE, Int.reduceLT, Int.reduceToNat, Int.reducePow, Int.reduceNeg, Int.reduceAdd, Int.reduceSub,   Option.isSome_some, Option.isSome_none, Bool.not_true, Bool.not_false, Bool.not_eq_true', Bool.not_eq_eq_eq_not, Bool.not_eq_true, Bool.false_eq_true, Bool.true_eq_false, Bool.and_true, Bool.true_and, Bool.or_false, Bool.false_or, Bool.or_true, Bool.true_or, Bool.and_false, Bool.false_and, if_true, if_false, ite_true, ite_false, reduceIte, reduceCtorEq, decide_true, decide_false, decide_eq_true_eq, decide_eq_false_iff_not, true_and, and_true, eq_self, ne_eq, not_false_eq_true, not_true_eq_false, and_self, *])
      refine ⟨by omega, ?_⟩
      intro p4 n4
      have ex := e2.trans (Ext.new (mo := .lst (rowsD (done.map fun x => b ++ x))) n3)
      exact q p4 _ (ex.none n4) (ex.trans (Ext.new n4)) up_same
    · rintro y r' acc M' N ⟨rest, done, hr, rfl, rfl, hs⟩ next
      cases rest with
      | nil => cases hr
      | cons x rest =>
        have hr' : y :: r' = .str (S x) :: rowsD rest := hr
        injection hr' with hr1 hr2
        subst hr1 hr2
        have wx := hw x (List.mem_cons_of_mem _ (by rw [← hs]; exact List.mem_append_right _ List.mem_cons_self))
        have go : N (rowsD (done.map fun x => b ++ x) ++ [.str (S (b ++ x))]) M' := next _ _ ⟨rest, done ++ [x], rfl, by unfold rowsD; rw [List.map_append, List.map_append]; rfl, rfl, by rw [List.append_assoc]; exact hs⟩
        clear next
        try (simp only [↓e_seq, ↓e_next, ↓e_break, ↓e_cont, ↓e_expr, ↓e_ret, ↓e_retN, ↓e_if, ↓e_never, ↓e_asg, ↓e_name, ↓e_agtup, ↓e_agcons, ↓e_agnil, ↓e_agsub, ↓e_aug, ↓e_dput, ↓e_var, ↓e_c, ↓e_op, ↓e_some, ↓e_none, ↓e_test, ↓e_and, ↓e_or, ↓e_not, ↓e_yes, ↓e_truth,   ↓e_tru_bl, ↓e_tru_int, ↓e_tru_non, ↓e_tru_str, ↓e_tru_tup, ↓e_tru_obj, ↓e_chain, ↓e_orV, ↓e_andV, ↓e_notV, ↓e_ifE, ↓e_neg, ↓e_nil, ↓e_cons, ↓e_tup, ↓e_lst, ↓e_dnew, ↓e_call, ↓e_cb, ↓e_isi, ↓e_sl, ↓e_onone, ↓e_osome, ↓e_rev, ↓e_lm, ↓e_append, ↓e_extend, ↓e_pop, ↓e_join, ↓e_dget2, ↓e_sortSet, ↓e_sortS, ↓e_setd, strsOf_map, ↓e_maxI, ↓e_disp, ↓e_pairN, ↓e_pairC, intsOf_map, ↓e_for, ↓e_ilist, ↓e_itup, ↓e_rng1, ↓e_rng2, ↓e_lc, ↓e_lc2, e_lc2N, ↓e_ienum, ↓e_izip, ↓e_anyB, ↓e_allB, ↓e_mulS, blsOf_map, ↓e_set0, ↓e_sadd, ↓e_sortTx, ↓e_sortD, ↓e_repr, ↓e_extT, ↓e_sc2, ↓e_sortZ, ↓e_tupVals, ↓e_wget, ↓e_wix, ↓e_listZip, zipD_nil, zipD_cons, ↓e_dgetF, ↓e_idif,   ↓e_add_int, ↓e_add_str, ↓e_add_tup, ↓e_add_obj, ↓e_iadd_int, ↓e_iadd_str, ↓e_iadd_obj, ↓e_I, ↓e_I0, ↓e_IS_int, ↓e_IS_str, ↓e_eq_str, ↓e_ne_str, ↓e_eq_int, ↓e_ne_int, ↓e_eq_bl, ↓e_ne_bl, ↓e_isN, ↓e_notN, ↓e_ix_tup, ↓e_ix_fl, ↓e_ix_str, ↓e_ix_obj, ↓e_in_tup, ↓e_nin_tup, ↓e_len_tup, ↓e_len_fl, ↓e_len_str, ↓e_len_obj, ↓e_int_int, ↓e_tuple_tup, ↓e_tuple_obj, ↓e_list_tup, ↓e_list_obj, ↓e_dget, ↓e_din, ↓e_dnin, ↓e_lstAt, ↓e_dicAt,   e_key_int, e_key_str, e_up, e_ty_str, e_ty_tup, e_ty_int, e_ty_bl, e_ty_non, atI0, atI1, atI2, atI3, atIL, ixN0, ixN1, cut_from1, e_ite_or, e_ite_and, zln, znl, zli, zil, zni, zin, sizeLine_eq, CMul, CDiv, cpow1018, true_or, or_true, kb_strstr, kb_tupstr, kb_tuptup, kb_strtup, kb_inttup, kb_bltup, kb_nontup, kb_strbl, kb_strint, kb_intbl, kb_intint, kb_blbl, kb_blint, kb_nonbl, kb_nonint, kb_nonstr, kb_intstr, kb_blstr, kb_tupbl, kb_tupint,   List.set_cons_zero, List.set_cons_succ, List.set_nil, List.getElem?_cons_zero, List.getElem?_cons_succ, List.getElem?_nil, List.length_cons, List.length_nil, List.length_map, List.length_append, e_lcN, e_lcC, e_forN, e_forC, List.getLast?_concat, List.dropLast_concat, List.nil_append, List.cons_append, List.append_nil, List.append_assoc, List.reverse_cons, List.reverse_nil, List.isEmpty_nil, List.isEmpty_cons, isEmpty_snoc, List.any_cons, List.any_nil, List.all_cons, List.all_nil, flatD, eqF, in_non, in_tup, in_str, in_int, in_bl, in_obj, in_fl, startA, List.map_cons, List.map_nil, List.replicate_succ, List.replicate_zero,   Nat.reduceAdd, Nat.reduceSub, Nat.reduceLeDiff, Nat.zero_add, Int.reduceLE, Int.reduceLT, Int.reduceToNat, Int.reducePow, Int.reduceNeg, Int.reduceAdd, Int.reduceSub,   Option.isSome_some, Option.isSome_none, Bool.not_true, Bool.not_false, Bool.not_eq_true', Bool.not_eq_eq_eq_not, Bool.not_eq_true, Bool.false_eq_true, Bool.true_eq_false, Bool.and_true, Bool.true_and, Bool.or_false, Bool.false_or, Bool.or_true, Bool.true_or, Bool.and_false, Bool.false_and, if_true, if_false, ite_true, ite_false, reduceIte, reduceCtorEq, decide_true, decide_false, decide_eq_true_eq, decide_eq_false_iff_not, true_and, and_true, eq_self, ne_eq, not_false_eq_true, not_true_eq_false, and_self, *])
        omega
theorem zS_star : z__2a_ = S [42] := by decide +kernel
theorem zS_plus : z__2b_ = S [43] := by decide +kernel
theorem zS_bar : z__7c_ = S [124] := by decide +kernel
theorem zS_tick : z__60_ = S [96] := by decide +kernel
theorem zS_db : z__2d__20_ = S [45, 32] := by decide +kernel
def A_drawing (L : Nat) : ASp := fun ds M Q _ => ∃ f : Fm, ds = [f.d] ∧ f.All nameOk ∧ f.sz ≤ L ∧ f.sz ≤ 1000 ∧ ∀ o M', M o = none → Ext M M' → M' o = some (.lst (rowsD (drw f))) → Q (.obj o) M'
theorem p__law_drawing (L : Nat) (ds : List D) (M : Sto) (Q : D → Sto → Prop) (Xa) (hl : ds.length = 1) (h : A_drawing (L + 1) ds M Q Xa) : a__law_drawing A_under (A_drawing L) ax0 (Done Q) (startA ["formula", "upper"] ds) M := by
  obtain ⟨f, rfl, hal, hL, hsz, q⟩ := h
  unfold a__law_drawing
  have y1 := zS_star
  have y2 := zS_plus
  have y3 := zS_bar
  have y4 := zS_tick
  have y5 := zS_db
  have y6 := zS_blank
  have hap := S_app
  have hsl := S_len
  cases f with
  | lt s =>
    have hs := S_tl s
    have w := drw_wide (.lt s) hal _ List.mem_cons_self
    have hw0 : (TL.tl s).length + 1 + 1 ≤ 1 + 4 := w
    have hw : (TL.tl s).length ≤ 3 := by omega
    clear hw0 w
    rw [Fm.d_lt]
    have dr : drw (.lt s) = [45 :: 32 :: TL.tl s] := rfl
    rw [dr] at q
    generalize TL.tl s = u at *
    subst hs
    try (simp only [↓e_seq, ↓e_next, ↓e_break, ↓e_cont, ↓e_expr, ↓e_ret, ↓e_retN, ↓e_if, ↓e_never, ↓e_asg, ↓e_name, ↓e_agtup, ↓e_agcons, ↓e_agnil, ↓e_agsub, ↓e_aug, ↓e_dput, ↓e_var, ↓e_c, ↓e_op, ↓e_some, ↓e_none, ↓e_test, ↓e_and, ↓e_or, ↓e_not, ↓e_yes, ↓e_truth,   ↓e_tru_bl, ↓e_tru_int, ↓e_tru_non, ↓e_tru_str, ↓e_tru_tup, ↓e_tru_obj, ↓e_chain, ↓e_orV, ↓e_andV, ↓e_notV, ↓e_ifE, ↓e_neg, ↓e_nil, ↓e_cons, ↓e_tup, ↓e_lst, ↓e_dnew, ↓e_call, ↓e_cb, ↓e_isi, ↓e_sl, ↓e_onone, ↓e_osome, ↓e_rev, ↓e_lm, ↓e_append, ↓e_extend, ↓e_pop, ↓e_join, ↓e_dget2, ↓e_sortSet, ↓e_sortS, ↓e_setd, strsOf_map, ↓e_maxI, ↓e_disp, ↓e_pairN, ↓e_pairC, intsOf_map, ↓e_for, ↓e_ilist, ↓e_itup, ↓e_rng1, ↓e_rng2, ↓e_lc, ↓e_lc2, e_lc2N, ↓e_ienum, ↓e_izip, ↓e_anyB, ↓e_allB, ↓e_mulS, blsOf_map, ↓e_set0, ↓e_sadd, ↓e_sortTx, ↓e_sortD, ↓e_repr, ↓e_extT, ↓e_sc2, ↓e_sortZ, ↓e_tupVals, ↓e_wget, ↓e_wix, ↓e_listZip, zipD_nil, zipD_cons, ↓e_dgetF, ↓e_idif,   ↓e_add_int, ↓e_add_str, ↓e_add_tup, ↓e_add_obj, ↓e_iadd_int, ↓e_iadd_str, ↓e_iadd_obj, ↓e_I, ↓e_I0, ↓e_IS_int, ↓e_IS_str, ↓e_eq_str, ↓e_ne_str, ↓e_eq_int, ↓e_ne_int, ↓e_eq_bl, ↓e_ne_bl, ↓e_isN, ↓e_notN, ↓e_ix_tup, ↓e_ix_fl, ↓e_ix_str, ↓e_ix_obj, ↓e_in_tup, ↓e_nin_tup, ↓e_len_tup, ↓e_len_fl, ↓e_len_str, ↓e_len_obj, ↓e_int_int, ↓e_tuple_tup, ↓e_tuple_obj, ↓e_list_tup, ↓e_list_obj, ↓e_dget, ↓e_din, ↓e_dnin, ↓e_lstAt, ↓e_dicAt,   e_key_int, e_key_str, e_up, e_ty_str, e_ty_tup, e_ty_int, e_ty_bl, e_ty_non, atI0, atI1, atI2, atI3, atIL, ixN0, ixN1, cut_from1, e_ite_or, e_ite_and, zln, znl, zli, zil, zni, zin, sizeLine_eq, CMul, CDiv, cpow1018, true_or, or_true, kb_strstr, kb_tupstr, kb_tuptup, kb_strtup, kb_inttup, kb_bltup, kb_nontup, kb_strbl, kb_strint, kb_intbl, kb_intint, kb_blbl, kb_blint, kb_nonbl, kb_nonint, kb_nonstr, kb_intstr, kb_blstr, kb_tupbl, kb_tupint,   List.set_cons_zero, List.set_cons_succ, List.set_nil, List.getElem?_cons_zero, List.getElem?_cons_succ, List.getElem?_nil, List.length_cons, List.length_nil, List.length_map, List.length_append, e_lcN, e_lcC, e_forN, e_forC, List.getLast?_concat, List.dropLast_concat, List.nil_append, List.cons_append, List.append_nil, List.append_assoc, List.reverse_cons, List.reverse_nil, List.isEmpty_nil, List.isEmpty_cons, isEmpty_snoc, List.any_cons, List.any_nil, List.all_cons, List.all_nil, flatD, eqF, in_non, in_tup, in_str, in_int, in_bl, in_obj, in_fl, startA, List.map_cons, List.map_nil, List.replicate_succ, List.replicate_zero,   Nat.reduceAdd, Nat.reduceSub, Nat.reduceLeDiff, Nat.zero_add, Int.reduceLE, Int.reduceLT, Int.reduceToNat, Int.reducePow, Int.reduceNeg, Int.reduceAdd, Int.reduceSub,   Option.isSome_some, Option.isSome_none, Bool.not_true, Bool.not_false, Bool.not_eq_true', Bool.not_eq_eq_eq_not, Bool.not_eq_true, Bool.false_eq_true, Bool.true_eq_false, Bool.and_true, Bool.true_and, Bool.or_false, Bool.false_or, Bool.or_true, Bool.true_or, Bool.and_false, Bool.false_and, if_true, if_false, ite_true, ite_false, reduceIte, reduceCtorEq, decide_true, decide_false, decide_eq_true_eq, decide_eq_false_iff_not, true_and, and_true, eq_self, ne_eq, not_false_eq_true, not_true_eq_false, and_self, *])
    refine ⟨by omega, fun p np => ?_⟩
    exact q p _ np (Ext.new np) up_same
  | ng p =>
    have hz : (Fm.ng p).sz = p.sz + 1 := rfl
    have hal' : p.All nameOk := hal
    have dl := drw_len p
    rw [Fm.d_ng]
    try (simp only [↓e_seq, ↓e_next, ↓e_break, ↓e_cont, ↓e_expr, ↓e_ret, ↓e_retN, ↓e_if, ↓e_never, ↓e_asg, ↓e_name, ↓e_agtup, ↓e_agcons, ↓e_agnil, ↓e_agsub, ↓e_aug, ↓e_dput, ↓e_var, ↓e_c, ↓e_op, ↓e_some, ↓e_none, ↓e_test, ↓e_and, ↓e_or, ↓e_not, ↓e_yes, ↓e_truth,   ↓e_tru_bl, ↓e_tru_int, ↓e_tru_non, ↓e_tru_str, ↓e_tru_tup, ↓e_tru_obj, ↓e_chain, ↓e_orV, ↓e_andV, ↓e_notV, ↓e_ifE, ↓e_neg, ↓e_nil, ↓e_cons, ↓e_tup, ↓e_lst, ↓e_dnew, ↓e_call, ↓e_cb, ↓e_isi, ↓e_sl, ↓e_onone, ↓e_osome, ↓e_rev, ↓e_lm, ↓e_append, ↓e_extend, ↓e_pop, ↓e_join, ↓e_dget2, ↓e_sortSet, ↓e_sortS, ↓e_setd, strsOf_map, ↓e_maxI, ↓e_disp, ↓e_pairN, ↓e_pairC, intsOf_map, ↓e_for, ↓e_ilist, ↓e_itup, ↓e_rng1, ↓e_rng2, ↓e_lc, ↓e_lc2, e_lc2N, ↓e_ienum, ↓e_izip, ↓e_anyB, ↓e_allB, ↓e_mulS, blsOf_map, ↓e_set0, ↓e_sadd, ↓e_sortTx, ↓e_sortD, ↓e_repr, ↓e_extT, ↓e_sc2, ↓e_sortZ, ↓e_tupVals, ↓e_wget, ↓e_wix, ↓e_listZip, zipD_nil, zipD_cons, ↓e_dgetF, ↓e_idif,   ↓e_add_int, ↓e_add_str, ↓e_add_tup, ↓e_add_obj, ↓e_iadd_int, ↓e_iadd_str, ↓e_iadd_obj, ↓e_I, ↓e_I0, ↓e_IS_int, ↓e_IS_str, ↓e_eq_str, ↓e_ne_str, ↓e_eq_int, ↓e_ne_int, ↓e_eq_bl, ↓e_ne_bl, ↓e_isN, ↓e_notN, ↓e_ix_tup, ↓e_ix_fl, ↓e_ix_str, ↓e_ix_obj, ↓e_in_tup, ↓e_nin_tup, ↓e_len_tup, ↓e_len_fl, ↓e_len_str, ↓e_len_obj, ↓e_int_int, ↓e_tuple_tup, ↓e_tuple_obj, ↓e_list_tup, ↓e_list_obj, ↓e_dget, ↓e_din, ↓e_dnin, ↓e_lstAt, ↓e_dicAt,   e_key_int, e_key_str, e_up, e_ty_str, e_ty_tup, e_ty_int, e_ty_bl, e_ty_non, atI0, atI1, atI2, atI3, atIL, ixN0, ixN1, cut_from1, e_ite_or, e_ite_and, zln, znl, zli, zil, zni, zin, sizeLine_eq, CMul, CDiv, cpow1018, true_or, or_true, kb_strstr, kb_tupstr, kb_tuptup, kb_strtup, kb_inttup, kb_bltup, kb_nontup, kb_strbl, kb_strint, kb_intbl, kb_intint, kb_blbl, kb_blint, kb_nonbl, kb_nonint, kb_nonstr, kb_intstr, kb_blstr, kb_tupbl, kb_tupint,   List.set_cons_zero, List.set_cons_succ, List.set_nil, List.getElem?_cons_zero, List.getElem?_cons_succ, List.getElem?_nil, List.length_cons, List.length_nil, List.length_map, List.length_append, e_lcN, e_lcC, e_forN, e_forC, List.getLast?_concat, List.dropLast_concat, List.nil_append, List.cons_append, List.append_nil, List.append_assoc, List.reverse_cons, List.reverse_nil, List.isEmpty_nil, List.isEmpty_cons, isEmpty_snoc, List.any_cons, List.any_nil, List.all_cons, List.all_nil, flatD, eqF, in_non, in_tup, in_str, in_int, in_bl, in_obj, in_fl, startA, List.map_cons, List.map_nil, List.replicate_succ, List.replicate_zero,   Nat.reduceAdd, Nat.reduceSub, Nat.reduceLeDiff, Nat.zero_add, Int.reduceLE, Int.reduceLT, Int.reduceToNat, Int.reducePow, Int.reduceNeg, Int.reduceAdd, Int.reduceSub,   Option.isSome_some, Option.isSome_none, Bool.not_true, Bool.not_false, Bool.not_eq_true', Bool.not_eq_eq_eq_not, Bool.not_eq_true, Bool.false_eq_true, Bool.true_eq_false, Bool.and_true, Bool.true_and, Bool.or_false, Bool.false_or, Bool.or_true, Bool.true_or, Bool.and_false, Bool.false_and, if_true, if_false, ite_true, ite_false, reduceIte, reduceCtorEq, decide_true, decide_false, decide_eq_true_eq, decide_eq_false_iff_not, true_and, and_true, eq_self, ne_eq, not_false_eq_true, not_true_eq_false, and_self, *])
    refine ⟨rfl, p, rfl, hal', by omega, by omega, fun o M1 no e1 h1 => ?_⟩
    try (simp only [↓e_seq, ↓e_next, ↓e_break, ↓e_cont, ↓e_expr, ↓e_ret, ↓e_retN, ↓e_if, ↓e_never, ↓e_asg, ↓e_name, ↓e_agtup, ↓e_agcons, ↓e_agnil, ↓e_agsub, ↓e_aug, ↓e_dput, ↓e_var, ↓e_c, ↓e_op, ↓e_some, ↓e_none, ↓e_test, ↓e_and, ↓e_or, ↓e_not, ↓e_yes, ↓e_truth,   ↓e_tru_bl, ↓e_tru_int, ↓e_tru_non, ↓e_tru_str, ↓e_tru_tup, ↓e_tru_obj, ↓e_chain, ↓e_orV, ↓e_andV, ↓e_notV, ↓e_ifE, ↓e_neg, ↓e_nil, ↓e_cons, ↓e_tup, ↓e_lst, ↓e_dnew, ↓e_call, ↓e_cb, ↓e_isi, ↓e_sl, ↓e_onone, ↓e_osome, ↓e_rev, ↓e_lm, ↓e_append, ↓e_extend, ↓e_pop, ↓e_join, ↓e_dget2, ↓e_sortSet, ↓e_sortS, ↓e_setd, strsOf_map, ↓e_maxI, ↓e_disp, ↓e_pairN, ↓e_pairC, intsOf_map, ↓e_for, ↓e_ilist, ↓e_itup, ↓e_rng1, ↓e_rng2, ↓e_lc, ↓e_lc2, e_lc2N, ↓e_ienum, ↓e_izip, ↓e_anyB, ↓e_allB, ↓e_mulS, blsOf_map, ↓e_set0, ↓e_sadd, ↓e_sortTx, ↓e_sortD, ↓e_repr, ↓e_extT, ↓e_sc2, ↓e_sortZ, ↓e_tupVals, ↓e_wget, ↓e_wix, ↓e_listZip, zipD_nil, zipD_cons, ↓e_dgetF, ↓e_idif,   ↓e_add_int, ↓e_add_str, ↓e_add_tup, ↓e_add_obj, ↓e_iadd_int, ↓e_iadd_str, ↓e_iadd_obj, ↓e_I, ↓e_I0, ↓e_IS_int, ↓e_IS_str, ↓e_eq_str, ↓e_ne_str, ↓e_eq_int, ↓e_ne_int, ↓e_eq_bl, ↓e_ne_bl, ↓e_isN, ↓e_notN, ↓e_ix_tup, ↓e_ix_fl, ↓e_ix_str, ↓e_ix_obj, ↓e_in_tup, ↓e_nin_tup, ↓e_len_tup, ↓e_len_fl, ↓e_len_str, ↓e_len_obj, ↓e_int_int, ↓e_tuple_tup, ↓e_tuple_obj, ↓e_list_tup, ↓e_list_obj, ↓e_dget, ↓e_din, ↓e_dnin, ↓e_lstAt, ↓e_dicAt,   e_key_int, e_key_str, e_up, e_ty_str, e_ty_tup, e_ty_int, e_ty_bl, e_ty_non, atI0, atI1, atI2, atI3, atIL, ixN0, ixN1, cut_from1, e_ite_or, e_ite_and, zln, znl, zli, zil, zni, zin, sizeLine_eq, CMul, CDiv, cpow1018, true_or, or_true, kb_strstr, kb_tupstr, kb_tuptup, kb_strtup, kb_inttup, kb_bltup, kb_nontup, kb_strbl, kb_strint, kb_intbl, kb_intint, kb_blbl, kb_blint, kb_nonbl, kb_nonint, kb_nonstr, kb_intstr, kb_blstr, kb_tupbl, kb_tupint,   List.set_cons_zero, List.set_cons_succ, List.set_nil, List.getElem?_cons_zero, List.getElem?_cons_succ, List.getElem?_nil, List.length_cons, List.length_nil, List.length_map, List.length_append, e_lcN, e_lcC, e_forN, e_forC, List.getLast?_concat, List.dropLast_concat, List.nil_append, List.cons_append, List.append_nil, List.append_assoc, List.reverse_cons, List.reverse_nil, List.isEmpty_nil, List.isEmpty_cons, isEmpty_snoc, List.any_cons, List.any_nil, List.all_cons, List.all_nil, flatD, eqF, in_non, in_tup, in_str, in_int, in_bl, in_obj, in_fl, startA, List.map_cons, List.map_nil, List.replicate_succ, List.replicate_zero,   Nat.reduceAdd, Nat.reduceSub, Nat.reduceLeDiff, Nat.zero_add, Int.reduceLE, Int.reduceLT, Int.reduceToNat, Int.reducePow, Int.reduceNeg, Int.reduceAdd, Int.reduceSub,   Option.isSome_some, Option.isSome_none, Bool.not_true, Bool.not_false, Bool.not_eq_true', Bool.not_eq_eq_eq_not, Bool.not_eq_true, Bool.false_eq_true, Bool.true_eq_false, Bool.and_true, Bool.true_and, Bool.or_false, Bool.false_or, Bool.or_true, Bool.true_or, Bool.and_false, Bool.false_and, if_true, if_false, ite_true, ite_false, reduceIte, reduceCtorEq, decide_true, decide_false, decide_eq_true_eq, decide_eq_false_iff_not, true_and, and_true, eq_self, ne_eq, not_false_eq_true, not_true_eq_false, and_self, *])
    refine ⟨rfl, o, [42], [32], drw p, rfl, h1, (fun z => by rw [z] at dl; exact absurd dl.2 (by decide)), by omega, by decide, by decide, (fun r hr => by have := drw_wide p hal' r hr; omega), fun o2 M2 no2 e2 h2 => ?_⟩
    exact q o2 M2 (e1.none no2) (e1.trans e2) h2
  | im p r =>
    have hz : (Fm.im p r).sz = p.sz + r.sz + 1 := rfl
    have dl := drw_len p
    have dl2 := drw_len r
    rw [Fm.d_im]
    try (simp only [↓e_seq, ↓e_next, ↓e_break, ↓e_cont, ↓e_expr, ↓e_ret, ↓e_retN, ↓e_if, ↓e_never, ↓e_asg, ↓e_name, ↓e_agtup, ↓e_agcons, ↓e_agnil, ↓e_agsub, ↓e_aug, ↓e_dput, ↓e_var, ↓e_c, ↓e_op, ↓e_some, ↓e_none, ↓e_test, ↓e_and, ↓e_or, ↓e_not, ↓e_yes, ↓e_truth,   ↓e_tru_bl, ↓e_tru_int, ↓e_tru_non, ↓e_tru_str, ↓e_tru_tup, ↓e_tru_obj, ↓e_chain, ↓e_orV, ↓e_andV, ↓e_notV, ↓e_ifE, ↓e_neg, ↓e_nil, ↓e_cons, ↓e_tup, ↓e_lst, ↓e_dnew, ↓e_call, ↓e_cb, ↓e_isi, ↓e_sl, ↓e_onone, ↓e_osome, ↓e_rev, ↓e_lm, ↓e_append, ↓e_extend, ↓e_pop, ↓e_join, ↓e_dget2, ↓e_sortSet, ↓e_sortS, ↓e_setd, strsOf_map, ↓e_maxI, ↓e_disp, ↓e_pairN, ↓e_pairC, intsOf_map, ↓e_for, ↓e_ilist, ↓e_itup, ↓e_rng1, ↓e_rng2, ↓e_lc, ↓e_lc2, e_lc2N, ↓e_ienum, ↓e_izip, ↓e_anyB, ↓e_allB, ↓e_mulS, blsOf_map, ↓e_set0, ↓e_sadd, ↓e_sortTx, ↓e_sortD, ↓e_repr, ↓e_extT, ↓e_sc2, ↓e_sortZ, ↓e_tupVals, ↓e_wget, ↓e_wix, ↓e_listZip, zipD_nil, zipD_cons, ↓e_dgetF, ↓e_idif,   ↓e_add_int, ↓e_add_str, ↓e_add_tup, ↓e_add_obj, ↓e_iadd_int, ↓e_iadd_str, ↓e_iadd_obj, ↓e_I, ↓e_I0, ↓e_IS_int, ↓e_IS_str, ↓e_eq_str, ↓e_ne_str, ↓e_eq_int, ↓e_ne_int, ↓e_eq_bl, ↓e_ne_bl, ↓e_isN, ↓e_notN, ↓e_ix_tup, ↓e_ix_fl, ↓e_ix_str, ↓e_ix_obj, ↓e_in_tup, ↓e_nin_tup, ↓e_len_tup, ↓e_len_fl, ↓e_len_str, ↓e_len_obj, ↓e_int_int, ↓e_tuple_tup, ↓e_tuple_obj, ↓e_list_tup, ↓e_list_obj, ↓e_dget, ↓e_din, ↓e_dnin, ↓e_lstAt, ↓e_dicAt,   e_key_int, e_key_str, e_up, e_ty_str, e_ty_tup, e_ty_int, e_ty_bl, e_ty_non, atI0, atI1, atI2, atI3, atIL, ixN0, ixN1, cut_from1, e_ite_or, e_ite_and, zln, znl, zli, zil, zni, zin, sizeLine_eq, CMul, CDiv, cpow1018, true_or, or_true, kb_strstr, kb_tupstr, kb_tuptup, kb_strtup, kb_inttup, kb_bltup, kb_nontup, kb_strbl, kb_strint, kb_intbl, kb_intint, kb_blbl, kb_blint, kb_nonbl, kb_nonint, kb_nonstr, kb_intstr, kb_blstr, kb_tupbl, kb_tupint,   List.set_cons_zero, List.set_cons_succ, List.set_nil, List.getElem?_cons_zero, List.getElem?_cons_succ, List.getElem?_nil, List.length_cons, List.length_nil, List.length_map, List.length_append, e_lcN, e_lcC, e_forN, e_forC, List.getLast?_concat, List.dropLast_concat, List.nil_append, List.cons_append, List.append_nil, List.append_assoc, List.reverse_cons, List.reverse_nil, List.isEmpty_nil, List.isEmpty_cons, isEmpty_snoc, List.any_cons, List.any_nil, List.all_cons, List.all_nil, flatD, eqF, in_non, in_tup, in_str, in_int, in_bl, in_obj, in_fl, startA, List.map_cons, List.map_nil, List.replicate_succ, List.replicate_zero,   Nat.reduceAdd, Nat.reduceSub, Nat.reduceLeDiff, Nat.zero_add, Int.reduceLE, Int.reduceLT, Int.reduceToNat, Int.reducePow, Int.reduceNeg, Int.reduceAdd, Int.reduceSub,   Option.isSome_some, Option.isSome_none, Bool.not_true, Bool.not_false, Bool.not_eq_true', Bool.not_eq_eq_eq_not, Bool.not_eq_true, Bool.false_eq_true, Bool.true_eq_false, Bool.and_true, Bool.true_and, Bool.or_false, Bool.false_or, Bool.or_true, Bool.true_or, Bool.and_false, Bool.false_and, if_true, if_false, ite_true, ite_false, reduceIte, reduceCtorEq, decide_true, decide_false, decide_eq_true_eq, decide_eq_false_iff_not, true_and, and_true, eq_self, ne_eq, not_false_eq_true, not_true_eq_false, and_self, *])
    refine ⟨rfl, r, rfl, hal.2, by omega, by omega, fun o M1 no e1 h1 => ?_⟩
    try (simp only [↓e_seq, ↓e_next, ↓e_break, ↓e_cont, ↓e_expr, ↓e_ret, ↓e_retN, ↓e_if, ↓e_never, ↓e_asg, ↓e_name, ↓e_agtup, ↓e_agcons, ↓e_agnil, ↓e_agsub, ↓e_aug, ↓e_dput, ↓e_var, ↓e_c, ↓e_op, ↓e_some, ↓e_none, ↓e_test, ↓e_and, ↓e_or, ↓e_not, ↓e_yes, ↓e_truth,   ↓e_tru_bl, ↓e_tru_int, ↓e_tru_non, ↓e_tru_str, ↓e_tru_tup, ↓e_tru_obj, ↓e_chain, ↓e_orV, ↓e_andV, ↓e_notV, ↓e_ifE, ↓e_neg, ↓e_nil, ↓e_cons, ↓e_tup, ↓e_lst, ↓e_dnew, ↓e_call, ↓e_cb, ↓e_isi, ↓e_sl, ↓e_onone, ↓e_osome, ↓e_rev, ↓e_lm, ↓e_append, ↓e_extend, ↓e_pop, ↓e_join, ↓e_dget2, ↓e_sortSet, ↓e_sortS, ↓e_setd, strsOf_map, ↓e_maxI, ↓e_disp, ↓e_pairN, ↓e_pairC, intsOf_map, ↓e_for, ↓e_ilist, ↓e_itup, ↓e_rng1, ↓e_rng2, ↓e_lc, ↓e_lc2, e_lc2N, ↓e_ienum, ↓e_izip, ↓e_anyB, ↓e_allB, ↓e_mulS, blsOf_map, ↓e_set0, ↓e_sadd, ↓e_sortTx, ↓e_sortD, ↓e_repr, ↓e_extT, ↓e_sc2, ↓e_sortZ, ↓e_tupVals, ↓e_wget, ↓e_wix, ↓e_listZip, zipD_nil, zipD_cons, ↓e_dgetF, ↓e_idif,   ↓e_add_int, ↓e_add_str, ↓e_add_tup, ↓e_add_obj, ↓e_iadd_int, ↓e_iadd_str, ↓e_iadd_obj, ↓e_I, ↓e_I0, ↓e_IS_int, ↓e_IS_str, ↓e_eq_str, ↓e_ne_str, ↓e_eq_int, ↓e_ne_int, ↓e_eq_bl, ↓e_ne_bl, ↓e_isN, ↓e_notN, ↓e_ix_tup, ↓e_ix_fl, ↓e_ix_str, ↓e_ix_obj, ↓e_in_tup, ↓e_nin_tup, ↓e_len_tup, ↓e_len_fl, ↓e_len_str, ↓e_len_obj, ↓e_int_int, ↓e_tuple_tup, ↓e_tuple_obj, ↓e_list_tup, ↓e_list_obj, ↓e_dget, ↓e_din, ↓e_dnin, ↓e_lstAt, ↓e_dicAt,   e_key_int, e_key_str, e_up, e_ty_str, e_ty_tup, e_ty_int, e_ty_bl, e_ty_non, atI0, atI1, atI2, atI3, atIL, ixN0, ixN1, cut_from1, e_ite_or, e_ite_and, zln, znl, zli, zil, zni, zin, sizeLine_eq, CMul, CDiv, cpow1018, true_or, or_true, kb_strstr, kb_tupstr, kb_tuptup, kb_strtup, kb_inttup, kb_bltup, kb_nontup, kb_strbl, kb_strint, kb_intbl, kb_intint, kb_blbl, kb_blint, kb_nonbl, kb_nonint, kb_nonstr, kb_intstr, kb_blstr, kb_tupbl, kb_tupint,   List.set_cons_zero, List.set_cons_succ, List.set_nil, List.getElem?_cons_zero, List.getElem?_cons_succ, List.getElem?_nil, List.length_cons, List.length_nil, List.length_map, List.length_append, e_lcN, e_lcC, e_forN, e_forC, List.getLast?_concat, List.dropLast_concat, List.nil_append, List.cons_append, List.append_nil, List.append_assoc, List.reverse_cons, List.reverse_nil, List.isEmpty_nil, List.isEmpty_cons, isEmpty_snoc, List.any_cons, List.any_nil, List.all_cons, List.all_nil, flatD, eqF, in_non, in_tup, in_str, in_int, in_bl, in_obj, in_fl, startA, List.map_cons, List.map_nil, List.replicate_succ, List.replicate_zero,   Nat.reduceAdd, Nat.reduceSub, Nat.reduceLeDiff, Nat.zero_add, Int.reduceLE, Int.reduceLT, Int.reduceToNat, Int.reducePow, Int.reduceNeg, Int.reduceAdd, Int.reduceSub,   Option.isSome_some, Option.isSome_none, Bool.not_true, Bool.not_false, Bool.not_eq_true', Bool.not_eq_eq_eq_not, Bool.not_eq_true, Bool.false_eq_true, Bool.true_eq_false, Bool.and_true, Bool.true_and, Bool.or_false, Bool.false_or, Bool.or_true, Bool.true_or, Bool.and_false, Bool.false_and, if_true, if_false, ite_true, ite_false, reduceIte, reduceCtorEq, decide_true, decide_false, decide_eq_true_eq, decide_eq_false_iff_not, true_and, and_true, eq_self, ne_eq, not_false_eq_true, not_true_eq_false, and_self, *])
    refine ⟨rfl, o, [43], [124], drw r, rfl, h1, (fun z => by rw [z] at dl2; exact absurd dl2.2 (by decide)), by omega, by decide, by decide, (fun x hr => by have := drw_wide r hal.2 x hr; omega), fun o2 M2 no2 e2 h2 => ?_⟩
    try (simp only [↓e_seq, ↓e_next, ↓e_break, ↓e_cont, ↓e_expr, ↓e_ret, ↓e_retN, ↓e_if, ↓e_never, ↓e_asg, ↓e_name, ↓e_agtup, ↓e_agcons, ↓e_agnil, ↓e_agsub, ↓e_aug, ↓e_dput, ↓e_var, ↓e_c, ↓e_op, ↓e_some, ↓e_none, ↓e_test, ↓e_and, ↓e_or, ↓e_not, ↓e_yes, ↓e_truth,   ↓e_tru_bl, ↓e_tru_int, ↓e_tru_non, ↓e_tru_str, ↓e_tru_tup, ↓e_tru_obj, ↓e_chain, ↓e_orV, ↓e_andV, ↓e_notV, ↓e_ifE, ↓e_neg, ↓e_nil, ↓e_cons, ↓e_tup, ↓e_lst, ↓e_dnew, ↓e_call, ↓e_cb, ↓e_isi, ↓e_sl, ↓e_onone, ↓e_osome, ↓e_rev, ↓e_lm, ↓e_append, ↓e_extend, ↓e_pop, ↓e_join, ↓e_dget2, ↓e_sortSet, ↓e_sortS, ↓e_setd, strsOf_map, ↓e_maxI, ↓e_disp, ↓e_pairN, ↓e_pairC, intsOf_map, ↓e_for, ↓e_ilist, ↓e_itup, ↓e_rng1, ↓e_rng2, ↓e_lc, ↓e_lc2, e_lc2N, ↓e_ienum, ↓e_izip, ↓e_anyB, ↓e_allB, ↓e_mulS, blsOf_map, ↓e_set0, ↓e_sadd, ↓e_sortTx, ↓e_sortD, ↓e_repr, ↓e_extT, ↓e_sc2, ↓e_sortZ, ↓e_tupVals, ↓e_wget, ↓e_wix, ↓e_listZip, zipD_nil, zipD_cons, ↓e_dgetF, ↓e_idif,   ↓e_add_int, ↓e_add_str, ↓e_add_tup, ↓e_add_obj, ↓e_iadd_int, ↓e_iadd_str, ↓e_iadd_obj, ↓e_I, ↓e_I0, ↓e_IS_int, ↓e_IS_str, ↓e_eq_str, ↓e_ne_str, ↓e_eq_int, ↓e_ne_int, ↓e_eq_bl, ↓e_ne_bl, ↓e_isN, ↓e_notN, ↓e_ix_tup, ↓e_ix_fl, ↓e_ix_str, ↓e_ix_obj, ↓e_in_tup, ↓e_nin_tup, ↓e_len_tup, ↓e_len_fl, ↓e_len_str, ↓e_len_obj, ↓e_int_int, ↓e_tuple_tup, ↓e_tuple_obj, ↓e_list_tup, ↓e_list_obj, ↓e_dget, ↓e_din, ↓e_dnin, ↓e_lstAt, ↓e_dicAt,   e_key_int, e_key_str, e_up, e_ty_str, e_ty_tup, e_ty_int, e_ty_bl, e_ty_non, atI0, atI1, atI2, atI3, atIL, ixN0, ixN1, cut_from1, e_ite_or, e_ite_and, zln, znl, zli, zil, zni, zin, sizeLine_eq, CMul, CDiv, cpow1018, true_or, or_true, kb_strstr, kb_tupstr, kb_tuptup, kb_strtup, kb_inttup, kb_bltup, kb_nontup, kb_strbl, kb_strint, kb_intbl, kb_intint, kb_blbl, kb_blint, kb_nonbl, kb_nonint, kb_nonstr, kb_intstr, kb_blstr, kb_tupbl, kb_tupint,   List.set_cons_zero, List.set_cons_succ, List.set_nil, List.getElem?_cons_zero, List.getElem?_cons_succ, List.getElem?_nil, List.length_cons, List.length_nil, List.length_map, List.length_append, e_lcN, e_lcC, e_forN, e_forC, List.getLast?_concat, List.dropLast_concat, List.nil_append, List.cons_append, List.append_nil, List.append_assoc, List.reverse_cons, List.reverse_nil, List.isEmpty_nil, List.isEmpty_cons, isEmpty_snoc, List.any_cons, List.any_nil, List.all_cons, List.all_nil, flatD, eqF, in_non, in_tup, in_str, in_int, in_bl, in_obj, in_fl, startA, List.map_cons, List.map_nil, List.replicate_succ, List.replicate_zero,   Nat.reduceAdd, Nat.reduceSub, Nat.reduceLeDiff, Nat.zero_add, Int.reduceLE, Int.reduceLT, Int.reduceToNat, Int.reducePow, Int.reduceNeg, Int.reduceAdd, Int.reduceSub,   Option.isSome_some, Option.isSome_none, Bool.not_true, Bool.not_false, Bool.not_eq_true', Bool.not_eq_eq_eq_not, Bool.not_eq_true, Bool.false_eq_true, Bool.true_eq_false, Bool.and_true, Bool.true_and, Bool.or_false, Bool.false_or, Bool.or_true, Bool.true_or, Bool.and_false, Bool.false_and, if_true, if_false, ite_true, ite_false, reduceIte, reduceCtorEq, decide_true, decide_false, decide_eq_true_eq, decide_eq_false_iff_not, true_and, and_true, eq_self, ne_eq, not_false_eq_true, not_true_eq_false, and_self, *])
    refine ⟨rfl, p, rfl, hal.1, by omega, by omega, fun o3 M3 no3 e3 h3 => ?_⟩
    try (simp only [↓e_seq, ↓e_next, ↓e_break, ↓e_cont, ↓e_expr, ↓e_ret, ↓e_retN, ↓e_if, ↓e_never, ↓e_asg, ↓e_name, ↓e_agtup, ↓e_agcons, ↓e_agnil, ↓e_agsub, ↓e_aug, ↓e_dput, ↓e_var, ↓e_c, ↓e_op, ↓e_some, ↓e_none, ↓e_test, ↓e_and, ↓e_or, ↓e_not, ↓e_yes, ↓e_truth,   ↓e_tru_bl, ↓e_tru_int, ↓e_tru_non, ↓e_tru_str, ↓e_tru_tup, ↓e_tru_obj, ↓e_chain, ↓e_orV, ↓e_andV, ↓e_notV, ↓e_ifE, ↓e_neg, ↓e_nil, ↓e_cons, ↓e_tup, ↓e_lst, ↓e_dnew, ↓e_call, ↓e_cb, ↓e_isi, ↓e_sl, ↓e_onone, ↓e_osome, ↓e_rev, ↓e_lm, ↓e_append, ↓e_extend, ↓e_pop, ↓e_join, ↓e_dget2, ↓e_sortSet, ↓e_sortS, ↓e_setd, strsOf_map, ↓e_maxI, ↓e_disp, ↓e_pairN, ↓e_pairC, intsOf_map, ↓e_for, ↓e_ilist, ↓e_itup, ↓e_rng1, ↓e_rng2, ↓e_lc, ↓e_lc2, e_lc2N, ↓e_ienum, ↓e_izip, ↓e_anyB, ↓e_allB, ↓e_mulS, blsOf_map, ↓e_set0, ↓e_sadd, ↓e_sortTx, ↓e_sortD, ↓e_repr, ↓e_extT, ↓e_sc2, ↓e_sortZ, ↓e_tupVals, ↓e_wget, ↓e_wix, ↓e_listZip, zipD_nil, zipD_cons, ↓e_dgetF, ↓e_idif,   ↓e_add_int, ↓e_add_str, ↓e_add_tup, ↓e_add_obj, ↓e_iadd_int, ↓e_iadd_str, ↓e_iadd_obj, ↓e_I, ↓e_I0, ↓e_IS_int, ↓e_IS_str, ↓e_eq_str, ↓e_ne_str, ↓e_eq_int, ↓e_ne_int, ↓e_eq_bl, ↓e_ne_bl, ↓e_isN, ↓e_notN, ↓e_ix_tup, ↓e_ix_fl, ↓e_ix_str, ↓e_ix_obj, ↓e_in_tup, ↓e_nin_tup, ↓e_len_tup, ↓e_len_fl, ↓e_len_str, ↓e_len_obj, ↓e_int_int, ↓e_tuple_tup, ↓e_tuple_obj, ↓e_list_tup, ↓e_list_obj, ↓e_dget, ↓e_din, ↓e_dnin, ↓e_lstAt, ↓e_dicAt,   e_key_int, e_key_str, e_up, e_ty_str, e_ty_tup, e_ty_int, e_ty_bl, e_ty_non, atI0, atI1, atI2, atI3, atIL, ixN0, ixN1, cut_from1, e_ite_or, e_ite_and, zln, znl, zli, zil, zni, zin, sizeLine_eq, CMul, CDiv, cpow1018, true_or, or_true, kb_strstr, kb_tupstr, kb_tuptup, kb_strtup, kb_inttup, kb_bltup, kb_nontup, kb_strbl, kb_strint, kb_intbl, kb_intint, kb_blbl, kb_blint, kb_nonbl, kb_nonint, kb_nonstr, kb_intstr, kb_blstr, kb_tupbl, kb_tupint,   List.set_cons_zero, List.set_cons_succ, List.set_nil, List.getElem?_cons_zero, List.getElem?_cons_succ, List.getElem?_nil, List.length_cons, List.length_nil, List.length_map, List.length_append, e_lcN, e_lcC, e_forN, e_forC, List.getLast?_concat, List.dropLast_concat, List.nil_append, List.cons_append, List.append_nil, List.append_assoc, List.reverse_cons, List.reverse_nil, List.isEmpty_nil, List.isEmpty_cons, isEmpty_snoc, List.any_cons, List.any_nil, List.all_cons, List.all_nil, flatD, eqF, in_non, in_tup, in_str, in_int, in_bl, in_obj, in_fl, startA, List.map_cons, List.map_nil, List.replicate_succ, List.replicate_zero,   Nat.reduceAdd, Nat.reduceSub, Nat.reduceLeDiff, Nat.zero_add, Int.reduceLE, Int.reduceLT, Int.reduceToNat, Int.reducePow, Int.reduceNeg, Int.reduceAdd, Int.reduceSub,   Option.isSome_some, Option.isSome_none, Bool.not_true, Bool.not_false, Bool.not_eq_true', Bool.not_eq_eq_eq_not, Bool.not_eq_true, Bool.false_eq_true, Bool.true_eq_false, Bool.and_true, Bool.true_and, Bool.or_false, Bool.false_or, Bool.or_true, Bool.true_or, Bool.and_false, Bool.false_and, if_true, if_false, ite_true, ite_false, reduceIte, reduceCtorEq, decide_true, decide_false, decide_eq_true_eq, decide_eq_false_iff_not, true_and, and_true, eq_self, ne_eq, not_false_eq_true, not_true_eq_false, and_self, *])
    refine ⟨rfl, o3, [96], [32], drw p, rfl, h3, (fun z => by rw [z] at dl; exact absurd dl.2 (by decide)), by omega, by decide, by decide, (fun x hr => by have := drw_wide p hal.1 x hr; omega), fun o4 M4 no4 e4 h4 => ?_⟩
    have h24 := e4 _ _ (e3 _ _ h2)
    have u1 := under_len [43] [124] (drw r)
    have u2 := under_len [96] [32] (drw p)
    have s1 : (rowsD (under [43] [124] (drw r))).length = (under [43] [124] (drw r)).length := List.length_map _
    have s2 : (rowsD (under [96] [32] (drw p))).length = (under [96] [32] (drw p)).length := List.length_map _
    try (simp only [↓e_seq, ↓e_next, ↓e_break, ↓e_cont, ↓e_expr, ↓e_ret, ↓e_retN, ↓e_if, ↓e_never, ↓e_asg, ↓e_name, ↓e_agtup, ↓e_agcons, ↓e_agnil, ↓e_agsub, ↓e_aug, ↓e_dput, ↓e_var, ↓e_c, ↓e_op, ↓e_some, ↓e_none, ↓e_test, ↓e_and, ↓e_or, ↓e_not, ↓e_yes, ↓e_truth,   ↓e_tru_bl, ↓e_tru_int, ↓e_tru_non, ↓e_tru_str, ↓e_tru_tup, ↓e_tru_obj, ↓e_chain, ↓e_orV, ↓e_andV, ↓e_notV, ↓e_ifE, ↓e_neg, ↓e_nil, ↓e_cons, ↓e_tup, ↓e_lst, ↓e_dnew, ↓e_call, ↓e_cb, ↓e_isi, ↓e_sl, ↓e_onone, ↓e_osome, ↓e_rev, ↓e_lm, ↓e_append, ↓e_extend, ↓e_pop, ↓e_join, ↓e_dget2, ↓e_sortSet, ↓e_sortS, ↓e_setd, strsOf_map, ↓e_maxI, ↓e_disp, ↓e_pairN, ↓e_pairC, intsOf_map, ↓e_for, ↓e_ilist, ↓e_itup, ↓e_rng1, ↓e_rng2, ↓e_lc, ↓e_lc2, e_lc2N, ↓e_ienum, ↓e_izip, ↓e_anyB, ↓e_allB, ↓e_mulS, blsOf_map, ↓e_set0, ↓e_sadd, ↓e_sortTx, ↓e_sortD, ↓e_repr, ↓e_extT, ↓e_sc2, ↓e_sortZ, ↓e_tupVals, ↓e_wget, ↓e_wix, ↓e_listZip, zipD_nil, zipD_cons, ↓e_dgetF, ↓e_idif,   ↓e_add_int, ↓e_add_str, ↓e_add_tup, ↓e_add_obj, ↓e_iadd_int, ↓e_iadd_str, ↓e_iadd_obj, ↓e_I, ↓e_I0, ↓e_IS_int, ↓e_IS_str, ↓e_eq_str, ↓e_ne_str, ↓e_eq_int, ↓e_ne_int, ↓e_eq_bl, ↓e_ne_bl, ↓e_isN, ↓e_notN, ↓e_ix_tup, ↓e_ix_fl, ↓e_ix_str, ↓e_ix_obj, ↓e_in_tup, ↓e_nin_tup, ↓e_len_tup, ↓e_len_fl, ↓e_len_str, ↓e_len_obj, ↓e_int_int, ↓e_tuple_tup, ↓e_tuple_obj, ↓e_list_tup, ↓e_list_obj, ↓e_dget, ↓e_din, ↓e_dnin, ↓e_lstAt, ↓e_dicAt,   e_key_int, e_key_str, e_up, e_ty_str, e_ty_tup, e_ty_int, e_ty_bl, e_ty_non, atI0, atI1, atI2, atI3, atIL, ixN0, ixN1, cut_from1, e_ite_or, e_ite_and, zln, znl, zli, zil, zni, zin, sizeLine_eq, CMul, CDiv, cpow1018, true_or, or_true, kb_strstr, kb_tupstr, kb_tuptup, kb_strtup, kb_inttup, kb_bltup, kb_nontup, kb_strbl, kb_strint, kb_intbl, kb_intint, kb_blbl, kb_blint, kb_nonbl, kb_nonint, kb_nonstr, kb_intstr, kb_blstr, kb_tupbl, kb_tupint,   List.set_cons_zero, List.set_cons_succ, List.set_nil, List.getElem?_cons_zero, List.getElem?_cons_succ, List.getElem?_nil, List.length_cons, List.length_nil, List.length_map, List.length_append, e_lcN, e_lcC, e_forN, e_forC, List.getLast?_concat, List.dropLast_concat, List.nil_append, List.cons_append, List.append_nil, List.append_assoc, List.reverse_cons, List.reverse_nil, List.isEmpty_nil, List.isEmpty_cons, isEmpty_snoc, List.any_cons, List.any_nil, List.all_cons, List.all_nil, flatD, eqF, in_non, in_tup, in_str, in_int, in_bl, in_obj, in_fl, startA, List.map_cons, List.map_nil, List.replicate_succ, List.replicate_zero,   Nat.reduceAdd, Nat.reduceSub, Nat.reduceLeDiff, Nat.zero_add, Int.reduceLE, Int.reduceLT, Int.reduceToNat, Int.reducePow, Int.reduceNeg, Int.reduceAdd, Int.reduceSub,   Option.isSome_some, Option.isSome_none, Bool.not_true, Bool.not_false, Bool.not_eq_true', Bool.not_eq_eq_eq_not, Bool.not_eq_true, Bool.false_eq_true, Bool.true_eq_false, Bool.and_true, Bool.true_and, Bool.or_false, Bool.false_or, Bool.or_true, Bool.true_or, Bool.and_false, Bool.false_and, if_true, if_false, ite_true, ite_false, reduceIte, reduceCtorEq, decide_true, decide_false, decide_eq_true_eq, decide_eq_false_iff_not, true_and, and_true, eq_self, ne_eq, not_false_eq_true, not_true_eq_false, and_self, *])
    refine ⟨by omega, fun o5 no5 => ?_⟩
    have ex := ((e1.trans e2).trans e3).trans e4
    refine q o5 _ (ex.none no5) (ex.trans (Ext.new no5)) ?_
    rw [up_same]
    show _ = some (MO.lst (rowsD (under [43] [124] (drw r) ++ under [96] [32] (drw p))))
    unfold rowsD
    rw [List.map_append]

abbrev Wk := Nat × Option Fm
def sgn (x : Wk) : Nat := if x.1 = 43 ∧ x.2 = none then 124 else 32
def sg (ws : List Wk) : List Nat := (ws.map sgn).reverse
def pre : List Wk → List Nat
  | [] => []
  | _ :: ws => sg ws ++ [96]
theorem sg_cons (x : Wk) (ws : List Wk) : sg (x :: ws) = sg ws ++ [sgn x] := by unfold sg; rw [List.map_cons, List.reverse_cons]
theorem sg_len (ws : List Wk) : (sg ws).length = ws.length := by unfold sg; rw [List.length_reverse, List.length_map]
theorem pre_len (ws : List Wk) : (pre ws).length = ws.length := by
  cases ws with
  | nil => rfl
  | cons x ws => show (sg ws ++ [96]).length = _; rw [List.length_append, sg_len]; rfl
def dw : List Wk → Fm → List Wk × Option Fm
  | [], f => ([], some f)
  | (c, o) :: ws, f => if c = 43 then (match o with
      | none => ((43, some f) :: ws, none)
      | some g => dw ws (.im f g)) else if c = 42 then dw ws (.ng f) else dw ws f
theorem dw_star (o : Option Fm) (ws : List Wk) (f : Fm) : dw ((42, o) :: ws) f = dw ws (.ng f) := rfl
theorem dw_open (ws : List Wk) (f : Fm) : dw ((43, none) :: ws) f = ((43, some f) :: ws, none) := rfl
theorem dw_shut (g : Fm) (ws : List Wk) (f : Fm) : dw ((43, some g) :: ws) f = dw ws (.im f g) := rfl
def mk (ss : List Nat) (ws : List Wk) : List Wk := (ss.map fun c => (c, none)).reverse ++ ws
theorem mk_cons (s : Nat) (ss : List Nat) (ws : List Wk) : mk (s :: ss) ws = mk ss ((s, none) :: ws) := by unfold mk; rw [List.map_cons, List.reverse_cons, List.append_assoc]; rfl
theorem mk_snoc (s : Nat) (ss : List Nat) (ws : List Wk) : mk (ss ++ [s]) ws = (s, none) :: mk ss ws := by unfold mk; rw [List.map_append, List.reverse_append]; rfl
theorem mk_len (ss : List Nat) (ws : List Wk) : (mk ss ws).length = ss.length + ws.length := by unfold mk; rw [List.length_append, List.length_reverse, List.length_map]
def SO (ss : List Nat) : Prop := (∃ t, ss = t ++ [45]) ∧ ∀ c ∈ ss, c = 45 ∨ c = 42 ∨ c = 43
theorem SO.one : SO [45] := ⟨⟨[], rfl⟩, fun c h => .inl (List.mem_singleton.mp h)⟩
theorem SO.cons {c : Nat} {ss : List Nat} (hc : c = 45 ∨ c = 42 ∨ c = 43) (h : SO ss) : SO (c :: ss) := by
  obtain ⟨⟨t, rfl⟩, h2⟩ := h
  exact ⟨⟨c :: t, rfl⟩, fun x hx => (List.mem_cons.mp hx).elim (fun z => z ▸ hc) (h2 x)⟩
def NmOk (nm : List Nat) : Prop := (∃ c, nm = [c] ∧ smallC c = true) ∨ ∃ c e, nm = [c, e] ∧ smallC c = true ∧ digitC e = true
def RdR : List (List Nat) → List Wk → Option Fm → Fm → Prop
  | [], _, o, f => o = some f
  | r :: rs, ws, o, f => o = none ∧ ∃ ss nm, r = pre ws ++ (ss ++ 32 :: nm) ∧ SO ss ∧ NmOk nm ∧ RdR rs (dw (mk ss ws) (.lt (S nm))).1 (dw (mk ss ws) (.lt (S nm))).2 f
def Reads (f : Fm) (R : List (List Nat)) : Prop := ∃ ss nm rs, R = (ss ++ 32 :: nm) :: rs ∧ SO ss ∧ NmOk nm ∧ ∀ ws more g, RdR more (dw ws f).1 (dw ws f).2 g →
  RdR (rs.map (fun r => sg ws ++ r) ++ more) (dw (mk ss ws) (.lt (S nm))).1 (dw (mk ss ws) (.lt (S nm))).2 g
theorem Reads.ne {f : Fm} {R : List (List Nat)} (h : Reads f R) : R ≠ [] := by
  obtain ⟨ss, nm, rs, rfl, _⟩ := h
  exact List.cons_ne_nil _ _
theorem Reads.lt {s : Str} (h : nameOk s) : Reads (.lt s) [45 :: 32 :: TL.tl s] := ⟨[45], TL.tl s, [], rfl, SO.one, h, fun ws more g z => by
  show RdR more (dw ((45, none) :: ws) (.lt (S (TL.tl s)))).1 (dw ((45, none) :: ws) (.lt (S (TL.tl s)))).2 g
  rw [S_tl]
  exact z⟩
theorem map_sg (ws : List Wk) (x : Wk) (rs : List (List Nat)) : (rs.map fun r => [sgn x] ++ r).map (fun r => sg ws ++ r) = rs.map fun r => sg (x :: ws) ++ r := by
  rw [List.map_map, sg_cons]
  exact List.map_congr_left fun r _ => by show sg ws ++ ([sgn x] ++ r) = _; rw [List.append_assoc]
theorem Reads.under1 {p f : Fm} {c : Nat} {R : List (List Nat)} (hc : c = 45 ∨ c = 42) (hd : ∀ ws, dw ((c, none) :: ws) p = dw ws f) (h : Reads p R) : Reads f (under [c] [32] R) := by
  obtain ⟨ss, nm, rs, rfl, hs, hn, k⟩ := h
  have e : sgn (c, none) = 32 := by unfold sgn; rw [if_neg (fun z => by rcases hc with q | q <;> (rw [q] at z; exact absurd z.1 (by decide)))]
  refine ⟨c :: ss, nm, rs.map fun r => [32] ++ r, rfl, hs.cons (hc.elim .inl fun z => .inr (.inl z)), hn, fun ws more g z => ?_⟩
  have y := map_sg ws (c, none) rs
  rw [e] at y
  rw [y, mk_cons]
  refine k ((c, none) :: ws) more g ?_
  rw [hd]
  exact z
theorem Reads.ng {p : Fm} {R : List (List Nat)} (h : Reads p R) : Reads (.ng p) (under [42] [32] R) := h.under1 (.inr rfl) fun ws => rfl
theorem Reads.im {p q : Fm} {R1 R2 : List (List Nat)} (h1 : Reads p R1) (h2 : Reads q R2) : Reads (.im p q) (under [43] [124] R2 ++ under [96] [32] R1) := by
  obtain ⟨ss1, nm1, rs1, rfl, hs1, hn1, k1⟩ := h1
  obtain ⟨ss2, nm2, rs2, rfl, hs2, hn2, k2⟩ := h2
  refine ⟨43 :: ss2, nm2, (rs2.map fun r => [124] ++ r) ++ ([96] ++ (ss1 ++ 32 :: nm1)) :: rs1.map fun r => [32] ++ r, rfl, hs2.cons (.inr (.inr rfl)), hn2, fun ws more g z => ?_⟩
  rw [List.map_append, List.map_cons, mk_cons, List.append_assoc]
  have y2 := map_sg ws (43, none) rs2
  have y1 := map_sg ws (43, some q) rs1
  rw [show sgn (43, none) = 124 from rfl] at y2
  rw [show sgn (43, some q) = 32 from rfl] at y1
  rw [y1, y2]
  refine k2 ((43, none) :: ws) _ g ?_
  rw [dw_open]
  refine ⟨rfl, ss1, nm1, ?_, hs1, hn1, ?_⟩
  · show sg ws ++ ([96] ++ (ss1 ++ 32 :: nm1)) = (sg ws ++ [96]) ++ _
    rw [List.append_assoc]
  · exact k1 ((43, some q) :: ws) more g (by rw [dw_shut]; exact z)
theorem Reads.read {f : Fm} {R : List (List Nat)} (h : Reads f R) : RdR R [] none f := by
  obtain ⟨ss, nm, rs, rfl, hs, hn, k⟩ := h
  refine ⟨rfl, ss, nm, rfl, hs, hn, ?_⟩
  have z := k [] [] f rfl
  rw [List.append_nil] at z
  have e : rs.map (fun r => sg [] ++ r) = rs := List.map_id' _
  rw [e] at z
  exact z
/- slots of read_drawing: 0 rows, 1 waiting, 2 formula, 3 row, 4 signs -/
def a_read_drawing (A_drawn_whole : ASp) (A_letter_of : ASp) : ATS :=
    (aSeq (aAsg (aLst aNil) (agName 1))
    (aSeq (aAsg (aC .non) (agName 2))
    (aSeq (aFor (aIEnum (aCons (aVar 0) aNil)) (agTup 2 (agCons (agName 3) (agCons (agName 4) agNil))) (aSeq (aIf (aTest (aOp (ρIsN true) (aVar 2) (aC .non))) aNever aNext)
    (aAsg (aCall 2 A_drawn_whole (aCons (aVar 1) (aCons (aCall 3 A_letter_of (aCons (aVar 1) (aCons (aVar 3) (aCons (aVar 4) aNil)))) aNil))) (agName 2))))
    (aSeq (aIf (aTest (aOp (ρIsN false) (aVar 2) (aC .non))) aNever aNext)
    (aRet (aVar 2))))))
/- slots of letter_of: 0 waiting, 1 row, 2 signs, 3 column, 4 end -/
def a_letter_of (A_strokes_end : ASp) (A_is_small : ASp) (A_is_digit : ASp) : ATS :=
    (aSeq (aAsg (aCall 3 A_strokes_end (aCons (aVar 0) (aCons (aVar 1) (aCons (aVar 2) aNil)))) (agName 3))
    (aSeq (aIf (aTest (aOp (ρEq true) (aSl (aVar 2) (aOSome (aVar 3)) (aOSome (aOp ρAdd (aVar 3) (aC (.int 1))))) (aC (.str z__20_)))) aNever aNext)
    (aSeq (aAsg (aOp ρAdd (aVar 3) (aC (.int 2))) (agName 4))
    (aSeq (aIf (aNot (aTruth (aCall 1 A_is_small (aCons (aSl (aVar 2) (aOSome (aOp ρAdd (aVar 3) (aC (.int 1)))) (aOSome (aVar 4))) aNil)))) aNever aNext)
    (aSeq (aIf (aTruth (aCall 1 A_is_digit (aCons (aSl (aVar 2) (aOSome (aVar 4)) (aOSome (aOp ρAdd (aVar 4) (aC (.int 1))))) aNil))) (aAug ρIAdd 4 (aC (.int 1))) aNext)
    (aSeq (aIf (aTest (aOp ρLt (aVar 4) (aCB ρLen (aCons (aVar 2) aNil)))) aNever aNext)
    (aRet (aTup (aCons (aC (.str z_letter)) (aCons (aSl (aVar 2) (aOSome (aOp ρAdd (aVar 3) (aC (.int 1)))) (aOSome (aVar 4))) aNil))))))))))
/- slots of strokes_end: 0 waiting, 1 row, 2 signs, 3 start, 4 column -/
def a_strokes_end (A_signs_before : ASp) : ATS :=
    (aSeq (aAsg (aCall 3 A_signs_before (aCons (aVar 0) (aCons (aVar 1) (aCons (aVar 2) aNil)))) (agName 3))
    (aSeq (aAsg (aVar 3) (agName 4))
    (aSeq (aWhile (aTest (aOp (ρIn false) (aSl (aVar 2) (aOSome (aVar 4)) (aOSome (aOp ρAdd (aVar 4) (aC (.int 1))))) (aTup (aCons (aC (.str z__2d_)) (aCons (aC (.str z__2a_)) (aCons (aC (.str z__2b_)) aNil)))))) (aSeq (aExpr (aLm ρAppend (aVar 0) (aCons (aTup (aCons (aOp ρIx (aVar 2) (aVar 4)) (aCons (aC .non) aNil))) aNil)))
    (aAug ρIAdd 4 (aC (.int 1)))))
    (aSeq (aIf (aOr (aTest (aOp (ρEq false) (aVar 4) (aVar 3))) (aTest (aOp (ρEq true) (aOp ρIx (aVar 2) (aOp ρSub (aVar 4) (aC (.int 1)))) (aC (.str z__2d_))))) aNever aNext)
    (aRet (aVar 4))))))
/- slots of signs_before: 0 waiting, 1 row, 2 signs, 3 wanted, 4 column, 5 sign, 6 stroke, 7 consequence -/
def a_signs_before (A_is_open : ASp) : ATS :=
    (aSeq (aAsg (aLc2 (aIList (aVar 0)) 6 7 aYes (aIfE (aTruth (aCall 2 A_is_open (aCons (aVar 6) (aCons (aVar 7) aNil)))) (aC (.str z__7c_)) (aC (.str z__20_)))) (agName 3))
    (aSeq (aIf (aTruth (aVar 3)) (aAsg (aC (.str z__60_)) (agSub (aVar 3) (aNeg (aC (.int 1))))) aNext)
    (aSeq (aFor (aIEnum (aCons (aVar 3) aNil)) (agTup 2 (agCons (agName 4) (agCons (agName 5) agNil))) (aIf (aTest (aOp (ρEq true) (aSl (aVar 2) (aOSome (aVar 4)) (aOSome (aOp ρAdd (aVar 4) (aC (.int 1))))) (aVar 5))) aNever aNext))
    (aRet (aCB ρLen (aCons (aVar 3) aNil))))))
/- slots of is_open: 0 stroke, 1 consequence -/
def a_is_open  : ATS :=
    (aRet (aAndV (aOp (ρEq false) (aVar 0) (aC (.str z__2b_))) (aOp (ρIsN false) (aVar 1) (aC .non))))
/- slots of drawn_whole: 0 waiting, 1 formula, 2 stroke, 3 consequence -/
def a_drawn_whole (A_is_open : ASp) : ATS :=
    (aSeq (aWhile (aTruth (aVar 0)) (aSeq (aAsg (aPop (aVar 0)) (agTup 2 (agCons (agName 2) (agCons (agName 3) agNil))))
    (aSeq (aIf (aTruth (aCall 2 A_is_open (aCons (aVar 2) (aCons (aVar 3) aNil)))) (aSeq (aExpr (aLm ρAppend (aVar 0) (aCons (aTup (aCons (aVar 2) (aCons (aVar 1) aNil))) aNil)))
    (aRet (aC .non))) aNext)
    (aIf (aTest (aOp (ρEq false) (aVar 2) (aC (.str z__2b_)))) (aAsg (aTup (aCons (aC (.str z_if)) (aCons (aVar 1) (aCons (aVar 3) aNil)))) (agName 1)) (aIf (aTest (aOp (ρEq false) (aVar 2) (aC (.str z__2a_)))) (aAsg (aTup (aCons (aC (.str z_not)) (aCons (aVar 1) aNil))) (agName 1)) aNext)))))
    (aRet (aVar 1)))

theorem cut1 (cs : List Nat) (i : Nat) (hi : i ≤ cs.length) : cutS (S cs) (some (i : Int)) (some ((i : Int) + 1)) = S ((cs.drop i).take 1) := by
  unfold cutS
  have e1 : HT.sIx (S cs).length 0 (some (i : Int)) = i := by rw [HT.sIx_nat, S_len]; omega
  have e2 : HT.sIx (S cs).length (S cs).length (some ((i : Int) + 1)) = min (i + 1) cs.length := by
    rw [show ((i : Int) + 1) = ((i + 1 : Nat) : Int) by omega, HT.sIx_nat, S_len]
  rw [e1, e2]
  show S (((cs.drop i)).take (min (i + 1) cs.length - i)) = _
  by_cases h : i + 1 ≤ cs.length
  · rw [show min (i + 1) cs.length - i = 1 by omega]
  · rw [show min (i + 1) cs.length - i = cs.length - i by omega, List.take_of_length_le (by rw [List.length_drop]; omega), List.take_of_length_le (by rw [List.length_drop]; omega)]
def Wk.d (x : Wk) : D := .tup [.str (S [x.1]), oD x.2]
def wkD (ws : List Wk) : List D := ws.reverse.map Wk.d
theorem wkD_cons (w : Wk) (ws : List Wk) : wkD (w :: ws) = wkD ws ++ [Wk.d w] := by unfold wkD; rw [List.reverse_cons, List.map_append]; rfl
theorem wkD_nil : wkD [] = [] := rfl
theorem wkD_len (ws : List Wk) : (wkD ws).length = ws.length := by unfold wkD; rw [List.length_map, List.length_reverse]
def opn (c : Nat) (o : Option Fm) : Bool := decide (c = 43) && o.isNone
theorem sgn_opn (x : Wk) : sgn x = if opn x.1 x.2 then 124 else 32 := by
  unfold sgn opn
  obtain ⟨c, o⟩ := x
  cases o with
  | none => by_cases h : c = 43 <;> simp [h]
  | some f => simp
def A_is_open : ASp := fun ds M Q _ => ∃ (c : Nat) (o : Option Fm), ds = [.str (S [c]), oD o] ∧ Q (.bl (opn c o)) M
theorem p_is_open (ds : List D) (M : Sto) (Q : D → Sto → Prop) (Xa) (hl : ds.length = 2) (h : A_is_open ds M Q Xa) : a_is_open ax0 (Done Q) (startA ["stroke", "consequence"] ds) M := by
  obtain ⟨c, o, rfl, q⟩ := h
  unfold a_is_open
  have z1 := zS_plus
  have hS := @S_eq
  by_cases hc : c = 43
  · subst hc
    cases o with
    | none =>
      have e : oD none = .non := rfl
      try (simp only [↓e_seq, ↓e_next, ↓e_break, ↓e_cont, ↓e_expr, ↓e_ret, ↓e_retN, ↓e_if, ↓e_never, ↓e_asg, ↓e_name, ↓e_agtup, ↓e_agcons, ↓e_agnil, ↓e_agsub, ↓e_aug, ↓e_dput, ↓e_var, ↓e_c, ↓e_op, ↓e_some, ↓e_none, ↓e_test, ↓e_and, ↓e_or, ↓e_not, ↓e_yes, ↓e_truth,   ↓e_tru_bl, ↓e_tru_int, ↓e_tru_non, ↓e_tru_str, ↓e_tru_tup, ↓e_tru_obj, ↓e_chain, ↓e_orV, ↓e_andV, ↓e_notV, ↓e_ifE, ↓e_neg, ↓e_nil, ↓e_cons, ↓e_tup, ↓e_lst, ↓e_dnew, ↓e_call, ↓e_cb, ↓e_isi, ↓e_sl, ↓e_onone, ↓e_osome, ↓e_rev, ↓e_lm, ↓e_append, ↓e_extend, ↓e_pop, ↓e_join, ↓e_dget2, ↓e_sortSet, ↓e_sortS, ↓e_setd, strsOf_map, ↓e_maxI, ↓e_disp, ↓e_pairN, ↓e_pairC, intsOf_map, ↓e_for, ↓e_ilist, ↓e_itup, ↓e_rng1, ↓e_rng2, ↓e_lc, ↓e_lc2, e_lc2N, ↓e_ienum, ↓e_izip, ↓e_anyB, ↓e_allB, ↓e_mulS, blsOf_map, ↓e_set0, ↓e_sadd, ↓e_sortTx, ↓e_sortD, ↓e_repr, ↓e_extT, ↓e_sc2, ↓e_sortZ, ↓e_tupVals, ↓e_wget, ↓e_wix, ↓e_listZip, zipD_nil, zipD_cons, ↓e_dgetF, ↓e_idif,   ↓e_add_int, ↓e_add_str, ↓e_add_tup, ↓e_add_obj, ↓e_iadd_int, ↓e_iadd_str, ↓e_iadd_obj, ↓e_I, ↓e_I0, ↓e_IS_int, ↓e_IS_str, ↓e_eq_str, ↓e_ne_str, ↓e_eq_int, ↓e_ne_int, ↓e_eq_bl, ↓e_ne_bl, ↓e_isN, ↓e_notN, ↓e_ix_tup, ↓e_ix_fl, ↓e_ix_str, ↓e_ix_obj, ↓e_in_tup, ↓e_nin_tup, ↓e_len_tup, ↓e_len_fl, ↓e_len_str, ↓e_len_obj, ↓e_int_int, ↓e_tuple_tup, ↓e_tuple_obj, ↓e_list_tup, ↓e_list_obj, ↓e_dget, ↓e_din, ↓e_dnin, ↓e_lstAt, ↓e_dicAt,   e_key_int, e_key_str, e_up, e_ty_str, e_ty_tup, e_ty_int, e_ty_bl, e_ty_non, atI0, atI1, atI2, atI3, atIL, ixN0, ixN1, cut_from1, e_ite_or, e_ite_and, zln, znl, zli, zil, zni, zin, sizeLine_eq, CMul, CDiv, cpow1018, true_or, or_true, kb_strstr, kb_tupstr, kb_tuptup, kb_strtup, kb_inttup, kb_bltup, kb_nontup, kb_strbl, kb_strint, kb_intbl, kb_intint, kb_blbl, kb_blint, kb_nonbl, kb_nonint, kb_nonstr, kb_intstr, kb_blstr, kb_tupbl, kb_tupint,   List.set_cons_zero, List.set_cons_succ, List.set_nil, List.getElem?_cons_zero, List.getElem?_cons_succ, List.getElem?_nil, List.length_cons, List.length_nil, List.length_map, List.length_append, e_lcN, e_lcC, e_forN, e_forC, List.getLast?_concat, List.dropLast_concat, List.nil_append, List.cons_append, List.append_nil, List.append_assoc, List.reverse_cons, List.reverse_nil, List.isEmpty_nil, List.isEmpty_cons, isEmpty_snoc, List.any_cons, List.any_nil, List.all_cons, List.all_nil, flatD, eqF, in_non, in_tup, in_str, in_int, in_bl, in_obj, in_fl, startA, List.map_cons, List.map_nil, List.replicate_succ, List.replicate_zero,   Nat.reduceAdd, Nat.reduceSub, Nat.reduceLeDiff, Nat.zero_add, Int.reduceLE, Int.reduceLT, Int.reduceToNat, Int.reducePow, Int.reduceNeg, Int.reduceAdd, Int.reduceSub,   Option.isSome_some, Option.isSome_none, Bool.not_true, Bool.not_false, Bool.not_eq_true', Bool.not_eq_eq_eq_not, Bool.not_eq_true, Bool.false_eq_true, Bool.true_eq_false, Bool.and_true, Bool.true_and, Bool.or_false, Bool.false_or, Bool.or_true, Bool.true_or, Bool.and_false, Bool.false_and, if_true, if_false, ite_true, ite_false, reduceIte, reduceCtorEq, decide_true, decide_false, decide_eq_true_eq, decide_eq_false_iff_not, true_and, and_true, eq_self, ne_eq, not_false_eq_true, not_true_eq_false, and_self, *])
      exact q
    | some f =>
      have e : isNon (oD (some f)) = false := oD_isNon f
      have e2 : opn 43 (some f) = false := rfl
      rw [e2] at q
      try (simp only [↓e_seq, ↓e_next, ↓e_break, ↓e_cont, ↓e_expr, ↓e_ret, ↓e_retN, ↓e_if, ↓e_never, ↓e_asg, ↓e_name, ↓e_agtup, ↓e_agcons, ↓e_agnil, ↓e_agsub, ↓e_aug, ↓e_dput, ↓e_var, ↓e_c, ↓e_op, ↓e_some, ↓e_none, ↓e_test, ↓e_and, ↓e_or, ↓e_not, ↓e_yes, ↓e_truth,   ↓e_tru_bl, ↓e_tru_int, ↓e_tru_non, ↓e_tru_str, ↓e_tru_tup, ↓e_tru_obj, ↓e_chain, ↓e_orV, ↓e_andV, ↓e_notV, ↓e_ifE, ↓e_neg, ↓e_nil, ↓e_cons, ↓e_tup, ↓e_lst, ↓e_dnew, ↓e_call, ↓e_cb, ↓e_isi, ↓e_sl, ↓e_onone, ↓e_osome, ↓e_rev, ↓e_lm, ↓e_append, ↓e_extend, ↓e_pop, ↓e_join, ↓e_dget2, ↓e_sortSet, ↓e_sortS, ↓e_setd, strsOf_map, ↓e_maxI, ↓e_disp, ↓e_pairN, ↓e_pairC, intsOf_map, ↓e_for, ↓e_ilist, ↓e_itup, ↓e_rng1, ↓e_rng2, ↓e_lc, ↓e_lc2, e_lc2N, ↓e_ienum, ↓e_izip, ↓e_anyB, ↓e_allB, ↓e_mulS, blsOf_map, ↓e_set0, ↓e_sadd, ↓e_sortTx, ↓e_sortD, ↓e_repr, ↓e_extT, ↓e_sc2, ↓e_sortZ, ↓e_tupVals, ↓e_wget, ↓e_wix, ↓e_listZip, zipD_nil, zipD_cons, ↓e_dgetF, ↓e_idif,   ↓e_add_int, ↓e_add_str, ↓e_add_tup, ↓e_add_obj, ↓e_iadd_int, ↓e_iadd_str, ↓e_iadd_obj, ↓e_I, ↓e_I0, ↓e_IS_int, ↓e_IS_str, ↓e_eq_str, ↓e_ne_str, ↓e_eq_int, ↓e_ne_int, ↓e_eq_bl, ↓e_ne_bl, ↓e_isN, ↓e_notN, ↓e_ix_tup, ↓e_ix_fl, ↓e_ix_str, ↓e_ix_obj, ↓e_in_tup, ↓e_nin_tup, ↓e_len_tup, ↓e_len_fl, ↓e_len_str, ↓e_len_obj, ↓e_int_int, ↓e_tuple_tup, ↓e_tuple_obj, ↓e_list_tup, ↓e_list_obj, ↓e_dget, ↓e_din, ↓e_dnin, ↓e_lstAt, ↓e_dicAt,   e_key_int, e_key_str, e_up, e_ty_str, e_ty_tup, e_ty_int, e_ty_bl, e_ty_non, atI0, atI1, atI2, atI3, atIL, ixN0, ixN1, cut_from1, e_ite_or, e_ite_and, zln, znl, zli, zil, zni, zin, sizeLine_eq, CMul, CDiv, cpow1018, true_or, or_true, kb_strstr, kb_tupstr, kb_tuptup, kb_strtup, kb_inttup, kb_bltup, kb_nontup, kb_strbl, kb_strint, kb_intbl, kb_intint, kb_blbl, kb_blint, kb_nonbl, kb_nonint, kb_nonstr, kb_intstr, kb_blstr, kb_tupbl, kb_tupint,   List.set_cons_zero, List.set_cons_succ, List.set_nil, List.getElem?_cons_zero, List.getElem?_cons_succ, List.getElem?_nil, List.length_cons, List.length_nil, List.length_map, List.length_append, e_lcN, e_lcC, e_forN, e_forC, List.getLast?_concat, List.dropLast_concat, List.nil_append, List.cons_append, List.append_nil, List.append_assoc, List.reverse_cons, List.reverse_nil, List.isEmpty_nil, List.isEmpty_cons, isEmpty_snoc, List.any_cons, List.any_nil, List.all_cons, List.all_nil, flatD, eqF, in_non, in_tup, in_str, in_int, in_bl, in_obj, in_fl, startA, List.map_cons, List.map_nil, List.replicate_succ, List.replicate_zero,   Nat.reduceAdd, Nat.reduceSub, Nat.reduceLeDiff, Nat.zero_add, Int.reduceLE, Int.reduceLT, Int.reduceToNat, Int.reducePow, Int.reduceNeg, Int.reduceAdd, Int.reduceSub,   Option.isSome_some, Option.isSome_none, Bool.not_true, Bool.not_false, Bool.not_eq_true', Bool.not_eq_eq_eq_not, Bool.not_eq_true, Bool.false_eq_true, Bool.true_eq_false, Bool.and_true, Bool.true_and, Bool.or_false, Bool.false_or, Bool.or_true, Bool.true_or, Bool.and_false, Bool.false_and, if_true, if_false, ite_true, ite_false, reduceIte, reduceCtorEq, decide_true, decide_false, decide_eq_true_eq, decide_eq_false_iff_not, true_and, and_true, eq_self, ne_eq, not_false_eq_true, not_true_eq_false, and_self, *])
  · have e3 : opn c o = false := by unfold opn; rw [decide_eq_false hc]; rfl
    have e4 : ([c] : List Nat) ≠ [43] := fun z => hc (by injection z)
    rw [e3] at q
    try (simp only [↓e_seq, ↓e_next, ↓e_break, ↓e_cont, ↓e_expr, ↓e_ret, ↓e_retN, ↓e_if, ↓e_never, ↓e_asg, ↓e_name, ↓e_agtup, ↓e_agcons, ↓e_agnil, ↓e_agsub, ↓e_aug, ↓e_dput, ↓e_var, ↓e_c, ↓e_op, ↓e_some, ↓e_none, ↓e_test, ↓e_and, ↓e_or, ↓e_not, ↓e_yes, ↓e_truth,   ↓e_tru_bl, ↓e_tru_int, ↓e_tru_non, ↓e_tru_str, ↓e_tru_tup, ↓e_tru_obj, ↓e_chain, ↓e_orV, ↓e_andV, ↓e_notV, ↓e_ifE, ↓e_neg, ↓e_nil, ↓e_cons, ↓e_tup, ↓e_lst, ↓e_dnew, ↓e_call, ↓e_cb, ↓e_isi, ↓e_sl, ↓e_onone, ↓e_osome, ↓e_rev, ↓e_lm, ↓e_append, ↓e_extend, ↓e_pop, ↓e_join, ↓e_dget2, ↓e_sortSet, ↓e_sortS, ↓e_setd, strsOf_map, ↓e_maxI, ↓e_disp, ↓e_pairN, ↓e_pairC, intsOf_map, ↓e_for, ↓e_ilist, ↓e_itup, ↓e_rng1, ↓e_rng2, ↓e_lc, ↓e_lc2, e_lc2N, ↓e_ienum, ↓e_izip, ↓e_anyB, ↓e_allB, ↓e_mulS, blsOf_map, ↓e_set0, ↓e_sadd, ↓e_sortTx, ↓e_sortD, ↓e_repr, ↓e_extT, ↓e_sc2, ↓e_sortZ, ↓e_tupVals, ↓e_wget, ↓e_wix, ↓e_listZip, zipD_nil, zipD_cons, ↓e_dgetF, ↓e_idif,   ↓e_add_int, ↓e_add_str, ↓e_add_tup, ↓e_add_obj, ↓e_iadd_int, ↓e_iadd_str, ↓e_iadd_obj, ↓e_I, ↓e_I0, ↓e_IS_int, ↓e_IS_str, ↓e_eq_str, ↓e_ne_str, ↓e_eq_int, ↓e_ne_int, ↓e_eq_bl, ↓e_ne_bl, ↓e_isN, ↓e_notN, ↓e_ix_tup, ↓e_ix_fl, ↓e_ix_str, ↓e_ix_obj, ↓e_in_tup, ↓e_nin_tup, ↓e_len_tup, ↓e_len_fl, ↓e_len_str, ↓e_len_obj, ↓e_int_int, ↓e_tuple_tup, ↓e_tuple_obj, ↓e_list_tup, ↓e_list_obj, ↓e_dget, ↓e_din, ↓e_dnin, ↓e_lstAt, ↓e_dicAt,   e_key_int, e_key_str, e_up, e_ty_str, e_ty_tup, e_ty_int, e_ty_bl, e_ty_non, atI0, atI1, atI2, atI3, atIL, ixN0, ixN1, cut_from1, e_ite_or, e_ite_and, zln, znl, zli, zil, zni, zin, sizeLine_eq, CMul, CDiv, cpow1018, true_or, or_true, kb_strstr, kb_tupstr, kb_tuptup, kb_strtup, kb_inttup, kb_bltup, kb_nontup, kb_strbl, kb_strint, kb_intbl, kb_intint, kb_blbl, kb_blint, kb_nonbl, kb_nonint, kb_nonstr, kb_intstr, kb_blstr, kb_tupbl, kb_tupint,   List.set_cons_zero, List.set_cons_succ, List.set_nil, List.getElem?_cons_zero, List.getElem?_cons_succ, List.getElem?_nil, List.length_cons, List.length_nil, List.length_map, List.length_append, e_lcN, e_lcC, e_forN, e_forC, List.getLast?_concat, List.dropLast_concat, List.nil_append, List.cons_append, List.append_nil, List.append_assoc, List.reverse_cons, List.reverse_nil, List.isEmpty_nil, List.isEmpty_cons, isEmpty_snoc, List.any_cons, List.any_nil, List.all_cons, List.all_nil, flatD, eqF, in_non, in_tup, in_str, in_int, in_bl, in_obj, in_fl, startA, List.map_cons, List.map_nil, List.replicate_succ, List.replicate_zero,   Nat.reduceAdd, Nat.reduceSub, Nat.reduceLeDiff, Nat.zero_add, Int.reduceLE, Int.reduceLT, Int.reduceToNat, Int.reducePow, Int.reduceNeg, Int.reduceAdd, Int.reduceSub,   Option.isSome_some, Option.isSome_none, Bool.not_true, Bool.not_false, Bool.not_eq_true', Bool.not_eq_eq_eq_not, Bool.not_eq_true, Bool.false_eq_true, Bool.true_eq_false, Bool.and_true, Bool.true_and, Bool.or_false, Bool.false_or, Bool.or_true, Bool.true_or, Bool.and_false, Bool.false_and, if_true, if_false, ite_true, ite_false, reduceIte, reduceCtorEq, decide_true, decide_false, decide_eq_true_eq, decide_eq_false_iff_not, true_and, and_true, eq_self, ne_eq, not_false_eq_true, not_true_eq_false, and_self, *])
def A_drawn_whole : ASp := fun ds M Q _ => ∃ (p : Addr) (ws : List Wk) (f : Fm), ds = [.obj p, f.d] ∧ M p = some (.lst (wkD ws)) ∧ ws.length ≤ 1000000 ∧ ∀ M', M' p = some (.lst (wkD (dw ws f).1)) → ExtB p M M' → Q (oD (dw ws f).2) M'
theorem p_drawn_whole (ds : List D) (M : Sto) (Q : D → Sto → Prop) (Xa) (hl : ds.length = 2) (h : A_drawn_whole ds M Q Xa) : a_drawn_whole A_is_open ax0 (Done Q) (startA ["waiting", "formula", "stroke", "consequence"] ds) M := by
  obtain ⟨p, ws, f, rfl, hp, hw, q⟩ := h
  unfold a_drawn_whole
  have z1 := zS_plus
  have z2 := zS_star
  have hS := @S_eq
  try (simp only [↓e_seq, ↓e_next, ↓e_break, ↓e_cont, ↓e_expr, ↓e_ret, ↓e_retN, ↓e_if, ↓e_never, ↓e_asg, ↓e_name, ↓e_agtup, ↓e_agcons, ↓e_agnil, ↓e_agsub, ↓e_aug, ↓e_dput, ↓e_var, ↓e_c, ↓e_op, ↓e_some, ↓e_none, ↓e_test, ↓e_and, ↓e_or, ↓e_not, ↓e_yes, ↓e_truth,   ↓e_tru_bl, ↓e_tru_int, ↓e_tru_non, ↓e_tru_str, ↓e_tru_tup, ↓e_tru_obj, ↓e_chain, ↓e_orV, ↓e_andV, ↓e_notV, ↓e_ifE, ↓e_neg, ↓e_nil, ↓e_cons, ↓e_tup, ↓e_lst, ↓e_dnew, ↓e_call, ↓e_cb, ↓e_isi, ↓e_sl, ↓e_onone, ↓e_osome, ↓e_rev, ↓e_lm, ↓e_append, ↓e_extend, ↓e_pop, ↓e_join, ↓e_dget2, ↓e_sortSet, ↓e_sortS, ↓e_setd, strsOf_map, ↓e_maxI, ↓e_disp, ↓e_pairN, ↓e_pairC, intsOf_map, ↓e_for, ↓e_ilist, ↓e_itup, ↓e_rng1, ↓e_rng2, ↓e_lc, ↓e_lc2, e_lc2N, ↓e_ienum, ↓e_izip, ↓e_anyB, ↓e_allB, ↓e_mulS, blsOf_map, ↓e_set0, ↓e_sadd, ↓e_sortTx, ↓e_sortD, ↓e_repr, ↓e_extT, ↓e_sc2, ↓e_sortZ, ↓e_tupVals, ↓e_wget, ↓e_wix, ↓e_listZip, zipD_nil, zipD_cons, ↓e_dgetF, ↓e_idif,   ↓e_add_int, ↓e_add_str, ↓e_add_tup, ↓e_add_obj, ↓e_iadd_int, ↓e_iadd_str, ↓e_iadd_obj, ↓e_I, ↓e_I0, ↓e_IS_int, ↓e_IS_str, ↓e_eq_str, ↓e_ne_str, ↓e_eq_int, ↓e_ne_int, ↓e_eq_bl, ↓e_ne_bl, ↓e_isN, ↓e_notN, ↓e_ix_tup, ↓e_ix_fl, ↓e_ix_str, ↓e_ix_obj, ↓e_in_tup, ↓e_nin_tup, ↓e_len_tup, ↓e_len_fl, ↓e_len_str, ↓e_len_obj, ↓e_int_int, ↓e_tuple_tup, ↓e_tuple_obj, ↓e_list_tup, ↓e_list_obj, ↓e_dget, ↓e_din, ↓e_dnin, ↓e_lstAt, ↓e_dicAt,   e_key_int, e_key_str, e_up, e_ty_str, e_ty_tup, e_ty_int, e_ty_bl, e_ty_non, atI0, atI1, atI2, atI3, atIL, ixN0, ixN1, cut_from1, e_ite_or, e_ite_and, zln, znl, zli, zil, zni, zin, sizeLine_eq, CMul, CDiv, cpow1018, true_or, or_true, kb_strstr, kb_tupstr, kb_tuptup, kb_strtup, kb_inttup, kb_bltup, kb_nontup, kb_strbl, kb_strint, kb_intbl, kb_intint, kb_blbl, kb_blint, kb_nonbl, kb_nonint, kb_nonstr, kb_intstr, kb_blstr, kb_tupbl, kb_tupint,   List.set_cons_zero, List.set_cons_succ, List.set_nil, List.getElem?_cons_zero, List.getElem?_cons_succ, List.getElem?_nil, List.length_cons, List.length_nil, List.length_map, List.length_append, e_lcN, e_lcC, e_forN, e_forC, List.getLast?_concat, List.dropLast_concat, List.nil_append, List.cons_append, List.append_nil, List.append_assoc, List.reverse_cons, List.reverse_nil, List.isEmpty_nil, List.isEmpty_cons, isEmpty_snoc, List.any_cons, List.any_nil, List.all_cons, List.all_nil, flatD, eqF, in_non, in_tup, in_str, in_int, in_bl, in_obj, in_fl, startA, List.map_cons, List.map_nil, List.replicate_succ, List.replicate_zero,   Nat.reduceAdd, Nat.reduceSub, Nat.reduceLeDiff, Nat.zero_add, Int.reduceLE, Int.reduceLT, Int.reduceToNat, Int.reducePow, Int.reduceNeg, Int.reduceAdd, Int.reduceSub,   Option.isSome_some, Option.isSome_none, Bool.not_true, Bool.not_false, Bool.not_eq_true', Bool.not_eq_eq_eq_not, Bool.not_eq_true, Bool.false_eq_true, Bool.true_eq_false, Bool.and_true, Bool.true_and, Bool.or_false, Bool.false_or, Bool.or_true, Bool.true_or, Bool.and_false, Bool.false_and, if_true, if_false, ite_true, ite_false, reduceIte, reduceCtorEq, decide_true, decide_false, decide_eq_true_eq, decide_eq_false_iff_not, true_and, and_true, eq_self, ne_eq, not_false_eq_true, not_true_eq_false, and_self, *])
  refine while_runN (fun n env M' => ∃ (ws' : List Wk) (f' : Fm) (x2 x3 : Option D), env = [some (.obj p), some f'.d, x2, x3] ∧ M' p = some (.lst (wkD ws')) ∧ ExtB p M M' ∧ dw ws f = dw ws' f' ∧ ws'.length ≤ 1000000 ∧ n = ws'.length) ?_ (n := ws.length) ⟨ws, f, none, none, rfl, hp, ExtB.refl _ _, rfl, hw, rfl⟩
  rintro n N env M' ⟨ws', f', x2, x3, rfl, h1, he, hn, hl', rfl⟩ next
  clear hp
  cases ws' with
  | nil =>
    rw [hn] at q
    rw [wkD_nil] at h1
    try (simp only [↓e_seq, ↓e_next, ↓e_break, ↓e_cont, ↓e_expr, ↓e_ret, ↓e_retN, ↓e_if, ↓e_never, ↓e_asg, ↓e_name, ↓e_agtup, ↓e_agcons, ↓e_agnil, ↓e_agsub, ↓e_aug, ↓e_dput, ↓e_var, ↓e_c, ↓e_op, ↓e_some, ↓e_none, ↓e_test, ↓e_and, ↓e_or, ↓e_not, ↓e_yes, ↓e_truth,   ↓e_tru_bl, ↓e_tru_int, ↓e_tru_non, ↓e_tru_str, ↓e_tru_tup, ↓e_tru_obj, ↓e_chain, ↓e_orV, ↓e_andV, ↓e_notV, ↓e_ifE, ↓e_neg, ↓e_nil, ↓e_cons, ↓e_tup, ↓e_lst, ↓e_dnew, ↓e_call, ↓e_cb, ↓e_isi, ↓e_sl, ↓e_onone, ↓e_osome, ↓e_rev, ↓e_lm, ↓e_append, ↓e_extend, ↓e_pop, ↓e_join, ↓e_dget2, ↓e_sortSet, ↓e_sortS, ↓e_setd, strsOf_map, ↓e_maxI, ↓e_disp, ↓e_pairN, ↓e_pairC, intsOf_map, ↓e_for, ↓e_ilist, ↓e_itup, ↓e_rng1, ↓e_rng2, ↓e_lc, ↓e_lc2, e_lc2N, ↓e_ienum, ↓e_izip, ↓e_anyB, ↓e_allB, ↓e_mulS, blsOf_map, ↓e_set0, ↓e_sadd, ↓e_sortTx, ↓e_sortD, ↓e_repr, ↓e_extT, ↓e_sc2, ↓e_sortZ, ↓e_tupVals, ↓e_wget, ↓e_wix, ↓e_listZip, zipD_nil, zipD_cons, ↓e_dgetF, ↓e_idif,   ↓e_add_int, ↓e_add_str, ↓e_add_tup, ↓e_add_obj, ↓e_iadd_int, ↓e_iadd_str, ↓e_iadd_obj, ↓e_I, ↓e_I0, ↓e_IS_int, ↓e_IS_str, ↓e_eq_str, ↓e_ne_str, ↓e_eq_int, ↓e_ne_int, ↓e_eq_bl, ↓e_ne_bl, ↓e_isN, ↓e_notN, ↓e_ix_tup, ↓e_ix_fl, ↓e_ix_str, ↓e_ix_obj, ↓e_in_tup, ↓e_nin_tup, ↓e_len_tup, ↓e_len_fl, ↓e_len_str, ↓e_len_obj, ↓e_int_int, ↓e_tuple_tup, ↓e_tuple_obj, ↓e_list_tup, ↓e_list_obj, ↓e_dget, ↓e_din, ↓e_dnin, ↓e_lstAt, ↓e_dicAt,   e_key_int, e_key_str, e_up, e_ty_str, e_ty_tup, e_ty_int, e_ty_bl, e_ty_non, atI0, atI1, atI2, atI3, atIL, ixN0, ixN1, cut_from1, e_ite_or, e_ite_and, zln, znl, zli, zil, zni, zin, sizeLine_eq, CMul, CDiv, cpow1018, true_or, or_true, kb_strstr, kb_tupstr, kb_tuptup, kb_strtup, kb_inttup, kb_bltup, kb_nontup, kb_strbl, kb_strint, kb_intbl, kb_intint, kb_blbl, kb_blint, kb_nonbl, kb_nonint, kb_nonstr, kb_intstr, kb_blstr, kb_tupbl, kb_tupint,   List.set_cons_zero, List.set_cons_succ, List.set_nil, List.getElem?_cons_zero, List.getElem?_cons_succ, List.getElem?_nil, List.length_cons, List.length_nil, List.length_map, List.length_append, e_lcN, e_lcC, e_forN, e_forC, List.getLast?_concat, List.dropLast_concat, List.nil_append, List.cons_append, List.append_nil, List.append_assoc, List.reverse_cons, List.reverse_nil, List.isEmpty_nil, List.isEmpty_cons, isEmpty_snoc, List.any_cons, List.any_nil, List.all_cons, List.all_nil, flatD, eqF, in_non, in_tup, in_str, in_int, in_bl, in_obj, in_fl, startA, List.map_cons, List.map_nil, List.replicate_succ, List.replicate_zero,   Nat.reduceAdd, Nat.reduceSub, Nat.reduceLeDiff, Nat.zero_add, Int.reduceLE, Int.reduceLT, Int.reduceToNat, Int.reducePow, Int.reduceNeg, Int.reduceAdd, Int.reduceSub,   Option.isSome_some, Option.isSome_none, Bool.not_true, Bool.not_false, Bool.not_eq_true', Bool.not_eq_eq_eq_not, Bool.not_eq_true, Bool.false_eq_true, Bool.true_eq_false, Bool.and_true, Bool.true_and, Bool.or_false, Bool.false_or, Bool.or_true, Bool.true_or, Bool.and_false, Bool.false_and, if_true, if_false, ite_true, ite_false, reduceIte, reduceCtorEq, decide_true, decide_false, decide_eq_true_eq, decide_eq_false_iff_not, true_and, and_true, eq_self, ne_eq, not_false_eq_true, not_true_eq_false, and_self, *])
    exact q M' h1 he
  | cons w ws' =>
    rw [wkD_cons] at h1
    obtain ⟨c, o⟩ := w
    have hd : Wk.d (c, o) = .tup [.str (S [c]), oD o] := rfl
    have hlw := wkD_len ws'
    rw [List.length_cons] at hl' next
    rw [hn] at q
    have hh : ∀ x, dw ((c, o) :: ws') f' = x → dw ws f = x := fun x e => hn.trans e
    clear hn
    try (simp only [↓e_seq, ↓e_next, ↓e_break, ↓e_cont, ↓e_expr, ↓e_ret, ↓e_retN, ↓e_if, ↓e_never, ↓e_asg, ↓e_name, ↓e_agtup, ↓e_agcons, ↓e_agnil, ↓e_agsub, ↓e_aug, ↓e_dput, ↓e_var, ↓e_c, ↓e_op, ↓e_some, ↓e_none, ↓e_test, ↓e_and, ↓e_or, ↓e_not, ↓e_yes, ↓e_truth,   ↓e_tru_bl, ↓e_tru_int, ↓e_tru_non, ↓e_tru_str, ↓e_tru_tup, ↓e_tru_obj, ↓e_chain, ↓e_orV, ↓e_andV, ↓e_notV, ↓e_ifE, ↓e_neg, ↓e_nil, ↓e_cons, ↓e_tup, ↓e_lst, ↓e_dnew, ↓e_call, ↓e_cb, ↓e_isi, ↓e_sl, ↓e_onone, ↓e_osome, ↓e_rev, ↓e_lm, ↓e_append, ↓e_extend, ↓e_pop, ↓e_join, ↓e_dget2, ↓e_sortSet, ↓e_sortS, ↓e_setd, strsOf_map, ↓e_maxI, ↓e_disp, ↓e_pairN, ↓e_pairC, intsOf_map, ↓e_for, ↓e_ilist, ↓e_itup, ↓e_rng1, ↓e_rng2, ↓e_lc, ↓e_lc2, e_lc2N, ↓e_ienum, ↓e_izip, ↓e_anyB, ↓e_allB, ↓e_mulS, blsOf_map, ↓e_set0, ↓e_sadd, ↓e_sortTx, ↓e_sortD, ↓e_repr, ↓e_extT, ↓e_sc2, ↓e_sortZ, ↓e_tupVals, ↓e_wget, ↓e_wix, ↓e_listZip, zipD_nil, zipD_cons, ↓e_dgetF, ↓e_idif,   ↓e_add_int, ↓e_add_str, ↓e_add_tup, ↓e_add_obj, ↓e_iadd_int, ↓e_iadd_str, ↓e_iadd_obj, ↓e_I, ↓e_I0, ↓e_IS_int, ↓e_IS_str, ↓e_eq_str, ↓e_ne_str, ↓e_eq_int, ↓e_ne_int, ↓e_eq_bl, ↓e_ne_bl, ↓e_isN, ↓e_notN, ↓e_ix_tup, ↓e_ix_fl, ↓e_ix_str, ↓e_ix_obj, ↓e_in_tup, ↓e_nin_tup, ↓e_len_tup, ↓e_len_fl, ↓e_len_str, ↓e_len_obj, ↓e_int_int, ↓e_tuple_tup, ↓e_tuple_obj, ↓e_list_tup, ↓e_list_obj, ↓e_dget, ↓e_din, ↓e_dnin, ↓e_lstAt, ↓e_dicAt,   e_key_int, e_key_str, e_up, e_ty_str, e_ty_tup, e_ty_int, e_ty_bl, e_ty_non, atI0, atI1, atI2, atI3, atIL, ixN0, ixN1, cut_from1, e_ite_or, e_ite_and, zln, znl, zli, zil, zni, zin, sizeLine_eq, CMul, CDiv, cpow1018, true_or, or_true, kb_strstr, kb_tupstr, kb_tuptup, kb_strtup, kb_inttup, kb_bltup, kb_nontup, kb_strbl, kb_strint, kb_intbl, kb_intint, kb_blbl, kb_blint, kb_nonbl, kb_nonint, kb_nonstr, kb_intstr, kb_blstr, kb_tupbl, kb_tupint,   List.set_cons_zero, List.set_cons_succ, List.set_nil, List.getElem?_cons_zero, List.getElem?_cons_succ, List.getElem?_nil, List.length_cons, List.length_nil, List.length_map, List.length_append, e_lcN, e_lcC, e_forN, e_forC, List.getLast?_concat, List.dropLast_concat, List.nil_append, List.cons_append, List.append_nil, List.append_assoc, List.reverse_cons, List.reverse_nil, List.isEmpty_nil, List.isEmpty_cons, isEmpty_snoc, List.any_cons, List.any_nil, List.all_cons, List.all_nil, flatD, eqF, in_non, in_tup, in_str, in_int, in_bl, in_obj, in_fl, startA, List.map_cons, List.map_nil, List.replicate_succ, List.replicate_zero,   Nat.reduceAdd, Nat.reduceSub, Nat.reduceLeDiff, Nat.zero_add, Int.reduceLE, Int.reduceLT, Int.reduceToNat, Int.reducePow, Int.reduceNeg, Int.reduceAdd, Int.reduceSub,   Option.isSome_some, Option.isSome_none, Bool.not_true, Bool.not_false, Bool.not_eq_true', Bool.not_eq_eq_eq_not, Bool.not_eq_true, Bool.false_eq_true, Bool.true_eq_false, Bool.and_true, Bool.true_and, Bool.or_false, Bool.false_or, Bool.or_true, Bool.true_or, Bool.and_false, Bool.false_and, if_true, if_false, ite_true, ite_false, reduceIte, reduceCtorEq, decide_true, decide_false, decide_eq_true_eq, decide_eq_false_iff_not, true_and, and_true, eq_self, ne_eq, not_false_eq_true, not_true_eq_false, and_self, *])
    refine ⟨rfl, c, o, rfl, ?_⟩
    by_cases hc : c = 43
    · subst hc
      cases o with
      | none =>
        have eo : opn 43 none = true := rfl
        rw [dw_open] at q
        try (simp only [↓e_seq, ↓e_next, ↓e_break, ↓e_cont, ↓e_expr, ↓e_ret, ↓e_retN, ↓e_if, ↓e_never, ↓e_asg, ↓e_name, ↓e_agtup, ↓e_agcons, ↓e_agnil, ↓e_agsub, ↓e_aug, ↓e_dput, ↓e_var, ↓e_c, ↓e_op, ↓e_some, ↓e_none, ↓e_test, ↓e_and, ↓e_or, ↓e_not, ↓e_yes, ↓e_truth,   ↓e_tru_bl, ↓e_tru_int, ↓e_tru_non, ↓e_tru_str, ↓e_tru_tup, ↓e_tru_obj, ↓e_chain, ↓e_orV, ↓e_andV, ↓e_notV, ↓e_ifE, ↓e_neg, ↓e_nil, ↓e_cons, ↓e_tup, ↓e_lst, ↓e_dnew, ↓e_call, ↓e_cb, ↓e_isi, ↓e_sl, ↓e_onone, ↓e_osome, ↓e_rev, ↓e_lm, ↓e_append, ↓e_extend, ↓e_pop, ↓e_join, ↓e_dget2, ↓e_sortSet, ↓e_sortS, ↓e_setd, strsOf_map, ↓e_maxI, ↓e_disp, ↓e_pairN, ↓e_pairC, intsOf_map, ↓e_for, ↓e_ilist, ↓e_itup, ↓e_rng1, ↓e_rng2, ↓e_lc, ↓e_lc2, e_lc2N, ↓e_ienum, ↓e_izip, ↓e_anyB, ↓e_allB, ↓e_mulS, blsOf_map, ↓e_set0, ↓e_sadd, ↓e_sortTx, ↓e_sortD, ↓e_repr, ↓e_extT, ↓e_sc2, ↓e_sortZ, ↓e_tupVals, ↓e_wget, ↓e_wix, ↓e_listZip, zipD_nil, zipD_cons, ↓e_dgetF, ↓e_idif,   ↓e_add_int, ↓e_add_str, ↓e_add_tup, ↓e_add_obj, ↓e_iadd_int, ↓e_iadd_str, ↓e_iadd_obj, ↓e_I, ↓e_I0, ↓e_IS_int, ↓e_IS_str, ↓e_eq_str, ↓e_ne_str, ↓e_eq_int, ↓e_ne_int, ↓e_eq_bl, ↓e_ne_bl, ↓e_isN, ↓e_notN, ↓e_ix_tup, ↓e_ix_fl, ↓e_ix_str, ↓e_ix_obj, ↓e_in_tup, ↓e_nin_tup, ↓e_len_tup, ↓e_len_fl, ↓e_len_str, ↓e_len_obj, ↓e_int_int, ↓e_tuple_tup, ↓e_tuple_obj, ↓e_list_tup, ↓e_list_obj, ↓e_dget, ↓e_din, ↓e_dnin, ↓e_lstAt, ↓e_dicAt,   e_key_int, e_key_str, e_up, e_ty_str, e_ty_tup, e_ty_int, e_ty_bl, e_ty_non, atI0, atI1, atI2, atI3, atIL, ixN0, ixN1, cut_from1, e_ite_or, e_ite_and, zln, znl, zli, zil, zni, zin, sizeLine_eq, CMul, CDiv, cpow1018, true_or, or_true, kb_strstr, kb_tupstr, kb_tuptup, kb_strtup, kb_inttup, kb_bltup, kb_nontup, kb_strbl, kb_strint, kb_intbl, kb_intint, kb_blbl, kb_blint, kb_nonbl, kb_nonint, kb_nonstr, kb_intstr, kb_blstr, kb_tupbl, kb_tupint,   List.set_cons_zero, List.set_cons_succ, List.set_nil, List.getElem?_cons_zero, List.getElem?_cons_succ, List.getElem?_nil, List.length_cons, List.length_nil, List.length_map, List.length_append, e_lcN, e_lcC, e_forN, e_forC, List.getLast?_concat, List.dropLast_concat, List.nil_append, List.cons_append, List.append_nil, List.append_assoc, List.reverse_cons, List.reverse_nil, List.isEmpty_nil, List.isEmpty_cons, isEmpty_snoc, List.any_cons, List.any_nil, List.all_cons, List.all_nil, flatD, eqF, in_non, in_tup, in_str, in_int, in_bl, in_obj, in_fl, startA, List.map_cons, List.map_nil, List.replicate_succ, List.replicate_zero,   Nat.reduceAdd, Nat.reduceSub, Nat.reduceLeDiff, Nat.zero_add, Int.reduceLE, Int.reduceLT, Int.reduceToNat, Int.reducePow, Int.reduceNeg, Int.reduceAdd, Int.reduceSub,   Option.isSome_some, Option.isSome_none, Bool.not_true, Bool.not_false, Bool.not_eq_true', Bool.not_eq_eq_eq_not, Bool.not_eq_true, Bool.false_eq_true, Bool.true_eq_false, Bool.and_true, Bool.true_and, Bool.or_false, Bool.false_or, Bool.or_true, Bool.true_or, Bool.and_false, Bool.false_and, if_true, if_false, ite_true, ite_false, reduceIte, reduceCtorEq, decide_true, decide_false, decide_eq_true_eq, decide_eq_false_iff_not, true_and, and_true, eq_self, ne_eq, not_false_eq_true, not_true_eq_false, and_self, *])
        refine ⟨by omega, ?_⟩
        refine q _ ?_ (he.trans ?_)
        · rw [up_same, wkD_cons]; rfl
        · exact ExtB.upd.trans ExtB.upd
      | some g =>
        have eo : opn 43 (some g) = false := rfl
        have eg : oD (some g) = g.d := rfl
        try (simp only [↓e_seq, ↓e_next, ↓e_break, ↓e_cont, ↓e_expr, ↓e_ret, ↓e_retN, ↓e_if, ↓e_never, ↓e_asg, ↓e_name, ↓e_agtup, ↓e_agcons, ↓e_agnil, ↓e_agsub, ↓e_aug, ↓e_dput, ↓e_var, ↓e_c, ↓e_op, ↓e_some, ↓e_none, ↓e_test, ↓e_and, ↓e_or, ↓e_not, ↓e_yes, ↓e_truth,   ↓e_tru_bl, ↓e_tru_int, ↓e_tru_non, ↓e_tru_str, ↓e_tru_tup, ↓e_tru_obj, ↓e_chain, ↓e_orV, ↓e_andV, ↓e_notV, ↓e_ifE, ↓e_neg, ↓e_nil, ↓e_cons, ↓e_tup, ↓e_lst, ↓e_dnew, ↓e_call, ↓e_cb, ↓e_isi, ↓e_sl, ↓e_onone, ↓e_osome, ↓e_rev, ↓e_lm, ↓e_append, ↓e_extend, ↓e_pop, ↓e_join, ↓e_dget2, ↓e_sortSet, ↓e_sortS, ↓e_setd, strsOf_map, ↓e_maxI, ↓e_disp, ↓e_pairN, ↓e_pairC, intsOf_map, ↓e_for, ↓e_ilist, ↓e_itup, ↓e_rng1, ↓e_rng2, ↓e_lc, ↓e_lc2, e_lc2N, ↓e_ienum, ↓e_izip, ↓e_anyB, ↓e_allB, ↓e_mulS, blsOf_map, ↓e_set0, ↓e_sadd, ↓e_sortTx, ↓e_sortD, ↓e_repr, ↓e_extT, ↓e_sc2, ↓e_sortZ, ↓e_tupVals, ↓e_wget, ↓e_wix, ↓e_listZip, zipD_nil, zipD_cons, ↓e_dgetF, ↓e_idif,   ↓e_add_int, ↓e_add_str, ↓e_add_tup, ↓e_add_obj, ↓e_iadd_int, ↓e_iadd_str, ↓e_iadd_obj, ↓e_I, ↓e_I0, ↓e_IS_int, ↓e_IS_str, ↓e_eq_str, ↓e_ne_str, ↓e_eq_int, ↓e_ne_int, ↓e_eq_bl, ↓e_ne_bl, ↓e_isN, ↓e_notN, ↓e_ix_tup, ↓e_ix_fl, ↓e_ix_str, ↓e_ix_obj, ↓e_in_tup, ↓e_nin_tup, ↓e_len_tup, ↓e_len_fl, ↓e_len_str, ↓e_len_obj, ↓e_int_int, ↓e_tuple_tup, ↓e_tuple_obj, ↓e_list_tup, ↓e_list_obj, ↓e_dget, ↓e_din, ↓e_dnin, ↓e_lstAt, ↓e_dicAt,   e_key_int, e_key_str, e_up, e_ty_str, e_ty_tup, e_ty_int, e_ty_bl, e_ty_non, atI0, atI1, atI2, atI3, atIL, ixN0, ixN1, cut_from1, e_ite_or, e_ite_and, zln, znl, zli, zil, zni, zin, sizeLine_eq, CMul, CDiv, cpow1018, true_or, or_true, kb_strstr, kb_tupstr, kb_tuptup, kb_strtup, kb_inttup, kb_bltup, kb_nontup, kb_strbl, kb_strint, kb_intbl, kb_intint, kb_blbl, kb_blint, kb_nonbl, kb_nonint, kb_nonstr, kb_intstr, kb_blstr, kb_tupbl, kb_tupint,   List.set_cons_zero, List.set_cons_succ, List.set_nil, List.getElem?_cons_zero, List.getElem?_cons_succ, List.getElem?_nil, List.length_cons, List.length_nil, List.length_map, List.length_append, e_lcN, e_lcC, e_forN, e_forC, List.getLast?_concat, List.dropLast_concat, List.nil_append, List.cons_append, List.append_nil, List.append_assoc, List.reverse_cons, List.reverse_nil, List.isEmpty_nil, List.isEmpty_cons, isEmpty_snoc, List.any_cons, List.any_nil, List.all_cons, List.all_nil, flatD, eqF, in_non, in_tup, in_str, in_int, in_bl, in_obj, in_fl, startA, List.map_cons, List.map_nil, List.replicate_succ, List.replicate_zero,   Nat.reduceAdd, Nat.reduceSub, Nat.reduceLeDiff, Nat.zero_add, Int.reduceLE, Int.reduceLT, Int.reduceToNat, Int.reducePow, Int.reduceNeg, Int.reduceAdd, Int.reduceSub,   Option.isSome_some, Option.isSome_none, Bool.not_true, Bool.not_false, Bool.not_eq_true', Bool.not_eq_eq_eq_not, Bool.not_eq_true, Bool.false_eq_true, Bool.true_eq_false, Bool.and_true, Bool.true_and, Bool.or_false, Bool.false_or, Bool.or_true, Bool.true_or, Bool.and_false, Bool.false_and, if_true, if_false, ite_true, ite_false, reduceIte, reduceCtorEq, decide_true, decide_false, decide_eq_true_eq, decide_eq_false_iff_not, true_and, and_true, eq_self, ne_eq, not_false_eq_true, not_true_eq_false, and_self, *])
        exact next ws'.length _ _ (by omega) ⟨ws', .im f' g, _, _, rfl, up_same, he.trans ExtB.upd, hh _ (dw_shut g ws' f'), by omega, rfl⟩
    · have eo : opn c o = false := by unfold opn; rw [decide_eq_false hc]; rfl
      have e4 : ([c] : List Nat) ≠ [43] := fun z => hc (by injection z)
      by_cases h2 : c = 42
      · subst h2
        try (simp only [↓e_seq, ↓e_next, ↓e_break, ↓e_cont, ↓e_expr, ↓e_ret, ↓e_retN, ↓e_if, ↓e_never, ↓e_asg, ↓e_name, ↓e_agtup, ↓e_agcons, ↓e_agnil, ↓e_agsub, ↓e_aug, ↓e_dput, ↓e_var, ↓e_c, ↓e_op, ↓e_some, ↓e_none, ↓e_test, ↓e_and, ↓e_or, ↓e_not, ↓e_yes, ↓e_truth,   ↓e_tru_bl, ↓e_tru_int, ↓e_tru_non, ↓e_tru_str, ↓e_tru_tup, ↓e_tru_obj, ↓e_chain, ↓e_orV, ↓e_andV, ↓e_notV, ↓e_ifE, ↓e_neg, ↓e_nil, ↓e_cons, ↓e_tup, ↓e_lst, ↓e_dnew, ↓e_call, ↓e_cb, ↓e_isi, ↓e_sl, ↓e_onone, ↓e_osome, ↓e_rev, ↓e_lm, ↓e_append, ↓e_extend, ↓e_pop, ↓e_join, ↓e_dget2, ↓e_sortSet, ↓e_sortS, ↓e_setd, strsOf_map, ↓e_maxI, ↓e_disp, ↓e_pairN, ↓e_pairC, intsOf_map, ↓e_for, ↓e_ilist, ↓e_itup, ↓e_rng1, ↓e_rng2, ↓e_lc, ↓e_lc2, e_lc2N, ↓e_ienum, ↓e_izip, ↓e_anyB, ↓e_allB, ↓e_mulS, blsOf_map, ↓e_set0, ↓e_sadd, ↓e_sortTx, ↓e_sortD, ↓e_repr, ↓e_extT, ↓e_sc2, ↓e_sortZ, ↓e_tupVals, ↓e_wget, ↓e_wix, ↓e_listZip, zipD_nil, zipD_cons, ↓e_dgetF, ↓e_idif,   ↓e_add_int, ↓e_add_str, ↓e_add_tup, ↓e_add_obj, ↓e_iadd_int, ↓e_iadd_str, ↓e_iadd_obj, ↓e_I, ↓e_I0, ↓e_IS_int, ↓e_IS_str, ↓e_eq_str, ↓e_ne_str, ↓e_eq_int, ↓e_ne_int, ↓e_eq_bl, ↓e_ne_bl, ↓e_isN, ↓e_notN, ↓e_ix_tup, ↓e_ix_fl, ↓e_ix_str, ↓e_ix_obj, ↓e_in_tup, ↓e_nin_tup, ↓e_len_tup, ↓e_len_fl, ↓e_len_str, ↓e_len_obj, ↓e_int_int, ↓e_tuple_tup, ↓e_tuple_obj, ↓e_list_tup, ↓e_list_obj, ↓e_dget, ↓e_din, ↓e_dnin, ↓e_lstAt, ↓e_dicAt,   e_key_int, e_key_str, e_up, e_ty_str, e_ty_tup, e_ty_int, e_ty_bl, e_ty_non, atI0, atI1, atI2, atI3, atIL, ixN0, ixN1, cut_from1, e_ite_or, e_ite_and, zln, znl, zli, zil, zni, zin, sizeLine_eq, CMul, CDiv, cpow1018, true_or, or_true, kb_strstr, kb_tupstr, kb_tuptup, kb_strtup, kb_inttup, kb_bltup, kb_nontup, kb_strbl, kb_strint, kb_intbl, kb_intint, kb_blbl, kb_blint, kb_nonbl, kb_nonint, kb_nonstr, kb_intstr, kb_blstr, kb_tupbl, kb_tupint,   List.set_cons_zero, List.set_cons_succ, List.set_nil, List.getElem?_cons_zero, List.getElem?_cons_succ, List.getElem?_nil, List.length_cons, List.length_nil, List.length_map, List.length_append, e_lcN, e_lcC, e_forN, e_forC, List.getLast?_concat, List.dropLast_concat, List.nil_append, List.cons_append, List.append_nil, List.append_assoc, List.reverse_cons, List.reverse_nil, List.isEmpty_nil, List.isEmpty_cons, isEmpty_snoc, List.any_cons, List.any_nil, List.all_cons, List.all_nil, flatD, eqF, in_non, in_tup, in_str, in_int, in_bl, in_obj, in_fl, startA, List.map_cons, List.map_nil, List.replicate_succ, List.replicate_zero,   Nat.reduceAdd, Nat.reduceSub, Nat.reduceLeDiff, Nat.zero_add, Int.reduceLE, Int.reduceLT, Int.reduceToNat, Int.reducePow, Int.reduceNeg, Int.reduceAdd, Int.reduceSub,   Option.isSome_some, Option.isSome_none, Bool.not_true, Bool.not_false, Bool.not_eq_true', Bool.not_eq_eq_eq_not, Bool.not_eq_true, Bool.false_eq_true, Bool.true_eq_false, Bool.and_true, Bool.true_and, Bool.or_false, Bool.false_or, Bool.or_true, Bool.true_or, Bool.and_false, Bool.false_and, if_true, if_false, ite_true, ite_false, reduceIte, reduceCtorEq, decide_true, decide_false, decide_eq_true_eq, decide_eq_false_iff_not, true_and, and_true, eq_self, ne_eq, not_false_eq_true, not_true_eq_false, and_self, *])
        exact next ws'.length _ _ (by omega) ⟨ws', .ng f', _, _, rfl, up_same, he.trans ExtB.upd, hh _ (dw_star o ws' f'), by omega, rfl⟩
      · have e5 : ([c] : List Nat) ≠ [42] := fun z => h2 (by injection z)
        have e6 : dw ((c, o) :: ws') f' = dw ws' f' := by
          show (if c = 43 then _ else if c = 42 then _ else dw ws' f') = _
          rw [if_neg hc, if_neg h2]
        try (simp only [↓e_seq, ↓e_next, ↓e_break, ↓e_cont, ↓e_expr, ↓e_ret, ↓e_retN, ↓e_if, ↓e_never, ↓e_asg, ↓e_name, ↓e_agtup, ↓e_agcons, ↓e_agnil, ↓e_agsub, ↓e_aug, ↓e_dput, ↓e_var, ↓e_c, ↓e_op, ↓e_some, ↓e_none, ↓e_test, ↓e_and, ↓e_or, ↓e_not, ↓e_yes, ↓e_truth,   ↓e_tru_bl, ↓e_tru_int, ↓e_tru_non, ↓e_tru_str, ↓e_tru_tup, ↓e_tru_obj, ↓e_chain, ↓e_orV, ↓e_andV, ↓e_notV, ↓e_ifE, ↓e_neg, ↓e_nil, ↓e_cons, ↓e_tup, ↓e_lst, ↓e_dnew, ↓e_call, ↓e_cb, ↓e_isi, ↓e_sl, ↓e_onone, ↓e_osome, ↓e_rev, ↓e_lm, ↓e_append, ↓e_extend, ↓e_pop, ↓e_join, ↓e_dget2, ↓e_sortSet, ↓e_sortS, ↓e_setd, strsOf_map, ↓e_maxI, ↓e_disp, ↓e_pairN, ↓e_pairC, intsOf_map, ↓e_for, ↓e_ilist, ↓e_itup, ↓e_rng1, ↓e_rng2, ↓e_lc, ↓e_lc2, e_lc2N, ↓e_ienum, ↓e_izip, ↓e_anyB, ↓e_allB, ↓e_mulS, blsOf_map, ↓e_set0, ↓e_sadd, ↓e_sortTx, ↓e_sortD, ↓e_repr, ↓e_extT, ↓e_sc2, ↓e_sortZ, ↓e_tupVals, ↓e_wget, ↓e_wix, ↓e_listZip, zipD_nil, zipD_cons, ↓e_dgetF, ↓e_idif,   ↓e_add_int, ↓e_add_str, ↓e_add_tup, ↓e_add_obj, ↓e_iadd_int, ↓e_iadd_str, ↓e_iadd_obj, ↓e_I, ↓e_I0, ↓e_IS_int, ↓e_IS_str, ↓e_eq_str, ↓e_ne_str, ↓e_eq_int, ↓e_ne_int, ↓e_eq_bl, ↓e_ne_bl, ↓e_isN, ↓e_notN, ↓e_ix_tup, ↓e_ix_fl, ↓e_ix_str, ↓e_ix_obj, ↓e_in_tup, ↓e_nin_tup, ↓e_len_tup, ↓e_len_fl, ↓e_len_str, ↓e_len_obj, ↓e_int_int, ↓e_tuple_tup, ↓e_tuple_obj, ↓e_list_tup, ↓e_list_obj, ↓e_dget, ↓e_din, ↓e_dnin, ↓e_lstAt, ↓e_dicAt,   e_key_int, e_key_str, e_up, e_ty_str, e_ty_tup, e_ty_int, e_ty_bl, e_ty_non, atI0, atI1, atI2, atI3, atIL, ixN0, ixN1, cut_from1, e_ite_or, e_ite_and, zln, znl, zli, zil, zni, zin, sizeLine_eq, CMul, CDiv, cpow1018, true_or, or_true, kb_strstr, kb_tupstr, kb_tuptup, kb_strtup, kb_inttup, kb_bltup, kb_nontup, kb_strbl, kb_strint, kb_intbl, kb_intint, kb_blbl, kb_blint, kb_nonbl, kb_nonint, kb_nonstr, kb_intstr, kb_blstr, kb_tupbl, kb_tupint,   List.set_cons_zero, List.set_cons_succ, List.set_nil, List.getElem?_cons_zero, List.getElem?_cons_succ, List.getElem?_nil, List.length_cons, List.length_nil, List.length_map, List.length_append, e_lcN, e_lcC, e_forN, e_forC, List.getLast?_concat, List.dropLast_concat, List.nil_append, List.cons_append, List.append_nil, List.append_assoc, List.reverse_cons, List.reverse_nil, List.isEmpty_nil, List.isEmpty_cons, isEmpty_snoc, List.any_cons, List.any_nil, List.all_cons, List.all_nil, flatD, eqF, in_non, in_tup, in_str, in_int, in_bl, in_obj, in_fl, startA, List.map_cons, List.map_nil, List.replicate_succ, List.replicate_zero,   Nat.reduceAdd, Nat.reduceSub, Nat.reduceLeDiff, Nat.zero_add, Int.reduceLE, Int.reduceLT, Int.reduceToNat, Int.reducePow, Int.reduceNeg, Int.reduceAdd, Int.reduceSub,   Option.isSome_some, Option.isSome_none, Bool.not_true, Bool.not_false, Bool.not_eq_true', Bool.not_eq_eq_eq_not, Bool.not_eq_true, Bool.false_eq_true, Bool.true_eq_false, Bool.and_true, Bool.true_and, Bool.or_false, Bool.false_or, Bool.or_true, Bool.true_or, Bool.and_false, Bool.false_and, if_true, if_false, ite_true, ite_false, reduceIte, reduceCtorEq, decide_true, decide_false, decide_eq_true_eq, decide_eq_false_iff_not, true_and, and_true, eq_self, ne_eq, not_false_eq_true, not_true_eq_false, and_self, *])
        exact next ws'.length _ _ (by omega) ⟨ws', f', _, _, rfl, up_same, he.trans ExtB.upd, hh _ e6, by omega, rfl⟩
def A_signs_before : ASp := fun ds M Q _ => ∃ (p : Addr) (ws : List Wk) (k : D) (cs : List Nat) (r : List Nat), ds = [.obj p, k, .str (S cs)] ∧ M p = some (.lst (wkD ws)) ∧ cs = pre ws ++ r ∧ cs.length ≤ 10000 ∧ ∀ M', Ext M M' → Q (.int (ws.length : Int)) M'
def chrs (l : List Nat) : List D := l.map fun c => .str (S [c])
theorem chrs_len (l : List Nat) : (chrs l).length = l.length := List.length_map _
theorem chrs_snoc (l : List Nat) (c : Nat) : chrs (l ++ [c]) = chrs l ++ [.str (S [c])] := by unfold chrs; rw [List.map_append]; rfl
theorem sg_chrs (ws : List Wk) : chrs (sg ws) = ws.reverse.map fun w => D.str (S [sgn w]) := by unfold chrs sg; rw [← List.map_reverse, List.map_map]; rfl
theorem ixN_last {n : Nat} (h : 0 < n) : ixN n (-1) = some (n - 1) := by
  unfold ixN
  rw [if_neg (by omega), if_pos (by omega)]
  congr 1
  omega
theorem set_last {α : Type} (l : List α) (x y : α) : (l ++ [x]).set l.length y = l ++ [y] := by
  rw [List.set_append_right _ _ (Nat.le_refl _), Nat.sub_self]
  rfl
theorem take1_get {cs : List Nat} {i c : Nat} (h : cs[i]? = some c) : (cs.drop i).take 1 = [c] := by
  obtain ⟨hi, e⟩ := List.getElem?_eq_some_iff.mp h
  rw [List.drop_eq_getElem_cons hi, e]
  rfl
theorem p_signs_before (ds : List D) (M : Sto) (Q : D → Sto → Prop) (Xa) (hl : ds.length = 3) (h : A_signs_before ds M Q Xa) : a_signs_before A_is_open ax0 (Done Q) (startA ["waiting", "row", "signs", "wanted", "column", "sign", "stroke", "consequence"] ds) M := by
  obtain ⟨p, ws, k, cs, r, rfl, hp, hcs, hc, q⟩ := h
  unfold a_signs_before
  have z1 := zS_bar
  have z2 := zS_blank
  have z3 := zS_tick
  have hlw := wkD_len ws
  have hpl := pre_len ws
  have hwl : ws.length ≤ cs.length := by rw [hcs, List.length_append, hpl]; omega
  have hcs' := hcs.symm
  clear hcs
  try (simp only [↓e_seq, ↓e_next, ↓e_break, ↓e_cont, ↓e_expr, ↓e_ret, ↓e_retN, ↓e_if, ↓e_never, ↓e_asg, ↓e_name, ↓e_agtup, ↓e_agcons, ↓e_agnil, ↓e_agsub, ↓e_aug, ↓e_dput, ↓e_var, ↓e_c, ↓e_op, ↓e_some, ↓e_none, ↓e_test, ↓e_and, ↓e_or, ↓e_not, ↓e_yes, ↓e_truth,   ↓e_tru_bl, ↓e_tru_int, ↓e_tru_non, ↓e_tru_str, ↓e_tru_tup, ↓e_tru_obj, ↓e_chain, ↓e_orV, ↓e_andV, ↓e_notV, ↓e_ifE, ↓e_neg, ↓e_nil, ↓e_cons, ↓e_tup, ↓e_lst, ↓e_dnew, ↓e_call, ↓e_cb, ↓e_isi, ↓e_sl, ↓e_onone, ↓e_osome, ↓e_rev, ↓e_lm, ↓e_append, ↓e_extend, ↓e_pop, ↓e_join, ↓e_dget2, ↓e_sortSet, ↓e_sortS, ↓e_setd, strsOf_map, ↓e_maxI, ↓e_disp, ↓e_pairN, ↓e_pairC, intsOf_map, ↓e_for, ↓e_ilist, ↓e_itup, ↓e_rng1, ↓e_rng2, ↓e_lc, ↓e_lc2, e_lc2N, ↓e_ienum, ↓e_izip, ↓e_anyB, ↓e_allB, ↓e_mulS, blsOf_map, ↓e_set0, ↓e_sadd, ↓e_sortTx, ↓e_sortD, ↓e_repr, ↓e_extT, ↓e_sc2, ↓e_sortZ, ↓e_tupVals, ↓e_wget, ↓e_wix, ↓e_listZip, zipD_nil, zipD_cons, ↓e_dgetF, ↓e_idif,   ↓e_add_int, ↓e_add_str, ↓e_add_tup, ↓e_add_obj, ↓e_iadd_int, ↓e_iadd_str, ↓e_iadd_obj, ↓e_I, ↓e_I0, ↓e_IS_int, ↓e_IS_str, ↓e_eq_str, ↓e_ne_str, ↓e_eq_int, ↓e_ne_int, ↓e_eq_bl, ↓e_ne_bl, ↓e_isN, ↓e_notN, ↓e_ix_tup, ↓e_ix_fl, ↓e_ix_str, ↓e_ix_obj, ↓e_in_tup, ↓e_nin_tup, ↓e_len_tup, ↓e_len_fl, ↓e_len_str, ↓e_len_obj, ↓e_int_int, ↓e_tuple_tup, ↓e_tuple_obj, ↓e_list_tup, ↓e_list_obj, ↓e_dget, ↓e_din, ↓e_dnin, ↓e_lstAt, ↓e_dicAt,   e_key_int, e_key_str, e_up, e_ty_str, e_ty_tup, e_ty_int, e_ty_bl, e_ty_non, atI0, atI1, atI2, atI3, atIL, ixN0, ixN1, cut_from1, e_ite_or, e_ite_and, zln, znl, zli, zil, zni, zin, sizeLine_eq, CMul, CDiv, cpow1018, true_or, or_true, kb_strstr, kb_tupstr, kb_tuptup, kb_strtup, kb_inttup, kb_bltup, kb_nontup, kb_strbl, kb_strint, kb_intbl, kb_intint, kb_blbl, kb_blint, kb_nonbl, kb_nonint, kb_nonstr, kb_intstr, kb_blstr, kb_tupbl, kb_tupint,   List.set_cons_zero, List.set_cons_succ, List.set_nil, List.getElem?_cons_zero, List.getElem?_cons_succ, List.getElem?_nil, List.length_cons, List.length_nil, List.length_map, List.length_append, e_lcN, e_lcC, e_forN, e_forC, List.getLast?_concat, List.dropLast_concat, List.nil_append, List.cons_append, List.append_nil, List.append_assoc, List.reverse_cons, List.reverse_nil, List.isEmpty_nil, List.isEmpty_cons, isEmpty_snoc, List.any_cons, List.any_nil, List.all_cons, List.all_nil, flatD, eqF, in_non, in_tup, in_str, in_int, in_bl, in_obj, in_fl, startA, List.map_cons, List.map_nil, List.replicate_succ, List.replicate_zero,   Nat.reduceAdd, Nat.reduceSub, Nat.reduceLeDiff, Nat.zero_add, Int.reduceLE, Int.reduceLT, Int.reduceToNat, Int.reducePow, Int.reduceNeg, Int.reduceAdd, Int.reduceSub,   Option.isSome_some, Option.isSome_none, Bool.not_true, Bool.not_false, Bool.not_eq_true', Bool.not_eq_eq_eq_not, Bool.not_eq_true, Bool.false_eq_true, Bool.true_eq_false, Bool.and_true, Bool.true_and, Bool.or_false, Bool.false_or, Bool.or_true, Bool.true_or, Bool.and_false, Bool.false_and, if_true, if_false, ite_true, ite_false, reduceIte, reduceCtorEq, decide_true, decide_false, decide_eq_true_eq, decide_eq_false_iff_not, true_and, and_true, eq_self, ne_eq, not_false_eq_true, not_true_eq_false, and_self, *])
  refine ⟨by decide, by omega, ?_⟩
  refine lc2_run (fun ds acc M' => ∃ (rest done : List Wk), ds = rest.map Wk.d ∧ acc = done.map (fun w => D.str (S [sgn w])) ∧ M' = M ∧ done ++ rest = ws.reverse) ?_ ?_ ?_ ⟨ws.reverse, [], rfl, rfl, rfl, rfl⟩
  · rintro ds acc M' ⟨rest, done, _, _, rfl, _⟩
    exact hp
  · rintro acc M' ⟨rest, done, hr, rfl, rfl, hs⟩
    have z := List.map_eq_nil_iff.mp hr.symm
    subst z
    rw [List.append_nil] at hs
    subst hs
    clear hr
    rw [← sg_chrs]
    intro o no
    have nop := fresh_ne no hp
    have e1 : Ext M' (up M' o (.lst (chrs (sg ws)))) := Ext.new no
    have ho : (up M' o (.lst (chrs (sg ws)))) o = some (.lst (chrs (sg ws))) := up_same
    generalize up M' o (.lst (chrs (sg ws))) = M1 at *
    have fin : ∀ M2, Ext M' M2 → M2 o = some (.lst (chrs (pre ws))) → aForGo (fun M => M o = some (.lst (chrs (pre ws)))) (agTup 2 (agCons (agName 4) (agCons (agName 5) agNil))) (aIf (aTest (aOp (ρEq true) (aSl (aVar 2) (aOSome (aVar 4)) (aOSome (aOp ρAdd (aVar 4) (aC (.int 1))))) (aVar 5))) aNever aNext) ax0
        { nx := aRet (aCB ρLen (aCons (aVar 3) aNil)) ax0 (Done Q), rt := Q, bk := fun _ _ => False, ct := fun _ _ => False } (enumD 0 (chrs (pre ws))) [some (.obj p), some k, some (.str (S cs)), some (.obj o), none, none, none, none] M2 := by
      intro M2 e2 ho2
      refine for_run (fun ds env M' => ∃ (n : Nat) (x4 x5 : Option D), ds = enumD (n : Int) (chrs ((pre ws).drop n)) ∧ env = [some (.obj p), some k, some (.str (S cs)), some (.obj o), x4, x5, none, none] ∧ M' = M2) (fun _ _ _ ⟨_, _, _, _, _, e⟩ => by rw [e]; exact ho2) ?_ ?_ ⟨0, none, none, rfl, rfl, rfl⟩
      · rintro env M3 ⟨n, x4, x5, he, rfl, rfl⟩
        clear he
        have hcl := chrs_len (pre ws)
        try (simp only [↓e_seq, ↓e_next, ↓e_break, ↓e_cont, ↓e_expr, ↓e_ret, ↓e_retN, ↓e_if, ↓e_never, ↓e_asg, ↓e_name, ↓e_agtup, ↓e_agcons, ↓e_agnil, ↓e_agsub, ↓e_aug, ↓e_dput, ↓e_var, ↓e_c, ↓e_op, ↓e_some, ↓e_none, ↓e_test, ↓e_and, ↓e_or, ↓e_not, ↓e_yes, ↓e_truth,   ↓e_tru_bl, ↓e_tru_int, ↓e_tru_non, ↓e_tru_str, ↓e_tru_tup, ↓e_tru_obj, ↓e_chain, ↓e_orV, ↓e_andV, ↓e_notV, ↓e_ifE, ↓e_neg, ↓e_nil, ↓e_cons, ↓e_tup, ↓e_lst, ↓e_dnew, ↓e_call, ↓e_cb, ↓e_isi, ↓e_sl, ↓e_onone, ↓e_osome, ↓e_rev, ↓e_lm, ↓e_append, ↓e_extend, ↓e_pop, ↓e_join, ↓e_dget2, ↓e_sortSet, ↓e_sortS, ↓e_setd, strsOf_map, ↓e_maxI, ↓e_disp, ↓e_pairN, ↓e_pairC, intsOf_map, ↓e_for, ↓e_ilist, ↓e_itup, ↓e_rng1, ↓e_rng2, ↓e_lc, ↓e_lc2, e_lc2N, ↓e_ienum, ↓e_izip, ↓e_anyB, ↓e_allB, ↓e_mulS, blsOf_map, ↓e_set0, ↓e_sadd, ↓e_sortTx, ↓e_sortD, ↓e_repr, ↓e_extT, ↓e_sc2, ↓e_sortZ, ↓e_tupVals, ↓e_wget, ↓e_wix, ↓e_listZip, zipD_nil, zipD_cons, ↓e_dgetF, ↓e_idif,   ↓e_add_int, ↓e_add_str, ↓e_add_tup, ↓e_add_obj, ↓e_iadd_int, ↓e_iadd_str, ↓e_iadd_obj, ↓e_I, ↓e_I0, ↓e_IS_int, ↓e_IS_str, ↓e_eq_str, ↓e_ne_str, ↓e_eq_int, ↓e_ne_int, ↓e_eq_bl, ↓e_ne_bl, ↓e_isN, ↓e_notN, ↓e_ix_tup, ↓e_ix_fl, ↓e_ix_str, ↓e_ix_obj, ↓e_in_tup, ↓e_nin_tup, ↓e_len_tup, ↓e_len_fl, ↓e_len_str, ↓e_len_obj, ↓e_int_int, ↓e_tuple_tup, ↓e_tuple_obj, ↓e_list_tup, ↓e_list_obj, ↓e_dget, ↓e_din, ↓e_dnin, ↓e_lstAt, ↓e_dicAt,   e_key_int, e_key_str, e_up, e_ty_str, e_ty_tup, e_ty_int, e_ty_bl, e_ty_non, atI0, atI1, atI2, atI3, atIL, ixN0, ixN1, cut_from1, e_ite_or, e_ite_and, zln, znl, zli, zil, zni, zin, sizeLine_eq, CMul, CDiv, cpow1018, true_or, or_true, kb_strstr, kb_tupstr, kb_tuptup, kb_strtup, kb_inttup, kb_bltup, kb_nontup, kb_strbl, kb_strint, kb_intbl, kb_intint, kb_blbl, kb_blint, kb_nonbl, kb_nonint, kb_nonstr, kb_intstr, kb_blstr, kb_tupbl, kb_tupint,   List.set_cons_zero, List.set_cons_succ, List.set_nil, List.getElem?_cons_zero, List.getElem?_cons_succ, List.getElem?_nil, List.length_cons, List.length_nil, List.length_map, List.length_append, e_lcN, e_lcC, e_forN, e_forC, List.getLast?_concat, List.dropLast_concat, List.nil_append, List.cons_append, List.append_nil, List.append_assoc, List.reverse_cons, List.reverse_nil, List.isEmpty_nil, List.isEmpty_cons, isEmpty_snoc, List.any_cons, List.any_nil, List.all_cons, List.all_nil, flatD, eqF, in_non, in_tup, in_str, in_int, in_bl, in_obj, in_fl, startA, List.map_cons, List.map_nil, List.replicate_succ, List.replicate_zero,   Nat.reduceAdd, Nat.reduceSub, Nat.reduceLeDiff, Nat.zero_add, Int.reduceLE, Int.reduceLT, Int.reduceToNat, Int.reducePow, Int.reduceNeg, Int.reduceAdd, Int.reduceSub,   Option.isSome_some, Option.isSome_none, Bool.not_true, Bool.not_false, Bool.not_eq_true', Bool.not_eq_eq_eq_not, Bool.not_eq_true, Bool.false_eq_true, Bool.true_eq_false, Bool.and_true, Bool.true_and, Bool.or_false, Bool.false_or, Bool.or_true, Bool.true_or, Bool.and_false, Bool.false_and, if_true, if_false, ite_true, ite_false, reduceIte, reduceCtorEq, decide_true, decide_false, decide_eq_true_eq, decide_eq_false_iff_not, true_and, and_true, eq_self, ne_eq, not_false_eq_true, not_true_eq_false, and_self, *])
      · rintro d r' N env M3 ⟨n, x4, x5, hd, rfl, rfl⟩ next
        cases hdr : (pre ws).drop n with
        | nil => rw [hdr] at hd; cases hd
        | cons c r2 =>
          rw [hdr] at hd
          have hd' : d :: r' = .tup [.int (n : Int), .str (S [c])] :: enumD ((n : Int) + 1) (chrs r2) := hd
          injection hd' with hd1 hd2
          subst hd1 hd2
          obtain ⟨g1, g2, g3⟩ := drop_at hdr
          have hget : cs[n]? = some c := by rw [← hcs', List.getElem?_append_left g3]; exact g1
          have hn : n ≤ cs.length := by omega
          have hcut := cut1 cs n hn
          rw [take1_get hget] at hcut
          have go : N [some (.obj p), some k, some (.str (S cs)), some (.obj o), some (.int (n : Int)), some (.str (S [c])), none, none] M3 := next _ _ ⟨n + 1, _, _, by rw [g2]; rfl, rfl, rfl⟩
          have hsl := S_len
          clear next hd hcs'
          try (simp only [↓e_seq, ↓e_next, ↓e_break, ↓e_cont, ↓e_expr, ↓e_ret, ↓e_retN, ↓e_if, ↓e_never, ↓e_asg, ↓e_name, ↓e_agtup, ↓e_agcons, ↓e_agnil, ↓e_agsub, ↓e_aug, ↓e_dput, ↓e_var, ↓e_c, ↓e_op, ↓e_some, ↓e_none, ↓e_test, ↓e_and, ↓e_or, ↓e_not, ↓e_yes, ↓e_truth,   ↓e_tru_bl, ↓e_tru_int, ↓e_tru_non, ↓e_tru_str, ↓e_tru_tup, ↓e_tru_obj, ↓e_chain, ↓e_orV, ↓e_andV, ↓e_notV, ↓e_ifE, ↓e_neg, ↓e_nil, ↓e_cons, ↓e_tup, ↓e_lst, ↓e_dnew, ↓e_call, ↓e_cb, ↓e_isi, ↓e_sl, ↓e_onone, ↓e_osome, ↓e_rev, ↓e_lm, ↓e_append, ↓e_extend, ↓e_pop, ↓e_join, ↓e_dget2, ↓e_sortSet, ↓e_sortS, ↓e_setd, strsOf_map, ↓e_maxI, ↓e_disp, ↓e_pairN, ↓e_pairC, intsOf_map, ↓e_for, ↓e_ilist, ↓e_itup, ↓e_rng1, ↓e_rng2, ↓e_lc, ↓e_lc2, e_lc2N, ↓e_ienum, ↓e_izip, ↓e_anyB, ↓e_allB, ↓e_mulS, blsOf_map, ↓e_set0, ↓e_sadd, ↓e_sortTx, ↓e_sortD, ↓e_repr, ↓e_extT, ↓e_sc2, ↓e_sortZ, ↓e_tupVals, ↓e_wget, ↓e_wix, ↓e_listZip, zipD_nil, zipD_cons, ↓e_dgetF, ↓e_idif,   ↓e_add_int, ↓e_add_str, ↓e_add_tup, ↓e_add_obj, ↓e_iadd_int, ↓e_iadd_str, ↓e_iadd_obj, ↓e_I, ↓e_I0, ↓e_IS_int, ↓e_IS_str, ↓e_eq_str, ↓e_ne_str, ↓e_eq_int, ↓e_ne_int, ↓e_eq_bl, ↓e_ne_bl, ↓e_isN, ↓e_notN, ↓e_ix_tup, ↓e_ix_fl, ↓e_ix_str, ↓e_ix_obj, ↓e_in_tup, ↓e_nin_tup, ↓e_len_tup, ↓e_len_fl, ↓e_len_str, ↓e_len_obj, ↓e_int_int, ↓e_tuple_tup, ↓e_tuple_obj, ↓e_list_tup, ↓e_list_obj, ↓e_dget, ↓e_din, ↓e_dnin, ↓e_lstAt, ↓e_dicAt,   e_key_int, e_key_str, e_up, e_ty_str, e_ty_tup, e_ty_int, e_ty_bl, e_ty_non, atI0, atI1, atI2, atI3, atIL, ixN0, ixN1, cut_from1, e_ite_or, e_ite_and, zln, znl, zli, zil, zni, zin, sizeLine_eq, CMul, CDiv, cpow1018, true_or, or_true, kb_strstr, kb_tupstr, kb_tuptup, kb_strtup, kb_inttup, kb_bltup, kb_nontup, kb_strbl, kb_strint, kb_intbl, kb_intint, kb_blbl, kb_blint, kb_nonbl, kb_nonint, kb_nonstr, kb_intstr, kb_blstr, kb_tupbl, kb_tupint,   List.set_cons_zero, List.set_cons_succ, List.set_nil, List.getElem?_cons_zero, List.getElem?_cons_succ, List.getElem?_nil, List.length_cons, List.length_nil, List.length_map, List.length_append, e_lcN, e_lcC, e_forN, e_forC, List.getLast?_concat, List.dropLast_concat, List.nil_append, List.cons_append, List.append_nil, List.append_assoc, List.reverse_cons, List.reverse_nil, List.isEmpty_nil, List.isEmpty_cons, isEmpty_snoc, List.any_cons, List.any_nil, List.all_cons, List.all_nil, flatD, eqF, in_non, in_tup, in_str, in_int, in_bl, in_obj, in_fl, startA, List.map_cons, List.map_nil, List.replicate_succ, List.replicate_zero,   Nat.reduceAdd, Nat.reduceSub, Nat.reduceLeDiff, Nat.zero_add, Int.reduceLE, Int.reduceLT, Int.reduceToNat, Int.reducePow, Int.reduceNeg, Int.reduceAdd, Int.reduceSub,   Option.isSome_some, Option.isSome_none, Bool.not_true, Bool.not_false, Bool.not_eq_true', Bool.not_eq_eq_eq_not, Bool.not_eq_true, Bool.false_eq_true, Bool.true_eq_false, Bool.and_true, Bool.true_and, Bool.or_false, Bool.false_or, Bool.or_true, Bool.true_or, Bool.and_false, Bool.false_and, if_true, if_false, ite_true, ite_false, reduceIte, reduceCtorEq, decide_true, decide_false, decide_eq_true_eq, decide_eq_false_iff_not, true_and, and_true, eq_self, ne_eq, not_false_eq_true, not_true_eq_false, and_self, *])
          omega
    have hcl := chrs_len (sg ws)
    have hsl := sg_len ws
    clear hcs'
    cases ws with
    | nil =>
      have e0 : chrs (sg []) = [] := rfl
      have f0 := fin M1 e1 ho
      have e9 : chrs (pre []) = [] := rfl
      clear fin
      rw [e9] at f0
      try (simp only [↓e_seq, ↓e_next, ↓e_break, ↓e_cont, ↓e_expr, ↓e_ret, ↓e_retN, ↓e_if, ↓e_never, ↓e_asg, ↓e_name, ↓e_agtup, ↓e_agcons, ↓e_agnil, ↓e_agsub, ↓e_aug, ↓e_dput, ↓e_var, ↓e_c, ↓e_op, ↓e_some, ↓e_none, ↓e_test, ↓e_and, ↓e_or, ↓e_not, ↓e_yes, ↓e_truth,   ↓e_tru_bl, ↓e_tru_int, ↓e_tru_non, ↓e_tru_str, ↓e_tru_tup, ↓e_tru_obj, ↓e_chain, ↓e_orV, ↓e_andV, ↓e_notV, ↓e_ifE, ↓e_neg, ↓e_nil, ↓e_cons, ↓e_tup, ↓e_lst, ↓e_dnew, ↓e_call, ↓e_cb, ↓e_isi, ↓e_sl, ↓e_onone, ↓e_osome, ↓e_rev, ↓e_lm, ↓e_append, ↓e_extend, ↓e_pop, ↓e_join, ↓e_dget2, ↓e_sortSet, ↓e_sortS, ↓e_setd, strsOf_map, ↓e_maxI, ↓e_disp, ↓e_pairN, ↓e_pairC, intsOf_map, ↓e_for, ↓e_ilist, ↓e_itup, ↓e_rng1, ↓e_rng2, ↓e_lc, ↓e_lc2, e_lc2N, ↓e_ienum, ↓e_izip, ↓e_anyB, ↓e_allB, ↓e_mulS, blsOf_map, ↓e_set0, ↓e_sadd, ↓e_sortTx, ↓e_sortD, ↓e_repr, ↓e_extT, ↓e_sc2, ↓e_sortZ, ↓e_tupVals, ↓e_wget, ↓e_wix, ↓e_listZip, zipD_nil, zipD_cons, ↓e_dgetF, ↓e_idif,   ↓e_add_int, ↓e_add_str, ↓e_add_tup, ↓e_add_obj, ↓e_iadd_int, ↓e_iadd_str, ↓e_iadd_obj, ↓e_I, ↓e_I0, ↓e_IS_int, ↓e_IS_str, ↓e_eq_str, ↓e_ne_str, ↓e_eq_int, ↓e_ne_int, ↓e_eq_bl, ↓e_ne_bl, ↓e_isN, ↓e_notN, ↓e_ix_tup, ↓e_ix_fl, ↓e_ix_str, ↓e_ix_obj, ↓e_in_tup, ↓e_nin_tup, ↓e_len_tup, ↓e_len_fl, ↓e_len_str, ↓e_len_obj, ↓e_int_int, ↓e_tuple_tup, ↓e_tuple_obj, ↓e_list_tup, ↓e_list_obj, ↓e_dget, ↓e_din, ↓e_dnin, ↓e_lstAt, ↓e_dicAt,   e_key_int, e_key_str, e_up, e_ty_str, e_ty_tup, e_ty_int, e_ty_bl, e_ty_non, atI0, atI1, atI2, atI3, atIL, ixN0, ixN1, cut_from1, e_ite_or, e_ite_and, zln, znl, zli, zil, zni, zin, sizeLine_eq, CMul, CDiv, cpow1018, true_or, or_true, kb_strstr, kb_tupstr, kb_tuptup, kb_strtup, kb_inttup, kb_bltup, kb_nontup, kb_strbl, kb_strint, kb_intbl, kb_intint, kb_blbl, kb_blint, kb_nonbl, kb_nonint, kb_nonstr, kb_intstr, kb_blstr, kb_tupbl, kb_tupint,   List.set_cons_zero, List.set_cons_succ, List.set_nil, List.getElem?_cons_zero, List.getElem?_cons_succ, List.getElem?_nil, List.length_cons, List.length_nil, List.length_map, List.length_append, e_lcN, e_lcC, e_forN, e_forC, List.getLast?_concat, List.dropLast_concat, List.nil_append, List.cons_append, List.append_nil, List.append_assoc, List.reverse_cons, List.reverse_nil, List.isEmpty_nil, List.isEmpty_cons, isEmpty_snoc, List.any_cons, List.any_nil, List.all_cons, List.all_nil, flatD, eqF, in_non, in_tup, in_str, in_int, in_bl, in_obj, in_fl, startA, List.map_cons, List.map_nil, List.replicate_succ, List.replicate_zero,   Nat.reduceAdd, Nat.reduceSub, Nat.reduceLeDiff, Nat.zero_add, Int.reduceLE, Int.reduceLT, Int.reduceToNat, Int.reducePow, Int.reduceNeg, Int.reduceAdd, Int.reduceSub,   Option.isSome_some, Option.isSome_none, Bool.not_true, Bool.not_false, Bool.not_eq_true', Bool.not_eq_eq_eq_not, Bool.not_eq_true, Bool.false_eq_true, Bool.true_eq_false, Bool.and_true, Bool.true_and, Bool.or_false, Bool.false_or, Bool.or_true, Bool.true_or, Bool.and_false, Bool.false_and, if_true, if_false, ite_true, ite_false, reduceIte, reduceCtorEq, decide_true, decide_false, decide_eq_true_eq, decide_eq_false_iff_not, true_and, and_true, eq_self, ne_eq, not_false_eq_true, not_true_eq_false, and_self, *])
    | cons w ws =>
      have e0 : chrs (sg (w :: ws)) = chrs (sg ws) ++ [.str (S [sgn w])] := by rw [sg_cons, chrs_snoc]
      have e9 : chrs (pre (w :: ws)) = chrs (sg ws) ++ [.str (S [96])] := by show chrs (sg ws ++ [96]) = _; rw [chrs_snoc]
      have hi := ixN_last (n := (chrs (sg ws)).length + 1) (by omega)
      have hset := set_last (chrs (sg ws)) (.str (S [sgn w])) (.str (S [96]))
      rw [Nat.add_sub_cancel] at hi
      have f0 := fin (up M1 o (.lst (chrs (pre (w :: ws))))) (fun a mo m => by rw [up_ne (fresh_ne no m)]; exact e1 a mo m) up_same
      rw [e0] at ho
      rw [e9] at f0
      clear fin hcl hsl e0 e9
      try (simp only [↓e_seq, ↓e_next, ↓e_break, ↓e_cont, ↓e_expr, ↓e_ret, ↓e_retN, ↓e_if, ↓e_never, ↓e_asg, ↓e_name, ↓e_agtup, ↓e_agcons, ↓e_agnil, ↓e_agsub, ↓e_aug, ↓e_dput, ↓e_var, ↓e_c, ↓e_op, ↓e_some, ↓e_none, ↓e_test, ↓e_and, ↓e_or, ↓e_not, ↓e_yes, ↓e_truth,   ↓e_tru_bl, ↓e_tru_int, ↓e_tru_non, ↓e_tru_str, ↓e_tru_tup, ↓e_tru_obj, ↓e_chain, ↓e_orV, ↓e_andV, ↓e_notV, ↓e_ifE, ↓e_neg, ↓e_nil, ↓e_cons, ↓e_tup, ↓e_lst, ↓e_dnew, ↓e_call, ↓e_cb, ↓e_isi, ↓e_sl, ↓e_onone, ↓e_osome, ↓e_rev, ↓e_lm, ↓e_append, ↓e_extend, ↓e_pop, ↓e_join, ↓e_dget2, ↓e_sortSet, ↓e_sortS, ↓e_setd, strsOf_map, ↓e_maxI, ↓e_disp, ↓e_pairN, ↓e_pairC, intsOf_map, ↓e_for, ↓e_ilist, ↓e_itup, ↓e_rng1, ↓e_rng2, ↓e_lc, ↓e_lc2, e_lc2N, ↓e_ienum, ↓e_izip, ↓e_anyB, ↓e_allB, ↓e_mulS, blsOf_map, ↓e_set0, ↓e_sadd, ↓e_sortTx, ↓e_sortD, ↓e_repr, ↓e_extT, ↓e_sc2, ↓e_sortZ, ↓e_tupVals, ↓e_wget, ↓e_wix, ↓e_listZip, zipD_nil, zipD_cons, ↓e_dgetF, ↓e_idif,   ↓e_add_int, ↓e_add_str, ↓e_add_tup, ↓e_add_obj, ↓e_iadd_int, ↓e_iadd_str, ↓e_iadd_obj, ↓e_I, ↓e_I0, ↓e_IS_int, ↓e_IS_str, ↓e_eq_str, ↓e_ne_str, ↓e_eq_int, ↓e_ne_int, ↓e_eq_bl, ↓e_ne_bl, ↓e_isN, ↓e_notN, ↓e_ix_tup, ↓e_ix_fl, ↓e_ix_str, ↓e_ix_obj, ↓e_in_tup, ↓e_nin_tup, ↓e_len_tup, ↓e_len_fl, ↓e_len_str, ↓e_len_obj, ↓e_int_int, ↓e_tuple_tup, ↓e_tuple_obj, ↓e_list_tup, ↓e_list_obj, ↓e_dget, ↓e_din, ↓e_dnin, ↓e_lstAt, ↓e_dicAt,   e_key_int, e_key_str, e_up, e_ty_str, e_ty_tup, e_ty_int, e_ty_bl, e_ty_non, atI0, atI1, atI2, atI3, atIL, ixN0, ixN1, cut_from1, e_ite_or, e_ite_and, zln, znl, zli, zil, zni, zin, sizeLine_eq, CMul, CDiv, cpow1018, true_or, or_true, kb_strstr, kb_tupstr, kb_tuptup, kb_strtup, kb_inttup, kb_bltup, kb_nontup, kb_strbl, kb_strint, kb_intbl, kb_intint, kb_blbl, kb_blint, kb_nonbl, kb_nonint, kb_nonstr, kb_intstr, kb_blstr, kb_tupbl, kb_tupint,   List.set_cons_zero, List.set_cons_succ, List.set_nil, List.getElem?_cons_zero, List.getElem?_cons_succ, List.getElem?_nil, List.length_cons, List.length_nil, List.length_map, List.length_append, e_lcN, e_lcC, e_forN, e_forC, List.getLast?_concat, List.dropLast_concat, List.nil_append, List.cons_append, List.append_nil, List.append_assoc, List.reverse_cons, List.reverse_nil, List.isEmpty_nil, List.isEmpty_cons, isEmpty_snoc, List.any_cons, List.any_nil, List.all_cons, List.all_nil, flatD, eqF, in_non, in_tup, in_str, in_int, in_bl, in_obj, in_fl, startA, List.map_cons, List.map_nil, List.replicate_succ, List.replicate_zero,   Nat.reduceAdd, Nat.reduceSub, Nat.reduceLeDiff, Nat.zero_add, Int.reduceLE, Int.reduceLT, Int.reduceToNat, Int.reducePow, Int.reduceNeg, Int.reduceAdd, Int.reduceSub,   Option.isSome_some, Option.isSome_none, Bool.not_true, Bool.not_false, Bool.not_eq_true', Bool.not_eq_eq_eq_not, Bool.not_eq_true, Bool.false_eq_true, Bool.true_eq_false, Bool.and_true, Bool.true_and, Bool.or_false, Bool.false_or, Bool.or_true, Bool.true_or, Bool.and_false, Bool.false_and, if_true, if_false, ite_true, ite_false, reduceIte, reduceCtorEq, decide_true, decide_false, decide_eq_true_eq, decide_eq_false_iff_not, true_and, and_true, eq_self, ne_eq, not_false_eq_true, not_true_eq_false, and_self, *])
  · rintro d r' acc M' N ⟨rest, done, hr, rfl, rfl, hs⟩ next
    cases rest with
    | nil => cases hr
    | cons w rest =>
      have hr' : d :: r' = Wk.d w :: rest.map Wk.d := hr
      injection hr' with h1 h2
      subst h1 h2
      refine ⟨.str (S [w.1]), oD w.2, rfl, ?_⟩
      have go : N (done.map (fun w => D.str (S [sgn w])) ++ [.str (S [sgn w])]) M' := next _ _ ⟨rest, done ++ [w], rfl, by rw [List.map_append]; rfl, rfl, by rw [List.append_assoc]; exact hs⟩
      rw [sgn_opn] at go
      clear next hs hr hcs'
      try (simp only [↓e_seq, ↓e_next, ↓e_break, ↓e_cont, ↓e_expr, ↓e_ret, ↓e_retN, ↓e_if, ↓e_never, ↓e_asg, ↓e_name, ↓e_agtup, ↓e_agcons, ↓e_agnil, ↓e_agsub, ↓e_aug, ↓e_dput, ↓e_var, ↓e_c, ↓e_op, ↓e_some, ↓e_none, ↓e_test, ↓e_and, ↓e_or, ↓e_not, ↓e_yes, ↓e_truth,   ↓e_tru_bl, ↓e_tru_int, ↓e_tru_non, ↓e_tru_str, ↓e_tru_tup, ↓e_tru_obj, ↓e_chain, ↓e_orV, ↓e_andV, ↓e_notV, ↓e_ifE, ↓e_neg, ↓e_nil, ↓e_cons, ↓e_tup, ↓e_lst, ↓e_dnew, ↓e_call, ↓e_cb, ↓e_isi, ↓e_sl, ↓e_onone, ↓e_osome, ↓e_rev, ↓e_lm, ↓e_append, ↓e_extend, ↓e_pop, ↓e_join, ↓e_dget2, ↓e_sortSet, ↓e_sortS, ↓e_setd, strsOf_map, ↓e_maxI, ↓e_disp, ↓e_pairN, ↓e_pairC, intsOf_map, ↓e_for, ↓e_ilist, ↓e_itup, ↓e_rng1, ↓e_rng2, ↓e_lc, ↓e_lc2, e_lc2N, ↓e_ienum, ↓e_izip, ↓e_anyB, ↓e_allB, ↓e_mulS, blsOf_map, ↓e_set0, ↓e_sadd, ↓e_sortTx, ↓e_sortD, ↓e_repr, ↓e_extT, ↓e_sc2, ↓e_sortZ, ↓e_tupVals, ↓e_wget, ↓e_wix, ↓e_listZip, zipD_nil, zipD_cons, ↓e_dgetF, ↓e_idif,   ↓e_add_int, ↓e_add_str, ↓e_add_tup, ↓e_add_obj, ↓e_iadd_int, ↓e_iadd_str, ↓e_iadd_obj, ↓e_I, ↓e_I0, ↓e_IS_int, ↓e_IS_str, ↓e_eq_str, ↓e_ne_str, ↓e_eq_int, ↓e_ne_int, ↓e_eq_bl, ↓e_ne_bl, ↓e_isN, ↓e_notN, ↓e_ix_tup, ↓e_ix_fl, ↓e_ix_str, ↓e_ix_obj, ↓e_in_tup, ↓e_nin_tup, ↓e_len_tup, ↓e_len_fl, ↓e_len_str, ↓e_len_obj, ↓e_int_int, ↓e_tuple_tup, ↓e_tuple_obj, ↓e_list_tup, ↓e_list_obj, ↓e_dget, ↓e_din, ↓e_dnin, ↓e_lstAt, ↓e_dicAt,   e_key_int, e_key_str, e_up, e_ty_str, e_ty_tup, e_ty_int, e_ty_bl, e_ty_non, atI0, atI1, atI2, atI3, atIL, ixN0, ixN1, cut_from1, e_ite_or, e_ite_and, zln, znl, zli, zil, zni, zin, sizeLine_eq, CMul, CDiv, cpow1018, true_or, or_true, kb_strstr, kb_tupstr, kb_tuptup, kb_strtup, kb_inttup, kb_bltup, kb_nontup, kb_strbl, kb_strint, kb_intbl, kb_intint, kb_blbl, kb_blint, kb_nonbl, kb_nonint, kb_nonstr, kb_intstr, kb_blstr, kb_tupbl, kb_tupint,   List.set_cons_zero, List.set_cons_succ, List.set_nil, List.getElem?_cons_zero, List.getElem?_cons_succ, List.getElem?_nil, List.length_cons, List.length_nil, List.length_map, List.length_append, e_lcN, e_lcC, e_forN, e_forC, List.getLast?_concat, List.dropLast_concat, List.nil_append, List.cons_append, List.append_nil, List.append_assoc, List.reverse_cons, List.reverse_nil, List.isEmpty_nil, List.isEmpty_cons, isEmpty_snoc, List.any_cons, List.any_nil, List.all_cons, List.all_nil, flatD, eqF, in_non, in_tup, in_str, in_int, in_bl, in_obj, in_fl, startA, List.map_cons, List.map_nil, List.replicate_succ, List.replicate_zero,   Nat.reduceAdd, Nat.reduceSub, Nat.reduceLeDiff, Nat.zero_add, Int.reduceLE, Int.reduceLT, Int.reduceToNat, Int.reducePow, Int.reduceNeg, Int.reduceAdd, Int.reduceSub,   Option.isSome_some, Option.isSome_none, Bool.not_true, Bool.not_false, Bool.not_eq_true', Bool.not_eq_eq_eq_not, Bool.not_eq_true, Bool.false_eq_true, Bool.true_eq_false, Bool.and_true, Bool.true_and, Bool.or_false, Bool.false_or, Bool.or_true, Bool.true_or, Bool.and_false, Bool.false_and, if_true, if_false, ite_true, ite_false, reduceIte, reduceCtorEq, decide_true, decide_false, decide_eq_true_eq, decide_eq_false_iff_not, true_and, and_true, eq_self, ne_eq, not_false_eq_true, not_true_eq_false, and_self, *])
      refine ⟨rfl, w.1, w.2, rfl, ?_⟩
      cases hopn : opn w.1 w.2 with
      | true => rw [hopn] at go; try (simp only [↓e_seq, ↓e_next, ↓e_break, ↓e_cont, ↓e_expr, ↓e_ret, ↓e_retN, ↓e_if, ↓e_never, ↓e_asg, ↓e_name, ↓e_agtup, ↓e_agcons, ↓e_agnil, ↓e_agsub, ↓e_aug, ↓e_dput, ↓e_var, ↓e_c, ↓e_op, ↓e_some, ↓e_none, ↓e_test, ↓e_and, ↓e_or, ↓e_not, ↓e_yes, ↓e_truth,   ↓e_tru_bl, ↓e_tru_int, ↓e_tru_non, ↓e_tru_str, ↓e_tru_tup, ↓e_tru_obj, ↓e_chain, ↓e_orV, ↓e_andV, ↓e_notV, ↓e_ifE, ↓e_neg, ↓e_nil, ↓e_cons, ↓e_tup, ↓e_lst, ↓e_dnew, ↓e_call, ↓e_cb, ↓e_isi, ↓e_sl, ↓e_onone, ↓e_osome, ↓e_rev, ↓e_lm, ↓e_append, ↓e_extend, ↓e_pop, ↓e_join, ↓e_dget2, ↓e_sortSet, ↓e_sortS, ↓e_setd, strsOf_map, ↓e_maxI, ↓e_disp, ↓e_pairN, ↓e_pairC, intsOf_map, ↓e_for, ↓e_ilist, ↓e_itup, ↓e_rng1, ↓e_rng2, ↓e_lc, ↓e_lc2, e_lc2N, ↓e_ienum, ↓e_izip, ↓e_anyB, ↓e_allB, ↓e_mulS, blsOf_map, ↓e_set0, ↓e_sadd, ↓e_sortTx, ↓e_sortD, ↓e_repr, ↓e_extT, ↓e_sc2, ↓e_sortZ, ↓e_tupVals, ↓e_wget, ↓e_wix, ↓e_listZip, zipD_nil, zipD_cons, ↓e_dgetF, ↓e_idif,   ↓e_add_int, ↓e_add_str, ↓e_add_tup, ↓e_add_obj, ↓e_iadd_int, ↓e_iadd_str, ↓e_iadd_obj, ↓e_I, ↓e_I0, ↓e_IS_int, ↓e_IS_str, ↓e_eq_str, ↓e_ne_str, ↓e_eq_int, ↓e_ne_int, ↓e_eq_bl, ↓e_ne_bl, ↓e_isN, ↓e_notN, ↓e_ix_tup, ↓e_ix_fl, ↓e_ix_str, ↓e_ix_obj, ↓e_in_tup, ↓e_nin_tup, ↓e_len_tup, ↓e_len_fl, ↓e_len_str, ↓e_len_obj, ↓e_int_int, ↓e_tuple_tup, ↓e_tuple_obj, ↓e_list_tup, ↓e_list_obj, ↓e_dget, ↓e_din, ↓e_dnin, ↓e_lstAt, ↓e_dicAt,   e_key_int, e_key_str, e_up, e_ty_str, e_ty_tup, e_ty_int, e_ty_bl, e_ty_non, atI0, atI1, atI2, atI3, atIL, ixN0, ixN1, cut_from1, e_ite_or, e_ite_and, zln, znl, zli, zil, zni, zin, sizeLine_eq, CMul, CDiv, cpow1018, true_or, or_true, kb_strstr, kb_tupstr, kb_tuptup, kb_strtup, kb_inttup, kb_bltup, kb_nontup, kb_strbl, kb_strint, kb_intbl, kb_intint, kb_blbl, kb_blint, kb_nonbl, kb_nonint, kb_nonstr, kb_intstr, kb_blstr, kb_tupbl, kb_tupint,   List.set_cons_zero, List.set_cons_succ, List.set_nil, List.getElem?_cons_zero, List.getElem?_cons_succ, List.getElem?_nil, List.length_cons, List.length_nil, List.length_map, List.length_append, e_lcN, e_lcC, e_forN, e_forC, List.getLast?_concat, List.dropLast_concat, List.nil_append, List.cons_append, List.append_nil, List.append_assoc, List.reverse_cons, List.reverse_nil, List.isEmpty_nil, List.isEmpty_cons, isEmpty_snoc, List.any_cons, List.any_nil, List.all_cons, List.all_nil, flatD, eqF, in_non, in_tup, in_str, in_int, in_bl, in_obj, in_fl, startA, List.map_cons, List.map_nil, List.replicate_succ, List.replicate_zero,   Nat.reduceAdd, Nat.reduceSub, Nat.reduceLeDiff, Nat.zero_add, Int.reduceLE, Int.reduceLT, Int.reduceToNat, Int.reducePow, Int.reduceNeg, Int.reduceAdd, Int.reduceSub,   Option.isSome_some, Option.isSome_none, Bool.not_true, Bool.not_false, Bool.not_eq_true', Bool.not_eq_eq_eq_not, Bool.not_eq_true, Bool.false_eq_true, Bool.true_eq_false, Bool.and_true, Bool.true_and, Bool.or_false, Bool.false_or, Bool.or_true, Bool.true_or, Bool.and_false, Bool.false_and, if_true, if_false, ite_true, ite_false, reduceIte, reduceCtorEq, decide_true, decide_false, decide_eq_true_eq, decide_eq_false_iff_not, true_and, and_true, eq_self, ne_eq, not_false_eq_true, not_true_eq_false, and_self, *]); exact go
      | false => rw [hopn] at go; try (simp only [↓e_seq, ↓e_next, ↓e_break, ↓e_cont, ↓e_expr, ↓e_ret, ↓e_retN, ↓e_if, ↓e_never, ↓e_asg, ↓e_name, ↓e_agtup, ↓e_agcons, ↓e_agnil, ↓e_agsub, ↓e_aug, ↓e_dput, ↓e_var, ↓e_c, ↓e_op, ↓e_some, ↓e_none, ↓e_test, ↓e_and, ↓e_or, ↓e_not, ↓e_yes, ↓e_truth,   ↓e_tru_bl, ↓e_tru_int, ↓e_tru_non, ↓e_tru_str, ↓e_tru_tup, ↓e_tru_obj, ↓e_chain, ↓e_orV, ↓e_andV, ↓e_notV, ↓e_ifE, ↓e_neg, ↓e_nil, ↓e_cons, ↓e_tup, ↓e_lst, ↓e_dnew, ↓e_call, ↓e_cb, ↓e_isi, ↓e_sl, ↓e_onone, ↓e_osome, ↓e_rev, ↓e_lm, ↓e_append, ↓e_extend, ↓e_pop, ↓e_join, ↓e_dget2, ↓e_sortSet, ↓e_sortS, ↓e_setd, strsOf_map, ↓e_maxI, ↓e_disp, ↓e_pairN, ↓e_pairC, intsOf_map, ↓e_for, ↓e_ilist, ↓e_itup, ↓e_rng1, ↓e_rng2, ↓e_lc, ↓e_lc2, e_lc2N, ↓e_ienum, ↓e_izip, ↓e_anyB, ↓e_allB, ↓e_mulS, blsOf_map, ↓e_set0, ↓e_sadd, ↓e_sortTx, ↓e_sortD, ↓e_repr, ↓e_extT, ↓e_sc2, ↓e_sortZ, ↓e_tupVals, ↓e_wget, ↓e_wix, ↓e_listZip, zipD_nil, zipD_cons, ↓e_dgetF, ↓e_idif,   ↓e_add_int, ↓e_add_str, ↓e_add_tup, ↓e_add_obj, ↓e_iadd_int, ↓e_iadd_str, ↓e_iadd_obj, ↓e_I, ↓e_I0, ↓e_IS_int, ↓e_IS_str, ↓e_eq_str, ↓e_ne_str, ↓e_eq_int, ↓e_ne_int, ↓e_eq_bl, ↓e_ne_bl, ↓e_isN, ↓e_notN, ↓e_ix_tup, ↓e_ix_fl, ↓e_ix_str, ↓e_ix_obj, ↓e_in_tup, ↓e_nin_tup, ↓e_len_tup, ↓e_len_fl, ↓e_len_str, ↓e_len_obj, ↓e_int_int, ↓e_tuple_tup, ↓e_tuple_obj, ↓e_list_tup, ↓e_list_obj, ↓e_dget, ↓e_din, ↓e_dnin, ↓e_lstAt, ↓e_dicAt,   e_key_int, e_key_str, e_up, e_ty_str, e_ty_tup, e_ty_int, e_ty_bl, e_ty_non, atI0, atI1, atI2, atI3, atIL, ixN0, ixN1, cut_from1, e_ite_or, e_ite_and, zln, znl, zli, zil, zni, zin, sizeLine_eq, CMul, CDiv, cpow1018, true_or, or_true, kb_strstr, kb_tupstr, kb_tuptup, kb_strtup, kb_inttup, kb_bltup, kb_nontup, kb_strbl, kb_strint, kb_intbl, kb_intint, kb_blbl, kb_blint, kb_nonbl, kb_nonint, kb_nonstr, kb_intstr, kb_blstr, kb_tupbl, kb_tupint,   List.set_cons_zero, List.set_cons_succ, List.set_nil, List.getElem?_cons_zero, List.getElem?_cons_succ, List.getElem?_nil, List.length_cons, List.length_nil, List.length_map, List.length_append, e_lcN, e_lcC, e_forN, e_forC, List.getLast?_concat, List.dropLast_concat, List.nil_append, List.cons_append, List.append_nil, List.append_assoc, List.reverse_cons, List.reverse_nil, List.isEmpty_nil, List.isEmpty_cons, isEmpty_snoc, List.any_cons, List.any_nil, List.all_cons, List.all_nil, flatD, eqF, in_non, in_tup, in_str, in_int, in_bl, in_obj, in_fl, startA, List.map_cons, List.map_nil, List.replicate_succ, List.replicate_zero,   Nat.reduceAdd, Nat.reduceSub, Nat.reduceLeDiff, Nat.zero_add, Int.reduceLE, Int.reduceLT, Int.reduceToNat, Int.reducePow, Int.reduceNeg, Int.reduceAdd, Int.reduceSub,   Option.isSome_some, Option.isSome_none, Bool.not_true, Bool.not_false, Bool.not_eq_true', Bool.not_eq_eq_eq_not, Bool.not_eq_true, Bool.false_eq_true, Bool.true_eq_false, Bool.and_true, Bool.true_and, Bool.or_false, Bool.false_or, Bool.or_true, Bool.true_or, Bool.and_false, Bool.false_and, if_true, if_false, ite_true, ite_false, reduceIte, reduceCtorEq, decide_true, decide_false, decide_eq_true_eq, decide_eq_false_iff_not, true_and, and_true, eq_self, ne_eq, not_false_eq_true, not_true_eq_false, and_self, *]); exact go
def A_strokes_end : ASp := fun ds M Q _ => ∃ (p : Addr) (ws : List Wk) (k : D) (cs ss nm : List Nat), ds = [.obj p, k, .str (S cs)] ∧ M p = some (.lst (wkD ws)) ∧ cs = pre ws ++ (ss ++ 32 :: nm) ∧ SO ss ∧ cs.length ≤ 10000 ∧
  ∀ M', M' p = some (.lst (wkD (mk ss ws))) → ExtB p M M' → Q (.int ((ws.length + ss.length : Nat) : Int)) M'
theorem p_strokes_end (ds : List D) (M : Sto) (Q : D → Sto → Prop) (Xa) (hl : ds.length = 3) (h : A_strokes_end ds M Q Xa) : a_strokes_end A_signs_before ax0 (Done Q) (startA ["waiting", "row", "signs", "start", "column"] ds) M := by
  obtain ⟨p, ws, k, cs, ss, nm, rfl, hp, hcs, hso, hc, q⟩ := h
  unfold a_strokes_end
  have z1 := zS_dash
  have z2 := zS_star
  have z3 := zS_plus
  have hS := @S_eq
  have hpl := pre_len ws
  have hlen : cs.length = ws.length + (ss.length + (nm.length + 1)) := by rw [hcs, List.length_append, List.length_append, List.length_cons, hpl]
  have hsl := S_len cs
  have hcs' := hcs.symm
  clear hcs
  try (simp only [↓e_seq, ↓e_next, ↓e_break, ↓e_cont, ↓e_expr, ↓e_ret, ↓e_retN, ↓e_if, ↓e_never, ↓e_asg, ↓e_name, ↓e_agtup, ↓e_agcons, ↓e_agnil, ↓e_agsub, ↓e_aug, ↓e_dput, ↓e_var, ↓e_c, ↓e_op, ↓e_some, ↓e_none, ↓e_test, ↓e_and, ↓e_or, ↓e_not, ↓e_yes, ↓e_truth,   ↓e_tru_bl, ↓e_tru_int, ↓e_tru_non, ↓e_tru_str, ↓e_tru_tup, ↓e_tru_obj, ↓e_chain, ↓e_orV, ↓e_andV, ↓e_notV, ↓e_ifE, ↓e_neg, ↓e_nil, ↓e_cons, ↓e_tup, ↓e_lst, ↓e_dnew, ↓e_call, ↓e_cb, ↓e_isi, ↓e_sl, ↓e_onone, ↓e_osome, ↓e_rev, ↓e_lm, ↓e_append, ↓e_extend, ↓e_pop, ↓e_join, ↓e_dget2, ↓e_sortSet, ↓e_sortS, ↓e_setd, strsOf_map, ↓e_maxI, ↓e_disp, ↓e_pairN, ↓e_pairC, intsOf_map, ↓e_for, ↓e_ilist, ↓e_itup, ↓e_rng1, ↓e_rng2, ↓e_lc, ↓e_lc2, e_lc2N, ↓e_ienum, ↓e_izip, ↓e_anyB, ↓e_allB, ↓e_mulS, blsOf_map, ↓e_set0, ↓e_sadd, ↓e_sortTx, ↓e_sortD, ↓e_repr, ↓e_extT, ↓e_sc2, ↓e_sortZ, ↓e_tupVals, ↓e_wget, ↓e_wix, ↓e_listZip, zipD_nil, zipD_cons, ↓e_dgetF, ↓e_idif,   ↓e_add_int, ↓e_add_str, ↓e_add_tup, ↓e_add_obj, ↓e_iadd_int, ↓e_iadd_str, ↓e_iadd_obj, ↓e_I, ↓e_I0, ↓e_IS_int, ↓e_IS_str, ↓e_eq_str, ↓e_ne_str, ↓e_eq_int, ↓e_ne_int, ↓e_eq_bl, ↓e_ne_bl, ↓e_isN, ↓e_notN, ↓e_ix_tup, ↓e_ix_fl, ↓e_ix_str, ↓e_ix_obj, ↓e_in_tup, ↓e_nin_tup, ↓e_len_tup, ↓e_len_fl, ↓e_len_str, ↓e_len_obj, ↓e_int_int, ↓e_tuple_tup, ↓e_tuple_obj, ↓e_list_tup, ↓e_list_obj, ↓e_dget, ↓e_din, ↓e_dnin, ↓e_lstAt, ↓e_dicAt,   e_key_int, e_key_str, e_up, e_ty_str, e_ty_tup, e_ty_int, e_ty_bl, e_ty_non, atI0, atI1, atI2, atI3, atIL, ixN0, ixN1, cut_from1, e_ite_or, e_ite_and, zln, znl, zli, zil, zni, zin, sizeLine_eq, CMul, CDiv, cpow1018, true_or, or_true, kb_strstr, kb_tupstr, kb_tuptup, kb_strtup, kb_inttup, kb_bltup, kb_nontup, kb_strbl, kb_strint, kb_intbl, kb_intint, kb_blbl, kb_blint, kb_nonbl, kb_nonint, kb_nonstr, kb_intstr, kb_blstr, kb_tupbl, kb_tupint,   List.set_cons_zero, List.set_cons_succ, List.set_nil, List.getElem?_cons_zero, List.getElem?_cons_succ, List.getElem?_nil, List.length_cons, List.length_nil, List.length_map, List.length_append, e_lcN, e_lcC, e_forN, e_forC, List.getLast?_concat, List.dropLast_concat, List.nil_append, List.cons_append, List.append_nil, List.append_assoc, List.reverse_cons, List.reverse_nil, List.isEmpty_nil, List.isEmpty_cons, isEmpty_snoc, List.any_cons, List.any_nil, List.all_cons, List.all_nil, flatD, eqF, in_non, in_tup, in_str, in_int, in_bl, in_obj, in_fl, startA, List.map_cons, List.map_nil, List.replicate_succ, List.replicate_zero,   Nat.reduceAdd, Nat.reduceSub, Nat.reduceLeDiff, Nat.zero_add, Int.reduceLE, Int.reduceLT, Int.reduceToNat, Int.reducePow, Int.reduceNeg, Int.reduceAdd, Int.reduceSub,   Option.isSome_some, Option.isSome_none, Bool.not_true, Bool.not_false, Bool.not_eq_true', Bool.not_eq_eq_eq_not, Bool.not_eq_true, Bool.false_eq_true, Bool.true_eq_false, Bool.and_true, Bool.true_and, Bool.or_false, Bool.false_or, Bool.or_true, Bool.true_or, Bool.and_false, Bool.false_and, if_true, if_false, ite_true, ite_false, reduceIte, reduceCtorEq, decide_true, decide_false, decide_eq_true_eq, decide_eq_false_iff_not, true_and, and_true, eq_self, ne_eq, not_false_eq_true, not_true_eq_false, and_self, *])
  refine ⟨rfl, p, ws, k, cs, ss ++ 32 :: nm, rfl, hp, hcs'.symm, hc, fun M1 e1 => ?_⟩
  have hp1 := e1 _ _ hp
  have hat : ∀ (n c : Nat), (ss ++ 32 :: nm)[n]? = some c → cs[ws.length + n]? = some c := fun n c hh => by
    rw [← hcs', List.getElem?_append_right (by omega), hpl, Nat.add_sub_cancel_left]
    exact hh
  clear hcs'
  try (simp only [↓e_seq, ↓e_next, ↓e_break, ↓e_cont, ↓e_expr, ↓e_ret, ↓e_retN, ↓e_if, ↓e_never, ↓e_asg, ↓e_name, ↓e_agtup, ↓e_agcons, ↓e_agnil, ↓e_agsub, ↓e_aug, ↓e_dput, ↓e_var, ↓e_c, ↓e_op, ↓e_some, ↓e_none, ↓e_test, ↓e_and, ↓e_or, ↓e_not, ↓e_yes, ↓e_truth,   ↓e_tru_bl, ↓e_tru_int, ↓e_tru_non, ↓e_tru_str, ↓e_tru_tup, ↓e_tru_obj, ↓e_chain, ↓e_orV, ↓e_andV, ↓e_notV, ↓e_ifE, ↓e_neg, ↓e_nil, ↓e_cons, ↓e_tup, ↓e_lst, ↓e_dnew, ↓e_call, ↓e_cb, ↓e_isi, ↓e_sl, ↓e_onone, ↓e_osome, ↓e_rev, ↓e_lm, ↓e_append, ↓e_extend, ↓e_pop, ↓e_join, ↓e_dget2, ↓e_sortSet, ↓e_sortS, ↓e_setd, strsOf_map, ↓e_maxI, ↓e_disp, ↓e_pairN, ↓e_pairC, intsOf_map, ↓e_for, ↓e_ilist, ↓e_itup, ↓e_rng1, ↓e_rng2, ↓e_lc, ↓e_lc2, e_lc2N, ↓e_ienum, ↓e_izip, ↓e_anyB, ↓e_allB, ↓e_mulS, blsOf_map, ↓e_set0, ↓e_sadd, ↓e_sortTx, ↓e_sortD, ↓e_repr, ↓e_extT, ↓e_sc2, ↓e_sortZ, ↓e_tupVals, ↓e_wget, ↓e_wix, ↓e_listZip, zipD_nil, zipD_cons, ↓e_dgetF, ↓e_idif,   ↓e_add_int, ↓e_add_str, ↓e_add_tup, ↓e_add_obj, ↓e_iadd_int, ↓e_iadd_str, ↓e_iadd_obj, ↓e_I, ↓e_I0, ↓e_IS_int, ↓e_IS_str, ↓e_eq_str, ↓e_ne_str, ↓e_eq_int, ↓e_ne_int, ↓e_eq_bl, ↓e_ne_bl, ↓e_isN, ↓e_notN, ↓e_ix_tup, ↓e_ix_fl, ↓e_ix_str, ↓e_ix_obj, ↓e_in_tup, ↓e_nin_tup, ↓e_len_tup, ↓e_len_fl, ↓e_len_str, ↓e_len_obj, ↓e_int_int, ↓e_tuple_tup, ↓e_tuple_obj, ↓e_list_tup, ↓e_list_obj, ↓e_dget, ↓e_din, ↓e_dnin, ↓e_lstAt, ↓e_dicAt,   e_key_int, e_key_str, e_up, e_ty_str, e_ty_tup, e_ty_int, e_ty_bl, e_ty_non, atI0, atI1, atI2, atI3, atIL, ixN0, ixN1, cut_from1, e_ite_or, e_ite_and, zln, znl, zli, zil, zni, zin, sizeLine_eq, CMul, CDiv, cpow1018, true_or, or_true, kb_strstr, kb_tupstr, kb_tuptup, kb_strtup, kb_inttup, kb_bltup, kb_nontup, kb_strbl, kb_strint, kb_intbl, kb_intint, kb_blbl, kb_blint, kb_nonbl, kb_nonint, kb_nonstr, kb_intstr, kb_blstr, kb_tupbl, kb_tupint,   List.set_cons_zero, List.set_cons_succ, List.set_nil, List.getElem?_cons_zero, List.getElem?_cons_succ, List.getElem?_nil, List.length_cons, List.length_nil, List.length_map, List.length_append, e_lcN, e_lcC, e_forN, e_forC, List.getLast?_concat, List.dropLast_concat, List.nil_append, List.cons_append, List.append_nil, List.append_assoc, List.reverse_cons, List.reverse_nil, List.isEmpty_nil, List.isEmpty_cons, isEmpty_snoc, List.any_cons, List.any_nil, List.all_cons, List.all_nil, flatD, eqF, in_non, in_tup, in_str, in_int, in_bl, in_obj, in_fl, startA, List.map_cons, List.map_nil, List.replicate_succ, List.replicate_zero,   Nat.reduceAdd, Nat.reduceSub, Nat.reduceLeDiff, Nat.zero_add, Int.reduceLE, Int.reduceLT, Int.reduceToNat, Int.reducePow, Int.reduceNeg, Int.reduceAdd, Int.reduceSub,   Option.isSome_some, Option.isSome_none, Bool.not_true, Bool.not_false, Bool.not_eq_true', Bool.not_eq_eq_eq_not, Bool.not_eq_true, Bool.false_eq_true, Bool.true_eq_false, Bool.and_true, Bool.true_and, Bool.or_false, Bool.false_or, Bool.or_true, Bool.true_or, Bool.and_false, Bool.false_and, if_true, if_false, ite_true, ite_false, reduceIte, reduceCtorEq, decide_true, decide_false, decide_eq_true_eq, decide_eq_false_iff_not, true_and, and_true, eq_self, ne_eq, not_false_eq_true, not_true_eq_false, and_self, *])
  refine while_runN (fun n env M' => ∃ (done rest : List Nat), ss = done ++ rest ∧ env = [some (.obj p), some k, some (.str (S cs)), some (.int (ws.length : Int)), some (.int ((ws.length + done.length : Nat) : Int))] ∧ M' p = some (.lst (wkD (mk done ws))) ∧ ExtB p M M' ∧ n = rest.length) ?_ (n := ss.length) ⟨[], ss, rfl, rfl, hp1, e1.b, rfl⟩
  rintro n N env M' ⟨done, rest, hss, rfl, h1, he, rfl⟩ next
  clear hp hp1
  have hdl : ss.length = done.length + rest.length := by rw [hss, List.length_append]
  have hcut := cut1 cs (ws.length + done.length) (by omega)
  cases rest with
  | nil =>
    rw [List.append_nil] at hss
    subst hss
    have h32 := hat ss.length 32 (by rw [List.getElem?_append_right (Nat.le_refl _), Nat.sub_self]; rfl)
    rw [take1_get h32] at hcut
    obtain ⟨⟨t, ht⟩, _⟩ := hso
    have hpos : 0 < ss.length := by rw [ht, List.length_append]; show 0 < t.length + 1; omega
    have hlast := hat (ss.length - 1) 45 (by rw [List.getElem?_append_left (by omega), ht, List.length_append, List.length_singleton, Nat.add_sub_cancel, List.getElem?_append_right (Nat.le_refl _), Nat.sub_self]; rfl)
    have hix : atI (S cs).cps.toList (((ws.length + ss.length : Nat) : Int) - 1) = some 45 := by
      rw [show ((ws.length + ss.length : Nat) : Int) - 1 = ((ws.length + (ss.length - 1) : Nat) : Int) by omega, atIn]
      exact hlast
    have n1 : ¬ ([45] : List Nat) = [32] := by decide
    have n2 : ¬ ([42] : List Nat) = [32] := by decide
    have n3 : ¬ ([43] : List Nat) = [32] := by decide
    have q0 := q M' h1 he
    have hne : ¬ (((ws.length + ss.length : Nat) : Int) = (ws.length : Int)) := by omega
    have hs1 : (⟨#[45]⟩ : Str) = S [45] := rfl
    generalize ((ws.length + ss.length : Nat) : Int) = X at *
    clear next hat ht hlast hlen hpl hdl hpos h32
    try (simp only [↓e_seq, ↓e_next, ↓e_break, ↓e_cont, ↓e_expr, ↓e_ret, ↓e_retN, ↓e_if, ↓e_never, ↓e_asg, ↓e_name, ↓e_agtup, ↓e_agcons, ↓e_agnil, ↓e_agsub, ↓e_aug, ↓e_dput, ↓e_var, ↓e_c, ↓e_op, ↓e_some, ↓e_none, ↓e_test, ↓e_and, ↓e_or, ↓e_not, ↓e_yes, ↓e_truth,   ↓e_tru_bl, ↓e_tru_int, ↓e_tru_non, ↓e_tru_str, ↓e_tru_tup, ↓e_tru_obj, ↓e_chain, ↓e_orV, ↓e_andV, ↓e_notV, ↓e_ifE, ↓e_neg, ↓e_nil, ↓e_cons, ↓e_tup, ↓e_lst, ↓e_dnew, ↓e_call, ↓e_cb, ↓e_isi, ↓e_sl, ↓e_onone, ↓e_osome, ↓e_rev, ↓e_lm, ↓e_append, ↓e_extend, ↓e_pop, ↓e_join, ↓e_dget2, ↓e_sortSet, ↓e_sortS, ↓e_setd, strsOf_map, ↓e_maxI, ↓e_disp, ↓e_pairN, ↓e_pairC, intsOf_map, ↓e_for, ↓e_ilist, ↓e_itup, ↓e_rng1, ↓e_rng2, ↓e_lc, ↓e_lc2, e_lc2N, ↓e_ienum, ↓e_izip, ↓e_anyB, ↓e_allB, ↓e_mulS, blsOf_map, ↓e_set0, ↓e_sadd, ↓e_sortTx, ↓e_sortD, ↓e_repr, ↓e_extT, ↓e_sc2, ↓e_sortZ, ↓e_tupVals, ↓e_wget, ↓e_wix, ↓e_listZip, zipD_nil, zipD_cons, ↓e_dgetF, ↓e_idif,   ↓e_add_int, ↓e_add_str, ↓e_add_tup, ↓e_add_obj, ↓e_iadd_int, ↓e_iadd_str, ↓e_iadd_obj, ↓e_I, ↓e_I0, ↓e_IS_int, ↓e_IS_str, ↓e_eq_str, ↓e_ne_str, ↓e_eq_int, ↓e_ne_int, ↓e_eq_bl, ↓e_ne_bl, ↓e_isN, ↓e_notN, ↓e_ix_tup, ↓e_ix_fl, ↓e_ix_str, ↓e_ix_obj, ↓e_in_tup, ↓e_nin_tup, ↓e_len_tup, ↓e_len_fl, ↓e_len_str, ↓e_len_obj, ↓e_int_int, ↓e_tuple_tup, ↓e_tuple_obj, ↓e_list_tup, ↓e_list_obj, ↓e_dget, ↓e_din, ↓e_dnin, ↓e_lstAt, ↓e_dicAt,   e_key_int, e_key_str, e_up, e_ty_str, e_ty_tup, e_ty_int, e_ty_bl, e_ty_non, atI0, atI1, atI2, atI3, atIL, ixN0, ixN1, cut_from1, e_ite_or, e_ite_and, zln, znl, zli, zil, zni, zin, sizeLine_eq, CMul, CDiv, cpow1018, true_or, or_true, kb_strstr, kb_tupstr, kb_tuptup, kb_strtup, kb_inttup, kb_bltup, kb_nontup, kb_strbl, kb_strint, kb_intbl, kb_intint, kb_blbl, kb_blint, kb_nonbl, kb_nonint, kb_nonstr, kb_intstr, kb_blstr, kb_tupbl, kb_tupint,   List.set_cons_zero, List.set_cons_succ, List.set_nil, List.getElem?_cons_zero, List.getElem?_cons_succ, List.getElem?_nil, List.length_cons, List.length_nil, List.length_map, List.length_append, e_lcN, e_lcC, e_forN, e_forC, List.getLast?_concat, List.dropLast_concat, List.nil_append, List.cons_append, List.append_nil, List.append_assoc, List.reverse_cons, List.reverse_nil, List.isEmpty_nil, List.isEmpty_cons, isEmpty_snoc, List.any_cons, List.any_nil, List.all_cons, List.all_nil, flatD, eqF, in_non, in_tup, in_str, in_int, in_bl, in_obj, in_fl, startA, List.map_cons, List.map_nil, List.replicate_succ, List.replicate_zero,   Nat.reduceAdd, Nat.reduceSub, Nat.reduceLeDiff, Nat.zero_add, Int.reduceLE, Int.reduceLT, Int.reduceToNat, Int.reducePow, Int.reduceNeg, Int.reduceAdd, Int.reduceSub,   Option.isSome_some, Option.isSome_none, Bool.not_true, Bool.not_false, Bool.not_eq_true', Bool.not_eq_eq_eq_not, Bool.not_eq_true, Bool.false_eq_true, Bool.true_eq_false, Bool.and_true, Bool.true_and, Bool.or_false, Bool.false_or, Bool.or_true, Bool.true_or, Bool.and_false, Bool.false_and, if_true, if_false, ite_true, ite_false, reduceIte, reduceCtorEq, decide_true, decide_false, decide_eq_true_eq, decide_eq_false_iff_not, true_and, and_true, eq_self, ne_eq, not_false_eq_true, not_true_eq_false, and_self, *])
    omega
  | cons c rest =>
    have hc' := hso.2 c (by rw [hss]; exact List.mem_append_right _ List.mem_cons_self)
    have hcat := hat done.length c (by rw [hss, List.append_assoc, List.getElem?_append_right (Nat.le_refl _), Nat.sub_self]; rfl)
    rw [take1_get hcat] at hcut
    have hix : atI (S cs).cps.toList ((ws.length + done.length : Nat) : Int) = some c := by rw [atIn]; exact hcat
    have hs1 : (⟨#[c]⟩ : Str) = S [c] := rfl
    have hml : (wkD (mk done ws)).length = done.length + ws.length := by rw [wkD_len, mk_len]
    rw [List.length_cons] at hdl
    have go : N [some (.obj p), some k, some (.str (S cs)), some (.int (ws.length : Int)), some (.int (((ws.length + done.length : Nat) : Int) + 1))] (up M' p (.lst (wkD (mk done ws) ++ [.tup [.str (S [c]), .non]]))) :=
      next rest.length _ _ (by rw [List.length_cons]; omega) ⟨done ++ [c], rest, by rw [hss, List.append_assoc]; rfl, by rw [List.length_append, List.length_singleton]; congr 6, by rw [up_same, mk_snoc, wkD_cons]; rfl, he.trans ExtB.upd, rfl⟩
    generalize ((ws.length + done.length : Nat) : Int) = X at *
    clear next hat hcat hss
    try (simp only [↓e_seq, ↓e_next, ↓e_break, ↓e_cont, ↓e_expr, ↓e_ret, ↓e_retN, ↓e_if, ↓e_never, ↓e_asg, ↓e_name, ↓e_agtup, ↓e_agcons, ↓e_agnil, ↓e_agsub, ↓e_aug, ↓e_dput, ↓e_var, ↓e_c, ↓e_op, ↓e_some, ↓e_none, ↓e_test, ↓e_and, ↓e_or, ↓e_not, ↓e_yes, ↓e_truth,   ↓e_tru_bl, ↓e_tru_int, ↓e_tru_non, ↓e_tru_str, ↓e_tru_tup, ↓e_tru_obj, ↓e_chain, ↓e_orV, ↓e_andV, ↓e_notV, ↓e_ifE, ↓e_neg, ↓e_nil, ↓e_cons, ↓e_tup, ↓e_lst, ↓e_dnew, ↓e_call, ↓e_cb, ↓e_isi, ↓e_sl, ↓e_onone, ↓e_osome, ↓e_rev, ↓e_lm, ↓e_append, ↓e_extend, ↓e_pop, ↓e_join, ↓e_dget2, ↓e_sortSet, ↓e_sortS, ↓e_setd, strsOf_map, ↓e_maxI, ↓e_disp, ↓e_pairN, ↓e_pairC, intsOf_map, ↓e_for, ↓e_ilist, ↓e_itup, ↓e_rng1, ↓e_rng2, ↓e_lc, ↓e_lc2, e_lc2N, ↓e_ienum, ↓e_izip, ↓e_anyB, ↓e_allB, ↓e_mulS, blsOf_map, ↓e_set0, ↓e_sadd, ↓e_sortTx, ↓e_sortD, ↓e_repr, ↓e_extT, ↓e_sc2, ↓e_sortZ, ↓e_tupVals, ↓e_wget, ↓e_wix, ↓e_listZip, zipD_nil, zipD_cons, ↓e_dgetF, ↓e_idif,   ↓e_add_int, ↓e_add_str, ↓e_add_tup, ↓e_add_obj, ↓e_iadd_int, ↓e_iadd_str, ↓e_iadd_obj, ↓e_I, ↓e_I0, ↓e_IS_int, ↓e_IS_str, ↓e_eq_str, ↓e_ne_str, ↓e_eq_int, ↓e_ne_int, ↓e_eq_bl, ↓e_ne_bl, ↓e_isN, ↓e_notN, ↓e_ix_tup, ↓e_ix_fl, ↓e_ix_str, ↓e_ix_obj, ↓e_in_tup, ↓e_nin_tup, ↓e_len_tup, ↓e_len_fl, ↓e_len_str, ↓e_len_obj, ↓e_int_int, ↓e_tuple_tup, ↓e_tuple_obj, ↓e_list_tup, ↓e_list_obj, ↓e_dget, ↓e_din, ↓e_dnin, ↓e_lstAt, ↓e_dicAt,   e_key_int, e_key_str, e_up, e_ty_str, e_ty_tup, e_ty_int, e_ty_bl, e_ty_non, atI0, atI1, atI2, atI3, atIL, ixN0, ixN1, cut_from1, e_ite_or, e_ite_and, zln, znl, zli, zil, zni, zin, sizeLine_eq, CMul, CDiv, cpow1018, true_or, or_true, kb_strstr, kb_tupstr, kb_tuptup, kb_strtup, kb_inttup, kb_bltup, kb_nontup, kb_strbl, kb_strint, kb_intbl, kb_intint, kb_blbl, kb_blint, kb_nonbl, kb_nonint, kb_nonstr, kb_intstr, kb_blstr, kb_tupbl, kb_tupint,   List.set_cons_zero, List.set_cons_succ, List.set_nil, List.getElem?_cons_zero, List.getElem?_cons_succ, List.getElem?_nil, List.length_cons, List.length_nil, List.length_map, List.length_append, e_lcN, e_lcC, e_forN, e_forC, List.getLast?_concat, List.dropLast_concat, List.nil_append, List.cons_append, List.append_nil, List.append_assoc, List.reverse_cons, List.reverse_nil, List.isEmpty_nil, List.isEmpty_cons, isEmpty_snoc, List.any_cons, List.any_nil, List.all_cons, List.all_nil, flatD, eqF, in_non, in_tup, in_str, in_int, in_bl, in_obj, in_fl, startA, List.map_cons, List.map_nil, List.replicate_succ, List.replicate_zero,   Nat.reduceAdd, Nat.reduceSub, Nat.reduceLeDiff, Nat.zero_add, Int.reduceLE, Int.reduceLT, Int.reduceToNat, Int.reducePow, Int.reduceNeg, Int.reduceAdd, Int.reduceSub,   Option.isSome_some, Option.isSome_none, Bool.not_true, Bool.not_false, Bool.not_eq_true', Bool.not_eq_eq_eq_not, Bool.not_eq_true, Bool.false_eq_true, Bool.true_eq_false, Bool.and_true, Bool.true_and, Bool.or_false, Bool.false_or, Bool.or_true, Bool.true_or, Bool.and_false, Bool.false_and, if_true, if_false, ite_true, ite_false, reduceIte, reduceCtorEq, decide_true, decide_false, decide_eq_true_eq, decide_eq_false_iff_not, true_and, and_true, eq_self, ne_eq, not_false_eq_true, not_true_eq_false, and_self, *])
    refine ⟨by omega, ?_⟩
    rcases hc' with rfl | rfl | rfl
    all_goals
      try (simp only [↓e_seq, ↓e_next, ↓e_break, ↓e_cont, ↓e_expr, ↓e_ret, ↓e_retN, ↓e_if, ↓e_never, ↓e_asg, ↓e_name, ↓e_agtup, ↓e_agcons, ↓e_agnil, ↓e_agsub, ↓e_aug, ↓e_dput, ↓e_var, ↓e_c, ↓e_op, ↓e_some, ↓e_none, ↓e_test, ↓e_and, ↓e_or, ↓e_not, ↓e_yes, ↓e_truth,   ↓e_tru_bl, ↓e_tru_int, ↓e_tru_non, ↓e_tru_str, ↓e_tru_tup, ↓e_tru_obj, ↓e_chain, ↓e_orV, ↓e_andV, ↓e_notV, ↓e_ifE, ↓e_neg, ↓e_nil, ↓e_cons, ↓e_tup, ↓e_lst, ↓e_dnew, ↓e_call, ↓e_cb, ↓e_isi, ↓e_sl, ↓e_onone, ↓e_osome, ↓e_rev, ↓e_lm, ↓e_append, ↓e_extend, ↓e_pop, ↓e_join, ↓e_dget2, ↓e_sortSet, ↓e_sortS, ↓e_setd, strsOf_map, ↓e_maxI, ↓e_disp, ↓e_pairN, ↓e_pairC, intsOf_map, ↓e_for, ↓e_ilist, ↓e_itup, ↓e_rng1, ↓e_rng2, ↓e_lc, ↓e_lc2, e_lc2N, ↓e_ienum, ↓e_izip, ↓e_anyB, ↓e_allB, ↓e_mulS, blsOf_map, ↓e_set0, ↓e_sadd, ↓e_sortTx, ↓e_sortD, ↓e_repr, ↓e_extT, ↓e_sc2, ↓e_sortZ, ↓e_tupVals, ↓e_wget, ↓e_wix, ↓e_listZip, zipD_nil, zipD_cons, ↓e_dgetF, ↓e_idif,   ↓e_add_int, ↓e_add_str, ↓e_add_tup, ↓e_add_obj, ↓e_iadd_int, ↓e_iadd_str, ↓e_iadd_obj, ↓e_I, ↓e_I0, ↓e_IS_int, ↓e_IS_str, ↓e_eq_str, ↓e_ne_str, ↓e_eq_int, ↓e_ne_int, ↓e_eq_bl, ↓e_ne_bl, ↓e_isN, ↓e_notN, ↓e_ix_tup, ↓e_ix_fl, ↓e_ix_str, ↓e_ix_obj, ↓e_in_tup, ↓e_nin_tup, ↓e_len_tup, ↓e_len_fl, ↓e_len_str, ↓e_len_obj, ↓e_int_int, ↓e_tuple_tup, ↓e_tuple_obj, ↓e_list_tup, ↓e_list_obj, ↓e_dget, ↓e_din, ↓e_dnin, ↓e_lstAt, ↓e_dicAt,   e_key_int, e_key_str, e_up, e_ty_str, e_ty_tup, e_ty_int, e_ty_bl, e_ty_non, atI0, atI1, atI2, atI3, atIL, ixN0, ixN1, cut_from1, e_ite_or, e_ite_and, zln, znl, zli, zil, zni, zin, sizeLine_eq, CMul, CDiv, cpow1018, true_or, or_true, kb_strstr, kb_tupstr, kb_tuptup, kb_strtup, kb_inttup, kb_bltup, kb_nontup, kb_strbl, kb_strint, kb_intbl, kb_intint, kb_blbl, kb_blint, kb_nonbl, kb_nonint, kb_nonstr, kb_intstr, kb_blstr, kb_tupbl, kb_tupint,   List.set_cons_zero, List.set_cons_succ, List.set_nil, List.getElem?_cons_zero, List.getElem?_cons_succ, List.getElem?_nil, List.length_cons, List.length_nil, List.length_map, List.length_append, e_lcN, e_lcC, e_forN, e_forC, List.getLast?_concat, List.dropLast_concat, List.nil_append, List.cons_append, List.append_nil, List.append_assoc, List.reverse_cons, List.reverse_nil, List.isEmpty_nil, List.isEmpty_cons, isEmpty_snoc, List.any_cons, List.any_nil, List.all_cons, List.all_nil, flatD, eqF, in_non, in_tup, in_str, in_int, in_bl, in_obj, in_fl, startA, List.map_cons, List.map_nil, List.replicate_succ, List.replicate_zero,   Nat.reduceAdd, Nat.reduceSub, Nat.reduceLeDiff, Nat.zero_add, Int.reduceLE, Int.reduceLT, Int.reduceToNat, Int.reducePow, Int.reduceNeg, Int.reduceAdd, Int.reduceSub,   Option.isSome_some, Option.isSome_none, Bool.not_true, Bool.not_false, Bool.not_eq_true', Bool.not_eq_eq_eq_not, Bool.not_eq_true, Bool.false_eq_true, Bool.true_eq_false, Bool.and_true, Bool.true_and, Bool.or_false, Bool.false_or, Bool.or_true, Bool.true_or, Bool.and_false, Bool.false_and, if_true, if_false, ite_true, ite_false, reduceIte, reduceCtorEq, decide_true, decide_false, decide_eq_true_eq, decide_eq_false_iff_not, true_and, and_true, eq_self, ne_eq, not_false_eq_true, not_true_eq_false, and_self, *])
      omega
def A_letter_of : ASp := fun ds M Q _ => ∃ (p : Addr) (ws : List Wk) (k : D) (cs ss nm : List Nat), ds = [.obj p, k, .str (S cs)] ∧ M p = some (.lst (wkD ws)) ∧ cs = pre ws ++ (ss ++ 32 :: nm) ∧ SO ss ∧ NmOk nm ∧ cs.length ≤ 10000 ∧
  ∀ M', M' p = some (.lst (wkD (mk ss ws))) → ExtB p M M' → Q (Fm.lt (S nm)).d M'
theorem cutAB (cs : List Nat) (i j : Nat) (hij : i ≤ j) (hj : j ≤ cs.length) : cutS (S cs) (some (i : Int)) (some (j : Int)) = S ((cs.drop i).take (j - i)) := by
  unfold cutS
  have e1 : HT.sIx (S cs).length 0 (some (i : Int)) = i := by rw [HT.sIx_nat, S_len]; omega
  have e2 : HT.sIx (S cs).length (S cs).length (some (j : Int)) = j := by rw [HT.sIx_nat, S_len]; omega
  rw [e1, e2]
theorem p_letter_of (ds : List D) (M : Sto) (Q : D → Sto → Prop) (Xa) (hl : ds.length = 3) (h : A_letter_of ds M Q Xa) : a_letter_of A_strokes_end A_is_small A_is_digit ax0 (Done Q) (startA ["waiting", "row", "signs", "column", "end"] ds) M := by
  obtain ⟨p, ws, k, cs, ss, nm, rfl, hp, hcs, hso, hnm, hc, q⟩ := h
  unfold a_letter_of
  have z1 := zS_blank
  have hS := @S_eq
  have hpl := pre_len ws
  have hlen : cs.length = ws.length + ss.length + 1 + nm.length := by rw [hcs, List.length_append, List.length_append, List.length_cons, hpl]; omega
  have hdrop : cs.drop (ws.length + ss.length) = 32 :: nm := by
    rw [hcs, ← List.append_assoc, List.drop_append_of_le_length (by rw [List.length_append, hpl]; omega), List.drop_eq_nil_of_le (by rw [List.length_append, hpl]; omega), List.nil_append]
  have hcs' := hcs.symm
  clear hcs
  try (simp only [↓e_seq, ↓e_next, ↓e_break, ↓e_cont, ↓e_expr, ↓e_ret, ↓e_retN, ↓e_if, ↓e_never, ↓e_asg, ↓e_name, ↓e_agtup, ↓e_agcons, ↓e_agnil, ↓e_agsub, ↓e_aug, ↓e_dput, ↓e_var, ↓e_c, ↓e_op, ↓e_some, ↓e_none, ↓e_test, ↓e_and, ↓e_or, ↓e_not, ↓e_yes, ↓e_truth,   ↓e_tru_bl, ↓e_tru_int, ↓e_tru_non, ↓e_tru_str, ↓e_tru_tup, ↓e_tru_obj, ↓e_chain, ↓e_orV, ↓e_andV, ↓e_notV, ↓e_ifE, ↓e_neg, ↓e_nil, ↓e_cons, ↓e_tup, ↓e_lst, ↓e_dnew, ↓e_call, ↓e_cb, ↓e_isi, ↓e_sl, ↓e_onone, ↓e_osome, ↓e_rev, ↓e_lm, ↓e_append, ↓e_extend, ↓e_pop, ↓e_join, ↓e_dget2, ↓e_sortSet, ↓e_sortS, ↓e_setd, strsOf_map, ↓e_maxI, ↓e_disp, ↓e_pairN, ↓e_pairC, intsOf_map, ↓e_for, ↓e_ilist, ↓e_itup, ↓e_rng1, ↓e_rng2, ↓e_lc, ↓e_lc2, e_lc2N, ↓e_ienum, ↓e_izip, ↓e_anyB, ↓e_allB, ↓e_mulS, blsOf_map, ↓e_set0, ↓e_sadd, ↓e_sortTx, ↓e_sortD, ↓e_repr, ↓e_extT, ↓e_sc2, ↓e_sortZ, ↓e_tupVals, ↓e_wget, ↓e_wix, ↓e_listZip, zipD_nil, zipD_cons, ↓e_dgetF, ↓e_idif,   ↓e_add_int, ↓e_add_str, ↓e_add_tup, ↓e_add_obj, ↓e_iadd_int, ↓e_iadd_str, ↓e_iadd_obj, ↓e_I, ↓e_I0, ↓e_IS_int, ↓e_IS_str, ↓e_eq_str, ↓e_ne_str, ↓e_eq_int, ↓e_ne_int, ↓e_eq_bl, ↓e_ne_bl, ↓e_isN, ↓e_notN, ↓e_ix_tup, ↓e_ix_fl, ↓e_ix_str, ↓e_ix_obj, ↓e_in_tup, ↓e_nin_tup, ↓e_len_tup, ↓e_len_fl, ↓e_len_str, ↓e_len_obj, ↓e_int_int, ↓e_tuple_tup, ↓e_tuple_obj, ↓e_list_tup, ↓e_list_obj, ↓e_dget, ↓e_din, ↓e_dnin, ↓e_lstAt, ↓e_dicAt,   e_key_int, e_key_str, e_up, e_ty_str, e_ty_tup, e_ty_int, e_ty_bl, e_ty_non, atI0, atI1, atI2, atI3, atIL, ixN0, ixN1, cut_from1, e_ite_or, e_ite_and, zln, znl, zli, zil, zni, zin, sizeLine_eq, CMul, CDiv, cpow1018, true_or, or_true, kb_strstr, kb_tupstr, kb_tuptup, kb_strtup, kb_inttup, kb_bltup, kb_nontup, kb_strbl, kb_strint, kb_intbl, kb_intint, kb_blbl, kb_blint, kb_nonbl, kb_nonint, kb_nonstr, kb_intstr, kb_blstr, kb_tupbl, kb_tupint,   List.set_cons_zero, List.set_cons_succ, List.set_nil, List.getElem?_cons_zero, List.getElem?_cons_succ, List.getElem?_nil, List.length_cons, List.length_nil, List.length_map, List.length_append, e_lcN, e_lcC, e_forN, e_forC, List.getLast?_concat, List.dropLast_concat, List.nil_append, List.cons_append, List.append_nil, List.append_assoc, List.reverse_cons, List.reverse_nil, List.isEmpty_nil, List.isEmpty_cons, isEmpty_snoc, List.any_cons, List.any_nil, List.all_cons, List.all_nil, flatD, eqF, in_non, in_tup, in_str, in_int, in_bl, in_obj, in_fl, startA, List.map_cons, List.map_nil, List.replicate_succ, List.replicate_zero,   Nat.reduceAdd, Nat.reduceSub, Nat.reduceLeDiff, Nat.zero_add, Int.reduceLE, Int.reduceLT, Int.reduceToNat, Int.reducePow, Int.reduceNeg, Int.reduceAdd, Int.reduceSub,   Option.isSome_some, Option.isSome_none, Bool.not_true, Bool.not_false, Bool.not_eq_true', Bool.not_eq_eq_eq_not, Bool.not_eq_true, Bool.false_eq_true, Bool.true_eq_false, Bool.and_true, Bool.true_and, Bool.or_false, Bool.false_or, Bool.or_true, Bool.true_or, Bool.and_false, Bool.false_and, if_true, if_false, ite_true, ite_false, reduceIte, reduceCtorEq, decide_true, decide_false, decide_eq_true_eq, decide_eq_false_iff_not, true_and, and_true, eq_self, ne_eq, not_false_eq_true, not_true_eq_false, and_self, *])
  refine ⟨rfl, p, ws, k, cs, ss, nm, rfl, hp, hcs'.symm, hso, hc, fun M1 h1 e1 => ?_⟩
  clear hcs' hp
  generalize ws.length + ss.length = n at *
  have hd1 : cs.drop (n + 1) = nm := by rw [← List.drop_drop, hdrop]; rfl
  have c0 := cut1 cs n (by omega)
  rw [hdrop, show (32 :: nm).take 1 = [32] from rfl] at c0
  have c1 := cutAB cs (n + 1) (n + 2) (by omega)
  have hsl := S_len cs
  have q' := q M1 h1 e1
  rw [Fm.d_lt] at q'
  rcases hnm with ⟨c, rfl, hsm⟩ | ⟨c, e, rfl, hsm, hdg⟩
  · have c1 := c1 (by rw [hlen]; show n + 2 ≤ n + 1 + 1; omega)
    rw [hd1, show n + 2 - (n + 1) = 1 by omega, show ([c] : List Nat).take 1 = [c] from rfl] at c1
    have hd2 : cs.drop (n + 2) = [] := List.drop_eq_nil_of_le (by rw [hlen]; show n + 1 + 1 ≤ n + 2; omega)
    have c2 := cut1 cs (n + 2) (by rw [hlen]; show n + 2 ≤ n + 1 + 1; omega)
    rw [hd2, show ([] : List Nat).take 1 = [] from rfl] at c2
    rw [show (((n + 1 : Nat) : Int)) = (n : Int) + 1 by omega, show (((n + 2 : Nat) : Int)) = (n : Int) + 2 by omega] at c1
    rw [show (((n + 2 : Nat) : Int)) = (n : Int) + 2 by omega] at c2
    have hl2 : (cs.length : Int) = (n : Int) + 2 := by rw [hlen]; show ((n + 1 + 1 : Nat) : Int) = _; omega
    clear hdrop hd1 hd2 hlen hpl
    try (simp only [↓e_seq, ↓e_next, ↓e_break, ↓e_cont, ↓e_expr, ↓e_ret, ↓e_retN, ↓e_if, ↓e_never, ↓e_asg, ↓e_name, ↓e_agtup, ↓e_agcons, ↓e_agnil, ↓e_agsub, ↓e_aug, ↓e_dput, ↓e_var, ↓e_c, ↓e_op, ↓e_some, ↓e_none, ↓e_test, ↓e_and, ↓e_or, ↓e_not, ↓e_yes, ↓e_truth,   ↓e_tru_bl, ↓e_tru_int, ↓e_tru_non, ↓e_tru_str, ↓e_tru_tup, ↓e_tru_obj, ↓e_chain, ↓e_orV, ↓e_andV, ↓e_notV, ↓e_ifE, ↓e_neg, ↓e_nil, ↓e_cons, ↓e_tup, ↓e_lst, ↓e_dnew, ↓e_call, ↓e_cb, ↓e_isi, ↓e_sl, ↓e_onone, ↓e_osome, ↓e_rev, ↓e_lm, ↓e_append, ↓e_extend, ↓e_pop, ↓e_join, ↓e_dget2, ↓e_sortSet, ↓e_sortS, ↓e_setd, strsOf_map, ↓e_maxI, ↓e_disp, ↓e_pairN, ↓e_pairC, intsOf_map, ↓e_for, ↓e_ilist, ↓e_itup, ↓e_rng1, ↓e_rng2, ↓e_lc, ↓e_lc2, e_lc2N, ↓e_ienum, ↓e_izip, ↓e_anyB, ↓e_allB, ↓e_mulS, blsOf_map, ↓e_set0, ↓e_sadd, ↓e_sortTx, ↓e_sortD, ↓e_repr, ↓e_extT, ↓e_sc2, ↓e_sortZ, ↓e_tupVals, ↓e_wget, ↓e_wix, ↓e_listZip, zipD_nil, zipD_cons, ↓e_dgetF, ↓e_idif,   ↓e_add_int, ↓e_add_str, ↓e_add_tup, ↓e_add_obj, ↓e_iadd_int, ↓e_iadd_str, ↓e_iadd_obj, ↓e_I, ↓e_I0, ↓e_IS_int, ↓e_IS_str, ↓e_eq_str, ↓e_ne_str, ↓e_eq_int, ↓e_ne_int, ↓e_eq_bl, ↓e_ne_bl, ↓e_isN, ↓e_notN, ↓e_ix_tup, ↓e_ix_fl, ↓e_ix_str, ↓e_ix_obj, ↓e_in_tup, ↓e_nin_tup, ↓e_len_tup, ↓e_len_fl, ↓e_len_str, ↓e_len_obj, ↓e_int_int, ↓e_tuple_tup, ↓e_tuple_obj, ↓e_list_tup, ↓e_list_obj, ↓e_dget, ↓e_din, ↓e_dnin, ↓e_lstAt, ↓e_dicAt,   e_key_int, e_key_str, e_up, e_ty_str, e_ty_tup, e_ty_int, e_ty_bl, e_ty_non, atI0, atI1, atI2, atI3, atIL, ixN0, ixN1, cut_from1, e_ite_or, e_ite_and, zln, znl, zli, zil, zni, zin, sizeLine_eq, CMul, CDiv, cpow1018, true_or, or_true, kb_strstr, kb_tupstr, kb_tuptup, kb_strtup, kb_inttup, kb_bltup, kb_nontup, kb_strbl, kb_strint, kb_intbl, kb_intint, kb_blbl, kb_blint, kb_nonbl, kb_nonint, kb_nonstr, kb_intstr, kb_blstr, kb_tupbl, kb_tupint,   List.set_cons_zero, List.set_cons_succ, List.set_nil, List.getElem?_cons_zero, List.getElem?_cons_succ, List.getElem?_nil, List.length_cons, List.length_nil, List.length_map, List.length_append, e_lcN, e_lcC, e_forN, e_forC, List.getLast?_concat, List.dropLast_concat, List.nil_append, List.cons_append, List.append_nil, List.append_assoc, List.reverse_cons, List.reverse_nil, List.isEmpty_nil, List.isEmpty_cons, isEmpty_snoc, List.any_cons, List.any_nil, List.all_cons, List.all_nil, flatD, eqF, in_non, in_tup, in_str, in_int, in_bl, in_obj, in_fl, startA, List.map_cons, List.map_nil, List.replicate_succ, List.replicate_zero,   Nat.reduceAdd, Nat.reduceSub, Nat.reduceLeDiff, Nat.zero_add, Int.reduceLE, Int.reduceLT, Int.reduceToNat, Int.reducePow, Int.reduceNeg, Int.reduceAdd, Int.reduceSub,   Option.isSome_some, Option.isSome_none, Bool.not_true, Bool.not_false, Bool.not_eq_true', Bool.not_eq_eq_eq_not, Bool.not_eq_true, Bool.false_eq_true, Bool.true_eq_false, Bool.and_true, Bool.true_and, Bool.or_false, Bool.false_or, Bool.or_true, Bool.true_or, Bool.and_false, Bool.false_and, if_true, if_false, ite_true, ite_false, reduceIte, reduceCtorEq, decide_true, decide_false, decide_eq_true_eq, decide_eq_false_iff_not, true_and, and_true, eq_self, ne_eq, not_false_eq_true, not_true_eq_false, and_self, *])
    refine ⟨by omega, by omega, rfl, c, rfl, ?_⟩
    try (simp only [↓e_seq, ↓e_next, ↓e_break, ↓e_cont, ↓e_expr, ↓e_ret, ↓e_retN, ↓e_if, ↓e_never, ↓e_asg, ↓e_name, ↓e_agtup, ↓e_agcons, ↓e_agnil, ↓e_agsub, ↓e_aug, ↓e_dput, ↓e_var, ↓e_c, ↓e_op, ↓e_some, ↓e_none, ↓e_test, ↓e_and, ↓e_or, ↓e_not, ↓e_yes, ↓e_truth,   ↓e_tru_bl, ↓e_tru_int, ↓e_tru_non, ↓e_tru_str, ↓e_tru_tup, ↓e_tru_obj, ↓e_chain, ↓e_orV, ↓e_andV, ↓e_notV, ↓e_ifE, ↓e_neg, ↓e_nil, ↓e_cons, ↓e_tup, ↓e_lst, ↓e_dnew, ↓e_call, ↓e_cb, ↓e_isi, ↓e_sl, ↓e_onone, ↓e_osome, ↓e_rev, ↓e_lm, ↓e_append, ↓e_extend, ↓e_pop, ↓e_join, ↓e_dget2, ↓e_sortSet, ↓e_sortS, ↓e_setd, strsOf_map, ↓e_maxI, ↓e_disp, ↓e_pairN, ↓e_pairC, intsOf_map, ↓e_for, ↓e_ilist, ↓e_itup, ↓e_rng1, ↓e_rng2, ↓e_lc, ↓e_lc2, e_lc2N, ↓e_ienum, ↓e_izip, ↓e_anyB, ↓e_allB, ↓e_mulS, blsOf_map, ↓e_set0, ↓e_sadd, ↓e_sortTx, ↓e_sortD, ↓e_repr, ↓e_extT, ↓e_sc2, ↓e_sortZ, ↓e_tupVals, ↓e_wget, ↓e_wix, ↓e_listZip, zipD_nil, zipD_cons, ↓e_dgetF, ↓e_idif,   ↓e_add_int, ↓e_add_str, ↓e_add_tup, ↓e_add_obj, ↓e_iadd_int, ↓e_iadd_str, ↓e_iadd_obj, ↓e_I, ↓e_I0, ↓e_IS_int, ↓e_IS_str, ↓e_eq_str, ↓e_ne_str, ↓e_eq_int, ↓e_ne_int, ↓e_eq_bl, ↓e_ne_bl, ↓e_isN, ↓e_notN, ↓e_ix_tup, ↓e_ix_fl, ↓e_ix_str, ↓e_ix_obj, ↓e_in_tup, ↓e_nin_tup, ↓e_len_tup, ↓e_len_fl, ↓e_len_str, ↓e_len_obj, ↓e_int_int, ↓e_tuple_tup, ↓e_tuple_obj, ↓e_list_tup, ↓e_list_obj, ↓e_dget, ↓e_din, ↓e_dnin, ↓e_lstAt, ↓e_dicAt,   e_key_int, e_key_str, e_up, e_ty_str, e_ty_tup, e_ty_int, e_ty_bl, e_ty_non, atI0, atI1, atI2, atI3, atIL, ixN0, ixN1, cut_from1, e_ite_or, e_ite_and, zln, znl, zli, zil, zni, zin, sizeLine_eq, CMul, CDiv, cpow1018, true_or, or_true, kb_strstr, kb_tupstr, kb_tuptup, kb_strtup, kb_inttup, kb_bltup, kb_nontup, kb_strbl, kb_strint, kb_intbl, kb_intint, kb_blbl, kb_blint, kb_nonbl, kb_nonint, kb_nonstr, kb_intstr, kb_blstr, kb_tupbl, kb_tupint,   List.set_cons_zero, List.set_cons_succ, List.set_nil, List.getElem?_cons_zero, List.getElem?_cons_succ, List.getElem?_nil, List.length_cons, List.length_nil, List.length_map, List.length_append, e_lcN, e_lcC, e_forN, e_forC, List.getLast?_concat, List.dropLast_concat, List.nil_append, List.cons_append, List.append_nil, List.append_assoc, List.reverse_cons, List.reverse_nil, List.isEmpty_nil, List.isEmpty_cons, isEmpty_snoc, List.any_cons, List.any_nil, List.all_cons, List.all_nil, flatD, eqF, in_non, in_tup, in_str, in_int, in_bl, in_obj, in_fl, startA, List.map_cons, List.map_nil, List.replicate_succ, List.replicate_zero,   Nat.reduceAdd, Nat.reduceSub, Nat.reduceLeDiff, Nat.zero_add, Int.reduceLE, Int.reduceLT, Int.reduceToNat, Int.reducePow, Int.reduceNeg, Int.reduceAdd, Int.reduceSub,   Option.isSome_some, Option.isSome_none, Bool.not_true, Bool.not_false, Bool.not_eq_true', Bool.not_eq_eq_eq_not, Bool.not_eq_true, Bool.false_eq_true, Bool.true_eq_false, Bool.and_true, Bool.true_and, Bool.or_false, Bool.false_or, Bool.or_true, Bool.true_or, Bool.and_false, Bool.false_and, if_true, if_false, ite_true, ite_false, reduceIte, reduceCtorEq, decide_true, decide_false, decide_eq_true_eq, decide_eq_false_iff_not, true_and, and_true, eq_self, ne_eq, not_false_eq_true, not_true_eq_false, and_self, *])
    refine ⟨by omega, rfl, .inl ⟨rfl, ?_⟩⟩
    try (simp only [↓e_seq, ↓e_next, ↓e_break, ↓e_cont, ↓e_expr, ↓e_ret, ↓e_retN, ↓e_if, ↓e_never, ↓e_asg, ↓e_name, ↓e_agtup, ↓e_agcons, ↓e_agnil, ↓e_agsub, ↓e_aug, ↓e_dput, ↓e_var, ↓e_c, ↓e_op, ↓e_some, ↓e_none, ↓e_test, ↓e_and, ↓e_or, ↓e_not, ↓e_yes, ↓e_truth,   ↓e_tru_bl, ↓e_tru_int, ↓e_tru_non, ↓e_tru_str, ↓e_tru_tup, ↓e_tru_obj, ↓e_chain, ↓e_orV, ↓e_andV, ↓e_notV, ↓e_ifE, ↓e_neg, ↓e_nil, ↓e_cons, ↓e_tup, ↓e_lst, ↓e_dnew, ↓e_call, ↓e_cb, ↓e_isi, ↓e_sl, ↓e_onone, ↓e_osome, ↓e_rev, ↓e_lm, ↓e_append, ↓e_extend, ↓e_pop, ↓e_join, ↓e_dget2, ↓e_sortSet, ↓e_sortS, ↓e_setd, strsOf_map, ↓e_maxI, ↓e_disp, ↓e_pairN, ↓e_pairC, intsOf_map, ↓e_for, ↓e_ilist, ↓e_itup, ↓e_rng1, ↓e_rng2, ↓e_lc, ↓e_lc2, e_lc2N, ↓e_ienum, ↓e_izip, ↓e_anyB, ↓e_allB, ↓e_mulS, blsOf_map, ↓e_set0, ↓e_sadd, ↓e_sortTx, ↓e_sortD, ↓e_repr, ↓e_extT, ↓e_sc2, ↓e_sortZ, ↓e_tupVals, ↓e_wget, ↓e_wix, ↓e_listZip, zipD_nil, zipD_cons, ↓e_dgetF, ↓e_idif,   ↓e_add_int, ↓e_add_str, ↓e_add_tup, ↓e_add_obj, ↓e_iadd_int, ↓e_iadd_str, ↓e_iadd_obj, ↓e_I, ↓e_I0, ↓e_IS_int, ↓e_IS_str, ↓e_eq_str, ↓e_ne_str, ↓e_eq_int, ↓e_ne_int, ↓e_eq_bl, ↓e_ne_bl, ↓e_isN, ↓e_notN, ↓e_ix_tup, ↓e_ix_fl, ↓e_ix_str, ↓e_ix_obj, ↓e_in_tup, ↓e_nin_tup, ↓e_len_tup, ↓e_len_fl, ↓e_len_str, ↓e_len_obj, ↓e_int_int, ↓e_tuple_tup, ↓e_tuple_obj, ↓e_list_tup, ↓e_list_obj, ↓e_dget, ↓e_din, ↓e_dnin, ↓e_lstAt, ↓e_dicAt,   e_key_int, e_key_str, e_up, e_ty_str, e_ty_tup, e_ty_int, e_ty_bl, e_ty_non, atI0, atI1, atI2, atI3, atIL, ixN0, ixN1, cut_from1, e_ite_or, e_ite_and, zln, znl, zli, zil, zni, zin, sizeLine_eq, CMul, CDiv, cpow1018, true_or, or_true, kb_strstr, kb_tupstr, kb_tuptup, kb_strtup, kb_inttup, kb_bltup, kb_nontup, kb_strbl, kb_strint, kb_intbl, kb_intint, kb_blbl, kb_blint, kb_nonbl, kb_nonint, kb_nonstr, kb_intstr, kb_blstr, kb_tupbl, kb_tupint,   List.set_cons_zero, List.set_cons_succ, List.set_nil, List.getElem?_cons_zero, List.getElem?_cons_succ, List.getElem?_nil, List.length_cons, List.length_nil, List.length_map, List.length_append, e_lcN, e_lcC, e_forN, e_forC, List.getLast?_concat, List.dropLast_concat, List.nil_append, List.cons_append, List.append_nil, List.append_assoc, List.reverse_cons, List.reverse_nil, List.isEmpty_nil, List.isEmpty_cons, isEmpty_snoc, List.any_cons, List.any_nil, List.all_cons, List.all_nil, flatD, eqF, in_non, in_tup, in_str, in_int, in_bl, in_obj, in_fl, startA, List.map_cons, List.map_nil, List.replicate_succ, List.replicate_zero,   Nat.reduceAdd, Nat.reduceSub, Nat.reduceLeDiff, Nat.zero_add, Int.reduceLE, Int.reduceLT, Int.reduceToNat, Int.reducePow, Int.reduceNeg, Int.reduceAdd, Int.reduceSub,   Option.isSome_some, Option.isSome_none, Bool.not_true, Bool.not_false, Bool.not_eq_true', Bool.not_eq_eq_eq_not, Bool.not_eq_true, Bool.false_eq_true, Bool.true_eq_false, Bool.and_true, Bool.true_and, Bool.or_false, Bool.false_or, Bool.or_true, Bool.true_or, Bool.and_false, Bool.false_and, if_true, if_false, ite_true, ite_false, reduceIte, reduceCtorEq, decide_true, decide_false, decide_eq_true_eq, decide_eq_false_iff_not, true_and, and_true, eq_self, ne_eq, not_false_eq_true, not_true_eq_false, and_self, *])
    refine ⟨by omega, ?_⟩
    rw [if_neg (by omega)]
    omega
  · have c1 := c1 (by rw [hlen]; show n + 2 ≤ n + 1 + 2; omega)
    rw [hd1, show n + 2 - (n + 1) = 1 by omega, show ([c, e] : List Nat).take 1 = [c] from rfl] at c1
    have hd2 : cs.drop (n + 2) = [e] := by rw [show n + 2 = (n + 1) + 1 by omega, ← List.drop_drop, hd1]; rfl
    have c2 := cut1 cs (n + 2) (by rw [hlen]; show n + 2 ≤ n + 1 + 2; omega)
    rw [hd2, show ([e] : List Nat).take 1 = [e] from rfl] at c2
    have c3 := cutAB cs (n + 1) (n + 3) (by omega) (by rw [hlen]; show n + 3 ≤ n + 1 + 2; omega)
    rw [hd1, show n + 3 - (n + 1) = 2 by omega, show ([c, e] : List Nat).take 2 = [c, e] from rfl] at c3
    rw [show (((n + 1 : Nat) : Int)) = (n : Int) + 1 by omega, show (((n + 2 : Nat) : Int)) = (n : Int) + 2 by omega] at c1
    rw [show (((n + 2 : Nat) : Int)) = (n : Int) + 2 by omega] at c2
    rw [show (((n + 1 : Nat) : Int)) = (n : Int) + 1 by omega, show (((n + 3 : Nat) : Int)) = (n : Int) + 2 + 1 by omega] at c3
    have hl2 : (cs.length : Int) = (n : Int) + 3 := by rw [hlen]; show ((n + 1 + 2 : Nat) : Int) = _; omega
    clear hdrop hd1 hd2 hlen hpl
    try (simp only [↓e_seq, ↓e_next, ↓e_break, ↓e_cont, ↓e_expr, ↓e_ret, ↓e_retN, ↓e_if, ↓e_never, ↓e_asg, ↓e_name, ↓e_agtup, ↓e_agcons, ↓e_agnil, ↓e_agsub, ↓e_aug, ↓e_dput, ↓e_var, ↓e_c, ↓e_op, ↓e_some, ↓e_none, ↓e_test, ↓e_and, ↓e_or, ↓e_not, ↓e_yes, ↓e_truth,   ↓e_tru_bl, ↓e_tru_int, ↓e_tru_non, ↓e_tru_str, ↓e_tru_tup, ↓e_tru_obj, ↓e_chain, ↓e_orV, ↓e_andV, ↓e_notV, ↓e_ifE, ↓e_neg, ↓e_nil, ↓e_cons, ↓e_tup, ↓e_lst, ↓e_dnew, ↓e_call, ↓e_cb, ↓e_isi, ↓e_sl, ↓e_onone, ↓e_osome, ↓e_rev, ↓e_lm, ↓e_append, ↓e_extend, ↓e_pop, ↓e_join, ↓e_dget2, ↓e_sortSet, ↓e_sortS, ↓e_setd, strsOf_map, ↓e_maxI, ↓e_disp, ↓e_pairN, ↓e_pairC, intsOf_map, ↓e_for, ↓e_ilist, ↓e_itup, ↓e_rng1, ↓e_rng2, ↓e_lc, ↓e_lc2, e_lc2N, ↓e_ienum, ↓e_izip, ↓e_anyB, ↓e_allB, ↓e_mulS, blsOf_map, ↓e_set0, ↓e_sadd, ↓e_sortTx, ↓e_sortD, ↓e_repr, ↓e_extT, ↓e_sc2, ↓e_sortZ, ↓e_tupVals, ↓e_wget, ↓e_wix, ↓e_listZip, zipD_nil, zipD_cons, ↓e_dgetF, ↓e_idif,   ↓e_add_int, ↓e_add_str, ↓e_add_tup, ↓e_add_obj, ↓e_iadd_int, ↓e_iadd_str, ↓e_iadd_obj, ↓e_I, ↓e_I0, ↓e_IS_int, ↓e_IS_str, ↓e_eq_str, ↓e_ne_str, ↓e_eq_int, ↓e_ne_int, ↓e_eq_bl, ↓e_ne_bl, ↓e_isN, ↓e_notN, ↓e_ix_tup, ↓e_ix_fl, ↓e_ix_str, ↓e_ix_obj, ↓e_in_tup, ↓e_nin_tup, ↓e_len_tup, ↓e_len_fl, ↓e_len_str, ↓e_len_obj, ↓e_int_int, ↓e_tuple_tup, ↓e_tuple_obj, ↓e_list_tup, ↓e_list_obj, ↓e_dget, ↓e_din, ↓e_dnin, ↓e_lstAt, ↓e_dicAt,   e_key_int, e_key_str, e_up, e_ty_str, e_ty_tup, e_ty_int, e_ty_bl, e_ty_non, atI0, atI1, atI2, atI3, atIL, ixN0, ixN1, cut_from1, e_ite_or, e_ite_and, zln, znl, zli, zil, zni, zin, sizeLine_eq, CMul, CDiv, cpow1018, true_or, or_true, kb_strstr, kb_tupstr, kb_tuptup, kb_strtup, kb_inttup, kb_bltup, kb_nontup, kb_strbl, kb_strint, kb_intbl, kb_intint, kb_blbl, kb_blint, kb_nonbl, kb_nonint, kb_nonstr, kb_intstr, kb_blstr, kb_tupbl, kb_tupint,   List.set_cons_zero, List.set_cons_succ, List.set_nil, List.getElem?_cons_zero, List.getElem?_cons_succ, List.getElem?_nil, List.length_cons, List.length_nil, List.length_map, List.length_append, e_lcN, e_lcC, e_forN, e_forC, List.getLast?_concat, List.dropLast_concat, List.nil_append, List.cons_append, List.append_nil, List.append_assoc, List.reverse_cons, List.reverse_nil, List.isEmpty_nil, List.isEmpty_cons, isEmpty_snoc, List.any_cons, List.any_nil, List.all_cons, List.all_nil, flatD, eqF, in_non, in_tup, in_str, in_int, in_bl, in_obj, in_fl, startA, List.map_cons, List.map_nil, List.replicate_succ, List.replicate_zero,   Nat.reduceAdd, Nat.reduceSub, Nat.reduceLeDiff, Nat.zero_add, Int.reduceLE, Int.reduceLT, Int.reduceToNat, Int.reducePow, Int.reduceNeg, Int.reduceAdd, Int.reduceSub,   Option.isSome_some, Option.isSome_none, Bool.not_true, Bool.not_false, Bool.not_eq_true', Bool.not_eq_eq_eq_not, Bool.not_eq_true, Bool.false_eq_true, Bool.true_eq_false, Bool.and_true, Bool.true_and, Bool.or_false, Bool.false_or, Bool.or_true, Bool.true_or, Bool.and_false, Bool.false_and, if_true, if_false, ite_true, ite_false, reduceIte, reduceCtorEq, decide_true, decide_false, decide_eq_true_eq, decide_eq_false_iff_not, true_and, and_true, eq_self, ne_eq, not_false_eq_true, not_true_eq_false, and_self, *])
    refine ⟨by omega, by omega, rfl, c, rfl, ?_⟩
    try (simp only [↓e_seq, ↓e_next, ↓e_break, ↓e_cont, ↓e_expr, ↓e_ret, ↓e_retN, ↓e_if, ↓e_never, ↓e_asg, ↓e_name, ↓e_agtup, ↓e_agcons, ↓e_agnil, ↓e_agsub, ↓e_aug, ↓e_dput, ↓e_var, ↓e_c, ↓e_op, ↓e_some, ↓e_none, ↓e_test, ↓e_and, ↓e_or, ↓e_not, ↓e_yes, ↓e_truth,   ↓e_tru_bl, ↓e_tru_int, ↓e_tru_non, ↓e_tru_str, ↓e_tru_tup, ↓e_tru_obj, ↓e_chain, ↓e_orV, ↓e_andV, ↓e_notV, ↓e_ifE, ↓e_neg, ↓e_nil, ↓e_cons, ↓e_tup, ↓e_lst, ↓e_dnew, ↓e_call, ↓e_cb, ↓e_isi, ↓e_sl, ↓e_onone, ↓e_osome, ↓e_rev, ↓e_lm, ↓e_append, ↓e_extend, ↓e_pop, ↓e_join, ↓e_dget2, ↓e_sortSet, ↓e_sortS, ↓e_setd, strsOf_map, ↓e_maxI, ↓e_disp, ↓e_pairN, ↓e_pairC, intsOf_map, ↓e_for, ↓e_ilist, ↓e_itup, ↓e_rng1, ↓e_rng2, ↓e_lc, ↓e_lc2, e_lc2N, ↓e_ienum, ↓e_izip, ↓e_anyB, ↓e_allB, ↓e_mulS, blsOf_map, ↓e_set0, ↓e_sadd, ↓e_sortTx, ↓e_sortD, ↓e_repr, ↓e_extT, ↓e_sc2, ↓e_sortZ, ↓e_tupVals, ↓e_wget, ↓e_wix, ↓e_listZip, zipD_nil, zipD_cons, ↓e_dgetF, ↓e_idif,   ↓e_add_int, ↓e_add_str, ↓e_add_tup, ↓e_add_obj, ↓e_iadd_int, ↓e_iadd_str, ↓e_iadd_obj, ↓e_I, ↓e_I0, ↓e_IS_int, ↓e_IS_str, ↓e_eq_str, ↓e_ne_str, ↓e_eq_int, ↓e_ne_int, ↓e_eq_bl, ↓e_ne_bl, ↓e_isN, ↓e_notN, ↓e_ix_tup, ↓e_ix_fl, ↓e_ix_str, ↓e_ix_obj, ↓e_in_tup, ↓e_nin_tup, ↓e_len_tup, ↓e_len_fl, ↓e_len_str, ↓e_len_obj, ↓e_int_int, ↓e_tuple_tup, ↓e_tuple_obj, ↓e_list_tup, ↓e_list_obj, ↓e_dget, ↓e_din, ↓e_dnin, ↓e_lstAt, ↓e_dicAt,   e_key_int, e_key_str, e_up, e_ty_str, e_ty_tup, e_ty_int, e_ty_bl, e_ty_non, atI0, atI1, atI2, atI3, atIL, ixN0, ixN1, cut_from1, e_ite_or, e_ite_and, zln, znl, zli, zil, zni, zin, sizeLine_eq, CMul, CDiv, cpow1018, true_or, or_true, kb_strstr, kb_tupstr, kb_tuptup, kb_strtup, kb_inttup, kb_bltup, kb_nontup, kb_strbl, kb_strint, kb_intbl, kb_intint, kb_blbl, kb_blint, kb_nonbl, kb_nonint, kb_nonstr, kb_intstr, kb_blstr, kb_tupbl, kb_tupint,   List.set_cons_zero, List.set_cons_succ, List.set_nil, List.getElem?_cons_zero, List.getElem?_cons_succ, List.getElem?_nil, List.length_cons, List.length_nil, List.length_map, List.length_append, e_lcN, e_lcC, e_forN, e_forC, List.getLast?_concat, List.dropLast_concat, List.nil_append, List.cons_append, List.append_nil, List.append_assoc, List.reverse_cons, List.reverse_nil, List.isEmpty_nil, List.isEmpty_cons, isEmpty_snoc, List.any_cons, List.any_nil, List.all_cons, List.all_nil, flatD, eqF, in_non, in_tup, in_str, in_int, in_bl, in_obj, in_fl, startA, List.map_cons, List.map_nil, List.replicate_succ, List.replicate_zero,   Nat.reduceAdd, Nat.reduceSub, Nat.reduceLeDiff, Nat.zero_add, Int.reduceLE, Int.reduceLT, Int.reduceToNat, Int.reducePow, Int.reduceNeg, Int.reduceAdd, Int.reduceSub,   Option.isSome_some, Option.isSome_none, Bool.not_true, Bool.not_false, Bool.not_eq_true', Bool.not_eq_eq_eq_not, Bool.not_eq_true, Bool.false_eq_true, Bool.true_eq_false, Bool.and_true, Bool.true_and, Bool.or_false, Bool.false_or, Bool.or_true, Bool.true_or, Bool.and_false, Bool.false_and, if_true, if_false, ite_true, ite_false, reduceIte, reduceCtorEq, decide_true, decide_false, decide_eq_true_eq, decide_eq_false_iff_not, true_and, and_true, eq_self, ne_eq, not_false_eq_true, not_true_eq_false, and_self, *])
    refine ⟨by omega, rfl, .inr ⟨e, rfl, ?_⟩⟩
    try (simp only [↓e_seq, ↓e_next, ↓e_break, ↓e_cont, ↓e_expr, ↓e_ret, ↓e_retN, ↓e_if, ↓e_never, ↓e_asg, ↓e_name, ↓e_agtup, ↓e_agcons, ↓e_agnil, ↓e_agsub, ↓e_aug, ↓e_dput, ↓e_var, ↓e_c, ↓e_op, ↓e_some, ↓e_none, ↓e_test, ↓e_and, ↓e_or, ↓e_not, ↓e_yes, ↓e_truth,   ↓e_tru_bl, ↓e_tru_int, ↓e_tru_non, ↓e_tru_str, ↓e_tru_tup, ↓e_tru_obj, ↓e_chain, ↓e_orV, ↓e_andV, ↓e_notV, ↓e_ifE, ↓e_neg, ↓e_nil, ↓e_cons, ↓e_tup, ↓e_lst, ↓e_dnew, ↓e_call, ↓e_cb, ↓e_isi, ↓e_sl, ↓e_onone, ↓e_osome, ↓e_rev, ↓e_lm, ↓e_append, ↓e_extend, ↓e_pop, ↓e_join, ↓e_dget2, ↓e_sortSet, ↓e_sortS, ↓e_setd, strsOf_map, ↓e_maxI, ↓e_disp, ↓e_pairN, ↓e_pairC, intsOf_map, ↓e_for, ↓e_ilist, ↓e_itup, ↓e_rng1, ↓e_rng2, ↓e_lc, ↓e_lc2, e_lc2N, ↓e_ienum, ↓e_izip, ↓e_anyB, ↓e_allB, ↓e_mulS, blsOf_map, ↓e_set0, ↓e_sadd, ↓e_sortTx, ↓e_sortD, ↓e_repr, ↓e_extT, ↓e_sc2, ↓e_sortZ, ↓e_tupVals, ↓e_wget, ↓e_wix, ↓e_listZip, zipD_nil, zipD_cons, ↓e_dgetF, ↓e_idif,   ↓e_add_int, ↓e_add_str, ↓e_add_tup, ↓e_add_obj, ↓e_iadd_int, ↓e_iadd_str, ↓e_iadd_obj, ↓e_I, ↓e_I0, ↓e_IS_int, ↓e_IS_str, ↓e_eq_str, ↓e_ne_str, ↓e_eq_int, ↓e_ne_int, ↓e_eq_bl, ↓e_ne_bl, ↓e_isN, ↓e_notN, ↓e_ix_tup, ↓e_ix_fl, ↓e_ix_str, ↓e_ix_obj, ↓e_in_tup, ↓e_nin_tup, ↓e_len_tup, ↓e_len_fl, ↓e_len_str, ↓e_len_obj, ↓e_int_int, ↓e_tuple_tup, ↓e_tuple_obj, ↓e_list_tup, ↓e_list_obj, ↓e_dget, ↓e_din, ↓e_dnin, ↓e_lstAt, ↓e_dicAt,   e_key_int, e_key_str, e_up, e_ty_str, e_ty_tup, e_ty_int, e_ty_bl, e_ty_non, atI0, atI1, atI2, atI3, atIL, ixN0, ixN1, cut_from1, e_ite_or, e_ite_and, zln, znl, zli, zil, zni, zin, sizeLine_eq, CMul, CDiv, cpow1018, true_or, or_true, kb_strstr, kb_tupstr, kb_tuptup, kb_strtup, kb_inttup, kb_bltup, kb_nontup, kb_strbl, kb_strint, kb_intbl, kb_intint, kb_blbl, kb_blint, kb_nonbl, kb_nonint, kb_nonstr, kb_intstr, kb_blstr, kb_tupbl, kb_tupint,   List.set_cons_zero, List.set_cons_succ, List.set_nil, List.getElem?_cons_zero, List.getElem?_cons_succ, List.getElem?_nil, List.length_cons, List.length_nil, List.length_map, List.length_append, e_lcN, e_lcC, e_forN, e_forC, List.getLast?_concat, List.dropLast_concat, List.nil_append, List.cons_append, List.append_nil, List.append_assoc, List.reverse_cons, List.reverse_nil, List.isEmpty_nil, List.isEmpty_cons, isEmpty_snoc, List.any_cons, List.any_nil, List.all_cons, List.all_nil, flatD, eqF, in_non, in_tup, in_str, in_int, in_bl, in_obj, in_fl, startA, List.map_cons, List.map_nil, List.replicate_succ, List.replicate_zero,   Nat.reduceAdd, Nat.reduceSub, Nat.reduceLeDiff, Nat.zero_add, Int.reduceLE, Int.reduceLT, Int.reduceToNat, Int.reducePow, Int.reduceNeg, Int.reduceAdd, Int.reduceSub,   Option.isSome_some, Option.isSome_none, Bool.not_true, Bool.not_false, Bool.not_eq_true', Bool.not_eq_eq_eq_not, Bool.not_eq_true, Bool.false_eq_true, Bool.true_eq_false, Bool.and_true, Bool.true_and, Bool.or_false, Bool.false_or, Bool.or_true, Bool.true_or, Bool.and_false, Bool.false_and, if_true, if_false, ite_true, ite_false, reduceIte, reduceCtorEq, decide_true, decide_false, decide_eq_true_eq, decide_eq_false_iff_not, true_and, and_true, eq_self, ne_eq, not_false_eq_true, not_true_eq_false, and_self, *])
    refine ⟨by omega, ?_⟩
    rw [if_neg (by omega)]
    omega
def A_read_drawing : ASp := fun ds M Q _ => ∃ (rows : List (List Nat)) (f : Fm), ds = [.tup (rowsD rows)] ∧ RdR rows [] none f ∧ (∀ r ∈ rows, r.length ≤ 10000) ∧ ∀ M', Ext M M' → Q f.d M'
theorem p_read_drawing (ds : List D) (M : Sto) (Q : D → Sto → Prop) (Xa) (hl : ds.length = 1) (h : A_read_drawing ds M Q Xa) : a_read_drawing A_drawn_whole A_letter_of ax0 (Done Q) (startA ["rows", "waiting", "formula", "row", "signs"] ds) M := by
  obtain ⟨rows, f, rfl, hrd, hw, q⟩ := h
  unfold a_read_drawing
  try (simp only [↓e_seq, ↓e_next, ↓e_break, ↓e_cont, ↓e_expr, ↓e_ret, ↓e_retN, ↓e_if, ↓e_never, ↓e_asg, ↓e_name, ↓e_agtup, ↓e_agcons, ↓e_agnil, ↓e_agsub, ↓e_aug, ↓e_dput, ↓e_var, ↓e_c, ↓e_op, ↓e_some, ↓e_none, ↓e_test, ↓e_and, ↓e_or, ↓e_not, ↓e_yes, ↓e_truth,   ↓e_tru_bl, ↓e_tru_int, ↓e_tru_non, ↓e_tru_str, ↓e_tru_tup, ↓e_tru_obj, ↓e_chain, ↓e_orV, ↓e_andV, ↓e_notV, ↓e_ifE, ↓e_neg, ↓e_nil, ↓e_cons, ↓e_tup, ↓e_lst, ↓e_dnew, ↓e_call, ↓e_cb, ↓e_isi, ↓e_sl, ↓e_onone, ↓e_osome, ↓e_rev, ↓e_lm, ↓e_append, ↓e_extend, ↓e_pop, ↓e_join, ↓e_dget2, ↓e_sortSet, ↓e_sortS, ↓e_setd, strsOf_map, ↓e_maxI, ↓e_disp, ↓e_pairN, ↓e_pairC, intsOf_map, ↓e_for, ↓e_ilist, ↓e_itup, ↓e_rng1, ↓e_rng2, ↓e_lc, ↓e_lc2, e_lc2N, ↓e_ienum, ↓e_izip, ↓e_anyB, ↓e_allB, ↓e_mulS, blsOf_map, ↓e_set0, ↓e_sadd, ↓e_sortTx, ↓e_sortD, ↓e_repr, ↓e_extT, ↓e_sc2, ↓e_sortZ, ↓e_tupVals, ↓e_wget, ↓e_wix, ↓e_listZip, zipD_nil, zipD_cons, ↓e_dgetF, ↓e_idif,   ↓e_add_int, ↓e_add_str, ↓e_add_tup, ↓e_add_obj, ↓e_iadd_int, ↓e_iadd_str, ↓e_iadd_obj, ↓e_I, ↓e_I0, ↓e_IS_int, ↓e_IS_str, ↓e_eq_str, ↓e_ne_str, ↓e_eq_int, ↓e_ne_int, ↓e_eq_bl, ↓e_ne_bl, ↓e_isN, ↓e_notN, ↓e_ix_tup, ↓e_ix_fl, ↓e_ix_str, ↓e_ix_obj, ↓e_in_tup, ↓e_nin_tup, ↓e_len_tup, ↓e_len_fl, ↓e_len_str, ↓e_len_obj, ↓e_int_int, ↓e_tuple_tup, ↓e_tuple_obj, ↓e_list_tup, ↓e_list_obj, ↓e_dget, ↓e_din, ↓e_dnin, ↓e_lstAt, ↓e_dicAt,   e_key_int, e_key_str, e_up, e_ty_str, e_ty_tup, e_ty_int, e_ty_bl, e_ty_non, atI0, atI1, atI2, atI3, atIL, ixN0, ixN1, cut_from1, e_ite_or, e_ite_and, zln, znl, zli, zil, zni, zin, sizeLine_eq, CMul, CDiv, cpow1018, true_or, or_true, kb_strstr, kb_tupstr, kb_tuptup, kb_strtup, kb_inttup, kb_bltup, kb_nontup, kb_strbl, kb_strint, kb_intbl, kb_intint, kb_blbl, kb_blint, kb_nonbl, kb_nonint, kb_nonstr, kb_intstr, kb_blstr, kb_tupbl, kb_tupint,   List.set_cons_zero, List.set_cons_succ, List.set_nil, List.getElem?_cons_zero, List.getElem?_cons_succ, List.getElem?_nil, List.length_cons, List.length_nil, List.length_map, List.length_append, e_lcN, e_lcC, e_forN, e_forC, List.getLast?_concat, List.dropLast_concat, List.nil_append, List.cons_append, List.append_nil, List.append_assoc, List.reverse_cons, List.reverse_nil, List.isEmpty_nil, List.isEmpty_cons, isEmpty_snoc, List.any_cons, List.any_nil, List.all_cons, List.all_nil, flatD, eqF, in_non, in_tup, in_str, in_int, in_bl, in_obj, in_fl, startA, List.map_cons, List.map_nil, List.replicate_succ, List.replicate_zero,   Nat.reduceAdd, Nat.reduceSub, Nat.reduceLeDiff, Nat.zero_add, Int.reduceLE, Int.reduceLT, Int.reduceToNat, Int.reducePow, Int.reduceNeg, Int.reduceAdd, Int.reduceSub,   Option.isSome_some, Option.isSome_none, Bool.not_true, Bool.not_false, Bool.not_eq_true', Bool.not_eq_eq_eq_not, Bool.not_eq_true, Bool.false_eq_true, Bool.true_eq_false, Bool.and_true, Bool.true_and, Bool.or_false, Bool.false_or, Bool.or_true, Bool.true_or, Bool.and_false, Bool.false_and, if_true, if_false, ite_true, ite_false, reduceIte, reduceCtorEq, decide_true, decide_false, decide_eq_true_eq, decide_eq_false_iff_not, true_and, and_true, eq_self, ne_eq, not_false_eq_true, not_true_eq_false, and_self, *])
  intro p np
  refine for_run (fun ds env M' => ∃ (rest : List (List Nat)) (n : Int) (ws : List Wk) (o : Option Fm) (x3 x4 : Option D), ds = enumD n (rowsD rest) ∧ env = [some (.tup (rowsD rows)), some (.obj p), some (oD o), x3, x4] ∧ M' p = some (.lst (wkD ws)) ∧ ExtB p M M' ∧ RdR rest ws o f ∧ ∀ r ∈ rest, r.length ≤ 10000) (fun _ _ _ _ => trivial) ?_ ?_ ⟨rows, 0, [], none, none, none, rfl, rfl, up_same, ExtB.upd, hrd, hw⟩
  · rintro env M' ⟨rest, n, ws, o, x3, x4, hd, rfl, h1, he, hr, _⟩
    cases rest with
    | cons r rest => cases hd
    | nil =>
      clear hd
      have e : o = some f := hr
      subst e
      have e1 : oD (some f) = f.d := rfl
      have e2 := oD_isNon f
      have q1 := q M' (he.ext np)
      clear hr hrd
      try (simp only [↓e_seq, ↓e_next, ↓e_break, ↓e_cont, ↓e_expr, ↓e_ret, ↓e_retN, ↓e_if, ↓e_never, ↓e_asg, ↓e_name, ↓e_agtup, ↓e_agcons, ↓e_agnil, ↓e_agsub, ↓e_aug, ↓e_dput, ↓e_var, ↓e_c, ↓e_op, ↓e_some, ↓e_none, ↓e_test, ↓e_and, ↓e_or, ↓e_not, ↓e_yes, ↓e_truth,   ↓e_tru_bl, ↓e_tru_int, ↓e_tru_non, ↓e_tru_str, ↓e_tru_tup, ↓e_tru_obj, ↓e_chain, ↓e_orV, ↓e_andV, ↓e_notV, ↓e_ifE, ↓e_neg, ↓e_nil, ↓e_cons, ↓e_tup, ↓e_lst, ↓e_dnew, ↓e_call, ↓e_cb, ↓e_isi, ↓e_sl, ↓e_onone, ↓e_osome, ↓e_rev, ↓e_lm, ↓e_append, ↓e_extend, ↓e_pop, ↓e_join, ↓e_dget2, ↓e_sortSet, ↓e_sortS, ↓e_setd, strsOf_map, ↓e_maxI, ↓e_disp, ↓e_pairN, ↓e_pairC, intsOf_map, ↓e_for, ↓e_ilist, ↓e_itup, ↓e_rng1, ↓e_rng2, ↓e_lc, ↓e_lc2, e_lc2N, ↓e_ienum, ↓e_izip, ↓e_anyB, ↓e_allB, ↓e_mulS, blsOf_map, ↓e_set0, ↓e_sadd, ↓e_sortTx, ↓e_sortD, ↓e_repr, ↓e_extT, ↓e_sc2, ↓e_sortZ, ↓e_tupVals, ↓e_wget, ↓e_wix, ↓e_listZip, zipD_nil, zipD_cons, ↓e_dgetF, ↓e_idif,   ↓e_add_int, ↓e_add_str, ↓e_add_tup, ↓e_add_obj, ↓e_iadd_int, ↓e_iadd_str, ↓e_iadd_obj, ↓e_I, ↓e_I0, ↓e_IS_int, ↓e_IS_str, ↓e_eq_str, ↓e_ne_str, ↓e_eq_int, ↓e_ne_int, ↓e_eq_bl, ↓e_ne_bl, ↓e_isN, ↓e_notN, ↓e_ix_tup, ↓e_ix_fl, ↓e_ix_str, ↓e_ix_obj, ↓e_in_tup, ↓e_nin_tup, ↓e_len_tup, ↓e_len_fl, ↓e_len_str, ↓e_len_obj, ↓e_int_int, ↓e_tuple_tup, ↓e_tuple_obj, ↓e_list_tup, ↓e_list_obj, ↓e_dget, ↓e_din, ↓e_dnin, ↓e_lstAt, ↓e_dicAt,   e_key_int, e_key_str, e_up, e_ty_str, e_ty_tup, e_ty_int, e_ty_bl, e_ty_non, atI0, atI1, atI2, atI3, atIL, ixN0, ixN1, cut_from1, e_ite_or, e_ite_and, zln, znl, zli, zil, zni, zin, sizeLine_eq, CMul, CDiv, cpow1018, true_or, or_true, kb_strstr, kb_tupstr, kb_tuptup, kb_strtup, kb_inttup, kb_bltup, kb_nontup, kb_strbl, kb_strint, kb_intbl, kb_intint, kb_blbl, kb_blint, kb_nonbl, kb_nonint, kb_nonstr, kb_intstr, kb_blstr, kb_tupbl, kb_tupint,   List.set_cons_zero, List.set_cons_succ, List.set_nil, List.getElem?_cons_zero, List.getElem?_cons_succ, List.getElem?_nil, List.length_cons, List.length_nil, List.length_map, List.length_append, e_lcN, e_lcC, e_forN, e_forC, List.getLast?_concat, List.dropLast_concat, List.nil_append, List.cons_append, List.append_nil, List.append_assoc, List.reverse_cons, List.reverse_nil, List.isEmpty_nil, List.isEmpty_cons, isEmpty_snoc, List.any_cons, List.any_nil, List.all_cons, List.all_nil, flatD, eqF, in_non, in_tup, in_str, in_int, in_bl, in_obj, in_fl, startA, List.map_cons, List.map_nil, List.replicate_succ, List.replicate_zero,   Nat.reduceAdd, Nat.reduceSub, Nat.reduceLeDiff, Nat.zero_add, Int.reduceLE, Int.reduceLT, Int.reduceToNat, Int.reducePow, Int.reduceNeg, Int.reduceAdd, Int.reduceSub,   Option.isSome_some, Option.isSome_none, Bool.not_true, Bool.not_false, Bool.not_eq_true', Bool.not_eq_eq_eq_not, Bool.not_eq_true, Bool.false_eq_true, Bool.true_eq_false, Bool.and_true, Bool.true_and, Bool.or_false, Bool.false_or, Bool.or_true, Bool.true_or, Bool.and_false, Bool.false_and, if_true, if_false, ite_true, ite_false, reduceIte, reduceCtorEq, decide_true, decide_false, decide_eq_true_eq, decide_eq_false_iff_not, true_and, and_true, eq_self, ne_eq, not_false_eq_true, not_true_eq_false, and_self, *])
  · rintro d r' N env M' ⟨rest, n, ws, o, x3, x4, hd, rfl, h1, he, hr, hwr⟩ next
    cases rest with
    | nil => cases hd
    | cons r rest =>
      have hd' : d :: r' = .tup [.int n, .str (S r)] :: enumD (n + 1) (rowsD rest) := hd
      injection hd' with hd1 hd2
      subst hd1 hd2
      obtain ⟨rfl, ss, nm, hrr, hso, hnm, hr2⟩ := hr
      have hrl := hwr r List.mem_cons_self
      have hml : (mk ss ws).length ≤ r.length := by rw [mk_len, hrr, List.length_append, List.length_append, pre_len]; omega
      have e1 : oD none = .non := rfl
      have hrr' := hrr.symm
      clear hd hrd hrr
      try (simp only [↓e_seq, ↓e_next, ↓e_break, ↓e_cont, ↓e_expr, ↓e_ret, ↓e_retN, ↓e_if, ↓e_never, ↓e_asg, ↓e_name, ↓e_agtup, ↓e_agcons, ↓e_agnil, ↓e_agsub, ↓e_aug, ↓e_dput, ↓e_var, ↓e_c, ↓e_op, ↓e_some, ↓e_none, ↓e_test, ↓e_and, ↓e_or, ↓e_not, ↓e_yes, ↓e_truth,   ↓e_tru_bl, ↓e_tru_int, ↓e_tru_non, ↓e_tru_str, ↓e_tru_tup, ↓e_tru_obj, ↓e_chain, ↓e_orV, ↓e_andV, ↓e_notV, ↓e_ifE, ↓e_neg, ↓e_nil, ↓e_cons, ↓e_tup, ↓e_lst, ↓e_dnew, ↓e_call, ↓e_cb, ↓e_isi, ↓e_sl, ↓e_onone, ↓e_osome, ↓e_rev, ↓e_lm, ↓e_append, ↓e_extend, ↓e_pop, ↓e_join, ↓e_dget2, ↓e_sortSet, ↓e_sortS, ↓e_setd, strsOf_map, ↓e_maxI, ↓e_disp, ↓e_pairN, ↓e_pairC, intsOf_map, ↓e_for, ↓e_ilist, ↓e_itup, ↓e_rng1, ↓e_rng2, ↓e_lc, ↓e_lc2, e_lc2N, ↓e_ienum, ↓e_izip, ↓e_anyB, ↓e_allB, ↓e_mulS, blsOf_map, ↓e_set0, ↓e_sadd, ↓e_sortTx, ↓e_sortD, ↓e_repr, ↓e_extT, ↓e_sc2, ↓e_sortZ, ↓e_tupVals, ↓e_wget, ↓e_wix, ↓e_listZip, zipD_nil, zipD_cons, ↓e_dgetF, ↓e_idif,   ↓e_add_int, ↓e_add_str, ↓e_add_tup, ↓e_add_obj, ↓e_iadd_int, ↓e_iadd_str, ↓e_iadd_obj, ↓e_I, ↓e_I0, ↓e_IS_int, ↓e_IS_str, ↓e_eq_str, ↓e_ne_str, ↓e_eq_int, ↓e_ne_int, ↓e_eq_bl, ↓e_ne_bl, ↓e_isN, ↓e_notN, ↓e_ix_tup, ↓e_ix_fl, ↓e_ix_str, ↓e_ix_obj, ↓e_in_tup, ↓e_nin_tup, ↓e_len_tup, ↓e_len_fl, ↓e_len_str, ↓e_len_obj, ↓e_int_int, ↓e_tuple_tup, ↓e_tuple_obj, ↓e_list_tup, ↓e_list_obj, ↓e_dget, ↓e_din, ↓e_dnin, ↓e_lstAt, ↓e_dicAt,   e_key_int, e_key_str, e_up, e_ty_str, e_ty_tup, e_ty_int, e_ty_bl, e_ty_non, atI0, atI1, atI2, atI3, atIL, ixN0, ixN1, cut_from1, e_ite_or, e_ite_and, zln, znl, zli, zil, zni, zin, sizeLine_eq, CMul, CDiv, cpow1018, true_or, or_true, kb_strstr, kb_tupstr, kb_tuptup, kb_strtup, kb_inttup, kb_bltup, kb_nontup, kb_strbl, kb_strint, kb_intbl, kb_intint, kb_blbl, kb_blint, kb_nonbl, kb_nonint, kb_nonstr, kb_intstr, kb_blstr, kb_tupbl, kb_tupint,   List.set_cons_zero, List.set_cons_succ, List.set_nil, List.getElem?_cons_zero, List.getElem?_cons_succ, List.getElem?_nil, List.length_cons, List.length_nil, List.length_map, List.length_append, e_lcN, e_lcC, e_forN, e_forC, List.getLast?_concat, List.dropLast_concat, List.nil_append, List.cons_append, List.append_nil, List.append_assoc, List.reverse_cons, List.reverse_nil, List.isEmpty_nil, List.isEmpty_cons, isEmpty_snoc, List.any_cons, List.any_nil, List.all_cons, List.all_nil, flatD, eqF, in_non, in_tup, in_str, in_int, in_bl, in_obj, in_fl, startA, List.map_cons, List.map_nil, List.replicate_succ, List.replicate_zero,   Nat.reduceAdd, Nat.reduceSub, Nat.reduceLeDiff, Nat.zero_add, Int.reduceLE, Int.reduceLT, Int.reduceToNat, Int.reducePow, Int.reduceNeg, Int.reduceAdd, Int.reduceSub,   Option.isSome_some, Option.isSome_none, Bool.not_true, Bool.not_false, Bool.not_eq_true', Bool.not_eq_eq_eq_not, Bool.not_eq_true, Bool.false_eq_true, Bool.true_eq_false, Bool.and_true, Bool.true_and, Bool.or_false, Bool.false_or, Bool.or_true, Bool.true_or, Bool.and_false, Bool.false_and, if_true, if_false, ite_true, ite_false, reduceIte, reduceCtorEq, decide_true, decide_false, decide_eq_true_eq, decide_eq_false_iff_not, true_and, and_true, eq_self, ne_eq, not_false_eq_true, not_true_eq_false, and_self, *])
      refine ⟨rfl, p, ws, .int n, r, ss, nm, rfl, h1, hrr'.symm, hso, hnm, hrl, fun M1 h2 e2 => ?_⟩
      try (simp only [↓e_seq, ↓e_next, ↓e_break, ↓e_cont, ↓e_expr, ↓e_ret, ↓e_retN, ↓e_if, ↓e_never, ↓e_asg, ↓e_name, ↓e_agtup, ↓e_agcons, ↓e_agnil, ↓e_agsub, ↓e_aug, ↓e_dput, ↓e_var, ↓e_c, ↓e_op, ↓e_some, ↓e_none, ↓e_test, ↓e_and, ↓e_or, ↓e_not, ↓e_yes, ↓e_truth,   ↓e_tru_bl, ↓e_tru_int, ↓e_tru_non, ↓e_tru_str, ↓e_tru_tup, ↓e_tru_obj, ↓e_chain, ↓e_orV, ↓e_andV, ↓e_notV, ↓e_ifE, ↓e_neg, ↓e_nil, ↓e_cons, ↓e_tup, ↓e_lst, ↓e_dnew, ↓e_call, ↓e_cb, ↓e_isi, ↓e_sl, ↓e_onone, ↓e_osome, ↓e_rev, ↓e_lm, ↓e_append, ↓e_extend, ↓e_pop, ↓e_join, ↓e_dget2, ↓e_sortSet, ↓e_sortS, ↓e_setd, strsOf_map, ↓e_maxI, ↓e_disp, ↓e_pairN, ↓e_pairC, intsOf_map, ↓e_for, ↓e_ilist, ↓e_itup, ↓e_rng1, ↓e_rng2, ↓e_lc, ↓e_lc2, e_lc2N, ↓e_ienum, ↓e_izip, ↓e_anyB, ↓e_allB, ↓e_mulS, blsOf_map, ↓e_set0, ↓e_sadd, ↓e_sortTx, ↓e_sortD, ↓e_repr, ↓e_extT, ↓e_sc2, ↓e_sortZ, ↓e_tupVals, ↓e_wget, ↓e_wix, ↓e_listZip, zipD_nil, zipD_cons, ↓e_dgetF, ↓e_idif,   ↓e_add_int, ↓e_add_str, ↓e_add_tup, ↓e_add_obj, ↓e_iadd_int, ↓e_iadd_str, ↓e_iadd_obj, ↓e_I, ↓e_I0, ↓e_IS_int, ↓e_IS_str, ↓e_eq_str, ↓e_ne_str, ↓e_eq_int, ↓e_ne_int, ↓e_eq_bl, ↓e_ne_bl, ↓e_isN, ↓e_notN, ↓e_ix_tup, ↓e_ix_fl, ↓e_ix_str, ↓e_ix_obj, ↓e_in_tup, ↓e_nin_tup, ↓e_len_tup, ↓e_len_fl, ↓e_len_str, ↓e_len_obj, ↓e_int_int, ↓e_tuple_tup, ↓e_tuple_obj, ↓e_list_tup, ↓e_list_obj, ↓e_dget, ↓e_din, ↓e_dnin, ↓e_lstAt, ↓e_dicAt,   e_key_int, e_key_str, e_up, e_ty_str, e_ty_tup, e_ty_int, e_ty_bl, e_ty_non, atI0, atI1, atI2, atI3, atIL, ixN0, ixN1, cut_from1, e_ite_or, e_ite_and, zln, znl, zli, zil, zni, zin, sizeLine_eq, CMul, CDiv, cpow1018, true_or, or_true, kb_strstr, kb_tupstr, kb_tuptup, kb_strtup, kb_inttup, kb_bltup, kb_nontup, kb_strbl, kb_strint, kb_intbl, kb_intint, kb_blbl, kb_blint, kb_nonbl, kb_nonint, kb_nonstr, kb_intstr, kb_blstr, kb_tupbl, kb_tupint,   List.set_cons_zero, List.set_cons_succ, List.set_nil, List.getElem?_cons_zero, List.getElem?_cons_succ, List.getElem?_nil, List.length_cons, List.length_nil, List.length_map, List.length_append, e_lcN, e_lcC, e_forN, e_forC, List.getLast?_concat, List.dropLast_concat, List.nil_append, List.cons_append, List.append_nil, List.append_assoc, List.reverse_cons, List.reverse_nil, List.isEmpty_nil, List.isEmpty_cons, isEmpty_snoc, List.any_cons, List.any_nil, List.all_cons, List.all_nil, flatD, eqF, in_non, in_tup, in_str, in_int, in_bl, in_obj, in_fl, startA, List.map_cons, List.map_nil, List.replicate_succ, List.replicate_zero,   Nat.reduceAdd, Nat.reduceSub, Nat.reduceLeDiff, Nat.zero_add, Int.reduceLE, Int.reduceLT, Int.reduceToNat, Int.reducePow, Int.reduceNeg, Int.reduceAdd, Int.reduceSub,   Option.isSome_some, Option.isSome_none, Bool.not_true, Bool.not_false, Bool.not_eq_true', Bool.not_eq_eq_eq_not, Bool.not_eq_true, Bool.false_eq_true, Bool.true_eq_false, Bool.and_true, Bool.true_and, Bool.or_false, Bool.false_or, Bool.or_true, Bool.true_or, Bool.and_false, Bool.false_and, if_true, if_false, ite_true, ite_false, reduceIte, reduceCtorEq, decide_true, decide_false, decide_eq_true_eq, decide_eq_false_iff_not, true_and, and_true, eq_self, ne_eq, not_false_eq_true, not_true_eq_false, and_self, *])
      refine ⟨rfl, p, mk ss ws, .lt (S nm), rfl, h2, by omega, fun M2 h3 e3 => ?_⟩
      try (simp only [↓e_seq, ↓e_next, ↓e_break, ↓e_cont, ↓e_expr, ↓e_ret, ↓e_retN, ↓e_if, ↓e_never, ↓e_asg, ↓e_name, ↓e_agtup, ↓e_agcons, ↓e_agnil, ↓e_agsub, ↓e_aug, ↓e_dput, ↓e_var, ↓e_c, ↓e_op, ↓e_some, ↓e_none, ↓e_test, ↓e_and, ↓e_or, ↓e_not, ↓e_yes, ↓e_truth,   ↓e_tru_bl, ↓e_tru_int, ↓e_tru_non, ↓e_tru_str, ↓e_tru_tup, ↓e_tru_obj, ↓e_chain, ↓e_orV, ↓e_andV, ↓e_notV, ↓e_ifE, ↓e_neg, ↓e_nil, ↓e_cons, ↓e_tup, ↓e_lst, ↓e_dnew, ↓e_call, ↓e_cb, ↓e_isi, ↓e_sl, ↓e_onone, ↓e_osome, ↓e_rev, ↓e_lm, ↓e_append, ↓e_extend, ↓e_pop, ↓e_join, ↓e_dget2, ↓e_sortSet, ↓e_sortS, ↓e_setd, strsOf_map, ↓e_maxI, ↓e_disp, ↓e_pairN, ↓e_pairC, intsOf_map, ↓e_for, ↓e_ilist, ↓e_itup, ↓e_rng1, ↓e_rng2, ↓e_lc, ↓e_lc2, e_lc2N, ↓e_ienum, ↓e_izip, ↓e_anyB, ↓e_allB, ↓e_mulS, blsOf_map, ↓e_set0, ↓e_sadd, ↓e_sortTx, ↓e_sortD, ↓e_repr, ↓e_extT, ↓e_sc2, ↓e_sortZ, ↓e_tupVals, ↓e_wget, ↓e_wix, ↓e_listZip, zipD_nil, zipD_cons, ↓e_dgetF, ↓e_idif,   ↓e_add_int, ↓e_add_str, ↓e_add_tup, ↓e_add_obj, ↓e_iadd_int, ↓e_iadd_str, ↓e_iadd_obj, ↓e_I, ↓e_I0, ↓e_IS_int, ↓e_IS_str, ↓e_eq_str, ↓e_ne_str, ↓e_eq_int, ↓e_ne_int, ↓e_eq_bl, ↓e_ne_bl, ↓e_isN, ↓e_notN, ↓e_ix_tup, ↓e_ix_fl, ↓e_ix_str, ↓e_ix_obj, ↓e_in_tup, ↓e_nin_tup, ↓e_len_tup, ↓e_len_fl, ↓e_len_str, ↓e_len_obj, ↓e_int_int, ↓e_tuple_tup, ↓e_tuple_obj, ↓e_list_tup, ↓e_list_obj, ↓e_dget, ↓e_din, ↓e_dnin, ↓e_lstAt, ↓e_dicAt,   e_key_int, e_key_str, e_up, e_ty_str, e_ty_tup, e_ty_int, e_ty_bl, e_ty_non, atI0, atI1, atI2, atI3, atIL, ixN0, ixN1, cut_from1, e_ite_or, e_ite_and, zln, znl, zli, zil, zni, zin, sizeLine_eq, CMul, CDiv, cpow1018, true_or, or_true, kb_strstr, kb_tupstr, kb_tuptup, kb_strtup, kb_inttup, kb_bltup, kb_nontup, kb_strbl, kb_strint, kb_intbl, kb_intint, kb_blbl, kb_blint, kb_nonbl, kb_nonint, kb_nonstr, kb_intstr, kb_blstr, kb_tupbl, kb_tupint,   List.set_cons_zero, List.set_cons_succ, List.set_nil, List.getElem?_cons_zero, List.getElem?_cons_succ, List.getElem?_nil, List.length_cons, List.length_nil, List.length_map, List.length_append, e_lcN, e_lcC, e_forN, e_forC, List.getLast?_concat, List.dropLast_concat, List.nil_append, List.cons_append, List.append_nil, List.append_assoc, List.reverse_cons, List.reverse_nil, List.isEmpty_nil, List.isEmpty_cons, isEmpty_snoc, List.any_cons, List.any_nil, List.all_cons, List.all_nil, flatD, eqF, in_non, in_tup, in_str, in_int, in_bl, in_obj, in_fl, startA, List.map_cons, List.map_nil, List.replicate_succ, List.replicate_zero,   Nat.reduceAdd, Nat.reduceSub, Nat.reduceLeDiff, Nat.zero_add, Int.reduceLE, Int.reduceLT, Int.reduceToNat, Int.reducePow, Int.reduceNeg, Int.reduceAdd, Int.reduceSub,   Option.isSome_some, Option.isSome_none, Bool.not_true, Bool.not_false, Bool.not_eq_true', Bool.not_eq_eq_eq_not, Bool.not_eq_true, Bool.false_eq_true, Bool.true_eq_false, Bool.and_true, Bool.true_and, Bool.or_false, Bool.false_or, Bool.or_true, Bool.true_or, Bool.and_false, Bool.false_and, if_true, if_false, ite_true, ite_false, reduceIte, reduceCtorEq, decide_true, decide_false, decide_eq_true_eq, decide_eq_false_iff_not, true_and, and_true, eq_self, ne_eq, not_false_eq_true, not_true_eq_false, and_self, *])
      exact next _ _ ⟨rest, n + 1, _, _, _, _, rfl, rfl, h3, (he.trans e2).trans e3, hr2, fun x hx => hwr x (List.mem_cons_of_mem _ hx)⟩

/- slots of draw: 0 formula -/
def a_draw (A_behind : ASp) (A_draw : ASp) : ATS :=
    (aSeq (aIf (aTest (aOp (ρEq false) (aOp ρIx (aVar 0) (aC (.int 0))) (aC (.str z_letter)))) (aRet (aTup (aCons (aOp ρAdd (aC (.str z__2d__20_)) (aOp ρIx (aVar 0) (aC (.int 1)))) aNil))) aNext)
    (aSeq (aIf (aTest (aOp (ρEq false) (aOp ρIx (aVar 0) (aC (.int 0))) (aC (.str z_not)))) (aRet (aCall 3 A_behind (aCons (aC (.str z__2a_)) (aCons (aC (.str z__20_)) (aCons (aCall 1 A_draw (aCons (aOp ρIx (aVar 0) (aC (.int 1))) aNil)) aNil))))) aNext)
    (aRet (aOp ρAdd (aCall 3 A_behind (aCons (aC (.str z__2b_)) (aCons (aC (.str z__7c_)) (aCons (aCall 1 A_draw (aCons (aOp ρIx (aVar 0) (aC (.int 2))) aNil)) aNil)))) (aCall 3 A_behind (aCons (aC (.str z__60_)) (aCons (aC (.str z__20_)) (aCons (aCall 1 A_draw (aCons (aOp ρIx (aVar 0) (aC (.int 1))) aNil)) aNil))))))))
/- slots of behind: 0 first, 1 other, 2 rows, 3 row -/
def a_behind  : ATS :=
    (aRet (aOp ρAdd (aTup (aCons (aOp ρAdd (aVar 0) (aOp ρIx (aVar 2) (aC (.int 0)))) aNil)) (aTg (aITup (aSl (aVar 2) (aOSome (aC (.int 1))) aONone)) 3 aYes (aOp ρAdd (aVar 1) (aVar 3)))))
/- slots of width: 0 formula, 1 row -/
def a_width (A_draw : ASp) : ATS :=
    (aRet (aCB ρMaxI (aCons (aLc (aITup (aCall 1 A_draw (aCons (aVar 0) aNil))) 1 aYes (aCB ρLen (aCons (aVar 1) aNil))) aNil)))
/- slots of height: 0 formula -/
def a_height (A_draw : ASp) : ATS :=
    (aRet (aCB ρLen (aCons (aCall 1 A_draw (aCons (aVar 0) aNil)) aNil)))
/- slots of law: 0 script, 1 box, 2 k, 3 formula, 4 rows, 5 row -/
def a_law (A__law_box : ASp) (A__law_lettered : ASp) (A__law_drawing : ASp) (A__law_same : ASp) (A_draw : ASp) (A_read_drawing : ASp) (A_height : ASp) (A_width : ASp) : ATS :=
    (aSeq (aAsg (aCall 3 A__law_box (aCons (aVar 0) (aCons (aC (.int 0)) (aCons (aC (.int 63)) aNil)))) (agName 1))
    (aSeq (aFor (aIRng1 (aCons (aC (.int 5)) aNil)) (agName 2) (aSeq (aAsg (aCall 3 A__law_lettered (aCons (aVar 1) (aCons (aOp ρIx (aLst (aCons (aC (.int 1)) (aCons (aC (.int 3)) (aCons (aC (.int 7)) (aCons (aC (.int 15)) (aCons (aC (.int 30)) aNil)))))) (aVar 2)) (aCons (aC (.int 6)) aNil)))) (agName 3))
    (aSeq (aAsg (aCB ρTuple (aCons (aCall 1 A__law_drawing (aCons (aVar 3) aNil)) aNil)) (agName 4))
    (aSeq (aIf (aOr (aNot (aTruth (aCall 2 A__law_same (aCons (aCall 1 A_draw (aCons (aVar 3) aNil)) (aCons (aVar 4) aNil))))) (aNot (aTruth (aCall 2 A__law_same (aCons (aCall 1 A_read_drawing (aCons (aVar 4) aNil)) (aCons (aVar 3) aNil)))))) (aRet (aC (.bl false))) aNext)
    (aIf (aOr (aNot (aTruth (aCall 2 A__law_same (aCons (aCall 1 A_height (aCons (aVar 3) aNil)) (aCons (aCB ρLen (aCons (aVar 4) aNil)) aNil))))) (aNot (aTruth (aCall 2 A__law_same (aCons (aCall 1 A_width (aCons (aVar 3) aNil)) (aCons (aCB ρMaxI (aCons (aLc (aITup (aVar 4)) 5 aYes (aCB ρLen (aCons (aVar 5) aNil))) aNil)) aNil)))))) (aRet (aC (.bl false))) aNext)))))
    (aRet (aC (.bl true)))))

theorem law_startT {K : PySem.W.Frag} {H : Hp} {a : Addr} {ns : List Int} {A : ASp} {cs : List (Addr × Addr)} (hc : tabs = cs.map (·.2)) (hT : ∀ p ∈ cs, H p.2 = some (.tbl #[])) (ho : GT.OnlyT cs H) (hs : SqL K H a (ns.map V.int)) (hA : ∀ Q : D → Sto → Prop, (∀ M, Q (.bl true) M) → A [.fl (ns.map D.int)] (fun _ => none) Q xa0) : conc K 1 A [.ref a] H (fun v _ => v = .bl true) (fun _ _ _ => False) := by
  have isT : ∀ P ∈ cs.map (·.2), H P = some (.tbl #[]) := fun P hP => by
    obtain ⟨p, hp, rfl⟩ := List.mem_map.mp hP
    exact hT p hp
  have hf : SqF K H a (ns.map V.int) := by
    rcases hs with (h | ⟨o, h⟩) | h
    · rcases ho a with z | z | ⟨o, xs, z⟩
      · rw [z] at h; cases h
      · rw [isT _ z] at h; cases h
      · rw [z] at h; cases h
    · exact .inl ⟨o, h⟩
    · exact .inr h
  refine ⟨[.fl (ns.map D.int)], fun _ => none, fun d _ => d = .bl true, xa0, rfl, ⟨_, _, rfl, ⟨a, _, rfl, hf, repL_ints ns⟩, rfl⟩, (fun a mo h => nomatch h), (fun P hP => ⟨rfl, #[], isT P (by rw [← hc]; exact hP), (by simp [TriplesOk])⟩), hA _ fun M => rfl, fun v H' d M' t r q => ?_, fun cls d H' M' fs t r q => q⟩
  subst q
  exact r

def A_pbehind : ASp := fun ds M Q _ => ∃ (a b : List Nat) (rs : List (List Nat)), ds = [.str (S a), .str (S b), .tup (rowsD rs)] ∧ rs ≠ [] ∧ rs.length ≤ 10000 ∧ a.length ≤ 100 ∧ b.length ≤ 100 ∧ (∀ r ∈ rs, r.length ≤ 10000) ∧ Q (.tup (rowsD (under a b rs))) M
theorem p_behind (ds : List D) (M : Sto) (Q : D → Sto → Prop) (Xa) (hl : ds.length = 3) (h : A_pbehind ds M Q Xa) : a_behind ax0 (Done Q) (startA ["first", "other", "rows", "row"] ds) M := by
  obtain ⟨a, b, rs, rfl, hne, hlen, ha, hb, hw, q⟩ := h
  unfold a_behind
  cases rs with
  | nil => exact absurd rfl hne
  | cons r rs =>
    have wr := hw r List.mem_cons_self
    have hap := S_app
    have hsl := S_len
    have hc : rowsD (r :: rs) = .str (S r) :: rowsD rs := rfl
    have sl : (rowsD rs).length = rs.length := List.length_map _
    rw [hc]
    rw [List.length_cons] at hlen
    clear hc
    try (simp only [↓e_seq, ↓e_next, ↓e_break, ↓e_cont, ↓e_expr, ↓e_ret, ↓e_retN, ↓e_if, ↓e_never, ↓e_asg, ↓e_name, ↓e_agtup, ↓e_agcons, ↓e_agnil, ↓e_agsub, ↓e_aug, ↓e_dput, ↓e_var, ↓e_c, ↓e_op, ↓e_some, ↓e_none, ↓e_test, ↓e_and, ↓e_or, ↓e_not, ↓e_yes, ↓e_truth,   ↓e_tru_bl, ↓e_tru_int, ↓e_tru_non, ↓e_tru_str, ↓e_tru_tup, ↓e_tru_obj, ↓e_chain, ↓e_orV, ↓e_andV, ↓e_notV, ↓e_ifE, ↓e_neg, ↓e_nil, ↓e_cons, ↓e_tup, ↓e_lst, ↓e_dnew, ↓e_call, ↓e_cb, ↓e_isi, ↓e_sl, ↓e_onone, ↓e_osome, ↓e_rev, ↓e_lm, ↓e_append, ↓e_dictC, ↓e_any, e_anyN, e_anyC, ↓e_anyY, ↓e_any2, e_any2N, ↓e_tg, ↓e_tg2, ↓e_fld, ↓e_setF, ↓e_meth, ↓e_make, ↓e_par, ↓e_irevR1, ↓e_indexI, ↓e_extend, ↓e_pop, ↓e_join, ↓e_dget2, ↓e_sortSet, ↓e_sortS, ↓e_setd, strsOf_map, ↓e_maxI, ↓e_disp, ↓e_pairN, ↓e_pairC, intsOf_map, ↓e_for, ↓e_ilist, ↓e_itup, ↓e_rng1, ↓e_rng2, ↓e_lc, ↓e_lc2, e_lc2N, ↓e_ienum, ↓e_izip, ↓e_anyB, ↓e_allB, ↓e_mulS, blsOf_map, ↓e_set0, ↓e_sadd, ↓e_sortTx, ↓e_sortD, ↓e_repr, ↓e_extT, ↓e_sc2, ↓e_sortZ, ↓e_tupVals, ↓e_wget, ↓e_wix, ↓e_listZip, zipD_nil, zipD_cons, ↓e_dgetF, ↓e_idif, ↓e_isB, ↓e_sortI, ↓e_sortSetI, ↓e_tailR, ↓e_divmod, ↓e_strI, ↓e_lenD, ↓e_fmt, ↓e_fs2, ↓e_sortR, ↓e_sortTS, ↓e_irevT, cut_to1, cut_to3, cut_from1',    ↓e_add_int, ↓e_add_str, ↓e_add_tup, ↓e_add_obj, ↓e_iadd_int, ↓e_iadd_str, ↓e_iadd_obj, ↓e_I, ↓e_I0, ↓e_IS_int, ↓e_IS_str, ↓e_eq_str, ↓e_ne_str, ↓e_eq_int, ↓e_ne_int, ↓e_eq_bl, ↓e_ne_bl, ↓e_isN, ↓e_notN, ↓e_ix_tup, ↓e_ix_fl, ↓e_ix_str, ↓e_ix_obj, ↓e_in_tup, ↓e_nin_tup, ↓e_len_tup, ↓e_len_fl, ↓e_len_str, ↓e_len_obj, ↓e_int_int, ↓e_tuple_tup, ↓e_tuple_obj, ↓e_list_tup, ↓e_list_obj, ↓e_dget, ↓e_din, ↓e_dnin, ↓e_lstAt, ↓e_dicAt,   e_key_int, e_key_str, e_up, e_ty_str, e_ty_tup, e_ty_int, e_ty_bl, e_ty_non, atI0, atI1, atI2, atI3, atIL, ixN0, ixN1, cut_from1, e_ite_or, e_ite_and, zln, znl, zli, zil, zni, zin, sizeLine_eq, CMul, CDiv, cpow1018, true_or, or_true, kb_strstr, kb_tupstr, kb_tuptup, kb_strtup, kb_inttup, kb_bltup, kb_nontup, kb_strbl, kb_strint, kb_intbl, kb_intint, kb_blbl, kb_blint, kb_nonbl, kb_nonint, kb_nonstr, kb_intstr, kb_blstr, kb_tupbl, kb_tupint,   List.set_cons_zero, List.set_cons_succ, List.set_nil, List.getElem?_cons_zero, List.getElem?_cons_succ, List.getElem?_nil, List.length_cons, List.length_nil, List.length_map, List.length_append, e_lcN, e_lcC, e_forN, e_forC, List.getLast?_concat, List.dropLast_concat, List.nil_append, List.cons_append, List.append_nil, List.append_assoc, List.reverse_cons, List.reverse_nil, List.isEmpty_nil, List.isEmpty_cons, isEmpty_snoc, List.any_cons, List.any_nil, List.all_cons, List.all_nil, flatD, eqF, in_non, in_tup, in_str, in_int, in_bl, in_obj, in_fl, startA, List.map_cons, List.map_nil, List.replicate_succ, List.replicate_zero,   Nat.reduceAdd, Nat.reduceSub, Nat.reduceLeDiff, Nat.zero_add, Int.reduceLE, Int.reduceLT, Int.reduceToNat, Int.reducePow, Int.reduceNeg, Int.reduceAdd, Int.reduceSub,   Option.isSome_some, Option.isSome_none, Bool.not_true, Bool.not_false, Bool.not_eq_true', Bool.not_eq_eq_eq_not, Bool.not_eq_true, Bool.false_eq_true, Bool.true_eq_false, Bool.and_true, Bool.true_and, Bool.or_false, Bool.false_or, Bool.or_true, Bool.true_or, Bool.and_false, Bool.false_and, if_true, if_false, ite_true, ite_false, reduceIte, reduceCtorEq, decide_true, decide_false, decide_eq_true_eq, decide_eq_false_iff_not, true_and, and_true, false_and, and_false, eq_self, ne_eq, not_false_eq_true, not_true_eq_false, and_self, *])
    refine ⟨by omega, by show (rowsD rs).length ≤ 1000000; omega, ?_⟩
    show aLcGo _ _ _ _ _ _ (rowsD rs) [] M _
    refine lc_run (fun ds acc M' => ∃ (rest done : List (List Nat)), ds = rowsD rest ∧ acc = rowsD (done.map fun x => b ++ x) ∧ M' = M ∧ done ++ rest = rs) ?_ ?_ ?_ ⟨rs, [], rfl, rfl, rfl, rfl⟩
    · rintro ds acc M' ⟨rest, done, _, _, rfl, _⟩
      trivial
    · rintro acc M' ⟨rest, done, hr, rfl, rfl, hs⟩
      have z := List.map_eq_nil_iff.mp hr.symm
      subst z
      rw [List.append_nil] at hs
      subst hs
      clear hr
      have sl2 : (rowsD (done.map fun x => b ++ x)).length = done.length := by unfold rowsD; rw [List.length_map, List.length_map]
      have q' : Q (.tup (.str (S (a ++ r)) :: rowsD (done.map fun x => b ++ x))) M' := q
      clear q
      try (simp only [↓e_seq, ↓e_next, ↓e_break, ↓e_cont, ↓e_expr, ↓e_ret, ↓e_retN, ↓e_if, ↓e_never, ↓e_asg, ↓e_name, ↓e_agtup, ↓e_agcons, ↓e_agnil, ↓e_agsub, ↓e_aug, ↓e_dput, ↓e_var, ↓e_c, ↓e_op, ↓e_some, ↓e_none, ↓e_test, ↓e_and, ↓e_or, ↓e_not, ↓e_yes, ↓e_truth,   ↓e_tru_bl, ↓e_tru_int, ↓e_tru_non, ↓e_tru_str, ↓e_tru_tup, ↓e_tru_obj, ↓e_chain, ↓e_orV, ↓e_andV, ↓e_notV, ↓e_ifE, ↓e_neg, ↓e_nil, ↓e_cons, ↓e_tup, ↓e_lst, ↓e_dnew, ↓e_call, ↓e_cb, ↓e_isi, ↓e_sl, ↓e_onone, ↓e_osome, ↓e_rev, ↓e_lm, ↓e_append, ↓e_dictC, ↓e_any, e_anyN, e_anyC, ↓e_anyY, ↓e_any2, e_any2N, ↓e_tg, ↓e_tg2, ↓e_fld, ↓e_setF, ↓e_meth, ↓e_make, ↓e_par, ↓e_irevR1, ↓e_indexI, ↓e_extend, ↓e_pop, ↓e_join, ↓e_dget2, ↓e_sortSet, ↓e_sortS, ↓e_setd, strsOf_map, ↓e_maxI, ↓e_disp, ↓e_pairN, ↓e_pairC, intsOf_map, ↓e_for, ↓e_ilist, ↓e_itup, ↓e_rng1, ↓e_rng2, ↓e_lc, ↓e_lc2, e_lc2N, ↓e_ienum, ↓e_izip, ↓e_anyB, ↓e_allB, ↓e_mulS, blsOf_map, ↓e_set0, ↓e_sadd, ↓e_sortTx, ↓e_sortD, ↓e_repr, ↓e_extT, ↓e_sc2, ↓e_sortZ, ↓e_tupVals, ↓e_wget, ↓e_wix, ↓e_listZip, zipD_nil, zipD_cons, ↓e_dgetF, ↓e_idif, ↓e_isB, ↓e_sortI, ↓e_sortSetI, ↓e_tailR, ↓e_divmod, ↓e_strI, ↓e_lenD, ↓e_fmt, ↓e_fs2, ↓e_sortR, ↓e_sortTS, ↓e_irevT, cut_to1, cut_to3, cut_from1',    ↓e_add_int, ↓e_add_str, ↓e_add_tup, ↓e_add_obj, ↓e_iadd_int, ↓e_iadd_str, ↓e_iadd_obj, ↓e_I, ↓e_I0, ↓e_IS_int, ↓e_IS_str, ↓e_eq_str, ↓e_ne_str, ↓e_eq_int, ↓e_ne_int, ↓e_eq_bl, ↓e_ne_bl, ↓e_isN, ↓e_notN, ↓e_ix_tup, ↓e_ix_fl, ↓e_ix_str, ↓e_ix_obj, ↓e_in_tup, ↓e_nin_tup, ↓e_len_tup, ↓e_len_fl, ↓e_len_str, ↓e_len_obj, ↓e_int_int, ↓e_tuple_tup, ↓e_tuple_obj, ↓e_list_tup, ↓e_list_obj, ↓e_dget, ↓e_din, ↓e_dnin, ↓e_lstAt, ↓e_dicAt,   e_key_int, e_key_str, e_up, e_ty_str, e_ty_tup, e_ty_int, e_ty_bl, e_ty_non, atI0, atI1, atI2, atI3, atIL, ixN0, ixN1, cut_from1, e_ite_or, e_ite_and, zln, znl, zli, zil, zni, zin, sizeLine_eq, CMul, CDiv, cpow1018, true_or, or_true, kb_strstr, kb_tupstr, kb_tuptup, kb_strtup, kb_inttup, kb_bltup, kb_nontup, kb_strbl, kb_strint, kb_intbl, kb_intint, kb_blbl, kb_blint, kb_nonbl, kb_nonint, kb_nonstr, kb_intstr, kb_blstr, kb_tupbl, kb_tupint,   List.set_cons_zero, List.set_cons_succ, List.set_nil, List.getElem?_cons_zero, List.getElem?_cons_succ, List.getElem?_nil, List.length_cons, List.length_nil, List.length_map, List.length_append, e_lcN, e_lcC, e_forN, e_forC, List.getLast?_concat, List.dropLast_concat, List.nil_append, List.cons_append, List.append_nil, List.append_assoc, List.reverse_cons, List.reverse_nil, List.isEmpty_nil, List.isEmpty_cons, isEmpty_snoc, List.any_cons, List.any_nil, List.all_cons, List.all_nil, flatD, eqF, in_non, in_tup, in_str, in_int, in_bl, in_obj, in_fl, startA, List.map_cons, List.map_nil, List.replicate_succ, List.replicate_zero,   Nat.reduceAdd, Nat.reduceSub, Nat.reduceLeDiff, Nat.zero_add, Int.reduceLE, Int.reduceLT, Int.reduceToNat, Int.reducePow, Int.reduceNeg, Int.reduceAdd, Int.reduceSub,   Option.isSome_some, Option.isSome_none, Bool.not_true, Bool.not_false, Bool.not_eq_true', Bool.not_eq_eq_eq_not, Bool.not_eq_true, Bool.false_eq_true, Bool.true_eq_false, Bool.and_true, Bool.true_and, Bool.or_false, Bool.false_or, Bool.or_true, Bool.true_or, Bool.and_false, Bool.false_and, if_true, if_false, ite_true, ite_false, reduceIte, reduceCtorEq, decide_true, decide_false, decide_eq_true_eq, decide_eq_false_iff_not, true_and, and_true, false_and, and_false, eq_self, ne_eq, not_false_eq_true, not_true_eq_false, and_self, *])
      omega
    · rintro y r' acc M' N ⟨rest, done, hr, rfl, rfl, hs⟩ next
      cases rest with
      | nil => cases hr
      | cons x rest =>
        have hr' : y :: r' = .str (S x) :: rowsD rest := hr
        injection hr' with hr1 hr2
        subst hr1 hr2
        have wx := hw x (List.mem_cons_of_mem _ (by rw [← hs]; exact List.mem_append_right _ List.mem_cons_self))
        have go : N (rowsD (done.map fun x => b ++ x) ++ [.str (S (b ++ x))]) M' := next _ _ ⟨rest, done ++ [x], rfl, by unfold rowsD; rw [List.map_append, List.map_append]; rfl, rfl, by rw [List.append_assoc]; exact hs⟩
        clear next
        try (simp only [↓e_seq, ↓e_next, ↓e_break, ↓e_cont, ↓e_expr, ↓e_ret, ↓e_retN, ↓e_if, ↓e_never, ↓e_asg, ↓e_name, ↓e_agtup, ↓e_agcons, ↓e_agnil, ↓e_agsub, ↓e_aug, ↓e_dput, ↓e_var, ↓e_c, ↓e_op, ↓e_some, ↓e_none, ↓e_test, ↓e_and, ↓e_or, ↓e_not, ↓e_yes, ↓e_truth,   ↓e_tru_bl, ↓e_tru_int, ↓e_tru_non, ↓e_tru_str, ↓e_tru_tup, ↓e_tru_obj, ↓e_chain, ↓e_orV, ↓e_andV, ↓e_notV, ↓e_ifE, ↓e_neg, ↓e_nil, ↓e_cons, ↓e_tup, ↓e_lst, ↓e_dnew, ↓e_call, ↓e_cb, ↓e_isi, ↓e_sl, ↓e_onone, ↓e_osome, ↓e_rev, ↓e_lm, ↓e_append, ↓e_dictC, ↓e_any, e_anyN, e_anyC, ↓e_anyY, ↓e_any2, e_any2N, ↓e_tg, ↓e_tg2, ↓e_fld, ↓e_setF, ↓e_meth, ↓e_make, ↓e_par, ↓e_irevR1, ↓e_indexI, ↓e_extend, ↓e_pop, ↓e_join, ↓e_dget2, ↓e_sortSet, ↓e_sortS, ↓e_setd, strsOf_map, ↓e_maxI, ↓e_disp, ↓e_pairN, ↓e_pairC, intsOf_map, ↓e_for, ↓e_ilist, ↓e_itup, ↓e_rng1, ↓e_rng2, ↓e_lc, ↓e_lc2, e_lc2N, ↓e_ienum, ↓e_izip, ↓e_anyB, ↓e_allB, ↓e_mulS, blsOf_map, ↓e_set0, ↓e_sadd, ↓e_sortTx, ↓e_sortD, ↓e_repr, ↓e_extT, ↓e_sc2, ↓e_sortZ, ↓e_tupVals, ↓e_wget, ↓e_wix, ↓e_listZip, zipD_nil, zipD_cons, ↓e_dgetF, ↓e_idif, ↓e_isB, ↓e_sortI, ↓e_sortSetI, ↓e_tailR, ↓e_divmod, ↓e_strI, ↓e_lenD, ↓e_fmt, ↓e_fs2, ↓e_sortR, ↓e_sortTS, ↓e_irevT, cut_to1, cut_to3, cut_from1',    ↓e_add_int, ↓e_add_str, ↓e_add_tup, ↓e_add_obj, ↓e_iadd_int, ↓e_iadd_str, ↓e_iadd_obj, ↓e_I, ↓e_I0, ↓e_IS_int, ↓e_IS_str, ↓e_eq_str, ↓e_ne_str, ↓e_eq_int, ↓e_ne_int, ↓e_eq_bl, ↓e_ne_bl, ↓e_isN, ↓e_notN, ↓e_ix_tup, ↓e_ix_fl, ↓e_ix_str, ↓e_ix_obj, ↓e_in_tup, ↓e_nin_tup, ↓e_len_tup, ↓e_len_fl, ↓e_len_str, ↓e_len_obj, ↓e_int_int, ↓e_tuple_tup, ↓e_tuple_obj, ↓e_list_tup, ↓e_list_obj, ↓e_dget, ↓e_din, ↓e_dnin, ↓e_lstAt, ↓e_dicAt,   e_key_int, e_key_str, e_up, e_ty_str, e_ty_tup, e_ty_int, e_ty_bl, e_ty_non, atI0, atI1, atI2, atI3, atIL, ixN0, ixN1, cut_from1, e_ite_or, e_ite_and, zln, znl, zli, zil, zni, zin, sizeLine_eq, CMul, CDiv, cpow1018, true_or, or_true, kb_strstr, kb_tupstr, kb_tuptup, kb_strtup, kb_inttup, kb_bltup, kb_nontup, kb_strbl, kb_strint, kb_intbl, kb_intint, kb_blbl, kb_blint, kb_nonbl, kb_nonint, kb_nonstr, kb_intstr, kb_blstr, kb_tupbl, kb_tupint,   List.set_cons_zero, List.set_cons_succ, List.set_nil, List.getElem?_cons_zero, List.getElem?_cons_succ, List.getElem?_nil, List.length_cons, List.length_nil, List.length_map, List.length_append, e_lcN, e_lcC, e_forN, e_forC, List.getLast?_concat, List.dropLast_concat, List.nil_append, List.cons_append, List.append_nil, List.append_assoc, List.reverse_cons, List.reverse_nil, List.isEmpty_nil, List.isEmpty_cons, isEmpty_snoc, List.any_cons, List.any_nil, List.all_cons, List.all_nil, flatD, eqF, in_non, in_tup, in_str, in_int, in_bl, in_obj, in_fl, startA, List.map_cons, List.map_nil, List.replicate_succ, List.replicate_zero,   Nat.reduceAdd, Nat.reduceSub, Nat.reduceLeDiff, Nat.zero_add, Int.reduceLE, Int.reduceLT, Int.reduceToNat, Int.reducePow, Int.reduceNeg, Int.reduceAdd, Int.reduceSub,   Option.isSome_some, Option.isSome_none, Bool.not_true, Bool.not_false, Bool.not_eq_true', Bool.not_eq_eq_eq_not, Bool.not_eq_true, Bool.false_eq_true, Bool.true_eq_false, Bool.and_true, Bool.true_and, Bool.or_false, Bool.false_or, Bool.or_true, Bool.true_or, Bool.and_false, Bool.false_and, if_true, if_false, ite_true, ite_false, reduceIte, reduceCtorEq, decide_true, decide_false, decide_eq_true_eq, decide_eq_false_iff_not, true_and, and_true, false_and, and_false, eq_self, ne_eq, not_false_eq_true, not_true_eq_false, and_self, *])
        omega
def A_pdraw (L : Nat) : ASp := fun ds M Q _ => ∃ f : Fm, ds = [f.d] ∧ f.All nameOk ∧ f.sz ≤ L ∧ f.sz ≤ 1000 ∧ Q (.tup (rowsD (drw f))) M
theorem p_draw (L : Nat) (ds : List D) (M : Sto) (Q : D → Sto → Prop) (Xa) (hl : ds.length = 1) (h : A_pdraw (L + 1) ds M Q Xa) : a_draw A_pbehind (A_pdraw L) ax0 (Done Q) (startA ["formula"] ds) M := by
  obtain ⟨f, rfl, hal, hL, hsz, q⟩ := h
  unfold a_draw
  have y1 := zS_star
  have y2 := zS_plus
  have y3 := zS_bar
  have y4 := zS_tick
  have y5 := zS_db
  have y6 := zS_blank
  have hap := S_app
  have hsl := S_len
  cases f with
  | lt s =>
    have hs := S_tl s
    have w := drw_wide (.lt s) hal _ List.mem_cons_self
    have hw0 : (TL.tl s).length + 1 + 1 ≤ 1 + 4 := w
    have hw : (TL.tl s).length ≤ 3 := by omega
    clear hw0 w
    rw [Fm.d_lt]
    have q' : Q (.tup [.str (S (45 :: 32 :: TL.tl s))]) M := q
    clear q
    generalize TL.tl s = u at *
    subst hs
    try (simp only [↓e_seq, ↓e_next, ↓e_break, ↓e_cont, ↓e_expr, ↓e_ret, ↓e_retN, ↓e_if, ↓e_never, ↓e_asg, ↓e_name, ↓e_agtup, ↓e_agcons, ↓e_agnil, ↓e_agsub, ↓e_aug, ↓e_dput, ↓e_var, ↓e_c, ↓e_op, ↓e_some, ↓e_none, ↓e_test, ↓e_and, ↓e_or, ↓e_not, ↓e_yes, ↓e_truth,   ↓e_tru_bl, ↓e_tru_int, ↓e_tru_non, ↓e_tru_str, ↓e_tru_tup, ↓e_tru_obj, ↓e_chain, ↓e_orV, ↓e_andV, ↓e_notV, ↓e_ifE, ↓e_neg, ↓e_nil, ↓e_cons, ↓e_tup, ↓e_lst, ↓e_dnew, ↓e_call, ↓e_cb, ↓e_isi, ↓e_sl, ↓e_onone, ↓e_osome, ↓e_rev, ↓e_lm, ↓e_append, ↓e_dictC, ↓e_any, e_anyN, e_anyC, ↓e_anyY, ↓e_any2, e_any2N, ↓e_tg, ↓e_tg2, ↓e_fld, ↓e_setF, ↓e_meth, ↓e_make, ↓e_par, ↓e_irevR1, ↓e_indexI, ↓e_extend, ↓e_pop, ↓e_join, ↓e_dget2, ↓e_sortSet, ↓e_sortS, ↓e_setd, strsOf_map, ↓e_maxI, ↓e_disp, ↓e_pairN, ↓e_pairC, intsOf_map, ↓e_for, ↓e_ilist, ↓e_itup, ↓e_rng1, ↓e_rng2, ↓e_lc, ↓e_lc2, e_lc2N, ↓e_ienum, ↓e_izip, ↓e_anyB, ↓e_allB, ↓e_mulS, blsOf_map, ↓e_set0, ↓e_sadd, ↓e_sortTx, ↓e_sortD, ↓e_repr, ↓e_extT, ↓e_sc2, ↓e_sortZ, ↓e_tupVals, ↓e_wget, ↓e_wix, ↓e_listZip, zipD_nil, zipD_cons, ↓e_dgetF, ↓e_idif, ↓e_isB, ↓e_sortI, ↓e_sortSetI, ↓e_tailR, ↓e_divmod, ↓e_strI, ↓e_lenD, ↓e_fmt, ↓e_fs2, ↓e_sortR, ↓e_sortTS, ↓e_irevT, cut_to1, cut_to3, cut_from1',    ↓e_add_int, ↓e_add_str, ↓e_add_tup, ↓e_add_obj, ↓e_iadd_int, ↓e_iadd_str, ↓e_iadd_obj, ↓e_I, ↓e_I0, ↓e_IS_int, ↓e_IS_str, ↓e_eq_str, ↓e_ne_str, ↓e_eq_int, ↓e_ne_int, ↓e_eq_bl, ↓e_ne_bl, ↓e_isN, ↓e_notN, ↓e_ix_tup, ↓e_ix_fl, ↓e_ix_str, ↓e_ix_obj, ↓e_in_tup, ↓e_nin_tup, ↓e_len_tup, ↓e_len_fl, ↓e_len_str, ↓e_len_obj, ↓e_int_int, ↓e_tuple_tup, ↓e_tuple_obj, ↓e_list_tup, ↓e_list_obj, ↓e_dget, ↓e_din, ↓e_dnin, ↓e_lstAt, ↓e_dicAt,   e_key_int, e_key_str, e_up, e_ty_str, e_ty_tup, e_ty_int, e_ty_bl, e_ty_non, atI0, atI1, atI2, atI3, atIL, ixN0, ixN1, cut_from1, e_ite_or, e_ite_and, zln, znl, zli, zil, zni, zin, sizeLine_eq, CMul, CDiv, cpow1018, true_or, or_true, kb_strstr, kb_tupstr, kb_tuptup, kb_strtup, kb_inttup, kb_bltup, kb_nontup, kb_strbl, kb_strint, kb_intbl, kb_intint, kb_blbl, kb_blint, kb_nonbl, kb_nonint, kb_nonstr, kb_intstr, kb_blstr, kb_tupbl, kb_tupint,   List.set_cons_zero, List.set_cons_succ, List.set_nil, List.getElem?_cons_zero, List.getElem?_cons_succ, List.getElem?_nil, List.length_cons, List.length_nil, List.length_map, List.length_append, e_lcN, e_lcC, e_forN, e_forC, List.getLast?_concat, List.dropLast_concat, List.nil_append, List.cons_append, List.append_nil, List.append_assoc, List.reverse_cons, List.reverse_nil, List.isEmpty_nil, List.isEmpty_cons, isEmpty_snoc, List.any_cons, List.any_nil, List.all_cons, List.all_nil, flatD, eqF, in_non, in_tup, in_str, in_int, in_bl, in_obj, in_fl, startA, List.map_cons, List.map_nil, List.replicate_succ, List.replicate_zero,   Nat.reduceAdd, Nat.reduceSub, Nat.reduceLeDiff, Nat.zero_add, Int.reduceLE, Int.reduceLT, Int.reduceToNat, Int.reducePow, Int.reduceNeg, Int.reduceAdd, Int.reduceSub,   Option.isSome_some, Option.isSome_none, Bool.not_true, Bool.not_false, Bool.not_eq_true', Bool.not_eq_eq_eq_not, Bool.not_eq_true, Bool.false_eq_true, Bool.true_eq_false, Bool.and_true, Bool.true_and, Bool.or_false, Bool.false_or, Bool.or_true, Bool.true_or, Bool.and_false, Bool.false_and, if_true, if_false, ite_true, ite_false, reduceIte, reduceCtorEq, decide_true, decide_false, decide_eq_true_eq, decide_eq_false_iff_not, true_and, and_true, false_and, and_false, eq_self, ne_eq, not_false_eq_true, not_true_eq_false, and_self, *])
    omega
  | ng p =>
    have hz : (Fm.ng p).sz = p.sz + 1 := rfl
    have hal' : p.All nameOk := hal
    have dl := drw_len p
    rw [Fm.d_ng]
    try (simp only [↓e_seq, ↓e_next, ↓e_break, ↓e_cont, ↓e_expr, ↓e_ret, ↓e_retN, ↓e_if, ↓e_never, ↓e_asg, ↓e_name, ↓e_agtup, ↓e_agcons, ↓e_agnil, ↓e_agsub, ↓e_aug, ↓e_dput, ↓e_var, ↓e_c, ↓e_op, ↓e_some, ↓e_none, ↓e_test, ↓e_and, ↓e_or, ↓e_not, ↓e_yes, ↓e_truth,   ↓e_tru_bl, ↓e_tru_int, ↓e_tru_non, ↓e_tru_str, ↓e_tru_tup, ↓e_tru_obj, ↓e_chain, ↓e_orV, ↓e_andV, ↓e_notV, ↓e_ifE, ↓e_neg, ↓e_nil, ↓e_cons, ↓e_tup, ↓e_lst, ↓e_dnew, ↓e_call, ↓e_cb, ↓e_isi, ↓e_sl, ↓e_onone, ↓e_osome, ↓e_rev, ↓e_lm, ↓e_append, ↓e_dictC, ↓e_any, e_anyN, e_anyC, ↓e_anyY, ↓e_any2, e_any2N, ↓e_tg, ↓e_tg2, ↓e_fld, ↓e_setF, ↓e_meth, ↓e_make, ↓e_par, ↓e_irevR1, ↓e_indexI, ↓e_extend, ↓e_pop, ↓e_join, ↓e_dget2, ↓e_sortSet, ↓e_sortS, ↓e_setd, strsOf_map, ↓e_maxI, ↓e_disp, ↓e_pairN, ↓e_pairC, intsOf_map, ↓e_for, ↓e_ilist, ↓e_itup, ↓e_rng1, ↓e_rng2, ↓e_lc, ↓e_lc2, e_lc2N, ↓e_ienum, ↓e_izip, ↓e_anyB, ↓e_allB, ↓e_mulS, blsOf_map, ↓e_set0, ↓e_sadd, ↓e_sortTx, ↓e_sortD, ↓e_repr, ↓e_extT, ↓e_sc2, ↓e_sortZ, ↓e_tupVals, ↓e_wget, ↓e_wix, ↓e_listZip, zipD_nil, zipD_cons, ↓e_dgetF, ↓e_idif, ↓e_isB, ↓e_sortI, ↓e_sortSetI, ↓e_tailR, ↓e_divmod, ↓e_strI, ↓e_lenD, ↓e_fmt, ↓e_fs2, ↓e_sortR, ↓e_sortTS, ↓e_irevT, cut_to1, cut_to3, cut_from1',    ↓e_add_int, ↓e_add_str, ↓e_add_tup, ↓e_add_obj, ↓e_iadd_int, ↓e_iadd_str, ↓e_iadd_obj, ↓e_I, ↓e_I0, ↓e_IS_int, ↓e_IS_str, ↓e_eq_str, ↓e_ne_str, ↓e_eq_int, ↓e_ne_int, ↓e_eq_bl, ↓e_ne_bl, ↓e_isN, ↓e_notN, ↓e_ix_tup, ↓e_ix_fl, ↓e_ix_str, ↓e_ix_obj, ↓e_in_tup, ↓e_nin_tup, ↓e_len_tup, ↓e_len_fl, ↓e_len_str, ↓e_len_obj, ↓e_int_int, ↓e_tuple_tup, ↓e_tuple_obj, ↓e_list_tup, ↓e_list_obj, ↓e_dget, ↓e_din, ↓e_dnin, ↓e_lstAt, ↓e_dicAt,   e_key_int, e_key_str, e_up, e_ty_str, e_ty_tup, e_ty_int, e_ty_bl, e_ty_non, atI0, atI1, atI2, atI3, atIL, ixN0, ixN1, cut_from1, e_ite_or, e_ite_and, zln, znl, zli, zil, zni, zin, sizeLine_eq, CMul, CDiv, cpow1018, true_or, or_true, kb_strstr, kb_tupstr, kb_tuptup, kb_strtup, kb_inttup, kb_bltup, kb_nontup, kb_strbl, kb_strint, kb_intbl, kb_intint, kb_blbl, kb_blint, kb_nonbl, kb_nonint, kb_nonstr, kb_intstr, kb_blstr, kb_tupbl, kb_tupint,   List.set_cons_zero, List.set_cons_succ, List.set_nil, List.getElem?_cons_zero, List.getElem?_cons_succ, List.getElem?_nil, List.length_cons, List.length_nil, List.length_map, List.length_append, e_lcN, e_lcC, e_forN, e_forC, List.getLast?_concat, List.dropLast_concat, List.nil_append, List.cons_append, List.append_nil, List.append_assoc, List.reverse_cons, List.reverse_nil, List.isEmpty_nil, List.isEmpty_cons, isEmpty_snoc, List.any_cons, List.any_nil, List.all_cons, List.all_nil, flatD, eqF, in_non, in_tup, in_str, in_int, in_bl, in_obj, in_fl, startA, List.map_cons, List.map_nil, List.replicate_succ, List.replicate_zero,   Nat.reduceAdd, Nat.reduceSub, Nat.reduceLeDiff, Nat.zero_add, Int.reduceLE, Int.reduceLT, Int.reduceToNat, Int.reducePow, Int.reduceNeg, Int.reduceAdd, Int.reduceSub,   Option.isSome_some, Option.isSome_none, Bool.not_true, Bool.not_false, Bool.not_eq_true', Bool.not_eq_eq_eq_not, Bool.not_eq_true, Bool.false_eq_true, Bool.true_eq_false, Bool.and_true, Bool.true_and, Bool.or_false, Bool.false_or, Bool.or_true, Bool.true_or, Bool.and_false, Bool.false_and, if_true, if_false, ite_true, ite_false, reduceIte, reduceCtorEq, decide_true, decide_false, decide_eq_true_eq, decide_eq_false_iff_not, true_and, and_true, false_and, and_false, eq_self, ne_eq, not_false_eq_true, not_true_eq_false, and_self, *])
    refine ⟨rfl, p, rfl, hal', by omega, by omega, ?_⟩
    try (simp only [↓e_seq, ↓e_next, ↓e_break, ↓e_cont, ↓e_expr, ↓e_ret, ↓e_retN, ↓e_if, ↓e_never, ↓e_asg, ↓e_name, ↓e_agtup, ↓e_agcons, ↓e_agnil, ↓e_agsub, ↓e_aug, ↓e_dput, ↓e_var, ↓e_c, ↓e_op, ↓e_some, ↓e_none, ↓e_test, ↓e_and, ↓e_or, ↓e_not, ↓e_yes, ↓e_truth,   ↓e_tru_bl, ↓e_tru_int, ↓e_tru_non, ↓e_tru_str, ↓e_tru_tup, ↓e_tru_obj, ↓e_chain, ↓e_orV, ↓e_andV, ↓e_notV, ↓e_ifE, ↓e_neg, ↓e_nil, ↓e_cons, ↓e_tup, ↓e_lst, ↓e_dnew, ↓e_call, ↓e_cb, ↓e_isi, ↓e_sl, ↓e_onone, ↓e_osome, ↓e_rev, ↓e_lm, ↓e_append, ↓e_dictC, ↓e_any, e_anyN, e_anyC, ↓e_anyY, ↓e_any2, e_any2N, ↓e_tg, ↓e_tg2, ↓e_fld, ↓e_setF, ↓e_meth, ↓e_make, ↓e_par, ↓e_irevR1, ↓e_indexI, ↓e_extend, ↓e_pop, ↓e_join, ↓e_dget2, ↓e_sortSet, ↓e_sortS, ↓e_setd, strsOf_map, ↓e_maxI, ↓e_disp, ↓e_pairN, ↓e_pairC, intsOf_map, ↓e_for, ↓e_ilist, ↓e_itup, ↓e_rng1, ↓e_rng2, ↓e_lc, ↓e_lc2, e_lc2N, ↓e_ienum, ↓e_izip, ↓e_anyB, ↓e_allB, ↓e_mulS, blsOf_map, ↓e_set0, ↓e_sadd, ↓e_sortTx, ↓e_sortD, ↓e_repr, ↓e_extT, ↓e_sc2, ↓e_sortZ, ↓e_tupVals, ↓e_wget, ↓e_wix, ↓e_listZip, zipD_nil, zipD_cons, ↓e_dgetF, ↓e_idif, ↓e_isB, ↓e_sortI, ↓e_sortSetI, ↓e_tailR, ↓e_divmod, ↓e_strI, ↓e_lenD, ↓e_fmt, ↓e_fs2, ↓e_sortR, ↓e_sortTS, ↓e_irevT, cut_to1, cut_to3, cut_from1',    ↓e_add_int, ↓e_add_str, ↓e_add_tup, ↓e_add_obj, ↓e_iadd_int, ↓e_iadd_str, ↓e_iadd_obj, ↓e_I, ↓e_I0, ↓e_IS_int, ↓e_IS_str, ↓e_eq_str, ↓e_ne_str, ↓e_eq_int, ↓e_ne_int, ↓e_eq_bl, ↓e_ne_bl, ↓e_isN, ↓e_notN, ↓e_ix_tup, ↓e_ix_fl, ↓e_ix_str, ↓e_ix_obj, ↓e_in_tup, ↓e_nin_tup, ↓e_len_tup, ↓e_len_fl, ↓e_len_str, ↓e_len_obj, ↓e_int_int, ↓e_tuple_tup, ↓e_tuple_obj, ↓e_list_tup, ↓e_list_obj, ↓e_dget, ↓e_din, ↓e_dnin, ↓e_lstAt, ↓e_dicAt,   e_key_int, e_key_str, e_up, e_ty_str, e_ty_tup, e_ty_int, e_ty_bl, e_ty_non, atI0, atI1, atI2, atI3, atIL, ixN0, ixN1, cut_from1, e_ite_or, e_ite_and, zln, znl, zli, zil, zni, zin, sizeLine_eq, CMul, CDiv, cpow1018, true_or, or_true, kb_strstr, kb_tupstr, kb_tuptup, kb_strtup, kb_inttup, kb_bltup, kb_nontup, kb_strbl, kb_strint, kb_intbl, kb_intint, kb_blbl, kb_blint, kb_nonbl, kb_nonint, kb_nonstr, kb_intstr, kb_blstr, kb_tupbl, kb_tupint,   List.set_cons_zero, List.set_cons_succ, List.set_nil, List.getElem?_cons_zero, List.getElem?_cons_succ, List.getElem?_nil, List.length_cons, List.length_nil, List.length_map, List.length_append, e_lcN, e_lcC, e_forN, e_forC, List.getLast?_concat, List.dropLast_concat, List.nil_append, List.cons_append, List.append_nil, List.append_assoc, List.reverse_cons, List.reverse_nil, List.isEmpty_nil, List.isEmpty_cons, isEmpty_snoc, List.any_cons, List.any_nil, List.all_cons, List.all_nil, flatD, eqF, in_non, in_tup, in_str, in_int, in_bl, in_obj, in_fl, startA, List.map_cons, List.map_nil, List.replicate_succ, List.replicate_zero,   Nat.reduceAdd, Nat.reduceSub, Nat.reduceLeDiff, Nat.zero_add, Int.reduceLE, Int.reduceLT, Int.reduceToNat, Int.reducePow, Int.reduceNeg, Int.reduceAdd, Int.reduceSub,   Option.isSome_some, Option.isSome_none, Bool.not_true, Bool.not_false, Bool.not_eq_true', Bool.not_eq_eq_eq_not, Bool.not_eq_true, Bool.false_eq_true, Bool.true_eq_false, Bool.and_true, Bool.true_and, Bool.or_false, Bool.false_or, Bool.or_true, Bool.true_or, Bool.and_false, Bool.false_and, if_true, if_false, ite_true, ite_false, reduceIte, reduceCtorEq, decide_true, decide_false, decide_eq_true_eq, decide_eq_false_iff_not, true_and, and_true, false_and, and_false, eq_self, ne_eq, not_false_eq_true, not_true_eq_false, and_self, *])
    exact ⟨rfl, [42], [32], drw p, rfl, (fun z => by rw [z] at dl; exact absurd dl.2 (by decide)), by omega, by decide, by decide, (fun r hr => by have := drw_wide p hal' r hr; omega), q⟩
  | im p r =>
    have hz : (Fm.im p r).sz = p.sz + r.sz + 1 := rfl
    have dl := drw_len p
    have dl2 := drw_len r
    have u1 := under_len [43] [124] (drw r)
    have u2 := under_len [96] [32] (drw p)
    have s1 : (rowsD (under [43] [124] (drw r))).length = (under [43] [124] (drw r)).length := List.length_map _
    have s2 : (rowsD (under [96] [32] (drw p))).length = (under [96] [32] (drw p)).length := List.length_map _
    have q' : Q (.tup (rowsD (under [43] [124] (drw r)) ++ rowsD (under [96] [32] (drw p)))) M := by
      have e : rowsD (drw (.im p r)) = rowsD (under [43] [124] (drw r)) ++ rowsD (under [96] [32] (drw p)) := List.map_append
      rw [← e]
      exact q
    clear q
    rw [Fm.d_im]
    try (simp only [↓e_seq, ↓e_next, ↓e_break, ↓e_cont, ↓e_expr, ↓e_ret, ↓e_retN, ↓e_if, ↓e_never, ↓e_asg, ↓e_name, ↓e_agtup, ↓e_agcons, ↓e_agnil, ↓e_agsub, ↓e_aug, ↓e_dput, ↓e_var, ↓e_c, ↓e_op, ↓e_some, ↓e_none, ↓e_test, ↓e_and, ↓e_or, ↓e_not, ↓e_yes, ↓e_truth,   ↓e_tru_bl, ↓e_tru_int, ↓e_tru_non, ↓e_tru_str, ↓e_tru_tup, ↓e_tru_obj, ↓e_chain, ↓e_orV, ↓e_andV, ↓e_notV, ↓e_ifE, ↓e_neg, ↓e_nil, ↓e_cons, ↓e_tup, ↓e_lst, ↓e_dnew, ↓e_call, ↓e_cb, ↓e_isi, ↓e_sl, ↓e_onone, ↓e_osome, ↓e_rev, ↓e_lm, ↓e_append, ↓e_dictC, ↓e_any, e_anyN, e_anyC, ↓e_anyY, ↓e_any2, e_any2N, ↓e_tg, ↓e_tg2, ↓e_fld, ↓e_setF, ↓e_meth, ↓e_make, ↓e_par, ↓e_irevR1, ↓e_indexI, ↓e_extend, ↓e_pop, ↓e_join, ↓e_dget2, ↓e_sortSet, ↓e_sortS, ↓e_setd, strsOf_map, ↓e_maxI, ↓e_disp, ↓e_pairN, ↓e_pairC, intsOf_map, ↓e_for, ↓e_ilist, ↓e_itup, ↓e_rng1, ↓e_rng2, ↓e_lc, ↓e_lc2, e_lc2N, ↓e_ienum, ↓e_izip, ↓e_anyB, ↓e_allB, ↓e_mulS, blsOf_map, ↓e_set0, ↓e_sadd, ↓e_sortTx, ↓e_sortD, ↓e_repr, ↓e_extT, ↓e_sc2, ↓e_sortZ, ↓e_tupVals, ↓e_wget, ↓e_wix, ↓e_listZip, zipD_nil, zipD_cons, ↓e_dgetF, ↓e_idif, ↓e_isB, ↓e_sortI, ↓e_sortSetI, ↓e_tailR, ↓e_divmod, ↓e_strI, ↓e_lenD, ↓e_fmt, ↓e_fs2, ↓e_sortR, ↓e_sortTS, ↓e_irevT, cut_to1, cut_to3, cut_from1',    ↓e_add_int, ↓e_add_str, ↓e_add_tup, ↓e_add_obj, ↓e_iadd_int, ↓e_iadd_str, ↓e_iadd_obj, ↓e_I, ↓e_I0, ↓e_IS_int, ↓e_IS_str, ↓e_eq_str, ↓e_ne_str, ↓e_eq_int, ↓e_ne_int, ↓e_eq_bl, ↓e_ne_bl, ↓e_isN, ↓e_notN, ↓e_ix_tup, ↓e_ix_fl, ↓e_ix_str, ↓e_ix_obj, ↓e_in_tup, ↓e_nin_tup, ↓e_len_tup, ↓e_len_fl, ↓e_len_str, ↓e_len_obj, ↓e_int_int, ↓e_tuple_tup, ↓e_tuple_obj, ↓e_list_tup, ↓e_list_obj, ↓e_dget, ↓e_din, ↓e_dnin, ↓e_lstAt, ↓e_dicAt,   e_key_int, e_key_str, e_up, e_ty_str, e_ty_tup, e_ty_int, e_ty_bl, e_ty_non, atI0, atI1, atI2, atI3, atIL, ixN0, ixN1, cut_from1, e_ite_or, e_ite_and, zln, znl, zli, zil, zni, zin, sizeLine_eq, CMul, CDiv, cpow1018, true_or, or_true, kb_strstr, kb_tupstr, kb_tuptup, kb_strtup, kb_inttup, kb_bltup, kb_nontup, kb_strbl, kb_strint, kb_intbl, kb_intint, kb_blbl, kb_blint, kb_nonbl, kb_nonint, kb_nonstr, kb_intstr, kb_blstr, kb_tupbl, kb_tupint,   List.set_cons_zero, List.set_cons_succ, List.set_nil, List.getElem?_cons_zero, List.getElem?_cons_succ, List.getElem?_nil, List.length_cons, List.length_nil, List.length_map, List.length_append, e_lcN, e_lcC, e_forN, e_forC, List.getLast?_concat, List.dropLast_concat, List.nil_append, List.cons_append, List.append_nil, List.append_assoc, List.reverse_cons, List.reverse_nil, List.isEmpty_nil, List.isEmpty_cons, isEmpty_snoc, List.any_cons, List.any_nil, List.all_cons, List.all_nil, flatD, eqF, in_non, in_tup, in_str, in_int, in_bl, in_obj, in_fl, startA, List.map_cons, List.map_nil, List.replicate_succ, List.replicate_zero,   Nat.reduceAdd, Nat.reduceSub, Nat.reduceLeDiff, Nat.zero_add, Int.reduceLE, Int.reduceLT, Int.reduceToNat, Int.reducePow, Int.reduceNeg, Int.reduceAdd, Int.reduceSub,   Option.isSome_some, Option.isSome_none, Bool.not_true, Bool.not_false, Bool.not_eq_true', Bool.not_eq_eq_eq_not, Bool.not_eq_true, Bool.false_eq_true, Bool.true_eq_false, Bool.and_true, Bool.true_and, Bool.or_false, Bool.false_or, Bool.or_true, Bool.true_or, Bool.and_false, Bool.false_and, if_true, if_false, ite_true, ite_false, reduceIte, reduceCtorEq, decide_true, decide_false, decide_eq_true_eq, decide_eq_false_iff_not, true_and, and_true, false_and, and_false, eq_self, ne_eq, not_false_eq_true, not_true_eq_false, and_self, *])
    refine ⟨rfl, r, rfl, hal.2, by omega, by omega, ?_⟩
    try (simp only [↓e_seq, ↓e_next, ↓e_break, ↓e_cont, ↓e_expr, ↓e_ret, ↓e_retN, ↓e_if, ↓e_never, ↓e_asg, ↓e_name, ↓e_agtup, ↓e_agcons, ↓e_agnil, ↓e_agsub, ↓e_aug, ↓e_dput, ↓e_var, ↓e_c, ↓e_op, ↓e_some, ↓e_none, ↓e_test, ↓e_and, ↓e_or, ↓e_not, ↓e_yes, ↓e_truth,   ↓e_tru_bl, ↓e_tru_int, ↓e_tru_non, ↓e_tru_str, ↓e_tru_tup, ↓e_tru_obj, ↓e_chain, ↓e_orV, ↓e_andV, ↓e_notV, ↓e_ifE, ↓e_neg, ↓e_nil, ↓e_cons, ↓e_tup, ↓e_lst, ↓e_dnew, ↓e_call, ↓e_cb, ↓e_isi, ↓e_sl, ↓e_onone, ↓e_osome, ↓e_rev, ↓e_lm, ↓e_append, ↓e_dictC, ↓e_any, e_anyN, e_anyC, ↓e_anyY, ↓e_any2, e_any2N, ↓e_tg, ↓e_tg2, ↓e_fld, ↓e_setF, ↓e_meth, ↓e_make, ↓e_par, ↓e_irevR1, ↓e_indexI, ↓e_extend, ↓e_pop, ↓e_join, ↓e_dget2, ↓e_sortSet, ↓e_sortS, ↓e_setd, strsOf_map, ↓e_maxI, ↓e_disp, ↓e_pairN, ↓e_pairC, intsOf_map, ↓e_for, ↓e_ilist, ↓e_itup, ↓e_rng1, ↓e_rng2, ↓e_lc, ↓e_lc2, e_lc2N, ↓e_ienum, ↓e_izip, ↓e_anyB, ↓e_allB, ↓e_mulS, blsOf_map, ↓e_set0, ↓e_sadd, ↓e_sortTx, ↓e_sortD, ↓e_repr, ↓e_extT, ↓e_sc2, ↓e_sortZ, ↓e_tupVals, ↓e_wget, ↓e_wix, ↓e_listZip, zipD_nil, zipD_cons, ↓e_dgetF, ↓e_idif, ↓e_isB, ↓e_sortI, ↓e_sortSetI, ↓e_tailR, ↓e_divmod, ↓e_strI, ↓e_lenD, ↓e_fmt, ↓e_fs2, ↓e_sortR, ↓e_sortTS, ↓e_irevT, cut_to1, cut_to3, cut_from1',    ↓e_add_int, ↓e_add_str, ↓e_add_tup, ↓e_add_obj, ↓e_iadd_int, ↓e_iadd_str, ↓e_iadd_obj, ↓e_I, ↓e_I0, ↓e_IS_int, ↓e_IS_str, ↓e_eq_str, ↓e_ne_str, ↓e_eq_int, ↓e_ne_int, ↓e_eq_bl, ↓e_ne_bl, ↓e_isN, ↓e_notN, ↓e_ix_tup, ↓e_ix_fl, ↓e_ix_str, ↓e_ix_obj, ↓e_in_tup, ↓e_nin_tup, ↓e_len_tup, ↓e_len_fl, ↓e_len_str, ↓e_len_obj, ↓e_int_int, ↓e_tuple_tup, ↓e_tuple_obj, ↓e_list_tup, ↓e_list_obj, ↓e_dget, ↓e_din, ↓e_dnin, ↓e_lstAt, ↓e_dicAt,   e_key_int, e_key_str, e_up, e_ty_str, e_ty_tup, e_ty_int, e_ty_bl, e_ty_non, atI0, atI1, atI2, atI3, atIL, ixN0, ixN1, cut_from1, e_ite_or, e_ite_and, zln, znl, zli, zil, zni, zin, sizeLine_eq, CMul, CDiv, cpow1018, true_or, or_true, kb_strstr, kb_tupstr, kb_tuptup, kb_strtup, kb_inttup, kb_bltup, kb_nontup, kb_strbl, kb_strint, kb_intbl, kb_intint, kb_blbl, kb_blint, kb_nonbl, kb_nonint, kb_nonstr, kb_intstr, kb_blstr, kb_tupbl, kb_tupint,   List.set_cons_zero, List.set_cons_succ, List.set_nil, List.getElem?_cons_zero, List.getElem?_cons_succ, List.getElem?_nil, List.length_cons, List.length_nil, List.length_map, List.length_append, e_lcN, e_lcC, e_forN, e_forC, List.getLast?_concat, List.dropLast_concat, List.nil_append, List.cons_append, List.append_nil, List.append_assoc, List.reverse_cons, List.reverse_nil, List.isEmpty_nil, List.isEmpty_cons, isEmpty_snoc, List.any_cons, List.any_nil, List.all_cons, List.all_nil, flatD, eqF, in_non, in_tup, in_str, in_int, in_bl, in_obj, in_fl, startA, List.map_cons, List.map_nil, List.replicate_succ, List.replicate_zero,   Nat.reduceAdd, Nat.reduceSub, Nat.reduceLeDiff, Nat.zero_add, Int.reduceLE, Int.reduceLT, Int.reduceToNat, Int.reducePow, Int.reduceNeg, Int.reduceAdd, Int.reduceSub,   Option.isSome_some, Option.isSome_none, Bool.not_true, Bool.not_false, Bool.not_eq_true', Bool.not_eq_eq_eq_not, Bool.not_eq_true, Bool.false_eq_true, Bool.true_eq_false, Bool.and_true, Bool.true_and, Bool.or_false, Bool.false_or, Bool.or_true, Bool.true_or, Bool.and_false, Bool.false_and, if_true, if_false, ite_true, ite_false, reduceIte, reduceCtorEq, decide_true, decide_false, decide_eq_true_eq, decide_eq_false_iff_not, true_and, and_true, false_and, and_false, eq_self, ne_eq, not_false_eq_true, not_true_eq_false, and_self, *])
    refine ⟨rfl, [43], [124], drw r, rfl, (fun z => by rw [z] at dl2; exact absurd dl2.2 (by decide)), by omega, by decide, by decide, (fun x hr => by have := drw_wide r hal.2 x hr; omega), ?_⟩
    try (simp only [↓e_seq, ↓e_next, ↓e_break, ↓e_cont, ↓e_expr, ↓e_ret, ↓e_retN, ↓e_if, ↓e_never, ↓e_asg, ↓e_name, ↓e_agtup, ↓e_agcons, ↓e_agnil, ↓e_agsub, ↓e_aug, ↓e_dput, ↓e_var, ↓e_c, ↓e_op, ↓e_some, ↓e_none, ↓e_test, ↓e_and, ↓e_or, ↓e_not, ↓e_yes, ↓e_truth,   ↓e_tru_bl, ↓e_tru_int, ↓e_tru_non, ↓e_tru_str, ↓e_tru_tup, ↓e_tru_obj, ↓e_chain, ↓e_orV, ↓e_andV, ↓e_notV, ↓e_ifE, ↓e_neg, ↓e_nil, ↓e_cons, ↓e_tup, ↓e_lst, ↓e_dnew, ↓e_call, ↓e_cb, ↓e_isi, ↓e_sl, ↓e_onone, ↓e_osome, ↓e_rev, ↓e_lm, ↓e_append, ↓e_dictC, ↓e_any, e_anyN, e_anyC, ↓e_anyY, ↓e_any2, e_any2N, ↓e_tg, ↓e_tg2, ↓e_fld, ↓e_setF, ↓e_meth, ↓e_make, ↓e_par, ↓e_irevR1, ↓e_indexI, ↓e_extend, ↓e_pop, ↓e_join, ↓e_dget2, ↓e_sortSet, ↓e_sortS, ↓e_setd, strsOf_map, ↓e_maxI, ↓e_disp, ↓e_pairN, ↓e_pairC, intsOf_map, ↓e_for, ↓e_ilist, ↓e_itup, ↓e_rng1, ↓e_rng2, ↓e_lc, ↓e_lc2, e_lc2N, ↓e_ienum, ↓e_izip, ↓e_anyB, ↓e_allB, ↓e_mulS, blsOf_map, ↓e_set0, ↓e_sadd, ↓e_sortTx, ↓e_sortD, ↓e_repr, ↓e_extT, ↓e_sc2, ↓e_sortZ, ↓e_tupVals, ↓e_wget, ↓e_wix, ↓e_listZip, zipD_nil, zipD_cons, ↓e_dgetF, ↓e_idif, ↓e_isB, ↓e_sortI, ↓e_sortSetI, ↓e_tailR, ↓e_divmod, ↓e_strI, ↓e_lenD, ↓e_fmt, ↓e_fs2, ↓e_sortR, ↓e_sortTS, ↓e_irevT, cut_to1, cut_to3, cut_from1',    ↓e_add_int, ↓e_add_str, ↓e_add_tup, ↓e_add_obj, ↓e_iadd_int, ↓e_iadd_str, ↓e_iadd_obj, ↓e_I, ↓e_I0, ↓e_IS_int, ↓e_IS_str, ↓e_eq_str, ↓e_ne_str, ↓e_eq_int, ↓e_ne_int, ↓e_eq_bl, ↓e_ne_bl, ↓e_isN, ↓e_notN, ↓e_ix_tup, ↓e_ix_fl, ↓e_ix_str, ↓e_ix_obj, ↓e_in_tup, ↓e_nin_tup, ↓e_len_tup, ↓e_len_fl, ↓e_len_str, ↓e_len_obj, ↓e_int_int, ↓e_tuple_tup, ↓e_tuple_obj, ↓e_list_tup, ↓e_list_obj, ↓e_dget, ↓e_din, ↓e_dnin, ↓e_lstAt, ↓e_dicAt,   e_key_int, e_key_str, e_up, e_ty_str, e_ty_tup, e_ty_int, e_ty_bl, e_ty_non, atI0, atI1, atI2, atI3, atIL, ixN0, ixN1, cut_from1, e_ite_or, e_ite_and, zln, znl, zli, zil, zni, zin, sizeLine_eq, CMul, CDiv, cpow1018, true_or, or_true, kb_strstr, kb_tupstr, kb_tuptup, kb_strtup, kb_inttup, kb_bltup, kb_nontup, kb_strbl, kb_strint, kb_intbl, kb_intint, kb_blbl, kb_blint, kb_nonbl, kb_nonint, kb_nonstr, kb_intstr, kb_blstr, kb_tupbl, kb_tupint,   List.set_cons_zero, List.set_cons_succ, List.set_nil, List.getElem?_cons_zero, List.getElem?_cons_succ, List.getElem?_nil, List.length_cons, List.length_nil, List.length_map, List.length_append, e_lcN, e_lcC, e_forN, e_forC, List.getLast?_concat, List.dropLast_concat, List.nil_append, List.cons_append, List.append_nil, List.append_assoc, List.reverse_cons, List.reverse_nil, List.isEmpty_nil, List.isEmpty_cons, isEmpty_snoc, List.any_cons, List.any_nil, List.all_cons, List.all_nil, flatD, eqF, in_non, in_tup, in_str, in_int, in_bl, in_obj, in_fl, startA, List.map_cons, List.map_nil, List.replicate_succ, List.replicate_zero,   Nat.reduceAdd, Nat.reduceSub, Nat.reduceLeDiff, Nat.zero_add, Int.reduceLE, Int.reduceLT, Int.reduceToNat, Int.reducePow, Int.reduceNeg, Int.reduceAdd, Int.reduceSub,   Option.isSome_some, Option.isSome_none, Bool.not_true, Bool.not_false, Bool.not_eq_true', Bool.not_eq_eq_eq_not, Bool.not_eq_true, Bool.false_eq_true, Bool.true_eq_false, Bool.and_true, Bool.true_and, Bool.or_false, Bool.false_or, Bool.or_true, Bool.true_or, Bool.and_false, Bool.false_and, if_true, if_false, ite_true, ite_false, reduceIte, reduceCtorEq, decide_true, decide_false, decide_eq_true_eq, decide_eq_false_iff_not, true_and, and_true, false_and, and_false, eq_self, ne_eq, not_false_eq_true, not_true_eq_false, and_self, *])
    refine ⟨rfl, p, rfl, hal.1, by omega, by omega, ?_⟩
    try (simp only [↓e_seq, ↓e_next, ↓e_break, ↓e_cont, ↓e_expr, ↓e_ret, ↓e_retN, ↓e_if, ↓e_never, ↓e_asg, ↓e_name, ↓e_agtup, ↓e_agcons, ↓e_agnil, ↓e_agsub, ↓e_aug, ↓e_dput, ↓e_var, ↓e_c, ↓e_op, ↓e_some, ↓e_none, ↓e_test, ↓e_and, ↓e_or, ↓e_not, ↓e_yes, ↓e_truth,   ↓e_tru_bl, ↓e_tru_int, ↓e_tru_non, ↓e_tru_str, ↓e_tru_tup, ↓e_tru_obj, ↓e_chain, ↓e_orV, ↓e_andV, ↓e_notV, ↓e_ifE, ↓e_neg, ↓e_nil, ↓e_cons, ↓e_tup, ↓e_lst, ↓e_dnew, ↓e_call, ↓e_cb, ↓e_isi, ↓e_sl, ↓e_onone, ↓e_osome, ↓e_rev, ↓e_lm, ↓e_append, ↓e_dictC, ↓e_any, e_anyN, e_anyC, ↓e_anyY, ↓e_any2, e_any2N, ↓e_tg, ↓e_tg2, ↓e_fld, ↓e_setF, ↓e_meth, ↓e_make, ↓e_par, ↓e_irevR1, ↓e_indexI, ↓e_extend, ↓e_pop, ↓e_join, ↓e_dget2, ↓e_sortSet, ↓e_sortS, ↓e_setd, strsOf_map, ↓e_maxI, ↓e_disp, ↓e_pairN, ↓e_pairC, intsOf_map, ↓e_for, ↓e_ilist, ↓e_itup, ↓e_rng1, ↓e_rng2, ↓e_lc, ↓e_lc2, e_lc2N, ↓e_ienum, ↓e_izip, ↓e_anyB, ↓e_allB, ↓e_mulS, blsOf_map, ↓e_set0, ↓e_sadd, ↓e_sortTx, ↓e_sortD, ↓e_repr, ↓e_extT, ↓e_sc2, ↓e_sortZ, ↓e_tupVals, ↓e_wget, ↓e_wix, ↓e_listZip, zipD_nil, zipD_cons, ↓e_dgetF, ↓e_idif, ↓e_isB, ↓e_sortI, ↓e_sortSetI, ↓e_tailR, ↓e_divmod, ↓e_strI, ↓e_lenD, ↓e_fmt, ↓e_fs2, ↓e_sortR, ↓e_sortTS, ↓e_irevT, cut_to1, cut_to3, cut_from1',    ↓e_add_int, ↓e_add_str, ↓e_add_tup, ↓e_add_obj, ↓e_iadd_int, ↓e_iadd_str, ↓e_iadd_obj, ↓e_I, ↓e_I0, ↓e_IS_int, ↓e_IS_str, ↓e_eq_str, ↓e_ne_str, ↓e_eq_int, ↓e_ne_int, ↓e_eq_bl, ↓e_ne_bl, ↓e_isN, ↓e_notN, ↓e_ix_tup, ↓e_ix_fl, ↓e_ix_str, ↓e_ix_obj, ↓e_in_tup, ↓e_nin_tup, ↓e_len_tup, ↓e_len_fl, ↓e_len_str, ↓e_len_obj, ↓e_int_int, ↓e_tuple_tup, ↓e_tuple_obj, ↓e_list_tup, ↓e_list_obj, ↓e_dget, ↓e_din, ↓e_dnin, ↓e_lstAt, ↓e_dicAt,   e_key_int, e_key_str, e_up, e_ty_str, e_ty_tup, e_ty_int, e_ty_bl, e_ty_non, atI0, atI1, atI2, atI3, atIL, ixN0, ixN1, cut_from1, e_ite_or, e_ite_and, zln, znl, zli, zil, zni, zin, sizeLine_eq, CMul, CDiv, cpow1018, true_or, or_true, kb_strstr, kb_tupstr, kb_tuptup, kb_strtup, kb_inttup, kb_bltup, kb_nontup, kb_strbl, kb_strint, kb_intbl, kb_intint, kb_blbl, kb_blint, kb_nonbl, kb_nonint, kb_nonstr, kb_intstr, kb_blstr, kb_tupbl, kb_tupint,   List.set_cons_zero, List.set_cons_succ, List.set_nil, List.getElem?_cons_zero, List.getElem?_cons_succ, List.getElem?_nil, List.length_cons, List.length_nil, List.length_map, List.length_append, e_lcN, e_lcC, e_forN, e_forC, List.getLast?_concat, List.dropLast_concat, List.nil_append, List.cons_append, List.append_nil, List.append_assoc, List.reverse_cons, List.reverse_nil, List.isEmpty_nil, List.isEmpty_cons, isEmpty_snoc, List.any_cons, List.any_nil, List.all_cons, List.all_nil, flatD, eqF, in_non, in_tup, in_str, in_int, in_bl, in_obj, in_fl, startA, List.map_cons, List.map_nil, List.replicate_succ, List.replicate_zero,   Nat.reduceAdd, Nat.reduceSub, Nat.reduceLeDiff, Nat.zero_add, Int.reduceLE, Int.reduceLT, Int.reduceToNat, Int.reducePow, Int.reduceNeg, Int.reduceAdd, Int.reduceSub,   Option.isSome_some, Option.isSome_none, Bool.not_true, Bool.not_false, Bool.not_eq_true', Bool.not_eq_eq_eq_not, Bool.not_eq_true, Bool.false_eq_true, Bool.true_eq_false, Bool.and_true, Bool.true_and, Bool.or_false, Bool.false_or, Bool.or_true, Bool.true_or, Bool.and_false, Bool.false_and, if_true, if_false, ite_true, ite_false, reduceIte, reduceCtorEq, decide_true, decide_false, decide_eq_true_eq, decide_eq_false_iff_not, true_and, and_true, false_and, and_false, eq_self, ne_eq, not_false_eq_true, not_true_eq_false, and_self, *])
    refine ⟨rfl, [96], [32], drw p, rfl, (fun z => by rw [z] at dl; exact absurd dl.2 (by decide)), by omega, by decide, by decide, (fun x hr => by have := drw_wide p hal.1 x hr; omega), ?_⟩
    try (simp only [↓e_seq, ↓e_next, ↓e_break, ↓e_cont, ↓e_expr, ↓e_ret, ↓e_retN, ↓e_if, ↓e_never, ↓e_asg, ↓e_name, ↓e_agtup, ↓e_agcons, ↓e_agnil, ↓e_agsub, ↓e_aug, ↓e_dput, ↓e_var, ↓e_c, ↓e_op, ↓e_some, ↓e_none, ↓e_test, ↓e_and, ↓e_or, ↓e_not, ↓e_yes, ↓e_truth,   ↓e_tru_bl, ↓e_tru_int, ↓e_tru_non, ↓e_tru_str, ↓e_tru_tup, ↓e_tru_obj, ↓e_chain, ↓e_orV, ↓e_andV, ↓e_notV, ↓e_ifE, ↓e_neg, ↓e_nil, ↓e_cons, ↓e_tup, ↓e_lst, ↓e_dnew, ↓e_call, ↓e_cb, ↓e_isi, ↓e_sl, ↓e_onone, ↓e_osome, ↓e_rev, ↓e_lm, ↓e_append, ↓e_dictC, ↓e_any, e_anyN, e_anyC, ↓e_anyY, ↓e_any2, e_any2N, ↓e_tg, ↓e_tg2, ↓e_fld, ↓e_setF, ↓e_meth, ↓e_make, ↓e_par, ↓e_irevR1, ↓e_indexI, ↓e_extend, ↓e_pop, ↓e_join, ↓e_dget2, ↓e_sortSet, ↓e_sortS, ↓e_setd, strsOf_map, ↓e_maxI, ↓e_disp, ↓e_pairN, ↓e_pairC, intsOf_map, ↓e_for, ↓e_ilist, ↓e_itup, ↓e_rng1, ↓e_rng2, ↓e_lc, ↓e_lc2, e_lc2N, ↓e_ienum, ↓e_izip, ↓e_anyB, ↓e_allB, ↓e_mulS, blsOf_map, ↓e_set0, ↓e_sadd, ↓e_sortTx, ↓e_sortD, ↓e_repr, ↓e_extT, ↓e_sc2, ↓e_sortZ, ↓e_tupVals, ↓e_wget, ↓e_wix, ↓e_listZip, zipD_nil, zipD_cons, ↓e_dgetF, ↓e_idif, ↓e_isB, ↓e_sortI, ↓e_sortSetI, ↓e_tailR, ↓e_divmod, ↓e_strI, ↓e_lenD, ↓e_fmt, ↓e_fs2, ↓e_sortR, ↓e_sortTS, ↓e_irevT, cut_to1, cut_to3, cut_from1',    ↓e_add_int, ↓e_add_str, ↓e_add_tup, ↓e_add_obj, ↓e_iadd_int, ↓e_iadd_str, ↓e_iadd_obj, ↓e_I, ↓e_I0, ↓e_IS_int, ↓e_IS_str, ↓e_eq_str, ↓e_ne_str, ↓e_eq_int, ↓e_ne_int, ↓e_eq_bl, ↓e_ne_bl, ↓e_isN, ↓e_notN, ↓e_ix_tup, ↓e_ix_fl, ↓e_ix_str, ↓e_ix_obj, ↓e_in_tup, ↓e_nin_tup, ↓e_len_tup, ↓e_len_fl, ↓e_len_str, ↓e_len_obj, ↓e_int_int, ↓e_tuple_tup, ↓e_tuple_obj, ↓e_list_tup, ↓e_list_obj, ↓e_dget, ↓e_din, ↓e_dnin, ↓e_lstAt, ↓e_dicAt,   e_key_int, e_key_str, e_up, e_ty_str, e_ty_tup, e_ty_int, e_ty_bl, e_ty_non, atI0, atI1, atI2, atI3, atIL, ixN0, ixN1, cut_from1, e_ite_or, e_ite_and, zln, znl, zli, zil, zni, zin, sizeLine_eq, CMul, CDiv, cpow1018, true_or, or_true, kb_strstr, kb_tupstr, kb_tuptup, kb_strtup, kb_inttup, kb_bltup, kb_nontup, kb_strbl, kb_strint, kb_intbl, kb_intint, kb_blbl, kb_blint, kb_nonbl, kb_nonint, kb_nonstr, kb_intstr, kb_blstr, kb_tupbl, kb_tupint,   List.set_cons_zero, List.set_cons_succ, List.set_nil, List.getElem?_cons_zero, List.getElem?_cons_succ, List.getElem?_nil, List.length_cons, List.length_nil, List.length_map, List.length_append, e_lcN, e_lcC, e_forN, e_forC, List.getLast?_concat, List.dropLast_concat, List.nil_append, List.cons_append, List.append_nil, List.append_assoc, List.reverse_cons, List.reverse_nil, List.isEmpty_nil, List.isEmpty_cons, isEmpty_snoc, List.any_cons, List.any_nil, List.all_cons, List.all_nil, flatD, eqF, in_non, in_tup, in_str, in_int, in_bl, in_obj, in_fl, startA, List.map_cons, List.map_nil, List.replicate_succ, List.replicate_zero,   Nat.reduceAdd, Nat.reduceSub, Nat.reduceLeDiff, Nat.zero_add, Int.reduceLE, Int.reduceLT, Int.reduceToNat, Int.reducePow, Int.reduceNeg, Int.reduceAdd, Int.reduceSub,   Option.isSome_some, Option.isSome_none, Bool.not_true, Bool.not_false, Bool.not_eq_true', Bool.not_eq_eq_eq_not, Bool.not_eq_true, Bool.false_eq_true, Bool.true_eq_false, Bool.and_true, Bool.true_and, Bool.or_false, Bool.false_or, Bool.or_true, Bool.true_or, Bool.and_false, Bool.false_and, if_true, if_false, ite_true, ite_false, reduceIte, reduceCtorEq, decide_true, decide_false, decide_eq_true_eq, decide_eq_false_iff_not, true_and, and_true, false_and, and_false, eq_self, ne_eq, not_false_eq_true, not_true_eq_false, and_self, *])
    omega
def lensI (rs : List (List Nat)) : List Int := rs.map fun r => (r.length : Int)
theorem lens_run {i : Nat} {env : AEnv} {M : Sto} {Q : List D → Sto → Prop} {rs : List (List Nat)} (hi : i < env.length) (hw : ∀ r ∈ rs, r.length ≤ 10000) (h : Q ((lensI rs).map D.int) M) :
    aLcGo (fun _ => True) i aYes (aCB ρLen (aCons (aVar i) aNil)) ax0 env (rowsD rs) [] M Q := by
  refine lc_run (fun ds acc M' => ∃ (rest done : List (List Nat)), ds = rowsD rest ∧ acc = (lensI done).map D.int ∧ M' = M ∧ done ++ rest = rs) ?_ ?_ ?_ ⟨rs, [], rfl, rfl, rfl, rfl⟩
  · rintro ds acc M' _
    trivial
  · rintro acc M' ⟨rest, done, hr, rfl, rfl, hs⟩
    have z := List.map_eq_nil_iff.mp hr.symm
    subst z
    rw [List.append_nil] at hs
    subst hs
    exact h
  · rintro y r' acc M' N ⟨rest, done, hr, rfl, rfl, hs⟩ next
    cases rest with
    | nil => cases hr
    | cons x rest =>
      have hr' : y :: r' = .str (S x) :: rowsD rest := hr
      injection hr' with hr1 hr2
      subst hr1 hr2
      have wx := hw x (by rw [← hs]; exact List.mem_append_right _ List.mem_cons_self)
      have hsl := S_len
      have go : N ((lensI done).map D.int ++ [.int (x.length : Int)]) M' := next _ _ ⟨rest, done ++ [x], rfl, by unfold lensI; rw [List.map_append, List.map_append]; rfl, rfl, by rw [List.append_assoc]; exact hs⟩
      have ge : (env.set i (some (D.str (S x))))[i]? = some (some (.str (S x))) := List.getElem?_set_self hi
      clear next
      try (simp only [↓e_seq, ↓e_next, ↓e_break, ↓e_cont, ↓e_expr, ↓e_ret, ↓e_retN, ↓e_if, ↓e_never, ↓e_asg, ↓e_name, ↓e_agtup, ↓e_agcons, ↓e_agnil, ↓e_agsub, ↓e_aug, ↓e_dput, ↓e_var, ↓e_c, ↓e_op, ↓e_some, ↓e_none, ↓e_test, ↓e_and, ↓e_or, ↓e_not, ↓e_yes, ↓e_truth,   ↓e_tru_bl, ↓e_tru_int, ↓e_tru_non, ↓e_tru_str, ↓e_tru_tup, ↓e_tru_obj, ↓e_chain, ↓e_orV, ↓e_andV, ↓e_notV, ↓e_ifE, ↓e_neg, ↓e_nil, ↓e_cons, ↓e_tup, ↓e_lst, ↓e_dnew, ↓e_call, ↓e_cb, ↓e_isi, ↓e_sl, ↓e_onone, ↓e_osome, ↓e_rev, ↓e_lm, ↓e_append, ↓e_dictC, ↓e_any, e_anyN, e_anyC, ↓e_anyY, ↓e_any2, e_any2N, ↓e_tg, ↓e_tg2, ↓e_fld, ↓e_setF, ↓e_meth, ↓e_make, ↓e_par, ↓e_irevR1, ↓e_indexI, ↓e_extend, ↓e_pop, ↓e_join, ↓e_dget2, ↓e_sortSet, ↓e_sortS, ↓e_setd, strsOf_map, ↓e_maxI, ↓e_disp, ↓e_pairN, ↓e_pairC, intsOf_map, ↓e_for, ↓e_ilist, ↓e_itup, ↓e_rng1, ↓e_rng2, ↓e_lc, ↓e_lc2, e_lc2N, ↓e_ienum, ↓e_izip, ↓e_anyB, ↓e_allB, ↓e_mulS, blsOf_map, ↓e_set0, ↓e_sadd, ↓e_sortTx, ↓e_sortD, ↓e_repr, ↓e_extT, ↓e_sc2, ↓e_sortZ, ↓e_tupVals, ↓e_wget, ↓e_wix, ↓e_listZip, zipD_nil, zipD_cons, ↓e_dgetF, ↓e_idif, ↓e_isB, ↓e_sortI, ↓e_sortSetI, ↓e_tailR, ↓e_divmod, ↓e_strI, ↓e_lenD, ↓e_fmt, ↓e_fs2, ↓e_sortR, ↓e_sortTS, ↓e_irevT, cut_to1, cut_to3, cut_from1',    ↓e_add_int, ↓e_add_str, ↓e_add_tup, ↓e_add_obj, ↓e_iadd_int, ↓e_iadd_str, ↓e_iadd_obj, ↓e_I, ↓e_I0, ↓e_IS_int, ↓e_IS_str, ↓e_eq_str, ↓e_ne_str, ↓e_eq_int, ↓e_ne_int, ↓e_eq_bl, ↓e_ne_bl, ↓e_isN, ↓e_notN, ↓e_ix_tup, ↓e_ix_fl, ↓e_ix_str, ↓e_ix_obj, ↓e_in_tup, ↓e_nin_tup, ↓e_len_tup, ↓e_len_fl, ↓e_len_str, ↓e_len_obj, ↓e_int_int, ↓e_tuple_tup, ↓e_tuple_obj, ↓e_list_tup, ↓e_list_obj, ↓e_dget, ↓e_din, ↓e_dnin, ↓e_lstAt, ↓e_dicAt,   e_key_int, e_key_str, e_up, e_ty_str, e_ty_tup, e_ty_int, e_ty_bl, e_ty_non, atI0, atI1, atI2, atI3, atIL, ixN0, ixN1, cut_from1, e_ite_or, e_ite_and, zln, znl, zli, zil, zni, zin, sizeLine_eq, CMul, CDiv, cpow1018, true_or, or_true, kb_strstr, kb_tupstr, kb_tuptup, kb_strtup, kb_inttup, kb_bltup, kb_nontup, kb_strbl, kb_strint, kb_intbl, kb_intint, kb_blbl, kb_blint, kb_nonbl, kb_nonint, kb_nonstr, kb_intstr, kb_blstr, kb_tupbl, kb_tupint,   List.set_cons_zero, List.set_cons_succ, List.set_nil, List.getElem?_cons_zero, List.getElem?_cons_succ, List.getElem?_nil, List.length_cons, List.length_nil, List.length_map, List.length_append, e_lcN, e_lcC, e_forN, e_forC, List.getLast?_concat, List.dropLast_concat, List.nil_append, List.cons_append, List.append_nil, List.append_assoc, List.reverse_cons, List.reverse_nil, List.isEmpty_nil, List.isEmpty_cons, isEmpty_snoc, List.any_cons, List.any_nil, List.all_cons, List.all_nil, flatD, eqF, in_non, in_tup, in_str, in_int, in_bl, in_obj, in_fl, startA, List.map_cons, List.map_nil, List.replicate_succ, List.replicate_zero,   Nat.reduceAdd, Nat.reduceSub, Nat.reduceLeDiff, Nat.zero_add, Int.reduceLE, Int.reduceLT, Int.reduceToNat, Int.reducePow, Int.reduceNeg, Int.reduceAdd, Int.reduceSub,   Option.isSome_some, Option.isSome_none, Bool.not_true, Bool.not_false, Bool.not_eq_true', Bool.not_eq_eq_eq_not, Bool.not_eq_true, Bool.false_eq_true, Bool.true_eq_false, Bool.and_true, Bool.true_and, Bool.or_false, Bool.false_or, Bool.or_true, Bool.true_or, Bool.and_false, Bool.false_and, if_true, if_false, ite_true, ite_false, reduceIte, reduceCtorEq, decide_true, decide_false, decide_eq_true_eq, decide_eq_false_iff_not, true_and, and_true, false_and, and_false, eq_self, ne_eq, not_false_eq_true, not_true_eq_false, and_self, *])
      omega
def A_width (L : Nat) : ASp := fun ds M Q _ => ∃ f : Fm, ds = [f.d] ∧ f.All nameOk ∧ f.sz ≤ L ∧ f.sz ≤ 1000 ∧ ∀ m M', m ∈ lensI (drw f) → (∀ y ∈ lensI (drw f), y ≤ m) → Ext M M' → Q (.int m) M'
theorem lens_pos {rs : List (List Nat)} (h : 1 ≤ rs.length) : 0 < (lensI rs).length := by unfold lensI; rw [List.length_map]; omega
theorem p_width (L : Nat) (ds : List D) (M : Sto) (Q : D → Sto → Prop) (Xa) (hl : ds.length = 1) (h : A_width L ds M Q Xa) : a_width (A_pdraw L) ax0 (Done Q) (startA ["formula", "row"] ds) M := by
  obtain ⟨f, rfl, hal, hL, hsz, q⟩ := h
  unfold a_width
  have dl := drw_len f
  have lp := lens_pos dl.2
  have sl : (rowsD (drw f)).length = (drw f).length := List.length_map _
  try (simp only [↓e_seq, ↓e_next, ↓e_break, ↓e_cont, ↓e_expr, ↓e_ret, ↓e_retN, ↓e_if, ↓e_never, ↓e_asg, ↓e_name, ↓e_agtup, ↓e_agcons, ↓e_agnil, ↓e_agsub, ↓e_aug, ↓e_dput, ↓e_var, ↓e_c, ↓e_op, ↓e_some, ↓e_none, ↓e_test, ↓e_and, ↓e_or, ↓e_not, ↓e_yes, ↓e_truth,   ↓e_tru_bl, ↓e_tru_int, ↓e_tru_non, ↓e_tru_str, ↓e_tru_tup, ↓e_tru_obj, ↓e_chain, ↓e_orV, ↓e_andV, ↓e_notV, ↓e_ifE, ↓e_neg, ↓e_nil, ↓e_cons, ↓e_tup, ↓e_lst, ↓e_dnew, ↓e_call, ↓e_cb, ↓e_isi, ↓e_sl, ↓e_onone, ↓e_osome, ↓e_rev, ↓e_lm, ↓e_append, ↓e_dictC, ↓e_any, e_anyN, e_anyC, ↓e_anyY, ↓e_any2, e_any2N, ↓e_tg, ↓e_tg2, ↓e_fld, ↓e_setF, ↓e_meth, ↓e_make, ↓e_par, ↓e_irevR1, ↓e_indexI, ↓e_extend, ↓e_pop, ↓e_join, ↓e_dget2, ↓e_sortSet, ↓e_sortS, ↓e_setd, strsOf_map, ↓e_maxI, ↓e_disp, ↓e_pairN, ↓e_pairC, intsOf_map, ↓e_for, ↓e_ilist, ↓e_itup, ↓e_rng1, ↓e_rng2, ↓e_lc, ↓e_lc2, e_lc2N, ↓e_ienum, ↓e_izip, ↓e_anyB, ↓e_allB, ↓e_mulS, blsOf_map, ↓e_set0, ↓e_sadd, ↓e_sortTx, ↓e_sortD, ↓e_repr, ↓e_extT, ↓e_sc2, ↓e_sortZ, ↓e_tupVals, ↓e_wget, ↓e_wix, ↓e_listZip, zipD_nil, zipD_cons, ↓e_dgetF, ↓e_idif, ↓e_isB, ↓e_sortI, ↓e_sortSetI, ↓e_tailR, ↓e_divmod, ↓e_strI, ↓e_lenD, ↓e_fmt, ↓e_fs2, ↓e_sortR, ↓e_sortTS, ↓e_irevT, cut_to1, cut_to3, cut_from1',    ↓e_add_int, ↓e_add_str, ↓e_add_tup, ↓e_add_obj, ↓e_iadd_int, ↓e_iadd_str, ↓e_iadd_obj, ↓e_I, ↓e_I0, ↓e_IS_int, ↓e_IS_str, ↓e_eq_str, ↓e_ne_str, ↓e_eq_int, ↓e_ne_int, ↓e_eq_bl, ↓e_ne_bl, ↓e_isN, ↓e_notN, ↓e_ix_tup, ↓e_ix_fl, ↓e_ix_str, ↓e_ix_obj, ↓e_in_tup, ↓e_nin_tup, ↓e_len_tup, ↓e_len_fl, ↓e_len_str, ↓e_len_obj, ↓e_int_int, ↓e_tuple_tup, ↓e_tuple_obj, ↓e_list_tup, ↓e_list_obj, ↓e_dget, ↓e_din, ↓e_dnin, ↓e_lstAt, ↓e_dicAt,   e_key_int, e_key_str, e_up, e_ty_str, e_ty_tup, e_ty_int, e_ty_bl, e_ty_non, atI0, atI1, atI2, atI3, atIL, ixN0, ixN1, cut_from1, e_ite_or, e_ite_and, zln, znl, zli, zil, zni, zin, sizeLine_eq, CMul, CDiv, cpow1018, true_or, or_true, kb_strstr, kb_tupstr, kb_tuptup, kb_strtup, kb_inttup, kb_bltup, kb_nontup, kb_strbl, kb_strint, kb_intbl, kb_intint, kb_blbl, kb_blint, kb_nonbl, kb_nonint, kb_nonstr, kb_intstr, kb_blstr, kb_tupbl, kb_tupint,   List.set_cons_zero, List.set_cons_succ, List.set_nil, List.getElem?_cons_zero, List.getElem?_cons_succ, List.getElem?_nil, List.length_cons, List.length_nil, List.length_map, List.length_append, e_lcN, e_lcC, e_forN, e_forC, List.getLast?_concat, List.dropLast_concat, List.nil_append, List.cons_append, List.append_nil, List.append_assoc, List.reverse_cons, List.reverse_nil, List.isEmpty_nil, List.isEmpty_cons, isEmpty_snoc, List.any_cons, List.any_nil, List.all_cons, List.all_nil, flatD, eqF, in_non, in_tup, in_str, in_int, in_bl, in_obj, in_fl, startA, List.map_cons, List.map_nil, List.replicate_succ, List.replicate_zero,   Nat.reduceAdd, Nat.reduceSub, Nat.reduceLeDiff, Nat.zero_add, Int.reduceLE, Int.reduceLT, Int.reduceToNat, Int.reducePow, Int.reduceNeg, Int.reduceAdd, Int.reduceSub,   Option.isSome_some, Option.isSome_none, Bool.not_true, Bool.not_false, Bool.not_eq_true', Bool.not_eq_eq_eq_not, Bool.not_eq_true, Bool.false_eq_true, Bool.true_eq_false, Bool.and_true, Bool.true_and, Bool.or_false, Bool.false_or, Bool.or_true, Bool.true_or, Bool.and_false, Bool.false_and, if_true, if_false, ite_true, ite_false, reduceIte, reduceCtorEq, decide_true, decide_false, decide_eq_true_eq, decide_eq_false_iff_not, true_and, and_true, false_and, and_false, eq_self, ne_eq, not_false_eq_true, not_true_eq_false, and_self, *])
  refine ⟨rfl, f, rfl, hal, hL, hsz, ?_⟩
  try (simp only [↓e_seq, ↓e_next, ↓e_break, ↓e_cont, ↓e_expr, ↓e_ret, ↓e_retN, ↓e_if, ↓e_never, ↓e_asg, ↓e_name, ↓e_agtup, ↓e_agcons, ↓e_agnil, ↓e_agsub, ↓e_aug, ↓e_dput, ↓e_var, ↓e_c, ↓e_op, ↓e_some, ↓e_none, ↓e_test, ↓e_and, ↓e_or, ↓e_not, ↓e_yes, ↓e_truth,   ↓e_tru_bl, ↓e_tru_int, ↓e_tru_non, ↓e_tru_str, ↓e_tru_tup, ↓e_tru_obj, ↓e_chain, ↓e_orV, ↓e_andV, ↓e_notV, ↓e_ifE, ↓e_neg, ↓e_nil, ↓e_cons, ↓e_tup, ↓e_lst, ↓e_dnew, ↓e_call, ↓e_cb, ↓e_isi, ↓e_sl, ↓e_onone, ↓e_osome, ↓e_rev, ↓e_lm, ↓e_append, ↓e_dictC, ↓e_any, e_anyN, e_anyC, ↓e_anyY, ↓e_any2, e_any2N, ↓e_tg, ↓e_tg2, ↓e_fld, ↓e_setF, ↓e_meth, ↓e_make, ↓e_par, ↓e_irevR1, ↓e_indexI, ↓e_extend, ↓e_pop, ↓e_join, ↓e_dget2, ↓e_sortSet, ↓e_sortS, ↓e_setd, strsOf_map, ↓e_maxI, ↓e_disp, ↓e_pairN, ↓e_pairC, intsOf_map, ↓e_for, ↓e_ilist, ↓e_itup, ↓e_rng1, ↓e_rng2, ↓e_lc, ↓e_lc2, e_lc2N, ↓e_ienum, ↓e_izip, ↓e_anyB, ↓e_allB, ↓e_mulS, blsOf_map, ↓e_set0, ↓e_sadd, ↓e_sortTx, ↓e_sortD, ↓e_repr, ↓e_extT, ↓e_sc2, ↓e_sortZ, ↓e_tupVals, ↓e_wget, ↓e_wix, ↓e_listZip, zipD_nil, zipD_cons, ↓e_dgetF, ↓e_idif, ↓e_isB, ↓e_sortI, ↓e_sortSetI, ↓e_tailR, ↓e_divmod, ↓e_strI, ↓e_lenD, ↓e_fmt, ↓e_fs2, ↓e_sortR, ↓e_sortTS, ↓e_irevT, cut_to1, cut_to3, cut_from1',    ↓e_add_int, ↓e_add_str, ↓e_add_tup, ↓e_add_obj, ↓e_iadd_int, ↓e_iadd_str, ↓e_iadd_obj, ↓e_I, ↓e_I0, ↓e_IS_int, ↓e_IS_str, ↓e_eq_str, ↓e_ne_str, ↓e_eq_int, ↓e_ne_int, ↓e_eq_bl, ↓e_ne_bl, ↓e_isN, ↓e_notN, ↓e_ix_tup, ↓e_ix_fl, ↓e_ix_str, ↓e_ix_obj, ↓e_in_tup, ↓e_nin_tup, ↓e_len_tup, ↓e_len_fl, ↓e_len_str, ↓e_len_obj, ↓e_int_int, ↓e_tuple_tup, ↓e_tuple_obj, ↓e_list_tup, ↓e_list_obj, ↓e_dget, ↓e_din, ↓e_dnin, ↓e_lstAt, ↓e_dicAt,   e_key_int, e_key_str, e_up, e_ty_str, e_ty_tup, e_ty_int, e_ty_bl, e_ty_non, atI0, atI1, atI2, atI3, atIL, ixN0, ixN1, cut_from1, e_ite_or, e_ite_and, zln, znl, zli, zil, zni, zin, sizeLine_eq, CMul, CDiv, cpow1018, true_or, or_true, kb_strstr, kb_tupstr, kb_tuptup, kb_strtup, kb_inttup, kb_bltup, kb_nontup, kb_strbl, kb_strint, kb_intbl, kb_intint, kb_blbl, kb_blint, kb_nonbl, kb_nonint, kb_nonstr, kb_intstr, kb_blstr, kb_tupbl, kb_tupint,   List.set_cons_zero, List.set_cons_succ, List.set_nil, List.getElem?_cons_zero, List.getElem?_cons_succ, List.getElem?_nil, List.length_cons, List.length_nil, List.length_map, List.length_append, e_lcN, e_lcC, e_forN, e_forC, List.getLast?_concat, List.dropLast_concat, List.nil_append, List.cons_append, List.append_nil, List.append_assoc, List.reverse_cons, List.reverse_nil, List.isEmpty_nil, List.isEmpty_cons, isEmpty_snoc, List.any_cons, List.any_nil, List.all_cons, List.all_nil, flatD, eqF, in_non, in_tup, in_str, in_int, in_bl, in_obj, in_fl, startA, List.map_cons, List.map_nil, List.replicate_succ, List.replicate_zero,   Nat.reduceAdd, Nat.reduceSub, Nat.reduceLeDiff, Nat.zero_add, Int.reduceLE, Int.reduceLT, Int.reduceToNat, Int.reducePow, Int.reduceNeg, Int.reduceAdd, Int.reduceSub,   Option.isSome_some, Option.isSome_none, Bool.not_true, Bool.not_false, Bool.not_eq_true', Bool.not_eq_eq_eq_not, Bool.not_eq_true, Bool.false_eq_true, Bool.true_eq_false, Bool.and_true, Bool.true_and, Bool.or_false, Bool.false_or, Bool.or_true, Bool.true_or, Bool.and_false, Bool.false_and, if_true, if_false, ite_true, ite_false, reduceIte, reduceCtorEq, decide_true, decide_false, decide_eq_true_eq, decide_eq_false_iff_not, true_and, and_true, false_and, and_false, eq_self, ne_eq, not_false_eq_true, not_true_eq_false, and_self, *])
  refine ⟨by omega, lens_run (by simp) (fun r hr => by have := drw_wide f hal r hr; omega) ?_⟩
  intro p np
  have hat : (up M p (.lst ((lensI (drw f)).map D.int))) p = some (.lst ((lensI (drw f)).map D.int)) := up_same
  have ex : Ext M (up M p (.lst ((lensI (drw f)).map D.int))) := Ext.new np
  clear np
  generalize up M p (.lst ((lensI (drw f)).map D.int)) = M2 at *
  try (simp only [↓e_seq, ↓e_next, ↓e_break, ↓e_cont, ↓e_expr, ↓e_ret, ↓e_retN, ↓e_if, ↓e_never, ↓e_asg, ↓e_name, ↓e_agtup, ↓e_agcons, ↓e_agnil, ↓e_agsub, ↓e_aug, ↓e_dput, ↓e_var, ↓e_c, ↓e_op, ↓e_some, ↓e_none, ↓e_test, ↓e_and, ↓e_or, ↓e_not, ↓e_yes, ↓e_truth,   ↓e_tru_bl, ↓e_tru_int, ↓e_tru_non, ↓e_tru_str, ↓e_tru_tup, ↓e_tru_obj, ↓e_chain, ↓e_orV, ↓e_andV, ↓e_notV, ↓e_ifE, ↓e_neg, ↓e_nil, ↓e_cons, ↓e_tup, ↓e_lst, ↓e_dnew, ↓e_call, ↓e_cb, ↓e_isi, ↓e_sl, ↓e_onone, ↓e_osome, ↓e_rev, ↓e_lm, ↓e_append, ↓e_dictC, ↓e_any, e_anyN, e_anyC, ↓e_anyY, ↓e_any2, e_any2N, ↓e_tg, ↓e_tg2, ↓e_fld, ↓e_setF, ↓e_meth, ↓e_make, ↓e_par, ↓e_irevR1, ↓e_indexI, ↓e_extend, ↓e_pop, ↓e_join, ↓e_dget2, ↓e_sortSet, ↓e_sortS, ↓e_setd, strsOf_map, ↓e_maxI, ↓e_disp, ↓e_pairN, ↓e_pairC, intsOf_map, ↓e_for, ↓e_ilist, ↓e_itup, ↓e_rng1, ↓e_rng2, ↓e_lc, ↓e_lc2, e_lc2N, ↓e_ienum, ↓e_izip, ↓e_anyB, ↓e_allB, ↓e_mulS, blsOf_map, ↓e_set0, ↓e_sadd, ↓e_sortTx, ↓e_sortD, ↓e_repr, ↓e_extT, ↓e_sc2, ↓e_sortZ, ↓e_tupVals, ↓e_wget, ↓e_wix, ↓e_listZip, zipD_nil, zipD_cons, ↓e_dgetF, ↓e_idif, ↓e_isB, ↓e_sortI, ↓e_sortSetI, ↓e_tailR, ↓e_divmod, ↓e_strI, ↓e_lenD, ↓e_fmt, ↓e_fs2, ↓e_sortR, ↓e_sortTS, ↓e_irevT, cut_to1, cut_to3, cut_from1',    ↓e_add_int, ↓e_add_str, ↓e_add_tup, ↓e_add_obj, ↓e_iadd_int, ↓e_iadd_str, ↓e_iadd_obj, ↓e_I, ↓e_I0, ↓e_IS_int, ↓e_IS_str, ↓e_eq_str, ↓e_ne_str, ↓e_eq_int, ↓e_ne_int, ↓e_eq_bl, ↓e_ne_bl, ↓e_isN, ↓e_notN, ↓e_ix_tup, ↓e_ix_fl, ↓e_ix_str, ↓e_ix_obj, ↓e_in_tup, ↓e_nin_tup, ↓e_len_tup, ↓e_len_fl, ↓e_len_str, ↓e_len_obj, ↓e_int_int, ↓e_tuple_tup, ↓e_tuple_obj, ↓e_list_tup, ↓e_list_obj, ↓e_dget, ↓e_din, ↓e_dnin, ↓e_lstAt, ↓e_dicAt,   e_key_int, e_key_str, e_up, e_ty_str, e_ty_tup, e_ty_int, e_ty_bl, e_ty_non, atI0, atI1, atI2, atI3, atIL, ixN0, ixN1, cut_from1, e_ite_or, e_ite_and, zln, znl, zli, zil, zni, zin, sizeLine_eq, CMul, CDiv, cpow1018, true_or, or_true, kb_strstr, kb_tupstr, kb_tuptup, kb_strtup, kb_inttup, kb_bltup, kb_nontup, kb_strbl, kb_strint, kb_intbl, kb_intint, kb_blbl, kb_blint, kb_nonbl, kb_nonint, kb_nonstr, kb_intstr, kb_blstr, kb_tupbl, kb_tupint,   List.set_cons_zero, List.set_cons_succ, List.set_nil, List.getElem?_cons_zero, List.getElem?_cons_succ, List.getElem?_nil, List.length_cons, List.length_nil, List.length_map, List.length_append, e_lcN, e_lcC, e_forN, e_forC, List.getLast?_concat, List.dropLast_concat, List.nil_append, List.cons_append, List.append_nil, List.append_assoc, List.reverse_cons, List.reverse_nil, List.isEmpty_nil, List.isEmpty_cons, isEmpty_snoc, List.any_cons, List.any_nil, List.all_cons, List.all_nil, flatD, eqF, in_non, in_tup, in_str, in_int, in_bl, in_obj, in_fl, startA, List.map_cons, List.map_nil, List.replicate_succ, List.replicate_zero,   Nat.reduceAdd, Nat.reduceSub, Nat.reduceLeDiff, Nat.zero_add, Int.reduceLE, Int.reduceLT, Int.reduceToNat, Int.reducePow, Int.reduceNeg, Int.reduceAdd, Int.reduceSub,   Option.isSome_some, Option.isSome_none, Bool.not_true, Bool.not_false, Bool.not_eq_true', Bool.not_eq_eq_eq_not, Bool.not_eq_true, Bool.false_eq_true, Bool.true_eq_false, Bool.and_true, Bool.true_and, Bool.or_false, Bool.false_or, Bool.or_true, Bool.true_or, Bool.and_false, Bool.false_and, if_true, if_false, ite_true, ite_false, reduceIte, reduceCtorEq, decide_true, decide_false, decide_eq_true_eq, decide_eq_false_iff_not, true_and, and_true, false_and, and_false, eq_self, ne_eq, not_false_eq_true, not_true_eq_false, and_self, *])
  exact fun m hm hy => q m M2 hm hy ex
def A_height (L : Nat) : ASp := fun ds M Q _ => ∃ f : Fm, ds = [f.d] ∧ f.All nameOk ∧ f.sz ≤ L ∧ f.sz ≤ 1000 ∧ Q (.int ((drw f).length : Nat)) M
theorem p_height (L : Nat) (ds : List D) (M : Sto) (Q : D → Sto → Prop) (Xa) (hl : ds.length = 1) (h : A_height L ds M Q Xa) : a_height (A_pdraw L) ax0 (Done Q) (startA ["formula"] ds) M := by
  obtain ⟨f, rfl, hal, hL, hsz, q⟩ := h
  unfold a_height
  have sl : (rowsD (drw f)).length = (drw f).length := List.length_map _
  try (simp only [↓e_seq, ↓e_next, ↓e_break, ↓e_cont, ↓e_expr, ↓e_ret, ↓e_retN, ↓e_if, ↓e_never, ↓e_asg, ↓e_name, ↓e_agtup, ↓e_agcons, ↓e_agnil, ↓e_agsub, ↓e_aug, ↓e_dput, ↓e_var, ↓e_c, ↓e_op, ↓e_some, ↓e_none, ↓e_test, ↓e_and, ↓e_or, ↓e_not, ↓e_yes, ↓e_truth,   ↓e_tru_bl, ↓e_tru_int, ↓e_tru_non, ↓e_tru_str, ↓e_tru_tup, ↓e_tru_obj, ↓e_chain, ↓e_orV, ↓e_andV, ↓e_notV, ↓e_ifE, ↓e_neg, ↓e_nil, ↓e_cons, ↓e_tup, ↓e_lst, ↓e_dnew, ↓e_call, ↓e_cb, ↓e_isi, ↓e_sl, ↓e_onone, ↓e_osome, ↓e_rev, ↓e_lm, ↓e_append, ↓e_dictC, ↓e_any, e_anyN, e_anyC, ↓e_anyY, ↓e_any2, e_any2N, ↓e_tg, ↓e_tg2, ↓e_fld, ↓e_setF, ↓e_meth, ↓e_make, ↓e_par, ↓e_irevR1, ↓e_indexI, ↓e_extend, ↓e_pop, ↓e_join, ↓e_dget2, ↓e_sortSet, ↓e_sortS, ↓e_setd, strsOf_map, ↓e_maxI, ↓e_disp, ↓e_pairN, ↓e_pairC, intsOf_map, ↓e_for, ↓e_ilist, ↓e_itup, ↓e_rng1, ↓e_rng2, ↓e_lc, ↓e_lc2, e_lc2N, ↓e_ienum, ↓e_izip, ↓e_anyB, ↓e_allB, ↓e_mulS, blsOf_map, ↓e_set0, ↓e_sadd, ↓e_sortTx, ↓e_sortD, ↓e_repr, ↓e_extT, ↓e_sc2, ↓e_sortZ, ↓e_tupVals, ↓e_wget, ↓e_wix, ↓e_listZip, zipD_nil, zipD_cons, ↓e_dgetF, ↓e_idif, ↓e_isB, ↓e_sortI, ↓e_sortSetI, ↓e_tailR, ↓e_divmod, ↓e_strI, ↓e_lenD, ↓e_fmt, ↓e_fs2, ↓e_sortR, ↓e_sortTS, ↓e_irevT, cut_to1, cut_to3, cut_from1',    ↓e_add_int, ↓e_add_str, ↓e_add_tup, ↓e_add_obj, ↓e_iadd_int, ↓e_iadd_str, ↓e_iadd_obj, ↓e_I, ↓e_I0, ↓e_IS_int, ↓e_IS_str, ↓e_eq_str, ↓e_ne_str, ↓e_eq_int, ↓e_ne_int, ↓e_eq_bl, ↓e_ne_bl, ↓e_isN, ↓e_notN, ↓e_ix_tup, ↓e_ix_fl, ↓e_ix_str, ↓e_ix_obj, ↓e_in_tup, ↓e_nin_tup, ↓e_len_tup, ↓e_len_fl, ↓e_len_str, ↓e_len_obj, ↓e_int_int, ↓e_tuple_tup, ↓e_tuple_obj, ↓e_list_tup, ↓e_list_obj, ↓e_dget, ↓e_din, ↓e_dnin, ↓e_lstAt, ↓e_dicAt,   e_key_int, e_key_str, e_up, e_ty_str, e_ty_tup, e_ty_int, e_ty_bl, e_ty_non, atI0, atI1, atI2, atI3, atIL, ixN0, ixN1, cut_from1, e_ite_or, e_ite_and, zln, znl, zli, zil, zni, zin, sizeLine_eq, CMul, CDiv, cpow1018, true_or, or_true, kb_strstr, kb_tupstr, kb_tuptup, kb_strtup, kb_inttup, kb_bltup, kb_nontup, kb_strbl, kb_strint, kb_intbl, kb_intint, kb_blbl, kb_blint, kb_nonbl, kb_nonint, kb_nonstr, kb_intstr, kb_blstr, kb_tupbl, kb_tupint,   List.set_cons_zero, List.set_cons_succ, List.set_nil, List.getElem?_cons_zero, List.getElem?_cons_succ, List.getElem?_nil, List.length_cons, List.length_nil, List.length_map, List.length_append, e_lcN, e_lcC, e_forN, e_forC, List.getLast?_concat, List.dropLast_concat, List.nil_append, List.cons_append, List.append_nil, List.append_assoc, List.reverse_cons, List.reverse_nil, List.isEmpty_nil, List.isEmpty_cons, isEmpty_snoc, List.any_cons, List.any_nil, List.all_cons, List.all_nil, flatD, eqF, in_non, in_tup, in_str, in_int, in_bl, in_obj, in_fl, startA, List.map_cons, List.map_nil, List.replicate_succ, List.replicate_zero,   Nat.reduceAdd, Nat.reduceSub, Nat.reduceLeDiff, Nat.zero_add, Int.reduceLE, Int.reduceLT, Int.reduceToNat, Int.reducePow, Int.reduceNeg, Int.reduceAdd, Int.reduceSub,   Option.isSome_some, Option.isSome_none, Bool.not_true, Bool.not_false, Bool.not_eq_true', Bool.not_eq_eq_eq_not, Bool.not_eq_true, Bool.false_eq_true, Bool.true_eq_false, Bool.and_true, Bool.true_and, Bool.or_false, Bool.false_or, Bool.or_true, Bool.true_or, Bool.and_false, Bool.false_and, if_true, if_false, ite_true, ite_false, reduceIte, reduceCtorEq, decide_true, decide_false, decide_eq_true_eq, decide_eq_false_iff_not, true_and, and_true, false_and, and_false, eq_self, ne_eq, not_false_eq_true, not_true_eq_false, and_self, *])
  refine ⟨rfl, f, rfl, hal, hL, hsz, ?_⟩
  try (simp only [↓e_seq, ↓e_next, ↓e_break, ↓e_cont, ↓e_expr, ↓e_ret, ↓e_retN, ↓e_if, ↓e_never, ↓e_asg, ↓e_name, ↓e_agtup, ↓e_agcons, ↓e_agnil, ↓e_agsub, ↓e_aug, ↓e_dput, ↓e_var, ↓e_c, ↓e_op, ↓e_some, ↓e_none, ↓e_test, ↓e_and, ↓e_or, ↓e_not, ↓e_yes, ↓e_truth,   ↓e_tru_bl, ↓e_tru_int, ↓e_tru_non, ↓e_tru_str, ↓e_tru_tup, ↓e_tru_obj, ↓e_chain, ↓e_orV, ↓e_andV, ↓e_notV, ↓e_ifE, ↓e_neg, ↓e_nil, ↓e_cons, ↓e_tup, ↓e_lst, ↓e_dnew, ↓e_call, ↓e_cb, ↓e_isi, ↓e_sl, ↓e_onone, ↓e_osome, ↓e_rev, ↓e_lm, ↓e_append, ↓e_dictC, ↓e_any, e_anyN, e_anyC, ↓e_anyY, ↓e_any2, e_any2N, ↓e_tg, ↓e_tg2, ↓e_fld, ↓e_setF, ↓e_meth, ↓e_make, ↓e_par, ↓e_irevR1, ↓e_indexI, ↓e_extend, ↓e_pop, ↓e_join, ↓e_dget2, ↓e_sortSet, ↓e_sortS, ↓e_setd, strsOf_map, ↓e_maxI, ↓e_disp, ↓e_pairN, ↓e_pairC, intsOf_map, ↓e_for, ↓e_ilist, ↓e_itup, ↓e_rng1, ↓e_rng2, ↓e_lc, ↓e_lc2, e_lc2N, ↓e_ienum, ↓e_izip, ↓e_anyB, ↓e_allB, ↓e_mulS, blsOf_map, ↓e_set0, ↓e_sadd, ↓e_sortTx, ↓e_sortD, ↓e_repr, ↓e_extT, ↓e_sc2, ↓e_sortZ, ↓e_tupVals, ↓e_wget, ↓e_wix, ↓e_listZip, zipD_nil, zipD_cons, ↓e_dgetF, ↓e_idif, ↓e_isB, ↓e_sortI, ↓e_sortSetI, ↓e_tailR, ↓e_divmod, ↓e_strI, ↓e_lenD, ↓e_fmt, ↓e_fs2, ↓e_sortR, ↓e_sortTS, ↓e_irevT, cut_to1, cut_to3, cut_from1',    ↓e_add_int, ↓e_add_str, ↓e_add_tup, ↓e_add_obj, ↓e_iadd_int, ↓e_iadd_str, ↓e_iadd_obj, ↓e_I, ↓e_I0, ↓e_IS_int, ↓e_IS_str, ↓e_eq_str, ↓e_ne_str, ↓e_eq_int, ↓e_ne_int, ↓e_eq_bl, ↓e_ne_bl, ↓e_isN, ↓e_notN, ↓e_ix_tup, ↓e_ix_fl, ↓e_ix_str, ↓e_ix_obj, ↓e_in_tup, ↓e_nin_tup, ↓e_len_tup, ↓e_len_fl, ↓e_len_str, ↓e_len_obj, ↓e_int_int, ↓e_tuple_tup, ↓e_tuple_obj, ↓e_list_tup, ↓e_list_obj, ↓e_dget, ↓e_din, ↓e_dnin, ↓e_lstAt, ↓e_dicAt,   e_key_int, e_key_str, e_up, e_ty_str, e_ty_tup, e_ty_int, e_ty_bl, e_ty_non, atI0, atI1, atI2, atI3, atIL, ixN0, ixN1, cut_from1, e_ite_or, e_ite_and, zln, znl, zli, zil, zni, zin, sizeLine_eq, CMul, CDiv, cpow1018, true_or, or_true, kb_strstr, kb_tupstr, kb_tuptup, kb_strtup, kb_inttup, kb_bltup, kb_nontup, kb_strbl, kb_strint, kb_intbl, kb_intint, kb_blbl, kb_blint, kb_nonbl, kb_nonint, kb_nonstr, kb_intstr, kb_blstr, kb_tupbl, kb_tupint,   List.set_cons_zero, List.set_cons_succ, List.set_nil, List.getElem?_cons_zero, List.getElem?_cons_succ, List.getElem?_nil, List.length_cons, List.length_nil, List.length_map, List.length_append, e_lcN, e_lcC, e_forN, e_forC, List.getLast?_concat, List.dropLast_concat, List.nil_append, List.cons_append, List.append_nil, List.append_assoc, List.reverse_cons, List.reverse_nil, List.isEmpty_nil, List.isEmpty_cons, isEmpty_snoc, List.any_cons, List.any_nil, List.all_cons, List.all_nil, flatD, eqF, in_non, in_tup, in_str, in_int, in_bl, in_obj, in_fl, startA, List.map_cons, List.map_nil, List.replicate_succ, List.replicate_zero,   Nat.reduceAdd, Nat.reduceSub, Nat.reduceLeDiff, Nat.zero_add, Int.reduceLE, Int.reduceLT, Int.reduceToNat, Int.reducePow, Int.reduceNeg, Int.reduceAdd, Int.reduceSub,   Option.isSome_some, Option.isSome_none, Bool.not_true, Bool.not_false, Bool.not_eq_true', Bool.not_eq_eq_eq_not, Bool.not_eq_true, Bool.false_eq_true, Bool.true_eq_false, Bool.and_true, Bool.true_and, Bool.or_false, Bool.false_or, Bool.or_true, Bool.true_or, Bool.and_false, Bool.false_and, if_true, if_false, ite_true, ite_false, reduceIte, reduceCtorEq, decide_true, decide_false, decide_eq_true_eq, decide_eq_false_iff_not, true_and, and_true, false_and, and_false, eq_self, ne_eq, not_false_eq_true, not_true_eq_false, and_self, *])
theorem drw_reads : ∀ f : Fm, f.All nameOk → Reads f (drw f)
  | .lt s, h => Reads.lt h
  | .ng p, h => (drw_reads p h).ng
  | .im p q, h => Reads.im (drw_reads p h.1) (drw_reads q h.2)
theorem rows_plain (rs : List (List Nat)) (h : rs.length ≤ 1000000) : (D.tup (rowsD rs)).plain := ⟨by unfold rowsD; rw [List.length_map]; exact h, plains_all fun d hd => by
  obtain ⟨r, _, rfl⟩ := List.mem_map.mp hd
  trivial⟩
theorem rows_dep (rs : List (List Nat)) : (D.tup (rowsD rs)).dep ≤ 1 := by
  have z : D.deps (rowsD rs) ≤ 0 := deps_le fun d hd => by
    obtain ⟨r, _, rfl⟩ := List.mem_map.mp hd
    exact Nat.le_refl _
  show D.deps (rowsD rs) + 1 ≤ 1
  omega
theorem rooms5 {j : Int} (h0 : 0 ≤ j) (h : j < 5) : ∃ n : Nat, 1 ≤ n ∧ n ≤ 30 ∧ atI [D.int 1, D.int 3, D.int 7, D.int 15, D.int 30] j = some (.int n) := by
  have e : j = ((j.toNat : Nat) : Int) := by omega
  have hk : j.toNat < 5 := by omega
  rw [e, atIn]
  generalize j.toNat = n at hk
  match n, hk with
  | 0, _ => exact ⟨1, by decide, by decide, rfl⟩
  | 1, _ => exact ⟨3, by decide, by decide, rfl⟩
  | 2, _ => exact ⟨7, by decide, by decide, rfl⟩
  | 3, _ => exact ⟨15, by decide, by decide, rfl⟩
  | 4, _ => exact ⟨30, by decide, by decide, rfl⟩
theorem p_law (ds : List D) (M : Sto) (Q : D → Sto → Prop) (Xa) (hl : ds.length = 1) (h : A_law ds M Q Xa) : a_law A_box (A_lettered 30) (A_drawing 30) (A_same 50) (A_pdraw 30) A_read_drawing (A_height 30) (A_width 30) ax0 (Done Q) (startA ["script", "box", "k", "formula", "rows", "row"] ds) M := by
  obtain ⟨ns, rfl, q⟩ := h
  unfold a_law
  try (simp only [↓e_seq, ↓e_next, ↓e_break, ↓e_cont, ↓e_expr, ↓e_ret, ↓e_retN, ↓e_if, ↓e_never, ↓e_asg, ↓e_name, ↓e_agtup, ↓e_agcons, ↓e_agnil, ↓e_agsub, ↓e_aug, ↓e_dput, ↓e_var, ↓e_c, ↓e_op, ↓e_some, ↓e_none, ↓e_test, ↓e_and, ↓e_or, ↓e_not, ↓e_yes, ↓e_truth,   ↓e_tru_bl, ↓e_tru_int, ↓e_tru_non, ↓e_tru_str, ↓e_tru_tup, ↓e_tru_obj, ↓e_chain, ↓e_orV, ↓e_andV, ↓e_notV, ↓e_ifE, ↓e_neg, ↓e_nil, ↓e_cons, ↓e_tup, ↓e_lst, ↓e_dnew, ↓e_call, ↓e_cb, ↓e_isi, ↓e_sl, ↓e_onone, ↓e_osome, ↓e_rev, ↓e_lm, ↓e_append, ↓e_dictC, ↓e_any, e_anyN, e_anyC, ↓e_anyY, ↓e_any2, e_any2N, ↓e_tg, ↓e_tg2, ↓e_fld, ↓e_setF, ↓e_meth, ↓e_make, ↓e_par, ↓e_irevR1, ↓e_indexI, ↓e_extend, ↓e_pop, ↓e_join, ↓e_dget2, ↓e_sortSet, ↓e_sortS, ↓e_setd, strsOf_map, ↓e_maxI, ↓e_disp, ↓e_pairN, ↓e_pairC, intsOf_map, ↓e_for, ↓e_ilist, ↓e_itup, ↓e_rng1, ↓e_rng2, ↓e_lc, ↓e_lc2, e_lc2N, ↓e_ienum, ↓e_izip, ↓e_anyB, ↓e_allB, ↓e_mulS, blsOf_map, ↓e_set0, ↓e_sadd, ↓e_sortTx, ↓e_sortD, ↓e_repr, ↓e_extT, ↓e_sc2, ↓e_sortZ, ↓e_tupVals, ↓e_wget, ↓e_wix, ↓e_listZip, zipD_nil, zipD_cons, ↓e_dgetF, ↓e_idif, ↓e_isB, ↓e_sortI, ↓e_sortSetI, ↓e_tailR, ↓e_divmod, ↓e_strI, ↓e_lenD, ↓e_fmt, ↓e_fs2, ↓e_sortR, ↓e_sortTS, ↓e_irevT, cut_to1, cut_to3, cut_from1',    ↓e_add_int, ↓e_add_str, ↓e_add_tup, ↓e_add_obj, ↓e_iadd_int, ↓e_iadd_str, ↓e_iadd_obj, ↓e_I, ↓e_I0, ↓e_IS_int, ↓e_IS_str, ↓e_eq_str, ↓e_ne_str, ↓e_eq_int, ↓e_ne_int, ↓e_eq_bl, ↓e_ne_bl, ↓e_isN, ↓e_notN, ↓e_ix_tup, ↓e_ix_fl, ↓e_ix_str, ↓e_ix_obj, ↓e_in_tup, ↓e_nin_tup, ↓e_len_tup, ↓e_len_fl, ↓e_len_str, ↓e_len_obj, ↓e_int_int, ↓e_tuple_tup, ↓e_tuple_obj, ↓e_list_tup, ↓e_list_obj, ↓e_dget, ↓e_din, ↓e_dnin, ↓e_lstAt, ↓e_dicAt,   e_key_int, e_key_str, e_up, e_ty_str, e_ty_tup, e_ty_int, e_ty_bl, e_ty_non, atI0, atI1, atI2, atI3, atIL, ixN0, ixN1, cut_from1, e_ite_or, e_ite_and, zln, znl, zli, zil, zni, zin, sizeLine_eq, CMul, CDiv, cpow1018, true_or, or_true, kb_strstr, kb_tupstr, kb_tuptup, kb_strtup, kb_inttup, kb_bltup, kb_nontup, kb_strbl, kb_strint, kb_intbl, kb_intint, kb_blbl, kb_blint, kb_nonbl, kb_nonint, kb_nonstr, kb_intstr, kb_blstr, kb_tupbl, kb_tupint,   List.set_cons_zero, List.set_cons_succ, List.set_nil, List.getElem?_cons_zero, List.getElem?_cons_succ, List.getElem?_nil, List.length_cons, List.length_nil, List.length_map, List.length_append, e_lcN, e_lcC, e_forN, e_forC, List.getLast?_concat, List.dropLast_concat, List.nil_append, List.cons_append, List.append_nil, List.append_assoc, List.reverse_cons, List.reverse_nil, List.isEmpty_nil, List.isEmpty_cons, isEmpty_snoc, List.any_cons, List.any_nil, List.all_cons, List.all_nil, flatD, eqF, in_non, in_tup, in_str, in_int, in_bl, in_obj, in_fl, startA, List.map_cons, List.map_nil, List.replicate_succ, List.replicate_zero,   Nat.reduceAdd, Nat.reduceSub, Nat.reduceLeDiff, Nat.zero_add, Int.reduceLE, Int.reduceLT, Int.reduceToNat, Int.reducePow, Int.reduceNeg, Int.reduceAdd, Int.reduceSub,   Option.isSome_some, Option.isSome_none, Bool.not_true, Bool.not_false, Bool.not_eq_true', Bool.not_eq_eq_eq_not, Bool.not_eq_true, Bool.false_eq_true, Bool.true_eq_false, Bool.and_true, Bool.true_and, Bool.or_false, Bool.false_or, Bool.or_true, Bool.true_or, Bool.and_false, Bool.false_and, if_true, if_false, ite_true, ite_false, reduceIte, reduceCtorEq, decide_true, decide_false, decide_eq_true_eq, decide_eq_false_iff_not, true_and, and_true, false_and, and_false, eq_self, ne_eq, not_false_eq_true, not_true_eq_false, and_self, *])
  refine ⟨rfl, ns, 63, rfl, by omega, by omega, fun b d M1 hb0 hd0 e1 hb => ?_⟩
  clear hb0 hd0 e1
  try (simp only [↓e_seq, ↓e_next, ↓e_break, ↓e_cont, ↓e_expr, ↓e_ret, ↓e_retN, ↓e_if, ↓e_never, ↓e_asg, ↓e_name, ↓e_agtup, ↓e_agcons, ↓e_agnil, ↓e_agsub, ↓e_aug, ↓e_dput, ↓e_var, ↓e_c, ↓e_op, ↓e_some, ↓e_none, ↓e_test, ↓e_and, ↓e_or, ↓e_not, ↓e_yes, ↓e_truth,   ↓e_tru_bl, ↓e_tru_int, ↓e_tru_non, ↓e_tru_str, ↓e_tru_tup, ↓e_tru_obj, ↓e_chain, ↓e_orV, ↓e_andV, ↓e_notV, ↓e_ifE, ↓e_neg, ↓e_nil, ↓e_cons, ↓e_tup, ↓e_lst, ↓e_dnew, ↓e_call, ↓e_cb, ↓e_isi, ↓e_sl, ↓e_onone, ↓e_osome, ↓e_rev, ↓e_lm, ↓e_append, ↓e_dictC, ↓e_any, e_anyN, e_anyC, ↓e_anyY, ↓e_any2, e_any2N, ↓e_tg, ↓e_tg2, ↓e_fld, ↓e_setF, ↓e_meth, ↓e_make, ↓e_par, ↓e_irevR1, ↓e_indexI, ↓e_extend, ↓e_pop, ↓e_join, ↓e_dget2, ↓e_sortSet, ↓e_sortS, ↓e_setd, strsOf_map, ↓e_maxI, ↓e_disp, ↓e_pairN, ↓e_pairC, intsOf_map, ↓e_for, ↓e_ilist, ↓e_itup, ↓e_rng1, ↓e_rng2, ↓e_lc, ↓e_lc2, e_lc2N, ↓e_ienum, ↓e_izip, ↓e_anyB, ↓e_allB, ↓e_mulS, blsOf_map, ↓e_set0, ↓e_sadd, ↓e_sortTx, ↓e_sortD, ↓e_repr, ↓e_extT, ↓e_sc2, ↓e_sortZ, ↓e_tupVals, ↓e_wget, ↓e_wix, ↓e_listZip, zipD_nil, zipD_cons, ↓e_dgetF, ↓e_idif, ↓e_isB, ↓e_sortI, ↓e_sortSetI, ↓e_tailR, ↓e_divmod, ↓e_strI, ↓e_lenD, ↓e_fmt, ↓e_fs2, ↓e_sortR, ↓e_sortTS, ↓e_irevT, cut_to1, cut_to3, cut_from1',    ↓e_add_int, ↓e_add_str, ↓e_add_tup, ↓e_add_obj, ↓e_iadd_int, ↓e_iadd_str, ↓e_iadd_obj, ↓e_I, ↓e_I0, ↓e_IS_int, ↓e_IS_str, ↓e_eq_str, ↓e_ne_str, ↓e_eq_int, ↓e_ne_int, ↓e_eq_bl, ↓e_ne_bl, ↓e_isN, ↓e_notN, ↓e_ix_tup, ↓e_ix_fl, ↓e_ix_str, ↓e_ix_obj, ↓e_in_tup, ↓e_nin_tup, ↓e_len_tup, ↓e_len_fl, ↓e_len_str, ↓e_len_obj, ↓e_int_int, ↓e_tuple_tup, ↓e_tuple_obj, ↓e_list_tup, ↓e_list_obj, ↓e_dget, ↓e_din, ↓e_dnin, ↓e_lstAt, ↓e_dicAt,   e_key_int, e_key_str, e_up, e_ty_str, e_ty_tup, e_ty_int, e_ty_bl, e_ty_non, atI0, atI1, atI2, atI3, atIL, ixN0, ixN1, cut_from1, e_ite_or, e_ite_and, zln, znl, zli, zil, zni, zin, sizeLine_eq, CMul, CDiv, cpow1018, true_or, or_true, kb_strstr, kb_tupstr, kb_tuptup, kb_strtup, kb_inttup, kb_bltup, kb_nontup, kb_strbl, kb_strint, kb_intbl, kb_intint, kb_blbl, kb_blint, kb_nonbl, kb_nonint, kb_nonstr, kb_intstr, kb_blstr, kb_tupbl, kb_tupint,   List.set_cons_zero, List.set_cons_succ, List.set_nil, List.getElem?_cons_zero, List.getElem?_cons_succ, List.getElem?_nil, List.length_cons, List.length_nil, List.length_map, List.length_append, e_lcN, e_lcC, e_forN, e_forC, List.getLast?_concat, List.dropLast_concat, List.nil_append, List.cons_append, List.append_nil, List.append_assoc, List.reverse_cons, List.reverse_nil, List.isEmpty_nil, List.isEmpty_cons, isEmpty_snoc, List.any_cons, List.any_nil, List.all_cons, List.all_nil, flatD, eqF, in_non, in_tup, in_str, in_int, in_bl, in_obj, in_fl, startA, List.map_cons, List.map_nil, List.replicate_succ, List.replicate_zero,   Nat.reduceAdd, Nat.reduceSub, Nat.reduceLeDiff, Nat.zero_add, Int.reduceLE, Int.reduceLT, Int.reduceToNat, Int.reducePow, Int.reduceNeg, Int.reduceAdd, Int.reduceSub,   Option.isSome_some, Option.isSome_none, Bool.not_true, Bool.not_false, Bool.not_eq_true', Bool.not_eq_eq_eq_not, Bool.not_eq_true, Bool.false_eq_true, Bool.true_eq_false, Bool.and_true, Bool.true_and, Bool.or_false, Bool.false_or, Bool.or_true, Bool.true_or, Bool.and_false, Bool.false_and, if_true, if_false, ite_true, ite_false, reduceIte, reduceCtorEq, decide_true, decide_false, decide_eq_true_eq, decide_eq_false_iff_not, true_and, and_true, false_and, and_false, eq_self, ne_eq, not_false_eq_true, not_true_eq_false, and_self, *])
  refine for_run (fun ds env M' => ∃ lo m x2 x3 x4 x5, ds = rngD lo m ∧ 0 ≤ lo ∧ lo + (m : Int) = 5 ∧ env = [some (.fl (ns.map D.int)), some (.obj b), x2, x3, x4, x5] ∧ BoxAt M' b d) (fun _ _ _ _ => trivial) ?_ ?_ ⟨0, 5, none, none, none, none, rfl, by omega, by omega, rfl, hb⟩
  · rintro env M' ⟨lo, m, x2, x3, x4, x5, _, _, _, rfl, _⟩
    try (simp only [↓e_seq, ↓e_next, ↓e_break, ↓e_cont, ↓e_expr, ↓e_ret, ↓e_retN, ↓e_if, ↓e_never, ↓e_asg, ↓e_name, ↓e_agtup, ↓e_agcons, ↓e_agnil, ↓e_agsub, ↓e_aug, ↓e_dput, ↓e_var, ↓e_c, ↓e_op, ↓e_some, ↓e_none, ↓e_test, ↓e_and, ↓e_or, ↓e_not, ↓e_yes, ↓e_truth,   ↓e_tru_bl, ↓e_tru_int, ↓e_tru_non, ↓e_tru_str, ↓e_tru_tup, ↓e_tru_obj, ↓e_chain, ↓e_orV, ↓e_andV, ↓e_notV, ↓e_ifE, ↓e_neg, ↓e_nil, ↓e_cons, ↓e_tup, ↓e_lst, ↓e_dnew, ↓e_call, ↓e_cb, ↓e_isi, ↓e_sl, ↓e_onone, ↓e_osome, ↓e_rev, ↓e_lm, ↓e_append, ↓e_dictC, ↓e_any, e_anyN, e_anyC, ↓e_anyY, ↓e_any2, e_any2N, ↓e_tg, ↓e_tg2, ↓e_fld, ↓e_setF, ↓e_meth, ↓e_make, ↓e_par, ↓e_irevR1, ↓e_indexI, ↓e_extend, ↓e_pop, ↓e_join, ↓e_dget2, ↓e_sortSet, ↓e_sortS, ↓e_setd, strsOf_map, ↓e_maxI, ↓e_disp, ↓e_pairN, ↓e_pairC, intsOf_map, ↓e_for, ↓e_ilist, ↓e_itup, ↓e_rng1, ↓e_rng2, ↓e_lc, ↓e_lc2, e_lc2N, ↓e_ienum, ↓e_izip, ↓e_anyB, ↓e_allB, ↓e_mulS, blsOf_map, ↓e_set0, ↓e_sadd, ↓e_sortTx, ↓e_sortD, ↓e_repr, ↓e_extT, ↓e_sc2, ↓e_sortZ, ↓e_tupVals, ↓e_wget, ↓e_wix, ↓e_listZip, zipD_nil, zipD_cons, ↓e_dgetF, ↓e_idif, ↓e_isB, ↓e_sortI, ↓e_sortSetI, ↓e_tailR, ↓e_divmod, ↓e_strI, ↓e_lenD, ↓e_fmt, ↓e_fs2, ↓e_sortR, ↓e_sortTS, ↓e_irevT, cut_to1, cut_to3, cut_from1',    ↓e_add_int, ↓e_add_str, ↓e_add_tup, ↓e_add_obj, ↓e_iadd_int, ↓e_iadd_str, ↓e_iadd_obj, ↓e_I, ↓e_I0, ↓e_IS_int, ↓e_IS_str, ↓e_eq_str, ↓e_ne_str, ↓e_eq_int, ↓e_ne_int, ↓e_eq_bl, ↓e_ne_bl, ↓e_isN, ↓e_notN, ↓e_ix_tup, ↓e_ix_fl, ↓e_ix_str, ↓e_ix_obj, ↓e_in_tup, ↓e_nin_tup, ↓e_len_tup, ↓e_len_fl, ↓e_len_str, ↓e_len_obj, ↓e_int_int, ↓e_tuple_tup, ↓e_tuple_obj, ↓e_list_tup, ↓e_list_obj, ↓e_dget, ↓e_din, ↓e_dnin, ↓e_lstAt, ↓e_dicAt,   e_key_int, e_key_str, e_up, e_ty_str, e_ty_tup, e_ty_int, e_ty_bl, e_ty_non, atI0, atI1, atI2, atI3, atIL, ixN0, ixN1, cut_from1, e_ite_or, e_ite_and, zln, znl, zli, zil, zni, zin, sizeLine_eq, CMul, CDiv, cpow1018, true_or, or_true, kb_strstr, kb_tupstr, kb_tuptup, kb_strtup, kb_inttup, kb_bltup, kb_nontup, kb_strbl, kb_strint, kb_intbl, kb_intint, kb_blbl, kb_blint, kb_nonbl, kb_nonint, kb_nonstr, kb_intstr, kb_blstr, kb_tupbl, kb_tupint,   List.set_cons_zero, List.set_cons_succ, List.set_nil, List.getElem?_cons_zero, List.getElem?_cons_succ, List.getElem?_nil, List.length_cons, List.length_nil, List.length_map, List.length_append, e_lcN, e_lcC, e_forN, e_forC, List.getLast?_concat, List.dropLast_concat, List.nil_append, List.cons_append, List.append_nil, List.append_assoc, List.reverse_cons, List.reverse_nil, List.isEmpty_nil, List.isEmpty_cons, isEmpty_snoc, List.any_cons, List.any_nil, List.all_cons, List.all_nil, flatD, eqF, in_non, in_tup, in_str, in_int, in_bl, in_obj, in_fl, startA, List.map_cons, List.map_nil, List.replicate_succ, List.replicate_zero,   Nat.reduceAdd, Nat.reduceSub, Nat.reduceLeDiff, Nat.zero_add, Int.reduceLE, Int.reduceLT, Int.reduceToNat, Int.reducePow, Int.reduceNeg, Int.reduceAdd, Int.reduceSub,   Option.isSome_some, Option.isSome_none, Bool.not_true, Bool.not_false, Bool.not_eq_true', Bool.not_eq_eq_eq_not, Bool.not_eq_true, Bool.false_eq_true, Bool.true_eq_false, Bool.and_true, Bool.true_and, Bool.or_false, Bool.false_or, Bool.or_true, Bool.true_or, Bool.and_false, Bool.false_and, if_true, if_false, ite_true, ite_false, reduceIte, reduceCtorEq, decide_true, decide_false, decide_eq_true_eq, decide_eq_false_iff_not, true_and, and_true, false_and, and_false, eq_self, ne_eq, not_false_eq_true, not_true_eq_false, and_self, *])
  · rintro dd r N env M' ⟨lo, m, x2, x3, x4, x5, hd, hlo, hm, rfl, hb'⟩ next
    obtain ⟨m, rfl, rfl, rfl⟩ := rngD_cons hd.symm
    clear hd
    obtain ⟨n, hn1, hn2, hget⟩ := rooms5 hlo (by omega)
    try (simp only [↓e_seq, ↓e_next, ↓e_break, ↓e_cont, ↓e_expr, ↓e_ret, ↓e_retN, ↓e_if, ↓e_never, ↓e_asg, ↓e_name, ↓e_agtup, ↓e_agcons, ↓e_agnil, ↓e_agsub, ↓e_aug, ↓e_dput, ↓e_var, ↓e_c, ↓e_op, ↓e_some, ↓e_none, ↓e_test, ↓e_and, ↓e_or, ↓e_not, ↓e_yes, ↓e_truth,   ↓e_tru_bl, ↓e_tru_int, ↓e_tru_non, ↓e_tru_str, ↓e_tru_tup, ↓e_tru_obj, ↓e_chain, ↓e_orV, ↓e_andV, ↓e_notV, ↓e_ifE, ↓e_neg, ↓e_nil, ↓e_cons, ↓e_tup, ↓e_lst, ↓e_dnew, ↓e_call, ↓e_cb, ↓e_isi, ↓e_sl, ↓e_onone, ↓e_osome, ↓e_rev, ↓e_lm, ↓e_append, ↓e_dictC, ↓e_any, e_anyN, e_anyC, ↓e_anyY, ↓e_any2, e_any2N, ↓e_tg, ↓e_tg2, ↓e_fld, ↓e_setF, ↓e_meth, ↓e_make, ↓e_par, ↓e_irevR1, ↓e_indexI, ↓e_extend, ↓e_pop, ↓e_join, ↓e_dget2, ↓e_sortSet, ↓e_sortS, ↓e_setd, strsOf_map, ↓e_maxI, ↓e_disp, ↓e_pairN, ↓e_pairC, intsOf_map, ↓e_for, ↓e_ilist, ↓e_itup, ↓e_rng1, ↓e_rng2, ↓e_lc, ↓e_lc2, e_lc2N, ↓e_ienum, ↓e_izip, ↓e_anyB, ↓e_allB, ↓e_mulS, blsOf_map, ↓e_set0, ↓e_sadd, ↓e_sortTx, ↓e_sortD, ↓e_repr, ↓e_extT, ↓e_sc2, ↓e_sortZ, ↓e_tupVals, ↓e_wget, ↓e_wix, ↓e_listZip, zipD_nil, zipD_cons, ↓e_dgetF, ↓e_idif, ↓e_isB, ↓e_sortI, ↓e_sortSetI, ↓e_tailR, ↓e_divmod, ↓e_strI, ↓e_lenD, ↓e_fmt, ↓e_fs2, ↓e_sortR, ↓e_sortTS, ↓e_irevT, cut_to1, cut_to3, cut_from1',    ↓e_add_int, ↓e_add_str, ↓e_add_tup, ↓e_add_obj, ↓e_iadd_int, ↓e_iadd_str, ↓e_iadd_obj, ↓e_I, ↓e_I0, ↓e_IS_int, ↓e_IS_str, ↓e_eq_str, ↓e_ne_str, ↓e_eq_int, ↓e_ne_int, ↓e_eq_bl, ↓e_ne_bl, ↓e_isN, ↓e_notN, ↓e_ix_tup, ↓e_ix_fl, ↓e_ix_str, ↓e_ix_obj, ↓e_in_tup, ↓e_nin_tup, ↓e_len_tup, ↓e_len_fl, ↓e_len_str, ↓e_len_obj, ↓e_int_int, ↓e_tuple_tup, ↓e_tuple_obj, ↓e_list_tup, ↓e_list_obj, ↓e_dget, ↓e_din, ↓e_dnin, ↓e_lstAt, ↓e_dicAt,   e_key_int, e_key_str, e_up, e_ty_str, e_ty_tup, e_ty_int, e_ty_bl, e_ty_non, atI0, atI1, atI2, atI3, atIL, ixN0, ixN1, cut_from1, e_ite_or, e_ite_and, zln, znl, zli, zil, zni, zin, sizeLine_eq, CMul, CDiv, cpow1018, true_or, or_true, kb_strstr, kb_tupstr, kb_tuptup, kb_strtup, kb_inttup, kb_bltup, kb_nontup, kb_strbl, kb_strint, kb_intbl, kb_intint, kb_blbl, kb_blint, kb_nonbl, kb_nonint, kb_nonstr, kb_intstr, kb_blstr, kb_tupbl, kb_tupint,   List.set_cons_zero, List.set_cons_succ, List.set_nil, List.getElem?_cons_zero, List.getElem?_cons_succ, List.getElem?_nil, List.length_cons, List.length_nil, List.length_map, List.length_append, e_lcN, e_lcC, e_forN, e_forC, List.getLast?_concat, List.dropLast_concat, List.nil_append, List.cons_append, List.append_nil, List.append_assoc, List.reverse_cons, List.reverse_nil, List.isEmpty_nil, List.isEmpty_cons, isEmpty_snoc, List.any_cons, List.any_nil, List.all_cons, List.all_nil, flatD, eqF, in_non, in_tup, in_str, in_int, in_bl, in_obj, in_fl, startA, List.map_cons, List.map_nil, List.replicate_succ, List.replicate_zero,   Nat.reduceAdd, Nat.reduceSub, Nat.reduceLeDiff, Nat.zero_add, Int.reduceLE, Int.reduceLT, Int.reduceToNat, Int.reducePow, Int.reduceNeg, Int.reduceAdd, Int.reduceSub,   Option.isSome_some, Option.isSome_none, Bool.not_true, Bool.not_false, Bool.not_eq_true', Bool.not_eq_eq_eq_not, Bool.not_eq_true, Bool.false_eq_true, Bool.true_eq_false, Bool.and_true, Bool.true_and, Bool.or_false, Bool.false_or, Bool.or_true, Bool.true_or, Bool.and_false, Bool.false_and, if_true, if_false, ite_true, ite_false, reduceIte, reduceCtorEq, decide_true, decide_false, decide_eq_true_eq, decide_eq_false_iff_not, true_and, and_true, false_and, and_false, eq_self, ne_eq, not_false_eq_true, not_true_eq_false, and_self, *])
    intro p np
    have hb2 := hb'.new (mo := .lst [.int 1, .int 3, .int 7, .int 15, .int 30]) np
    have hat : (up M' p (.lst [.int 1, .int 3, .int 7, .int 15, .int 30])) p = some (.lst [.int 1, .int 3, .int 7, .int 15, .int 30]) := up_same
    clear np
    generalize up M' p (.lst [.int 1, .int 3, .int 7, .int 15, .int 30]) = M2 at *
    try (simp only [↓e_seq, ↓e_next, ↓e_break, ↓e_cont, ↓e_expr, ↓e_ret, ↓e_retN, ↓e_if, ↓e_never, ↓e_asg, ↓e_name, ↓e_agtup, ↓e_agcons, ↓e_agnil, ↓e_agsub, ↓e_aug, ↓e_dput, ↓e_var, ↓e_c, ↓e_op, ↓e_some, ↓e_none, ↓e_test, ↓e_and, ↓e_or, ↓e_not, ↓e_yes, ↓e_truth,   ↓e_tru_bl, ↓e_tru_int, ↓e_tru_non, ↓e_tru_str, ↓e_tru_tup, ↓e_tru_obj, ↓e_chain, ↓e_orV, ↓e_andV, ↓e_notV, ↓e_ifE, ↓e_neg, ↓e_nil, ↓e_cons, ↓e_tup, ↓e_lst, ↓e_dnew, ↓e_call, ↓e_cb, ↓e_isi, ↓e_sl, ↓e_onone, ↓e_osome, ↓e_rev, ↓e_lm, ↓e_append, ↓e_dictC, ↓e_any, e_anyN, e_anyC, ↓e_anyY, ↓e_any2, e_any2N, ↓e_tg, ↓e_tg2, ↓e_fld, ↓e_setF, ↓e_meth, ↓e_make, ↓e_par, ↓e_irevR1, ↓e_indexI, ↓e_extend, ↓e_pop, ↓e_join, ↓e_dget2, ↓e_sortSet, ↓e_sortS, ↓e_setd, strsOf_map, ↓e_maxI, ↓e_disp, ↓e_pairN, ↓e_pairC, intsOf_map, ↓e_for, ↓e_ilist, ↓e_itup, ↓e_rng1, ↓e_rng2, ↓e_lc, ↓e_lc2, e_lc2N, ↓e_ienum, ↓e_izip, ↓e_anyB, ↓e_allB, ↓e_mulS, blsOf_map, ↓e_set0, ↓e_sadd, ↓e_sortTx, ↓e_sortD, ↓e_repr, ↓e_extT, ↓e_sc2, ↓e_sortZ, ↓e_tupVals, ↓e_wget, ↓e_wix, ↓e_listZip, zipD_nil, zipD_cons, ↓e_dgetF, ↓e_idif, ↓e_isB, ↓e_sortI, ↓e_sortSetI, ↓e_tailR, ↓e_divmod, ↓e_strI, ↓e_lenD, ↓e_fmt, ↓e_fs2, ↓e_sortR, ↓e_sortTS, ↓e_irevT, cut_to1, cut_to3, cut_from1',    ↓e_add_int, ↓e_add_str, ↓e_add_tup, ↓e_add_obj, ↓e_iadd_int, ↓e_iadd_str, ↓e_iadd_obj, ↓e_I, ↓e_I0, ↓e_IS_int, ↓e_IS_str, ↓e_eq_str, ↓e_ne_str, ↓e_eq_int, ↓e_ne_int, ↓e_eq_bl, ↓e_ne_bl, ↓e_isN, ↓e_notN, ↓e_ix_tup, ↓e_ix_fl, ↓e_ix_str, ↓e_ix_obj, ↓e_in_tup, ↓e_nin_tup, ↓e_len_tup, ↓e_len_fl, ↓e_len_str, ↓e_len_obj, ↓e_int_int, ↓e_tuple_tup, ↓e_tuple_obj, ↓e_list_tup, ↓e_list_obj, ↓e_dget, ↓e_din, ↓e_dnin, ↓e_lstAt, ↓e_dicAt,   e_key_int, e_key_str, e_up, e_ty_str, e_ty_tup, e_ty_int, e_ty_bl, e_ty_non, atI0, atI1, atI2, atI3, atIL, ixN0, ixN1, cut_from1, e_ite_or, e_ite_and, zln, znl, zli, zil, zni, zin, sizeLine_eq, CMul, CDiv, cpow1018, true_or, or_true, kb_strstr, kb_tupstr, kb_tuptup, kb_strtup, kb_inttup, kb_bltup, kb_nontup, kb_strbl, kb_strint, kb_intbl, kb_intint, kb_blbl, kb_blint, kb_nonbl, kb_nonint, kb_nonstr, kb_intstr, kb_blstr, kb_tupbl, kb_tupint,   List.set_cons_zero, List.set_cons_succ, List.set_nil, List.getElem?_cons_zero, List.getElem?_cons_succ, List.getElem?_nil, List.length_cons, List.length_nil, List.length_map, List.length_append, e_lcN, e_lcC, e_forN, e_forC, List.getLast?_concat, List.dropLast_concat, List.nil_append, List.cons_append, List.append_nil, List.append_assoc, List.reverse_cons, List.reverse_nil, List.isEmpty_nil, List.isEmpty_cons, isEmpty_snoc, List.any_cons, List.any_nil, List.all_cons, List.all_nil, flatD, eqF, in_non, in_tup, in_str, in_int, in_bl, in_obj, in_fl, startA, List.map_cons, List.map_nil, List.replicate_succ, List.replicate_zero,   Nat.reduceAdd, Nat.reduceSub, Nat.reduceLeDiff, Nat.zero_add, Int.reduceLE, Int.reduceLT, Int.reduceToNat, Int.reducePow, Int.reduceNeg, Int.reduceAdd, Int.reduceSub,   Option.isSome_some, Option.isSome_none, Bool.not_true, Bool.not_false, Bool.not_eq_true', Bool.not_eq_eq_eq_not, Bool.not_eq_true, Bool.false_eq_true, Bool.true_eq_false, Bool.and_true, Bool.true_and, Bool.or_false, Bool.false_or, Bool.or_true, Bool.true_or, Bool.and_false, Bool.false_and, if_true, if_false, ite_true, ite_false, reduceIte, reduceCtorEq, decide_true, decide_false, decide_eq_true_eq, decide_eq_false_iff_not, true_and, and_true, false_and, and_false, eq_self, ne_eq, not_false_eq_true, not_true_eq_false, and_self, *])
    refine ⟨rfl, b, d, n, 6, rfl, hb2, by omega, by omega, by omega, by omega, fun f M3 hf hz hb3 e3 => ?_⟩
    have hnm : f.All nameOk := Fm.All.mono (fun s h => names6_name h) hf
    have hfs : f.sz ≤ 30 := by omega
    have hdep := Fm.dep f
    have dl := drw_len f
    have lp := lens_pos dl.2
    have sl : (rowsD (drw f)).length = (drw f).length := List.length_map _
    try (simp only [↓e_seq, ↓e_next, ↓e_break, ↓e_cont, ↓e_expr, ↓e_ret, ↓e_retN, ↓e_if, ↓e_never, ↓e_asg, ↓e_name, ↓e_agtup, ↓e_agcons, ↓e_agnil, ↓e_agsub, ↓e_aug, ↓e_dput, ↓e_var, ↓e_c, ↓e_op, ↓e_some, ↓e_none, ↓e_test, ↓e_and, ↓e_or, ↓e_not, ↓e_yes, ↓e_truth,   ↓e_tru_bl, ↓e_tru_int, ↓e_tru_non, ↓e_tru_str, ↓e_tru_tup, ↓e_tru_obj, ↓e_chain, ↓e_orV, ↓e_andV, ↓e_notV, ↓e_ifE, ↓e_neg, ↓e_nil, ↓e_cons, ↓e_tup, ↓e_lst, ↓e_dnew, ↓e_call, ↓e_cb, ↓e_isi, ↓e_sl, ↓e_onone, ↓e_osome, ↓e_rev, ↓e_lm, ↓e_append, ↓e_dictC, ↓e_any, e_anyN, e_anyC, ↓e_anyY, ↓e_any2, e_any2N, ↓e_tg, ↓e_tg2, ↓e_fld, ↓e_setF, ↓e_meth, ↓e_make, ↓e_par, ↓e_irevR1, ↓e_indexI, ↓e_extend, ↓e_pop, ↓e_join, ↓e_dget2, ↓e_sortSet, ↓e_sortS, ↓e_setd, strsOf_map, ↓e_maxI, ↓e_disp, ↓e_pairN, ↓e_pairC, intsOf_map, ↓e_for, ↓e_ilist, ↓e_itup, ↓e_rng1, ↓e_rng2, ↓e_lc, ↓e_lc2, e_lc2N, ↓e_ienum, ↓e_izip, ↓e_anyB, ↓e_allB, ↓e_mulS, blsOf_map, ↓e_set0, ↓e_sadd, ↓e_sortTx, ↓e_sortD, ↓e_repr, ↓e_extT, ↓e_sc2, ↓e_sortZ, ↓e_tupVals, ↓e_wget, ↓e_wix, ↓e_listZip, zipD_nil, zipD_cons, ↓e_dgetF, ↓e_idif, ↓e_isB, ↓e_sortI, ↓e_sortSetI, ↓e_tailR, ↓e_divmod, ↓e_strI, ↓e_lenD, ↓e_fmt, ↓e_fs2, ↓e_sortR, ↓e_sortTS, ↓e_irevT, cut_to1, cut_to3, cut_from1',    ↓e_add_int, ↓e_add_str, ↓e_add_tup, ↓e_add_obj, ↓e_iadd_int, ↓e_iadd_str, ↓e_iadd_obj, ↓e_I, ↓e_I0, ↓e_IS_int, ↓e_IS_str, ↓e_eq_str, ↓e_ne_str, ↓e_eq_int, ↓e_ne_int, ↓e_eq_bl, ↓e_ne_bl, ↓e_isN, ↓e_notN, ↓e_ix_tup, ↓e_ix_fl, ↓e_ix_str, ↓e_ix_obj, ↓e_in_tup, ↓e_nin_tup, ↓e_len_tup, ↓e_len_fl, ↓e_len_str, ↓e_len_obj, ↓e_int_int, ↓e_tuple_tup, ↓e_tuple_obj, ↓e_list_tup, ↓e_list_obj, ↓e_dget, ↓e_din, ↓e_dnin, ↓e_lstAt, ↓e_dicAt,   e_key_int, e_key_str, e_up, e_ty_str, e_ty_tup, e_ty_int, e_ty_bl, e_ty_non, atI0, atI1, atI2, atI3, atIL, ixN0, ixN1, cut_from1, e_ite_or, e_ite_and, zln, znl, zli, zil, zni, zin, sizeLine_eq, CMul, CDiv, cpow1018, true_or, or_true, kb_strstr, kb_tupstr, kb_tuptup, kb_strtup, kb_inttup, kb_bltup, kb_nontup, kb_strbl, kb_strint, kb_intbl, kb_intint, kb_blbl, kb_blint, kb_nonbl, kb_nonint, kb_nonstr, kb_intstr, kb_blstr, kb_tupbl, kb_tupint,   List.set_cons_zero, List.set_cons_succ, List.set_nil, List.getElem?_cons_zero, List.getElem?_cons_succ, List.getElem?_nil, List.length_cons, List.length_nil, List.length_map, List.length_append, e_lcN, e_lcC, e_forN, e_forC, List.getLast?_concat, List.dropLast_concat, List.nil_append, List.cons_append, List.append_nil, List.append_assoc, List.reverse_cons, List.reverse_nil, List.isEmpty_nil, List.isEmpty_cons, isEmpty_snoc, List.any_cons, List.any_nil, List.all_cons, List.all_nil, flatD, eqF, in_non, in_tup, in_str, in_int, in_bl, in_obj, in_fl, startA, List.map_cons, List.map_nil, List.replicate_succ, List.replicate_zero,   Nat.reduceAdd, Nat.reduceSub, Nat.reduceLeDiff, Nat.zero_add, Int.reduceLE, Int.reduceLT, Int.reduceToNat, Int.reducePow, Int.reduceNeg, Int.reduceAdd, Int.reduceSub,   Option.isSome_some, Option.isSome_none, Bool.not_true, Bool.not_false, Bool.not_eq_true', Bool.not_eq_eq_eq_not, Bool.not_eq_true, Bool.false_eq_true, Bool.true_eq_false, Bool.and_true, Bool.true_and, Bool.or_false, Bool.false_or, Bool.or_true, Bool.true_or, Bool.and_false, Bool.false_and, if_true, if_false, ite_true, ite_false, reduceIte, reduceCtorEq, decide_true, decide_false, decide_eq_true_eq, decide_eq_false_iff_not, true_and, and_true, false_and, and_false, eq_self, ne_eq, not_false_eq_true, not_true_eq_false, and_self, *])
    refine ⟨rfl, f, rfl, hnm, hfs, by omega, fun o M4 no4 e4 h4 => ?_⟩
    have hb4 := hb3.ext e4
    try (simp only [↓e_seq, ↓e_next, ↓e_break, ↓e_cont, ↓e_expr, ↓e_ret, ↓e_retN, ↓e_if, ↓e_never, ↓e_asg, ↓e_name, ↓e_agtup, ↓e_agcons, ↓e_agnil, ↓e_agsub, ↓e_aug, ↓e_dput, ↓e_var, ↓e_c, ↓e_op, ↓e_some, ↓e_none, ↓e_test, ↓e_and, ↓e_or, ↓e_not, ↓e_yes, ↓e_truth,   ↓e_tru_bl, ↓e_tru_int, ↓e_tru_non, ↓e_tru_str, ↓e_tru_tup, ↓e_tru_obj, ↓e_chain, ↓e_orV, ↓e_andV, ↓e_notV, ↓e_ifE, ↓e_neg, ↓e_nil, ↓e_cons, ↓e_tup, ↓e_lst, ↓e_dnew, ↓e_call, ↓e_cb, ↓e_isi, ↓e_sl, ↓e_onone, ↓e_osome, ↓e_rev, ↓e_lm, ↓e_append, ↓e_dictC, ↓e_any, e_anyN, e_anyC, ↓e_anyY, ↓e_any2, e_any2N, ↓e_tg, ↓e_tg2, ↓e_fld, ↓e_setF, ↓e_meth, ↓e_make, ↓e_par, ↓e_irevR1, ↓e_indexI, ↓e_extend, ↓e_pop, ↓e_join, ↓e_dget2, ↓e_sortSet, ↓e_sortS, ↓e_setd, strsOf_map, ↓e_maxI, ↓e_disp, ↓e_pairN, ↓e_pairC, intsOf_map, ↓e_for, ↓e_ilist, ↓e_itup, ↓e_rng1, ↓e_rng2, ↓e_lc, ↓e_lc2, e_lc2N, ↓e_ienum, ↓e_izip, ↓e_anyB, ↓e_allB, ↓e_mulS, blsOf_map, ↓e_set0, ↓e_sadd, ↓e_sortTx, ↓e_sortD, ↓e_repr, ↓e_extT, ↓e_sc2, ↓e_sortZ, ↓e_tupVals, ↓e_wget, ↓e_wix, ↓e_listZip, zipD_nil, zipD_cons, ↓e_dgetF, ↓e_idif, ↓e_isB, ↓e_sortI, ↓e_sortSetI, ↓e_tailR, ↓e_divmod, ↓e_strI, ↓e_lenD, ↓e_fmt, ↓e_fs2, ↓e_sortR, ↓e_sortTS, ↓e_irevT, cut_to1, cut_to3, cut_from1',    ↓e_add_int, ↓e_add_str, ↓e_add_tup, ↓e_add_obj, ↓e_iadd_int, ↓e_iadd_str, ↓e_iadd_obj, ↓e_I, ↓e_I0, ↓e_IS_int, ↓e_IS_str, ↓e_eq_str, ↓e_ne_str, ↓e_eq_int, ↓e_ne_int, ↓e_eq_bl, ↓e_ne_bl, ↓e_isN, ↓e_notN, ↓e_ix_tup, ↓e_ix_fl, ↓e_ix_str, ↓e_ix_obj, ↓e_in_tup, ↓e_nin_tup, ↓e_len_tup, ↓e_len_fl, ↓e_len_str, ↓e_len_obj, ↓e_int_int, ↓e_tuple_tup, ↓e_tuple_obj, ↓e_list_tup, ↓e_list_obj, ↓e_dget, ↓e_din, ↓e_dnin, ↓e_lstAt, ↓e_dicAt,   e_key_int, e_key_str, e_up, e_ty_str, e_ty_tup, e_ty_int, e_ty_bl, e_ty_non, atI0, atI1, atI2, atI3, atIL, ixN0, ixN1, cut_from1, e_ite_or, e_ite_and, zln, znl, zli, zil, zni, zin, sizeLine_eq, CMul, CDiv, cpow1018, true_or, or_true, kb_strstr, kb_tupstr, kb_tuptup, kb_strtup, kb_inttup, kb_bltup, kb_nontup, kb_strbl, kb_strint, kb_intbl, kb_intint, kb_blbl, kb_blint, kb_nonbl, kb_nonint, kb_nonstr, kb_intstr, kb_blstr, kb_tupbl, kb_tupint,   List.set_cons_zero, List.set_cons_succ, List.set_nil, List.getElem?_cons_zero, List.getElem?_cons_succ, List.getElem?_nil, List.length_cons, List.length_nil, List.length_map, List.length_append, e_lcN, e_lcC, e_forN, e_forC, List.getLast?_concat, List.dropLast_concat, List.nil_append, List.cons_append, List.append_nil, List.append_assoc, List.reverse_cons, List.reverse_nil, List.isEmpty_nil, List.isEmpty_cons, isEmpty_snoc, List.any_cons, List.any_nil, List.all_cons, List.all_nil, flatD, eqF, in_non, in_tup, in_str, in_int, in_bl, in_obj, in_fl, startA, List.map_cons, List.map_nil, List.replicate_succ, List.replicate_zero,   Nat.reduceAdd, Nat.reduceSub, Nat.reduceLeDiff, Nat.zero_add, Int.reduceLE, Int.reduceLT, Int.reduceToNat, Int.reducePow, Int.reduceNeg, Int.reduceAdd, Int.reduceSub,   Option.isSome_some, Option.isSome_none, Bool.not_true, Bool.not_false, Bool.not_eq_true', Bool.not_eq_eq_eq_not, Bool.not_eq_true, Bool.false_eq_true, Bool.true_eq_false, Bool.and_true, Bool.true_and, Bool.or_false, Bool.false_or, Bool.or_true, Bool.true_or, Bool.and_false, Bool.false_and, if_true, if_false, ite_true, ite_false, reduceIte, reduceCtorEq, decide_true, decide_false, decide_eq_true_eq, decide_eq_false_iff_not, true_and, and_true, false_and, and_false, eq_self, ne_eq, not_false_eq_true, not_true_eq_false, and_self, *])
    refine ⟨rfl, f, rfl, hnm, hfs, by omega, ?_⟩
    try (simp only [↓e_seq, ↓e_next, ↓e_break, ↓e_cont, ↓e_expr, ↓e_ret, ↓e_retN, ↓e_if, ↓e_never, ↓e_asg, ↓e_name, ↓e_agtup, ↓e_agcons, ↓e_agnil, ↓e_agsub, ↓e_aug, ↓e_dput, ↓e_var, ↓e_c, ↓e_op, ↓e_some, ↓e_none, ↓e_test, ↓e_and, ↓e_or, ↓e_not, ↓e_yes, ↓e_truth,   ↓e_tru_bl, ↓e_tru_int, ↓e_tru_non, ↓e_tru_str, ↓e_tru_tup, ↓e_tru_obj, ↓e_chain, ↓e_orV, ↓e_andV, ↓e_notV, ↓e_ifE, ↓e_neg, ↓e_nil, ↓e_cons, ↓e_tup, ↓e_lst, ↓e_dnew, ↓e_call, ↓e_cb, ↓e_isi, ↓e_sl, ↓e_onone, ↓e_osome, ↓e_rev, ↓e_lm, ↓e_append, ↓e_dictC, ↓e_any, e_anyN, e_anyC, ↓e_anyY, ↓e_any2, e_any2N, ↓e_tg, ↓e_tg2, ↓e_fld, ↓e_setF, ↓e_meth, ↓e_make, ↓e_par, ↓e_irevR1, ↓e_indexI, ↓e_extend, ↓e_pop, ↓e_join, ↓e_dget2, ↓e_sortSet, ↓e_sortS, ↓e_setd, strsOf_map, ↓e_maxI, ↓e_disp, ↓e_pairN, ↓e_pairC, intsOf_map, ↓e_for, ↓e_ilist, ↓e_itup, ↓e_rng1, ↓e_rng2, ↓e_lc, ↓e_lc2, e_lc2N, ↓e_ienum, ↓e_izip, ↓e_anyB, ↓e_allB, ↓e_mulS, blsOf_map, ↓e_set0, ↓e_sadd, ↓e_sortTx, ↓e_sortD, ↓e_repr, ↓e_extT, ↓e_sc2, ↓e_sortZ, ↓e_tupVals, ↓e_wget, ↓e_wix, ↓e_listZip, zipD_nil, zipD_cons, ↓e_dgetF, ↓e_idif, ↓e_isB, ↓e_sortI, ↓e_sortSetI, ↓e_tailR, ↓e_divmod, ↓e_strI, ↓e_lenD, ↓e_fmt, ↓e_fs2, ↓e_sortR, ↓e_sortTS, ↓e_irevT, cut_to1, cut_to3, cut_from1',    ↓e_add_int, ↓e_add_str, ↓e_add_tup, ↓e_add_obj, ↓e_iadd_int, ↓e_iadd_str, ↓e_iadd_obj, ↓e_I, ↓e_I0, ↓e_IS_int, ↓e_IS_str, ↓e_eq_str, ↓e_ne_str, ↓e_eq_int, ↓e_ne_int, ↓e_eq_bl, ↓e_ne_bl, ↓e_isN, ↓e_notN, ↓e_ix_tup, ↓e_ix_fl, ↓e_ix_str, ↓e_ix_obj, ↓e_in_tup, ↓e_nin_tup, ↓e_len_tup, ↓e_len_fl, ↓e_len_str, ↓e_len_obj, ↓e_int_int, ↓e_tuple_tup, ↓e_tuple_obj, ↓e_list_tup, ↓e_list_obj, ↓e_dget, ↓e_din, ↓e_dnin, ↓e_lstAt, ↓e_dicAt,   e_key_int, e_key_str, e_up, e_ty_str, e_ty_tup, e_ty_int, e_ty_bl, e_ty_non, atI0, atI1, atI2, atI3, atIL, ixN0, ixN1, cut_from1, e_ite_or, e_ite_and, zln, znl, zli, zil, zni, zin, sizeLine_eq, CMul, CDiv, cpow1018, true_or, or_true, kb_strstr, kb_tupstr, kb_tuptup, kb_strtup, kb_inttup, kb_bltup, kb_nontup, kb_strbl, kb_strint, kb_intbl, kb_intint, kb_blbl, kb_blint, kb_nonbl, kb_nonint, kb_nonstr, kb_intstr, kb_blstr, kb_tupbl, kb_tupint,   List.set_cons_zero, List.set_cons_succ, List.set_nil, List.getElem?_cons_zero, List.getElem?_cons_succ, List.getElem?_nil, List.length_cons, List.length_nil, List.length_map, List.length_append, e_lcN, e_lcC, e_forN, e_forC, List.getLast?_concat, List.dropLast_concat, List.nil_append, List.cons_append, List.append_nil, List.append_assoc, List.reverse_cons, List.reverse_nil, List.isEmpty_nil, List.isEmpty_cons, isEmpty_snoc, List.any_cons, List.any_nil, List.all_cons, List.all_nil, flatD, eqF, in_non, in_tup, in_str, in_int, in_bl, in_obj, in_fl, startA, List.map_cons, List.map_nil, List.replicate_succ, List.replicate_zero,   Nat.reduceAdd, Nat.reduceSub, Nat.reduceLeDiff, Nat.zero_add, Int.reduceLE, Int.reduceLT, Int.reduceToNat, Int.reducePow, Int.reduceNeg, Int.reduceAdd, Int.reduceSub,   Option.isSome_some, Option.isSome_none, Bool.not_true, Bool.not_false, Bool.not_eq_true', Bool.not_eq_eq_eq_not, Bool.not_eq_true, Bool.false_eq_true, Bool.true_eq_false, Bool.and_true, Bool.true_and, Bool.or_false, Bool.false_or, Bool.or_true, Bool.true_or, Bool.and_false, Bool.false_and, if_true, if_false, ite_true, ite_false, reduceIte, reduceCtorEq, decide_true, decide_false, decide_eq_true_eq, decide_eq_false_iff_not, true_and, and_true, false_and, and_false, eq_self, ne_eq, not_false_eq_true, not_true_eq_false, and_self, *])
    refine ⟨rfl, _, rfl, rows_plain _ (by omega), by have := rows_dep (drw f); omega, ?_⟩
    try (simp only [↓e_seq, ↓e_next, ↓e_break, ↓e_cont, ↓e_expr, ↓e_ret, ↓e_retN, ↓e_if, ↓e_never, ↓e_asg, ↓e_name, ↓e_agtup, ↓e_agcons, ↓e_agnil, ↓e_agsub, ↓e_aug, ↓e_dput, ↓e_var, ↓e_c, ↓e_op, ↓e_some, ↓e_none, ↓e_test, ↓e_and, ↓e_or, ↓e_not, ↓e_yes, ↓e_truth,   ↓e_tru_bl, ↓e_tru_int, ↓e_tru_non, ↓e_tru_str, ↓e_tru_tup, ↓e_tru_obj, ↓e_chain, ↓e_orV, ↓e_andV, ↓e_notV, ↓e_ifE, ↓e_neg, ↓e_nil, ↓e_cons, ↓e_tup, ↓e_lst, ↓e_dnew, ↓e_call, ↓e_cb, ↓e_isi, ↓e_sl, ↓e_onone, ↓e_osome, ↓e_rev, ↓e_lm, ↓e_append, ↓e_dictC, ↓e_any, e_anyN, e_anyC, ↓e_anyY, ↓e_any2, e_any2N, ↓e_tg, ↓e_tg2, ↓e_fld, ↓e_setF, ↓e_meth, ↓e_make, ↓e_par, ↓e_irevR1, ↓e_indexI, ↓e_extend, ↓e_pop, ↓e_join, ↓e_dget2, ↓e_sortSet, ↓e_sortS, ↓e_setd, strsOf_map, ↓e_maxI, ↓e_disp, ↓e_pairN, ↓e_pairC, intsOf_map, ↓e_for, ↓e_ilist, ↓e_itup, ↓e_rng1, ↓e_rng2, ↓e_lc, ↓e_lc2, e_lc2N, ↓e_ienum, ↓e_izip, ↓e_anyB, ↓e_allB, ↓e_mulS, blsOf_map, ↓e_set0, ↓e_sadd, ↓e_sortTx, ↓e_sortD, ↓e_repr, ↓e_extT, ↓e_sc2, ↓e_sortZ, ↓e_tupVals, ↓e_wget, ↓e_wix, ↓e_listZip, zipD_nil, zipD_cons, ↓e_dgetF, ↓e_idif, ↓e_isB, ↓e_sortI, ↓e_sortSetI, ↓e_tailR, ↓e_divmod, ↓e_strI, ↓e_lenD, ↓e_fmt, ↓e_fs2, ↓e_sortR, ↓e_sortTS, ↓e_irevT, cut_to1, cut_to3, cut_from1',    ↓e_add_int, ↓e_add_str, ↓e_add_tup, ↓e_add_obj, ↓e_iadd_int, ↓e_iadd_str, ↓e_iadd_obj, ↓e_I, ↓e_I0, ↓e_IS_int, ↓e_IS_str, ↓e_eq_str, ↓e_ne_str, ↓e_eq_int, ↓e_ne_int, ↓e_eq_bl, ↓e_ne_bl, ↓e_isN, ↓e_notN, ↓e_ix_tup, ↓e_ix_fl, ↓e_ix_str, ↓e_ix_obj, ↓e_in_tup, ↓e_nin_tup, ↓e_len_tup, ↓e_len_fl, ↓e_len_str, ↓e_len_obj, ↓e_int_int, ↓e_tuple_tup, ↓e_tuple_obj, ↓e_list_tup, ↓e_list_obj, ↓e_dget, ↓e_din, ↓e_dnin, ↓e_lstAt, ↓e_dicAt,   e_key_int, e_key_str, e_up, e_ty_str, e_ty_tup, e_ty_int, e_ty_bl, e_ty_non, atI0, atI1, atI2, atI3, atIL, ixN0, ixN1, cut_from1, e_ite_or, e_ite_and, zln, znl, zli, zil, zni, zin, sizeLine_eq, CMul, CDiv, cpow1018, true_or, or_true, kb_strstr, kb_tupstr, kb_tuptup, kb_strtup, kb_inttup, kb_bltup, kb_nontup, kb_strbl, kb_strint, kb_intbl, kb_intint, kb_blbl, kb_blint, kb_nonbl, kb_nonint, kb_nonstr, kb_intstr, kb_blstr, kb_tupbl, kb_tupint,   List.set_cons_zero, List.set_cons_succ, List.set_nil, List.getElem?_cons_zero, List.getElem?_cons_succ, List.getElem?_nil, List.length_cons, List.length_nil, List.length_map, List.length_append, e_lcN, e_lcC, e_forN, e_forC, List.getLast?_concat, List.dropLast_concat, List.nil_append, List.cons_append, List.append_nil, List.append_assoc, List.reverse_cons, List.reverse_nil, List.isEmpty_nil, List.isEmpty_cons, isEmpty_snoc, List.any_cons, List.any_nil, List.all_cons, List.all_nil, flatD, eqF, in_non, in_tup, in_str, in_int, in_bl, in_obj, in_fl, startA, List.map_cons, List.map_nil, List.replicate_succ, List.replicate_zero,   Nat.reduceAdd, Nat.reduceSub, Nat.reduceLeDiff, Nat.zero_add, Int.reduceLE, Int.reduceLT, Int.reduceToNat, Int.reducePow, Int.reduceNeg, Int.reduceAdd, Int.reduceSub,   Option.isSome_some, Option.isSome_none, Bool.not_true, Bool.not_false, Bool.not_eq_true', Bool.not_eq_eq_eq_not, Bool.not_eq_true, Bool.false_eq_true, Bool.true_eq_false, Bool.and_true, Bool.true_and, Bool.or_false, Bool.false_or, Bool.or_true, Bool.true_or, Bool.and_false, Bool.false_and, if_true, if_false, ite_true, ite_false, reduceIte, reduceCtorEq, decide_true, decide_false, decide_eq_true_eq, decide_eq_false_iff_not, true_and, and_true, false_and, and_false, eq_self, ne_eq, not_false_eq_true, not_true_eq_false, and_self, *])
    refine ⟨rfl, drw f, f, rfl, (drw_reads f hnm).read, (fun r hr => by have := drw_wide f hnm r hr; omega), fun M5 e5 => ?_⟩
    have hb5 := hb4.ext e5
    try (simp only [↓e_seq, ↓e_next, ↓e_break, ↓e_cont, ↓e_expr, ↓e_ret, ↓e_retN, ↓e_if, ↓e_never, ↓e_asg, ↓e_name, ↓e_agtup, ↓e_agcons, ↓e_agnil, ↓e_agsub, ↓e_aug, ↓e_dput, ↓e_var, ↓e_c, ↓e_op, ↓e_some, ↓e_none, ↓e_test, ↓e_and, ↓e_or, ↓e_not, ↓e_yes, ↓e_truth,   ↓e_tru_bl, ↓e_tru_int, ↓e_tru_non, ↓e_tru_str, ↓e_tru_tup, ↓e_tru_obj, ↓e_chain, ↓e_orV, ↓e_andV, ↓e_notV, ↓e_ifE, ↓e_neg, ↓e_nil, ↓e_cons, ↓e_tup, ↓e_lst, ↓e_dnew, ↓e_call, ↓e_cb, ↓e_isi, ↓e_sl, ↓e_onone, ↓e_osome, ↓e_rev, ↓e_lm, ↓e_append, ↓e_dictC, ↓e_any, e_anyN, e_anyC, ↓e_anyY, ↓e_any2, e_any2N, ↓e_tg, ↓e_tg2, ↓e_fld, ↓e_setF, ↓e_meth, ↓e_make, ↓e_par, ↓e_irevR1, ↓e_indexI, ↓e_extend, ↓e_pop, ↓e_join, ↓e_dget2, ↓e_sortSet, ↓e_sortS, ↓e_setd, strsOf_map, ↓e_maxI, ↓e_disp, ↓e_pairN, ↓e_pairC, intsOf_map, ↓e_for, ↓e_ilist, ↓e_itup, ↓e_rng1, ↓e_rng2, ↓e_lc, ↓e_lc2, e_lc2N, ↓e_ienum, ↓e_izip, ↓e_anyB, ↓e_allB, ↓e_mulS, blsOf_map, ↓e_set0, ↓e_sadd, ↓e_sortTx, ↓e_sortD, ↓e_repr, ↓e_extT, ↓e_sc2, ↓e_sortZ, ↓e_tupVals, ↓e_wget, ↓e_wix, ↓e_listZip, zipD_nil, zipD_cons, ↓e_dgetF, ↓e_idif, ↓e_isB, ↓e_sortI, ↓e_sortSetI, ↓e_tailR, ↓e_divmod, ↓e_strI, ↓e_lenD, ↓e_fmt, ↓e_fs2, ↓e_sortR, ↓e_sortTS, ↓e_irevT, cut_to1, cut_to3, cut_from1',    ↓e_add_int, ↓e_add_str, ↓e_add_tup, ↓e_add_obj, ↓e_iadd_int, ↓e_iadd_str, ↓e_iadd_obj, ↓e_I, ↓e_I0, ↓e_IS_int, ↓e_IS_str, ↓e_eq_str, ↓e_ne_str, ↓e_eq_int, ↓e_ne_int, ↓e_eq_bl, ↓e_ne_bl, ↓e_isN, ↓e_notN, ↓e_ix_tup, ↓e_ix_fl, ↓e_ix_str, ↓e_ix_obj, ↓e_in_tup, ↓e_nin_tup, ↓e_len_tup, ↓e_len_fl, ↓e_len_str, ↓e_len_obj, ↓e_int_int, ↓e_tuple_tup, ↓e_tuple_obj, ↓e_list_tup, ↓e_list_obj, ↓e_dget, ↓e_din, ↓e_dnin, ↓e_lstAt, ↓e_dicAt,   e_key_int, e_key_str, e_up, e_ty_str, e_ty_tup, e_ty_int, e_ty_bl, e_ty_non, atI0, atI1, atI2, atI3, atIL, ixN0, ixN1, cut_from1, e_ite_or, e_ite_and, zln, znl, zli, zil, zni, zin, sizeLine_eq, CMul, CDiv, cpow1018, true_or, or_true, kb_strstr, kb_tupstr, kb_tuptup, kb_strtup, kb_inttup, kb_bltup, kb_nontup, kb_strbl, kb_strint, kb_intbl, kb_intint, kb_blbl, kb_blint, kb_nonbl, kb_nonint, kb_nonstr, kb_intstr, kb_blstr, kb_tupbl, kb_tupint,   List.set_cons_zero, List.set_cons_succ, List.set_nil, List.getElem?_cons_zero, List.getElem?_cons_succ, List.getElem?_nil, List.length_cons, List.length_nil, List.length_map, List.length_append, e_lcN, e_lcC, e_forN, e_forC, List.getLast?_concat, List.dropLast_concat, List.nil_append, List.cons_append, List.append_nil, List.append_assoc, List.reverse_cons, List.reverse_nil, List.isEmpty_nil, List.isEmpty_cons, isEmpty_snoc, List.any_cons, List.any_nil, List.all_cons, List.all_nil, flatD, eqF, in_non, in_tup, in_str, in_int, in_bl, in_obj, in_fl, startA, List.map_cons, List.map_nil, List.replicate_succ, List.replicate_zero,   Nat.reduceAdd, Nat.reduceSub, Nat.reduceLeDiff, Nat.zero_add, Int.reduceLE, Int.reduceLT, Int.reduceToNat, Int.reducePow, Int.reduceNeg, Int.reduceAdd, Int.reduceSub,   Option.isSome_some, Option.isSome_none, Bool.not_true, Bool.not_false, Bool.not_eq_true', Bool.not_eq_eq_eq_not, Bool.not_eq_true, Bool.false_eq_true, Bool.true_eq_false, Bool.and_true, Bool.true_and, Bool.or_false, Bool.false_or, Bool.or_true, Bool.true_or, Bool.and_false, Bool.false_and, if_true, if_false, ite_true, ite_false, reduceIte, reduceCtorEq, decide_true, decide_false, decide_eq_true_eq, decide_eq_false_iff_not, true_and, and_true, false_and, and_false, eq_self, ne_eq, not_false_eq_true, not_true_eq_false, and_self, *])
    refine ⟨rfl, _, rfl, Fm.plain f, by omega, ?_⟩
    try (simp only [↓e_seq, ↓e_next, ↓e_break, ↓e_cont, ↓e_expr, ↓e_ret, ↓e_retN, ↓e_if, ↓e_never, ↓e_asg, ↓e_name, ↓e_agtup, ↓e_agcons, ↓e_agnil, ↓e_agsub, ↓e_aug, ↓e_dput, ↓e_var, ↓e_c, ↓e_op, ↓e_some, ↓e_none, ↓e_test, ↓e_and, ↓e_or, ↓e_not, ↓e_yes, ↓e_truth,   ↓e_tru_bl, ↓e_tru_int, ↓e_tru_non, ↓e_tru_str, ↓e_tru_tup, ↓e_tru_obj, ↓e_chain, ↓e_orV, ↓e_andV, ↓e_notV, ↓e_ifE, ↓e_neg, ↓e_nil, ↓e_cons, ↓e_tup, ↓e_lst, ↓e_dnew, ↓e_call, ↓e_cb, ↓e_isi, ↓e_sl, ↓e_onone, ↓e_osome, ↓e_rev, ↓e_lm, ↓e_append, ↓e_dictC, ↓e_any, e_anyN, e_anyC, ↓e_anyY, ↓e_any2, e_any2N, ↓e_tg, ↓e_tg2, ↓e_fld, ↓e_setF, ↓e_meth, ↓e_make, ↓e_par, ↓e_irevR1, ↓e_indexI, ↓e_extend, ↓e_pop, ↓e_join, ↓e_dget2, ↓e_sortSet, ↓e_sortS, ↓e_setd, strsOf_map, ↓e_maxI, ↓e_disp, ↓e_pairN, ↓e_pairC, intsOf_map, ↓e_for, ↓e_ilist, ↓e_itup, ↓e_rng1, ↓e_rng2, ↓e_lc, ↓e_lc2, e_lc2N, ↓e_ienum, ↓e_izip, ↓e_anyB, ↓e_allB, ↓e_mulS, blsOf_map, ↓e_set0, ↓e_sadd, ↓e_sortTx, ↓e_sortD, ↓e_repr, ↓e_extT, ↓e_sc2, ↓e_sortZ, ↓e_tupVals, ↓e_wget, ↓e_wix, ↓e_listZip, zipD_nil, zipD_cons, ↓e_dgetF, ↓e_idif, ↓e_isB, ↓e_sortI, ↓e_sortSetI, ↓e_tailR, ↓e_divmod, ↓e_strI, ↓e_lenD, ↓e_fmt, ↓e_fs2, ↓e_sortR, ↓e_sortTS, ↓e_irevT, cut_to1, cut_to3, cut_from1',    ↓e_add_int, ↓e_add_str, ↓e_add_tup, ↓e_add_obj, ↓e_iadd_int, ↓e_iadd_str, ↓e_iadd_obj, ↓e_I, ↓e_I0, ↓e_IS_int, ↓e_IS_str, ↓e_eq_str, ↓e_ne_str, ↓e_eq_int, ↓e_ne_int, ↓e_eq_bl, ↓e_ne_bl, ↓e_isN, ↓e_notN, ↓e_ix_tup, ↓e_ix_fl, ↓e_ix_str, ↓e_ix_obj, ↓e_in_tup, ↓e_nin_tup, ↓e_len_tup, ↓e_len_fl, ↓e_len_str, ↓e_len_obj, ↓e_int_int, ↓e_tuple_tup, ↓e_tuple_obj, ↓e_list_tup, ↓e_list_obj, ↓e_dget, ↓e_din, ↓e_dnin, ↓e_lstAt, ↓e_dicAt,   e_key_int, e_key_str, e_up, e_ty_str, e_ty_tup, e_ty_int, e_ty_bl, e_ty_non, atI0, atI1, atI2, atI3, atIL, ixN0, ixN1, cut_from1, e_ite_or, e_ite_and, zln, znl, zli, zil, zni, zin, sizeLine_eq, CMul, CDiv, cpow1018, true_or, or_true, kb_strstr, kb_tupstr, kb_tuptup, kb_strtup, kb_inttup, kb_bltup, kb_nontup, kb_strbl, kb_strint, kb_intbl, kb_intint, kb_blbl, kb_blint, kb_nonbl, kb_nonint, kb_nonstr, kb_intstr, kb_blstr, kb_tupbl, kb_tupint,   List.set_cons_zero, List.set_cons_succ, List.set_nil, List.getElem?_cons_zero, List.getElem?_cons_succ, List.getElem?_nil, List.length_cons, List.length_nil, List.length_map, List.length_append, e_lcN, e_lcC, e_forN, e_forC, List.getLast?_concat, List.dropLast_concat, List.nil_append, List.cons_append, List.append_nil, List.append_assoc, List.reverse_cons, List.reverse_nil, List.isEmpty_nil, List.isEmpty_cons, isEmpty_snoc, List.any_cons, List.any_nil, List.all_cons, List.all_nil, flatD, eqF, in_non, in_tup, in_str, in_int, in_bl, in_obj, in_fl, startA, List.map_cons, List.map_nil, List.replicate_succ, List.replicate_zero,   Nat.reduceAdd, Nat.reduceSub, Nat.reduceLeDiff, Nat.zero_add, Int.reduceLE, Int.reduceLT, Int.reduceToNat, Int.reducePow, Int.reduceNeg, Int.reduceAdd, Int.reduceSub,   Option.isSome_some, Option.isSome_none, Bool.not_true, Bool.not_false, Bool.not_eq_true', Bool.not_eq_eq_eq_not, Bool.not_eq_true, Bool.false_eq_true, Bool.true_eq_false, Bool.and_true, Bool.true_and, Bool.or_false, Bool.false_or, Bool.or_true, Bool.true_or, Bool.and_false, Bool.false_and, if_true, if_false, ite_true, ite_false, reduceIte, reduceCtorEq, decide_true, decide_false, decide_eq_true_eq, decide_eq_false_iff_not, true_and, and_true, false_and, and_false, eq_self, ne_eq, not_false_eq_true, not_true_eq_false, and_self, *])
    refine ⟨rfl, f, rfl, hnm, hfs, by omega, ?_⟩
    try (simp only [↓e_seq, ↓e_next, ↓e_break, ↓e_cont, ↓e_expr, ↓e_ret, ↓e_retN, ↓e_if, ↓e_never, ↓e_asg, ↓e_name, ↓e_agtup, ↓e_agcons, ↓e_agnil, ↓e_agsub, ↓e_aug, ↓e_dput, ↓e_var, ↓e_c, ↓e_op, ↓e_some, ↓e_none, ↓e_test, ↓e_and, ↓e_or, ↓e_not, ↓e_yes, ↓e_truth,   ↓e_tru_bl, ↓e_tru_int, ↓e_tru_non, ↓e_tru_str, ↓e_tru_tup, ↓e_tru_obj, ↓e_chain, ↓e_orV, ↓e_andV, ↓e_notV, ↓e_ifE, ↓e_neg, ↓e_nil, ↓e_cons, ↓e_tup, ↓e_lst, ↓e_dnew, ↓e_call, ↓e_cb, ↓e_isi, ↓e_sl, ↓e_onone, ↓e_osome, ↓e_rev, ↓e_lm, ↓e_append, ↓e_dictC, ↓e_any, e_anyN, e_anyC, ↓e_anyY, ↓e_any2, e_any2N, ↓e_tg, ↓e_tg2, ↓e_fld, ↓e_setF, ↓e_meth, ↓e_make, ↓e_par, ↓e_irevR1, ↓e_indexI, ↓e_extend, ↓e_pop, ↓e_join, ↓e_dget2, ↓e_sortSet, ↓e_sortS, ↓e_setd, strsOf_map, ↓e_maxI, ↓e_disp, ↓e_pairN, ↓e_pairC, intsOf_map, ↓e_for, ↓e_ilist, ↓e_itup, ↓e_rng1, ↓e_rng2, ↓e_lc, ↓e_lc2, e_lc2N, ↓e_ienum, ↓e_izip, ↓e_anyB, ↓e_allB, ↓e_mulS, blsOf_map, ↓e_set0, ↓e_sadd, ↓e_sortTx, ↓e_sortD, ↓e_repr, ↓e_extT, ↓e_sc2, ↓e_sortZ, ↓e_tupVals, ↓e_wget, ↓e_wix, ↓e_listZip, zipD_nil, zipD_cons, ↓e_dgetF, ↓e_idif, ↓e_isB, ↓e_sortI, ↓e_sortSetI, ↓e_tailR, ↓e_divmod, ↓e_strI, ↓e_lenD, ↓e_fmt, ↓e_fs2, ↓e_sortR, ↓e_sortTS, ↓e_irevT, cut_to1, cut_to3, cut_from1',    ↓e_add_int, ↓e_add_str, ↓e_add_tup, ↓e_add_obj, ↓e_iadd_int, ↓e_iadd_str, ↓e_iadd_obj, ↓e_I, ↓e_I0, ↓e_IS_int, ↓e_IS_str, ↓e_eq_str, ↓e_ne_str, ↓e_eq_int, ↓e_ne_int, ↓e_eq_bl, ↓e_ne_bl, ↓e_isN, ↓e_notN, ↓e_ix_tup, ↓e_ix_fl, ↓e_ix_str, ↓e_ix_obj, ↓e_in_tup, ↓e_nin_tup, ↓e_len_tup, ↓e_len_fl, ↓e_len_str, ↓e_len_obj, ↓e_int_int, ↓e_tuple_tup, ↓e_tuple_obj, ↓e_list_tup, ↓e_list_obj, ↓e_dget, ↓e_din, ↓e_dnin, ↓e_lstAt, ↓e_dicAt,   e_key_int, e_key_str, e_up, e_ty_str, e_ty_tup, e_ty_int, e_ty_bl, e_ty_non, atI0, atI1, atI2, atI3, atIL, ixN0, ixN1, cut_from1, e_ite_or, e_ite_and, zln, znl, zli, zil, zni, zin, sizeLine_eq, CMul, CDiv, cpow1018, true_or, or_true, kb_strstr, kb_tupstr, kb_tuptup, kb_strtup, kb_inttup, kb_bltup, kb_nontup, kb_strbl, kb_strint, kb_intbl, kb_intint, kb_blbl, kb_blint, kb_nonbl, kb_nonint, kb_nonstr, kb_intstr, kb_blstr, kb_tupbl, kb_tupint,   List.set_cons_zero, List.set_cons_succ, List.set_nil, List.getElem?_cons_zero, List.getElem?_cons_succ, List.getElem?_nil, List.length_cons, List.length_nil, List.length_map, List.length_append, e_lcN, e_lcC, e_forN, e_forC, List.getLast?_concat, List.dropLast_concat, List.nil_append, List.cons_append, List.append_nil, List.append_assoc, List.reverse_cons, List.reverse_nil, List.isEmpty_nil, List.isEmpty_cons, isEmpty_snoc, List.any_cons, List.any_nil, List.all_cons, List.all_nil, flatD, eqF, in_non, in_tup, in_str, in_int, in_bl, in_obj, in_fl, startA, List.map_cons, List.map_nil, List.replicate_succ, List.replicate_zero,   Nat.reduceAdd, Nat.reduceSub, Nat.reduceLeDiff, Nat.zero_add, Int.reduceLE, Int.reduceLT, Int.reduceToNat, Int.reducePow, Int.reduceNeg, Int.reduceAdd, Int.reduceSub,   Option.isSome_some, Option.isSome_none, Bool.not_true, Bool.not_false, Bool.not_eq_true', Bool.not_eq_eq_eq_not, Bool.not_eq_true, Bool.false_eq_true, Bool.true_eq_false, Bool.and_true, Bool.true_and, Bool.or_false, Bool.false_or, Bool.or_true, Bool.true_or, Bool.and_false, Bool.false_and, if_true, if_false, ite_true, ite_false, reduceIte, reduceCtorEq, decide_true, decide_false, decide_eq_true_eq, decide_eq_false_iff_not, true_and, and_true, false_and, and_false, eq_self, ne_eq, not_false_eq_true, not_true_eq_false, and_self, *])
    refine ⟨rfl, .int ((drw f).length : Nat), rfl, trivial, by show 0 < 50; omega, ?_⟩
    try (simp only [↓e_seq, ↓e_next, ↓e_break, ↓e_cont, ↓e_expr, ↓e_ret, ↓e_retN, ↓e_if, ↓e_never, ↓e_asg, ↓e_name, ↓e_agtup, ↓e_agcons, ↓e_agnil, ↓e_agsub, ↓e_aug, ↓e_dput, ↓e_var, ↓e_c, ↓e_op, ↓e_some, ↓e_none, ↓e_test, ↓e_and, ↓e_or, ↓e_not, ↓e_yes, ↓e_truth,   ↓e_tru_bl, ↓e_tru_int, ↓e_tru_non, ↓e_tru_str, ↓e_tru_tup, ↓e_tru_obj, ↓e_chain, ↓e_orV, ↓e_andV, ↓e_notV, ↓e_ifE, ↓e_neg, ↓e_nil, ↓e_cons, ↓e_tup, ↓e_lst, ↓e_dnew, ↓e_call, ↓e_cb, ↓e_isi, ↓e_sl, ↓e_onone, ↓e_osome, ↓e_rev, ↓e_lm, ↓e_append, ↓e_dictC, ↓e_any, e_anyN, e_anyC, ↓e_anyY, ↓e_any2, e_any2N, ↓e_tg, ↓e_tg2, ↓e_fld, ↓e_setF, ↓e_meth, ↓e_make, ↓e_par, ↓e_irevR1, ↓e_indexI, ↓e_extend, ↓e_pop, ↓e_join, ↓e_dget2, ↓e_sortSet, ↓e_sortS, ↓e_setd, strsOf_map, ↓e_maxI, ↓e_disp, ↓e_pairN, ↓e_pairC, intsOf_map, ↓e_for, ↓e_ilist, ↓e_itup, ↓e_rng1, ↓e_rng2, ↓e_lc, ↓e_lc2, e_lc2N, ↓e_ienum, ↓e_izip, ↓e_anyB, ↓e_allB, ↓e_mulS, blsOf_map, ↓e_set0, ↓e_sadd, ↓e_sortTx, ↓e_sortD, ↓e_repr, ↓e_extT, ↓e_sc2, ↓e_sortZ, ↓e_tupVals, ↓e_wget, ↓e_wix, ↓e_listZip, zipD_nil, zipD_cons, ↓e_dgetF, ↓e_idif, ↓e_isB, ↓e_sortI, ↓e_sortSetI, ↓e_tailR, ↓e_divmod, ↓e_strI, ↓e_lenD, ↓e_fmt, ↓e_fs2, ↓e_sortR, ↓e_sortTS, ↓e_irevT, cut_to1, cut_to3, cut_from1',    ↓e_add_int, ↓e_add_str, ↓e_add_tup, ↓e_add_obj, ↓e_iadd_int, ↓e_iadd_str, ↓e_iadd_obj, ↓e_I, ↓e_I0, ↓e_IS_int, ↓e_IS_str, ↓e_eq_str, ↓e_ne_str, ↓e_eq_int, ↓e_ne_int, ↓e_eq_bl, ↓e_ne_bl, ↓e_isN, ↓e_notN, ↓e_ix_tup, ↓e_ix_fl, ↓e_ix_str, ↓e_ix_obj, ↓e_in_tup, ↓e_nin_tup, ↓e_len_tup, ↓e_len_fl, ↓e_len_str, ↓e_len_obj, ↓e_int_int, ↓e_tuple_tup, ↓e_tuple_obj, ↓e_list_tup, ↓e_list_obj, ↓e_dget, ↓e_din, ↓e_dnin, ↓e_lstAt, ↓e_dicAt,   e_key_int, e_key_str, e_up, e_ty_str, e_ty_tup, e_ty_int, e_ty_bl, e_ty_non, atI0, atI1, atI2, atI3, atIL, ixN0, ixN1, cut_from1, e_ite_or, e_ite_and, zln, znl, zli, zil, zni, zin, sizeLine_eq, CMul, CDiv, cpow1018, true_or, or_true, kb_strstr, kb_tupstr, kb_tuptup, kb_strtup, kb_inttup, kb_bltup, kb_nontup, kb_strbl, kb_strint, kb_intbl, kb_intint, kb_blbl, kb_blint, kb_nonbl, kb_nonint, kb_nonstr, kb_intstr, kb_blstr, kb_tupbl, kb_tupint,   List.set_cons_zero, List.set_cons_succ, List.set_nil, List.getElem?_cons_zero, List.getElem?_cons_succ, List.getElem?_nil, List.length_cons, List.length_nil, List.length_map, List.length_append, e_lcN, e_lcC, e_forN, e_forC, List.getLast?_concat, List.dropLast_concat, List.nil_append, List.cons_append, List.append_nil, List.append_assoc, List.reverse_cons, List.reverse_nil, List.isEmpty_nil, List.isEmpty_cons, isEmpty_snoc, List.any_cons, List.any_nil, List.all_cons, List.all_nil, flatD, eqF, in_non, in_tup, in_str, in_int, in_bl, in_obj, in_fl, startA, List.map_cons, List.map_nil, List.replicate_succ, List.replicate_zero,   Nat.reduceAdd, Nat.reduceSub, Nat.reduceLeDiff, Nat.zero_add, Int.reduceLE, Int.reduceLT, Int.reduceToNat, Int.reducePow, Int.reduceNeg, Int.reduceAdd, Int.reduceSub,   Option.isSome_some, Option.isSome_none, Bool.not_true, Bool.not_false, Bool.not_eq_true', Bool.not_eq_eq_eq_not, Bool.not_eq_true, Bool.false_eq_true, Bool.true_eq_false, Bool.and_true, Bool.true_and, Bool.or_false, Bool.false_or, Bool.or_true, Bool.true_or, Bool.and_false, Bool.false_and, if_true, if_false, ite_true, ite_false, reduceIte, reduceCtorEq, decide_true, decide_false, decide_eq_true_eq, decide_eq_false_iff_not, true_and, and_true, false_and, and_false, eq_self, ne_eq, not_false_eq_true, not_true_eq_false, and_self, *])
    refine ⟨rfl, f, rfl, hnm, hfs, by omega, fun m1 M6 hm1 hy1 e6 => ?_⟩
    have hb6 := hb5.ext e6
    try (simp only [↓e_seq, ↓e_next, ↓e_break, ↓e_cont, ↓e_expr, ↓e_ret, ↓e_retN, ↓e_if, ↓e_never, ↓e_asg, ↓e_name, ↓e_agtup, ↓e_agcons, ↓e_agnil, ↓e_agsub, ↓e_aug, ↓e_dput, ↓e_var, ↓e_c, ↓e_op, ↓e_some, ↓e_none, ↓e_test, ↓e_and, ↓e_or, ↓e_not, ↓e_yes, ↓e_truth,   ↓e_tru_bl, ↓e_tru_int, ↓e_tru_non, ↓e_tru_str, ↓e_tru_tup, ↓e_tru_obj, ↓e_chain, ↓e_orV, ↓e_andV, ↓e_notV, ↓e_ifE, ↓e_neg, ↓e_nil, ↓e_cons, ↓e_tup, ↓e_lst, ↓e_dnew, ↓e_call, ↓e_cb, ↓e_isi, ↓e_sl, ↓e_onone, ↓e_osome, ↓e_rev, ↓e_lm, ↓e_append, ↓e_dictC, ↓e_any, e_anyN, e_anyC, ↓e_anyY, ↓e_any2, e_any2N, ↓e_tg, ↓e_tg2, ↓e_fld, ↓e_setF, ↓e_meth, ↓e_make, ↓e_par, ↓e_irevR1, ↓e_indexI, ↓e_extend, ↓e_pop, ↓e_join, ↓e_dget2, ↓e_sortSet, ↓e_sortS, ↓e_setd, strsOf_map, ↓e_maxI, ↓e_disp, ↓e_pairN, ↓e_pairC, intsOf_map, ↓e_for, ↓e_ilist, ↓e_itup, ↓e_rng1, ↓e_rng2, ↓e_lc, ↓e_lc2, e_lc2N, ↓e_ienum, ↓e_izip, ↓e_anyB, ↓e_allB, ↓e_mulS, blsOf_map, ↓e_set0, ↓e_sadd, ↓e_sortTx, ↓e_sortD, ↓e_repr, ↓e_extT, ↓e_sc2, ↓e_sortZ, ↓e_tupVals, ↓e_wget, ↓e_wix, ↓e_listZip, zipD_nil, zipD_cons, ↓e_dgetF, ↓e_idif, ↓e_isB, ↓e_sortI, ↓e_sortSetI, ↓e_tailR, ↓e_divmod, ↓e_strI, ↓e_lenD, ↓e_fmt, ↓e_fs2, ↓e_sortR, ↓e_sortTS, ↓e_irevT, cut_to1, cut_to3, cut_from1',    ↓e_add_int, ↓e_add_str, ↓e_add_tup, ↓e_add_obj, ↓e_iadd_int, ↓e_iadd_str, ↓e_iadd_obj, ↓e_I, ↓e_I0, ↓e_IS_int, ↓e_IS_str, ↓e_eq_str, ↓e_ne_str, ↓e_eq_int, ↓e_ne_int, ↓e_eq_bl, ↓e_ne_bl, ↓e_isN, ↓e_notN, ↓e_ix_tup, ↓e_ix_fl, ↓e_ix_str, ↓e_ix_obj, ↓e_in_tup, ↓e_nin_tup, ↓e_len_tup, ↓e_len_fl, ↓e_len_str, ↓e_len_obj, ↓e_int_int, ↓e_tuple_tup, ↓e_tuple_obj, ↓e_list_tup, ↓e_list_obj, ↓e_dget, ↓e_din, ↓e_dnin, ↓e_lstAt, ↓e_dicAt,   e_key_int, e_key_str, e_up, e_ty_str, e_ty_tup, e_ty_int, e_ty_bl, e_ty_non, atI0, atI1, atI2, atI3, atIL, ixN0, ixN1, cut_from1, e_ite_or, e_ite_and, zln, znl, zli, zil, zni, zin, sizeLine_eq, CMul, CDiv, cpow1018, true_or, or_true, kb_strstr, kb_tupstr, kb_tuptup, kb_strtup, kb_inttup, kb_bltup, kb_nontup, kb_strbl, kb_strint, kb_intbl, kb_intint, kb_blbl, kb_blint, kb_nonbl, kb_nonint, kb_nonstr, kb_intstr, kb_blstr, kb_tupbl, kb_tupint,   List.set_cons_zero, List.set_cons_succ, List.set_nil, List.getElem?_cons_zero, List.getElem?_cons_succ, List.getElem?_nil, List.length_cons, List.length_nil, List.length_map, List.length_append, e_lcN, e_lcC, e_forN, e_forC, List.getLast?_concat, List.dropLast_concat, List.nil_append, List.cons_append, List.append_nil, List.append_assoc, List.reverse_cons, List.reverse_nil, List.isEmpty_nil, List.isEmpty_cons, isEmpty_snoc, List.any_cons, List.any_nil, List.all_cons, List.all_nil, flatD, eqF, in_non, in_tup, in_str, in_int, in_bl, in_obj, in_fl, startA, List.map_cons, List.map_nil, List.replicate_succ, List.replicate_zero,   Nat.reduceAdd, Nat.reduceSub, Nat.reduceLeDiff, Nat.zero_add, Int.reduceLE, Int.reduceLT, Int.reduceToNat, Int.reducePow, Int.reduceNeg, Int.reduceAdd, Int.reduceSub,   Option.isSome_some, Option.isSome_none, Bool.not_true, Bool.not_false, Bool.not_eq_true', Bool.not_eq_eq_eq_not, Bool.not_eq_true, Bool.false_eq_true, Bool.true_eq_false, Bool.and_true, Bool.true_and, Bool.or_false, Bool.false_or, Bool.or_true, Bool.true_or, Bool.and_false, Bool.false_and, if_true, if_false, ite_true, ite_false, reduceIte, reduceCtorEq, decide_true, decide_false, decide_eq_true_eq, decide_eq_false_iff_not, true_and, and_true, false_and, and_false, eq_self, ne_eq, not_false_eq_true, not_true_eq_false, and_self, *])
    refine ⟨by omega, lens_run (by simp) (fun r hr => by have := drw_wide f hnm r hr; omega) ?_⟩
    intro p7 np7
    have hb7 := hb6.new (mo := .lst ((lensI (drw f)).map D.int)) np7
    have hat7 : (up M6 p7 (.lst ((lensI (drw f)).map D.int))) p7 = some (.lst ((lensI (drw f)).map D.int)) := up_same
    clear np7
    generalize up M6 p7 (.lst ((lensI (drw f)).map D.int)) = M7 at *
    try (simp only [↓e_seq, ↓e_next, ↓e_break, ↓e_cont, ↓e_expr, ↓e_ret, ↓e_retN, ↓e_if, ↓e_never, ↓e_asg, ↓e_name, ↓e_agtup, ↓e_agcons, ↓e_agnil, ↓e_agsub, ↓e_aug, ↓e_dput, ↓e_var, ↓e_c, ↓e_op, ↓e_some, ↓e_none, ↓e_test, ↓e_and, ↓e_or, ↓e_not, ↓e_yes, ↓e_truth,   ↓e_tru_bl, ↓e_tru_int, ↓e_tru_non, ↓e_tru_str, ↓e_tru_tup, ↓e_tru_obj, ↓e_chain, ↓e_orV, ↓e_andV, ↓e_notV, ↓e_ifE, ↓e_neg, ↓e_nil, ↓e_cons, ↓e_tup, ↓e_lst, ↓e_dnew, ↓e_call, ↓e_cb, ↓e_isi, ↓e_sl, ↓e_onone, ↓e_osome, ↓e_rev, ↓e_lm, ↓e_append, ↓e_dictC, ↓e_any, e_anyN, e_anyC, ↓e_anyY, ↓e_any2, e_any2N, ↓e_tg, ↓e_tg2, ↓e_fld, ↓e_setF, ↓e_meth, ↓e_make, ↓e_par, ↓e_irevR1, ↓e_indexI, ↓e_extend, ↓e_pop, ↓e_join, ↓e_dget2, ↓e_sortSet, ↓e_sortS, ↓e_setd, strsOf_map, ↓e_maxI, ↓e_disp, ↓e_pairN, ↓e_pairC, intsOf_map, ↓e_for, ↓e_ilist, ↓e_itup, ↓e_rng1, ↓e_rng2, ↓e_lc, ↓e_lc2, e_lc2N, ↓e_ienum, ↓e_izip, ↓e_anyB, ↓e_allB, ↓e_mulS, blsOf_map, ↓e_set0, ↓e_sadd, ↓e_sortTx, ↓e_sortD, ↓e_repr, ↓e_extT, ↓e_sc2, ↓e_sortZ, ↓e_tupVals, ↓e_wget, ↓e_wix, ↓e_listZip, zipD_nil, zipD_cons, ↓e_dgetF, ↓e_idif, ↓e_isB, ↓e_sortI, ↓e_sortSetI, ↓e_tailR, ↓e_divmod, ↓e_strI, ↓e_lenD, ↓e_fmt, ↓e_fs2, ↓e_sortR, ↓e_sortTS, ↓e_irevT, cut_to1, cut_to3, cut_from1',    ↓e_add_int, ↓e_add_str, ↓e_add_tup, ↓e_add_obj, ↓e_iadd_int, ↓e_iadd_str, ↓e_iadd_obj, ↓e_I, ↓e_I0, ↓e_IS_int, ↓e_IS_str, ↓e_eq_str, ↓e_ne_str, ↓e_eq_int, ↓e_ne_int, ↓e_eq_bl, ↓e_ne_bl, ↓e_isN, ↓e_notN, ↓e_ix_tup, ↓e_ix_fl, ↓e_ix_str, ↓e_ix_obj, ↓e_in_tup, ↓e_nin_tup, ↓e_len_tup, ↓e_len_fl, ↓e_len_str, ↓e_len_obj, ↓e_int_int, ↓e_tuple_tup, ↓e_tuple_obj, ↓e_list_tup, ↓e_list_obj, ↓e_dget, ↓e_din, ↓e_dnin, ↓e_lstAt, ↓e_dicAt,   e_key_int, e_key_str, e_up, e_ty_str, e_ty_tup, e_ty_int, e_ty_bl, e_ty_non, atI0, atI1, atI2, atI3, atIL, ixN0, ixN1, cut_from1, e_ite_or, e_ite_and, zln, znl, zli, zil, zni, zin, sizeLine_eq, CMul, CDiv, cpow1018, true_or, or_true, kb_strstr, kb_tupstr, kb_tuptup, kb_strtup, kb_inttup, kb_bltup, kb_nontup, kb_strbl, kb_strint, kb_intbl, kb_intint, kb_blbl, kb_blint, kb_nonbl, kb_nonint, kb_nonstr, kb_intstr, kb_blstr, kb_tupbl, kb_tupint,   List.set_cons_zero, List.set_cons_succ, List.set_nil, List.getElem?_cons_zero, List.getElem?_cons_succ, List.getElem?_nil, List.length_cons, List.length_nil, List.length_map, List.length_append, e_lcN, e_lcC, e_forN, e_forC, List.getLast?_concat, List.dropLast_concat, List.nil_append, List.cons_append, List.append_nil, List.append_assoc, List.reverse_cons, List.reverse_nil, List.isEmpty_nil, List.isEmpty_cons, isEmpty_snoc, List.any_cons, List.any_nil, List.all_cons, List.all_nil, flatD, eqF, in_non, in_tup, in_str, in_int, in_bl, in_obj, in_fl, startA, List.map_cons, List.map_nil, List.replicate_succ, List.replicate_zero,   Nat.reduceAdd, Nat.reduceSub, Nat.reduceLeDiff, Nat.zero_add, Int.reduceLE, Int.reduceLT, Int.reduceToNat, Int.reducePow, Int.reduceNeg, Int.reduceAdd, Int.reduceSub,   Option.isSome_some, Option.isSome_none, Bool.not_true, Bool.not_false, Bool.not_eq_true', Bool.not_eq_eq_eq_not, Bool.not_eq_true, Bool.false_eq_true, Bool.true_eq_false, Bool.and_true, Bool.true_and, Bool.or_false, Bool.false_or, Bool.or_true, Bool.true_or, Bool.and_false, Bool.false_and, if_true, if_false, ite_true, ite_false, reduceIte, reduceCtorEq, decide_true, decide_false, decide_eq_true_eq, decide_eq_false_iff_not, true_and, and_true, false_and, and_false, eq_self, ne_eq, not_false_eq_true, not_true_eq_false, and_self, *])
    intro m2 hm2 hy2
    have em : m1 = m2 := Int.le_antisymm (hy2 _ hm1) (hy1 _ hm2)
    subst em
    refine ⟨rfl, .int m1, rfl, trivial, by show 0 < 50; omega, ?_⟩
    try (simp only [↓e_seq, ↓e_next, ↓e_break, ↓e_cont, ↓e_expr, ↓e_ret, ↓e_retN, ↓e_if, ↓e_never, ↓e_asg, ↓e_name, ↓e_agtup, ↓e_agcons, ↓e_agnil, ↓e_agsub, ↓e_aug, ↓e_dput, ↓e_var, ↓e_c, ↓e_op, ↓e_some, ↓e_none, ↓e_test, ↓e_and, ↓e_or, ↓e_not, ↓e_yes, ↓e_truth,   ↓e_tru_bl, ↓e_tru_int, ↓e_tru_non, ↓e_tru_str, ↓e_tru_tup, ↓e_tru_obj, ↓e_chain, ↓e_orV, ↓e_andV, ↓e_notV, ↓e_ifE, ↓e_neg, ↓e_nil, ↓e_cons, ↓e_tup, ↓e_lst, ↓e_dnew, ↓e_call, ↓e_cb, ↓e_isi, ↓e_sl, ↓e_onone, ↓e_osome, ↓e_rev, ↓e_lm, ↓e_append, ↓e_dictC, ↓e_any, e_anyN, e_anyC, ↓e_anyY, ↓e_any2, e_any2N, ↓e_tg, ↓e_tg2, ↓e_fld, ↓e_setF, ↓e_meth, ↓e_make, ↓e_par, ↓e_irevR1, ↓e_indexI, ↓e_extend, ↓e_pop, ↓e_join, ↓e_dget2, ↓e_sortSet, ↓e_sortS, ↓e_setd, strsOf_map, ↓e_maxI, ↓e_disp, ↓e_pairN, ↓e_pairC, intsOf_map, ↓e_for, ↓e_ilist, ↓e_itup, ↓e_rng1, ↓e_rng2, ↓e_lc, ↓e_lc2, e_lc2N, ↓e_ienum, ↓e_izip, ↓e_anyB, ↓e_allB, ↓e_mulS, blsOf_map, ↓e_set0, ↓e_sadd, ↓e_sortTx, ↓e_sortD, ↓e_repr, ↓e_extT, ↓e_sc2, ↓e_sortZ, ↓e_tupVals, ↓e_wget, ↓e_wix, ↓e_listZip, zipD_nil, zipD_cons, ↓e_dgetF, ↓e_idif, ↓e_isB, ↓e_sortI, ↓e_sortSetI, ↓e_tailR, ↓e_divmod, ↓e_strI, ↓e_lenD, ↓e_fmt, ↓e_fs2, ↓e_sortR, ↓e_sortTS, ↓e_irevT, cut_to1, cut_to3, cut_from1',    ↓e_add_int, ↓e_add_str, ↓e_add_tup, ↓e_add_obj, ↓e_iadd_int, ↓e_iadd_str, ↓e_iadd_obj, ↓e_I, ↓e_I0, ↓e_IS_int, ↓e_IS_str, ↓e_eq_str, ↓e_ne_str, ↓e_eq_int, ↓e_ne_int, ↓e_eq_bl, ↓e_ne_bl, ↓e_isN, ↓e_notN, ↓e_ix_tup, ↓e_ix_fl, ↓e_ix_str, ↓e_ix_obj, ↓e_in_tup, ↓e_nin_tup, ↓e_len_tup, ↓e_len_fl, ↓e_len_str, ↓e_len_obj, ↓e_int_int, ↓e_tuple_tup, ↓e_tuple_obj, ↓e_list_tup, ↓e_list_obj, ↓e_dget, ↓e_din, ↓e_dnin, ↓e_lstAt, ↓e_dicAt,   e_key_int, e_key_str, e_up, e_ty_str, e_ty_tup, e_ty_int, e_ty_bl, e_ty_non, atI0, atI1, atI2, atI3, atIL, ixN0, ixN1, cut_from1, e_ite_or, e_ite_and, zln, znl, zli, zil, zni, zin, sizeLine_eq, CMul, CDiv, cpow1018, true_or, or_true, kb_strstr, kb_tupstr, kb_tuptup, kb_strtup, kb_inttup, kb_bltup, kb_nontup, kb_strbl, kb_strint, kb_intbl, kb_intint, kb_blbl, kb_blint, kb_nonbl, kb_nonint, kb_nonstr, kb_intstr, kb_blstr, kb_tupbl, kb_tupint,   List.set_cons_zero, List.set_cons_succ, List.set_nil, List.getElem?_cons_zero, List.getElem?_cons_succ, List.getElem?_nil, List.length_cons, List.length_nil, List.length_map, List.length_append, e_lcN, e_lcC, e_forN, e_forC, List.getLast?_concat, List.dropLast_concat, List.nil_append, List.cons_append, List.append_nil, List.append_assoc, List.reverse_cons, List.reverse_nil, List.isEmpty_nil, List.isEmpty_cons, isEmpty_snoc, List.any_cons, List.any_nil, List.all_cons, List.all_nil, flatD, eqF, in_non, in_tup, in_str, in_int, in_bl, in_obj, in_fl, startA, List.map_cons, List.map_nil, List.replicate_succ, List.replicate_zero,   Nat.reduceAdd, Nat.reduceSub, Nat.reduceLeDiff, Nat.zero_add, Int.reduceLE, Int.reduceLT, Int.reduceToNat, Int.reducePow, Int.reduceNeg, Int.reduceAdd, Int.reduceSub,   Option.isSome_some, Option.isSome_none, Bool.not_true, Bool.not_false, Bool.not_eq_true', Bool.not_eq_eq_eq_not, Bool.not_eq_true, Bool.false_eq_true, Bool.true_eq_false, Bool.and_true, Bool.true_and, Bool.or_false, Bool.false_or, Bool.or_true, Bool.true_or, Bool.and_false, Bool.false_and, if_true, if_false, ite_true, ite_false, reduceIte, reduceCtorEq, decide_true, decide_false, decide_eq_true_eq, decide_eq_false_iff_not, true_and, and_true, false_and, and_false, eq_self, ne_eq, not_false_eq_true, not_true_eq_false, and_self, *])
    exact next _ _ ⟨lo + 1, m, _, _, _, _, rfl, by omega, by omega, rfl, hb7⟩

def topS (i : Nat) : Stmt := PySem.Challenge.pw_conceptscript_k10_formulas_are_drawn.main.body.getD i (.Pass ⟨0, 0, 0, 0⟩)
abbrev s_is_small : Stmt := topS 4
theorem sc_is_small : FnScope ["sign"] ["sign"] (defScope s_is_small) := ⟨rfl, rfl, rfl, by decide +kernel, rfl, by decide +kernel, by decide +kernel⟩
abbrev s_is_digit : Stmt := topS 5
theorem sc_is_digit : FnScope ["sign"] ["sign"] (defScope s_is_digit) := ⟨rfl, rfl, rfl, by decide +kernel, rfl, by decide +kernel, by decide +kernel⟩
abbrev s_draw : Stmt := topS 7
theorem sc_draw : FnScope ["formula"] ["formula"] (defScope s_draw) := ⟨rfl, rfl, rfl, by decide +kernel, rfl, by decide +kernel, by decide +kernel⟩
abbrev s_behind : Stmt := topS 8
theorem sc_behind : FnScope ["first", "other", "rows", "row"] ["first", "other", "rows"] (defScope s_behind) := ⟨rfl, rfl, rfl, by decide +kernel, rfl, by decide +kernel, by decide +kernel⟩
abbrev s_width : Stmt := topS 9
theorem sc_width : FnScope ["formula", "row"] ["formula"] (defScope s_width) := ⟨rfl, rfl, rfl, by decide +kernel, rfl, by decide +kernel, by decide +kernel⟩
abbrev s_height : Stmt := topS 10
theorem sc_height : FnScope ["formula"] ["formula"] (defScope s_height) := ⟨rfl, rfl, rfl, by decide +kernel, rfl, by decide +kernel, by decide +kernel⟩
abbrev s_read_drawing : Stmt := topS 11
theorem sc_read_drawing : FnScope ["rows", "waiting", "formula", "row", "signs"] ["rows"] (defScope s_read_drawing) := ⟨rfl, rfl, rfl, by decide +kernel, rfl, by decide +kernel, by decide +kernel⟩
abbrev s_letter_of : Stmt := topS 12
theorem sc_letter_of : FnScope ["waiting", "row", "signs", "column", "end"] ["waiting", "row", "signs"] (defScope s_letter_of) := ⟨rfl, rfl, rfl, by decide +kernel, rfl, by decide +kernel, by decide +kernel⟩
abbrev s_strokes_end : Stmt := topS 13
theorem sc_strokes_end : FnScope ["waiting", "row", "signs", "start", "column"] ["waiting", "row", "signs"] (defScope s_strokes_end) := ⟨rfl, rfl, rfl, by decide +kernel, rfl, by decide +kernel, by decide +kernel⟩
abbrev s_signs_before : Stmt := topS 14
theorem sc_signs_before : FnScope ["waiting", "row", "signs", "wanted", "column", "sign", "stroke", "consequence"] ["waiting", "row", "signs"] (defScope s_signs_before) := ⟨rfl, rfl, rfl, by decide +kernel, rfl, by decide +kernel, by decide +kernel⟩
abbrev s_is_open : Stmt := topS 15
theorem sc_is_open : FnScope ["stroke", "consequence"] ["stroke", "consequence"] (defScope s_is_open) := ⟨rfl, rfl, rfl, by decide +kernel, rfl, by decide +kernel, by decide +kernel⟩
abbrev s_drawn_whole : Stmt := topS 16
theorem sc_drawn_whole : FnScope ["waiting", "formula", "stroke", "consequence"] ["waiting", "formula"] (defScope s_drawn_whole) := ⟨rfl, rfl, rfl, by decide +kernel, rfl, by decide +kernel, by decide +kernel⟩
abbrev s__law_cell : Stmt := topS 18
theorem sc__law_cell : FnScope ["script", "k"] ["script", "k"] (defScope s__law_cell) := ⟨rfl, rfl, rfl, by decide +kernel, rfl, by decide +kernel, by decide +kernel⟩
abbrev s__law_digits : Stmt := topS 19
theorem sc__law_digits : FnScope ["script", "first", "last", "digits", "k", "cell", "turn", "seed"] ["script", "first", "last"] (defScope s__law_digits) := ⟨rfl, rfl, rfl, by decide +kernel, rfl, by decide +kernel, by decide +kernel⟩
abbrev s__law_box : Stmt := topS 20
theorem sc__law_box : FnScope ["script", "first", "last"] ["script", "first", "last"] (defScope s__law_box) := ⟨rfl, rfl, rfl, by decide +kernel, rfl, by decide +kernel, by decide +kernel⟩
abbrev s__law_draw : Stmt := topS 21
theorem sc__law_draw : FnScope ["box", "many", "at"] ["box", "many"] (defScope s__law_draw) := ⟨rfl, rfl, rfl, by decide +kernel, rfl, by decide +kernel, by decide +kernel⟩
abbrev s__law_put : Stmt := topS 22
theorem sc__law_put : FnScope ["formula", "table", "part"] ["formula", "table"] (defScope s__law_put) := ⟨rfl, rfl, rfl, by decide +kernel, rfl, by decide +kernel, by decide +kernel⟩
abbrev s__law_any : Stmt := topS 23
theorem sc__law_any : FnScope ["box", "room", "many", "kind", "left", "first"] ["box", "room", "many"] (defScope s__law_any) := ⟨rfl, rfl, rfl, by decide +kernel, rfl, by decide +kernel, by decide +kernel⟩
abbrev s__law_lettered : Stmt := topS 24
theorem sc__law_lettered : FnScope ["box", "room", "many", "names", "table", "name"] ["box", "room", "many"] (defScope s__law_lettered) := ⟨rfl, rfl, rfl, by decide +kernel, rfl, by decide +kernel, by decide +kernel⟩
abbrev s__law_under : Stmt := topS 25
theorem sc__law_under : FnScope ["rows", "first", "others", "row"] ["rows", "first", "others"] (defScope s__law_under) := ⟨rfl, rfl, rfl, by decide +kernel, rfl, by decide +kernel, by decide +kernel⟩
abbrev s__law_drawing : Stmt := topS 26
theorem sc__law_drawing : FnScope ["formula", "upper"] ["formula"] (defScope s__law_drawing) := ⟨rfl, rfl, rfl, by decide +kernel, rfl, by decide +kernel, by decide +kernel⟩
abbrev s__law_same : Stmt := topS 27
theorem sc__law_same : FnScope ["actual", "expected", "k"] ["actual", "expected"] (defScope s__law_same) := ⟨rfl, rfl, rfl, by decide +kernel, rfl, by decide +kernel, by decide +kernel⟩
abbrev s_law : Stmt := topS 28
theorem sc_law : FnScope ["script", "box", "k", "formula", "rows", "row"] ["script"] (defScope s_law) := ⟨rfl, rfl, rfl, by decide +kernel, rfl, by decide +kernel, by decide +kernel⟩
structure Txt (K : PySem.W.Frag) (mg : Str → Option Value) where
  f_is_small : Addr
  fd_is_small : FuncData
  F_is_small : Fun K "is_small" "is_small" s_is_small f_is_small fd_is_small
  m_is_small : mg "is_small" = some (.ref f_is_small)
  b_is_small : Binds K fd_is_small ["sign"] []
  f_is_digit : Addr
  fd_is_digit : FuncData
  F_is_digit : Fun K "is_digit" "is_digit" s_is_digit f_is_digit fd_is_digit
  m_is_digit : mg "is_digit" = some (.ref f_is_digit)
  b_is_digit : Binds K fd_is_digit ["sign"] []
  f_draw : Addr
  fd_draw : FuncData
  F_draw : Fun K "draw" "draw" s_draw f_draw fd_draw
  m_draw : mg "draw" = some (.ref f_draw)
  b_draw : Binds K fd_draw ["formula"] []
  f_behind : Addr
  fd_behind : FuncData
  F_behind : Fun K "behind" "behind" s_behind f_behind fd_behind
  m_behind : mg "behind" = some (.ref f_behind)
  b_behind : Binds K fd_behind ["first", "other", "rows"] []
  f_width : Addr
  fd_width : FuncData
  F_width : Fun K "width" "width" s_width f_width fd_width
  m_width : mg "width" = some (.ref f_width)
  b_width : Binds K fd_width ["formula"] []
  f_height : Addr
  fd_height : FuncData
  F_height : Fun K "height" "height" s_height f_height fd_height
  m_height : mg "height" = some (.ref f_height)
  b_height : Binds K fd_height ["formula"] []
  f_read_drawing : Addr
  fd_read_drawing : FuncData
  F_read_drawing : Fun K "read_drawing" "read_drawing" s_read_drawing f_read_drawing fd_read_drawing
  m_read_drawing : mg "read_drawing" = some (.ref f_read_drawing)
  b_read_drawing : Binds K fd_read_drawing ["rows"] []
  f_letter_of : Addr
  fd_letter_of : FuncData
  F_letter_of : Fun K "letter_of" "letter_of" s_letter_of f_letter_of fd_letter_of
  m_letter_of : mg "letter_of" = some (.ref f_letter_of)
  b_letter_of : Binds K fd_letter_of ["waiting", "row", "signs"] []
  f_strokes_end : Addr
  fd_strokes_end : FuncData
  F_strokes_end : Fun K "strokes_end" "strokes_end" s_strokes_end f_strokes_end fd_strokes_end
  m_strokes_end : mg "strokes_end" = some (.ref f_strokes_end)
  b_strokes_end : Binds K fd_strokes_end ["waiting", "row", "signs"] []
  f_signs_before : Addr
  fd_signs_before : FuncData
  F_signs_before : Fun K "signs_before" "signs_before" s_signs_before f_signs_before fd_signs_before
  m_signs_before : mg "signs_before" = some (.ref f_signs_before)
  b_signs_before : Binds K fd_signs_before ["waiting", "row", "signs"] []
  f_is_open : Addr
  fd_is_open : FuncData
  F_is_open : Fun K "is_open" "is_open" s_is_open f_is_open fd_is_open
  m_is_open : mg "is_open" = some (.ref f_is_open)
  b_is_open : Binds K fd_is_open ["stroke", "consequence"] []
  f_drawn_whole : Addr
  fd_drawn_whole : FuncData
  F_drawn_whole : Fun K "drawn_whole" "drawn_whole" s_drawn_whole f_drawn_whole fd_drawn_whole
  m_drawn_whole : mg "drawn_whole" = some (.ref f_drawn_whole)
  b_drawn_whole : Binds K fd_drawn_whole ["waiting", "formula"] []
  f__law_cell : Addr
  fd__law_cell : FuncData
  F__law_cell : Fun K "_law_cell" "_law_cell" s__law_cell f__law_cell fd__law_cell
  m__law_cell : mg "_law_cell" = some (.ref f__law_cell)
  b__law_cell : Binds K fd__law_cell ["script", "k"] []
  f__law_digits : Addr
  fd__law_digits : FuncData
  F__law_digits : Fun K "_law_digits" "_law_digits" s__law_digits f__law_digits fd__law_digits
  m__law_digits : mg "_law_digits" = some (.ref f__law_digits)
  b__law_digits : Binds K fd__law_digits ["script", "first", "last"] []
  f__law_box : Addr
  fd__law_box : FuncData
  F__law_box : Fun K "_law_box" "_law_box" s__law_box f__law_box fd__law_box
  m__law_box : mg "_law_box" = some (.ref f__law_box)
  b__law_box : Binds K fd__law_box ["script", "first", "last"] []
  f__law_draw : Addr
  fd__law_draw : FuncData
  F__law_draw : Fun K "_law_draw" "_law_draw" s__law_draw f__law_draw fd__law_draw
  m__law_draw : mg "_law_draw" = some (.ref f__law_draw)
  b__law_draw : Binds K fd__law_draw ["box", "many"] []
  f__law_put : Addr
  fd__law_put : FuncData
  F__law_put : Fun K "_law_put" "_law_put" s__law_put f__law_put fd__law_put
  m__law_put : mg "_law_put" = some (.ref f__law_put)
  b__law_put : Binds K fd__law_put ["formula", "table"] []
  f__law_any : Addr
  fd__law_any : FuncData
  F__law_any : Fun K "_law_any" "_law_any" s__law_any f__law_any fd__law_any
  m__law_any : mg "_law_any" = some (.ref f__law_any)
  b__law_any : Binds K fd__law_any ["box", "room", "many"] []
  f__law_lettered : Addr
  fd__law_lettered : FuncData
  F__law_lettered : Fun K "_law_lettered" "_law_lettered" s__law_lettered f__law_lettered fd__law_lettered
  m__law_lettered : mg "_law_lettered" = some (.ref f__law_lettered)
  b__law_lettered : Binds K fd__law_lettered ["box", "room", "many"] []
  f__law_under : Addr
  fd__law_under : FuncData
  F__law_under : Fun K "_law_under" "_law_under" s__law_under f__law_under fd__law_under
  m__law_under : mg "_law_under" = some (.ref f__law_under)
  b__law_under : Binds K fd__law_under ["rows", "first", "others"] []
  f__law_drawing : Addr
  fd__law_drawing : FuncData
  F__law_drawing : Fun K "_law_drawing" "_law_drawing" s__law_drawing f__law_drawing fd__law_drawing
  m__law_drawing : mg "_law_drawing" = some (.ref f__law_drawing)
  b__law_drawing : Binds K fd__law_drawing ["formula"] []
  f__law_same : Addr
  fd__law_same : FuncData
  F__law_same : Fun K "_law_same" "_law_same" s__law_same f__law_same fd__law_same
  m__law_same : mg "_law_same" = some (.ref f__law_same)
  b__law_same : Binds K fd__law_same ["actual", "expected"] []
  f_law : Addr
  fd_law : FuncData
  F_law : Fun K "law" "law" s_law f_law fd_law
  m_law : mg "law" = some (.ref f_law)
  b_law : Binds K fd_law ["script"] []
  c_behind : Addr
  P_behind : Addr
  Fc_behind : FunC K "behind" "behind" s_behind f_behind fd_behind c_behind
  tP_behind : P_behind ∈ tabs
  n_tuple : mg "tuple" = none
  n_len : mg "len" = none
  n_max : mg "max" = none
  n_enumerate : mg "enumerate" = none
  n_range : mg "range" = none
  n_int : mg "int" = none
  n_isinstance : mg "isinstance" = none
  n_bool : mg "bool" = none
  n_str : mg "str" = none
section
variable {P : Program} {w : World} {K : PySem.W.Frag} {mg : Str → Option Value} {base : Heap} {k : Nat}
set_option maxHeartbeats 4000000 in
theorem ok_is_small (T : Txt K mg)  {A : ASp}
    (hp : ∀ ds M Q Xa, ds.length = 1 → A ds M Q Xa → a_is_small  ax0 ⟨fun _ M => Q .non M, Q, fun _ _ => False, fun _ _ => False⟩ (startA ["sign"] ds) M) :
    FnOk P w K mg base CX0 (k + 1) T.f_is_small T.fd_is_small ["sign"] (conc K 1 A) := by
  refine fn_abs T.F_is_small sc_is_small rfl (fun cdv Ar outer s H E hr => ?_) hp
  have hpo : PassesOwn (model P w) (Ar.deeper (PyProof.Rows.envOfC "is_small" (defScope s_is_small) s.heap.objs.size T.f_is_small cdv)) (PyProof.Rows.envOfC "is_small" (defScope s_is_small) s.heap.objs.size T.f_is_small cdv) (fun _ _ => False) := PassesOwn.never
  exact (as_one (as_ret (ae_chain op_leA op_leA sim_le sim_le ae_str (ae_var 0) ae_str)))
set_option maxHeartbeats 4000000 in
theorem ok_is_digit (T : Txt K mg)  {A : ASp}
    (hp : ∀ ds M Q Xa, ds.length = 1 → A ds M Q Xa → a_is_digit  ax0 ⟨fun _ M => Q .non M, Q, fun _ _ => False, fun _ _ => False⟩ (startA ["sign"] ds) M) :
    FnOk P w K mg base CX0 (k + 1) T.f_is_digit T.fd_is_digit ["sign"] (conc K 1 A) := by
  refine fn_abs T.F_is_digit sc_is_digit rfl (fun cdv Ar outer s H E hr => ?_) hp
  have hpo : PassesOwn (model P w) (Ar.deeper (PyProof.Rows.envOfC "is_digit" (defScope s_is_digit) s.heap.objs.size T.f_is_digit cdv)) (PyProof.Rows.envOfC "is_digit" (defScope s_is_digit) s.heap.objs.size T.f_is_digit cdv) (fun _ _ => False) := PassesOwn.never
  exact (as_one (as_ret (ae_chain op_leA op_leA sim_le sim_le ae_str (ae_var 0) ae_str)))
set_option maxHeartbeats 4000000 in
theorem ok_draw (T : Txt K mg) {A_behind : ASp} (G_behind : FnOk P w K mg base CX0 k T.f_behind T.fd_behind ["first", "other", "rows"] (conc K 3 A_behind)) {A_draw : ASp} (G_draw : FnOk P w K mg base CX0 k T.f_draw T.fd_draw ["formula"] (conc K 1 A_draw)) {A : ASp}
    (hp : ∀ ds M Q Xa, ds.length = 1 → A ds M Q Xa → a_draw A_behind A_draw ax0 ⟨fun _ M => Q .non M, Q, fun _ _ => False, fun _ _ => False⟩ (startA ["formula"] ds) M) :
    FnOk P w K mg base CX0 (k + 1) T.f_draw T.fd_draw ["formula"] (conc K 1 A) := by
  refine fn_abs T.F_draw sc_draw rfl (fun cdv Ar outer s H E hr => ?_) hp
  have hpo : PassesOwn (model P w) (Ar.deeper (PyProof.Rows.envOfC "draw" (defScope s_draw) s.heap.objs.size T.f_draw cdv)) (PyProof.Rows.envOfC "draw" (defScope s_draw) s.heap.objs.size T.f_draw cdv) (fun _ _ => False) := PassesOwn.never
  exact (as_cons (as_if (at_cmpR (op_eqA (hu64 hr)) sim_eqA (ae_ix (ae_var 0) ae_int (fun _ _ => rfl)) ae_str (nomark _)) (as_one (as_ret (ae_tup (aa_cons (ae_op op_plus sim_add ae_str (ae_ix (ae_var 0) ae_int (fun _ _ => rfl))) aa_nil)))) as_nil)
    (as_cons (as_if (at_cmpR (op_eqA (hu64 hr)) sim_eqA (ae_ix (ae_var 0) ae_int (fun _ _ => rfl)) ae_str (nomark _)) (as_one (as_ret (ae_call G_behind hr (by rfl) T.m_behind T.F_behind.kp T.b_behind (aa_cons ae_str (aa_cons ae_str (aa_cons (ae_call G_draw hr (by rfl) T.m_draw T.F_draw.kp T.b_draw (aa_cons (ae_ix (ae_var 0) ae_int (fun _ _ => rfl)) aa_nil)) aa_nil)))))) as_nil)
    (as_one (as_ret (ae_op op_plus sim_add (ae_call G_behind hr (by rfl) T.m_behind T.F_behind.kp T.b_behind (aa_cons ae_str (aa_cons ae_str (aa_cons (ae_call G_draw hr (by rfl) T.m_draw T.F_draw.kp T.b_draw (aa_cons (ae_ix (ae_var 0) ae_int (fun _ _ => rfl)) aa_nil)) aa_nil)))) (ae_call G_behind hr (by rfl) T.m_behind T.F_behind.kp T.b_behind (aa_cons ae_str (aa_cons ae_str (aa_cons (ae_call G_draw hr (by rfl) T.m_draw T.F_draw.kp T.b_draw (aa_cons (ae_ix (ae_var 0) ae_int (fun _ _ => rfl)) aa_nil)) aa_nil)))))))))
set_option maxHeartbeats 4000000 in
theorem ok_behind (T : Txt K mg) {k0 : Nat} (hk0 : k0 + 1 ≤ k) (TB : GxR.TabB base mg T.c_behind T.P_behind)  {A : ASp}
    (hp : ∀ ds M Q Xa, ds.length = 3 → A ds M Q Xa → a_behind  ax0 ⟨fun _ M => Q .non M, Q, fun _ _ => False, fun _ _ => False⟩ (startA ["first", "other", "rows", "row"] ds) M) :
    FnOk P w K mg base CX0 (k + 1) T.f_behind T.fd_behind ["first", "other", "rows"] (conc K 3 A) := by
  refine fn_absT T.Fc_behind sc_behind rfl (fun Ar outer s H E hr => ?_) hp
  have hpo : PassesOwn (model P w) (Ar.deeper (PyProof.Rows.envOfC "behind" (defScope s_behind) s.heap.objs.size T.f_behind (.ref T.c_behind))) (PyProof.Rows.envOfC "behind" (defScope s_behind) s.heap.objs.size T.f_behind (.ref T.c_behind)) (fun _ _ => False) := PassesOwn.never
  exact (as_one (as_ret (ae_op op_plus sim_add (ae_tup (aa_cons (ae_op op_plus sim_add (ae_var 0) (ae_ix (ae_var 2) ae_int (fun _ _ => rfl))) aa_nil)) (ae_tupg 3 rfl (hr.mono hk0) (by rfl) T.n_tuple TB rfl T.tP_behind sc_behind.nd (ai_tup (ae_sl (ae_var 2) (ao_some ae_int) ao_none)) (blkOk_by (N := ["first", "other", "rows", "row"]) (sc := defScope s_behind) (by decide +kernel)) (by decide +kernel) (fun _ _ _ _ _ _ _ _ _ => pg_name (i := 3) sc_behind.nd rfl (Or.inl rfl)) (fun _ _ _ _ _ _ _ hr hgd => ats_nil) (fun _ _ _ _ _ _ _ hr hgd => (ae_op op_plus sim_add (ae_var 1) (ae_var 3)))))))
set_option maxHeartbeats 4000000 in
theorem ok_width (T : Txt K mg) {A_draw : ASp} (G_draw : FnOk P w K mg base CX0 k T.f_draw T.fd_draw ["formula"] (conc K 1 A_draw)) {A : ASp}
    (hp : ∀ ds M Q Xa, ds.length = 1 → A ds M Q Xa → a_width A_draw ax0 ⟨fun _ M => Q .non M, Q, fun _ _ => False, fun _ _ => False⟩ (startA ["formula", "row"] ds) M) :
    FnOk P w K mg base CX0 (k + 1) T.f_width T.fd_width ["formula"] (conc K 1 A) := by
  refine fn_abs T.F_width sc_width rfl (fun cdv Ar outer s H E hr => ?_) hp
  have hpo : PassesOwn (model P w) (Ar.deeper (PyProof.Rows.envOfC "width" (defScope s_width) s.heap.objs.size T.f_width cdv)) (PyProof.Rows.envOfC "width" (defScope s_width) s.heap.objs.size T.f_width cdv) (fun _ _ => False) := PassesOwn.never
  exact (as_one (as_ret (ae_callB (cr_max rfl) sim_maxI (by rfl) T.n_max (by decide +kernel) (aa_cons (ae_lc 1 rfl sc_width.nd (ai_tup (ae_call G_draw hr (by rfl) T.m_draw T.F_draw.kp T.b_draw (aa_cons (ae_var 0) aa_nil))) (blkOk_by (N := ["formula", "row"]) (sc := defScope s_width) (by decide +kernel)) (fun _ _ _ _ _ => pg_name (i := 1) sc_width.nd rfl (Or.inl rfl)) (fun _ _ _ _ _ => ats_nil) (fun _ _ _ _ _ => (ae_callB call_lenA sim_len (by rfl) T.n_len (by decide +kernel) (aa_cons (ae_var 1) aa_nil)))) aa_nil))))
set_option maxHeartbeats 4000000 in
theorem ok_height (T : Txt K mg) {A_draw : ASp} (G_draw : FnOk P w K mg base CX0 k T.f_draw T.fd_draw ["formula"] (conc K 1 A_draw)) {A : ASp}
    (hp : ∀ ds M Q Xa, ds.length = 1 → A ds M Q Xa → a_height A_draw ax0 ⟨fun _ M => Q .non M, Q, fun _ _ => False, fun _ _ => False⟩ (startA ["formula"] ds) M) :
    FnOk P w K mg base CX0 (k + 1) T.f_height T.fd_height ["formula"] (conc K 1 A) := by
  refine fn_abs T.F_height sc_height rfl (fun cdv Ar outer s H E hr => ?_) hp
  have hpo : PassesOwn (model P w) (Ar.deeper (PyProof.Rows.envOfC "height" (defScope s_height) s.heap.objs.size T.f_height cdv)) (PyProof.Rows.envOfC "height" (defScope s_height) s.heap.objs.size T.f_height cdv) (fun _ _ => False) := PassesOwn.never
  exact (as_one (as_ret (ae_callB call_lenA sim_len (by rfl) T.n_len (by decide +kernel) (aa_cons (ae_call G_draw hr (by rfl) T.m_draw T.F_draw.kp T.b_draw (aa_cons (ae_var 0) aa_nil)) aa_nil))))
set_option maxHeartbeats 4000000 in
theorem ok_read_drawing (T : Txt K mg) {A_drawn_whole : ASp} (G_drawn_whole : FnOk P w K mg base CX0 k T.f_drawn_whole T.fd_drawn_whole ["waiting", "formula"] (conc K 2 A_drawn_whole)) {A_letter_of : ASp} (G_letter_of : FnOk P w K mg base CX0 k T.f_letter_of T.fd_letter_of ["waiting", "row", "signs"] (conc K 3 A_letter_of)) {A : ASp}
    (hp : ∀ ds M Q Xa, ds.length = 1 → A ds M Q Xa → a_read_drawing A_drawn_whole A_letter_of ax0 ⟨fun _ M => Q .non M, Q, fun _ _ => False, fun _ _ => False⟩ (startA ["rows", "waiting", "formula", "row", "signs"] ds) M) :
    FnOk P w K mg base CX0 (k + 1) T.f_read_drawing T.fd_read_drawing ["rows"] (conc K 1 A) := by
  refine fn_abs T.F_read_drawing sc_read_drawing rfl (fun cdv Ar outer s H E hr => ?_) hp
  have hpo : PassesOwn (model P w) (Ar.deeper (PyProof.Rows.envOfC "read_drawing" (defScope s_read_drawing) s.heap.objs.size T.f_read_drawing cdv)) (PyProof.Rows.envOfC "read_drawing" (defScope s_read_drawing) s.heap.objs.size T.f_read_drawing cdv) (fun _ _ => False) := PassesOwn.never
  exact (as_cons (as_set 1 sc_read_drawing.nd (ae_lst aa_nil))
    (as_cons (as_set 2 sc_read_drawing.nd ae_non)
    (as_cons (as_for hpo rfl (ai_enum (by rfl) T.n_enumerate (aa_cons (ae_var 0) aa_nil)) (ag_tup rfl (ags_cons (ag_name 3 sc_read_drawing.nd) (ags_cons (ag_name 4 sc_read_drawing.nd) ags_nil))) (as_cons (as_if (at_cmpR op_notN sim_notN (ae_var 2) ae_non (nomark _)) (as_one as_never) as_nil)
    (as_one (as_set 2 sc_read_drawing.nd (ae_call G_drawn_whole hr (by rfl) T.m_drawn_whole T.F_drawn_whole.kp T.b_drawn_whole (aa_cons (ae_var 1) (aa_cons (ae_call G_letter_of hr (by rfl) T.m_letter_of T.F_letter_of.kp T.b_letter_of (aa_cons (ae_var 1) (aa_cons (ae_var 3) (aa_cons (ae_var 4) aa_nil)))) aa_nil)))))))
    (as_cons (as_if (at_cmpR op_isN sim_isN (ae_var 2) ae_non (nomark _)) (as_one as_never) as_nil)
    (as_one (as_ret (ae_var 2)))))))
set_option maxHeartbeats 4000000 in
theorem ok_letter_of (T : Txt K mg) {A_strokes_end : ASp} (G_strokes_end : FnOk P w K mg base CX0 k T.f_strokes_end T.fd_strokes_end ["waiting", "row", "signs"] (conc K 3 A_strokes_end)) {A_is_small : ASp} (G_is_small : FnOk P w K mg base CX0 k T.f_is_small T.fd_is_small ["sign"] (conc K 1 A_is_small)) {A_is_digit : ASp} (G_is_digit : FnOk P w K mg base CX0 k T.f_is_digit T.fd_is_digit ["sign"] (conc K 1 A_is_digit)) {A : ASp}
    (hp : ∀ ds M Q Xa, ds.length = 3 → A ds M Q Xa → a_letter_of A_strokes_end A_is_small A_is_digit ax0 ⟨fun _ M => Q .non M, Q, fun _ _ => False, fun _ _ => False⟩ (startA ["waiting", "row", "signs", "column", "end"] ds) M) :
    FnOk P w K mg base CX0 (k + 1) T.f_letter_of T.fd_letter_of ["waiting", "row", "signs"] (conc K 3 A) := by
  refine fn_abs T.F_letter_of sc_letter_of rfl (fun cdv Ar outer s H E hr => ?_) hp
  have hpo : PassesOwn (model P w) (Ar.deeper (PyProof.Rows.envOfC "letter_of" (defScope s_letter_of) s.heap.objs.size T.f_letter_of cdv)) (PyProof.Rows.envOfC "letter_of" (defScope s_letter_of) s.heap.objs.size T.f_letter_of cdv) (fun _ _ => False) := PassesOwn.never
  exact (as_cons (as_set 3 sc_letter_of.nd (ae_call G_strokes_end hr (by rfl) T.m_strokes_end T.F_strokes_end.kp T.b_strokes_end (aa_cons (ae_var 0) (aa_cons (ae_var 1) (aa_cons (ae_var 2) aa_nil)))))
    (as_cons (as_if (at_cmpR (op_neA (hu64 hr)) sim_eqA (ae_sl (ae_var 2) (ao_some (ae_var 3)) (ao_some (ae_op op_plus sim_add (ae_var 3) ae_int))) ae_str (nomark _)) (as_one as_never) as_nil)
    (as_cons (as_set 4 sc_letter_of.nd (ae_op op_plus sim_add (ae_var 3) ae_int))
    (as_cons (as_if (at_not (at_truth (ae_call G_is_small hr (by rfl) T.m_is_small T.F_is_small.kp T.b_is_small (aa_cons (ae_sl (ae_var 2) (ao_some (ae_op op_plus sim_add (ae_var 3) ae_int)) (ao_some (ae_var 4))) aa_nil)))) (as_one as_never) as_nil)
    (as_cons (as_if (at_truth (ae_call G_is_digit hr (by rfl) T.m_is_digit T.F_is_digit.kp T.b_is_digit (aa_cons (ae_sl (ae_var 2) (ao_some (ae_var 4)) (ao_some (ae_op op_plus sim_add (ae_var 4) ae_int))) aa_nil))) (as_one (as_aug 4 sc_letter_of.nd iop_plus sim_iadd ae_int)) as_nil)
    (as_cons (as_if (at_cmpR op_ltA sim_lt (ae_var 4) (ae_callB call_lenA sim_len (by rfl) T.n_len (by decide +kernel) (aa_cons (ae_var 2) aa_nil)) (nomark _)) (as_one as_never) as_nil)
    (as_one (as_ret (ae_tup (aa_cons ae_str (aa_cons (ae_sl (ae_var 2) (ao_some (ae_op op_plus sim_add (ae_var 3) ae_int)) (ao_some (ae_var 4))) aa_nil)))))))))))
set_option maxHeartbeats 4000000 in
theorem ok_strokes_end (T : Txt K mg) {A_signs_before : ASp} (G_signs_before : FnOk P w K mg base CX0 k T.f_signs_before T.fd_signs_before ["waiting", "row", "signs"] (conc K 3 A_signs_before)) {A : ASp}
    (hp : ∀ ds M Q Xa, ds.length = 3 → A ds M Q Xa → a_strokes_end A_signs_before ax0 ⟨fun _ M => Q .non M, Q, fun _ _ => False, fun _ _ => False⟩ (startA ["waiting", "row", "signs", "start", "column"] ds) M) :
    FnOk P w K mg base CX0 (k + 1) T.f_strokes_end T.fd_strokes_end ["waiting", "row", "signs"] (conc K 3 A) := by
  refine fn_abs T.F_strokes_end sc_strokes_end rfl (fun cdv Ar outer s H E hr => ?_) hp
  have hpo : PassesOwn (model P w) (Ar.deeper (PyProof.Rows.envOfC "strokes_end" (defScope s_strokes_end) s.heap.objs.size T.f_strokes_end cdv)) (PyProof.Rows.envOfC "strokes_end" (defScope s_strokes_end) s.heap.objs.size T.f_strokes_end cdv) (fun _ _ => False) := PassesOwn.never
  exact (as_cons (as_set 3 sc_strokes_end.nd (ae_call G_signs_before hr (by rfl) T.m_signs_before T.F_signs_before.kp T.b_signs_before (aa_cons (ae_var 0) (aa_cons (ae_var 1) (aa_cons (ae_var 2) aa_nil)))))
    (as_cons (as_set 4 sc_strokes_end.nd (ae_var 3))
    (as_cons (as_while hpo (at_cmpR (op_inA (hu65 hr)) sim_in (ae_sl (ae_var 2) (ao_some (ae_var 4)) (ao_some (ae_op op_plus sim_add (ae_var 4) ae_int))) (ae_tup (aa_cons ae_str (aa_cons ae_str (aa_cons ae_str aa_nil)))) (by rfl)) (as_cons (as_expr (ae_append (ae_var 0) (aa_cons (ae_tup (aa_cons (ae_ix (ae_var 2) (ae_var 4) (fun _ _ => rfl)) (aa_cons ae_non aa_nil))) aa_nil)))
    (as_one (as_aug 4 sc_strokes_end.nd iop_plus sim_iadd ae_int))))
    (as_cons (as_if (at_w (aw_or (at_cmpR (op_eqA (hu64 hr)) sim_eqA (ae_var 4) (ae_var 3) (nomark _)) (aw_or1 (at_cmpR (op_neA (hu64 hr)) sim_eqA (ae_ix (ae_var 2) (ae_op op_sub sim_sub (ae_var 4) ae_int) (fun _ _ => rfl)) ae_str (nomark _))))) (as_one as_never) as_nil)
    (as_one (as_ret (ae_var 4)))))))
set_option maxHeartbeats 4000000 in
theorem ok_signs_before (T : Txt K mg) {A_is_open : ASp} (G_is_open : FnOk P w K mg base CX0 k T.f_is_open T.fd_is_open ["stroke", "consequence"] (conc K 2 A_is_open)) {A : ASp}
    (hp : ∀ ds M Q Xa, ds.length = 3 → A ds M Q Xa → a_signs_before A_is_open ax0 ⟨fun _ M => Q .non M, Q, fun _ _ => False, fun _ _ => False⟩ (startA ["waiting", "row", "signs", "wanted", "column", "sign", "stroke", "consequence"] ds) M) :
    FnOk P w K mg base CX0 (k + 1) T.f_signs_before T.fd_signs_before ["waiting", "row", "signs"] (conc K 3 A) := by
  refine fn_abs T.F_signs_before sc_signs_before rfl (fun cdv Ar outer s H E hr => ?_) hp
  have hpo : PassesOwn (model P w) (Ar.deeper (PyProof.Rows.envOfC "signs_before" (defScope s_signs_before) s.heap.objs.size T.f_signs_before cdv)) (PyProof.Rows.envOfC "signs_before" (defScope s_signs_before) s.heap.objs.size T.f_signs_before cdv) (fun _ _ => False) := PassesOwn.never
  exact (as_cons (as_setLc2 6 7 3 rfl sc_signs_before.nd rfl rfl (sw_true rfl rfl rfl (by decide +kernel)) (ai_list (ae_var 0)) (blkOk_by (N := ["waiting", "row", "signs", "wanted", "column", "sign", "stroke", "consequence"]) (sc := defScope s_signs_before) (by decide +kernel)) (fun _ _ _ _ _ => pg_tup rfl (pgs_cons (pg_name (i := 6) sc_signs_before.nd rfl (Or.inl rfl)) (pgs_cons (pg_name (i := 7) sc_signs_before.nd rfl (Or.inl rfl)) pgs_nil))) (fun _ _ _ _ _ => ats_nil) (fun _ _ _ _ _ => (ae_ifExp (at_truth (ae_call G_is_open hr (by rfl) T.m_is_open T.F_is_open.kp T.b_is_open (aa_cons (ae_var 6) (aa_cons (ae_var 7) aa_nil)))) ae_str ae_str)))
    (as_cons (as_if (at_truth (ae_var 3)) (as_one (as_asg ae_str (ag_sub (ae_var 3) (ae_neg ae_int)))) as_nil)
    (as_cons (as_for hpo rfl (ai_enum (by rfl) T.n_enumerate (aa_cons (ae_var 3) aa_nil)) (ag_tup rfl (ags_cons (ag_name 4 sc_signs_before.nd) (ags_cons (ag_name 5 sc_signs_before.nd) ags_nil))) (as_one (as_if (at_cmpR (op_neA (hu64 hr)) sim_eqA (ae_sl (ae_var 2) (ao_some (ae_var 4)) (ao_some (ae_op op_plus sim_add (ae_var 4) ae_int))) (ae_var 5) (nomark _)) (as_one as_never) as_nil)))
    (as_one (as_ret (ae_callB call_lenA sim_len (by rfl) T.n_len (by decide +kernel) (aa_cons (ae_var 3) aa_nil)))))))
set_option maxHeartbeats 4000000 in
theorem ok_is_open (T : Txt K mg)  {A : ASp}
    (hp : ∀ ds M Q Xa, ds.length = 2 → A ds M Q Xa → a_is_open  ax0 ⟨fun _ M => Q .non M, Q, fun _ _ => False, fun _ _ => False⟩ (startA ["stroke", "consequence"] ds) M) :
    FnOk P w K mg base CX0 (k + 1) T.f_is_open T.fd_is_open ["stroke", "consequence"] (conc K 2 A) := by
  refine fn_abs T.F_is_open sc_is_open rfl (fun cdv Ar outer s H E hr => ?_) hp
  have hpo : PassesOwn (model P w) (Ar.deeper (PyProof.Rows.envOfC "is_open" (defScope s_is_open) s.heap.objs.size T.f_is_open cdv)) (PyProof.Rows.envOfC "is_open" (defScope s_is_open) s.heap.objs.size T.f_is_open cdv) (fun _ _ => False) := PassesOwn.never
  exact (as_one (as_ret (ae_and (ae_cmpR (op_eqA (hu64 hr)) sim_eqA (ae_var 0) ae_str (nomark _)) (ae_one (ae_cmpR op_isN sim_isN (ae_var 1) ae_non (nomark _))))))
set_option maxHeartbeats 4000000 in
theorem ok_drawn_whole (T : Txt K mg) {A_is_open : ASp} (G_is_open : FnOk P w K mg base CX0 k T.f_is_open T.fd_is_open ["stroke", "consequence"] (conc K 2 A_is_open)) {A : ASp}
    (hp : ∀ ds M Q Xa, ds.length = 2 → A ds M Q Xa → a_drawn_whole A_is_open ax0 ⟨fun _ M => Q .non M, Q, fun _ _ => False, fun _ _ => False⟩ (startA ["waiting", "formula", "stroke", "consequence"] ds) M) :
    FnOk P w K mg base CX0 (k + 1) T.f_drawn_whole T.fd_drawn_whole ["waiting", "formula"] (conc K 2 A) := by
  refine fn_abs T.F_drawn_whole sc_drawn_whole rfl (fun cdv Ar outer s H E hr => ?_) hp
  have hpo : PassesOwn (model P w) (Ar.deeper (PyProof.Rows.envOfC "drawn_whole" (defScope s_drawn_whole) s.heap.objs.size T.f_drawn_whole cdv)) (PyProof.Rows.envOfC "drawn_whole" (defScope s_drawn_whole) s.heap.objs.size T.f_drawn_whole cdv) (fun _ _ => False) := PassesOwn.never
  exact (as_cons (as_while hpo (at_truth (ae_var 0)) (as_cons (as_asg (ae_pop (ae_var 0)) (ag_tup rfl (ags_cons (ag_name 2 sc_drawn_whole.nd) (ags_cons (ag_name 3 sc_drawn_whole.nd) ags_nil))))
    (as_cons (as_if (at_truth (ae_call G_is_open hr (by rfl) T.m_is_open T.F_is_open.kp T.b_is_open (aa_cons (ae_var 2) (aa_cons (ae_var 3) aa_nil)))) (as_cons (as_expr (ae_append (ae_var 0) (aa_cons (ae_tup (aa_cons (ae_var 2) (aa_cons (ae_var 1) aa_nil))) aa_nil)))
    (as_one (as_ret ae_non))) as_nil)
    (as_one (as_if (at_cmpR (op_eqA (hu64 hr)) sim_eqA (ae_var 2) ae_str (nomark _)) (as_one (as_set 1 sc_drawn_whole.nd (ae_tup (aa_cons ae_str (aa_cons (ae_var 1) (aa_cons (ae_var 3) aa_nil)))))) (as_one (as_if (at_cmpR (op_eqA (hu64 hr)) sim_eqA (ae_var 2) ae_str (nomark _)) (as_one (as_set 1 sc_drawn_whole.nd (ae_tup (aa_cons ae_str (aa_cons (ae_var 1) aa_nil))))) as_nil)))))))
    (as_one (as_ret (ae_var 1))))
set_option maxHeartbeats 4000000 in
theorem ok__law_cell (T : Txt K mg)  {A : ASp}
    (hp : ∀ ds M Q Xa, ds.length = 2 → A ds M Q Xa → a__law_cell  ax0 ⟨fun _ M => Q .non M, Q, fun _ _ => False, fun _ _ => False⟩ (startA ["script", "k"] ds) M) :
    FnOk P w K mg base CX0 (k + 1) T.f__law_cell T.fd__law_cell ["script", "k"] (conc K 2 A) := by
  refine fn_abs T.F__law_cell sc__law_cell rfl (fun cdv Ar outer s H E hr => ?_) hp
  have hpo : PassesOwn (model P w) (Ar.deeper (PyProof.Rows.envOfC "_law_cell" (defScope s__law_cell) s.heap.objs.size T.f__law_cell cdv)) (PyProof.Rows.envOfC "_law_cell" (defScope s__law_cell) s.heap.objs.size T.f__law_cell cdv) (fun _ _ => False) := PassesOwn.never
  exact (as_cons (as_if (at_cmpR op_ltA sim_lt (ae_var 1) (ae_callB call_lenA sim_len (by rfl) T.n_len (by decide +kernel) (aa_cons (ae_var 0) aa_nil)) (nomark _)) (as_one (as_ret (ae_ix (ae_var 0) (ae_var 1) (fun _ _ => rfl)))) as_nil)
    (as_one (as_ret ae_int)))
set_option maxHeartbeats 4000000 in
theorem ok__law_digits (T : Txt K mg) {A__law_cell : ASp} (G__law_cell : FnOk P w K mg base CX0 k T.f__law_cell T.fd__law_cell ["script", "k"] (conc K 2 A__law_cell)) {A : ASp}
    (hp : ∀ ds M Q Xa, ds.length = 3 → A ds M Q Xa → a__law_digits A__law_cell ax0 ⟨fun _ M => Q .non M, Q, fun _ _ => False, fun _ _ => False⟩ (startA ["script", "first", "last", "digits", "k", "cell", "turn", "seed"] ds) M) :
    FnOk P w K mg base CX0 (k + 1) T.f__law_digits T.fd__law_digits ["script", "first", "last"] (conc K 3 A) := by
  refine fn_abs T.F__law_digits sc__law_digits rfl (fun cdv Ar outer s H E hr => ?_) hp
  have hpo : PassesOwn (model P w) (Ar.deeper (PyProof.Rows.envOfC "_law_digits" (defScope s__law_digits) s.heap.objs.size T.f__law_digits cdv)) (PyProof.Rows.envOfC "_law_digits" (defScope s__law_digits) s.heap.objs.size T.f__law_digits cdv) (fun _ _ => False) := PassesOwn.never
  exact (as_cons (as_set 3 sc__law_digits.nd (ae_lst aa_nil))
    (as_cons (as_for hpo rfl (ai_rng2 (by rfl) T.n_range (aa_cons (ae_var 1) (aa_cons (ae_var 2) aa_nil))) (ag_name 4 sc__law_digits.nd) (as_cons (as_set 5 sc__law_digits.nd (ae_call G__law_cell hr (by rfl) T.m__law_cell T.F__law_cell.kp T.b__law_cell (aa_cons (ae_var 0) (aa_cons (ae_var 4) aa_nil))))
    (as_cons (as_if (at_cmpR op_ltA sim_lt (ae_var 5) ae_int (nomark _)) (as_one (as_set 5 sc__law_digits.nd (ae_op op_sub sim_sub ae_int (ae_op op_mul sim_mul ae_int (ae_var 5))))) as_nil)
    (as_one (as_if (at_cmpR op_ge sim_ge (ae_var 5) (ae_op op_pow sim_pow ae_int ae_int) (nomark _)) (as_one (as_for hpo rfl (ai_rng1 (by rfl) T.n_range (aa_cons ae_int aa_nil)) (ag_name 6 sc__law_digits.nd) (as_one (as_if (at_cmpR op_gt sim_gt (ae_var 5) ae_int (nomark _)) (as_cons (as_expr (ae_append (ae_var 3) (aa_cons (ae_op op_mod sim_mod (ae_callTy call_int1 sim_int (by rfl) T.n_int (by decide +kernel) (aa_cons (ae_var 5) aa_nil)) ae_int) aa_nil)))
    (as_one (as_set 5 sc__law_digits.nd (ae_op op_fdiv sim_fdiv (ae_var 5) ae_int)))) as_nil)))) (as_cons (as_set 7 sc__law_digits.nd (ae_op op_mod sim_mod (ae_callTy call_int1 sim_int (by rfl) T.n_int (by decide +kernel) (aa_cons (ae_op op_plus sim_add (ae_op op_plus sim_add (ae_op op_mul sim_mul (ae_var 5) ae_int) (ae_op op_mul sim_mul (ae_var 4) ae_int)) ae_int) aa_nil)) ae_int))
    (as_one (as_for hpo rfl (ai_rng1 (by rfl) T.n_range (aa_cons ae_int aa_nil)) (ag_name 6 sc__law_digits.nd) (as_cons (as_set 7 sc__law_digits.nd (ae_op op_mod sim_mod (ae_callTy call_int1 sim_int (by rfl) T.n_int (by decide +kernel) (aa_cons (ae_op op_plus sim_add (ae_op op_plus sim_add (ae_op op_mul sim_mul (ae_var 7) ae_int) (ae_op op_mul sim_mul ae_int (ae_var 6))) ae_int) aa_nil)) ae_int))
    (as_one (as_expr (ae_append (ae_var 3) (aa_cons (ae_op op_mod sim_mod (ae_callTy call_int1 sim_int (by rfl) T.n_int (by decide +kernel) (aa_cons (ae_op op_fdiv sim_fdiv (ae_var 7) ae_int) aa_nil)) ae_int) aa_nil)))))))))))))
    (as_one (as_ret (ae_var 3)))))
set_option maxHeartbeats 4000000 in
theorem ok__law_box (T : Txt K mg) {A__law_digits : ASp} (G__law_digits : FnOk P w K mg base CX0 k T.f__law_digits T.fd__law_digits ["script", "first", "last"] (conc K 3 A__law_digits)) {A : ASp}
    (hp : ∀ ds M Q Xa, ds.length = 3 → A ds M Q Xa → a__law_box A__law_digits ax0 ⟨fun _ M => Q .non M, Q, fun _ _ => False, fun _ _ => False⟩ (startA ["script", "first", "last"] ds) M) :
    FnOk P w K mg base CX0 (k + 1) T.f__law_box T.fd__law_box ["script", "first", "last"] (conc K 3 A) := by
  refine fn_abs T.F__law_box sc__law_box rfl (fun cdv Ar outer s H E hr => ?_) hp
  have hpo : PassesOwn (model P w) (Ar.deeper (PyProof.Rows.envOfC "_law_box" (defScope s__law_box) s.heap.objs.size T.f__law_box cdv)) (PyProof.Rows.envOfC "_law_box" (defScope s__law_box) s.heap.objs.size T.f__law_box cdv) (fun _ _ => False) := PassesOwn.never
  exact (as_one (as_ret (ae_lst (aa_cons (ae_call G__law_digits hr (by rfl) T.m__law_digits T.F__law_digits.kp T.b__law_digits (aa_cons (ae_var 0) (aa_cons (ae_var 1) (aa_cons (ae_var 2) aa_nil)))) (aa_cons ae_int aa_nil)))))
set_option maxHeartbeats 4000000 in
theorem ok__law_draw (T : Txt K mg)  {A : ASp}
    (hp : ∀ ds M Q Xa, ds.length = 2 → A ds M Q Xa → a__law_draw  ax0 ⟨fun _ M => Q .non M, Q, fun _ _ => False, fun _ _ => False⟩ (startA ["box", "many", "at"] ds) M) :
    FnOk P w K mg base CX0 (k + 1) T.f__law_draw T.fd__law_draw ["box", "many"] (conc K 2 A) := by
  refine fn_abs T.F__law_draw sc__law_draw rfl (fun cdv Ar outer s H E hr => ?_) hp
  have hpo : PassesOwn (model P w) (Ar.deeper (PyProof.Rows.envOfC "_law_draw" (defScope s__law_draw) s.heap.objs.size T.f__law_draw cdv)) (PyProof.Rows.envOfC "_law_draw" (defScope s__law_draw) s.heap.objs.size T.f__law_draw cdv) (fun _ _ => False) := PassesOwn.never
  exact (as_cons (as_set 2 sc__law_draw.nd (ae_ix (ae_var 0) ae_int (fun _ _ => rfl)))
    (as_cons (as_asg (ae_op op_plus sim_add (ae_var 2) ae_int) (ag_sub (ae_var 0) ae_int))
    (as_cons (as_if (at_cmpR op_ltA sim_lt (ae_var 2) (ae_callB call_lenA sim_len (by rfl) T.n_len (by decide +kernel) (aa_cons (ae_ix (ae_var 0) ae_int (fun _ _ => rfl)) aa_nil)) (nomark _)) (as_one (as_ret (ae_op op_mod sim_mod (ae_callTy call_int1 sim_int (by rfl) T.n_int (by decide +kernel) (aa_cons (ae_ix (ae_ix (ae_var 0) ae_int (fun _ _ => rfl)) (ae_var 2) (fun _ _ => rfl)) aa_nil)) (ae_var 1)))) as_nil)
    (as_one (as_ret ae_int)))))
set_option maxHeartbeats 4000000 in
theorem ok__law_put (T : Txt K mg) {A__law_put : ASp} (G__law_put : FnOk P w K mg base CX0 k T.f__law_put T.fd__law_put ["formula", "table"] (conc K 2 A__law_put)) {A : ASp}
    (hp : ∀ ds M Q Xa, ds.length = 2 → A ds M Q Xa → a__law_put A__law_put ax0 ⟨fun _ M => Q .non M, Q, fun _ _ => False, fun _ _ => False⟩ (startA ["formula", "table", "part"] ds) M) :
    FnOk P w K mg base CX0 (k + 1) T.f__law_put T.fd__law_put ["formula", "table"] (conc K 2 A) := by
  refine fn_abs T.F__law_put sc__law_put rfl (fun cdv Ar outer s H E hr => ?_) hp
  have hpo : PassesOwn (model P w) (Ar.deeper (PyProof.Rows.envOfC "_law_put" (defScope s__law_put) s.heap.objs.size T.f__law_put cdv)) (PyProof.Rows.envOfC "_law_put" (defScope s__law_put) s.heap.objs.size T.f__law_put cdv) (fun _ _ => False) := PassesOwn.never
  exact (as_cons (as_if (at_cmpR (op_eqA (hu64 hr)) sim_eqA (ae_ix (ae_var 0) ae_int (fun _ _ => rfl)) ae_str (nomark _)) (as_one (as_ret (ae_dget2 (hu1 hr) (ae_var 1) (ae_ix (ae_var 0) ae_int (fun _ _ => rfl)) (ae_var 0) ⟨rfl, rfl, rfl, rfl⟩))) as_nil)
    (as_one (as_ret (ae_op op_plus sim_add (ae_tup (aa_cons (ae_ix (ae_var 0) ae_int (fun _ _ => rfl)) aa_nil)) (ae_callTy call_tuple_of sim_tuple (by rfl) T.n_tuple (by decide +kernel) (aa_cons (ae_lc 2 rfl sc__law_put.nd (ai_tup (ae_sl (ae_var 0) (ao_some ae_int) ao_none)) (blkOk_by (N := ["formula", "table", "part"]) (sc := defScope s__law_put) (by decide +kernel)) (fun _ _ _ _ _ => pg_name (i := 2) sc__law_put.nd rfl (Or.inl rfl)) (fun _ _ _ _ _ => ats_nil) (fun _ _ _ _ _ => (ae_call G__law_put hr (by rfl) T.m__law_put T.F__law_put.kp T.b__law_put (aa_cons (ae_var 2) (aa_cons (ae_var 1) aa_nil))))) aa_nil))))))
set_option maxHeartbeats 4000000 in
theorem ok__law_any (T : Txt K mg) {A__law_draw : ASp} (G__law_draw : FnOk P w K mg base CX0 k T.f__law_draw T.fd__law_draw ["box", "many"] (conc K 2 A__law_draw)) {A__law_any : ASp} (G__law_any : FnOk P w K mg base CX0 k T.f__law_any T.fd__law_any ["box", "room", "many"] (conc K 3 A__law_any)) {A : ASp}
    (hp : ∀ ds M Q Xa, ds.length = 3 → A ds M Q Xa → a__law_any A__law_draw A__law_any ax0 ⟨fun _ M => Q .non M, Q, fun _ _ => False, fun _ _ => False⟩ (startA ["box", "room", "many", "kind", "left", "first"] ds) M) :
    FnOk P w K mg base CX0 (k + 1) T.f__law_any T.fd__law_any ["box", "room", "many"] (conc K 3 A) := by
  refine fn_abs T.F__law_any sc__law_any rfl (fun cdv Ar outer s H E hr => ?_) hp
  have hpo : PassesOwn (model P w) (Ar.deeper (PyProof.Rows.envOfC "_law_any" (defScope s__law_any) s.heap.objs.size T.f__law_any cdv)) (PyProof.Rows.envOfC "_law_any" (defScope s__law_any) s.heap.objs.size T.f__law_any cdv) (fun _ _ => False) := PassesOwn.never
  exact (as_cons (as_set 3 sc__law_any.nd (ae_call G__law_draw hr (by rfl) T.m__law_draw T.F__law_draw.kp T.b__law_draw (aa_cons (ae_var 0) (aa_cons ae_int aa_nil))))
    (as_cons (as_if (at_w (aw_or (at_cmpR op_ltA sim_lt (ae_var 1) ae_int (nomark _)) (aw_or1 (at_cmpR op_ltA sim_lt (ae_var 3) ae_int (nomark _))))) (as_one (as_ret (ae_tup (aa_cons ae_str (aa_cons (ae_ix ae_str (ae_call G__law_draw hr (by rfl) T.m__law_draw T.F__law_draw.kp T.b__law_draw (aa_cons (ae_var 0) (aa_cons (ae_var 2) aa_nil))) (fun _ _ => rfl)) aa_nil))))) as_nil)
    (as_cons (as_if (at_w (aw_or (at_cmpR op_ltA sim_lt (ae_var 1) ae_int (nomark _)) (aw_or1 (at_cmpR op_ltA sim_lt (ae_var 3) ae_int (nomark _))))) (as_one (as_ret (ae_tup (aa_cons ae_str (aa_cons (ae_call G__law_any hr (by rfl) T.m__law_any T.F__law_any.kp T.b__law_any (aa_cons (ae_var 0) (aa_cons (ae_op op_sub sim_sub (ae_var 1) ae_int) (aa_cons (ae_var 2) aa_nil)))) aa_nil))))) as_nil)
    (as_cons (as_set 4 sc__law_any.nd (ae_op op_plus sim_add ae_int (ae_call G__law_draw hr (by rfl) T.m__law_draw T.F__law_draw.kp T.b__law_draw (aa_cons (ae_var 0) (aa_cons (ae_op op_sub sim_sub (ae_var 1) ae_int) aa_nil)))))
    (as_cons (as_set 5 sc__law_any.nd (ae_call G__law_any hr (by rfl) T.m__law_any T.F__law_any.kp T.b__law_any (aa_cons (ae_var 0) (aa_cons (ae_var 4) (aa_cons (ae_var 2) aa_nil)))))
    (as_one (as_ret (ae_tup (aa_cons ae_str (aa_cons (ae_var 5) (aa_cons (ae_call G__law_any hr (by rfl) T.m__law_any T.F__law_any.kp T.b__law_any (aa_cons (ae_var 0) (aa_cons (ae_op op_sub sim_sub (ae_op op_sub sim_sub (ae_var 1) ae_int) (ae_var 4)) (aa_cons (ae_var 2) aa_nil)))) aa_nil)))))))))))
set_option maxHeartbeats 4000000 in
theorem ok__law_lettered (T : Txt K mg) {A__law_draw : ASp} (G__law_draw : FnOk P w K mg base CX0 k T.f__law_draw T.fd__law_draw ["box", "many"] (conc K 2 A__law_draw)) {A__law_put : ASp} (G__law_put : FnOk P w K mg base CX0 k T.f__law_put T.fd__law_put ["formula", "table"] (conc K 2 A__law_put)) {A__law_any : ASp} (G__law_any : FnOk P w K mg base CX0 k T.f__law_any T.fd__law_any ["box", "room", "many"] (conc K 3 A__law_any)) {A : ASp}
    (hp : ∀ ds M Q Xa, ds.length = 3 → A ds M Q Xa → a__law_lettered A__law_draw A__law_put A__law_any ax0 ⟨fun _ M => Q .non M, Q, fun _ _ => False, fun _ _ => False⟩ (startA ["box", "room", "many", "names", "table", "name"] ds) M) :
    FnOk P w K mg base CX0 (k + 1) T.f__law_lettered T.fd__law_lettered ["box", "room", "many"] (conc K 3 A) := by
  refine fn_abs T.F__law_lettered sc__law_lettered rfl (fun cdv Ar outer s H E hr => ?_) hp
  have hpo : PassesOwn (model P w) (Ar.deeper (PyProof.Rows.envOfC "_law_lettered" (defScope s__law_lettered) s.heap.objs.size T.f__law_lettered cdv)) (PyProof.Rows.envOfC "_law_lettered" (defScope s__law_lettered) s.heap.objs.size T.f__law_lettered cdv) (fun _ _ => False) := PassesOwn.never
  exact (as_cons (as_set 3 sc__law_lettered.nd (ae_lst (aa_cons ae_str (aa_cons ae_str (aa_cons ae_str (aa_cons ae_str (aa_cons ae_str (aa_cons ae_str aa_nil))))))))
    (as_cons (as_set 4 sc__law_lettered.nd ae_dnew)
    (as_cons (as_for hpo rfl (ai_list (ae_lst (aa_cons ae_str (aa_cons ae_str (aa_cons ae_str (aa_cons ae_str (aa_cons ae_str (aa_cons ae_str (aa_cons ae_str (aa_cons ae_str aa_nil)))))))))) (ag_name 5 sc__law_lettered.nd) (as_one (as_dput (hu1 hr) (ae_var 4) (ae_var 5) (ae_tup (aa_cons ae_str (aa_cons (ae_ix (ae_var 3) (ae_call G__law_draw hr (by rfl) T.m__law_draw T.F__law_draw.kp T.b__law_draw (aa_cons (ae_var 0) (aa_cons ae_int aa_nil))) (fun _ _ => rfl)) aa_nil))))))
    (as_one (as_ret (ae_call G__law_put hr (by rfl) T.m__law_put T.F__law_put.kp T.b__law_put (aa_cons (ae_call G__law_any hr (by rfl) T.m__law_any T.F__law_any.kp T.b__law_any (aa_cons (ae_var 0) (aa_cons (ae_var 1) (aa_cons (ae_var 2) aa_nil)))) (aa_cons (ae_var 4) aa_nil))))))))
set_option maxHeartbeats 4000000 in
theorem ok__law_under (T : Txt K mg)  {A : ASp}
    (hp : ∀ ds M Q Xa, ds.length = 3 → A ds M Q Xa → a__law_under  ax0 ⟨fun _ M => Q .non M, Q, fun _ _ => False, fun _ _ => False⟩ (startA ["rows", "first", "others", "row"] ds) M) :
    FnOk P w K mg base CX0 (k + 1) T.f__law_under T.fd__law_under ["rows", "first", "others"] (conc K 3 A) := by
  refine fn_abs T.F__law_under sc__law_under rfl (fun cdv Ar outer s H E hr => ?_) hp
  have hpo : PassesOwn (model P w) (Ar.deeper (PyProof.Rows.envOfC "_law_under" (defScope s__law_under) s.heap.objs.size T.f__law_under cdv)) (PyProof.Rows.envOfC "_law_under" (defScope s__law_under) s.heap.objs.size T.f__law_under cdv) (fun _ _ => False) := PassesOwn.never
  exact (as_one (as_ret (ae_op op_plus sim_add (ae_lst (aa_cons (ae_op op_plus sim_add (ae_var 1) (ae_ix (ae_var 0) ae_int (fun _ _ => rfl))) aa_nil)) (ae_lc 3 rfl sc__law_under.nd (ai_list (ae_sl (ae_var 0) (ao_some ae_int) ao_none)) (blkOk_by (N := ["rows", "first", "others", "row"]) (sc := defScope s__law_under) (by decide +kernel)) (fun _ _ _ _ _ => pg_name (i := 3) sc__law_under.nd rfl (Or.inl rfl)) (fun _ _ _ _ _ => ats_nil) (fun _ _ _ _ _ => (ae_op op_plus sim_add (ae_var 2) (ae_var 3)))))))
set_option maxHeartbeats 4000000 in
theorem ok__law_drawing (T : Txt K mg) {A__law_under : ASp} (G__law_under : FnOk P w K mg base CX0 k T.f__law_under T.fd__law_under ["rows", "first", "others"] (conc K 3 A__law_under)) {A__law_drawing : ASp} (G__law_drawing : FnOk P w K mg base CX0 k T.f__law_drawing T.fd__law_drawing ["formula"] (conc K 1 A__law_drawing)) {A : ASp}
    (hp : ∀ ds M Q Xa, ds.length = 1 → A ds M Q Xa → a__law_drawing A__law_under A__law_drawing ax0 ⟨fun _ M => Q .non M, Q, fun _ _ => False, fun _ _ => False⟩ (startA ["formula", "upper"] ds) M) :
    FnOk P w K mg base CX0 (k + 1) T.f__law_drawing T.fd__law_drawing ["formula"] (conc K 1 A) := by
  refine fn_abs T.F__law_drawing sc__law_drawing rfl (fun cdv Ar outer s H E hr => ?_) hp
  have hpo : PassesOwn (model P w) (Ar.deeper (PyProof.Rows.envOfC "_law_drawing" (defScope s__law_drawing) s.heap.objs.size T.f__law_drawing cdv)) (PyProof.Rows.envOfC "_law_drawing" (defScope s__law_drawing) s.heap.objs.size T.f__law_drawing cdv) (fun _ _ => False) := PassesOwn.never
  exact (as_cons (as_if (at_cmpR (op_eqA (hu64 hr)) sim_eqA (ae_ix (ae_var 0) ae_int (fun _ _ => rfl)) ae_str (nomark _)) (as_one (as_ret (ae_lst (aa_cons (ae_op op_plus sim_add ae_str (ae_ix (ae_var 0) ae_int (fun _ _ => rfl))) aa_nil)))) as_nil)
    (as_cons (as_if (at_cmpR (op_eqA (hu64 hr)) sim_eqA (ae_ix (ae_var 0) ae_int (fun _ _ => rfl)) ae_str (nomark _)) (as_one (as_ret (ae_call G__law_under hr (by rfl) T.m__law_under T.F__law_under.kp T.b__law_under (aa_cons (ae_call G__law_drawing hr (by rfl) T.m__law_drawing T.F__law_drawing.kp T.b__law_drawing (aa_cons (ae_ix (ae_var 0) ae_int (fun _ _ => rfl)) aa_nil)) (aa_cons ae_str (aa_cons ae_str aa_nil)))))) as_nil)
    (as_cons (as_set 1 sc__law_drawing.nd (ae_call G__law_under hr (by rfl) T.m__law_under T.F__law_under.kp T.b__law_under (aa_cons (ae_call G__law_drawing hr (by rfl) T.m__law_drawing T.F__law_drawing.kp T.b__law_drawing (aa_cons (ae_ix (ae_var 0) ae_int (fun _ _ => rfl)) aa_nil)) (aa_cons ae_str (aa_cons ae_str aa_nil)))))
    (as_one (as_ret (ae_op op_plus sim_add (ae_var 1) (ae_call G__law_under hr (by rfl) T.m__law_under T.F__law_under.kp T.b__law_under (aa_cons (ae_call G__law_drawing hr (by rfl) T.m__law_drawing T.F__law_drawing.kp T.b__law_drawing (aa_cons (ae_ix (ae_var 0) ae_int (fun _ _ => rfl)) aa_nil)) (aa_cons ae_str (aa_cons ae_str aa_nil))))))))))
set_option maxHeartbeats 4000000 in
theorem ok__law_same (T : Txt K mg) {A__law_same : ASp} (G__law_same : FnOk P w K mg base CX0 k T.f__law_same T.fd__law_same ["actual", "expected"] (conc K 2 A__law_same)) {A : ASp}
    (hp : ∀ ds M Q Xa, ds.length = 2 → A ds M Q Xa → a__law_same A__law_same ax0 ⟨fun _ M => Q .non M, Q, fun _ _ => False, fun _ _ => False⟩ (startA ["actual", "expected", "k"] ds) M) :
    FnOk P w K mg base CX0 (k + 1) T.f__law_same T.fd__law_same ["actual", "expected"] (conc K 2 A) := by
  refine fn_abs T.F__law_same sc__law_same rfl (fun cdv Ar outer s H E hr => ?_) hp
  have hpo : PassesOwn (model P w) (Ar.deeper (PyProof.Rows.envOfC "_law_same" (defScope s__law_same) s.heap.objs.size T.f__law_same cdv)) (PyProof.Rows.envOfC "_law_same" (defScope s__law_same) s.heap.objs.size T.f__law_same cdv) (fun _ _ => False) := PassesOwn.never
  exact (as_cons (as_if (at_truth (ae_isi (by rfl) T.n_isinstance (by decide +kernel) (ae_var 1) (by rfl) T.n_tuple (by decide +kernel) (by decide +kernel))) (as_cons (as_if (at_w (aw_or (at_not (at_truth (ae_isi (by rfl) T.n_isinstance (by decide +kernel) (ae_var 0) (by rfl) T.n_tuple (by decide +kernel) (by decide +kernel)))) (aw_or1 (at_cmpR (op_neA (hu64 hr)) sim_eqA (ae_callB call_lenA sim_len (by rfl) T.n_len (by decide +kernel) (aa_cons (ae_var 0) aa_nil)) (ae_callB call_lenA sim_len (by rfl) T.n_len (by decide +kernel) (aa_cons (ae_var 1) aa_nil)) (nomark _))))) (as_one (as_ret ae_bl)) as_nil)
    (as_cons (as_for hpo rfl (ai_rng1 (by rfl) T.n_range (aa_cons (ae_callB call_lenA sim_len (by rfl) T.n_len (by decide +kernel) (aa_cons (ae_var 1) aa_nil)) aa_nil)) (ag_name 2 sc__law_same.nd) (as_one (as_if (at_not (at_truth (ae_call G__law_same hr (by rfl) T.m__law_same T.F__law_same.kp T.b__law_same (aa_cons (ae_ix (ae_var 0) (ae_var 2) (fun _ _ => rfl)) (aa_cons (ae_ix (ae_var 1) (ae_var 2) (fun _ _ => rfl)) aa_nil))))) (as_one (as_ret ae_bl)) as_nil)))
    (as_one (as_ret ae_bl)))) as_nil)
    (as_cons (as_if (at_cmpR op_isN sim_isN (ae_var 1) ae_non (nomark _)) (as_one (as_ret (ae_cmpR op_isN sim_isN (ae_var 0) ae_non (nomark _)))) as_nil)
    (as_cons (as_if (at_truth (ae_isi (by rfl) T.n_isinstance (by decide +kernel) (ae_var 1) (by rfl) T.n_bool (by decide +kernel) (by decide +kernel))) (as_one (as_ret (ae_and (ae_isi (by rfl) T.n_isinstance (by decide +kernel) (ae_var 0) (by rfl) T.n_bool (by decide +kernel) (by decide +kernel)) (ae_one (ae_cmpR (op_eqA (hu64 hr)) sim_eqA (ae_var 0) (ae_var 1) (nomark _)))))) as_nil)
    (as_cons (as_if (at_truth (ae_isi (by rfl) T.n_isinstance (by decide +kernel) (ae_var 1) (by rfl) T.n_int (by decide +kernel) (by decide +kernel))) (as_one (as_ret (ae_and (ae_isi (by rfl) T.n_isinstance (by decide +kernel) (ae_var 0) (by rfl) T.n_int (by decide +kernel) (by decide +kernel)) (ae_and (ae_not (ae_isi (by rfl) T.n_isinstance (by decide +kernel) (ae_var 0) (by rfl) T.n_bool (by decide +kernel) (by decide +kernel))) (ae_one (ae_cmpR (op_eqA (hu64 hr)) sim_eqA (ae_var 0) (ae_var 1) (nomark _))))))) as_nil)
    (as_one (as_ret (ae_and (ae_isi (by rfl) T.n_isinstance (by decide +kernel) (ae_var 0) (by rfl) T.n_str (by decide +kernel) (by decide +kernel)) (ae_one (ae_cmpR (op_eqA (hu64 hr)) sim_eqA (ae_var 0) (ae_var 1) (nomark _))))))))))
set_option maxHeartbeats 4000000 in
theorem ok_law (T : Txt K mg) {A__law_box : ASp} (G__law_box : FnOk P w K mg base CX0 k T.f__law_box T.fd__law_box ["script", "first", "last"] (conc K 3 A__law_box)) {A__law_lettered : ASp} (G__law_lettered : FnOk P w K mg base CX0 k T.f__law_lettered T.fd__law_lettered ["box", "room", "many"] (conc K 3 A__law_lettered)) {A__law_drawing : ASp} (G__law_drawing : FnOk P w K mg base CX0 k T.f__law_drawing T.fd__law_drawing ["formula"] (conc K 1 A__law_drawing)) {A__law_same : ASp} (G__law_same : FnOk P w K mg base CX0 k T.f__law_same T.fd__law_same ["actual", "expected"] (conc K 2 A__law_same)) {A_draw : ASp} (G_draw : FnOk P w K mg base CX0 k T.f_draw T.fd_draw ["formula"] (conc K 1 A_draw)) {A_read_drawing : ASp} (G_read_drawing : FnOk P w K mg base CX0 k T.f_read_drawing T.fd_read_drawing ["rows"] (conc K 1 A_read_drawing)) {A_height : ASp} (G_height : FnOk P w K mg base CX0 k T.f_height T.fd_height ["formula"] (conc K 1 A_height)) {A_width : ASp} (G_width : FnOk P w K mg base CX0 k T.f_width T.fd_width ["formula"] (conc K 1 A_width)) {A : ASp}
    (hp : ∀ ds M Q Xa, ds.length = 1 → A ds M Q Xa → a_law A__law_box A__law_lettered A__law_drawing A__law_same A_draw A_read_drawing A_height A_width ax0 ⟨fun _ M => Q .non M, Q, fun _ _ => False, fun _ _ => False⟩ (startA ["script", "box", "k", "formula", "rows", "row"] ds) M) :
    FnOk P w K mg base CX0 (k + 1) T.f_law T.fd_law ["script"] (conc K 1 A) := by
  refine fn_abs T.F_law sc_law rfl (fun cdv Ar outer s H E hr => ?_) hp
  have hpo : PassesOwn (model P w) (Ar.deeper (PyProof.Rows.envOfC "law" (defScope s_law) s.heap.objs.size T.f_law cdv)) (PyProof.Rows.envOfC "law" (defScope s_law) s.heap.objs.size T.f_law cdv) (fun _ _ => False) := PassesOwn.never
  exact (as_cons (as_set 1 sc_law.nd (ae_call G__law_box hr (by rfl) T.m__law_box T.F__law_box.kp T.b__law_box (aa_cons (ae_var 0) (aa_cons ae_int (aa_cons ae_int aa_nil)))))
    (as_cons (as_for hpo rfl (ai_rng1 (by rfl) T.n_range (aa_cons ae_int aa_nil)) (ag_name 2 sc_law.nd) (as_cons (as_set 3 sc_law.nd (ae_call G__law_lettered hr (by rfl) T.m__law_lettered T.F__law_lettered.kp T.b__law_lettered (aa_cons (ae_var 1) (aa_cons (ae_ix (ae_lst (aa_cons ae_int (aa_cons ae_int (aa_cons ae_int (aa_cons ae_int (aa_cons ae_int aa_nil)))))) (ae_var 2) (fun _ _ => rfl)) (aa_cons ae_int aa_nil)))))
    (as_cons (as_set 4 sc_law.nd (ae_callTy call_tuple_of sim_tuple (by rfl) T.n_tuple (by decide +kernel) (aa_cons (ae_call G__law_drawing hr (by rfl) T.m__law_drawing T.F__law_drawing.kp T.b__law_drawing (aa_cons (ae_var 3) aa_nil)) aa_nil)))
    (as_cons (as_if (at_w (aw_or (at_not (at_truth (ae_call G__law_same hr (by rfl) T.m__law_same T.F__law_same.kp T.b__law_same (aa_cons (ae_call G_draw hr (by rfl) T.m_draw T.F_draw.kp T.b_draw (aa_cons (ae_var 3) aa_nil)) (aa_cons (ae_var 4) aa_nil))))) (aw_or1 (at_not (at_truth (ae_call G__law_same hr (by rfl) T.m__law_same T.F__law_same.kp T.b__law_same (aa_cons (ae_call G_read_drawing hr (by rfl) T.m_read_drawing T.F_read_drawing.kp T.b_read_drawing (aa_cons (ae_var 4) aa_nil)) (aa_cons (ae_var 3) aa_nil)))))))) (as_one (as_ret ae_bl)) as_nil)
    (as_one (as_if (at_w (aw_or (at_not (at_truth (ae_call G__law_same hr (by rfl) T.m__law_same T.F__law_same.kp T.b__law_same (aa_cons (ae_call G_height hr (by rfl) T.m_height T.F_height.kp T.b_height (aa_cons (ae_var 3) aa_nil)) (aa_cons (ae_callB call_lenA sim_len (by rfl) T.n_len (by decide +kernel) (aa_cons (ae_var 4) aa_nil)) aa_nil))))) (aw_or1 (at_not (at_truth (ae_call G__law_same hr (by rfl) T.m__law_same T.F__law_same.kp T.b__law_same (aa_cons (ae_call G_width hr (by rfl) T.m_width T.F_width.kp T.b_width (aa_cons (ae_var 3) aa_nil)) (aa_cons (ae_callB (cr_max rfl) sim_maxI (by rfl) T.n_max (by decide +kernel) (aa_cons (ae_lc 5 rfl sc_law.nd (ai_tup (ae_var 4)) (blkOk_by (N := ["script", "box", "k", "formula", "rows", "row"]) (sc := defScope s_law) (by decide +kernel)) (fun _ _ _ _ _ => pg_name (i := 5) sc_law.nd rfl (Or.inl rfl)) (fun _ _ _ _ _ => ats_nil) (fun _ _ _ _ _ => (ae_callB call_lenA sim_len (by rfl) T.n_len (by decide +kernel) (aa_cons (ae_var 5) aa_nil)))) aa_nil)) aa_nil)))))))) (as_one (as_ret ae_bl)) as_nil))))))
    (as_one (as_ret ae_bl))))
end
set_option maxHeartbeats 0 in
theorem txt_mk {K : PySem.W.Frag} {h : Heap} {mg : Str → Option Value} (X : K.In h) (G : h.Ns mainGlobals mg)
    {f0 : Addr} {od0 an0 : Option Addr} {sl0 : Array (Option Value)} {oc0 kV0 dc0 pm0 cd0 ct0 : Value}
    (a0 : PySem.W.nsIn K mainGlobals "is_small" = some (some (.ref f0))) (l0 : K.lookup f0 = some ⟨oc0, od0, .func (PySem.W.fnOf "is_small" "is_small" (defArgs s_is_small) (defBody s_is_small) (defScope s_is_small) .none kV0 dc0 pm0 an0 cd0 ct0), sl0⟩) (c0 : PySem.W.codeIn K cd0 "is_small" = true) (k0 : PySem.W.keepIn K (.ref f0) = true)
    {f1 : Addr} {od1 an1 : Option Addr} {sl1 : Array (Option Value)} {oc1 kV1 dc1 pm1 cd1 ct1 : Value}
    (a1 : PySem.W.nsIn K mainGlobals "is_digit" = some (some (.ref f1))) (l1 : K.lookup f1 = some ⟨oc1, od1, .func (PySem.W.fnOf "is_digit" "is_digit" (defArgs s_is_digit) (defBody s_is_digit) (defScope s_is_digit) .none kV1 dc1 pm1 an1 cd1 ct1), sl1⟩) (c1 : PySem.W.codeIn K cd1 "is_digit" = true) (k1 : PySem.W.keepIn K (.ref f1) = true)
    {f2 : Addr} {od2 an2 : Option Addr} {sl2 : Array (Option Value)} {oc2 kV2 dc2 pm2 cd2 ct2 : Value}
    (a2 : PySem.W.nsIn K mainGlobals "draw" = some (some (.ref f2))) (l2 : K.lookup f2 = some ⟨oc2, od2, .func (PySem.W.fnOf "draw" "draw" (defArgs s_draw) (defBody s_draw) (defScope s_draw) .none kV2 dc2 pm2 an2 cd2 ct2), sl2⟩) (c2 : PySem.W.codeIn K cd2 "draw" = true) (k2 : PySem.W.keepIn K (.ref f2) = true)
    {f3 : Addr} {od3 an3 : Option Addr} {sl3 : Array (Option Value)} {oc3 kV3 dc3 pm3 cd3 ct3 : Value}
    (a3 : PySem.W.nsIn K mainGlobals "behind" = some (some (.ref f3))) (l3 : K.lookup f3 = some ⟨oc3, od3, .func (PySem.W.fnOf "behind" "behind" (defArgs s_behind) (defBody s_behind) (defScope s_behind) .none kV3 dc3 pm3 an3 cd3 ct3), sl3⟩) (c3 : PySem.W.codeIn K cd3 "behind" = true) (k3 : PySem.W.keepIn K (.ref f3) = true)
    {f4 : Addr} {od4 an4 : Option Addr} {sl4 : Array (Option Value)} {oc4 kV4 dc4 pm4 cd4 ct4 : Value}
    (a4 : PySem.W.nsIn K mainGlobals "width" = some (some (.ref f4))) (l4 : K.lookup f4 = some ⟨oc4, od4, .func (PySem.W.fnOf "width" "width" (defArgs s_width) (defBody s_width) (defScope s_width) .none kV4 dc4 pm4 an4 cd4 ct4), sl4⟩) (c4 : PySem.W.codeIn K cd4 "width" = true) (k4 : PySem.W.keepIn K (.ref f4) = true)
    {f5 : Addr} {od5 an5 : Option Addr} {sl5 : Array (Option Value)} {oc5 kV5 dc5 pm5 cd5 ct5 : Value}
    (a5 : PySem.W.nsIn K mainGlobals "height" = some (some (.ref f5))) (l5 : K.lookup f5 = some ⟨oc5, od5, .func (PySem.W.fnOf "height" "height" (defArgs s_height) (defBody s_height) (defScope s_height) .none kV5 dc5 pm5 an5 cd5 ct5), sl5⟩) (c5 : PySem.W.codeIn K cd5 "height" = true) (k5 : PySem.W.keepIn K (.ref f5) = true)
    {f6 : Addr} {od6 an6 : Option Addr} {sl6 : Array (Option Value)} {oc6 kV6 dc6 pm6 cd6 ct6 : Value}
    (a6 : PySem.W.nsIn K mainGlobals "read_drawing" = some (some (.ref f6))) (l6 : K.lookup f6 = some ⟨oc6, od6, .func (PySem.W.fnOf "read_drawing" "read_drawing" (defArgs s_read_drawing) (defBody s_read_drawing) (defScope s_read_drawing) .none kV6 dc6 pm6 an6 cd6 ct6), sl6⟩) (c6 : PySem.W.codeIn K cd6 "read_drawing" = true) (k6 : PySem.W.keepIn K (.ref f6) = true)
    {f7 : Addr} {od7 an7 : Option Addr} {sl7 : Array (Option Value)} {oc7 kV7 dc7 pm7 cd7 ct7 : Value}
    (a7 : PySem.W.nsIn K mainGlobals "letter_of" = some (some (.ref f7))) (l7 : K.lookup f7 = some ⟨oc7, od7, .func (PySem.W.fnOf "letter_of" "letter_of" (defArgs s_letter_of) (defBody s_letter_of) (defScope s_letter_of) .none kV7 dc7 pm7 an7 cd7 ct7), sl7⟩) (c7 : PySem.W.codeIn K cd7 "letter_of" = true) (k7 : PySem.W.keepIn K (.ref f7) = true)
    {f8 : Addr} {od8 an8 : Option Addr} {sl8 : Array (Option Value)} {oc8 kV8 dc8 pm8 cd8 ct8 : Value}
    (a8 : PySem.W.nsIn K mainGlobals "strokes_end" = some (some (.ref f8))) (l8 : K.lookup f8 = some ⟨oc8, od8, .func (PySem.W.fnOf "strokes_end" "strokes_end" (defArgs s_strokes_end) (defBody s_strokes_end) (defScope s_strokes_end) .none kV8 dc8 pm8 an8 cd8 ct8), sl8⟩) (c8 : PySem.W.codeIn K cd8 "strokes_end" = true) (k8 : PySem.W.keepIn K (.ref f8) = true)
    {f9 : Addr} {od9 an9 : Option Addr} {sl9 : Array (Option Value)} {oc9 kV9 dc9 pm9 cd9 ct9 : Value}
    (a9 : PySem.W.nsIn K mainGlobals "signs_before" = some (some (.ref f9))) (l9 : K.lookup f9 = some ⟨oc9, od9, .func (PySem.W.fnOf "signs_before" "signs_before" (defArgs s_signs_before) (defBody s_signs_before) (defScope s_signs_before) .none kV9 dc9 pm9 an9 cd9 ct9), sl9⟩) (c9 : PySem.W.codeIn K cd9 "signs_before" = true) (k9 : PySem.W.keepIn K (.ref f9) = true)
    {f10 : Addr} {od10 an10 : Option Addr} {sl10 : Array (Option Value)} {oc10 kV10 dc10 pm10 cd10 ct10 : Value}
    (a10 : PySem.W.nsIn K mainGlobals "is_open" = some (some (.ref f10))) (l10 : K.lookup f10 = some ⟨oc10, od10, .func (PySem.W.fnOf "is_open" "is_open" (defArgs s_is_open) (defBody s_is_open) (defScope s_is_open) .none kV10 dc10 pm10 an10 cd10 ct10), sl10⟩) (c10 : PySem.W.codeIn K cd10 "is_open" = true) (k10 : PySem.W.keepIn K (.ref f10) = true)
    {f11 : Addr} {od11 an11 : Option Addr} {sl11 : Array (Option Value)} {oc11 kV11 dc11 pm11 cd11 ct11 : Value}
    (a11 : PySem.W.nsIn K mainGlobals "drawn_whole" = some (some (.ref f11))) (l11 : K.lookup f11 = some ⟨oc11, od11, .func (PySem.W.fnOf "drawn_whole" "drawn_whole" (defArgs s_drawn_whole) (defBody s_drawn_whole) (defScope s_drawn_whole) .none kV11 dc11 pm11 an11 cd11 ct11), sl11⟩) (c11 : PySem.W.codeIn K cd11 "drawn_whole" = true) (k11 : PySem.W.keepIn K (.ref f11) = true)
    {f12 : Addr} {od12 an12 : Option Addr} {sl12 : Array (Option Value)} {oc12 kV12 dc12 pm12 cd12 ct12 : Value}
    (a12 : PySem.W.nsIn K mainGlobals "_law_cell" = some (some (.ref f12))) (l12 : K.lookup f12 = some ⟨oc12, od12, .func (PySem.W.fnOf "_law_cell" "_law_cell" (defArgs s__law_cell) (defBody s__law_cell) (defScope s__law_cell) .none kV12 dc12 pm12 an12 cd12 ct12), sl12⟩) (c12 : PySem.W.codeIn K cd12 "_law_cell" = true) (k12 : PySem.W.keepIn K (.ref f12) = true)
    {f13 : Addr} {od13 an13 : Option Addr} {sl13 : Array (Option Value)} {oc13 kV13 dc13 pm13 cd13 ct13 : Value}
    (a13 : PySem.W.nsIn K mainGlobals "_law_digits" = some (some (.ref f13))) (l13 : K.lookup f13 = some ⟨oc13, od13, .func (PySem.W.fnOf "_law_digits" "_law_digits" (defArgs s__law_digits) (defBody s__law_digits) (defScope s__law_digits) .none kV13 dc13 pm13 an13 cd13 ct13), sl13⟩) (c13 : PySem.W.codeIn K cd13 "_law_digits" = true) (k13 : PySem.W.keepIn K (.ref f13) = true)
    {f14 : Addr} {od14 an14 : Option Addr} {sl14 : Array (Option Value)} {oc14 kV14 dc14 pm14 cd14 ct14 : Value}
    (a14 : PySem.W.nsIn K mainGlobals "_law_box" = some (some (.ref f14))) (l14 : K.lookup f14 = some ⟨oc14, od14, .func (PySem.W.fnOf "_law_box" "_law_box" (defArgs s__law_box) (defBody s__law_box) (defScope s__law_box) .none kV14 dc14 pm14 an14 cd14 ct14), sl14⟩) (c14 : PySem.W.codeIn K cd14 "_law_box" = true) (k14 : PySem.W.keepIn K (.ref f14) = true)
    {f15 : Addr} {od15 an15 : Option Addr} {sl15 : Array (Option Value)} {oc15 kV15 dc15 pm15 cd15 ct15 : Value}
    (a15 : PySem.W.nsIn K mainGlobals "_law_draw" = some (some (.ref f15))) (l15 : K.lookup f15 = some ⟨oc15, od15, .func (PySem.W.fnOf "_law_draw" "_law_draw" (defArgs s__law_draw) (defBody s__law_draw) (defScope s__law_draw) .none kV15 dc15 pm15 an15 cd15 ct15), sl15⟩) (c15 : PySem.W.codeIn K cd15 "_law_draw" = true) (k15 : PySem.W.keepIn K (.ref f15) = true)
    {f16 : Addr} {od16 an16 : Option Addr} {sl16 : Array (Option Value)} {oc16 kV16 dc16 pm16 cd16 ct16 : Value}
    (a16 : PySem.W.nsIn K mainGlobals "_law_put" = some (some (.ref f16))) (l16 : K.lookup f16 = some ⟨oc16, od16, .func (PySem.W.fnOf "_law_put" "_law_put" (defArgs s__law_put) (defBody s__law_put) (defScope s__law_put) .none kV16 dc16 pm16 an16 cd16 ct16), sl16⟩) (c16 : PySem.W.codeIn K cd16 "_law_put" = true) (k16 : PySem.W.keepIn K (.ref f16) = true)
    {f17 : Addr} {od17 an17 : Option Addr} {sl17 : Array (Option Value)} {oc17 kV17 dc17 pm17 cd17 ct17 : Value}
    (a17 : PySem.W.nsIn K mainGlobals "_law_any" = some (some (.ref f17))) (l17 : K.lookup f17 = some ⟨oc17, od17, .func (PySem.W.fnOf "_law_any" "_law_any" (defArgs s__law_any) (defBody s__law_any) (defScope s__law_any) .none kV17 dc17 pm17 an17 cd17 ct17), sl17⟩) (c17 : PySem.W.codeIn K cd17 "_law_any" = true) (k17 : PySem.W.keepIn K (.ref f17) = true)
    {f18 : Addr} {od18 an18 : Option Addr} {sl18 : Array (Option Value)} {oc18 kV18 dc18 pm18 cd18 ct18 : Value}
    (a18 : PySem.W.nsIn K mainGlobals "_law_lettered" = some (some (.ref f18))) (l18 : K.lookup f18 = some ⟨oc18, od18, .func (PySem.W.fnOf "_law_lettered" "_law_lettered" (defArgs s__law_lettered) (defBody s__law_lettered) (defScope s__law_lettered) .none kV18 dc18 pm18 an18 cd18 ct18), sl18⟩) (c18 : PySem.W.codeIn K cd18 "_law_lettered" = true) (k18 : PySem.W.keepIn K (.ref f18) = true)
    {f19 : Addr} {od19 an19 : Option Addr} {sl19 : Array (Option Value)} {oc19 kV19 dc19 pm19 cd19 ct19 : Value}
    (a19 : PySem.W.nsIn K mainGlobals "_law_under" = some (some (.ref f19))) (l19 : K.lookup f19 = some ⟨oc19, od19, .func (PySem.W.fnOf "_law_under" "_law_under" (defArgs s__law_under) (defBody s__law_under) (defScope s__law_under) .none kV19 dc19 pm19 an19 cd19 ct19), sl19⟩) (c19 : PySem.W.codeIn K cd19 "_law_under" = true) (k19 : PySem.W.keepIn K (.ref f19) = true)
    {f20 : Addr} {od20 an20 : Option Addr} {sl20 : Array (Option Value)} {oc20 kV20 dc20 pm20 cd20 ct20 : Value}
    (a20 : PySem.W.nsIn K mainGlobals "_law_drawing" = some (some (.ref f20))) (l20 : K.lookup f20 = some ⟨oc20, od20, .func (PySem.W.fnOf "_law_drawing" "_law_drawing" (defArgs s__law_drawing) (defBody s__law_drawing) (defScope s__law_drawing) .none kV20 dc20 pm20 an20 cd20 ct20), sl20⟩) (c20 : PySem.W.codeIn K cd20 "_law_drawing" = true) (k20 : PySem.W.keepIn K (.ref f20) = true)
    {f21 : Addr} {od21 an21 : Option Addr} {sl21 : Array (Option Value)} {oc21 kV21 dc21 pm21 cd21 ct21 : Value}
    (a21 : PySem.W.nsIn K mainGlobals "_law_same" = some (some (.ref f21))) (l21 : K.lookup f21 = some ⟨oc21, od21, .func (PySem.W.fnOf "_law_same" "_law_same" (defArgs s__law_same) (defBody s__law_same) (defScope s__law_same) .none kV21 dc21 pm21 an21 cd21 ct21), sl21⟩) (c21 : PySem.W.codeIn K cd21 "_law_same" = true) (k21 : PySem.W.keepIn K (.ref f21) = true)
    {f22 : Addr} {od22 an22 : Option Addr} {sl22 : Array (Option Value)} {oc22 kV22 dc22 pm22 cd22 ct22 : Value}
    (a22 : PySem.W.nsIn K mainGlobals "law" = some (some (.ref f22))) (l22 : K.lookup f22 = some ⟨oc22, od22, .func (PySem.W.fnOf "law" "law" (defArgs s_law) (defBody s_law) (defScope s_law) .none kV22 dc22 pm22 an22 cd22 ct22), sl22⟩) (c22 : PySem.W.codeIn K cd22 "law" = true) (k22 : PySem.W.keepIn K (.ref f22) = true)
    (z0 : PySem.W.nsIn K mainGlobals "tuple" = some none)
    (z1 : PySem.W.nsIn K mainGlobals "len" = some none)
    (z2 : PySem.W.nsIn K mainGlobals "max" = some none)
    (z3 : PySem.W.nsIn K mainGlobals "enumerate" = some none)
    (z4 : PySem.W.nsIn K mainGlobals "range" = some none)
    (z5 : PySem.W.nsIn K mainGlobals "int" = some none)
    (z6 : PySem.W.nsIn K mainGlobals "isinstance" = some none)
    (z7 : PySem.W.nsIn K mainGlobals "bool" = some none)
    (z8 : PySem.W.nsIn K mainGlobals "str" = some none)
    {gc3 gP3 : Addr} (ge3 : cd3 = .ref gc3) (gp3 : gP3 ∈ tabs)
    : ∃ T : Txt K mg, T.f_law = f22 ∧ (∀ (s : Shared) (v : Value), BindsTo s T.fd_law ⟨[v], []⟩ [("script", v)]) ∧ T.c_behind = gc3 ∧ T.P_behind = gP3 := by
  have F0 := fun_mk (st := s_is_small) l0 c0 k0
  have b0 := F0.binds (ps := ["sign"]) fun _ _ _ _ _ _ us hl => match us, hl with | [_], _ => rfl
  have F1 := fun_mk (st := s_is_digit) l1 c1 k1
  have b1 := F1.binds (ps := ["sign"]) fun _ _ _ _ _ _ us hl => match us, hl with | [_], _ => rfl
  have F2 := fun_mk (st := s_draw) l2 c2 k2
  have b2 := F2.binds (ps := ["formula"]) fun _ _ _ _ _ _ us hl => match us, hl with | [_], _ => rfl
  have F3 := fun_mk (st := s_behind) l3 c3 k3
  have b3 := F3.binds (ps := ["first", "other", "rows"]) fun _ _ _ _ _ _ us hl => match us, hl with | [_, _, _], _ => rfl
  have F4 := fun_mk (st := s_width) l4 c4 k4
  have b4 := F4.binds (ps := ["formula"]) fun _ _ _ _ _ _ us hl => match us, hl with | [_], _ => rfl
  have F5 := fun_mk (st := s_height) l5 c5 k5
  have b5 := F5.binds (ps := ["formula"]) fun _ _ _ _ _ _ us hl => match us, hl with | [_], _ => rfl
  have F6 := fun_mk (st := s_read_drawing) l6 c6 k6
  have b6 := F6.binds (ps := ["rows"]) fun _ _ _ _ _ _ us hl => match us, hl with | [_], _ => rfl
  have F7 := fun_mk (st := s_letter_of) l7 c7 k7
  have b7 := F7.binds (ps := ["waiting", "row", "signs"]) fun _ _ _ _ _ _ us hl => match us, hl with | [_, _, _], _ => rfl
  have F8 := fun_mk (st := s_strokes_end) l8 c8 k8
  have b8 := F8.binds (ps := ["waiting", "row", "signs"]) fun _ _ _ _ _ _ us hl => match us, hl with | [_, _, _], _ => rfl
  have F9 := fun_mk (st := s_signs_before) l9 c9 k9
  have b9 := F9.binds (ps := ["waiting", "row", "signs"]) fun _ _ _ _ _ _ us hl => match us, hl with | [_, _, _], _ => rfl
  have F10 := fun_mk (st := s_is_open) l10 c10 k10
  have b10 := F10.binds (ps := ["stroke", "consequence"]) fun _ _ _ _ _ _ us hl => match us, hl with | [_, _], _ => rfl
  have F11 := fun_mk (st := s_drawn_whole) l11 c11 k11
  have b11 := F11.binds (ps := ["waiting", "formula"]) fun _ _ _ _ _ _ us hl => match us, hl with | [_, _], _ => rfl
  have F12 := fun_mk (st := s__law_cell) l12 c12 k12
  have b12 := F12.binds (ps := ["script", "k"]) fun _ _ _ _ _ _ us hl => match us, hl with | [_, _], _ => rfl
  have F13 := fun_mk (st := s__law_digits) l13 c13 k13
  have b13 := F13.binds (ps := ["script", "first", "last"]) fun _ _ _ _ _ _ us hl => match us, hl with | [_, _, _], _ => rfl
  have F14 := fun_mk (st := s__law_box) l14 c14 k14
  have b14 := F14.binds (ps := ["script", "first", "last"]) fun _ _ _ _ _ _ us hl => match us, hl with | [_, _, _], _ => rfl
  have F15 := fun_mk (st := s__law_draw) l15 c15 k15
  have b15 := F15.binds (ps := ["box", "many"]) fun _ _ _ _ _ _ us hl => match us, hl with | [_, _], _ => rfl
  have F16 := fun_mk (st := s__law_put) l16 c16 k16
  have b16 := F16.binds (ps := ["formula", "table"]) fun _ _ _ _ _ _ us hl => match us, hl with | [_, _], _ => rfl
  have F17 := fun_mk (st := s__law_any) l17 c17 k17
  have b17 := F17.binds (ps := ["box", "room", "many"]) fun _ _ _ _ _ _ us hl => match us, hl with | [_, _, _], _ => rfl
  have F18 := fun_mk (st := s__law_lettered) l18 c18 k18
  have b18 := F18.binds (ps := ["box", "room", "many"]) fun _ _ _ _ _ _ us hl => match us, hl with | [_, _, _], _ => rfl
  have F19 := fun_mk (st := s__law_under) l19 c19 k19
  have b19 := F19.binds (ps := ["rows", "first", "others"]) fun _ _ _ _ _ _ us hl => match us, hl with | [_, _, _], _ => rfl
  have F20 := fun_mk (st := s__law_drawing) l20 c20 k20
  have b20 := F20.binds (ps := ["formula"]) fun _ _ _ _ _ _ us hl => match us, hl with | [_], _ => rfl
  have F21 := fun_mk (st := s__law_same) l21 c21 k21
  have b21 := F21.binds (ps := ["actual", "expected"]) fun _ _ _ _ _ _ us hl => match us, hl with | [_, _], _ => rfl
  have F22 := fun_mk (st := s_law) l22 c22 k22
  have b22 := F22.binds (ps := ["script"]) fun _ _ _ _ _ _ us hl => match us, hl with | [_], _ => rfl
  exact ⟨⟨f0, _, F0, PySem.W.mg_of X G a0, b0, f1, _, F1, PySem.W.mg_of X G a1, b1, f2, _, F2, PySem.W.mg_of X G a2, b2, f3, _, F3, PySem.W.mg_of X G a3, b3, f4, _, F4, PySem.W.mg_of X G a4, b4, f5, _, F5, PySem.W.mg_of X G a5, b5, f6, _, F6, PySem.W.mg_of X G a6, b6, f7, _, F7, PySem.W.mg_of X G a7, b7, f8, _, F8, PySem.W.mg_of X G a8, b8, f9, _, F9, PySem.W.mg_of X G a9, b9, f10, _, F10, PySem.W.mg_of X G a10, b10, f11, _, F11, PySem.W.mg_of X G a11, b11, f12, _, F12, PySem.W.mg_of X G a12, b12, f13, _, F13, PySem.W.mg_of X G a13, b13, f14, _, F14, PySem.W.mg_of X G a14, b14, f15, _, F15, PySem.W.mg_of X G a15, b15, f16, _, F16, PySem.W.mg_of X G a16, b16, f17, _, F17, PySem.W.mg_of X G a17, b17, f18, _, F18, PySem.W.mg_of X G a18, b18, f19, _, F19, PySem.W.mg_of X G a19, b19, f20, _, F20, PySem.W.mg_of X G a20, b20, f21, _, F21, PySem.W.mg_of X G a21, b21, f22, _, F22, PySem.W.mg_of X G a22, b22, gc3, gP3, func_mk ge3 l3 c3 k3, gp3, PySem.W.mg_none_of X G z0, PySem.W.mg_none_of X G z1, PySem.W.mg_none_of X G z2, PySem.W.mg_none_of X G z3, PySem.W.mg_none_of X G z4, PySem.W.mg_none_of X G z5, PySem.W.mg_none_of X G z6, PySem.W.mg_none_of X G z7, PySem.W.mg_none_of X G z8⟩, rfl, fun s v => .of_eq rfl, rfl, rfl⟩
/- cases:  ?a0 ?l0 ?c0 ?k0 ?a1 ?l1 ?c1 ?k1 ?a2 ?l2 ?c2 ?k2 ?a3 ?l3 ?c3 ?k3 ?a4 ?l4 ?c4 ?k4 ?a5 ?l5 ?c5 ?k5 ?a6 ?l6 ?c6 ?k6 ?a7 ?l7 ?c7 ?k7 ?a8 ?l8 ?c8 ?k8 ?a9 ?l9 ?c9 ?k9 ?a10 ?l10 ?c10 ?k10 ?a11 ?l11 ?c11 ?k11 ?a12 ?l12 ?c12 ?k12 ?a13 ?l13 ?c13 ?k13 ?a14 ?l14 ?c14 ?k14 ?a15 ?l15 ?c15 ?k15 ?a16 ?l16 ?c16 ?k16 ?a17 ?l17 ?c17 ?k17 ?a18 ?l18 ?c18 ?k18 ?a19 ?l19 ?c19 ?k19 ?a20 ?l20 ?c20 ?k20 ?a21 ?l21 ?c21 ?k21 ?a22 ?l22 ?c22 ?k22 ?z0 ?z1 ?z2 ?z3 ?z4 ?z5 ?z6 ?z7 ?z8 ?ge3 ?gp3 -/

section
variable {P : Program} {w : World} {K : PySem.W.Frag} {mg : Str → Option Value} {base : Heap}
theorem lev_draw (T : Txt K mg) : FnOk P w K mg base CX0 1 T.f__law_draw T.fd__law_draw ["box", "many"] (conc K 2 A_draw) := ok__law_draw T p__law_draw
theorem lev_any (T : Txt K mg) : ∀ L, FnOk P w K mg base CX0 (L + 1) T.f__law_any T.fd__law_any ["box", "room", "many"] (conc K 3 (A_any L))
  | 0 => fn_none fun ds M Q Xa h => by
    obtain ⟨b, d, room, many, _, _, h1, h2, _⟩ := h
    omega
  | L + 1 => ok__law_any T ((lev_draw T).mono (by omega)) (lev_any T L) (p__law_any L)
theorem lev_put (T : Txt K mg) : ∀ L, FnOk P w K mg base CX0 (L + 1) T.f__law_put T.fd__law_put ["formula", "table"] (conc K 2 (A_put L))
  | 0 => fn_none fun ds M Q Xa h => by
    obtain ⟨f, t, kvs, σ, _, h1, _⟩ := h
    have z := f.sz_pos
    omega
  | L + 1 => ok__law_put T (lev_put T L) (p__law_put L)
theorem lev_same (T : Txt K mg) : ∀ L, FnOk P w K mg base CX0 (L + 1) T.f__law_same T.fd__law_same ["actual", "expected"] (conc K 2 (A_same L))
  | 0 => fn_none fun ds M Q Xa h => by
    obtain ⟨x, _, _, h1, _⟩ := h
    exact absurd h1 (Nat.not_lt_zero _)
  | L + 1 => ok__law_same T (lev_same T L) (p__law_same L)
theorem lev_lettered (T : Txt K mg) (L : Nat) : FnOk P w K mg base CX0 (L + 2) T.f__law_lettered T.fd__law_lettered ["box", "room", "many"] (conc K 3 (A_lettered L)) :=
  ok__law_lettered T ((lev_draw T).mono (by omega)) (lev_put T L) (lev_any T L) (p__law_lettered L)
theorem lev_box (T : Txt K mg) : FnOk P w K mg base CX0 3 T.f__law_box T.fd__law_box ["script", "first", "last"] (conc K 3 A_box) := ok__law_box T (ok__law_digits T (ok__law_cell T p__law_cell) p__law_digits) p__law_box
theorem lev_small (T : Txt K mg) : FnOk P w K mg base CX0 1 T.f_is_small T.fd_is_small ["sign"] (conc K 1 A_is_small) := ok_is_small T p_is_small
theorem lev_digit (T : Txt K mg) : FnOk P w K mg base CX0 1 T.f_is_digit T.fd_is_digit ["sign"] (conc K 1 A_is_digit) := ok_is_digit T p_is_digit
end

section
variable {P : Program} {w : World} {K : PySem.W.Frag} {mg : Str → Option Value} {base : Heap}
theorem lev_open (T : Txt K mg) : FnOk P w K mg base CX0 1 T.f_is_open T.fd_is_open ["stroke", "consequence"] (conc K 2 A_is_open) := ok_is_open T p_is_open
theorem lev_dw (T : Txt K mg) : FnOk P w K mg base CX0 2 T.f_drawn_whole T.fd_drawn_whole ["waiting", "formula"] (conc K 2 A_drawn_whole) := ok_drawn_whole T (lev_open T) p_drawn_whole
theorem lev_sb (T : Txt K mg) : FnOk P w K mg base CX0 2 T.f_signs_before T.fd_signs_before ["waiting", "row", "signs"] (conc K 3 A_signs_before) := ok_signs_before T (lev_open T) p_signs_before
theorem lev_se (T : Txt K mg) : FnOk P w K mg base CX0 3 T.f_strokes_end T.fd_strokes_end ["waiting", "row", "signs"] (conc K 3 A_strokes_end) := ok_strokes_end T (lev_sb T) p_strokes_end
theorem lev_lo (T : Txt K mg) : FnOk P w K mg base CX0 4 T.f_letter_of T.fd_letter_of ["waiting", "row", "signs"] (conc K 3 A_letter_of) := ok_letter_of T (lev_se T) ((lev_small T).mono (by omega)) ((lev_digit T).mono (by omega)) p_letter_of
theorem lev_rd (T : Txt K mg) : FnOk P w K mg base CX0 5 T.f_read_drawing T.fd_read_drawing ["rows"] (conc K 1 A_read_drawing) := ok_read_drawing T ((lev_dw T).mono (by omega)) (lev_lo T) p_read_drawing
theorem lev_under (T : Txt K mg) : FnOk P w K mg base CX0 1 T.f__law_under T.fd__law_under ["rows", "first", "others"] (conc K 3 A_under) := ok__law_under T p__law_under
theorem lev_ldraw (T : Txt K mg) : ∀ L, FnOk P w K mg base CX0 (L + 1) T.f__law_drawing T.fd__law_drawing ["formula"] (conc K 1 (A_drawing L))
  | 0 => fn_none fun ds M Q Xa h => by
    obtain ⟨f, _, _, h1, _⟩ := h
    have z := f.sz_pos
    omega
  | L + 1 => ok__law_drawing T ((lev_under T).mono (by omega)) (lev_ldraw T L) (p__law_drawing L)
theorem lev_behind (T : Txt K mg) (B : GxR.TabB base mg T.c_behind T.P_behind) : FnOk P w K mg base CX0 2 T.f_behind T.fd_behind ["first", "other", "rows"] (conc K 3 A_pbehind) := ok_behind T (k0 := 0) (by omega) B p_behind
theorem lev_pdraw (T : Txt K mg) (B : GxR.TabB base mg T.c_behind T.P_behind) : ∀ L, FnOk P w K mg base CX0 (L + 2) T.f_draw T.fd_draw ["formula"] (conc K 1 (A_pdraw L))
  | 0 => fn_none fun ds M Q Xa h => by
    obtain ⟨f, _, _, h1, _⟩ := h
    have z := f.sz_pos
    omega
  | L + 1 => ok_draw T ((lev_behind T B).mono (by omega)) (lev_pdraw T B L) (p_draw L)
theorem lev_law (T : Txt K mg) (B : GxR.TabB base mg T.c_behind T.P_behind) : FnOk P w K mg base CX0 61 T.f_law T.fd_law ["script"] (conc K 1 A_law) :=
  ok_law T ((lev_box T).mono (by omega)) ((lev_lettered T 30).mono (by omega)) ((lev_ldraw T 30).mono (by omega)) ((lev_same T 50).mono (by omega)) ((lev_pdraw T B 30).mono (by omega)) ((lev_rd T).mono (by omega)) ((ok_height T (lev_pdraw T B 30) (p_height 30)).mono (by omega)) ((ok_width T (lev_pdraw T B 30) (p_width 30)).mono (by omega)) p_law
end

theorem all_mk {l : PySem.W.OpenLaw} {w : World} {fa : Addr} {K : PySem.W.Frag} {h : Heap} {mg : Str → Option Value} (X : K.In h) (G : h.Ns mainGlobals mg) (hfa : mg "law" = some (.ref fa))
    {f0 : Addr} {od0 an0 : Option Addr} {sl0 : Array (Option Value)} {oc0 kV0 dc0 pm0 cd0 ct0 : Value}
    (a0 : PySem.W.nsIn K mainGlobals "is_small" = some (some (.ref f0))) (l0 : K.lookup f0 = some ⟨oc0, od0, .func (PySem.W.fnOf "is_small" "is_small" (defArgs s_is_small) (defBody s_is_small) (defScope s_is_small) .none kV0 dc0 pm0 an0 cd0 ct0), sl0⟩) (c0 : PySem.W.codeIn K cd0 "is_small" = true) (k0 : PySem.W.keepIn K (.ref f0) = true)
    {f1 : Addr} {od1 an1 : Option Addr} {sl1 : Array (Option Value)} {oc1 kV1 dc1 pm1 cd1 ct1 : Value}
    (a1 : PySem.W.nsIn K mainGlobals "is_digit" = some (some (.ref f1))) (l1 : K.lookup f1 = some ⟨oc1, od1, .func (PySem.W.fnOf "is_digit" "is_digit" (defArgs s_is_digit) (defBody s_is_digit) (defScope s_is_digit) .none kV1 dc1 pm1 an1 cd1 ct1), sl1⟩) (c1 : PySem.W.codeIn K cd1 "is_digit" = true) (k1 : PySem.W.keepIn K (.ref f1) = true)
    {f2 : Addr} {od2 an2 : Option Addr} {sl2 : Array (Option Value)} {oc2 kV2 dc2 pm2 cd2 ct2 : Value}
    (a2 : PySem.W.nsIn K mainGlobals "draw" = some (some (.ref f2))) (l2 : K.lookup f2 = some ⟨oc2, od2, .func (PySem.W.fnOf "draw" "draw" (defArgs s_draw) (defBody s_draw) (defScope s_draw) .none kV2 dc2 pm2 an2 cd2 ct2), sl2⟩) (c2 : PySem.W.codeIn K cd2 "draw" = true) (k2 : PySem.W.keepIn K (.ref f2) = true)
    {f3 : Addr} {od3 an3 : Option Addr} {sl3 : Array (Option Value)} {oc3 kV3 dc3 pm3 cd3 ct3 : Value}
    (a3 : PySem.W.nsIn K mainGlobals "behind" = some (some (.ref f3))) (l3 : K.lookup f3 = some ⟨oc3, od3, .func (PySem.W.fnOf "behind" "behind" (defArgs s_behind) (defBody s_behind) (defScope s_behind) .none kV3 dc3 pm3 an3 cd3 ct3), sl3⟩) (c3 : PySem.W.codeIn K cd3 "behind" = true) (k3 : PySem.W.keepIn K (.ref f3) = true)
    {f4 : Addr} {od4 an4 : Option Addr} {sl4 : Array (Option Value)} {oc4 kV4 dc4 pm4 cd4 ct4 : Value}
    (a4 : PySem.W.nsIn K mainGlobals "width" = some (some (.ref f4))) (l4 : K.lookup f4 = some ⟨oc4, od4, .func (PySem.W.fnOf "width" "width" (defArgs s_width) (defBody s_width) (defScope s_width) .none kV4 dc4 pm4 an4 cd4 ct4), sl4⟩) (c4 : PySem.W.codeIn K cd4 "width" = true) (k4 : PySem.W.keepIn K (.ref f4) = true)
    {f5 : Addr} {od5 an5 : Option Addr} {sl5 : Array (Option Value)} {oc5 kV5 dc5 pm5 cd5 ct5 : Value}
    (a5 : PySem.W.nsIn K mainGlobals "height" = some (some (.ref f5))) (l5 : K.lookup f5 = some ⟨oc5, od5, .func (PySem.W.fnOf "height" "height" (defArgs s_height) (defBody s_height) (defScope s_height) .none kV5 dc5 pm5 an5 cd5 ct5), sl5⟩) (c5 : PySem.W.codeIn K cd5 "height" = true) (k5 : PySem.W.keepIn K (.ref f5) = true)
    {f6 : Addr} {od6 an6 : Option Addr} {sl6 : Array (Option Value)} {oc6 kV6 dc6 pm6 cd6 ct6 : Value}
    (a6 : PySem.W.nsIn K mainGlobals "read_drawing" = some (some (.ref f6))) (l6 : K.lookup f6 = some ⟨oc6, od6, .func (PySem.W.fnOf "read_drawing" "read_drawing" (defArgs s_read_drawing) (defBody s_read_drawing) (defScope s_read_drawing) .none kV6 dc6 pm6 an6 cd6 ct6), sl6⟩) (c6 : PySem.W.codeIn K cd6 "read_drawing" = true) (k6 : PySem.W.keepIn K (.ref f6) = true)
    {f7 : Addr} {od7 an7 : Option Addr} {sl7 : Array (Option Value)} {oc7 kV7 dc7 pm7 cd7 ct7 : Value}
    (a7 : PySem.W.nsIn K mainGlobals "letter_of" = some (some (.ref f7))) (l7 : K.lookup f7 = some ⟨oc7, od7, .func (PySem.W.fnOf "letter_of" "letter_of" (defArgs s_letter_of) (defBody s_letter_of) (defScope s_letter_of) .none kV7 dc7 pm7 an7 cd7 ct7), sl7⟩) (c7 : PySem.W.codeIn K cd7 "letter_of" = true) (k7 : PySem.W.keepIn K (.ref f7) = true)
    {f8 : Addr} {od8 an8 : Option Addr} {sl8 : Array (Option Value)} {oc8 kV8 dc8 pm8 cd8 ct8 : Value}
    (a8 : PySem.W.nsIn K mainGlobals "strokes_end" = some (some (.ref f8))) (l8 : K.lookup f8 = some ⟨oc8, od8, .func (PySem.W.fnOf "strokes_end" "strokes_end" (defArgs s_strokes_end) (defBody s_strokes_end) (defScope s_strokes_end) .none kV8 dc8 pm8 an8 cd8 ct8), sl8⟩) (c8 : PySem.W.codeIn K cd8 "strokes_end" = true) (k8 : PySem.W.keepIn K (.ref f8) = true)
    {f9 : Addr} {od9 an9 : Option Addr} {sl9 : Array (Option Value)} {oc9 kV9 dc9 pm9 cd9 ct9 : Value}
    (a9 : PySem.W.nsIn K mainGlobals "signs_before" = some (some (.ref f9))) (l9 : K.lookup f9 = some ⟨oc9, od9, .func (PySem.W.fnOf "signs_before" "signs_before" (defArgs s_signs_before) (defBody s_signs_before) (defScope s_signs_before) .none kV9 dc9 pm9 an9 cd9 ct9), sl9⟩) (c9 : PySem.W.codeIn K cd9 "signs_before" = true) (k9 : PySem.W.keepIn K (.ref f9) = true)
    {f10 : Addr} {od10 an10 : Option Addr} {sl10 : Array (Option Value)} {oc10 kV10 dc10 pm10 cd10 ct10 : Value}
    (a10 : PySem.W.nsIn K mainGlobals "is_open" = some (some (.ref f10))) (l10 : K.lookup f10 = some ⟨oc10, od10, .func (PySem.W.fnOf "is_open" "is_open" (defArgs s_is_open) (defBody s_is_open) (defScope s_is_open) .none kV10 dc10 pm10 an10 cd10 ct10), sl10⟩) (c10 : PySem.W.codeIn K cd10 "is_open" = true) (k10 : PySem.W.keepIn K (.ref f10) = true)
    {f11 : Addr} {od11 an11 : Option Addr} {sl11 : Array (Option Value)} {oc11 kV11 dc11 pm11 cd11 ct11 : Value}
    (a11 : PySem.W.nsIn K mainGlobals "drawn_whole" = some (some (.ref f11))) (l11 : K.lookup f11 = some ⟨oc11, od11, .func (PySem.W.fnOf "drawn_whole" "drawn_whole" (defArgs s_drawn_whole) (defBody s_drawn_whole) (defScope s_drawn_whole) .none kV11 dc11 pm11 an11 cd11 ct11), sl11⟩) (c11 : PySem.W.codeIn K cd11 "drawn_whole" = true) (k11 : PySem.W.keepIn K (.ref f11) = true)
    {f12 : Addr} {od12 an12 : Option Addr} {sl12 : Array (Option Value)} {oc12 kV12 dc12 pm12 cd12 ct12 : Value}
    (a12 : PySem.W.nsIn K mainGlobals "_law_cell" = some (some (.ref f12))) (l12 : K.lookup f12 = some ⟨oc12, od12, .func (PySem.W.fnOf "_law_cell" "_law_cell" (defArgs s__law_cell) (defBody s__law_cell) (defScope s__law_cell) .none kV12 dc12 pm12 an12 cd12 ct12), sl12⟩) (c12 : PySem.W.codeIn K cd12 "_law_cell" = true) (k12 : PySem.W.keepIn K (.ref f12) = true)
    {f13 : Addr} {od13 an13 : Option Addr} {sl13 : Array (Option Value)} {oc13 kV13 dc13 pm13 cd13 ct13 : Value}
    (a13 : PySem.W.nsIn K mainGlobals "_law_digits" = some (some (.ref f13))) (l13 : K.lookup f13 = some ⟨oc13, od13, .func (PySem.W.fnOf "_law_digits" "_law_digits" (defArgs s__law_digits) (defBody s__law_digits) (defScope s__law_digits) .none kV13 dc13 pm13 an13 cd13 ct13), sl13⟩) (c13 : PySem.W.codeIn K cd13 "_law_digits" = true) (k13 : PySem.W.keepIn K (.ref f13) = true)
    {f14 : Addr} {od14 an14 : Option Addr} {sl14 : Array (Option Value)} {oc14 kV14 dc14 pm14 cd14 ct14 : Value}
    (a14 : PySem.W.nsIn K mainGlobals "_law_box" = some (some (.ref f14))) (l14 : K.lookup f14 = some ⟨oc14, od14, .func (PySem.W.fnOf "_law_box" "_law_box" (defArgs s__law_box) (defBody s__law_box) (defScope s__law_box) .none kV14 dc14 pm14 an14 cd14 ct14), sl14⟩) (c14 : PySem.W.codeIn K cd14 "_law_box" = true) (k14 : PySem.W.keepIn K (.ref f14) = true)
    {f15 : Addr} {od15 an15 : Option Addr} {sl15 : Array (Option Value)} {oc15 kV15 dc15 pm15 cd15 ct15 : Value}
    (a15 : PySem.W.nsIn K mainGlobals "_law_draw" = some (some (.ref f15))) (l15 : K.lookup f15 = some ⟨oc15, od15, .func (PySem.W.fnOf "_law_draw" "_law_draw" (defArgs s__law_draw) (defBody s__law_draw) (defScope s__law_draw) .none kV15 dc15 pm15 an15 cd15 ct15), sl15⟩) (c15 : PySem.W.codeIn K cd15 "_law_draw" = true) (k15 : PySem.W.keepIn K (.ref f15) = true)
    {f16 : Addr} {od16 an16 : Option Addr} {sl16 : Array (Option Value)} {oc16 kV16 dc16 pm16 cd16 ct16 : Value}
    (a16 : PySem.W.nsIn K mainGlobals "_law_put" = some (some (.ref f16))) (l16 : K.lookup f16 = some ⟨oc16, od16, .func (PySem.W.fnOf "_law_put" "_law_put" (defArgs s__law_put) (defBody s__law_put) (defScope s__law_put) .none kV16 dc16 pm16 an16 cd16 ct16), sl16⟩) (c16 : PySem.W.codeIn K cd16 "_law_put" = true) (k16 : PySem.W.keepIn K (.ref f16) = true)
    {f17 : Addr} {od17 an17 : Option Addr} {sl17 : Array (Option Value)} {oc17 kV17 dc17 pm17 cd17 ct17 : Value}
    (a17 : PySem.W.nsIn K mainGlobals "_law_any" = some (some (.ref f17))) (l17 : K.lookup f17 = some ⟨oc17, od17, .func (PySem.W.fnOf "_law_any" "_law_any" (defArgs s__law_any) (defBody s__law_any) (defScope s__law_any) .none kV17 dc17 pm17 an17 cd17 ct17), sl17⟩) (c17 : PySem.W.codeIn K cd17 "_law_any" = true) (k17 : PySem.W.keepIn K (.ref f17) = true)
    {f18 : Addr} {od18 an18 : Option Addr} {sl18 : Array (Option Value)} {oc18 kV18 dc18 pm18 cd18 ct18 : Value}
    (a18 : PySem.W.nsIn K mainGlobals "_law_lettered" = some (some (.ref f18))) (l18 : K.lookup f18 = some ⟨oc18, od18, .func (PySem.W.fnOf "_law_lettered" "_law_lettered" (defArgs s__law_lettered) (defBody s__law_lettered) (defScope s__law_lettered) .none kV18 dc18 pm18 an18 cd18 ct18), sl18⟩) (c18 : PySem.W.codeIn K cd18 "_law_lettered" = true) (k18 : PySem.W.keepIn K (.ref f18) = true)
    {f19 : Addr} {od19 an19 : Option Addr} {sl19 : Array (Option Value)} {oc19 kV19 dc19 pm19 cd19 ct19 : Value}
    (a19 : PySem.W.nsIn K mainGlobals "_law_under" = some (some (.ref f19))) (l19 : K.lookup f19 = some ⟨oc19, od19, .func (PySem.W.fnOf "_law_under" "_law_under" (defArgs s__law_under) (defBody s__law_under) (defScope s__law_under) .none kV19 dc19 pm19 an19 cd19 ct19), sl19⟩) (c19 : PySem.W.codeIn K cd19 "_law_under" = true) (k19 : PySem.W.keepIn K (.ref f19) = true)
    {f20 : Addr} {od20 an20 : Option Addr} {sl20 : Array (Option Value)} {oc20 kV20 dc20 pm20 cd20 ct20 : Value}
    (a20 : PySem.W.nsIn K mainGlobals "_law_drawing" = some (some (.ref f20))) (l20 : K.lookup f20 = some ⟨oc20, od20, .func (PySem.W.fnOf "_law_drawing" "_law_drawing" (defArgs s__law_drawing) (defBody s__law_drawing) (defScope s__law_drawing) .none kV20 dc20 pm20 an20 cd20 ct20), sl20⟩) (c20 : PySem.W.codeIn K cd20 "_law_drawing" = true) (k20 : PySem.W.keepIn K (.ref f20) = true)
    {f21 : Addr} {od21 an21 : Option Addr} {sl21 : Array (Option Value)} {oc21 kV21 dc21 pm21 cd21 ct21 : Value}
    (a21 : PySem.W.nsIn K mainGlobals "_law_same" = some (some (.ref f21))) (l21 : K.lookup f21 = some ⟨oc21, od21, .func (PySem.W.fnOf "_law_same" "_law_same" (defArgs s__law_same) (defBody s__law_same) (defScope s__law_same) .none kV21 dc21 pm21 an21 cd21 ct21), sl21⟩) (c21 : PySem.W.codeIn K cd21 "_law_same" = true) (k21 : PySem.W.keepIn K (.ref f21) = true)
    {f22 : Addr} {od22 an22 : Option Addr} {sl22 : Array (Option Value)} {oc22 kV22 dc22 pm22 cd22 ct22 : Value}
    (a22 : PySem.W.nsIn K mainGlobals "law" = some (some (.ref f22))) (l22 : K.lookup f22 = some ⟨oc22, od22, .func (PySem.W.fnOf "law" "law" (defArgs s_law) (defBody s_law) (defScope s_law) .none kV22 dc22 pm22 an22 cd22 ct22), sl22⟩) (c22 : PySem.W.codeIn K cd22 "law" = true) (k22 : PySem.W.keepIn K (.ref f22) = true)
    (z0 : PySem.W.nsIn K mainGlobals "tuple" = some none)
    (z1 : PySem.W.nsIn K mainGlobals "len" = some none)
    (z2 : PySem.W.nsIn K mainGlobals "max" = some none)
    (z3 : PySem.W.nsIn K mainGlobals "enumerate" = some none)
    (z4 : PySem.W.nsIn K mainGlobals "range" = some none)
    (z5 : PySem.W.nsIn K mainGlobals "int" = some none)
    (z6 : PySem.W.nsIn K mainGlobals "isinstance" = some none)
    (z7 : PySem.W.nsIn K mainGlobals "bool" = some none)
    (z8 : PySem.W.nsIn K mainGlobals "str" = some none)
    {gc3 gP3 : Addr} (ge3 : cd3 = .ref gc3) (gp3 : gP3 ∈ tabs)
    : ∃ fd : FuncData, (∀ (s : Shared) (v : Value), BindsTo s fd ⟨[v], []⟩ [("script", v)]) ∧ ∀ base : Heap, K.In base → base.Ns mainGlobals mg → (∀ p ∈ [(gc3, gP3)], GxR.TabB base mg p.1 p.2) → GU.FnG l.prog w K mg base 61 fa fd ["script"] (conc K 1 A_law) := by
  obtain ⟨T, eT, bT, ec3, eP3⟩ := txt_mk X G a0 l0 c0 k0 a1 l1 c1 k1 a2 l2 c2 k2 a3 l3 c3 k3 a4 l4 c4 k4 a5 l5 c5 k5 a6 l6 c6 k6 a7 l7 c7 k7 a8 l8 c8 k8 a9 l9 c9 k9 a10 l10 c10 k10 a11 l11 c11 k11 a12 l12 c12 k12 a13 l13 c13 k13 a14 l14 c14 k14 a15 l15 c15 k15 a16 l16 c16 k16 a17 l17 c17 k17 a18 l18 c18 k18 a19 l19 c19 k19 a20 l20 c20 k20 a21 l21 c21 k21 a22 l22 c22 k22 z0 z1 z2 z3 z4 z5 z6 z7 z8 ge3 gp3
  cases hfa.symm.trans T.m_law
  refine ⟨T.fd_law, bT, fun base _ _ tb => ?_⟩
  have t3 : GxR.TabB base mg T.c_behind T.P_behind := by rw [ec3, eP3]; exact tb (gc3, gP3) (by simp)
  exact GU.FnG.of (lev_law T t3)
end AL
open PySem PySem.W PyProof.Rows
set_option maxHeartbeats 0 in
open_top kTop for PySem.Challenge.rw_conceptscript_k10_formulas_are_drawn
set_option maxHeartbeats 0 in
theorem PySem.Challenge.cw_conceptscript_k10_formulas_are_drawn_holds : PySem.Challenge.rw_conceptscript_k10_formulas_are_drawn.Holds := by
  w_on; o_law; o_head (PySem.W.kmHook kTop.heap_39 [2, 3, 15, 22, 23, 24, 25, 28, 35, 37, 38, 40, 41, 42, 43, 44, 47, 49, 50, 52, 53, 54, 56, 57, 59, 60, 61, 63, 64, 66, 67, 68, 70, 71, 73, 74, 75, 78, 79, 80, 82, 83, 85, 86, 87, 89, 90, 92, 93, 94, 96, 97, 99, 100, 101, 103, 104, 106, 107, 108, 111, 112, 113, 115, 116, 118, 119, 120, 122, 123, 125, 126, 127, 129, 130, 132, 133, 134, 136, 137, 139, 140, 141, 143, 144, 146, 147, 148, 150, 151, 153, 154, 155, 158, 159, 160, 162, 163, 165, 166, 167, 169, 170, 172, 173, 174, 177, 178, 179, 181, 182, 184, 185, 186, 188, 189, 191, 192, 193, 196, 197] (fun _ => by kernel_rfl) [69]); (case hw => w_witness2)
  k_fill
  refine GT.walk_GT (l := PySem.Challenge.rw_conceptscript_k10_formulas_are_drawn) (n := 63) (k := 61) (x := "script") rfl (by decide) rfl ⟨rfl, by decide, by decide⟩ ?F
  case F =>
    intro w mg fa h Y G hmg
    have KX := PySem.W.km_in_of Y
    refine GT.law_at (cs := [(73, 69)]) (sp := AL.conc _ 1 AL.A_law) KX (PySem.W.km_tabs_of Y) (by kernel_rfl) (by kernel_rfl) (fun H a ns hl hT ho hS => AL.law_startT rfl hT ho hS fun Q q => ⟨ns, rfl, q⟩) ?Z
    refine' AL.all_mk KX G hmg ?a0 ?l0 ?c0 ?k0 ?a1 ?l1 ?c1 ?k1 ?a2 ?l2 ?c2 ?k2 ?a3 ?l3 ?c3 ?k3 ?a4 ?l4 ?c4 ?k4 ?a5 ?l5 ?c5 ?k5 ?a6 ?l6 ?c6 ?k6 ?a7 ?l7 ?c7 ?k7 ?a8 ?l8 ?c8 ?k8 ?a9 ?l9 ?c9 ?k9 ?a10 ?l10 ?c10 ?k10 ?a11 ?l11 ?c11 ?k11 ?a12 ?l12 ?c12 ?k12 ?a13 ?l13 ?c13 ?k13 ?a14 ?l14 ?c14 ?k14 ?a15 ?l15 ?c15 ?k15 ?a16 ?l16 ?c16 ?k16 ?a17 ?l17 ?c17 ?k17 ?a18 ?l18 ?c18 ?k18 ?a19 ?l19 ?c19 ?k19 ?a20 ?l20 ?c20 ?k20 ?a21 ?l21 ?c21 ?k21 ?a22 ?l22 ?c22 ?k22 ?z0 ?z1 ?z2 ?z3 ?z4 ?z5 ?z6 ?z7 ?z8 ?ge3 ?gp3
    (case a0 => k_is)
    (case l0 => k_is)
    (case c0 => k_is)
    (case k0 => k_is)
    (case a1 => k_is)
    (case l1 => k_is)
    (case c1 => k_is)
    (case k1 => k_is)
    (case a2 => k_is)
    (case l2 => k_is)
    (case c2 => k_is)
    (case k2 => k_is)
    (case a3 => k_is)
    (case l3 => k_is)
    (case c3 => k_is)
    (case k3 => k_is)
    (case a4 => k_is)
    (case l4 => k_is)
    (case c4 => k_is)
    (case k4 => k_is)
    (case a5 => k_is)
    (case l5 => k_is)
    (case c5 => k_is)
    (case k5 => k_is)
    (case a6 => k_is)
    (case l6 => k_is)
    (case c6 => k_is)
    (case k6 => k_is)
    (case a7 => k_is)
    (case l7 => k_is)
    (case c7 => k_is)
    (case k7 => k_is)
    (case a8 => k_is)
    (case l8 => k_is)
    (case c8 => k_is)
    (case k8 => k_is)
    (case a9 => k_is)
    (case l9 => k_is)
    (case c9 => k_is)
    (case k9 => k_is)
    (case a10 => k_is)
    (case l10 => k_is)
    (case c10 => k_is)
    (case k10 => k_is)
    (case a11 => k_is)
    (case l11 => k_is)
    (case c11 => k_is)
    (case k11 => k_is)
    (case a12 => k_is)
    (case l12 => k_is)
    (case c12 => k_is)
    (case k12 => k_is)
    (case a13 => k_is)
    (case l13 => k_is)
    (case c13 => k_is)
    (case k13 => k_is)
    (case a14 => k_is)
    (case l14 => k_is)
    (case c14 => k_is)
    (case k14 => k_is)
    (case a15 => k_is)
    (case l15 => k_is)
    (case c15 => k_is)
    (case k15 => k_is)
    (case a16 => k_is)
    (case l16 => k_is)
    (case c16 => k_is)
    (case k16 => k_is)
    (case a17 => k_is)
    (case l17 => k_is)
    (case c17 => k_is)
    (case k17 => k_is)
    (case a18 => k_is)
    (case l18 => k_is)
    (case c18 => k_is)
    (case k18 => k_is)
    (case a19 => k_is)
    (case l19 => k_is)
    (case c19 => k_is)
    (case k19 => k_is)
    (case a20 => k_is)
    (case l20 => k_is)
    (case c20 => k_is)
    (case k20 => k_is)
    (case a21 => k_is)
    (case l21 => k_is)
    (case c21 => k_is)
    (case k21 => k_is)
    (case a22 => k_is)
    (case l22 => k_is)
    (case c22 => k_is)
    (case k22 => k_is)
    (case z0 => k_is)
    (case z1 => k_is)
    (case z2 => k_is)
    (case z3 => k_is)
    (case z4 => k_is)
    (case z5 => k_is)
    (case z6 => k_is)
    (case z7 => k_is)
    (case z8 => k_is)
    (case ge3 => rfl)
    (case gp3 => decide)
