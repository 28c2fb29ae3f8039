import PyProof.Rows.All
import Wide.All
import OpenK.AllK
import Wide.FinOn
import Lean
import PyProof.EqAt
import PyProof.EqKinds
import PyProof.TupleCall
import PySem.Challenge.RW_momentties_k08_one_fall_one_tie
import KE.KTabLook
import PyProof.DictWalks
import PyProof.Rows.DictUnroll
import PyProof.Rows.SortShell
import PyProof.CollectWalk
import PyProof.DictTruth
import KE.KSortTup

set_option Elab.async false
set_option linter.all false
set_option maxRecDepth 100000
/-! Loops while an own exception is being handled: the end of an iterator is raised with it as its context. -/
namespace L2
open PySem PySem.Spec PyProof.Rows
noncomputable abbrev excRec (C : Addr) (dx : Option Addr) (t tb : Value) : Obj := { cls := .ref C, dict := dx, data := .fields #[t, tb, .none, .none, .bool false, .none] }
noncomputable def Hd (A : Around) (h : Heap) : Prop := A.handled = none ∨ ∃ (a C : Addr) (dx : Option Addr) (t tb : Value), A.handled = some (.ref a) ∧ h.get? a = some (excRec C dx t tb)
theorem entry_unchain : entryFor table "proto.unchain" = some Builtin.«proto.unchain» := entryFor_of_tree (by kernel_rfl)
section
variable {prog : Program} {w : World} {A : Around} {E : Value → Shared → Prop} {s : Shared}
theorem Hd.keep {h h' : Heap} (q : Hd A h) (k : ∀ b C dx t tb, h.get? b = some (excRec C dx t tb) → h'.get? b = some (excRec C dx t tb)) : Hd A h' := by
  rcases q with q | ⟨a, C, dx, t, tb, q, e⟩
  · exact .inl q
  · exact .inr ⟨a, C, dx, t, tb, q, k a C dx t tb e⟩
theorem raise_hd {α : Type} {e : Addr} {oe : Obj} {vs : Array Value} {Q : α → Shared → Prop} (q : Hd A s.heap) (he : s.heap.get? e = some oe) (hc : ∃ n, oe.cls = .type n) (hd : oe.data = .fields vs) (hz : 2 < vs.size)
    (h : ∀ h', Heap.SameBut e s.heap h' → (∃ o, h'.get? e = some o ∧ o.cls = oe.cls) → E (.ref e) { s with heap := h' }) : wpAny (model prog w) A (raiseNew (.ref e) : Sem α) Q E s := by
  unfold raiseNew
  refine wpAny_bind (wpAny_handled ?_)
  rcases q with q | ⟨a, C, dx, t, tb, q, ea⟩
  · rw [q]
    exact wpAny_bind (wpAny_pure (wpAny_throw (h s.heap (Heap.SameBut.refl ..) ⟨oe, he, rfl⟩)))
  · rw [q]
    have ne : a ≠ e := fun z => by
      rw [z, he] at ea
      obtain ⟨n, hn⟩ := hc
      rw [Option.some.inj ea] at hn
      cases hn
    dsimp only
    rw [if_pos (show (Value.ref a != Value.ref e) = true by simp [ne])]
    refine wpAny_bind (wpAny_holding (wpAny_runValue (codeAny_builtin entry_unchain ?_)))
    show wpAny _ _ (field (.ref a) 2 >>= _) _ _ s
    refine wpAny_bind (wpAny_field ea rfl (x := .none) rfl ?_)
    rw [if_pos (by rfl)]
    refine wpAny_bind (wpAny_pure (wpAny_pure ?_))
    refine wpAny_bind (wpAny_setField (a := e) he hd hz ?_)
    exact wpAny_throw (h _ (Heap.SameBut.update ..) ⟨_, Heap.get?_update_self _ he (Obj.isFreed_of_fields (Obj.data_mapFields hd _)), Obj.cls_mapFields ..⟩)
theorem stop_hd {α : Type} {Q : α → Shared → Prop} (q : Hd A s.heap)
    (h : ∀ e h', (∀ b o, s.heap.get? b = some o → h'.get? b = some o) → (∃ o, h'.get? e = some o ∧ o.cls = .type "StopIteration") → E (.ref e) { s with heap := h' }) :
    wpAny (model prog w) A (newExc (.type "StopIteration") [] >>= fun x => (raiseNew x : Sem α)) Q E s := by
  refine wpAny_bind ?_
  unfold newExc newTuple
  refine wpAny_bind (wpAny_newObj_type ?_ (by size_fits))
  refine wpAny_bind (wpAny_of_eq (a := Value.none) (by first | rfl | (simp only [firstArgMember]; rfl)) ?_)
  refine wpAny_newObj_type ?_ (by size_fits)
  refine raise_hd (q.keep fun b C dx t tb e => Heap.get?_push_of_some _ (Heap.get?_push_of_some _ e)) (Heap.get?_push_size _ rfl) ⟨_, rfl⟩ rfl (by simp; omega) fun h' sb ⟨o, eo, ec⟩ => ?_
  refine h _ h' (fun b o' e => ?_) ⟨o, eo, ec⟩
  have e1 := Heap.get?_push_of_some (h := s.heap) { cls := .type "tuple", data := .seq ([] : List Value).toArray } e
  exact (sb.2 b (Nat.ne_of_lt (Heap.lt_size e1))).trans (Heap.get?_push_of_some _ e1)
theorem ends_hd {it : Addr} {s0 : Shared} {e : Addr} {h' : Heap} {Q : Option Value → Shared → Prop} (k : ∀ b o, b ≠ it → s0.heap.get? b = some o → h'.get? b = some o) (t : ∃ o, h'.get? e = some o ∧ o.cls = .type "StopIteration") (hQ : ∀ h', Heap.ExtBut it s0.heap h' → Q none { s0 with heap := h' }) :
    wpAny (model prog w) A (isInstance (.ref e) (.type "StopIteration")) (fun b s' => b = true ∧ Q none s') E { s0 with heap := h' } := by
  obtain ⟨o, e1, e2⟩ := t
  exact wpAny_isInstance (T := "StopIteration") (b := true) ⟨o, e1, e2⟩ isSubtype_stop ⟨rfl, hQ h' fun b u hb e => k b u hb e⟩
theorem list_end_hd {it l : Addr} {i : Nat} {items : Array Value} {Q : Option Value → Shared → Prop} (q : Hd A s.heap) (st : s.heap.IsListIter it l i) (hl : s.heap.IsList l items) (hx : items[i]? = none)
    (hQ : ∀ h', Heap.ExtBut it s.heap h' → Q none { s with heap := h' }) : wpAny (model prog w) A (pyNext (.ref it)) Q E s := by
  obtain ⟨u, hu, cu, du⟩ := id st
  obtain ⟨v, hv, _, nv, dv⟩ := hl
  unfold pyNext
  refine wpAny_bind (wpAny_attempt (wpAny_callSpecial?_slot (name := Str.ofString "__next__") st.typeIs slot_listiter_next (wpAny_call_entry slot_listiter_next st.typeIs entry_listiter_next ?_ (args_listiter_next _))))
  show wpAny _ _ (field (.ref it) 0 >>= _) _ _ s
  refine wpAny_bind (wpAny_field hu du (x := .ref l) rfl ?_)
  rw [if_neg (show ¬ ((Value.ref l == Value.none) = true) from Bool.false_ne_true)]
  refine wpAny_bind (wpAny_field hu du (x := .int i 0) rfl (wpAny_bind (wpAny_seqItems hv dv ?_)))
  simp only [Int.toNat_natCast, hx]
  refine wpAny_bind (wpAny_rule (wpAny_bind (wpAny_setField hu du (by simp) ?_)))
  have other : ∀ b o, b ≠ it → s.heap.get? b = some o → (s.heap.update it (Obj.mapFields (·.setIfInBounds 0 Value.none))).get? b = some o := fun b o hb e => (Heap.get?_update_other _ _ (Ne.symm hb)).trans e
  refine stop_hd (A := A.in1) (s := { s with heap := s.heap.update it (Obj.mapFields (·.setIfInBounds 0 Value.none)) }) (Hd.keep (A := A.in1) q fun b C dx t tb e => other b _ (fun z => ?_) e) fun e h' kk te => ?_
  · rw [z, hu] at e
    cases e
    cases cu
  · refine wpAny_bind (wpAny_mono (ends_hd (s0 := s) (fun b o hb z => kk b o (other b o hb z)) te hQ) (fun b s' z => ?_) fun _ _ z => z)
    obtain ⟨rfl, z⟩ := z
    exact wpAny_pure z
theorem range_end_hd {it : Addr} {x left step : Int} {Q : Option Value → Shared → Prop} (q : Hd A s.heap) (st : IsRangeIter s.heap it x left step) (hz : left ≤ 0)
    (hQ : ∀ h', Heap.ExtBut it s.heap h' → Q none { s with heap := h' }) : wpAny (model prog w) A (pyNext (.ref it)) Q E s := by
  have ty : s.TypeIs (.ref it) "range_iterator" := ⟨_, st, rfl⟩
  unfold pyNext
  refine wpAny_bind (wpAny_attempt (wpAny_callSpecial?_slot (name := Str.ofString "__next__") ty F.slot_range_iterator_next (wpAny_call_entry F.slot_range_iterator_next ty F.entry_range_iterator_next ?_ (F.args_range_iterator_next_1 _))))
  show wpAny _ _ (field (.ref it) 0 >>= _) _ _ s
  refine wpAny_bind (wpAny_field st rfl (x := rawInt x) rfl (wpAny_bind (wpAny_field st rfl (x := rawInt left) rfl (wpAny_bind (wpAny_field st rfl (x := rawInt step) rfl ?_)))))
  show wpAny _ _ (if left ≤ 0 then _ else _) _ _ s
  rw [if_pos hz]
  refine wpAny_bind (wpAny_rule ?_)
  refine wpAny_bind ?_
  refine stop_hd (A := A.in1) (s := s) q fun e h' kk te => ?_
  refine wpAny_bind (wpAny_mono (ends_hd (s0 := s) (fun b o _ z => kk b o z) te hQ) (fun b s' z => ?_) fun _ _ z => z)
  obtain ⟨rfl, z⟩ := z
  exact wpAny_pure z
theorem tup_end_hd {it t : Addr} {i : Nat} {items : Array Value} {Q : Option Value → Shared → Prop} (q : Hd A s.heap) (st : IsTupIter s.heap it t i) (hl : IsTup s.heap t items) (hx : items[i]? = none)
    (hQ : ∀ h', Heap.ExtBut it s.heap h' → Q none { s with heap := h' }) : wpAny (model prog w) A (pyNext (.ref it)) Q E s := by
  obtain ⟨u, hu, cu, du⟩ := id st
  obtain ⟨v, hv, _, nv, dv⟩ := hl
  unfold pyNext
  refine wpAny_bind (wpAny_attempt (wpAny_callSpecial?_slot (name := Str.ofString "__next__") st.typeIs slot_tupleiter_next (wpAny_call_entry slot_tupleiter_next st.typeIs entry_tupleiter_next ?_ (args_tupleiter_next _))))
  show wpAny _ _ (field (.ref it) 0 >>= _) _ _ s
  refine wpAny_bind (wpAny_field hu du (x := .ref t) rfl ?_)
  rw [if_neg (show ¬ ((Value.ref t == Value.none) = true) from Bool.false_ne_true)]
  refine wpAny_bind (wpAny_field hu du (x := .int i 0) rfl (wpAny_bind (wpAny_seqItems hv dv ?_)))
  simp only [Int.toNat_natCast, hx]
  refine wpAny_bind (wpAny_rule (wpAny_bind (wpAny_setField hu du (by simp) ?_)))
  have other : ∀ b o, b ≠ it → s.heap.get? b = some o → (s.heap.update it (Obj.mapFields (·.setIfInBounds 0 Value.none))).get? b = some o := fun b o hb e => (Heap.get?_update_other _ _ (Ne.symm hb)).trans e
  refine stop_hd (A := A.in1) (s := { s with heap := s.heap.update it (Obj.mapFields (·.setIfInBounds 0 Value.none)) }) (Hd.keep (A := A.in1) q fun b C dx tt tb e => other b _ (fun z => ?_) e) fun e h' kk te => ?_
  · rw [z, hu] at e
    cases e
    cases cu
  · refine wpAny_bind (wpAny_mono (ends_hd (s0 := s) (fun b o hb z => kk b o (other b o hb z)) te hQ) (fun b s' z => ?_) fun _ _ z => z)
    obtain ⟨rfl, z⟩ := z
    exact wpAny_pure z
theorem range_item_hd {it : Addr} {lo : Int} {i n : Nat} {Q : Option Value → Shared → Prop} (hi : i < n) (st : IsRangeIter s.heap it (lo + (i : Nat) * 1) ((n : Int) - (i : Nat)) 1)
    (hQ : ∀ (t : Tok) h' tk, IsRangeIter h' it (lo + ((i + 1 : Nat) : Int) * 1) ((n : Int) - ((i + 1 : Nat) : Int)) 1 → (∀ b o, b ∉ [it] → s.heap.get? b = some o → h'.get? b = some o) → Q (some (.int (lo + (i : Nat) * 1) t)) { s with heap := h', toks := tk }) :
    wpAny (model prog w) A (pyNext (.ref it)) Q E s := by
  refine wpAny_pyNext_range_item st (by omega) fun h' st' sb => ?_
  refine hQ _ h' _ ?_ fun b o hb e => sb.extBut b o (fun z => hb (by simp [z])) e
  have e1 : lo + ((i + 1 : Nat) : Int) * 1 = lo + (i : Int) * 1 + 1 := by omega
  have e2 : (n : Int) - ((i + 1 : Nat) : Int) = (n : Int) - (i : Int) - 1 := by omega
  rw [e1, e2]
  exact st'
end
end L2

set_option Elab.async false
set_option linter.all false
set_option maxRecDepth 100000
/-! THE HAND LAYER, for ints, bools, texts, own classes, LISTS and tuples (index, slices, in, append, pop ..), calls, loops. Paste it whole ahead of your own text; what your proof does not reach may be deleted. -/
namespace L2
open PySem PySem.Spec PyProof.Rows

noncomputable abbrev Key := Sum Int Str
noncomputable def keyIs : Key → Value → Bool
  | .inl k, v => Value.isInt k v
  | .inr x, v => Value.isStrOf x v
noncomputable def keyH (w : World) : Key → Int
  | .inl k => hashInt k
  | .inr x => hashStr w x
theorem keyIs_shape : ∀ {k : Key} {v : Value}, keyIs k v = true → (∃ i t, k = Sum.inl i ∧ v = Value.int i t) ∨ (∃ x t, k = Sum.inr x ∧ v = Value.str x t)
  | .inl i, v, h => by
    obtain ⟨t, e⟩ := Value.isInt_shape (k := i) (v := v) h
    exact .inl ⟨i, t, rfl, e⟩
  | .inr x, v, h => by
    obtain ⟨t, e⟩ := Value.isStrOf_shape (x := x) (v := v) h
    exact .inr ⟨x, t, rfl, e⟩
theorem keyIs_int (i : Int) (t : Tok) : keyIs (.inl i) (.int i t) = true := by simp [keyIs, Value.isInt]
theorem keyIs_str (x : Str) (t : Tok) : keyIs (.inr x) (.str x t) = true := by simp [keyIs, Value.isStrOf]
theorem key_ll (a b : Int) : decide ((Sum.inl a : Key) = Sum.inl b) = (a == b) := by
  by_cases e : a = b
  · subst e; simp
  · have h : ¬ (Sum.inl a : Key) = Sum.inl b := fun q => e (Sum.inl.inj q)
    rw [decide_eq_false h]
    exact (beq_eq_false_iff_ne.mpr e).symm
theorem key_rr (a b : Str) : decide ((Sum.inr a : Key) = Sum.inr b) = decide (a = b) := by
  by_cases e : a = b
  · subst e; simp
  · have h : ¬ (Sum.inr a : Key) = Sum.inr b := fun q => e (Sum.inr.inj q)
    rw [decide_eq_false h, decide_eq_false e]
theorem key_lr (a : Int) (b : Str) : decide ((Sum.inl a : Key) = Sum.inr b) = false := decide_eq_false (fun q => nomatch q)
theorem key_rl (a : Str) (b : Int) : decide ((Sum.inr a : Key) = Sum.inl b) = false := decide_eq_false (fun q => nomatch q)

noncomputable def mixKind (prog : Program) (w : World) : PySem.KeyKind prog w Key where
  is := keyIs
  hash := keyH w
  inj := fun v a b ha hb => by
    rcases keyIs_shape ha with ⟨i, t, rfl, rfl⟩ | ⟨x, t, rfl, rfl⟩
    · rcases keyIs_shape hb with ⟨j, u, rfl, e⟩ | ⟨y, u, rfl, e⟩
      · injection e with e1 _; rw [e1]
      · exact nomatch e
    · rcases keyIs_shape hb with ⟨j, u, rfl, e⟩ | ⟨y, u, rfl, e⟩
      · exact nomatch e
      · injection e with e1 _; rw [e1]
  byValue := fun k v h => by
    rcases keyIs_shape h with ⟨i, t, rfl, rfl⟩ | ⟨x, t, rfl, rfl⟩ <;> rfl
  pyHash := fun hv h => by
    rcases keyIs_shape hv with ⟨i, t, rfl, rfl⟩ | ⟨x, t, rfl, rfl⟩
    · exact wpAny_pyHash_int h
    · exact wpAny_pyHash_str h
  eqBool := fun hu hv h => by
    rcases keyIs_shape hu with ⟨i, t, rfl, rfl⟩ | ⟨x, t, rfl, rfl⟩
    · rcases keyIs_shape hv with ⟨j, u, rfl, rfl⟩ | ⟨y, u, rfl, rfl⟩
      · rw [key_ll] at h; exact wpAny_eqBool_int h
      · rw [key_lr] at h; exact SeqAt.EqAt.int_str i t y u _ _ _ _ h
    · rcases keyIs_shape hv with ⟨j, u, rfl, rfl⟩ | ⟨y, u, rfl, rfl⟩
      · rw [key_rl] at h; exact SeqAt.EqAt.str_int x t j u _ _ _ _ h
      · rw [key_rr] at h; exact wpAny_eqBool_str h
  «strs» := fun k x t v h => by
    rcases keyIs_shape h with ⟨i, u, rfl, e⟩ | ⟨y, u, rfl, e⟩
    · exact nomatch e
    · injection e with e1 _
      subst e1
      cases v <;> rfl

theorem mixKind_int (prog : Program) (w : World) (i : Int) (t : Tok) : (mixKind prog w).is (.inl i) (.int i t) = true := keyIs_int i t
theorem mixKind_str (prog : Program) (w : World) (x : Str) (t : Tok) : (mixKind prog w).is (.inr x) (.str x t) = true := keyIs_str x t
end L2

namespace L2
open PySem PySem.Spec PyProof.Rows

inductive V where
  | non | bl (b : Bool) | int (i : Int) | str (x : Str) | byt (b : Array UInt8) | flt (b : UInt64) | ref (a : Addr) | ty (n : String)
  deriving DecidableEq

noncomputable def RelV : V → Value → Prop
  | .non, u => u = Value.none
  | .bl b, u => u = Value.bool b
  | .int i, u => ∃ t, u = Value.int i t
  | .str x, u => ∃ t, u = Value.str x t
  | .byt b, u => ∃ t, u = Value.bytes b t
  | .flt b, u => ∃ t, u = Value.float b t
  | .ref a, u => u = Value.ref a
  | .ty n, u => u = Value.type n

noncomputable abbrev Vals : List V → List Value → Prop := Paired RelV
theorem Vals.length {xs : List V} {us : List Value} (r : Vals xs us) : xs.length = us.length := Paired.length r
theorem Vals.get : ∀ {xs : List V} {us : List Value} {i : Nat} {x : V}, Vals xs us → xs[i]? = some x → ∃ u, us[i]? = some u ∧ RelV x u
  | _, _, _, _, .nil, e => by simp at e
  | _, _, 0, _, .cons r _, e => by simp at e; subst e; exact ⟨_, rfl, r⟩
  | _, _, i + 1, x, .cons _ t, e => by
    obtain ⟨u, h1, h2⟩ := Vals.get (i := i) (x := x) t (by simpa using e)
    exact ⟨u, by simpa using h1, h2⟩
theorem Vals.set {x : V} {u : Value} (r : RelV x u) : ∀ {xs : List V} {us : List Value} (i : Nat), Vals xs us → Vals (xs.set i x) (us.set i u)
  | _, _, _, .nil => .nil
  | _, _, 0, .cons _ t => .cons r t
  | _, _, i + 1, .cons q t => .cons q (Vals.set r i t)
theorem Vals.append {xs ys : List V} {us ws : List Value} (h : Vals xs us) (s : Vals ys ws) : Vals (xs ++ ys) (us ++ ws) := by
  induction h with
  | nil => exact s
  | cons r t ih => exact .cons r ih
theorem Vals.take : ∀ {xs : List V} {us : List Value} (n : Nat), Vals xs us → Vals (xs.take n) (us.take n)
  | _, _, 0, _ => .nil
  | _, _, _ + 1, .nil => .nil
  | _, _, n + 1, .cons r t => .cons r (Vals.take n t)
theorem Vals.drop : ∀ {xs : List V} {us : List Value} (n : Nat), Vals xs us → Vals (xs.drop n) (us.drop n)
  | _, _, 0, r => r
  | _, _, _ + 1, .nil => .nil
  | _, _, n + 1, .cons _ t => Vals.drop n t

noncomputable def RelO : Option V → Option Value → Prop
  | some v, some u => RelV v u
  | none, none => True
  | _, _ => False
noncomputable def KV {κ : Type} : List (κ × V) → List (κ × Value) → Prop := Paired fun (p : κ × V) (q : κ × Value) => p.1 = q.1 ∧ RelV p.2 q.2

noncomputable def kV : Key → V
  | .inl i => .int i
  | .inr x => .str x

inductive HO where
  | lst (xs : List V)
  | tup (xs : List V)
  | dK (kvs : List (Key × V)) | dT (kvs : List (List Key × V))
  | set (S : Int → Bool) (n : Nat)
  | ins (C dx : Addr) (fs : List (Str × V))
  | own (x : Addr)
  | xd (fs : List (Str × V))
  | met (f x : Addr)
  | rng (lo hi : Int)
  | frz (o : Obj) (u : HO)
  | tbl (ps : Array Value)
  | ext (φ : Heap → Prop)

noncomputable abbrev Hp := Addr → Option HO
noncomputable def upd (H : Hp) (a : Addr) (o : HO) : Hp := fun b => if b = a then some o else H b
theorem upd_same {H : Hp} {a : Addr} {o : HO} : upd H a o a = some o := by unfold upd; rw [if_pos rfl]
theorem upd_ne {H : Hp} {a b : Addr} {o : HO} (h : b ≠ a) : upd H a o b = H b := by unfold upd; rw [if_neg h]
theorem upd_upd {H : Hp} {a : Addr} {o u : HO} : upd (upd H a o) a u = upd H a u := by
  funext b; unfold upd; split <;> rfl
theorem ne_of {H : Hp} {a b : Addr} {o u : HO} (h : H a = some o) (h' : H b = some u) (d : o ≠ u) : a ≠ b := by
  intro e; subst e; rw [h] at h'; exact d (Option.some.inj h')
theorem ne_of_none {H : Hp} {a b : Addr} {o : HO} (h : H a = some o) (h' : H b = none) : a ≠ b := by
  intro e; subst e; rw [h] at h'; cases h'

section
variable (P : Program) (w : World)
noncomputable def ObjOk (H : Hp) (h : Heap) (a : Addr) : HO → Prop
  | .lst xs => xs.length ≤ sizeLine ∧ ∃ (its : List Value) (n : Nat), Vals xs its ∧ h.get? a = some { cls := .type "list", data := .seq its.toArray n }
  | .tup xs => xs.length ≤ sizeLine ∧ ∃ its : List Value, Vals xs its ∧ IsTup h a its.toArray
  | .dK kvs => kvs.length ≤ sizeLine ∧ (a == sysModules) = false ∧ ∃ vs, KV kvs vs ∧ h.DictOf (mixKind P w) a vs
  | .dT kvs => kvs.length ≤ sizeLine ∧ (a == sysModules) = false ∧ ∃ xs : List (List Key × Addr × Value),
      Paired (fun (p : List Key × V) (q : List Key × Addr × Value) => p.1 = q.1 ∧ H q.2.1 = some (.tup (p.1.map kV)) ∧ RelV p.2 q.2.2) kvs xs ∧
      ∃ o es ep, h.get? a = some o ∧ o.ExactDict ∧ o.data = .dict es ep ∧ es.toList = xs.map (entryOfKey (tupleKind (mixKind P w))) ∧ (xs.map (·.1)).Nodup
  | .set S n => h.SetOf (intKind P w) a S n
  | .ins C dx fs => H dx = some (.own a) ∧ fs.length ≤ 1000 ∧ dx ≠ a ∧ h.get? a = some (PySem.W.instObj C dx) ∧
      ∃ mA, h.Ns1 dx mA ∧ (∀ f, RelO (fs.lookup f) (mA f)) ∧ PySem.Within mA (fs.map (·.1))
  | .own _ => ∃ o, h.get? a = some o
  | .xd fs => ∃ mA, h.Ns1 a mA ∧ ∀ f, RelO (fs.lookup f) (mA f)
  | .rng lo hi => ∃ t u v, h.get? a = some { cls := .type "range", data := .fields #[.int lo t, .int hi u, .int 1 v] }
  | .frz o u => h.get? a = some o ∧ ObjOk H h a u
  | .tbl ps => h.get? a = some { cls := .none, data := .fields ps }
  | .met f x => h.get? a = some (PySem.W.methodObj (.ref f) (.ref x))
  | .ext φ => φ h ∧ (∃ o, h.get? a = some o) ∧ ∀ h1 h2 : Heap, φ h1 → (∀ o, h1.get? a = some o → h2.get? a = some o) → φ h2
noncomputable def HOk (H : Hp) (h : Heap) : Prop := ∀ a o, H a = some o → ObjOk P w H h a o
end

section
variable {P : Program} {w : World} {H H' : Hp} {h h' : Heap} {a : Addr} {o : HO}
theorem ObjOk.lt (x : ObjOk P w H h a o) : a < h.objs.size := by
  cases o with
  | lst xs => obtain ⟨_, _, _, _, e⟩ := x; exact Heap.lt_size e
  | tup xs => obtain ⟨_, _, _, p⟩ := x; exact p.lt
  | dK kvs => obtain ⟨_, _, _, _, o, _, _, e, _⟩ := x; exact Heap.lt_size e
  | dT kvs => obtain ⟨_, _, _, _, o, _, _, e, _⟩ := x; exact Heap.lt_size e
  | set S n => obtain ⟨o, _, _, _, e, _⟩ := x; exact Heap.lt_size e
  | ins C dx fs => obtain ⟨_, _, _, e, _⟩ := x; exact Heap.lt_size e
  | own y => obtain ⟨_, e⟩ := x; exact Heap.lt_size e
  | xd fs => obtain ⟨_, ⟨_, _, _, e, _⟩, _⟩ := x; exact Heap.lt_size e
  | rng lo hi => obtain ⟨_, _, _, e⟩ := x; exact Heap.lt_size e
  | frz ob u => obtain ⟨e, _⟩ := x; exact Heap.lt_size e
  | tbl ps => exact Heap.lt_size (show h.get? a = some _ from x)
  | met f y => exact Heap.lt_size (show h.get? a = some _ from x)
  | ext φ => obtain ⟨_, ⟨_, e⟩, _⟩ := x; exact Heap.lt_size e
theorem Paired.mapP {α β : Type} {F G : α → β → Prop} {l₁ : List α} {l₂ : List β} (h : Paired F l₁ l₂) (f : ∀ a b, F a b → G a b) : Paired G l₁ l₂ := by
  induction h with
  | nil => exact .nil
  | cons r t ih => exact .cons (f _ _ r) ih
theorem ObjOk.stay (x : ObjOk P w H h a o) (k : ∀ b u, (b = a ∨ H b = some (.own a)) → h.get? b = some u → h'.get? b = some u)
    (ho : ∀ b, H b = some (.own a) → H' b = some (.own a)) (ht : ∀ b xs, H b = some (.tup xs) → H' b = some (.tup xs)) : ObjOk P w H' h' a o := by
  induction o with
  | lst xs => obtain ⟨z, its, n, r, e⟩ := x; exact ⟨z, its, n, r, k _ _ (.inl rfl) e⟩
  | tup xs => obtain ⟨z, its, r, ob, e, c⟩ := x; exact ⟨z, its, r, ob, k _ _ (.inl rfl) e, c⟩
  | dK kvs => obtain ⟨z, y, vs, r, ob, es, ep, e, c⟩ := x; exact ⟨z, y, vs, r, ob, es, ep, k _ _ (.inl rfl) e, c⟩
  | dT kvs =>
    obtain ⟨z, y, xs, r, ob, es, ep, e, c⟩ := x
    exact ⟨z, y, xs, Paired.mapP r fun p q z => ⟨z.1, ht _ _ z.2.1, z.2.2⟩, ob, es, ep, k _ _ (.inl rfl) e, c⟩
  | set S n => obtain ⟨ob, es, ep, t, e, c⟩ := x; exact ⟨ob, es, ep, t, k _ _ (.inl rfl) e, c⟩
  | ins C dx fs =>
    obtain ⟨d, z, ne, e, mA, ⟨od, es, ep, e2, c⟩, r⟩ := x
    exact ⟨ho _ d, z, ne, k _ _ (.inl rfl) e, mA, ⟨od, es, ep, k _ _ (.inr d) e2, c⟩, r⟩
  | own y => obtain ⟨ob, e⟩ := x; exact ⟨ob, k _ _ (.inl rfl) e⟩
  | xd fs => obtain ⟨mA, ⟨od, es, ep, e, c⟩, r⟩ := x; exact ⟨mA, ⟨od, es, ep, k _ _ (.inl rfl) e, c⟩, r⟩
  | rng lo hi => obtain ⟨t, u, v, e⟩ := x; exact ⟨t, u, v, k _ _ (.inl rfl) e⟩
  | frz ob u ih => obtain ⟨e, q⟩ := x; exact ⟨k _ _ (.inl rfl) e, ih q⟩
  | tbl ps =>
    have e : h.get? a = some { cls := .none, data := .fields ps } := x
    show h'.get? a = some { cls := .none, data := .fields ps }
    exact k a _ (.inl rfl) e
  | met f y =>
    have e : h.get? a = some (PySem.W.methodObj (.ref f) (.ref y)) := x
    show h'.get? a = some (PySem.W.methodObj (.ref f) (.ref y))
    exact k a _ (.inl rfl) e
  | ext φ => obtain ⟨p, ⟨o, e⟩, st⟩ := x; exact ⟨st _ _ p fun o q => k _ _ (.inl rfl) q, ⟨o, k _ _ (.inl rfl) e⟩, st⟩
theorem HOk.lt (x : HOk P w H h) (e : H a = some o) : a < h.objs.size := (x a o e).lt
theorem HOk.fresh (x : HOk P w H h) (e : h.objs.size ≤ a) : H a = none := by
  cases q : H a with
  | none => rfl
  | some u => exact absurd (Nat.lt_of_lt_of_le (x.lt q) e) (Nat.lt_irrefl _)
theorem HOk.kept (x : HOk P w H h) (k : ∀ b u, h.get? b = some u → h'.get? b = some u) : HOk P w H h' := fun a o e =>
  (x a o e).stay (fun b u _ q => k b u q) (fun _ q => q) fun _ _ q => q
theorem HOk.laid (x : HOk P w H h) (k : ∀ b u, h.get? b = some u → h'.get? b = some u) (hp : h.objs.size ≤ a) (new : ObjOk P w (upd H a o) h' a o) : HOk P w (upd H a o) h' := fun b u e => by
  have hn := x.fresh hp
  by_cases hb : b = a
  · subst hb; rw [upd_same] at e; cases e; exact new
  · rw [upd_ne hb] at e
    exact (x b u e).stay (fun c v _ q => k c v q) (fun c q => by rw [upd_ne (ne_of_none q hn)]; exact q) fun c xs q => by rw [upd_ne (ne_of_none q hn)]; exact q
end

noncomputable def Rd (H : Hp) (a : Addr) (u : HO) : Prop := H a = some u ∨ ∃ o, H a = some (.frz o u)
theorem Rd.ok {P : Program} {w : World} {H : Hp} {h : Heap} {a : Addr} {u : HO} (r : Rd H a u) (x : HOk P w H h) : ObjOk P w H h a u := by
  rcases r with r | ⟨o, r⟩
  · exact x a u r
  · obtain ⟨_, q⟩ := x a _ r
    exact q
noncomputable def Mut : Option HO → Prop
  | some (.lst _) => True
  | some (.dK _) => True
  | some (.dT _) => True
  | some (.set _ _) => True
  | some (.ins _ _ _) => True
  | some (.ext _) => True
  | _ => False
section
variable {P : Program} {w : World} {H : Hp} {h h' : Heap} {x e : Addr} {o' : HO}
theorem HOk.write (ok : HOk P w H h) (mu : Mut (H x)) (he : e = x ∨ H e = some (.own x)) (k : ∀ b u, b ≠ e → h.get? b = some u → h'.get? b = some u) (heo : ∃ u, h'.get? e = some u)
    (new : ObjOk P w (upd H x o') h' x o') : HOk P w (upd H x o') h' := fun b u q => by
  have nown : ∀ c y, H c = some (.own y) → c ≠ x := fun c y r z => by subst z; rw [r] at mu; exact mu
  have ntup : ∀ c xs, H c = some (.tup xs) → c ≠ x := fun c xs r z => by subst z; rw [r] at mu; exact mu
  by_cases hb : b = x
  · subst hb; rw [upd_same] at q; cases q; exact new
  · rw [upd_ne hb] at q
    by_cases hbe : b = e
    · have q' : H b = some (.own x) := by
        rcases he with z | z
        · exact absurd (hbe.trans z) hb
        · rw [hbe]; exact z
      rw [q] at q'; cases q'
      obtain ⟨v, hv⟩ := heo
      exact ⟨v, by rw [hbe]; exact hv⟩
    · refine (ok b u q).stay (fun c v hc r => k c v ?_ r) (fun c r => by rw [upd_ne (nown c b r)]; exact r) fun c xs r => by rw [upd_ne (ntup c xs r)]; exact r
      rcases hc with rfl | hc
      · exact hbe
      · rintro rfl
        rcases he with z | z
        · exact nown c b hc z
        · rw [hc] at z; cases z; exact hb rfl
end

/-! ### kept unless tracked; of the frames at fs (the callers') the slots may change (an exception that passes writes there); of the records at ex (iterators) nothing is said -/
structure Un (fs ex : List Addr) (H H' : Hp) (h h' : Heap) : Prop where
  keep : ∀ b o, h.get? b = some o → H b = none → b ∉ fs → b ∉ ex → h'.get? b = some o
  slot : ∀ b o, h.get? b = some o → H b = none → b ∈ fs → b ∉ ex → ∃ sl, h'.get? b = some { o with slots := sl }
  free : ∀ b o, h.get? b = some o → H b = none → b ∉ ex → H' b = none
  there : ∀ b o, h.get? b = some o → b ∉ ex → ∃ o', h'.get? b = some o'
  tups : ∀ b xs, H b = some (.tup xs) → H' b = some (.tup xs)
  frzs : ∀ b o u, H b = some (.frz o u) → H' b = some (.frz o u)
  tbls : ∀ b ps, H b = some (.tbl ps) → ∃ more, H' b = some (.tbl (ps ++ more))
section
variable {fs fs' ex ex' : List Addr} {H H1 H2 : Hp} {h h1 h2 h' : Heap} {a x e : Addr} {o : HO}
theorem Un.any (u : Un fs ex H H1 h h1) {b : Addr} {ob : Obj} (q : h.get? b = some ob) (n : H b = none) (hx : b ∉ ex) : ∃ sl, h1.get? b = some { ob with slots := sl } := by
  by_cases hb : b ∈ fs
  · exact u.slot b ob q n hb hx
  · exact ⟨ob.slots, u.keep b ob q n hb hx⟩
theorem Un.kept (k : ∀ b u, h.get? b = some u → h'.get? b = some u) : Un fs ex H H h h' :=
  ⟨fun b ob q _ _ _ => k b ob q, fun b ob q _ _ _ => ⟨ob.slots, k b ob q⟩, fun _ _ _ n _ => n, fun b ob q _ => ⟨ob, k b ob q⟩, fun _ _ q => q, fun _ _ _ q => q, fun _ ps q => ⟨#[], by rw [q]; simp⟩⟩
theorem Un.refl : Un fs ex H H h h := Un.kept fun _ _ q => q
theorem Un.laid (k : ∀ b u, h.get? b = some u → h'.get? b = some u) (hp : h.objs.size ≤ a) (hn : H a = none) : Un fs ex H (upd H a o) h h' where
  keep := fun b u q _ _ _ => k b u q
  slot := fun b u q _ _ _ => ⟨u.slots, k b u q⟩
  free := fun b u q n _ => by rw [upd_ne (Nat.ne_of_lt (Nat.lt_of_lt_of_le (Heap.lt_size q) hp))]; exact n
  there := fun b u q _ => ⟨u, k b u q⟩
  tups := fun b xs q => by rw [upd_ne (ne_of_none q hn)]; exact q
  frzs := fun b u xs q => by rw [upd_ne (ne_of_none q hn)]; exact q
  tbls := fun b ps q => ⟨#[], by rw [upd_ne (ne_of_none q hn), q]; simp⟩
theorem Un.write (mu : Mut (H x)) (he : e = x ∨ H e = some (.own x)) (k : ∀ b u, b ≠ e → h.get? b = some u → h'.get? b = some u) (heo : ∃ u, h'.get? e = some u) : Un fs ex H (upd H x o) h h' := by
  have hx : ∀ b, H b = none → b ≠ x := fun b n z => by subst z; rw [n] at mu; exact mu
  have hb : ∀ b, H b = none → b ≠ e := fun b n z => by
    subst z
    rcases he with r | r
    · exact hx b n r
    · rw [n] at r; cases r
  have hm : ∀ b u, H b = some u → ¬ Mut (some u) → b ≠ x := fun b u q nm z => by subst z; rw [q] at mu; exact nm mu
  refine ⟨fun b u q n _ _ => k b u (hb b n) q, fun b u q n _ _ => ⟨u.slots, k b u (hb b n) q⟩, fun b u q n _ => by rw [upd_ne (hx b n)]; exact n, fun b u q _ => ?_,
    fun b xs q => by rw [upd_ne (hm b _ q fun z => z)]; exact q, fun b u xs q => by rw [upd_ne (hm b _ q fun z => z)]; exact q, fun b ps q => ⟨#[], by rw [upd_ne (hm b _ q fun z => z), q]; simp⟩⟩
  by_cases hbe : b = e
  · subst hbe; exact heo
  · exact ⟨u, k b u hbe q⟩
end

/-! ### the heap without what is tracked -/
noncomputable def trk (h : Heap) (H : Hp) : List Addr := (List.range h.objs.size).filter fun a => (H a).isSome
noncomputable def hidT (h : Heap) (H : Hp) : Heap := PySem.W.hideAll h (trk h H)
theorem hidT_size (h : Heap) (H : Hp) : (hidT h H).objs.size = h.objs.size := PySem.W.hideAll_size _ _
theorem hidT_get {h : Heap} {H : Hp} {b : Addr} {o : Obj} (e : h.get? b = some o) (n : H b = none) : (hidT h H).get? b = some o :=
  PySem.W.hideAll_get _ e fun hm => by
    have q : (H b).isSome = true := (List.mem_filter.mp hm).2
    rw [n] at q; simp at q
theorem of_hidT {h : Heap} {H : Hp} {b : Addr} {o : Obj} (e : (hidT h H).get? b = some o) : h.get? b = some o ∧ H b = none := by
  have e' : h.get? b = some o := PySem.W.of_hideAll (trk h H) e
  refine ⟨e', ?_⟩
  cases q : H b with
  | none => rfl
  | some x =>
    have hm : b ∈ trk h H := List.mem_filter.mpr ⟨List.mem_range.mpr (Heap.lt_size e'), by simp [q]⟩
    have z : (hidT h H).get? b = none := PySem.W.hideAll_none (trk h H) hm
    rw [z] at e; cases e

/-! ### OpenK's ledger, filled with every new object but one -/
end L2

namespace L2
open PySem PySem.Spec PyProof.Rows

structure Mod (K : PySem.W.Frag) (mg : Str → Option Value) (base : Heap) : Prop where
  kin : K.In base
  glob : base.Ns mainGlobals mg
  blt : ∃ mb, base.Ns builtinsNs mb ∧ ∀ x : Str, x ≠ "__name__" → mb x = bootBuiltins x
  nolimit : base.NoLimit

structure Cx where
  prog : Program
  w : World
  K : PySem.W.Frag
  mg : Str → Option Value
  base : Heap
  A : Around
  N : List Str
  s₀ : Shared
  H₀ : Hp
  env : Env
  outer : List Env
  stack : List Env
  ex : List Addr
  fn : Str → Bool
  calm : Bool
  pn : List (Addr × Obj)
  xe : Value → Shared → Prop
noncomputable def frs (l : List Env) : List Addr := l.filterMap (·.frame)
noncomputable abbrev Cx.fs (X : Cx) : List Addr := frs X.outer

noncomputable def Vis (sc : Scope) (x : Str) : Prop := sc.names.lookup x = some .local ∨ sc.names.lookup x = some .cell ∨ sc.names.lookup x = some .free
noncomputable def Loc (sc : Scope) (x : Str) : Prop := sc.names.lookup x = some .local ∨ sc.names.lookup x = some .cell
noncomputable def Look (env : Env) (h : Heap) (m : Str → Option Value) (x : Str) (u : Value) : Prop :=
  (env.kindOf x = some .local ∧ m x = some u) ∨ ((env.kindOf x = some .cell ∨ env.kindOf x = some .free) ∧ ∃ c, env.cells.lookup x = some c ∧ h.IsCell c (some u))

structure Cx.Ok (X : Cx) : Prop where
  mod : Mod X.K X.mg X.base
  kind : X.env.scope.kind = .function
  glob : X.env.globals = mainGlobals
  blt : X.env.builtins = builtinsNs
  above : X.s₀.heap.objs.size ≤ X.env.locals
  inj : ∀ x y c, X.env.cells.lookup x = some c → X.env.cells.lookup y = some c → x = y
  has : ∀ x, (X.env.kindOf x = some .cell ∨ X.env.kindOf x = some .free) → ∃ c, X.env.cells.lookup x = some c
  cab : ∀ x c, X.fn x = true → X.env.cells.lookup x = some c → X.s₀.heap.objs.size ≤ c
  hd : X.calm = true → X.A.handled = none
  frames : X.A.frames = some X.stack
  stk : X.stack = X.outer ∨ (X.stack = X.env :: X.outer ∧ X.env.frame = some X.env.locals)
  exf : ∀ b ∈ X.ex, b ≠ X.env.locals ∧ ∀ x c, X.env.cells.lookup x = some c → c ≠ b
  bs : ∀ b o, X.base.get? b = some o → X.s₀.heap.get? b = some o ∧ X.H₀ b = none
  bsz : X.base.objs.size ≤ X.s₀.heap.objs.size
  noex : ∀ b o, X.base.get? b = some o → b ∉ X.ex
  exfs : ∀ b ∈ X.ex, b ∉ X.fs
  funs : X.s₀.heap.FunFrames X.base X.outer
  frf : ∀ b ∈ X.fs, X.H₀ b = none

structure Inv (X : Cx) (pins : List (Addr × Obj)) (σ : List (Option V)) (H : Hp) (s : Shared) : Prop where
  ok : X.Ok
  os : s.os = X.s₀.os
  bare : AllBare s.gens
  base : Un X.fs X.ex X.H₀ H X.s₀.heap s.heap
  loc : ∃ m, s.heap.Ns X.env.locals m ∧ ∀ (i : Nat) (x : Str) (v : V), X.N[i]? = some x → σ[i]? = some (some v) → Vis X.env.scope x → ∃ u, RelV v u ∧ Look X.env s.heap m x u
  cell : ∀ x c, X.env.cells.lookup x = some c → ∃ v, s.heap.IsCell c v
  free : H X.env.locals = none
  freeC : ∀ x c, X.env.cells.lookup x = some c → H c = none
  pin : ∀ p ∈ X.pn ++ pins, s.heap.get? p.1 = some p.2 ∧ H p.1 = none ∧ p.1 ≠ X.env.locals ∧ p.1 ∉ X.fs ∧ ∀ v, p.2.data ≠ .cell v
  hok : HOk X.prog X.w H s.heap
  len : σ.length = X.N.length

section
variable {X : Cx} {pins : List (Addr × Obj)} {σ : List (Option V)} {H H' : Hp} {s : Shared} {h' : Heap}

theorem Cx.Ok.nofr (ok : X.Ok) {b : Addr} {o : Obj} (e : X.base.get? b = some o) : b ∉ X.fs := fun hb => by
  have := (ok.funs.mem hb).1
  rw [e] at this; cases this
theorem Inv.bs (I : Inv X pins σ H s) : ∀ b o, X.base.get? b = some o → s.heap.get? b = some o ∧ H b = none := fun b o e =>
  ⟨I.base.keep b o (I.ok.bs b o e).1 (I.ok.bs b o e).2 (I.ok.nofr e) (I.ok.noex b o e), I.base.free b o (I.ok.bs b o e).1 (I.ok.bs b o e).2 (I.ok.noex b o e)⟩
theorem Inv.bk (I : Inv X pins σ H s) : ∀ b o, X.base.get? b = some o → s.heap.get? b = some o := fun b o e => (I.bs b o e).1
theorem Inv.mod (I : Inv X pins σ H s) : Mod X.K X.mg X.base := I.ok.mod
theorem Inv.kIn (I : Inv X pins σ H s) : X.K.In s.heap := I.ok.mod.kin.keeps I.bk
theorem Inv.lt (I : Inv X pins σ H s) : X.env.locals < s.heap.objs.size := let ⟨_, hn, _⟩ := I.loc; hn.lt
theorem Inv.sz (I : Inv X pins σ H s) : X.s₀.heap.objs.size ≤ s.heap.objs.size := Nat.le_trans I.ok.above (Nat.le_of_lt I.lt)
theorem Inv.nofs (I : Inv X pins σ H s) {a : Addr} (h : s.heap.objs.size ≤ a) : a ∉ X.fs := fun hb => by
  obtain ⟨_, o, ho, _⟩ := I.ok.funs.mem hb
  exact absurd (Nat.lt_of_lt_of_le (Heap.lt_size ho) (Nat.le_trans I.sz h)) (Nat.lt_irrefl _)
theorem Inv.cne (I : Inv X pins σ H s) : ∀ x c, X.env.cells.lookup x = some c → c ≠ X.env.locals := fun x c e z => by
  obtain ⟨v, o, ho, hd⟩ := I.cell x c e
  obtain ⟨m, ⟨o', es, ep, ho', hd', _⟩, _⟩ := I.loc
  rw [z, ho'] at ho; cases ho; rw [hd'] at hd; cases hd
theorem Inv.funs (I : Inv X pins σ H s) : s.heap.FunFrames X.base X.outer := by
  have all : ∀ (l : List Env), (∀ b ∈ frs l, b ∈ X.fs) → X.s₀.heap.FunFrames X.base l → s.heap.FunFrames X.base l := by
    intro l
    induction l with
    | nil => intro _ _; trivial
    | cons env r ih =>
      intro hs hl
      obtain ⟨hk, ⟨L, o, hf, hn, ho, hd⟩, hr⟩ := hl
      have hL : L ∈ X.fs := hs L (by unfold frs; rw [List.filterMap_cons, hf]; exact List.mem_cons_self)
      obtain ⟨sl, e⟩ := I.base.slot L o ho (I.ok.frf L hL) hL fun z => I.ok.exfs L z hL
      exact ⟨hk, ⟨L, _, hf, hn, e, hd⟩, ih (fun b hb => hs b (by unfold frs; rw [List.filterMap_cons, hf]; exact List.mem_cons_of_mem _ hb)) hr⟩
  exact all X.outer (fun _ hb => hb) I.ok.funs

theorem Inv.stack (I : Inv X pins σ H s) : s.heap.FunFrames X.base X.stack := by
  rcases I.ok.stk with e | ⟨e, hf⟩
  · rw [e]; exact I.funs
  · rw [e]
    obtain ⟨m, hn, _⟩ := I.loc
    refine .cons (by rw [I.ok.kind]; decide) hf hn ?_ I.funs
    exact Heap.get?_none_of_le (Nat.le_trans I.ok.bsz I.ok.above)
theorem Inv.stkSub (I : Inv X pins σ H s) : ∀ b ∈ frs X.stack, b ∈ X.env.locals :: X.fs := fun b hb => by
  rcases I.ok.stk with e | ⟨e, hf⟩
  · rw [e] at hb; exact List.mem_cons_of_mem _ hb
  · rw [e] at hb
    unfold frs at hb
    rw [List.filterMap_cons, hf] at hb
    exact hb
theorem Inv.stkFree (I : Inv X pins σ H s) : ∀ b ∈ frs X.stack, H b = none := fun b hb => by
  rcases List.mem_cons.mp (I.stkSub b hb) with e | hb
  · rw [e]; exact I.free
  · obtain ⟨_, o, ho, _⟩ := I.ok.funs.mem hb
    exact I.base.free b o ho (I.ok.frf b hb) fun z => I.ok.exfs b z hb

theorem Inv.step {g' : Array GenState} {t' : Nat} {d' : Drawn} {ch : List Addr} (I : Inv X pins σ H s)
    (hch : ∀ b ∈ ch, (b ∈ X.ex ∨ X.s₀.heap.objs.size ≤ b) ∧ b ≠ X.env.locals ∧ (∀ x c, X.env.cells.lookup x = some c → c ≠ b) ∧ ∀ p ∈ X.pn ++ pins, p.1 ≠ b)
    (keep : ∀ b o, b ≠ X.env.locals → b ∉ X.fs → b ∉ ch → s.heap.get? b = some o → H b = none → h'.get? b = some o)
    (slot : ∀ b o, b ≠ X.env.locals → b ∈ X.fs → b ∉ ch → s.heap.get? b = some o → H b = none → ∃ sl, h'.get? b = some { o with slots := sl }) (free : ∀ b o, b ∉ ch → s.heap.get? b = some o → H b = none → H' b = none)
    (there : ∀ b o, b ∉ ch → s.heap.get? b = some o → ∃ o', h'.get? b = some o')
    (tups : ∀ b xs, H b = some (.tup xs) → H' b = some (.tup xs)) (frzs : ∀ b o u, H b = some (.frz o u) → H' b = some (.frz o u)) (tbls : ∀ b ps, H b = some (.tbl ps) → ∃ more, H' b = some (.tbl (ps ++ more)))
    (ns : ∀ m, s.heap.Ns X.env.locals m → h'.Ns X.env.locals m) (hok : HOk X.prog X.w H' h') (hg : AllBare g') :
    Inv X pins σ H' { s with heap := h', gens := g', drawn := d', toks := t' } := by
  have neL : ∀ b o, X.s₀.heap.get? b = some o → b ≠ X.env.locals := fun b o e => Nat.ne_of_lt (Nat.lt_of_lt_of_le (Heap.lt_size e) I.ok.above)
  have neC : ∀ b o, X.s₀.heap.get? b = some o → b ∉ X.ex → b ∉ ch := fun b o e hx hb => by
    rcases (hch b hb).1 with z | z
    · exact hx z
    · exact absurd (Nat.lt_of_lt_of_le (Heap.lt_size e) z) (Nat.lt_irrefl _)
  have cellK : ∀ x c, X.env.cells.lookup x = some c → ∀ v, s.heap.IsCell c v → h'.IsCell c v := fun x c e v ⟨o, ho, hd⟩ => by
    have nch : c ∉ ch := fun z => (hch c z).2.2.1 x c e rfl
    by_cases hc : c ∈ X.fs
    · obtain ⟨sl, q⟩ := slot c o (I.cne x c e) hc nch ho (I.freeC x c e)
      exact ⟨_, q, hd⟩
    · exact ⟨o, keep c o (I.cne x c e) hc nch ho (I.freeC x c e), hd⟩
  refine ⟨I.ok, I.os, hg, ⟨fun b o e n hb hx => ?_, fun b o e n hb hx => ?_, fun b o e n hx => ?_, fun b o e hx => ?_, fun b xs e => tups b xs (I.base.tups b xs e), fun b o xs e => frzs b o xs (I.base.frzs b o xs e), fun b ps e => ?_⟩, ?_, fun x c e => ?_, ?_, fun x c e => ?_, fun p hp => ?_, hok, I.len⟩
  · exact keep b o (neL b o e) hb (neC b o e hx) (I.base.keep b o e n hb hx) (I.base.free b o e n hx)
  · obtain ⟨sl, e1⟩ := I.base.slot b o e n hb hx
    obtain ⟨sl', e2⟩ := slot b _ (neL b o e) hb (neC b o e hx) e1 (I.base.free b o e n hx)
    exact ⟨sl', e2⟩
  · obtain ⟨o', e1⟩ := I.base.there b o e hx
    exact free b o' (neC b o e hx) e1 (I.base.free b o e n hx)
  · obtain ⟨o', e1⟩ := I.base.there b o e hx
    exact there b o' (neC b o e hx) e1
  · obtain ⟨m1, e1⟩ := I.base.tbls b ps e
    obtain ⟨m2, e2⟩ := tbls b _ e1
    exact ⟨m1 ++ m2, by rw [e2, Array.append_assoc]⟩
  · obtain ⟨m, hn, hl⟩ := I.loc
    refine ⟨m, ns m hn, fun i x v e1 e2 e3 => ?_⟩
    obtain ⟨u, r, l⟩ := hl i x v e1 e2 e3
    refine ⟨u, r, ?_⟩
    rcases l with l | ⟨k, c, e, z⟩
    · exact .inl l
    · exact .inr ⟨k, c, e, cellK x c e _ z⟩
  · obtain ⟨v, z⟩ := I.cell x c e
    exact ⟨v, cellK x c e v z⟩
  · obtain ⟨m, ⟨o, _, _, ho, _⟩, _⟩ := I.loc
    exact free _ o (fun z => (hch _ z).2.1 rfl) ho I.free
  · obtain ⟨v, o, ho, hd⟩ := I.cell x c e
    exact free c o (fun z => (hch c z).2.2.1 x c e rfl) ho (I.freeC x c e)
  · obtain ⟨e, n, ne, nf, d⟩ := I.pin p hp
    have nch : p.1 ∉ ch := fun z => (hch p.1 z).2.2.2 p hp rfl
    exact ⟨keep p.1 p.2 ne nf nch e n, free p.1 p.2 nch e n, ne, nf, d⟩
theorem Inv.un {t' : Nat} (I : Inv X pins σ H s) (u : Un X.fs [] H H' s.heap h') (hok : HOk X.prog X.w H' h') : Inv X pins σ H' { s with heap := h', toks := t' } := by
  obtain ⟨m, ⟨o, es, ep, ho, r⟩, _⟩ := id I.loc
  obtain ⟨sl, hL⟩ := u.any ho I.free (by simp)
  exact I.step (g' := s.gens) (d' := s.drawn) (ch := []) (fun _ z => nomatch z) (fun b o _ hb _ e n => u.keep b o e n hb (by simp)) (fun b o _ hb _ e n => u.slot b o e n hb (by simp)) (fun b o _ e n => u.free b o e n (by simp)) (fun b o _ e => u.there b o e (by simp)) u.tups u.frzs u.tbls (fun m' hm => by
    obtain ⟨o', es', ep', ho', r'⟩ := hm
    rw [ho] at ho'; cases ho'
    exact ⟨_, es', ep', hL, r'⟩) hok I.bare
theorem Inv.call {g' : Array GenState} {t' : Nat} {d' : Drawn} {ch : List Addr} (I : Inv X pins σ H s) (u : Un (frs X.stack) ch H H' s.heap h') (hok : HOk X.prog X.w H' h') (hg : AllBare g')
    (hch : ∀ b ∈ ch, (b ∈ X.ex ∨ X.s₀.heap.objs.size ≤ b) ∧ b ≠ X.env.locals ∧ (∀ x c, X.env.cells.lookup x = some c → c ≠ b) ∧ ∀ p ∈ X.pn ++ pins, p.1 ≠ b) :
    Inv X pins σ H' { s with heap := h', gens := g', drawn := d', toks := t' } := by
  obtain ⟨m, ⟨o, es, ep, ho, r⟩, _⟩ := id I.loc
  obtain ⟨sl, hL⟩ := u.any ho I.free fun z => (hch _ z).2.1 rfl
  exact I.step (ch := ch) hch (fun b o hL hb hc e n => u.keep b o e n (fun z => (List.mem_cons.mp (I.stkSub b z)).elim hL hb) hc) (fun b o _ _ hc e n => u.any e n hc) (fun b o hc e n => u.free b o e n hc) (fun b o hc e => u.there b o e hc) u.tups u.frzs u.tbls (fun m' hm => by
    obtain ⟨o', es', ep', ho', r'⟩ := hm
    rw [ho] at ho'; cases ho'
    exact ⟨_, es', ep', hL, r'⟩) hok hg
theorem Inv.turned {t' : Nat} {it : Addr} (I : Inv X pins σ H s) (k : ∀ b o, b ≠ it → s.heap.get? b = some o → h'.get? b = some o) (hn : H it = none) (hL : it ≠ X.env.locals)
    (h1 : it ∈ X.ex ∨ X.s₀.heap.objs.size ≤ it) (h2 : ∀ x c, X.env.cells.lookup x = some c → c ≠ it) (h3 : ∀ p ∈ X.pn ++ pins, p.1 ≠ it) : Inv X pins σ H { s with heap := h', toks := t' } := by
  have nit : ∀ b u, H b = some u → b ≠ it := fun b u e z => by rw [z, hn] at e; cases e
  refine I.step (g' := s.gens) (d' := s.drawn) (ch := [it]) (fun b hb => ?_) (fun b o _ _ hc e _ => k b o (fun z => hc (by simp [z])) e) (fun b o _ _ hc e _ => ⟨o.slots, k b o (fun z => hc (by simp [z])) e⟩) (fun _ _ _ _ n => n)
    (fun b o hc e => ⟨o, k b o (fun z => hc (by simp [z])) e⟩) (fun _ _ e => e) (fun _ _ _ e => e) (fun b ps e => ⟨#[], by rw [e]; simp⟩) (fun m hm => ?_) (fun b u e => ?_) I.bare
  · have e : b = it := by simpa using hb
    subst e
    exact ⟨h1, hL, h2, h3⟩
  · obtain ⟨o, es, ep, ho, r⟩ := hm
    exact ⟨o, es, ep, k _ o (Ne.symm hL) ho, r⟩
  · refine (I.hok b u e).stay (fun c v hc q => k c v ?_ q) (fun _ q => q) fun _ _ q => q
    rcases hc with z | z
    · rw [z]; exact nit b u e
    · exact nit c _ z
theorem Inv.tok (I : Inv X pins σ H s) (t : Nat) : Inv X pins σ H { s with toks := t } := I.un (h' := s.heap) (t' := t) Un.refl I.hok
theorem Inv.kept {t' : Nat} (I : Inv X pins σ H s) (k : ∀ b u, s.heap.get? b = some u → h'.get? b = some u) : Inv X pins σ H { s with heap := h', toks := t' } := I.un (Un.kept k) (I.hok.kept k)
theorem Inv.laid {a : Addr} {o : HO} {t' : Nat} (I : Inv X pins σ H s) (k : ∀ b u, s.heap.get? b = some u → h'.get? b = some u) (hp : s.heap.objs.size ≤ a) (new : ObjOk X.prog X.w (upd H a o) h' a o) :
    Inv X pins σ (upd H a o) { s with heap := h', toks := t' } := I.un (Un.laid k hp (I.hok.fresh hp)) (I.hok.laid k hp new)
theorem Inv.write {x e : Addr} {o : HO} {t' : Nat} (I : Inv X pins σ H s) (mu : Mut (H x)) (he : e = x ∨ H e = some (.own x)) (k : ∀ b u, b ≠ e → s.heap.get? b = some u → h'.get? b = some u) (heo : ∃ u, h'.get? e = some u)
    (new : ObjOk X.prog X.w (upd H x o) h' x o) : Inv X pins σ (upd H x o) { s with heap := h', toks := t' } := I.un (Un.write mu he k heo) (I.hok.write mu he k heo new)
theorem Inv.pins_of {pins' : List (Addr × Obj)} (I : Inv X pins σ H s) (h : ∀ p ∈ pins', s.heap.get? p.1 = some p.2 ∧ H p.1 = none ∧ p.1 ≠ X.env.locals ∧ p.1 ∉ X.fs ∧ ∀ v, p.2.data ≠ .cell v) : Inv X pins' σ H s :=
  ⟨I.ok, I.os, I.bare, I.base, I.loc, I.cell, I.free, I.freeC, fun p hp => (List.mem_append.mp hp).elim (fun z => I.pin p (List.mem_append_left _ z)) (h p), I.hok, I.len⟩

theorem nodup_ix {N : List Str} (hN : N.Nodup) {i j : Nat} {x : Str} (a : N[i]? = some x) (b : N[j]? = some x) : i = j := by
  obtain ⟨h1, e1⟩ := List.getElem?_eq_some_iff.mp a
  obtain ⟨h2, e2⟩ := List.getElem?_eq_some_iff.mp b
  exact (List.getElem_inj hN).mp (e1.trans e2.symm)

theorem store_ok2 {M : Model} {A : Around} {E : Value → Shared → Prop} {i : Nat} {x : Str} {v : V} {u : Value} {Q : Unit → Shared → Prop} (I : Inv X pins σ H s) (hN : X.N.Nodup) (hi : X.N[i]? = some x) (hx : Loc X.env.scope x) (r : RelV v u)
    (h : ∀ s', Inv X pins (σ.set i (some v)) H s' → (∃ a, Heap.SameBut a s.heap s'.heap ∧ (a = X.env.locals ∨ X.env.cells.lookup x = some a)) → Q () s') (hf : X.fn x = true ∨ X.env.scope.names.lookup x = some .local := by first | exact .inl rfl | exact .inr rfl | assumption) : wpAny M A (storeName X.env x u) Q E s := by
  obtain ⟨m, hn, hl⟩ := id I.loc
  have hcls : (X.env.scope.kind == .class || (X.env.scope.kind == .module && X.env.locals != X.env.globals)) = false := by rw [I.ok.kind]; rfl
  have hiσ : i < σ.length := by rw [I.len]; exact (List.getElem?_eq_some_iff.mp hi).1
  have cne := I.cne
  have tracked : ∀ {a : Addr} {h' : Heap}, (∃ o, s.heap.get? a = some o ∧ H a = none) → Heap.SameBut a s.heap h' → HOk X.prog X.w H h' := fun {a h'} ha hs b ob e => by
    obtain ⟨_, _, hfree⟩ := ha
    refine (I.hok b ob e).stay (fun c w' hc q => (hs.2 c ?_).trans q) (fun _ q => q) fun _ _ q => q
    rintro rfl
    rcases hc with rfl | hc
    · rw [hfree] at e; cases e
    · rw [hfree] at hc; cases hc
  rcases hx with hk | hk
  · refine wpAny_storeName_local hk hn (fun h' hn' hs => ?_) hcls
    obtain ⟨oL, _, _, hoL, _⟩ := id hn
    refine h _ ⟨I.ok, I.os, I.bare, ⟨fun b o e n hb hx => ?_, fun b o e n hb hx => ?_, I.base.free, fun b o e hx => ?_, I.base.tups, I.base.frzs, I.base.tbls⟩, ⟨_, hn', fun j y v' e1 e2 e3 => ?_⟩, fun y c e => ?_, I.free, I.freeC, fun p hp => ?_, tracked ⟨oL, hoL, I.free⟩ hs, by simpa using I.len⟩ ⟨_, hs, .inl rfl⟩
    · exact (hs.2 b (Nat.ne_of_lt (Nat.lt_of_lt_of_le (Heap.lt_size e) I.ok.above))).trans (I.base.keep b o e n hb hx)
    · obtain ⟨sl, e1⟩ := I.base.slot b o e n hb hx
      exact ⟨sl, (hs.2 b (Nat.ne_of_lt (Nat.lt_of_lt_of_le (Heap.lt_size e) I.ok.above))).trans e1⟩
    · obtain ⟨o', e1⟩ := I.base.there b o e hx
      exact ⟨o', (hs.2 b (Nat.ne_of_lt (Nat.lt_of_lt_of_le (Heap.lt_size e) I.ok.above))).trans e1⟩
    · by_cases hj : j = i
      · subst hj
        rw [hi] at e1; cases e1
        rw [List.getElem?_set_self hiσ] at e2
        cases e2
        exact ⟨u, r, .inl ⟨hk, by simp⟩⟩
      · rw [List.getElem?_set_ne (Ne.symm hj)] at e2
        obtain ⟨u', r', q⟩ := hl j y v' e1 e2 e3
        refine ⟨u', r', ?_⟩
        rcases q with ⟨k, e⟩ | ⟨k, c, e, z⟩
        · refine .inl ⟨k, ?_⟩
          have : y ≠ x := fun e => hj (nodup_ix hN e1 (e ▸ hi))
          simp [this, e]
        · exact .inr ⟨k, c, e, z.sameBut hs (cne y c e)⟩
    · obtain ⟨w', z⟩ := I.cell y c e
      exact ⟨w', z.sameBut hs (cne y c e)⟩
    · obtain ⟨e, n, ne, nf, d⟩ := I.pin p hp
      exact ⟨(hs.2 p.1 ne).trans e, n, ne, nf, d⟩
  · have hfn : X.fn x = true := by
      rcases hf with z | z
      · exact z
      · rw [z] at hk; cases hk
    obtain ⟨c, hc⟩ := I.ok.has x (.inl hk)
    obtain ⟨w', z⟩ := I.cell x c hc
    refine wpAny_storeName_cell I.ok.kind hk hc z (fun h' hc' hs => ?_)
    obtain ⟨oc, hoc, hocd⟩ := id z
    refine h { s with heap := h' } ⟨I.ok, I.os, I.bare, ⟨fun b o e n hb hx => ?_, fun b o e n hb hx => ?_, I.base.free, fun b o e hx => ?_, I.base.tups, I.base.frzs, I.base.tbls⟩, ⟨m, hn.sameBut hs (Ne.symm (cne x c hc)), fun j y v' e1 e2 e3 => ?_⟩, fun y c' e => ?_, I.free, I.freeC, fun p hp => ?_, tracked ⟨oc, hoc, I.freeC x c hc⟩ hs, by simpa using I.len⟩ ⟨c, hs, .inr hc⟩
    · exact (hs.2 b (Nat.ne_of_lt (Nat.lt_of_lt_of_le (Heap.lt_size e) (I.ok.cab x c hfn hc)))).trans (I.base.keep b o e n hb hx)
    · obtain ⟨sl, e1⟩ := I.base.slot b o e n hb hx
      exact ⟨sl, (hs.2 b (Nat.ne_of_lt (Nat.lt_of_lt_of_le (Heap.lt_size e) (I.ok.cab x c hfn hc)))).trans e1⟩
    · obtain ⟨o', e1⟩ := I.base.there b o e hx
      exact ⟨o', (hs.2 b (Nat.ne_of_lt (Nat.lt_of_lt_of_le (Heap.lt_size e) (I.ok.cab x c hfn hc)))).trans e1⟩
    · by_cases hj : j = i
      · subst hj
        rw [hi] at e1; cases e1
        rw [List.getElem?_set_self hiσ] at e2
        cases e2
        exact ⟨u, r, .inr ⟨.inl hk, c, hc, hc'⟩⟩
      · rw [List.getElem?_set_ne (Ne.symm hj)] at e2
        obtain ⟨u', r', q⟩ := hl j y v' e1 e2 e3
        refine ⟨u', r', ?_⟩
        rcases q with q | ⟨k, c', e, z'⟩
        · exact .inl q
        · refine .inr ⟨k, c', e, z'.sameBut hs ?_⟩
          rintro rfl
          exact hj (nodup_ix hN e1 (I.ok.inj _ _ _ e hc ▸ hi))
    · by_cases hcc : c' = c
      · subst hcc; exact ⟨_, hc'⟩
      · obtain ⟨w2, z2⟩ := I.cell y c' e
        exact ⟨w2, z2.sameBut hs hcc⟩
    · obtain ⟨e, n, ne, nf, d⟩ := I.pin p hp
      refine ⟨(hs.2 p.1 ?_).trans e, n, ne, nf, d⟩
      intro q
      rw [q, hoc] at e
      have q' : oc = p.2 := Option.some.inj e
      exact d w' (by rw [← q']; exact hocd)
theorem store_ok {M : Model} {A : Around} {E : Value → Shared → Prop} {i : Nat} {x : Str} {v : V} {u : Value} {Q : Unit → Shared → Prop} (I : Inv X pins σ H s) (hN : X.N.Nodup) (hi : X.N[i]? = some x) (hx : Loc X.env.scope x) (r : RelV v u)
    (h : ∀ s', Inv X pins (σ.set i (some v)) H s' → Q () s') (hf : X.fn x = true ∨ X.env.scope.names.lookup x = some .local := by first | exact .inl rfl | exact .inr rfl | assumption) : wpAny M A (storeName X.env x u) Q E s :=
  store_ok2 I hN hi hx r (fun s' I' _ => h s' I') hf
theorem Inv.call' {s' : Shared} {ch : List Addr} (I : Inv X pins σ H s) (ho : s'.os = s.os) (u : Un (frs X.stack) ch H H' s.heap s'.heap) (hok : HOk X.prog X.w H' s'.heap) (hg : AllBare s'.gens)
    (hch : ∀ b ∈ ch, (b ∈ X.ex ∨ X.s₀.heap.objs.size ≤ b) ∧ b ≠ X.env.locals ∧ (∀ x c, X.env.cells.lookup x = some c → c ≠ b) ∧ ∀ p ∈ X.pn ++ pins, p.1 ≠ b) : Inv X pins σ H' s' := by
  obtain ⟨h', g', d', t', o'⟩ := s'
  have e : o' = s.os := ho
  subst e
  exact I.call (g' := g') (t' := t') (d' := d') u hok hg hch
end

/-! ### the judgements -/
noncomputable abbrev XK := Value → Option Addr → Hp → Prop
noncomputable abbrev St := List (Option V)
noncomputable abbrev VK := V → Hp → Prop
noncomputable abbrev TE := St → Hp → VK → Prop
noncomputable abbrev TT := St → Hp → (Bool → Hp → Prop) → Prop
noncomputable abbrev TA := St → Hp → (List V → Hp → Prop) → Prop
structure Ends where
  nx : St → Hp → Prop
  rt : VK
  bk : St → Hp → Prop := fun _ _ => False
  ct : St → Hp → Prop := fun _ _ => False
noncomputable abbrev TS := Ends → St → Hp → Prop

theorem el5 {α β : Type} {p q r : α → β → Prop} {P : Prop} (h : ∃ a b, p a b ∧ q a b ∧ r a b) (k : ∀ a b, p a b → q a b → r a b → P) : P := by
  obtain ⟨a, b, x, y, z⟩ := h
  exact k a b x y z
theorem el3 {α : Type} {p q : α → Prop} {P : Prop} (h : ∃ a, p a ∧ q a) (k : ∀ a, p a → q a → P) : P := by
  obtain ⟨a, x, y⟩ := h
  exact k a x y
noncomputable def EP (X : Cx) (pins : List (Addr × Obj)) (σ : St) (Q : VK) (u : Value) (s' : Shared) : Prop := ∃ v H', Inv X pins σ H' s' ∧ RelV v u ∧ Q v H'
noncomputable def TP (X : Cx) (pins : List (Addr × Obj)) (σ : St) (Q : Bool → Hp → Prop) (b : Bool) (s' : Shared) : Prop := ∃ H', Inv X pins σ H' s' ∧ Q b H'
noncomputable def AP (X : Cx) (pins : List (Addr × Obj)) (σ : St) (Q : List V → Hp → Prop) (us : List Value) (s' : Shared) : Prop := ∃ vs H', Inv X pins σ H' s' ∧ Vals vs us ∧ Q vs H'
noncomputable def SP (X : Cx) (pins : List (Addr × Obj)) (D : Ends) (f : Flow) (s' : Shared) : Prop :=
  match f with
  | .next => ∃ σ' H', Inv X pins σ' H' s' ∧ D.nx σ' H'
  | .brk => ∃ σ' H', Inv X pins σ' H' s' ∧ D.bk σ' H'
  | .cont => ∃ σ' H', Inv X pins σ' H' s' ∧ D.ct σ' H'
  | .ret u => ∃ v σ' H', Inv X pins σ' H' s' ∧ RelV v u ∧ D.rt v H'

noncomputable def PE (X : Cx) (e : Expr) (t : TE) : Prop :=
  ∀ (pins : List (Addr × Obj)) (s : Shared) (σ : St) (H : Hp) (Q : VK), Inv X pins σ H s → t σ H Q → wpAny (model X.prog X.w) X.A (eval e X.env) (EP X pins σ Q) X.xe s
noncomputable def PT (X : Cx) (e : Expr) (t : TT) : Prop :=
  ∀ (pins : List (Addr × Obj)) (s : Shared) (σ : St) (H : Hp) (Q : Bool → Hp → Prop), Inv X pins σ H s → t σ H Q → wpAny (model X.prog X.w) X.A (isTrue e X.env (eval e X.env)) (TP X pins σ Q) X.xe s
noncomputable def PW (X : Cx) (e : Expr) (t : TT) : Prop :=
  ∀ (whole : Sem Value) (pins : List (Addr × Obj)) (s : Shared) (σ : St) (H : Hp) (Q : Bool → Hp → Prop), Inv X pins σ H s → t σ H Q → wpAny (model X.prog X.w) X.A (isTrue e X.env whole) (TP X pins σ Q) X.xe s
theorem PW.pt {X : Cx} {e : Expr} {t : TT} (h : PW X e t) : PT X e t := h _
noncomputable def PA (X : Cx) (es : List Expr) (t : TA) : Prop :=
  ∀ (pos : Pos) (pins : List (Addr × Obj)) (s : Shared) (σ : St) (H : Hp) (Q : List V → Hp → Prop), Inv X pins σ H s → t σ H Q → wpAny (model X.prog X.w) X.A (spliced (backTo pos (starEach es X.env))) (AP X pins σ Q) X.xe s
noncomputable def PS (X : Cx) (st : Stmt) (t : TS) : Prop :=
  ∀ (pins : List (Addr × Obj)) (s : Shared) (σ : St) (H : Hp) (D : Ends), Inv X pins σ H s → t D σ H → wpAny (model X.prog X.w) X.A (exec st X.env) (SP X pins D) X.xe s
noncomputable def PSs (X : Cx) (st : List Stmt) (t : TS) : Prop :=
  ∀ (pins : List (Addr × Obj)) (s : Shared) (σ : St) (H : Hp) (D : Ends), Inv X pins σ H s → t D σ H → wpAny (model X.prog X.w) X.A (execs st X.env) (SP X pins D) X.xe s
theorem thn {α : Type} {t : Sem α} {Q Q' : α → Shared → Prop} {M : Model} {A : Around} {E : Value → Shared → Prop} {s : Shared} (h : wpAny M A t Q E s) (hQ : ∀ a s, Q a s → Q' a s) : wpAny M A t Q' E s := wpAny_mono h hQ fun _ _ x => x
end L2

namespace L2
open PySem PySem.Spec PyProof.Rows
section
variable {X : Cx}


/-! ### names and constants -/
noncomputable def tVar (i : Nat) : TE := fun σ H Q => ∃ v, σ[i]? = some (some v) ∧ Q v H
noncomputable def tC (v : V) : TE := fun _ H Q => Q v H
theorem pe_var {i : Nat} {x : Str} {pos : Pos} (hN : X.N[i]? = some x) (hv : Vis X.env.scope x) (hd : (x == ("__debug__" : Str)) = false := by decide) (hcd : (x == ("__classdict__" : Str)) = false := by decide) : PE X (.Name x pos) (tVar i) := by
  intro pins s σ H Q I h
  obtain ⟨v, e, h⟩ := h
  obtain ⟨m, hn, hl⟩ := I.loc
  obtain ⟨u, r, l⟩ := hl i x v hN e hv
  have fin : EP X pins σ Q u s := ⟨v, H, I, r, h⟩
  rcases l with ⟨hk, hm⟩ | ⟨hk, c, hc, hcell⟩
  · exact wpAny_Name (wpAny_loadName_local I.ok.kind hk hn hm fin) hd
  · rcases hk with hk | hk
    · exact wpAny_Name (wpAny_loadName_cell I.ok.kind hk hc hcell fin) hd
    · exact wpAny_Name (wpAny_loadName_free I.ok.kind hk hc hcell fin hcd) hd
theorem pe_int {i j pos} : PE X (.Constant (.int i) j pos) (tC (.int i)) := fun _ _ _ H _ I h => wpAny_Constant_int ⟨.int i, H, I.tok _, ⟨_, rfl⟩, h⟩
theorem pe_bl {b j pos} : PE X (.Constant (.bool b) j pos) (tC (.bl b)) := fun _ _ _ H _ I h => Constant_bool ⟨.bl b, H, I, rfl, h⟩
theorem pe_non {j pos} : PE X (.Constant .none j pos) (tC .non) := fun _ _ _ H _ I h => Constant_none ⟨.non, H, I, rfl, h⟩
theorem pe_str {x j pos} : PE X (.Constant (.str x) j pos) (tC (.str x)) := fun _ _ _ H _ I h => Calls.Constant_str ⟨.str x, H, I.tok _, ⟨_, rfl⟩, h⟩

noncomputable def Gl (X : Cx) (x : Str) : Prop := X.env.kindOf x = some .globalImplicit
theorem ld_glob {E : Value → Shared → Prop} {pins : List (Addr × Obj)} {s : Shared} {σ : St} {H : Hp} {x : Str} {u : Value} {pos : Pos} {Q : Value → Shared → Prop} (I : Inv X pins σ H s) (hg : Gl X x) (hm : X.mg x = some u) (h : Q u s)
    (hd : (x == ("__debug__" : Str)) = false := by decide) : wpAny (model X.prog X.w) X.A (eval (.Name x pos) X.env) Q E s :=
  Calls.Name_function_global I.ok.kind hg (Calls.loadGlobal_global (by rw [I.ok.glob]; exact I.mod.glob.keeps I.bk) hm h) hd
theorem ld_blt {E : Value → Shared → Prop} {pins : List (Addr × Obj)} {s : Shared} {σ : St} {H : Hp} {x : Str} {u : Value} {pos : Pos} {Q : Value → Shared → Prop} (I : Inv X pins σ H s) (hg : Gl X x) (hm : X.mg x = none) (hv : bootBuiltins x = some u) (h : Q u s)
    (hn : x ≠ "__name__" := by decide) (hd : (x == ("__debug__" : Str)) = false := by decide) : wpAny (model X.prog X.w) X.A (eval (.Name x pos) X.env) Q E s := by
  obtain ⟨mb, h1, h2⟩ := I.mod.blt
  exact Calls.Name_function_global I.ok.kind hg (Calls.loadGlobal_builtin (by rw [I.ok.glob]; exact I.mod.glob.keeps I.bk) hm (by rw [I.ok.blt]; exact h1.keeps I.bk) ((h2 x hn).trans hv) h) hd
theorem pe_glob {x : Str} {v : V} {u : Value} {pos : Pos} (hg : Gl X x) (hm : X.mg x = some u) (r : RelV v u) (hd : (x == ("__debug__" : Str)) = false := by decide) : PE X (.Name x pos) (tC v) :=
  fun _ _ _ H _ I h => ld_glob I hg hm ⟨v, H, I, r, h⟩ hd
theorem pe_bltn {x : Str} {v : V} {u : Value} {pos : Pos} (hg : Gl X x) (hm : X.mg x = none) (hv : bootBuiltins x = some u) (r : RelV v u) (hn : x ≠ "__name__" := by decide) (hd : (x == ("__debug__" : Str)) = false := by decide) : PE X (.Name x pos) (tC v) :=
  fun _ _ _ H _ I h => ld_blt I hg hm hv ⟨v, H, I, r, h⟩ hn hd

/-! ### arithmetic -/
variable {a b : Expr} {ta tb : TE} {pos : Pos}

/-! ### comparisons -/
noncomputable def PC (X : Cx) (op : CmpOp) (a b : Expr) (t : TE) : Prop :=
  ∀ (pins : List (Addr × Obj)) (s : Shared) (σ : St) (H : Hp) (Q : VK), Inv X pins σ H s → t σ H Q →
    wpAny (model X.prog X.w) X.A (eval a X.env) (fun v s₁ => wpAny (model X.prog X.w) X.A (eval b X.env) (fun u s₂ => wpAny (model X.prog X.w) X.A (compareOp op v u) (EP X pins σ Q) X.xe s₂) X.xe s₁) X.xe s
noncomputable def tB (t : TE) : TT := fun σ H Q => t σ H fun x H1 => ∃ c, x = .bl c ∧ Q c H1
theorem pt_cmp {op : CmpOp} {t : TE} (h : PC X op a b t) (h1 : behindInMarks op b = false := by first | exact nobehind _ (by decide) (by decide) | rfl) : PT X (.Compare a [op] [b] pos) (tB t) := by
  intro pins s σ H Q I hw
  refine wpAny_isTrue_Compare1 (thn (h pins s σ H _ I hw) fun v s1 h1 => thn h1 fun u s2 h2 => thn h2 fun c s3 zz => ?_) h1
  obtain ⟨x, H1, I1, r1, q1⟩ := zz
  obtain ⟨d, rfl, q⟩ := q1
  cases r1
  exact wpAny_truthy_bool ⟨H1, I1, q⟩
theorem pt_val {e : Expr} {t : TE} (h : PE X e t) (he : ∀ whole, isTrue e X.env whole = (do let v ← whole; standAt e.pos; holding [v] (truthy v)) := by intro _; rfl) : PT X e (tB t) := by
  intro pins s σ H Q I hw
  refine isTrue_plain (thn (h pins s σ H _ I hw) fun v s1 zz => ?_) (he _)
  obtain ⟨x, H1, I1, r1, q1⟩ := zz
  obtain ⟨d, rfl, q⟩ := q1
  cases r1
  exact wpAny_truthy_bool ⟨H1, I1, q⟩

/-! ### and, or, not -/
variable {tA tB' : TT} {rest : List Expr}
noncomputable def tAnd (t u : TT) : TT := fun σ H Q => t σ H fun c H1 => if c = true then u σ H1 Q else Q false H1
noncomputable def tOr (t u : TT) : TT := fun σ H Q => t σ H fun c H1 => if c = true then Q true H1 else u σ H1 Q
noncomputable def tNot (t : TT) : TT := fun σ H Q => t σ H fun c H1 => Q (!c) H1
theorem pw_and1 (ha : PT X a tA) : PW X (.BoolOp .And [a] pos) tA := by
  intro wh pins s σ H Q I h
  refine isTrue_and (thn (ha pins s σ H Q I h) fun c s1 e => ?_)
  cases c with
  | true => exact isTrue_and_nil e
  | false => exact e
theorem pw_or1 (ha : PT X a tA) : PW X (.BoolOp .Or [a] pos) tA := by
  intro wh pins s σ H Q I h
  refine isTrue_or (thn (ha pins s σ H Q I h) fun c s1 e => ?_)
  cases c with
  | false => exact isTrue_or_nil e
  | true => exact e
theorem pw_and (ha : PT X a tA) (hb : PW X (.BoolOp .And (b :: rest) pos) tB') : PW X (.BoolOp .And (a :: b :: rest) pos) (tAnd tA tB') := by
  intro wh pins s σ H Q I h
  refine isTrue_and (thn (ha pins s σ H _ I h) fun c s1 zz => ?_)
  obtain ⟨H1, I1, q1⟩ := zz
  cases c with
  | true => exact hb wh pins s1 σ H1 Q I1 q1
  | false => exact ⟨H1, I1, q1⟩
theorem pw_or (ha : PT X a tA) (hb : PW X (.BoolOp .Or (b :: rest) pos) tB') : PW X (.BoolOp .Or (a :: b :: rest) pos) (tOr tA tB') := by
  intro wh pins s σ H Q I h
  refine isTrue_or (thn (ha pins s σ H _ I h) fun c s1 zz => ?_)
  obtain ⟨H1, I1, q1⟩ := zz
  cases c with
  | true => exact ⟨H1, I1, q1⟩
  | false => exact hb wh pins s1 σ H1 Q I1 q1
theorem pt_not (ha : PT X a tA) : PT X (.UnaryOp .Not a pos) (tNot tA) := by
  intro pins s σ H Q I h
  exact isTrue_not (ha pins s σ H (fun c H1 => Q (!c) H1) I h)
noncomputable def tAndV (ta tb : TE) : TE := fun σ H Q => ta σ H fun x H1 => ∃ c, x = .bl c ∧ if c = true then tb σ H1 Q else Q (.bl false) H1
theorem pe_one {op} {t : TE} (h : PE X a t) : PE X (.BoolOp op [a] pos) t := fun pins s σ H Q I hw => BoolOp_one (h pins s σ H Q I hw)
theorem pe_and (ha : PE X a ta) (hb : PE X (.BoolOp .And (b :: rest) pos) tb) : PE X (.BoolOp .And (a :: b :: rest) pos) (tAndV ta tb) := by
  intro pins s σ H Q I h
  refine BoolOp_and (thn (ha pins s σ H _ I h) fun v s1 zz => ?_)
  obtain ⟨x, H1, I1, r1, q1⟩ := zz
  obtain ⟨c, rfl, q1⟩ := q1
  cases r1
  refine wpAny_truthy_bool ?_
  cases c with
  | true => exact hb pins s1 σ H1 Q I1 q1
  | false => exact ⟨.bl false, H1, I1, rfl, q1⟩
noncomputable def tIf (t : TT) (ta tb : TE) : TE := fun σ H Q => t σ H fun c H1 => if c = true then ta σ H1 Q else tb σ H1 Q
theorem pe_ifExp {c : Expr} (hc : PT X c tA) (ha : PE X a ta) (hb : PE X b tb) : PE X (.IfExp c a b pos) (tIf tA ta tb) := by
  intro pins s σ H Q I h
  refine wpAny_IfExp (thn (hc pins s σ H _ I h) fun d s1 zz => ?_)
  obtain ⟨H1, I1, q1⟩ := zz
  cases d with
  | true => exact ha pins s1 σ H1 Q I1 q1
  | false => exact hb pins s1 σ H1 Q I1 q1
end
end L2

namespace L2
open PySem PySem.Spec PyProof.Rows

/-! ### a list, a tuple that is read: tracked, frozen, or an object of the module -/
noncomputable def SqL (K : PySem.W.Frag) (H : Hp) (a : Addr) (xs : List V) : Prop :=
  Rd H a (.lst xs) ∨
    ∃ (o : Obj) (its : Array Value) (n : Nat), K.lookup a = some o ∧ o.cls = .type "list" ∧ o.dict = none ∧ o.data = .seq its n ∧ its.size ≤ sizeLine ∧ Vals xs its.toList
noncomputable def SqT (K : PySem.W.Frag) (H : Hp) (a : Addr) (xs : List V) : Prop :=
  Rd H a (.tup xs) ∨
    ∃ (o : Obj) (its : Array Value) (n : Nat), K.lookup a = some o ∧ o.cls = .type "tuple" ∧ o.data = .seq its n ∧ its.size ≤ sizeLine ∧ Vals xs its.toList
noncomputable def absV : Value → Option V
  | .none => some .non
  | .bool b => some (.bl b)
  | .int i _ => some (.int i)
  | .str x _ => some (.str x)
  | .bytes b _ => some (.byt b)
  | .float b _ => some (.flt b)
  | .ref a => some (.ref a)
  | .type n => some (.ty n)
  | _ => none
theorem RelV.abs {x : V} {u : Value} (r : RelV x u) : absV u = some x := by
  cases x with
  | non => cases r; rfl
  | bl _ => cases r; rfl
  | int _ => obtain ⟨t, rfl⟩ := r; rfl
  | str _ => obtain ⟨t, rfl⟩ := r; rfl
  | byt _ => obtain ⟨t, rfl⟩ := r; rfl
  | flt _ => obtain ⟨t, rfl⟩ := r; rfl
  | ref _ => cases r; rfl
  | ty _ => cases r; rfl
theorem RelV.inj {x y : V} {u : Value} (r : RelV x u) (q : RelV y u) : x = y := Option.some.inj (r.abs.symm.trans q.abs)
theorem Vals.inj {xs ys : List V} {us : List Value} (h : Vals xs us) (h' : Vals ys us) : xs = ys := by
  induction h generalizing ys with
  | nil => cases h'; rfl
  | cons r t ih =>
    cases h' with
    | cons r' t' => rw [r.inj r', ih t']
section
variable {X : Cx} {pins : List (Addr × Obj)} {σ : St} {H : Hp} {s : Shared} {a : Addr} {xs ys : List V}
theorem SqL.of {K : PySem.W.Frag} (h : H a = some (.lst xs)) : SqL K H a xs := .inl (.inl h)
theorem SqT.of {K : PySem.W.Frag} (h : H a = some (.tup xs)) : SqT K H a xs := .inl (.inl h)
theorem Inv.list (I : Inv X pins σ H s) (h : SqL X.K H a xs) : ∃ its : List Value, Vals xs its ∧ PlainL s.heap a its.toArray ∧ xs.length ≤ sizeLine := by
  rcases h with h | ⟨o, its, n, hk, hc, hd, hs, hz, r⟩
  · obtain ⟨z, its, n, r, e⟩ := h.ok I.hok
    exact ⟨its, r, ⟨_, n, e, rfl, rfl, rfl⟩, z⟩
  · refine ⟨its.toList, r, ⟨o, n, I.kIn a o hk, hc, hd, by simpa using hs⟩, ?_⟩
    have e := r.length
    simp only [Array.length_toList] at e
    omega
theorem Inv.tuple (I : Inv X pins σ H s) (h : SqT X.K H a xs) : ∃ its : List Value, Vals xs its ∧ IsTup s.heap a its.toArray ∧ xs.length ≤ sizeLine := by
  rcases h with h | ⟨o, its, n, hk, hc, hs, hz, r⟩
  · obtain ⟨z, its, r, p⟩ := h.ok I.hok
    exact ⟨its, r, p, z⟩
  · refine ⟨its.toList, r, ⟨o, I.kIn a o hk, hc, n, by simpa using hs⟩, ?_⟩
    have e := r.length
    simp only [Array.length_toList] at e
    omega
theorem Inv.list_inj (I : Inv X pins σ H s) (h : SqL X.K H a xs) (h' : SqL X.K H a ys) : xs = ys := by
  obtain ⟨its, r, ⟨o, n, e, _, _, d⟩, _⟩ := I.list h
  obtain ⟨its', r', ⟨o', n', e', _, _, d'⟩, _⟩ := I.list h'
  rw [e] at e'; cases e'
  rw [d] at d'
  injection d' with d1 _
  have : its = its' := by simpa using congrArg Array.toList d1
  subst this
  exact r.inj r'
theorem Inv.tuple_inj (I : Inv X pins σ H s) (h : SqT X.K H a xs) (h' : SqT X.K H a ys) : xs = ys := by
  obtain ⟨its, r, ⟨o, e, _, n, d⟩, _⟩ := I.tuple h
  obtain ⟨its', r', ⟨o', e', _, n', d'⟩, _⟩ := I.tuple h'
  rw [e] at e'; cases e'
  rw [d] at d'
  injection d' with d1 _
  have : its = its' := by simpa using congrArg Array.toList d1
  subst this
  exact r.inj r'
end

/-! ### another wish about exceptions -/
noncomputable abbrev Cx.wish (X : Cx) (E : Value → Shared → Prop) : Cx := { X with xe := E }
noncomputable abbrev Cx.nox (X : Cx) : Cx := X.wish fun _ _ => False
theorem Cx.Ok.wish {X : Cx} (ok : X.Ok) (E : Value → Shared → Prop) : (X.wish E).Ok :=
  ⟨ok.mod, ok.kind, ok.glob, ok.blt, ok.above, ok.inj, ok.has, ok.cab, ok.hd, ok.frames, ok.stk, ok.exf, ok.bs, ok.bsz, ok.noex, ok.exfs, ok.funs, ok.frf⟩
theorem Cx.Ok.unwish {X : Cx} {E : Value → Shared → Prop} (ok : (X.wish E).Ok) : X.Ok :=
  ⟨ok.mod, ok.kind, ok.glob, ok.blt, ok.above, ok.inj, ok.has, ok.cab, ok.hd, ok.frames, ok.stk, ok.exf, ok.bs, ok.bsz, ok.noex, ok.exfs, ok.funs, ok.frf⟩
section
variable {X : Cx} {pins : List (Addr × Obj)} {σ : St} {H : Hp} {s : Shared} {E : Value → Shared → Prop}
theorem Inv.wish (I : Inv X pins σ H s) (E : Value → Shared → Prop) : Inv (X.wish E) pins σ H s := ⟨I.ok.wish E, I.os, I.bare, I.base, I.loc, I.cell, I.free, I.freeC, I.pin, I.hok, I.len⟩
theorem Inv.unwish (I : Inv (X.wish E) pins σ H s) : Inv X pins σ H s := ⟨I.ok.unwish, I.os, I.bare, I.base, I.loc, I.cell, I.free, I.freeC, I.pin, I.hok, I.len⟩
theorem SP.unwish {D : Ends} {f : Flow} {s' : Shared} (h : SP (X.wish E) pins D f s') : SP X pins D f s' := by
  cases f with
  | next => obtain ⟨σ', H', I, q⟩ := h; exact ⟨σ', H', I.unwish, q⟩
  | brk => obtain ⟨σ', H', I, q⟩ := h; exact ⟨σ', H', I.unwish, q⟩
  | cont => obtain ⟨σ', H', I, q⟩ := h; exact ⟨σ', H', I.unwish, q⟩
  | ret u => obtain ⟨v, σ', H', I, r, q⟩ := h; exact ⟨v, σ', H', I.unwish, r, q⟩
theorem PSs.nox {st : List Stmt} {t : TS} (h : PSs X.nox st t) : PSs X st t := fun pins s σ H D I hw =>
  wpAny_mono (h pins s σ H D (I.wish _) hw) (fun _ _ q => q.unwish) fun _ _ z => False.elim z
end

/-! ### blocks and small statements -/
section
variable {X : Cx} {st : Stmt} {rest : List Stmt} {t u : TS} {e : Expr} {te : TE} {pos : Pos}
noncomputable def tNext : TS := fun D σ H => D.nx σ H
noncomputable def tSeq (t u : TS) : TS := fun D σ H => t { D with nx := u D } σ H
theorem pss_nil : PSs X [] tNext := fun _ _ σ H _ I h => wpAny_execs_nil ⟨σ, H, I, h⟩
theorem pss_cons (h1 : PS X st t) (h2 : PSs X rest u) : PSs X (st :: rest) (tSeq t u) := by
  intro pins s σ H D I h
  refine wpAny_execs_cons (thn (h1 pins s σ H { D with nx := u D } I h) fun f s1 q => ?_)
  cases f with
  | next =>
    obtain ⟨σ', H', I', q⟩ := q
    exact h2 pins s1 σ' H' D I' q
  | ret v => exact q
  | brk => exact q
  | cont => exact q
theorem pss_one (h1 : PS X st t) : PSs X [st] t := by
  intro pins s σ H D I h
  refine wpAny_execs_cons (thn (h1 pins s σ H D I h) fun f s1 q => ?_)
  cases f with
  | next => exact wpAny_execs_nil q
  | ret v => exact q
  | brk => exact q
  | cont => exact q
theorem Inv.quiet {pins : List (Addr × Obj)} {σ : St} {H : Hp} {s : Shared} (I : Inv X pins σ H s) : interactive X.env = false := by simp [interactive, I.ok.kind]
noncomputable def tDrop (te : TE) : TS := fun D σ H => te σ H fun _ H1 => D.nx σ H1
theorem ps_expr (he : PE X e te) (hs : swapsWith e none pos.line X.env = pure false := by rfl) : PS X (.Expr e pos) (tDrop te) := by
  intro pins s σ H D I h
  exact wpAny_Expr_any (thn (he pins s σ H _ I h) fun v s1 zz => L2.el5 zz fun x H1 I1 r1 q1 => ⟨σ, H1, I1, q1⟩) I.quiet hs
noncomputable def tRet (te : TE) : TS := fun D σ H => te σ H D.rt
theorem ps_ret (he : PE X e te) : PS X (.Return (some e) pos) (tRet te) := by
  intro pins s σ H D I h
  exact wpAny_Return_some (thn (he pins s σ H _ I h) fun v s1 zz => L2.el5 zz fun x H1 I1 r1 q1 => ⟨x, σ, H1, I1, r1, q1⟩)
noncomputable def tIfS (c : TT) (t u : TS) : TS := fun D σ H => c σ H fun b H1 => if b = true then t D σ H1 else u D σ H1
theorem ps_if {c : Expr} {a b : List Stmt} {tc : TT} (hc : PT X c tc) (ha : PSs X a t) (hb : PSs X b u) : PS X (.If c a b pos) (tIfS tc t u) := by
  intro pins s σ H D I h
  refine wpAny_If (thn (hc pins s σ H _ I h) fun d s1 zz => ?_)
  obtain ⟨H1, I1, q1⟩ := zz
  cases d with
  | true => exact ha pins s1 σ H1 D I1 q1
  | false => exact hb pins s1 σ H1 D I1 q1
noncomputable def tNever : TS := fun _ _ _ => False
theorem pss_never {sts : List Stmt} : PSs X sts tNever := fun _ _ _ _ _ _ h => h.elim
end

/-! ### targets -/
noncomputable abbrev TG := V → St → Hp → (St → Hp → Prop) → Prop
noncomputable abbrev TGs := List V → St → Hp → (St → Hp → Prop) → Prop
noncomputable def PG (X : Cx) (target : Expr) (t : TG) : Prop :=
  ∀ (pins : List (Addr × Obj)) (s : Shared) (σ : St) (H : Hp) (v : V) (u : Value) (Q : St → Hp → Prop), Inv X pins σ H s → RelV v u → t v σ H Q →
    wpAny (model X.prog X.w) X.A (assign target X.env u) (fun _ s' => ∃ σ' H', Inv X pins σ' H' s' ∧ Q σ' H') X.xe s
noncomputable def PGs (X : Cx) (ts : List Expr) (t : TGs) : Prop :=
  ∀ (pins : List (Addr × Obj)) (s : Shared) (σ : St) (H : Hp) (vs : List V) (us : List Value) (Q : St → Hp → Prop), Inv X pins σ H s → Vals vs us → t vs σ H Q →
    wpAny (model X.prog X.w) X.A (assignInOrder ((assignEach ts X.env).map (·.2)) us) (fun _ s' => ∃ σ' H', Inv X pins σ' H' s' ∧ Q σ' H') X.xe s
noncomputable abbrev TSet := V → V → V → Hp → (Hp → Prop) → Prop
noncomputable def PSet (X : Cx) (t : TSet) : Prop :=
  ∀ (pins : List (Addr × Obj)) (s : Shared) (σ : St) (H : Hp) (o i v : V) (ov iv u : Value) (Q : Hp → Prop), Inv X pins σ H s → RelV o ov → RelV i iv → RelV v u → t o i v H Q →
    wpAny (model X.prog X.w) X.A (setItem ov iv u) (fun _ s' => ∃ H', Inv X pins σ H' s' ∧ Q H') X.xe s
noncomputable abbrev TIp := V → V → Hp → VK → Prop
noncomputable def PIp (X : Cx) (op : Operator) (t : TIp) : Prop :=
  ∀ (pins : List (Addr × Obj)) (s : Shared) (σ : St) (H : Hp) (x y : V) (v u : Value) (Q : VK), Inv X pins σ H s → RelV x v → RelV y u → t x y H Q →
    wpAny (model X.prog X.w) X.A (inplaceOp op v u) (EP X pins σ Q) X.xe s
section
variable {X : Cx} {pos : Pos}
noncomputable def gName (i : Nat) : TG := fun v σ H Q => Q (σ.set i (some v)) H
theorem pg_name {i : Nat} {x : Str} (hN : X.N.Nodup) (hi : X.N[i]? = some x) (hx : Loc X.env.scope x) (hf : X.fn x = true ∨ X.env.scope.names.lookup x = some .local := by first | exact .inl rfl | exact .inr rfl | assumption) : PG X (.Name x pos) (gName i) := by
  intro pins s σ H v u Q I r h
  exact wpAny_assign_Name (store_ok I hN hi hx r (fun s' I' => ⟨_, H, I', h⟩) hf)
noncomputable def gNil : TGs := fun vs σ H Q => vs = [] ∧ Q σ H
noncomputable def gCons (t : TG) (u : TGs) : TGs := fun vs σ H Q => ∃ v r, vs = v :: r ∧ t v σ H fun σ' H' => u r σ' H' Q
theorem pgs_nil : PGs X [] gNil := by
  intro pins s σ H vs us Q I r h
  obtain ⟨e, h⟩ := h
  subst e
  cases r
  exact assignInOrder_nil ⟨σ, H, I, h⟩
theorem pgs_cons {e : Expr} {es : List Expr} {t : TG} {u : TGs} (h1 : PG X e t) (h2 : PGs X es u)
    (hs : (assignEach (e :: es) X.env).map (·.2) = assign e X.env :: (assignEach es X.env).map (·.2) := by rfl) : PGs X (e :: es) (gCons t u) := by
  intro pins s σ H vs us Q I r h
  obtain ⟨v, vr, e1, h⟩ := h
  subst e1
  cases r with
  | cons r rr =>
    rw [hs]
    refine assignInOrder_cons (thn (h1 pins s σ H _ _ _ I r h) fun _ s1 zz => ?_)
    obtain ⟨σ1, H1, I1, q1⟩ := zz
    exact h2 pins s1 σ1 H1 _ _ Q I1 rr q1
noncomputable def gTup (K : PySem.W.Frag) (n : Nat) (t : TGs) : TG := fun v σ H Q => ∃ a xs, v = .ref a ∧ SqT K H a xs ∧ xs.length = n ∧ t xs σ H Q
theorem pg_tup {es : List Expr} {k : Nat} {t : TGs} {n : Nat} (hc : X.calm = true) (h : PGs X es t)
    (hn : (assignEach es X.env).length = n := by rfl) (hst : (assignEach es X.env).findIdx? (·.1) = none := by rfl) : PG X (.Tuple es k pos) (gTup X.K n t) := by
  intro pins s σ H v u Q I r hw
  obtain ⟨a, xs, e1, hq, hl, hw⟩ := hw
  subst e1
  cases r
  obtain ⟨its, rv, ht, hz⟩ := I.tuple hq
  refine assign_Tuple_tuple (I.ok.hd hc) ht (by simp [hn, ← hl, rv.length]) hst fun h' hx => ?_
  have I1 : Inv X pins σ H { s with heap := h' } := I.kept (t' := s.toks) fun b o e => hx b o (Nat.ne_of_lt (Heap.lt_size e)) e
  exact h pins _ σ H xs _ Q I1 (by simpa using rv) hw
noncomputable def gSub (to ti : TE) (t : TSet) : TG := fun v σ H Q => to σ H fun o H1 => ti σ H1 fun i H2 => t o i v H2 fun H3 => Q σ H3
theorem pg_sub {o i : Expr} {to ti : TE} {t : TSet} (ho : PE X o to) (hi : PE X i ti) (hs : PSet X t)
    (ha : ∀ v, assign (.Subscript o i pos) X.env v = (do
      let ov ← holding [v] (eval o X.env)
      let iv ← holding [v, ov] (eval i X.env)
      standAt pos
      holding [v, ov, iv] (setItem ov iv v)
      release [v, ov, iv] []) := by intro _; rfl) : PG X (.Subscript o i pos) (gSub to ti t) := by
  intro pins s σ H v u Q I r h
  rw [ha]
  refine wpAny_bind (wpAny_holding (thn (ho pins s σ H _ I h) fun ov s1 zz => ?_))
  obtain ⟨x, H1, I1, r1, q1⟩ := zz
  refine wpAny_bind (wpAny_holding (thn (hi pins s1 σ H1 _ I1 q1) fun iv s2 zz => ?_))
  obtain ⟨y, H2, I2, r2, q2⟩ := zz
  refine wpAny_bind (wpAny_standAt (wpAny_bind (wpAny_holding (thn (hs pins s2 σ H2 x y v ov iv u _ I2 r1 r2 r q2) fun _ s3 zz => ?_))))
  obtain ⟨H3, I3, q3⟩ := zz
  exact wpAny_release ⟨σ, H3, I3, q3⟩
noncomputable def tAsg (te : TE) (g : TG) : TS := fun D σ H => te σ H fun x H1 => g x σ H1 D.nx
theorem ps_asg {tg e : Expr} {te : TE} {g : TG} (he : PE X e te) (hg : PG X tg g) (hs : swapsWithSole [tg] e pos.line X.env = pure false := by rfl) (hw : swappedStores [tg] e X.env = pure none := by rfl)
    (h1 : (assignEach [tg] X.env).map (·.2) = [assign tg X.env] := by rfl) : PS X (.Assign [tg] e pos) (tAsg te g) := by
  intro pins s σ H D I h
  refine wpAny_Assign_stores (thn (he pins s σ H _ I h) fun v s1 zz => ?_) hs hw
  obtain ⟨x, H1, I1, r1, q1⟩ := zz
  rw [h1]
  exact thn (hg pins s1 σ H1 x v _ I1 r1 q1) fun _ s2 q => q
theorem ps_set {i : Nat} {x : Str} {e : Expr} {te : TE} {pos' : Pos} (hN : X.N.Nodup) (hi : X.N[i]? = some x) (hx : Loc X.env.scope x) (he : PE X e te) (hs : swapsWith e (some (.Name x pos')) pos.line X.env = pure false := by rfl) (hf : X.fn x = true ∨ X.env.scope.names.lookup x = some .local := by first | exact .inl rfl | exact .inr rfl | assumption) :
    PS X (.Assign [.Name x pos'] e pos) (tAsg te (gName i)) := by
  intro pins s σ H D I h
  refine wpAny_Assign_Name (thn (he pins s σ H _ I h) fun v s1 zz => ?_) hs
  obtain ⟨y, H1, I1, r1, q1⟩ := zz
  exact store_ok I1 hN hi hx r1 (fun s2 I2 => ⟨_, H1, I2, q1⟩) hf
noncomputable def tAug (i : Nat) (te : TE) (ti : TIp) : TS := fun D σ H => ∃ x, σ[i]? = some (some x) ∧ te σ H fun y H1 => ti x y H1 fun z H2 => D.nx (σ.set i (some z)) H2
theorem ps_aug {i : Nat} {x : Str} {e : Expr} {te : TE} {op : Operator} {ti : TIp} {pos' : Pos} (hN : X.N.Nodup) (hi : X.N[i]? = some x) (hx : Loc X.env.scope x) (he : PE X e te) (ho : PIp X op ti) (hf : X.fn x = true ∨ X.env.scope.names.lookup x = some .local := by first | exact .inl rfl | exact .inr rfl | assumption) :
    PS X (.AugAssign (.Name x pos') op e pos) (tAug i te ti) := by
  intro pins s σ H D I h
  obtain ⟨v, e1, h⟩ := h
  obtain ⟨m, hn, hl⟩ := I.loc
  have vis : Vis X.env.scope x := by rcases hx with k | k; exact .inl k; exact .inr (.inl k)
  obtain ⟨u, r, l⟩ := hl i x v hi e1 vis
  refine wpAny_AugAssign_Name ?_
  have go : wpAny (model X.prog X.w) X.A (eval e X.env) (fun w s₂ => wpAny (model X.prog X.w) X.A (inplaceOp op u w) (fun r s₃ => wpAny (model X.prog X.w) X.A (storeName X.env x r) (fun _ => SP X pins D .next) X.xe s₃) X.xe s₂) X.xe s := by
    refine thn (he pins s σ H _ I h) fun w s1 zz => ?_
    obtain ⟨y, H1, I1, r1, q1⟩ := zz
    refine thn (ho pins s1 σ H1 v y u w _ I1 r r1 q1) fun z s2 zz => ?_
    obtain ⟨zv, H2, I2, r2, q2⟩ := zz
    exact store_ok I2 hN hi hx r2 (fun s3 I3 => ⟨_, H2, I3, q2⟩) hf
  rcases l with ⟨hk, hm⟩ | ⟨hk, c, hc, hcell⟩
  · exact wpAny_loadName_local I.ok.kind hk hn hm go
  · rcases hk with hk | hk
    · exact wpAny_loadName_cell I.ok.kind hk hc hcell go
    · rcases hx with k | k
      · have : X.env.scope.names.lookup x = some .free := hk
        rw [k] at this; cases this
      · have : X.env.scope.names.lookup x = some .free := hk
        rw [k] at this; cases this
noncomputable def ipI (f : Int → Int → Int) : TIp := fun x y H Q => ∃ i j, x = .int i ∧ y = .int j ∧ Q (.int (f i j)) H
theorem ip_add : PIp X .Add (ipI fun i j => i + j) := by
  intro pins s σ H x y v u Q I r1 r2 h
  obtain ⟨i, j, e1, e2, q⟩ := h
  subst e1; subst e2
  obtain ⟨t, rfl⟩ := r1
  obtain ⟨t', rfl⟩ := r2
  exact iadd_int ⟨.int _, H, I.tok _, ⟨_, rfl⟩, q⟩
end

/-! ### while -/
section
variable {X : Cx} {pos : Pos}
noncomputable def tWhile (c : TT) (tb : TS) : TS := fun D σ H => ∃ W : Nat → St → Hp → Prop, (∃ m, W m σ H) ∧ ∀ m σ H, W m σ H →
  c σ H fun b H1 => if b = true then ∃ N : St → Hp → Prop, (∀ σ' H', N σ' H' → ∃ m', m' < m ∧ W m' σ' H') ∧ tb { D with nx := N, ct := N, bk := D.nx } σ H1 else D.nx σ H1
theorem ps_while {c : Expr} {body : List Stmt} {tc : TT} {tb : TS} (hp : PassesOwn (model X.prog X.w) X.A X.env X.xe) (hc : PT X c tc) (hb : PSs X body tb) : PS X (.While c body [] pos) (tWhile tc tb) := by
  intro pins s σ H D I h
  obtain ⟨W, ⟨m0, w0⟩, turn⟩ := h
  refine wpAny_While (codeAny_whileLoop (fun n s' => ∃ σ' H', Inv X pins σ' H' s' ∧ W n σ' H') ?_ m0 ⟨σ, H, I, w0⟩)
  rintro n s1 ⟨σ1, H1, I1, w1⟩
  refine wpAny_passesOwn hp (thn (hc pins s1 σ1 H1 _ I1 (turn n σ1 H1 w1)) fun b s2 zz => ?_)
  obtain ⟨H2, I2, q2⟩ := zz
  cases b with
  | true =>
    obtain ⟨N, hN, q2⟩ := q2
    rw [if_pos rfl]
    refine wpAny_passesOwn hp (thn (hb pins s2 σ1 H2 _ I2 q2) fun f s3 q3 => ?_)
    cases f with
    | next =>
      obtain ⟨σ3, H3, I3, n3⟩ := q3
      obtain ⟨m', hm, w3⟩ := hN σ3 H3 n3
      exact ⟨m', hm, σ3, H3, I3, w3⟩
    | cont =>
      obtain ⟨σ3, H3, I3, n3⟩ := q3
      obtain ⟨m', hm, w3⟩ := hN σ3 H3 n3
      exact ⟨m', hm, σ3, H3, I3, w3⟩
    | brk => exact q3
    | ret v => exact q3
  | false =>
    rw [if_neg Bool.false_ne_true]
    exact wpAny_execs_nil ⟨σ1, H2, I2, q2⟩
end

/-! ### what a loop or a comprehension walks -/
structure It where
  go : Nat → Hp → Prop
  yld : Nat → Hp → V → Hp → Prop
  stop : Nat → Hp → Prop
noncomputable def FpOk (X : Cx) (pins : List (Addr × Obj)) (H : Hp) (b : Addr) : Prop :=
  H b = none ∧ b ≠ X.env.locals ∧ b ∉ X.fs ∧ (b ∈ X.ex ∨ X.s₀.heap.objs.size ≤ b) ∧ (∀ x c, X.env.cells.lookup x = some c → c ≠ b) ∧ ∀ p ∈ X.pn ++ pins, p.1 ≠ b
theorem Inv.fpOk {X : Cx} {pins : List (Addr × Obj)} {σ : St} {H H' : Hp} {s : Shared} {b : Addr} (I : Inv X pins σ H s) (hb : s.heap.objs.size ≤ b) (hn : H' b = none) : FpOk X pins H' b := by
  refine ⟨hn, Nat.ne_of_gt (Nat.lt_of_lt_of_le I.lt hb), I.nofs hb, .inr (Nat.le_trans I.sz hb), fun x c e z => ?_, fun p hp z => ?_⟩
  · obtain ⟨v, q⟩ := I.cell x c e
    exact absurd (Nat.lt_of_lt_of_le q.lt (by rw [z]; exact hb)) (Nat.lt_irrefl _)
  · exact absurd (Nat.lt_of_lt_of_le (Heap.lt_size (I.pin p hp).1) (by rw [z]; exact hb)) (Nat.lt_irrefl _)
noncomputable def HandX (X : Cx) : Prop := X.A.handled = none ∨ ∃ (a C : Addr) (dx : Option Addr) (t tb : Value) (u : HO), X.A.handled = some (.ref a) ∧ X.H₀ a = some (.frz (excRec C dx t tb) u)
noncomputable def HandI (X : Cx) : Prop := X.calm = true ∨ HandX X
theorem hd_of {X : Cx} {pins : List (Addr × Obj)} {σ : St} {H : Hp} {s : Shared} (q : HandI X) (I : Inv X pins σ H s) : Hd X.A s.heap := by
  rcases q with q | q | ⟨a, C, dx, t, tb, u, q, e⟩
  · exact .inl (I.ok.hd q)
  · exact .inl q
  · exact .inr ⟨a, C, dx, t, tb, q, (I.hok a _ (I.base.frzs a _ _ e)).1⟩
theorem HandI.in_ {X : Cx} {pins : List (Addr × Obj)} {σ : St} {H : Hp} {s : Shared} (q : HandI X) (I : Inv X pins σ H s) {Y : Cx} (h1 : Y.calm = X.calm) (h2 : Y.A.handled = X.A.handled) (h3 : ∀ a o u, H a = some (.frz o u) → Y.H₀ a = some (.frz o u)) : HandI Y := by
  rcases q with q | q | ⟨a, C, dx, t, tb, u, q, e⟩
  · exact .inl (h1.trans q)
  · exact .inr (.inl (h2.trans q))
  · exact .inr (.inr ⟨a, C, dx, t, tb, u, h2.trans q, h3 _ _ _ (I.base.frzs a _ _ e)⟩)
structure Turn (P : Program) (w : World) (K : PySem.W.Frag) (tg : Expr) (J : It) (fp : List Addr) (it : Addr) (tn : Nat → Heap → Prop) : Prop where
  mem : it ∈ fp
  obj : ∀ i h, tn i h → ∀ b ∈ fp, ∃ o, h.get? b = some o ∧ ∀ v, o.data ≠ .cell v
  keep : ∀ i h h', tn i h → (∀ b ∈ fp, ∀ o, h.get? b = some o → h'.get? b = some o) → tn i h'
  item : ∀ (X : Cx), X.prog = P → X.w = w → X.K = K → HandI X → ∀ (i : Nat) (pins : List (Addr × Obj)) (s : Shared) (σ : St) (H : Hp) (E : Value → Shared → Prop), Inv X pins σ H s → (∀ b ∈ fp, FpOk X pins H b) → tn i s.heap → J.go i H →
    wpAny (model P w) X.A (pyNext (.ref it)) (fun r s1 => ∃ u, r = some u ∧
      wpAny (model P w) X.A (letOwnedTupleGo tg (.ref it) u) (fun _ s2 => ∃ x H', Inv X pins σ H' s2 ∧ RelV x u ∧ J.yld i H x H' ∧ tn (i + 1) s2.heap ∧ ∀ b ∈ fp, H' b = none) E s1) E s
  done : ∀ (X : Cx), X.prog = P → X.w = w → X.K = K → HandI X → ∀ (i : Nat) (pins : List (Addr × Obj)) (s : Shared) (σ : St) (H : Hp) (E : Value → Shared → Prop), Inv X pins σ H s → (∀ b ∈ fp, FpOk X pins H b) → tn i s.heap → J.stop i H →
    wpAny (model P w) X.A (pyNext (.ref it)) (fun r s1 => r = none ∧ Inv X pins σ H s1) E s
  self : ∀ (A : Around) (i : Nat) (s : Shared) (Q : Value → Shared → Prop) (E : Value → Shared → Prop), tn i s.heap → Q (.ref it) s → wpAny (model P w) A (pyIter (.ref it)) Q E s
noncomputable abbrev TI := St → Hp → (It → Hp → Prop) → Prop
noncomputable def PIE (X : Cx) (pins : List (Addr × Obj)) (σ : St) (tg : Expr) (R : It → Hp → Prop) (itv : Value) (s2 : Shared) : Prop :=
  ∃ (it : Addr) (fp : List Addr) (tn : Nat → Heap → Prop) (J : It) (H' : Hp), itv = .ref it ∧ Inv X pins σ H' s2 ∧ Turn X.prog X.w X.K tg J fp it tn ∧ tn 0 s2.heap ∧ (∀ b ∈ fp, FpOk X pins H' b) ∧ R J H'
noncomputable def PI (X : Cx) (tg iter : Expr) (wi : TI) : Prop :=
  ∀ (pins : List (Addr × Obj)) (s : Shared) (σ : St) (H : Hp) (R : It → Hp → Prop), Inv X pins σ H s → wi σ H R →
    wpAny (model X.prog X.w) X.A (eval iter X.env) (fun v s1 => wpAny (model X.prog X.w) X.A (pyIter v) (PIE X pins σ tg R) X.xe s1) X.xe s

theorem go_of {M : Model} {A : Around} {E : Value → Shared → Prop} {s : Shared} {tg : Expr} {it : Addr} {u : Value} {o : Obj} {n : String} {vs : Array Value} {Q : Unit → Shared → Prop} (ho : s.heap.get? it = some o) (hc : o.cls = .type n) (hd : o.data = .fields vs)
    (hn : ["enumerate", "zip", "dict_itemiterator", "dict_reverseitemiterator", "odict_iterator", "itertools.zip_longest", "itertools.pairwise"].contains n = false) (hQ : Q () s) : wpAny M A (letOwnedTupleGo tg (.ref it) u) Q E s := by
  unfold letOwnedTupleGo
  cases tg <;> first
    | exact wpAny_pure hQ
    | (cases u <;> first
        | exact wpAny_pure hQ
        | (refine wpAny_bind (wpAny_load ho ?_)
           rw [hc, hd]
           show wpAny M A (if (["enumerate", "zip", "dict_itemiterator", "dict_reverseitemiterator", "odict_iterator", "itertools.zip_longest", "itertools.pairwise"].contains n && vs[0]? == some (rawInt _)) = true then _ else _) Q E s
           rw [if_neg (by intro h; rw [hn, Bool.false_and] at h; cases h)]
           exact wpAny_pure hQ))

noncomputable def Itl (K : PySem.W.Frag) (a : Addr) : It :=
  ⟨fun i H => ∃ xs x, SqL K H a xs ∧ xs[i]? = some x, fun i H x H' => H' = H ∧ ∀ xs, SqL K H a xs → xs[i]? = some x, fun i H => ∃ xs, SqL K H a xs ∧ xs.length ≤ i⟩
noncomputable def Itt (K : PySem.W.Frag) (a : Addr) : It :=
  ⟨fun i H => ∃ xs x, SqT K H a xs ∧ xs[i]? = some x, fun i H x H' => H' = H ∧ ∀ xs, SqT K H a xs → xs[i]? = some x, fun i H => ∃ xs, SqT K H a xs ∧ xs.length ≤ i⟩
noncomputable def Itr (lo : Int) (n : Nat) : It := ⟨fun i _ => i < n, fun i H x H' => H' = H ∧ x = .int (lo + i), fun i _ => n ≤ i⟩
theorem turn_list {P : Program} {w : World} {K : PySem.W.Frag} {tg : Expr} (a it : Addr) : Turn P w K tg (Itl K a) [it] it (fun i h => h.IsListIter it a i) where
  mem := by simp
  obj := fun i h st b hb => by
    have e : b = it := by simpa using hb
    subst e
    obtain ⟨o, e, c, d⟩ := st
    exact ⟨o, e, fun v z => by rw [d] at z; cases z⟩
  keep := fun i h h' st k => st.at fun o e => k it (by simp) o e
  item := by
    intro X hP hw hK hc i pins s σ H E I hf st hg
    subst hP hw hK
    obtain ⟨xs, x, hq, hx⟩ := hg
    obtain ⟨its, rv, p, hz⟩ := I.list hq
    obtain ⟨u, hu, ru⟩ := rv.get hx
    obtain ⟨f0, f1, f2, f3, f4, f5⟩ := hf it (by simp)
    refine wpAny_pyNext_list_item st p.isList (x := u) (by simpa using hu) fun h' st' sb => ?_
    have I1 : Inv X pins σ H { s with heap := h' } := I.turned (t' := s.toks) (fun b o hb e => (sb.2 b hb).trans e) f0 f1 f3 f4 f5
    obtain ⟨o, e, c, d⟩ := id st'
    exact ⟨u, rfl, go_of (s := { s with heap := h' }) e c d (by decide) ⟨x, H, I1, ru, ⟨rfl, fun ys hy => by rw [I.list_inj hy hq]; exact hx⟩, st', fun b hb => (hf b hb).1⟩⟩
  done := by
    intro X hP hw hK hc i pins s σ H E I hf st hg
    subst hP hw hK
    obtain ⟨xs, hq, hx⟩ := hg
    obtain ⟨its, rv, p, hz⟩ := I.list hq
    obtain ⟨f0, f1, f2, f3, f4, f5⟩ := hf it (by simp)
    have hl := rv.length
    exact list_end_hd (hd_of hc I) st p.isList (by simp; omega) fun h' eb => ⟨rfl, I.turned (t' := s.toks) (fun b o hb e => eb b o hb e) f0 f1 f3 f4 f5⟩
  self := fun _ _ _ _ _ st h => wpAny_pyIter_listiter st h
theorem turn_tuple {P : Program} {w : World} {K : PySem.W.Frag} {tg : Expr} (a it : Addr) : Turn P w K tg (Itt K a) [it] it (fun i h => h.IsTupleIter it a i) where
  mem := by simp
  obj := fun i h st b hb => by
    have e : b = it := by simpa using hb
    subst e
    obtain ⟨o, e, c, d⟩ := st
    exact ⟨o, e, fun v z => by rw [d] at z; cases z⟩
  keep := fun i h h' st k => st.at fun o e => k it (by simp) o e
  item := by
    intro X hP hw hK hc i pins s σ H E I hf st hg
    subst hP hw hK
    obtain ⟨xs, x, hq, hx⟩ := hg
    obtain ⟨its, rv, p, hz⟩ := I.tuple hq
    obtain ⟨u, hu, ru⟩ := rv.get hx
    obtain ⟨f0, f1, f2, f3, f4, f5⟩ := hf it (by simp)
    refine wpAny_pyNext_tuple_item st (show s.heap.IsTuple a its.toArray from p) (x := u) (by simpa using hu) fun h' st' sb => ?_
    have I1 : Inv X pins σ H { s with heap := h' } := I.turned (t' := s.toks) (fun b o hb e => (sb.2 b hb).trans e) f0 f1 f3 f4 f5
    obtain ⟨o, e, c, d⟩ := id st'
    exact ⟨u, rfl, go_of (s := { s with heap := h' }) e c d (by decide) ⟨x, H, I1, ru, ⟨rfl, fun ys hy => by rw [I.tuple_inj hy hq]; exact hx⟩, st', fun b hb => (hf b hb).1⟩⟩
  done := by
    intro X hP hw hK hc i pins s σ H E I hf st hg
    subst hP hw hK
    obtain ⟨xs, hq, hx⟩ := hg
    obtain ⟨its, rv, p, hz⟩ := I.tuple hq
    obtain ⟨f0, f1, f2, f3, f4, f5⟩ := hf it (by simp)
    have hl := rv.length
    exact tup_end_hd (hd_of hc I) st p (by simp; omega) fun h' eb => ⟨rfl, I.turned (t' := s.toks) (fun b o hb e => eb b o hb e) f0 f1 f3 f4 f5⟩
  self := fun _ _ _ _ _ st h => wpAny_pyIter_tupleiter st h
theorem turn_range {P : Program} {w : World} {K : PySem.W.Frag} {tg : Expr} (it : Addr) (lo : Int) (n : Nat) : Turn P w K tg (Itr lo n) [it] it (fun i h => IsRangeIter h it (lo + (i : Nat) * 1) ((n : Int) - (i : Nat)) 1) where
  mem := by simp
  obj := fun i h st b hb => by
    have e : b = it := by simpa using hb
    subst e
    exact ⟨_, st, fun v z => by
      have z' : Data.fields _ = Data.cell v := z
      cases z'⟩
  keep := fun i h h' st k => k it (by simp) _ st
  item := by
    intro X hP hw hK hc i pins s σ H E I hf st hg
    subst hP hw hK
    obtain ⟨f0, f1, f2, f3, f4, f5⟩ := hf it (by simp)
    refine range_item_hd hg st fun t h' tk st' kk => ?_
    have I1 : Inv X pins σ H { s with heap := h', toks := tk } := I.turned (fun b o hb e => kk b o (by simpa using hb) e) f0 f1 f3 f4 f5
    refine ⟨_, rfl, go_of (s := { s with heap := h', toks := tk }) (n := "range_iterator") st' rfl rfl (by decide) ⟨.int (lo + i), H, I1, ⟨t, ?_⟩, ⟨rfl, rfl⟩, st', fun b hb => (hf b hb).1⟩⟩
    rw [Int.mul_one]
  done := by
    intro X hP hw hK hc i pins s σ H E I hf st hg
    subst hP hw hK
    obtain ⟨f0, f1, f2, f3, f4, f5⟩ := hf it (by simp)
    exact range_end_hd (hd_of hc I) st (by have : n ≤ i := hg; omega) fun h' eb => ⟨rfl, I.turned (t' := s.toks) (fun b o hb e => eb b o hb e) f0 f1 f3 f4 f5⟩
  self := fun _ _ _ _ _ st h => wpAny_pyIter_rangeiter st h
end L2

namespace L2
open PySem PySem.Spec PyProof.Rows
section
variable {X : Cx} {tg : Expr}
noncomputable def iList (K : PySem.W.Frag) (tl : TE) : TI := fun σ H R => tl σ H fun x H1 => ∃ a, x = .ref a ∧ (∃ xs, SqL K H1 a xs) ∧ R (Itl K a) H1
noncomputable def iTup (K : PySem.W.Frag) (tl : TE) : TI := fun σ H R => tl σ H fun x H1 => ∃ a, x = .ref a ∧ (∃ xs, SqT K H1 a xs) ∧ R (Itt K a) H1
theorem pi_list {l : Expr} {tl : TE} (hl : PE X l tl) : PI X tg l (iList X.K tl) := by
  intro pins s σ H R I h
  refine thn (hl pins s σ H _ I h) fun v s1 zz => ?_
  obtain ⟨x, H1, I1, r1, q1⟩ := zz
  obtain ⟨a, e, ⟨xs, hq⟩, q⟩ := q1
  subst e
  cases r1
  obtain ⟨its, rv, p, hz⟩ := I1.list hq
  refine wpAny_pyIter_list p.isList ?_
  refine ⟨s1.heap.objs.size, [s1.heap.objs.size], _, _, H1, rfl, I1.kept (t' := s1.toks) fun b o e => Heap.get?_push_of_some _ e, turn_list a _, ⟨_, Heap.get?_push_size _ rfl, rfl, rfl⟩, fun b hb => ?_, q⟩
  have e : b = s1.heap.objs.size := by simpa using hb
  subst e
  exact I1.fpOk (Nat.le_refl _) (I1.hok.fresh (Nat.le_refl _))
theorem pi_tup {l : Expr} {tl : TE} (hl : PE X l tl) : PI X tg l (iTup X.K tl) := by
  intro pins s σ H R I h
  refine thn (hl pins s σ H _ I h) fun v s1 zz => ?_
  obtain ⟨x, H1, I1, r1, q1⟩ := zz
  obtain ⟨a, e, ⟨xs, hq⟩, q⟩ := q1
  subst e
  cases r1
  obtain ⟨its, rv, p, hz⟩ := I1.tuple hq
  refine wpAny_pyIter_tuple (show s1.heap.IsTuple a its.toArray from p) ?_
  refine ⟨s1.heap.objs.size, [s1.heap.objs.size], _, _, H1, rfl, I1.kept (t' := s1.toks) fun b o e => Heap.get?_push_of_some _ e, turn_tuple a _, ⟨_, Heap.get?_push_size _ rfl, rfl, rfl⟩, fun b hb => ?_, q⟩
  have e : b = s1.heap.objs.size := by simpa using hb
  subst e
  exact I1.fpOk (Nat.le_refl _) (I1.hok.fresh (Nat.le_refl _))
theorem range_it {pins : List (Addr × Obj)} {σ : St} {H : Hp} {s : Shared} {R : It → Hp → Prop} {E : Value → Shared → Prop} {lo hi : Int} {t u v : Tok} {tk : Nat} (I : Inv X pins σ H s) (h1 : -(2 ^ 62) ≤ lo) (h2 : lo < 2 ^ 62) (h3 : -(2 ^ 62) ≤ hi) (h4 : hi < 2 ^ 62)
    (q : R (Itr lo (hi - lo).toNat) H) : wpAny (model X.prog X.w) X.A (pyIter (.ref s.heap.objs.size)) (PIE X pins σ tg R) E { s with heap := s.heap.push { cls := .type "range", data := .fields #[.int lo t, .int hi u, .int 1 v] }, toks := tk } := by
  refine wpAny_pyIter_range (IsRange.new ..) (small_one h1 h2 h3 h4) ?_
  have I1 : Inv X pins σ H { s with heap := s.heap.push { cls := .type "range", data := .fields #[.int lo t, .int hi u, .int 1 v] }, toks := tk } := I.kept fun b o e => Heap.get?_push_of_some _ e
  refine ⟨(s.heap.push { cls := .type "range", data := .fields #[.int lo t, .int hi u, .int 1 v] }).objs.size, [(s.heap.push { cls := .type "range", data := .fields #[.int lo t, .int hi u, .int 1 v] }).objs.size], _, _, H, rfl,
    I1.kept (t' := tk) fun b o e => Heap.get?_push_of_some _ e, turn_range _ lo (hi - lo).toNat, ?_, fun b hb => ?_, q⟩
  · have e1 : lo + ((0 : Nat) : Int) * 1 = lo := by simp
    have e2 : (((hi - lo).toNat : Nat) : Int) - ((0 : Nat) : Int) = Builtin.Range.rangeSize lo hi 1 := by rw [rangeSize_one]; split <;> omega
    show IsRangeIter _ _ (lo + ((0 : Nat) : Int) * 1) ((((hi - lo).toNat : Nat) : Int) - ((0 : Nat) : Int)) 1
    rw [e1, e2]
    exact Heap.get?_push_size _ rfl
  · have e : b = (s.heap.push { cls := .type "range", data := .fields #[.int lo t, .int hi u, .int 1 v] }).objs.size := by simpa using hb
    subst e
    exact I1.fpOk (Nat.le_refl _) (I1.hok.fresh (Nat.le_refl _))
noncomputable def iRng1 (ta : TA) : TI := fun σ H R => ta σ H fun vs H1 => ∃ j : Int, vs = [.int j] ∧ -(2 ^ 62) ≤ j ∧ j < 2 ^ 62 ∧ R (Itr 0 j.toNat) H1
noncomputable def iRng2 (ta : TA) : TI := fun σ H R => ta σ H fun vs H1 => ∃ i j : Int, vs = [.int i, .int j] ∧ (-(2 ^ 62) ≤ i ∧ i < 2 ^ 62 ∧ -(2 ^ 62) ≤ j ∧ j < 2 ^ 62) ∧ R (Itr i (j - i).toNat) H1
theorem pi_range1 {a : Expr} {ta : TA} {p pos : Pos} (hg : Gl X "range") (hm : X.mg "range" = none) (ha : PA X [a] ta) (hs : starEach [a] X.env = [(false, eval a X.env)] := by rfl) : PI X tg (.Call (.Name "range" p) [a] [] pos) (iRng1 ta) := by
  intro pins s σ H R I h
  refine Call_ (ld_blt I hg hm boot_range (PyProof.Rows.callWith_type1 (thn (ha pos pins s σ H _ I h) fun us s1 zz => ?_) hs rfl))
  obtain ⟨vs, H1, I1, r1, q1⟩ := zz
  obtain ⟨j, e, q1, q2, q⟩ := q1
  subst e
  cases r1 with
  | cons r rr =>
    cases rr
    obtain ⟨t, rfl⟩ := r
    exact call_range_1 (range_it I1 (by omega) (by omega) q1 q2 (by simpa using q))
theorem pi_range2 {a b : Expr} {ta : TA} {p pos : Pos} (hg : Gl X "range") (hm : X.mg "range" = none) (ha : PA X [a, b] ta) (hs : starEach [a, b] X.env = [(false, eval a X.env), (false, eval b X.env)] := by rfl) (hs2 : starEach [b] X.env = [(false, eval b X.env)] := by rfl) :
    PI X tg (.Call (.Name "range" p) [a, b] [] pos) (iRng2 ta) := by
  intro pins s σ H R I h
  refine Call_ (ld_blt I hg hm boot_range (PyProof.Rows.callWith_type1 (thn (ha pos pins s σ H _ I h) fun us s1 zz => ?_) (by rw [hs, hs2]) (by rw [hs2]; rfl)))
  obtain ⟨vs, H1, I1, r1, q1⟩ := zz
  obtain ⟨i, j, e, ⟨q1, q2, q3, q4⟩, q⟩ := q1
  subst e
  cases r1 with
  | cons r rr =>
    cases rr with
    | cons r' rr =>
      cases rr
      obtain ⟨t, rfl⟩ := r
      obtain ⟨t', rfl⟩ := r'
      exact call_range_2 (range_it I1 q1 q2 q3 q4 q)

/-! ### for -/
noncomputable def tFor (wi : TI) (g : TG) (tb : TS) : TS := fun D σ H => wi σ H fun J H1 => ∃ W : Nat → Nat → St → Hp → Prop, (∃ m, W 0 m σ H1) ∧ ∀ i m σ H, W i m σ H →
  (J.stop i H ∧ D.nx σ H) ∨ (J.go i H ∧ ∃ N : St → Hp → Prop, (∀ σ' H', N σ' H' → ∃ m', m' < m ∧ W (i + 1) m' σ' H') ∧ ∀ x H', J.yld i H x H' → g x σ H' fun σ2 H2 => tb { D with nx := N, ct := N, bk := D.nx } σ2 H2)
noncomputable def pinsAt (fp : List Addr) (h : Heap) : List (Addr × Obj) := fp.filterMap fun b => (h.get? b).map fun o => (b, o)
theorem mem_pinsAt {fp : List Addr} {h : Heap} {b : Addr} {o : Obj} (hb : b ∈ fp) (e : h.get? b = some o) : (b, o) ∈ pinsAt fp h := List.mem_filterMap.mpr ⟨b, hb, by rw [e]; rfl⟩
theorem of_pinsAt {fp : List Addr} {h : Heap} {p : Addr × Obj} (hp : p ∈ pinsAt fp h) : p.1 ∈ fp ∧ h.get? p.1 = some p.2 := by
  obtain ⟨b, hb, e⟩ := List.mem_filterMap.mp hp
  cases q : h.get? b with
  | none => rw [q] at e; cases e
  | some o =>
    rw [q] at e
    have e' : (b, o) = p := Option.some.inj e
    subst e'
    exact ⟨hb, q⟩
theorem Inv.pinned {pins : List (Addr × Obj)} {σ : St} {H : Hp} {s : Shared} {fp : List Addr} (I : Inv X pins σ H s) (hf : ∀ b ∈ fp, FpOk X pins H b) (ho : ∀ b ∈ fp, ∃ o, s.heap.get? b = some o ∧ ∀ v, o.data ≠ .cell v) : Inv X (pins ++ pinsAt fp s.heap) σ H s :=
  I.pins_of fun p hp => (List.mem_append.mp hp).elim (fun z => I.pin p (List.mem_append_right _ z)) fun z => by
    obtain ⟨hb, e⟩ := of_pinsAt z
    obtain ⟨f0, f1, f2, _⟩ := hf p.1 hb
    obtain ⟨o, e', d⟩ := ho p.1 hb
    rw [e] at e'; cases e'
    exact ⟨e, f0, f1, f2, d⟩
theorem Inv.unpinned {pins pl : List (Addr × Obj)} {σ : St} {H : Hp} {s : Shared} (I : Inv X (pins ++ pl) σ H s) : Inv X pins σ H s := I.pins_of fun p hp => I.pin p (List.mem_append_right _ (List.mem_append_left _ hp))
theorem ps_forH {iter : Expr} {body : List Stmt} {wi : TI} {g : TG} {tb : TS} {pos : Pos} (hp : PassesOwn (model X.prog X.w) X.A X.env X.xe) (hc : HandI X) (hi : PI X tg iter wi) (hg : PG X tg g) (hb : PSs X body tb)
    (hs : ∀ x, foldedSetIterable iter X.env x = pure x := by intro _; rfl) : PS X (.For tg iter body [] pos) (tFor wi g tb) := by
  intro pins s σ H D I h
  refine wpAny_For (thn (hi pins s σ H _ I h) fun v s1 h1 => thn h1 fun itv s2 h2 => ?_) hs
  obtain ⟨it, fp, tn, J, H2, e, I2, T, st2, f2, W, ⟨m0, w0⟩, turn⟩ := h2
  subst e
  -- what stays true of the iterator's objects through the loop
  have stat : ∀ {H' : Hp}, (∀ b ∈ fp, H' b = none) → ∀ b ∈ fp, FpOk X pins H' b := fun hn b hb => ⟨hn b hb, (f2 b hb).2⟩
  refine codeAny_forLoop_any (fun n s' => ∃ i σ' H', Inv X pins σ' H' s' ∧ tn i s'.heap ∧ (∀ b ∈ fp, H' b = none) ∧ W i n σ' H') ?_ m0 ⟨0, σ, H2, I2, st2, fun b hb => (f2 b hb).1, w0⟩
  rintro n s3 ⟨i, σ3, H3, I3, st3, fr3, w3⟩
  rcases turn i n σ3 H3 w3 with ⟨stop, qn⟩ | ⟨go, N, hN, step⟩
  · refine wpAny_passesOwn hp (thn (T.done X rfl rfl rfl hc i pins s3 σ3 H3 X.xe I3 (stat fr3) st3 stop) fun r s4 ⟨hr, I4⟩ => ?_)
    subst hr
    exact wpAny_execs_nil ⟨σ3, H3, I4, qn⟩
  · refine wpAny_passesOwn hp (thn (T.item X rfl rfl rfl hc i pins s3 σ3 H3 X.xe I3 (stat fr3) st3 go) fun r s4 zz => L2.el3 zz fun u hr h4 => ?_)
    subst hr
    refine wpAny_passesOwn hp (thn h4 fun _ s5 zz => ?_)
    obtain ⟨x, H5, I5, r5, y5, st5, fr5⟩ := zz
    have I5' := I5.pinned (stat fr5) (T.obj _ _ st5)
    refine wpAny_passesOwn hp (thn (hg _ s5 σ3 H5 x u _ I5' r5 (step x H5 y5)) fun _ s6 zz => ?_)
    obtain ⟨σ6, H6, I6, q6⟩ := zz
    refine wpAny_passesOwn hp (thn (hb _ s6 σ6 H6 _ I6 q6) fun f s7 q7 => ?_)
    have again : ∀ {σ7 : St} {H7 : Hp}, Inv X (pins ++ pinsAt fp s5.heap) σ7 H7 s7 → N σ7 H7 → ∃ m, m < n ∧ ∃ i σ' H', Inv X pins σ' H' s7 ∧ tn i s7.heap ∧ (∀ b ∈ fp, H' b = none) ∧ W i m σ' H' := fun {σ7 H7} I7 n7 => by
      obtain ⟨m', hm, w7⟩ := hN σ7 H7 n7
      refine ⟨m', hm, i + 1, σ7, H7, I7.unpinned, T.keep _ _ _ st5 fun b hb o e => (I7.pin (b, o) (List.mem_append_right _ (List.mem_append_right _ (mem_pinsAt hb e)))).1, fun b hb => ?_, w7⟩
      obtain ⟨o, e, d⟩ := T.obj _ _ st5 b hb
      exact (I7.pin (b, o) (List.mem_append_right _ (List.mem_append_right _ (mem_pinsAt hb e)))).2.1
    cases f with
    | next => obtain ⟨σ7, H7, I7, n7⟩ := q7; exact again I7 n7
    | cont => obtain ⟨σ7, H7, I7, n7⟩ := q7; exact again I7 n7
    | brk => obtain ⟨σ7, H7, I7, q7⟩ := q7; exact ⟨σ7, H7, I7.unpinned, q7⟩
    | ret v => obtain ⟨x7, σ7, H7, I7, r7, q7⟩ := q7; exact ⟨x7, σ7, H7, I7.unpinned, r7, q7⟩
theorem ps_for {iter : Expr} {body : List Stmt} {wi : TI} {g : TG} {tb : TS} {pos : Pos} (hp : PassesOwn (model X.prog X.w) X.A X.env X.xe) (hc : X.calm = true) (hi : PI X tg iter wi) (hg : PG X tg g) (hb : PSs X body tb)
    (hs : ∀ x, foldedSetIterable iter X.env x = pure x := by intro _; rfl) : PS X (.For tg iter body [] pos) (tFor wi g tb) := ps_forH hp (.inl hc) hi hg hb hs
end

/-! ### the forms one uses -/
theorem for_list {K : PySem.W.Frag} {a : Addr} {xs : List V} {g : TG} {tb : TS} {D : Ends} {σ : St} {H : Hp} (Pv : Nat → St → Hp → Prop) (h0 : Pv 0 σ H) (hl : ∀ i σ H, i ≤ xs.length → Pv i σ H → SqL K H a xs)
    (hs : ∀ i x σ H, xs[i]? = some x → Pv i σ H → g x σ H fun σ2 H2 => tb { D with nx := Pv (i + 1), ct := Pv (i + 1), bk := D.nx } σ2 H2) (hd : ∀ σ H, Pv xs.length σ H → D.nx σ H) :
    ∃ W : Nat → Nat → St → Hp → Prop, (∃ m, W 0 m σ H) ∧ ∀ i m σ H, W i m σ H →
      ((Itl K a).stop i H ∧ D.nx σ H) ∨ ((Itl K a).go i H ∧ ∃ N : St → Hp → Prop, (∀ σ' H', N σ' H' → ∃ m', m' < m ∧ W (i + 1) m' σ' H') ∧ ∀ x H', (Itl K a).yld i H x H' → g x σ H' fun σ2 H2 => tb { D with nx := N, ct := N, bk := D.nx } σ2 H2) := by
  refine ⟨fun i m σ H => m = xs.length - i ∧ i ≤ xs.length ∧ Pv i σ H, ⟨xs.length, by simp, Nat.zero_le _, h0⟩, ?_⟩
  rintro i m σ H ⟨rfl, hi, p⟩
  have q := hl i σ H hi p
  by_cases hlt : i < xs.length
  · refine .inr ⟨⟨xs, xs[i], q, by simp [hlt]⟩, Pv (i + 1), fun σ' H' p' => ⟨xs.length - (i + 1), by omega, rfl, hlt, p'⟩, fun x H' y => ?_⟩
    obtain ⟨e, y⟩ := y
    subst e
    exact hs i x σ _ (y xs q) p
  · have e : i = xs.length := by omega
    subst e
    exact .inl ⟨⟨xs, q, Nat.le_refl _⟩, hd σ H p⟩
theorem for_tup {K : PySem.W.Frag} {a : Addr} {xs : List V} {g : TG} {tb : TS} {D : Ends} {σ : St} {H : Hp} (Pv : Nat → St → Hp → Prop) (h0 : Pv 0 σ H) (hl : ∀ i σ H, i ≤ xs.length → Pv i σ H → SqT K H a xs)
    (hs : ∀ i x σ H, xs[i]? = some x → Pv i σ H → g x σ H fun σ2 H2 => tb { D with nx := Pv (i + 1), ct := Pv (i + 1), bk := D.nx } σ2 H2) (hd : ∀ σ H, Pv xs.length σ H → D.nx σ H) :
    ∃ W : Nat → Nat → St → Hp → Prop, (∃ m, W 0 m σ H) ∧ ∀ i m σ H, W i m σ H →
      ((Itt K a).stop i H ∧ D.nx σ H) ∨ ((Itt K a).go i H ∧ ∃ N : St → Hp → Prop, (∀ σ' H', N σ' H' → ∃ m', m' < m ∧ W (i + 1) m' σ' H') ∧ ∀ x H', (Itt K a).yld i H x H' → g x σ H' fun σ2 H2 => tb { D with nx := N, ct := N, bk := D.nx } σ2 H2) := by
  refine ⟨fun i m σ H => m = xs.length - i ∧ i ≤ xs.length ∧ Pv i σ H, ⟨xs.length, by simp, Nat.zero_le _, h0⟩, ?_⟩
  rintro i m σ H ⟨rfl, hi, p⟩
  have q := hl i σ H hi p
  by_cases hlt : i < xs.length
  · refine .inr ⟨⟨xs, xs[i], q, by simp [hlt]⟩, Pv (i + 1), fun σ' H' p' => ⟨xs.length - (i + 1), by omega, rfl, hlt, p'⟩, fun x H' y => ?_⟩
    obtain ⟨e, y⟩ := y
    subst e
    exact hs i x σ _ (y xs q) p
  · have e : i = xs.length := by omega
    subst e
    exact .inl ⟨⟨xs, q, Nat.le_refl _⟩, hd σ H p⟩
theorem for_range {lo : Int} {n : Nat} {g : TG} {tb : TS} {D : Ends} {σ : St} {H : Hp} (Pv : Nat → St → Hp → Prop) (h0 : Pv 0 σ H)
    (hs : ∀ i σ H, i < n → Pv i σ H → g (.int (lo + i)) σ H fun σ2 H2 => tb { D with nx := Pv (i + 1), ct := Pv (i + 1), bk := D.nx } σ2 H2) (hd : ∀ σ H, Pv n σ H → D.nx σ H) :
    ∃ W : Nat → Nat → St → Hp → Prop, (∃ m, W 0 m σ H) ∧ ∀ i m σ H, W i m σ H →
      ((Itr lo n).stop i H ∧ D.nx σ H) ∨ ((Itr lo n).go i H ∧ ∃ N : St → Hp → Prop, (∀ σ' H', N σ' H' → ∃ m', m' < m ∧ W (i + 1) m' σ' H') ∧ ∀ x H', (Itr lo n).yld i H x H' → g x σ H' fun σ2 H2 => tb { D with nx := N, ct := N, bk := D.nx } σ2 H2) := by
  refine ⟨fun i m σ H => m = n - i ∧ i ≤ n ∧ Pv i σ H, ⟨n, by simp, Nat.zero_le _, h0⟩, ?_⟩
  rintro i m σ H ⟨rfl, hi, p⟩
  by_cases hlt : i < n
  · refine .inr ⟨hlt, Pv (i + 1), fun σ' H' p' => ⟨n - (i + 1), by omega, rfl, hlt, p'⟩, fun x H' y => ?_⟩
    obtain ⟨e, y⟩ := y
    subst e y
    exact hs i σ _ hlt p
  · have e : i = n := by omega
    subst e
    exact .inl ⟨Nat.le_refl _, hd σ H p⟩
end L2

namespace L2
open PySem PySem.Spec PyProof.Rows

noncomputable abbrev R2 := V → V → Hp → VK → Prop
noncomputable def OpR (X : Cx) (f : Value → Value → Sem Value) (r : R2) : Prop :=
  ∀ (pins : List (Addr × Obj)) (s : Shared) (σ : St) (H : Hp) (x y : V) (v u : Value) (Q : VK), Inv X pins σ H s → RelV x v → RelV y u → r x y H Q →
    wpAny (model X.prog X.w) X.A (f v u) (EP X pins σ Q) X.xe s
noncomputable def UnR (X : Cx) (f : Value → Sem Value) (r : V → Hp → VK → Prop) : Prop :=
  ∀ (pins : List (Addr × Obj)) (s : Shared) (σ : St) (H : Hp) (x : V) (v : Value) (Q : VK), Inv X pins σ H s → RelV x v → r x H Q →
    wpAny (model X.prog X.w) X.A (f v) (EP X pins σ Q) X.xe s
noncomputable def CallR (X : Cx) (f : Value) (r : List V → Hp → VK → Prop) : Prop :=
  ∀ (pins : List (Addr × Obj)) (s : Shared) (σ : St) (H : Hp) (xs : List V) (us : List Value) (Q : VK), Inv X pins σ H s → Vals xs us → r xs H Q →
    wpAny (model X.prog X.w) X.A (call f us) (EP X pins σ Q) X.xe s

noncomputable def tOp (r : R2) (ta tb : TE) : TE := fun σ H Q => ta σ H fun x H1 => tb σ H1 fun y H2 => r x y H2 Q
noncomputable def tUn (r : V → Hp → VK → Prop) (ta : TE) : TE := fun σ H Q => ta σ H fun x H1 => r x H1 Q
noncomputable def rI (C : Int → Int → Prop) (g : Int → Int → V) : R2 := fun x y H Q => ∃ i j, x = .int i ∧ y = .int j ∧ C i j ∧ Q (g i j) H
noncomputable def rI0 (g : Int → Int → V) : R2 := fun x y H Q => ∃ i j, x = .int i ∧ y = .int j ∧ Q (g i j) H
noncomputable def rU (g : Int → V) : V → Hp → VK → Prop := fun x H Q => ∃ i, x = .int i ∧ Q (g i) H

section
variable {X : Cx} {a b c : Expr} {ta tb tc : TE} {pos : Pos}

theorem binT (ha : PE X a ta) (hb : PE X b tb) {pins : List (Addr × Obj)} {s : Shared} {σ : St} {H : Hp} {R : V → V → Hp → Prop} (I : Inv X pins σ H s)
    (h : ta σ H fun x H1 => tb σ H1 fun y H2 => R x y H2) {Q : Value → Shared → Prop} {f : Value → Value → Sem Value}
    (hf : ∀ v u s2 x y H2, Inv X pins σ H2 s2 → RelV x v → RelV y u → R x y H2 → wpAny (model X.prog X.w) X.A (f v u) Q X.xe s2) :
    wpAny (model X.prog X.w) X.A (eval a X.env) (fun v s₁ => wpAny (model X.prog X.w) X.A (eval b X.env) (fun u s₂ => wpAny (model X.prog X.w) X.A (f v u) Q X.xe s₂) X.xe s₁) X.xe s := by
  refine thn (ha pins s σ H _ I h) fun v s1 zz => ?_
  obtain ⟨x, H1, I1, r1, q1⟩ := zz
  refine thn (hb pins s1 σ H1 _ I1 q1) fun u s2 zz => ?_
  obtain ⟨y, H2, I2, r2, q2⟩ := zz
  exact hf v u s2 x y H2 I2 r1 r2 q2

theorem pe_op {op : Operator} {r : R2} (ho : OpR X (binaryOp op) r) (ha : PE X a ta) (hb : PE X b tb) : PE X (.BinOp a op b pos) (tOp r ta tb) := by
  intro pins s σ H Q I h
  exact wpAny_BinOp (binT ha hb I h fun v u s2 x y H2 I2 rx ry q => ho pins s2 σ H2 x y v u Q I2 rx ry q)
theorem pe_un {op : UnaryOp} {r : V → Hp → VK → Prop} (ho : UnR X (unaryOp op) r) (ha : PE X a ta) : PE X (.UnaryOp op a pos) (tUn r ta) := by
  intro pins s σ H Q I h
  exact UnaryOp_ (thn (ha pins s σ H _ I h) fun v s1 zz => L2.el5 zz fun x H1 I1 r1 q1 => ho pins s1 σ H1 x v Q I1 r1 q1)

/-! ### ints -/
theorem opI {f : Value → Value → Sem Value} {C : Int → Int → Prop} {g : Int → Int → Int}
    (rule : ∀ (i j : Int) (t u : Tok) (s : Shared) (Q : Value → Shared → Prop) (E : Value → Shared → Prop), C i j → Q (.int (g i j) s.toks) { s with toks := s.toks + 1 } → wpAny (model X.prog X.w) X.A (f (.int i t) (.int j u)) Q E s) :
    OpR X f (rI C fun i j => .int (g i j)) := by
  intro pins s σ H x y v u Q I rx ry h
  obtain ⟨i, j, rfl, rfl, hc, q⟩ := h
  obtain ⟨t, rfl⟩ := rx
  obtain ⟨t', rfl⟩ := ry
  exact rule i j t t' s _ _ hc ⟨.int (g i j), H, I.tok _, ⟨_, rfl⟩, q⟩
theorem opI0 {f : Value → Value → Sem Value} {g : Int → Int → Int}
    (rule : ∀ (i j : Int) (t u : Tok) (s : Shared) (Q : Value → Shared → Prop) (E : Value → Shared → Prop), Q (.int (g i j) s.toks) { s with toks := s.toks + 1 } → wpAny (model X.prog X.w) X.A (f (.int i t) (.int j u)) Q E s) :
    OpR X f (rI0 fun i j => .int (g i j)) := by
  intro pins s σ H x y v u Q I rx ry h
  obtain ⟨i, j, rfl, rfl, q⟩ := h
  obtain ⟨t, rfl⟩ := rx
  obtain ⟨t', rfl⟩ := ry
  exact rule i j t t' s _ _ ⟨.int (g i j), H, I.tok _, ⟨_, rfl⟩, q⟩
theorem opB0 {f : Value → Value → Sem Value} {g : Int → Int → Bool}
    (rule : ∀ (i j : Int) (t u : Tok) (s : Shared) (Q : Value → Shared → Prop) (E : Value → Shared → Prop), Q (.bool (g i j)) s → wpAny (model X.prog X.w) X.A (f (.int i t) (.int j u)) Q E s) :
    OpR X f (rI0 fun i j => .bl (g i j)) := by
  intro pins s σ H x y v u Q I rx ry h
  obtain ⟨i, j, rfl, rfl, q⟩ := h
  obtain ⟨t, rfl⟩ := rx
  obtain ⟨t', rfl⟩ := ry
  exact rule i j t t' s _ _ ⟨.bl (g i j), H, I, rfl, q⟩


theorem op_add : OpR X (binaryOp .Add) (rI0 fun i j => .int (i + j)) := opI0 fun _ _ _ _ _ _ _ q => add_int q
theorem op_sub : OpR X (binaryOp .Sub) (rI0 fun i j => .int (i - j)) := opI0 fun _ _ _ _ _ _ _ q => sub_int q
theorem op_mod : OpR X (binaryOp .Mod) (rI (fun _ j => 0 < j) fun i j => .int (i % j)) := opI fun i j _ _ _ _ _ hc q => by
  have h1 : (0 : Int) < j := hc
  exact mod_int' (by omega) (by rw [Int.fmod_eq_emod_of_nonneg i (by omega)]; exact q)


theorem unI {f : Value → Sem Value} {g : Int → Int}
    (rule : ∀ (i : Int) (t : Tok) (s : Shared) (Q : Value → Shared → Prop) (E : Value → Shared → Prop), Q (.int (g i) s.toks) { s with toks := s.toks + 1 } → wpAny (model X.prog X.w) X.A (f (.int i t)) Q E s) :
    UnR X f (rU fun i => .int (g i)) := by
  intro pins s σ H x v Q I rx h
  obtain ⟨i, rfl, q⟩ := h
  obtain ⟨t, rfl⟩ := rx
  exact rule i t s _ _ ⟨.int (g i), H, I.tok _, ⟨_, rfl⟩, q⟩
theorem un_neg : UnR X (unaryOp .USub) (rU fun i => .int (-i)) := unI fun _ _ _ _ _ q => neg_int q

/-! ### bools among ints: n += (a < b) -/
end

/-! ### comparisons -/
noncomputable def scal : V → V → Bool
  | .non, .non => true | .non, .int _ => true | .int _, .non => true | .non, .bl _ => true | .bl _, .non => true | .non, .str _ => true | .str _, .non => true
  | .int _, .int _ => true | .bl _, .bl _ => true | .str _, .str _ => true | .byt _, .byt _ => true
  | .int _, .str _ => true | .str _, .int _ => true | .bl _, .str _ => true | .str _, .bl _ => true
  | _, _ => false
noncomputable def rEq : R2 := fun x y H Q => scal x y = true ∧ Q (.bl (decide (x = y))) H
noncomputable def rNe : R2 := fun x y H Q => scal x y = true ∧ Q (.bl (!decide (x = y))) H

theorem dec_int {i j : Int} : decide (V.int i = V.int j) = (i == j) := by
  rw [Bool.eq_iff_iff]
  simp
theorem dec_bl {i j : Bool} : decide (V.bl i = V.bl j) = (i == j) := by
  rw [Bool.eq_iff_iff]
  simp
theorem dec_str {i j : Str} : decide (V.str i = V.str j) = (i == j) := by
  rw [Bool.eq_iff_iff]
  simp
theorem dec_byt {i j : Array UInt8} : decide (V.byt i = V.byt j) = (i.toList == j.toList) := by
  rw [Bool.eq_iff_iff]
  cases i
  cases j
  simp

section
variable {X : Cx} {a b c : Expr} {ta tb tc : TE} {pos : Pos}
theorem fin_bl {pins : List (Addr × Obj)} {σ : St} {H : Hp} {s : Shared} {Q : VK} {k k' : Bool} (I : Inv X pins σ H s) (q : Q (.bl k) H) (e : k = k') : EP X pins σ Q (.bool k') s := by
  subst e
  exact ⟨.bl k, H, I, rfl, q⟩
theorem op_eq : OpR X (compareOp .Eq) rEq := by
  intro pins s σ H x y v u Q I rx ry h
  obtain ⟨hs, q⟩ := h
  cases x with
  | non =>
    cases rx
    cases y with
    | non => cases ry; exact PySem.EqNone.eq_none_none (fin_bl I q (by simp))
    | bl j => cases ry; exact PySem.EqNone.eq_none_bool (fin_bl I q (by simp))
    | int j => obtain ⟨t', rfl⟩ := ry; exact PySem.EqNone.eq_none_int (fin_bl I q (by simp))
    | str j => obtain ⟨t', rfl⟩ := ry; exact PySem.EqNone.eq_none_str (fin_bl I q (by simp))
    | _ => exact absurd (show false = true from hs) Bool.false_ne_true
  | bl i =>
    cases rx
    cases y with
    | non => cases ry; exact PySem.EqNone.eq_bool_none (fin_bl I q (by simp))
    | bl j => cases ry; exact eq_bool (fin_bl I q dec_bl)
    | str j => obtain ⟨t', rfl⟩ := ry; exact PySem.EqMixed.eq_bool_str (fin_bl I q (by simp))
    | _ => exact absurd (show false = true from hs) Bool.false_ne_true
  | int i =>
    obtain ⟨t, rfl⟩ := rx
    cases y with
    | non => cases ry; exact PySem.EqNone.eq_int_none (fin_bl I q (by simp))
    | int j => obtain ⟨t', rfl⟩ := ry; exact eq_int (fin_bl I q dec_int)
    | str j => obtain ⟨t', rfl⟩ := ry; exact PySem.EqMixed.eq_int_str (fin_bl I q (by simp))
    | _ => exact absurd (show false = true from hs) Bool.false_ne_true
  | str i =>
    obtain ⟨t, rfl⟩ := rx
    cases y with
    | non => cases ry; exact PySem.EqNone.eq_str_none (fin_bl I q (by simp))
    | bl j => cases ry; exact PySem.EqMixed.eq_str_bool (fin_bl I q (by simp))
    | int j => obtain ⟨t', rfl⟩ := ry; exact PySem.EqMixed.eq_str_int (fin_bl I q (by simp))
    | str j => obtain ⟨t', rfl⟩ := ry; exact eq_str (fin_bl I q dec_str)
    | _ => exact absurd (show false = true from hs) Bool.false_ne_true
  | byt i =>
    obtain ⟨t, rfl⟩ := rx
    cases y with
    | byt j => obtain ⟨t', rfl⟩ := ry; exact PySem.W.eq_bytes (fin_bl I q dec_byt)
    | _ => exact absurd (show false = true from hs) Bool.false_ne_true
  | _ => cases y <;> exact absurd (show false = true from hs) Bool.false_ne_true
theorem op_ne : OpR X (compareOp .NotEq) rNe := by
  intro pins s σ H x y v u Q I rx ry h
  obtain ⟨hs, q⟩ := h
  cases x with
  | non =>
    cases rx
    cases y with
    | non => cases ry; exact PySem.EqNone.ne_none_none (fin_bl I q (by simp))
    | bl j => cases ry; exact PySem.EqNone.ne_none_bool (fin_bl I q (by simp))
    | int j => obtain ⟨t', rfl⟩ := ry; exact PySem.EqNone.ne_none_int (fin_bl I q (by simp))
    | str j => obtain ⟨t', rfl⟩ := ry; exact PySem.EqNone.ne_none_str (fin_bl I q (by simp))
    | _ => exact absurd (show false = true from hs) Bool.false_ne_true
  | bl i =>
    cases rx
    cases y with
    | non => cases ry; exact PySem.EqNone.ne_bool_none (fin_bl I q (by simp))
    | bl j => cases ry; exact ne_bool (fin_bl I q (congrArg not dec_bl))
    | str j => obtain ⟨t', rfl⟩ := ry; exact PySem.EqMixed.ne_bool_str (fin_bl I q (by simp))
    | _ => exact absurd (show false = true from hs) Bool.false_ne_true
  | int i =>
    obtain ⟨t, rfl⟩ := rx
    cases y with
    | non => cases ry; exact PySem.EqNone.ne_int_none (fin_bl I q (by simp))
    | int j => obtain ⟨t', rfl⟩ := ry; exact ne_int (fin_bl I q (congrArg not dec_int))
    | str j => obtain ⟨t', rfl⟩ := ry; exact PySem.EqMixed.ne_int_str (fin_bl I q (by simp))
    | _ => exact absurd (show false = true from hs) Bool.false_ne_true
  | str i =>
    obtain ⟨t, rfl⟩ := rx
    cases y with
    | non => cases ry; exact PySem.EqNone.ne_str_none (fin_bl I q (by simp))
    | bl j => cases ry; exact PySem.EqMixed.ne_str_bool (fin_bl I q (by simp))
    | int j => obtain ⟨t', rfl⟩ := ry; exact PySem.EqMixed.ne_str_int (fin_bl I q (by simp))
    | str j => obtain ⟨t', rfl⟩ := ry; exact ne_str (fin_bl I q (congrArg not dec_str))
    | _ => exact absurd (show false = true from hs) Bool.false_ne_true
  | byt i =>
    obtain ⟨t, rfl⟩ := rx
    cases y with
    | byt j => obtain ⟨t', rfl⟩ := ry; exact PySem.W.ne_bytes (fin_bl I q (congrArg not dec_byt))
    | _ => exact absurd (show false = true from hs) Bool.false_ne_true
  | _ => cases y <;> exact absurd (show false = true from hs) Bool.false_ne_true

theorem op_lt : OpR X (compareOp .Lt) (rI0 fun i j => .bl (decide (i < j))) := opB0 fun _ _ _ _ _ _ _ q => lt_int q
theorem op_le : OpR X (compareOp .LtE) (rI0 fun i j => .bl (decide (i ≤ j))) := opB0 fun _ _ _ _ _ _ _ q => le_int q
theorem op_gt : OpR X (compareOp .Gt) (rI0 fun i j => .bl (decide (j < i))) := opB0 fun _ _ _ _ _ _ _ q => gt_int q
theorem op_ge : OpR X (compareOp .GtE) (rI0 fun i j => .bl (decide (j ≤ i))) := opB0 fun _ _ _ _ _ _ _ q => ge_int q

theorem op_isN : OpR X (compareOp .Is) (fun x y H Q => y = .non ∧ Q (.bl (decide (x = .non))) H) := by
  intro pins s σ H x y v u Q I rx ry h
  obtain ⟨rfl, q⟩ := h
  cases ry
  refine is_none_gen (fin_bl I q ?_)
  cases x <;> first
    | (cases rx; rfl)
    | (obtain ⟨t, rfl⟩ := rx; rfl)
theorem op_notN : OpR X (compareOp .IsNot) (fun x y H Q => y = .non ∧ Q (.bl (!decide (x = .non))) H) := by
  intro pins s σ H x y v u Q I rx ry h
  obtain ⟨rfl, q⟩ := h
  cases ry
  refine isnot_none_gen (fin_bl I q ?_)
  cases x <;> first
    | (cases rx; rfl)
    | (obtain ⟨t, rfl⟩ := rx; rfl)



theorem nomark (b : Expr) {op : CmpOp} (h : op ≠ .In := by decide) (h2 : op ≠ .NotIn := by decide) : behindInMarks op b = false := by
  have e1 : (op == CmpOp.In) = false := by cases op <;> first | rfl | exact absurd rfl h
  have e2 : (op == CmpOp.NotIn) = false := by cases op <;> first | rfl | exact absurd rfl h2
  cases b <;> simp [behindInMarks, e1, e2]
theorem pe_cmpR {op : CmpOp} {r : R2} (ho : OpR X (compareOp op) r) (ha : PE X a ta) (hb : PE X b tb) (hm : behindInMarks op b = false) : PE X (.Compare a [op] [b] pos) (tOp r ta tb) := by
  intro pins s σ H Q I h
  exact wpAny_Compare1 (binT ha hb I h fun v u s2 x y H2 I2 rx ry q => ho pins s2 σ H2 x y v u Q I2 rx ry q) hm
noncomputable def tTest (t : TE) : TT := fun σ H Q => t σ H fun x H' => ∃ k, x = .bl k ∧ Q k H'
theorem pt_cmpR {op : CmpOp} {r : R2} (ho : OpR X (compareOp op) r) (ha : PE X a ta) (hb : PE X b tb) (hm : behindInMarks op b = false) : PT X (.Compare a [op] [b] pos) (tTest (tOp r ta tb)) := by
  intro pins s σ H Q I h
  refine wpAny_isTrue_Compare1 (thn (ha pins s σ H _ I h) fun v s1 zz => L2.el5 zz fun x H1 I1 r1 q1 => thn (hb pins s1 σ H1 _ I1 q1) fun u s2 zz => L2.el5 zz fun y H2 I2 r2 q2 =>
    thn (ho pins s2 σ H2 x y v u _ I2 r1 r2 q2) fun c s3 zz => ?_) hm
  obtain ⟨z, H3, I3, r3, k, e, q3⟩ := zz
  subst e
  cases r3
  exact wpAny_truthy_bool ⟨H3, I3, q3⟩
noncomputable def tChain (r r' : R2) (ta tb tc : TE) : TE := fun σ H Q => ta σ H fun x H1 => tb σ H1 fun y H2 => r x y H2 fun z H3 => ∃ k, z = .bl k ∧
  (if k = true then tc σ H3 fun w' H4 => r' y w' H4 Q else Q (.bl false) H3)
theorem pe_chain {op op' : CmpOp} {r r' : R2} (ho : OpR X (compareOp op) r) (ho' : OpR X (compareOp op') r') (ha : PE X a ta) (hb : PE X b tb) (hc : PE X c tc)
    (hm : lastMarks [op, op'] [b, c] = false := by with_unfolding_all rfl) : PE X (.Compare a [op, op'] [b, c] pos) (tChain r r' ta tb tc) := by
  intro pins s σ H Q I h
  refine Compare_chain (thn (ha pins s σ H _ I h) fun v s1 zz => L2.el5 zz fun x H1 I1 r1 q1 => chain_link (thn (hb pins s1 σ H1 _ I1 q1) fun u s2 zz => L2.el5 zz fun y H2 I2 r2 q2 =>
    thn (ho pins s2 σ H2 x y v u _ I2 r1 r2 q2) fun d s3 zz => ?_)) hm
  obtain ⟨z, H3, I3, r3, k, e, q3⟩ := zz
  subst e
  cases r3
  refine wpAny_truthy_bool ?_
  cases k with
  | false => exact ite_ff ⟨.bl false, H3, I3, rfl, q3⟩
  | true => exact ite_tt (chain_last (thn (hc pins s3 σ H3 _ I3 q3) fun w' s4 zz => L2.el5 zz fun z' H4 I4 r4 q4 => ho' pins s4 σ H4 y z' u w' Q I4 r2 r4 q4))
theorem pt_chain {op op' : CmpOp} {r r' : R2} (ho : OpR X (compareOp op) r) (ho' : OpR X (compareOp op') r') (ha : PE X a ta) (hb : PE X b tb) (hc : PE X c tc)
    (hm : lastMarks [op, op'] [b, c] = false := by with_unfolding_all rfl) : PT X (.Compare a [op, op'] [b, c] pos) (tTest (tChain r r' ta tb tc)) := by
  intro pins s σ H Q I h
  refine isTrue_chain (thn (ha pins s σ H _ I h) fun v s1 zz => L2.el5 zz fun x H1 I1 r1 q1 => test_link (thn (hb pins s1 σ H1 _ I1 q1) fun u s2 zz => L2.el5 zz fun y H2 I2 r2 q2 =>
    thn (ho pins s2 σ H2 x y v u _ I2 r1 r2 q2) fun d s3 zz => ?_)) hm
  obtain ⟨z, H3, I3, r3, k, e, q3⟩ := zz
  subst e
  cases r3
  refine wpAny_truthy_bool ?_
  cases k with
  | false =>
    obtain ⟨k', e', q'⟩ := q3
    cases e'
    exact ite_ff ⟨H3, I3, q'⟩
  | true =>
    refine ite_tt (test_last (thn (hc pins s3 σ H3 _ I3 q3) fun w' s4 zz => L2.el5 zz fun z' H4 I4 r4 q4 => thn (ho' pins s4 σ H4 y z' u w' _ I4 r2 r4 q4) fun d' s5 zz => ?_))
    obtain ⟨z2, H5, I5, r5, k2, e2, q5⟩ := zz
    subst e2
    cases r5
    exact wpAny_truthy_bool ⟨H5, I5, q5⟩

/-! ### truth -/
theorem line63 : (sizeLine : Nat) < 2 ^ 63 := by rw [sizeLine_eq]; decide

/-! ### strs and bytes -/


/-! ### scalar builtins, by CallR -/
theorem vals1 {x : V} {us : List Value} (r : Vals [x] us) : ∃ u, us = [u] ∧ RelV x u := by
  cases r with
  | cons r1 r2 => cases r2; exact ⟨_, rfl, r1⟩
theorem vals2 {x y : V} {us : List Value} (r : Vals [x, y] us) : ∃ u w', us = [u, w'] ∧ RelV x u ∧ RelV y w' := by
  cases r with
  | cons r1 r2 =>
    cases r2 with
    | cons r3 r4 => cases r4; exact ⟨_, _, rfl, r1, r3⟩
theorem call_max2 (hc : X.calm = true) : CallR X (.builtin "max") (fun xs H Q => ∃ i j, xs = [.int i, .int j] ∧ Q (.int (if j > i then j else i)) H) := by
  intro pins s σ H xs us Q I r h
  obtain ⟨i, j, rfl, q⟩ := h
  obtain ⟨u, w', rfl, ⟨t, rfl⟩, ⟨t', rfl⟩⟩ := vals2 r
  refine max_two_ints (I.ok.hd hc) fun h' tk k => ⟨_, H, I.kept k, ?_, q⟩
  by_cases hj : j > i
  · rw [if_pos hj, if_pos hj]; exact ⟨_, rfl⟩
  · rw [if_neg hj, if_neg hj]; exact ⟨_, rfl⟩
theorem call_min2 (hc : X.calm = true) : CallR X (.builtin "min") (fun xs H Q => ∃ i j, xs = [.int i, .int j] ∧ Q (.int (if j < i then j else i)) H) := by
  intro pins s σ H xs us Q I r h
  obtain ⟨i, j, rfl, q⟩ := h
  obtain ⟨u, w', rfl, ⟨t, rfl⟩, ⟨t', rfl⟩⟩ := vals2 r
  refine min_two_ints (I.ok.hd hc) fun h' tk k => ⟨_, H, I.kept k, ?_, q⟩
  by_cases hj : j < i
  · rw [if_pos hj, if_pos hj]; exact ⟨_, rfl⟩
  · rw [if_neg hj, if_neg hj]; exact ⟨_, rfl⟩
theorem call_int1 : CallR X (.type "int") (fun xs H Q => (∃ i, xs = [.int i] ∧ Q (.int i) H) ∨ ∃ k, xs = [.bl k] ∧ Q (.int (if k then 1 else 0)) H) := by
  intro pins s σ H xs us Q I r h
  rcases h with ⟨i, rfl, q⟩ | ⟨k, rfl, q⟩
  · obtain ⟨u, rfl, t, rfl⟩ := vals1 r
    exact call_int_int ⟨.int i, H, I, ⟨_, rfl⟩, q⟩
  · obtain ⟨u, rfl, r1⟩ := vals1 r
    cases r1
    exact call_int_bool ⟨.int (if k then 1 else 0), H, I.tok _, ⟨_, rfl⟩, q⟩
end
end L2

namespace L2
open PySem PySem.Spec PyProof.Rows

/-! ### an instance, its attributes a map -/
structure ObjM (h : Heap) (x dx C : Addr) (mA : Str → Option Value) : Prop where
  obj : h.get? x = some (PySem.W.instObj C dx)
  ns : h.Ns1 dx mA
  ne : dx ≠ x

theorem lookIn_ns {h : Heap} {dx : Addr} {mA : Str → Option Value} (n : h.Ns1 dx mA) : ∃ od, h.get? dx = some od ∧ ∀ name, PySem.W.lookIn name od = some (mA name) := by
  obtain ⟨o, es, ep, ho, hd, hk, _, hm⟩ := n
  refine ⟨o, ho, fun name => ?_⟩
  have e := hm name
  unfold nsFind findBy at e
  rw [← Array.find?_toList] at e
  unfold PySem.W.lookIn
  rw [hd]
  dsimp only
  split
  · rename_i y q
    rw [q] at e
    exact congrArg some e
  · rename_i q
    rw [q] at e
    have a : es.toList.any (·.refKey) = false := by
      rw [List.any_eq_false]
      intro y hy
      obtain ⟨z, t, hkey⟩ := hk y (Array.mem_toList_iff.mp hy)
      simp [DictEntry.refKey, hkey]
    have a' : ¬ es.toList.any (·.refKey) = true := by rw [a]; exact Bool.false_ne_true
    rw [if_neg a']
    exact congrArg some e

theorem ObjM.look {h : Heap} {x dx C : Addr} {mA : Str → Option Value} (I : ObjM h x dx C mA) : ∃ od, PySem.W.InstAt h x (PySem.W.instObj C dx) C (some od) ∧ ∀ name, PySem.W.lookIn name od = some (mA name) :=
  let ⟨od, ho, hl⟩ := lookIn_ns I.ns
  ⟨od, ⟨I.obj, rfl, rfl, ho⟩, hl⟩

section
variable {prog : Program} {w : World} {A : Around} {E : Value → Shared → Prop} {s : Shared} {K : PySem.W.Frag} {x dx C f : Addr} {mA : Str → Option Value} {name : Str} {v : Value}

theorem get_map {expr : Bool} {Q : Value → Shared → Prop} (X : K.In s.heap) (I : ObjM s.heap x dx C mA) (hg : PySem.W.plainGet K C name = true) (hh : PySem.W.hasDictIn K C = true)
    (ha : PySem.W.findIn K (.ref C) name = some none) (hv : mA name = some v) (hv' : PySem.W.handedIn v = true) (h : Q v { s with toks := s.toks + 1 }) :
    wpAny (model prog w) A (getAttr (.ref x) name expr) Q E s := by
  obtain ⟨od, J, hl⟩ := I.look
  exact PySem.W.get_value X J (PySem.W.plainGet_of hg).1 (PySem.W.findObj_own hh ha rfl (by rw [hl, hv])) hv' h


theorem get_meth {pl : Sem Bool} {Q : Value × List Value → Shared → Prop} (X : K.In s.heap) (I : ObjM s.heap x dx C mA) (hg : PySem.W.plainGet K C name = true)
    (hf : PySem.W.findIn K (.ref C) name = some (some (.ref f))) (ht : PySem.W.isFn K (.ref f) = true) (hv : mA name = none) (h : Q (.ref f, [.ref x]) s) :
    wpAny (model prog w) A (getMethod (.ref x) name pl) Q E s := by
  obtain ⟨od, J, hl⟩ := I.look
  exact PySem.W.method_fn X J (PySem.W.plainGet_of hg).1 (PySem.W.plainGet_of hg).2 hf (beq_iff_eq.mp ht) (by show (PySem.W.lookIn name od).map (·.isSome) = some false; rw [hl, hv]; rfl) h

theorem set_map {ns : List Str} {Q : Unit → Shared → Prop} (X : K.In s.heap) (I : ObjM s.heap x dx C mA)
    (hs : PySem.W.findIn K (.ref C) "__setattr__" = some (some (.builtin "object.__setattr__"))) (hp : PySem.W.plainOver K C = true) (ht : PySem.W.takerIn K C name = some none) (hh : PySem.W.hasDictIn K C = true)
    (hw : PySem.Within mA ns) (hsz : ns.length ≤ sizeLine)
    (h : ∀ h', ObjM h' x dx C (fun y => if y = name then some v else mA y) → Heap.SameBut dx s.heap h' → Q () { s with heap := h', toks := s.toks + 2 }) :
    wpAny (model prog w) A (setAttr (.ref x) name v) Q E s := by
  obtain ⟨od, J, hl⟩ := I.look
  refine PySem.W.set_plain X J hs (PySem.W.osa_open (s := { s with toks := s.toks + 1 }) (r := none) X J hp ht fun b => ?_)
  obtain ⟨cd, hc, hd'⟩ := PySem.W.any_some hh
  have hx : s.heap.get? x = some ⟨.ref C, some dx, .plain, #[]⟩ := I.obj
  refine wpAny_bind (wpAny_pure (wpAny_bind (wpAny_bind (wpAny_loadPart hx (wpAny_bind (PySem.W.Looks.here (s := { s with toks := s.toks + 1 }) (PySem.W.looks_clsIn X hc) ?_))))))
  rw [hd']
  refine wpAny_pure (a := some dx) (wpAny_bind (wpAny_pure (wpAny_bind ?_)))
  refine wpAny_nsSet1 (s := { s with toks := s.toks + 1 }) I.ns fun h' hn2 hs2 => ?_
  obtain ⟨oD, esD, epD, hoD, hdD, hcD⟩ := hn2.count (PySem.Within.cons name v hw)
  refine wpAny_bind (wpAny_lookBehind hoD (by rw [hdD]; exact pastItsLine_dict (Nat.le_trans hcD (by rw [List.length_cons]; omega))) ?_)
  exact wpAny_pure (h _ ⟨(hs2.2 _ (Ne.symm I.ne)).trans I.obj, hn2, I.ne⟩ hs2)

theorem make_map {R : Result → Shared → Prop} {vs : List Value} {kw : List (Str × Value)} (X : K.In s.heap) (hm : PySem.W.makesIn K C = true)
    (hi : PySem.W.findIn K (.ref C) "__init__" = some (some (.ref f))) (hf : PySem.W.typeIn K (.ref f) = some (.type "function"))
    (h : codeAny (model prog w) (A.under (.builtin "type.__call__" ⟨.ref C :: vs, kw⟩)) (.call (.ref f) ⟨.ref (s.heap.objs.size + 1) :: vs, kw⟩) (PySem.W.InitBack (s.heap.objs.size + 1) R)
      { s with heap := (s.heap.push PySem.W.emptyDict).push (PySem.W.instObj C s.heap.objs.size) }) :
    codeAny (model prog w) A (.call (.ref C) ⟨vs, kw⟩) R s := by
  obtain ⟨hh, g, d, t, os⟩ := s
  exact PySem.W.make_core (PySem.W.makes_of X hm) (PySem.W.looks_findIn X hi) (fun self => PySem.W.bind_fn X self hf) (.inl rfl) h
end

/-! ### the attributes as a list of pairs -/
noncomputable def putF (f : Str) (v : V) : List (Str × V) → List (Str × V)
  | [] => [(f, v)]
  | (g, x) :: r => if g = f then (g, v) :: r else (g, x) :: putF f v r
theorem lookup_putF (f g : Str) (v : V) : ∀ fs : List (Str × V), (putF f v fs).lookup g = if g = f then some v else fs.lookup g
  | [] => by
    show List.lookup g [(f, v)] = _
    by_cases h : g = f
    · have hb : (g == f) = true := beq_iff_eq.mpr h
      simp only [List.lookup, hb, if_pos h]
    · have hb : (g == f) = false := beq_eq_false_iff_ne.mpr h
      simp only [List.lookup, hb, if_neg h]
  | (k, x) :: r => by
    have ih := lookup_putF f g v r
    rw [show putF f v ((k, x) :: r) = (if k = f then (k, v) :: r else (k, x) :: putF f v r) from rfl]
    by_cases hk : k = f
    · rw [if_pos hk]
      by_cases h : g = k
      · have hb : (g == k) = true := beq_iff_eq.mpr h
        simp only [List.lookup, hb, if_pos (h.trans hk)]
      · have hb : (g == k) = false := beq_eq_false_iff_ne.mpr h
        simp only [List.lookup, hb, if_neg (fun e : g = f => h (e.trans hk.symm))]
    · rw [if_neg hk]
      by_cases h : g = k
      · have hb : (g == k) = true := beq_iff_eq.mpr h
        simp only [List.lookup, hb, if_neg (fun e : g = f => hk (h.symm.trans e))]
      · have hb : (g == k) = false := beq_eq_false_iff_ne.mpr h
        simp only [List.lookup, hb]
        exact ih
theorem keys_putF (f : Str) (v : V) : ∀ fs : List (Str × V), f ∈ (putF f v fs).map (·.1) ∧ ∀ g, g ∈ fs.map (·.1) → g ∈ (putF f v fs).map (·.1)
  | [] => ⟨by simp [putF], fun g h => by simp at h⟩
  | (k, x) :: r => by
    obtain ⟨i1, i2⟩ := keys_putF f v r
    rw [show putF f v ((k, x) :: r) = (if k = f then (k, v) :: r else (k, x) :: putF f v r) from rfl]
    by_cases hk : k = f
    · rw [if_pos hk]
      subst hk
      exact ⟨by simp, fun g h => by simpa using h⟩
    · rw [if_neg hk]
      refine ⟨?_, fun g h => ?_⟩
      · rw [List.map_cons]
        exact List.mem_cons_of_mem _ i1
      · rw [List.map_cons] at h ⊢
        rcases List.mem_cons.mp h with e | e
        · exact List.mem_cons.mpr (.inl e)
        · exact List.mem_cons_of_mem _ (i2 g e)
theorem length_putF (f : Str) (v : V) : ∀ fs : List (Str × V), (putF f v fs).length ≤ fs.length + 1
  | [] => by simp [putF]
  | (k, x) :: r => by
    have ih := length_putF f v r
    rw [show putF f v ((k, x) :: r) = (if k = f then (k, v) :: r else (k, x) :: putF f v r) from rfl]
    by_cases hk : k = f
    · rw [if_pos hk, List.length_cons, List.length_cons]; omega
    · rw [if_neg hk, List.length_cons, List.length_cons]; omega

theorem RelO.some_of {v : V} {o : Option Value} (r : RelO (some v) o) : ∃ u, o = some u ∧ RelV v u := by
  cases o with
  | none => exact (show False from r).elim
  | some u => exact ⟨u, rfl, r⟩
theorem RelO.none_of {o : Option Value} (r : RelO none o) : o = none := by
  cases o with
  | none => rfl
  | some u => exact (show False from r).elim
theorem handed_of {v : V} {u : Value} (r : RelV v u) : PySem.W.handedIn u = true := by
  cases v with
  | non => cases (show u = Value.none from r); rfl
  | bl b => cases (show u = Value.bool b from r); rfl
  | int i => obtain ⟨t, e⟩ := (show ∃ t, u = Value.int i t from r); cases e; rfl
  | str x => obtain ⟨t, e⟩ := (show ∃ t, u = Value.str x t from r); cases e; rfl
  | byt b => obtain ⟨t, e⟩ := (show ∃ t, u = Value.bytes b t from r); cases e; rfl
  | flt b => obtain ⟨t, e⟩ := (show ∃ t, u = Value.float b t from r); cases e; rfl
  | ref a => cases (show u = Value.ref a from r); rfl
  | ty n => cases (show u = Value.type n from r); rfl

section
variable {P : Program} {w : World} {H H' : Hp} {h h' : Heap} {a C dx : Addr} {fs fs' : List (Str × V)}
theorem ins_get (hok : HOk P w H h) (e : H a = some (.ins C dx fs)) : ∃ mA, ObjM h a dx C mA ∧ (∀ f, RelO (fs.lookup f) (mA f)) ∧ PySem.Within mA (fs.map (·.1)) ∧ fs.length ≤ 1000 ∧ H dx = some (.own a) := by
  obtain ⟨d, z, ne, ob, mA, n, r, q⟩ := (show ObjOk P w H h a (.ins C dx fs) from hok a _ e)
  exact ⟨mA, ⟨ob, n, ne⟩, r, q, z, d⟩
end

/-! ### what of the text a class must have -/
structure Cls (K : PySem.W.Frag) (C : Addr) : Prop where
  pg : PySem.W.plainGet K C Str.empty = true
  hd : PySem.W.hasDictIn K C = true
  po : PySem.W.plainOver K C = true
  sa : PySem.W.findIn K (.ref C) "__setattr__" = some (some (.builtin "object.__setattr__"))
theorem Cls.get {K : PySem.W.Frag} {C : Addr} (c : Cls K C) (f : Str) : PySem.W.plainGet K C f = true := c.pg
noncomputable def NoAttr (K : PySem.W.Frag) (C : Addr) (f : Str) : Prop := PySem.W.findIn K (.ref C) f = some none
theorem NoAttr.taker {K : PySem.W.Frag} {C : Addr} {f : Str} (n : NoAttr K C f) : PySem.W.takerIn K C f = some none := by
  unfold PySem.W.takerIn
  rw [show PySem.W.findIn K (.ref C) f = some none from n]
  rfl
structure Meth (K : PySem.W.Frag) (C : Addr) (m : Str) (f : Addr) : Prop where
  at_ : PySem.W.findIn K (.ref C) m = some (some (.ref f))
  fn : PySem.W.isFn K (.ref f) = true
  kp : PySem.W.keepIn K (.ref f) = true

section
variable {X : Cx} {pins : List (Addr × Obj)} {σ : St} {H : Hp} {s : Shared} {a C dx : Addr} {fs : List (Str × V)} {f : Str} {v : V} {A : Around} {E : Value → Shared → Prop}

theorem getattr_ok {b : Bool} {Q : Value → Shared → Prop} (I : Inv X pins σ H s) (e : H a = some (.ins C dx fs)) (c : Cls X.K C) (n : NoAttr X.K C f) (l : fs.lookup f = some v)
    (h : ∀ u s', Inv X pins σ H s' → RelV v u → Q u s') : wpAny (model X.prog X.w) A (getAttr (.ref a) f b) Q E s := by
  obtain ⟨mA, O, r, _, _, _⟩ := ins_get I.hok e
  obtain ⟨u, hu, ru⟩ := RelO.some_of (v := v) (o := mA f) (by rw [← l]; exact r f)
  exact get_map I.kIn O (c.get f) c.hd n hu (handed_of ru) (h u _ (I.tok _) ru)


theorem getmeth_ok {m : Str} {g : Addr} {pl : Sem Bool} {Q : Value × List Value → Shared → Prop} (I : Inv X pins σ H s) (e : H a = some (.ins C dx fs)) (c : Cls X.K C) (k : Meth X.K C m g) (l : fs.lookup m = none)
    (h : Q (.ref g, [.ref a]) s) : wpAny (model X.prog X.w) A (getMethod (.ref a) m pl) Q E s := by
  obtain ⟨mA, O, r, _, _, _⟩ := ins_get I.hok e
  have hn : mA m = none := RelO.none_of (by rw [← l]; exact r m)
  exact get_meth I.kIn O (c.get m) k.at_ k.fn hn h

theorem setattr_ok {y : V} {u : Value} {Q : Unit → Shared → Prop} (I : Inv X pins σ H s) (e : H a = some (.ins C dx fs)) (c : Cls X.K C) (n : NoAttr X.K C f) (hl : fs.length < 1000) (ry : RelV y u)
    (h : ∀ s', Inv X pins σ (upd H a (.ins C dx (putF f y fs))) s' → Q () s') : wpAny (model X.prog X.w) A (setAttr (.ref a) f u) Q E s := by
  obtain ⟨mA, O, r, wi, _, ho⟩ := ins_get I.hok e
  have hz : (fs.map (·.1)).length ≤ sizeLine := by rw [List.length_map, sizeLine_eq]; omega
  refine set_map I.kIn O c.sa c.po n.taker c.hd wi hz fun h' O' sb => h _ ?_
  have hd : ∃ o, h'.get? dx = some o := let ⟨o, _, _, e', _⟩ := O'.ns; ⟨o, e'⟩
  refine I.write (x := a) (e := dx) (by rw [e]; exact True.intro) (.inr ho) (fun b q hb z => (sb.2 b hb).trans z) hd ?_
  refine ⟨by rw [upd_ne O.ne]; exact ho, ?_, O.ne, O'.obj, _, O'.ns, fun g => ?_, fun g hg => ?_⟩
  · have := length_putF f y fs; omega
  · show RelO ((putF f y fs).lookup g) (if g = f then some u else mA g)
    rw [lookup_putF]
    by_cases q : g = f
    · rw [if_pos q, if_pos q]; exact ry
    · rw [if_neg q, if_neg q]; exact r g
  · by_cases q : g = f
    · rw [q]; exact (keys_putF f y fs).1
    · refine (keys_putF f y fs).2 g (wi g fun z => hg ?_)
      show (if g = f then some u else mA g) = none
      rw [if_neg q]; exact z

theorem Inv.made (I : Inv X pins σ H s) : Inv X pins σ (upd (upd H s.heap.objs.size (.own (s.heap.objs.size + 1))) (s.heap.objs.size + 1) (.ins C s.heap.objs.size []))
    { s with heap := (s.heap.push PySem.W.emptyDict).push (PySem.W.instObj C s.heap.objs.size) } := by
  have e1 : (s.heap.push PySem.W.emptyDict).get? s.heap.objs.size = some PySem.W.emptyDict := Heap.get?_push_size s.heap rfl
  have e2 : ((s.heap.push PySem.W.emptyDict).push (PySem.W.instObj C s.heap.objs.size)).get? (s.heap.objs.size + 1) = some (PySem.W.instObj C s.heap.objs.size) := by
    have := Heap.get?_push_size (s.heap.push PySem.W.emptyDict) (o := PySem.W.instObj C s.heap.objs.size) rfl
    rwa [Heap.size_push] at this
  have e3 : (s.heap.push PySem.W.emptyDict).Ns s.heap.objs.size (fun _ => none) := ⟨PySem.W.emptyDict, #[], _, e1, rfl, (fun e he => absurd he (by simp)), fun _ => rfl⟩
  have I1 := I.laid (a := s.heap.objs.size) (o := .own (s.heap.objs.size + 1)) (h' := s.heap.push PySem.W.emptyDict) (t' := s.toks) (fun b u q => Heap.get?_push_of_some _ q) (Nat.le_refl _) ⟨_, e1⟩
  refine I1.laid (a := s.heap.objs.size + 1) (o := .ins C s.heap.objs.size []) (t' := s.toks) (fun b u q => Heap.get?_push_of_some _ q) (Nat.le_of_eq (Heap.size_push _ _)) ?_
  have ne : s.heap.objs.size ≠ s.heap.objs.size + 1 := Nat.ne_of_lt (Nat.lt_succ_self _)
  refine ⟨by rw [upd_ne ne, upd_same], Nat.zero_le _, ne, e2, fun _ => none, (Heap.Ns1.of_empty e3).at fun o q => Heap.get?_push_of_some _ q, fun _ => True.intro, fun y hy => absurd rfl hy⟩

theorem attr_of {prog : Program} {w : World} {env : Env} {e : Expr} {f : Str} {pos : Pos} {s : Shared} {Q : Value → Shared → Prop} (hb : attributeBase e f env (eval e env) = eval e env)
    (h : wpAny (model prog w) A (eval e env) (fun o s₁ => wpAny (model prog w) A (getAttr o f true) Q E s₁) E s) : wpAny (model prog w) A (eval (.Attribute e f pos) env) Q E s :=
  Attribute_any_ h (by rw [arm_eval_Attribute, hb])
end

/-! ### readings and rules -/
noncomputable def tFld (K : PySem.W.Frag) (ta : TE) (f : Str) : TE := fun σ H Q => ta σ H fun x H1 => ∃ a C dx fs v, x = .ref a ∧ H1 a = some (.ins C dx fs) ∧ Cls K C ∧ NoAttr K C f ∧ fs.lookup f = some v ∧ Q v H1
noncomputable def sFld (K : PySem.W.Frag) (ta tv : TE) (f : Str) : TS := fun D σ H => tv σ H fun y H1 => ta σ H1 fun x H2 => ∃ a C dx fs, x = .ref a ∧ H2 a = some (.ins C dx fs) ∧ Cls K C ∧ NoAttr K C f ∧ fs.length < 1000 ∧
  D.nx σ (upd H2 a (.ins C dx (putF f y fs)))

section
variable {X : Cx} {o e value : Expr} {f : Str} {pos pos' tpos : Pos} {ta tv : TE}
theorem pe_fld (he : PE X e ta) (hb : attributeBase e f X.env (eval e X.env) = eval e X.env) : PE X (.Attribute e f pos) (tFld X.K ta f) := by
  intro pins s σ H Q I h
  refine attr_of hb (thn (he pins s σ H _ I h) fun u s1 zz => ?_)
  obtain ⟨x, H1, I1, rx, a, C, dx, fs, v, ex, ea, c, n, l, q⟩ := zz
  subst ex
  obtain rfl : u = Value.ref a := rx
  exact getattr_ok I1 ea c n l fun u' s2 I2 ru => ⟨v, H1, I2, ru, q⟩
theorem ps_fld (ha : PE X o ta) (hv : PE X value tv) (hs : swapsWith value (some (.Attribute o f pos')) pos.line X.env = pure false) : PS X (.Assign [.Attribute o f pos'] value pos) (sFld X.K ta tv f) := by
  intro pins s σ H D I h
  refine plainObj_wpAny_Assign_Attribute (thn (hv pins s σ H _ I h) fun u s1 zz => L2.el5 zz fun y H1 I1 ry q => thn (ha pins s1 σ H1 _ I1 q) fun ov s2 zz => ?_) hs
  obtain ⟨x, H2, I2, rx, a, C, dx, fs, ex, ea, c, n, l, q2⟩ := zz
  subst ex
  obtain rfl : ov = Value.ref a := rx
  exact setattr_ok I2 ea c n l ry fun s3 I3 => ⟨σ, _, I3, q2⟩

end

/-! ### isinstance -/
section
variable {X : Cx} {pins : List (Addr × Obj)} {σ : St} {H : Hp} {s : Shared} {A : Around} {E : Value → Shared → Prop} {Q : Value → Shared → Prop} {c : Value} {b : Bool}
inductive TyOf (K : PySem.W.Frag) (H : Hp) : V → Value → Prop where
  | non : TyOf K H .non (.type "NoneType")
  | bl (x : Bool) : TyOf K H (.bl x) (.type "bool")
  | int (i : Int) : TyOf K H (.int i) (.type "int")
  | str (x : Str) : TyOf K H (.str x) (.type "str")
  | flt (x : UInt64) : TyOf K H (.flt x) (.type "float")
  | lst {a : Addr} {xs : List V} (e : H a = some (.lst xs)) : TyOf K H (.ref a) (.type "list")
  | frz {a : Addr} {o : Obj} {xs : List V} (e : H a = some (.frz o (.lst xs))) : TyOf K H (.ref a) (.type "list")
  | tup {a : Addr} {xs : List V} (e : H a = some (.tup xs)) : TyOf K H (.ref a) (.type "tuple")
  | dK {a : Addr} {kvs : List (Key × V)} (e : H a = some (.dK kvs)) : TyOf K H (.ref a) (.type "dict")
  | dT {a : Addr} {kvs : List (List Key × V)} (e : H a = some (.dT kvs)) : TyOf K H (.ref a) (.type "dict")
  | ins {a C dx : Addr} {fs : List (Str × V)} (e : H a = some (.ins C dx fs)) (cl : Cls K C) (ha : PySem.W.findIn K (.ref C) "__class__" = some (some (.builtin "object.__class__")))
      (hn : PySem.W.specialIn K (.builtin "object.__class__") "__get__" = some (some (.builtin "getset_descriptor.__get__"))) (htk : PySem.W.takesIn K (.builtin "object.__class__") = some true)
      (hm : PySem.W.mroIn K C (.type "object") = some true) : TyOf K H (.ref a) (.ref C)
theorem isinst_ok {x : V} {u t : Value} (I : Inv X pins σ H s) (rx : RelV x u) (ty : TyOf X.K H x t) (e : PySem.W.kitOne X.K t c = some b) (h : ∀ tk, Q (.bool b) { s with toks := tk }) :
    wpAny (model X.prog X.w) A (call (.builtin "isinstance") [u, c]) Q E s := by
  cases ty with
  | non => cases (show u = Value.none from rx); exact PySem.W.kia_one PySem.W.kitx_none I.kIn True.intro e (fun z => nomatch z) h
  | bl y => cases (show u = Value.bool y from rx); exact PySem.W.kia_one PySem.W.kitx_bool I.kIn True.intro e (fun z => nomatch z) h
  | int i => obtain ⟨t, q⟩ := (show ∃ t, u = Value.int i t from rx); cases q; exact PySem.W.kia_one PySem.W.kitx_int I.kIn True.intro e (fun z => nomatch z) h
  | str y => obtain ⟨t, q⟩ := (show ∃ t, u = Value.str y t from rx); cases q; exact PySem.W.kia_one PySem.W.kitx_str I.kIn True.intro e (fun z => nomatch z) h
  | flt y => obtain ⟨t, q⟩ := (show ∃ t, u = Value.float y t from rx); cases q; exact PySem.W.kia_one PySem.W.kitx_float I.kIn True.intro e (fun z => nomatch z) h
  | @lst a xs ea =>
    cases (show u = Value.ref a from rx)
    obtain ⟨_, _, n, _, h1⟩ := (show ObjOk X.prog X.w H s.heap a (.lst xs) from I.hok a _ ea)
    exact PySem.W.kia_one PySem.W.kitx_list I.kIn ⟨_, h1, rfl⟩ e (fun z => nomatch z) h
  | @frz a ob xs ea =>
    cases (show u = Value.ref a from rx)
    obtain ⟨_, _, _, n, _, h1⟩ := (show ObjOk X.prog X.w H s.heap a (.frz ob (.lst xs)) from I.hok a _ ea)
    exact PySem.W.kia_one PySem.W.kitx_list I.kIn ⟨_, h1, rfl⟩ e (fun z => nomatch z) h
  | @tup a xs ea =>
    cases (show u = Value.ref a from rx)
    obtain ⟨_, _, _, p⟩ := (show ObjOk X.prog X.w H s.heap a (.tup xs) from I.hok a _ ea)
    obtain ⟨o, h1, h2, _⟩ := p
    exact PySem.W.kia_one PySem.W.kitx_tuple I.kIn ⟨o, h1, h2⟩ e (fun z => nomatch z) h
  | @dK a kvs ea =>
    cases (show u = Value.ref a from rx)
    obtain ⟨_, _, vs, _, p⟩ := (show ObjOk X.prog X.w H s.heap a (.dK kvs) from I.hok a _ ea)
    obtain ⟨o, es, ep, h1, h2, _⟩ := p
    exact PySem.W.kia_one PySem.W.kitx_dict I.kIn ⟨o, h1, h2.1⟩ e (fun z => nomatch z) h
  | @dT a kvs ea =>
    cases (show u = Value.ref a from rx)
    obtain ⟨_, _, xs, _, o, es, ep, h1, h2, _⟩ := (show ObjOk X.prog X.w H s.heap a (.dT kvs) from I.hok a _ ea)
    exact PySem.W.kia_one PySem.W.kitx_dict I.kIn ⟨o, h1, h2.1⟩ e (fun z => nomatch z) h
  | @ins a C dx fs ea cl ha hn htk hm =>
    cases (show u = Value.ref a from rx)
    obtain ⟨mA, O, _⟩ := ins_get I.hok ea
    obtain ⟨od, J, _⟩ := O.look
    exact PySem.W.kia_one (PySem.W.kitx_own (cl.get _) cl.hd ha hn htk hm) I.kIn J e (fun z => nomatch z) h
end
end L2

namespace L2
open PySem PySem.Spec PyProof.Rows

/-! ### room -/
structure Room (k : Nat) (A : Around) : Prop where
  hd : A.handled = none
  dp : A.depth + 3 * k + 5 < recursionLimit
  un : A.units + 16 * k + 200 < cLine
theorem Room.mono {j k : Nat} {A : Around} (r : Room k A) (h : j ≤ k) : Room j A := ⟨r.hd, by have := r.dp; omega, by have := r.un; omega⟩
theorem Room.deeper {k : Nat} {A : Around} (r : Room (k + 1) A) (env : Env) : Room k (A.deeper env) :=
  ⟨r.hd, by have := r.dp; show A.depth + 1 + 3 * k + 5 < _; omega, by have := r.un; show A.units + 3 + 16 * k + 200 < _; omega⟩
theorem make_depth {A : Around} {C : Addr} {us : List Value} {kw : List (Str × Value)} : (A.under (.builtin "type.__call__" ⟨.ref C :: us, kw⟩)).depth = A.depth + 1 := by
  first | rfl | simp [Around.under, Code.weight, Code.isCreation, Code.isGuard, Code.isCaller, Code.frames, Code.isFrame, guardIds]
theorem make_units {A : Around} {C : Addr} {us : List Value} {kw : List (Str × Value)} : (A.under (.builtin "type.__call__" ⟨.ref C :: us, kw⟩)).units = A.units + 1 := by
  first | rfl | simp [Around.under, Code.cUnits, Code.frames, Code.isFrame]
theorem Room.make {k : Nat} {A : Around} (r : Room (k + 1) A) (C : Addr) (us : List Value) (kw : List (Str × Value)) : Room k (A.under (.builtin "type.__call__" ⟨.ref C :: us, kw⟩)) :=
  ⟨r.hd, by have := r.dp; rw [make_depth]; omega, by have := r.un; rw [make_units]; omega⟩
theorem Room.depth {k : Nat} {A : Around} (r : Room k A) : A.depth < recursionLimit := by have := r.dp; omega
theorem Room.units {k : Nat} {A : Around} (r : Room k A) : A.units + 64 < cLine := by have := r.un; omega

/-! ### argument lists and displays -/
noncomputable def tNil : TA := fun _ H Q => Q [] H
noncomputable def tCons (ta : TE) (tr : TA) : TA := fun σ H Q => ta σ H fun x H1 => tr σ H1 fun xs H2 => Q (x :: xs) H2
section
variable {X : Cx} {e : Expr} {es : List Expr} {te : TE} {t : TA} {pos : Pos}
theorem pa_nil : PA X [] tNil := fun _ _ _ _ H Q I h => Calls.spliced_nil ⟨[], H, I, .nil, h⟩
theorem pa_cons (ha : PE X e te) (hr : PA X es t) (hs : starEach (e :: es) X.env = (false, eval e X.env) :: starEach es X.env := by rfl) : PA X (e :: es) (tCons te t) := by
  intro pos pins s σ H Q I h
  rw [hs]
  show wpAny _ _ (spliced ((false, eval e X.env) :: backTo pos (starEach es X.env))) _ _ s
  refine Calls.spliced_cons (thn (ha pins s σ H _ I h) fun u s1 zz => ?_)
  obtain ⟨x, H1, I1, r1, q1⟩ := zz
  exact thn (hr pos pins s1 σ H1 _ I1 q1) fun us s2 zz => L2.el5 zz fun xs H2 I2 r2 q2 => ⟨x :: xs, H2, I2, .cons r1 r2, q2⟩

noncomputable def tTup (t : TA) : TE := fun σ H Q => t σ H fun xs H1 => xs.length ≤ sizeLine ∧ ∀ p, H1 p = none → Q (.ref p) (upd H1 p (.tup xs))
noncomputable def tLst (t : TA) : TE := fun σ H Q => t σ H fun xs H1 => xs.length ≤ sizeLine ∧ ∀ p, H1 p = none → Q (.ref p) (upd H1 p (.lst xs))
theorem pe_tup {x1} (h : PA X es t) : PE X (.Tuple es x1 pos) (tTup t) := by
  intro pins s σ H Q I hq
  refine wpAny_Tuple_spliced (thn (h pos pins s σ H _ I hq) fun us s1 zz => ?_)
  obtain ⟨xs, H1, I1, r, z, q⟩ := zz
  refine ⟨by rw [← r.length]; exact z, ?_⟩
  have hf : H1 s1.heap.objs.size = none := I1.hok.fresh (Nat.le_refl _)
  refine ⟨.ref s1.heap.objs.size, upd H1 s1.heap.objs.size (.tup xs), I1.laid (t' := s1.toks) (fun b u e => Heap.get?_push_of_some _ e) (Nat.le_refl _) ?_, rfl, q _ hf⟩
  exact ⟨z, us, r, ⟨_, Heap.get?_push_size _ rfl, rfl, _, rfl⟩⟩
theorem pe_lst (h : PA X es t) : PE X (.List es pos) (tLst t) := by
  intro pins s σ H Q I hq
  refine wpAny_List_spliced (thn (h pos pins s σ H _ I hq) fun us s1 zz => ?_)
  obtain ⟨xs, H1, I1, r, z, q⟩ := zz
  refine ⟨by rw [← r.length]; exact z, ?_⟩
  have hf : H1 s1.heap.objs.size = none := I1.hok.fresh (Nat.le_refl _)
  refine ⟨.ref s1.heap.objs.size, upd H1 s1.heap.objs.size (.lst xs), I1.laid (t' := s1.toks) (fun b u e => Heap.get?_push_of_some _ e) (Nat.le_refl _) ?_, rfl, q _ hf⟩
  exact ⟨z, us, 0, r, Heap.get?_push_size _ rfl⟩
end

/-! ### what a def promises -/
noncomputable abbrev Sp := List V → Hp → VK → XK → Prop
noncomputable abbrev CXT := List Env → Hp → Shared → XK → Value → Shared → Prop

structure Env0 (P : Program) (w : World) (K : PySem.W.Frag) (mg : Str → Option Value) (base : Heap) (A : Around) (outer : List Env) (s : Shared) (H : Hp) : Prop where
  frames : A.frames = some outer
  mod : Mod K mg base
  bs : ∀ b o, base.get? b = some o → s.heap.get? b = some o ∧ H b = none
  bsz : base.objs.size ≤ s.heap.objs.size
  funs : s.heap.FunFrames base outer
  frf : ∀ b ∈ frs outer, H b = none
  hok : HOk P w H s.heap
  bare : AllBare s.gens
noncomputable def CE (outer : List Env) (P : Program) (w : World) (H : Hp) (s : Shared) (Q : VK) (u : Value) (s' : Shared) : Prop :=
  ∃ v H', s'.os = s.os ∧ AllBare s'.gens ∧ Un (frs outer) [] H H' s.heap s'.heap ∧ HOk P w H' s'.heap ∧ RelV v u ∧ Q v H'
noncomputable def CR (CX : CXT) (outer : List Env) (P : Program) (w : World) (H : Hp) (s : Shared) (Q : VK) (E : XK) (r : Result) (s' : Shared) : Prop :=
  match r with
  | .ok (.ret u) => CE outer P w H s Q u s'
  | .ok _ => False
  | .error e => CX outer H s E e s'
structure FnOk (P : Program) (w : World) (K : PySem.W.Frag) (mg : Str → Option Value) (base : Heap) (CX : CXT) (k : Nat) (f : Addr) (fd : FuncData) (ps : List Str) (sp : Sp) : Prop where
  len : ∀ vs H Q E, sp vs H Q E → vs.length = ps.length
  run : ∀ (A : Around) (outer : List Env) (s : Shared) (H : Hp) (args : Args) (us : List Value) (vs : List V) (Q : VK) (E : XK), Room k A → Env0 P w K mg base A outer s H → BindsTo s fd args (ps.zip us) → Vals vs us → sp vs H Q E →
    codeAny (model P w) A (.call (.ref f) args) (CR CX outer P w H s Q E) s

theorem Env0.make {P : Program} {w : World} {K : PySem.W.Frag} {mg : Str → Option Value} {base : Heap} {A : Around} {outer : List Env} {s : Shared} {H : Hp} (e : Env0 P w K mg base A outer s H) (C : Addr) (us : List Value) (kw : List (Str × Value)) :
    Env0 P w K mg base (A.under (.builtin "type.__call__" ⟨.ref C :: us, kw⟩)) outer s H := ⟨by first | exact e.frames | (simpa [Around.under, Code.envs, Code.isFrame, pushEnvs] using e.frames), e.mod, e.bs, e.bsz, e.funs, e.frf, e.hok, e.bare⟩

section
variable {X : Cx} {pins : List (Addr × Obj)} {σ : St} {H : Hp} {s s' : Shared}
theorem Inv.env0 (I : Inv X pins σ H s) : Env0 X.prog X.w X.K X.mg X.base X.A X.stack s H :=
  ⟨I.ok.frames, I.ok.mod, I.bs, Nat.le_trans I.ok.bsz I.sz, I.stack, I.stkFree, I.hok, I.bare⟩
theorem Inv.after {Q : VK} {u : Value} (I : Inv X pins σ H s) (h : CE X.stack X.prog X.w H s Q u s') : EP X pins σ Q u s' := by
  obtain ⟨v, H', os, bare, un, hok, r, q⟩ := h
  obtain ⟨hh, g, d, t, os'⟩ := s'
  obtain rfl : os' = s.os := os
  exact ⟨v, H', I.call (h' := hh) (g' := g) (d' := d) (t' := t) (ch := []) un hok bare (fun b z => absurd z (by simp)), r, q⟩
end

/-! ### calls -/
noncomputable def tCall (sp : Sp) (dvs : List V) (E : XK) (t : TA) : TE := fun σ H Q => t σ H fun vs H1 => sp (vs ++ dvs) H1 Q E
noncomputable def tMeth (C : Addr) (m : Str) (sp : Sp) (dvs : List V) (E : XK) (ta : TE) (t : TA) : TE := fun σ H Q => ta σ H fun x H1 => ∃ a dx fs, x = .ref a ∧ H1 a = some (.ins C dx fs) ∧ fs.lookup m = none ∧
  t σ H1 fun vs H2 => sp (x :: (vs ++ dvs)) H2 Q E
noncomputable def tMake (C : Addr) (sp : Sp) (dvs : List V) (E : XK) (t : TA) : TE := fun σ H Q => t σ H fun vs H1 => ∀ x dx, H1 x = none → H1 dx = none → dx ≠ x →
  sp (.ref x :: (vs ++ dvs)) (upd (upd H1 dx (.own x)) x (.ins C dx [])) (fun v H2 => v = .non ∧ Q (.ref x) H2) E

noncomputable def Binds (K : PySem.W.Frag) (fd : FuncData) (ps : List Str) (ds : List Value) : Prop :=
  ∀ (s : Shared) (us : List Value), K.In s.heap → (us ++ ds).length = ps.length → BindsTo s fd ⟨us, []⟩ (ps.zip (us ++ ds))
theorem Binds.all {K : PySem.W.Frag} {fd : FuncData} {ps : List Str} (h : ∀ us : List Value, us.length = ps.length → bindArgs fd ⟨us, []⟩ = pure (ps.zip us)) : Binds K fd ps [] := fun s us _ hl => by
  rw [List.append_nil] at hl ⊢
  exact .of_eq (h us hl)

noncomputable def Passes (CX : CXT) (X : Cx) (E : XK) : Prop := ∀ (pins : List (Addr × Obj)) (σ : St) (H : Hp) (s : Shared) (e : Value) (s' : Shared), Inv X pins σ H s → CX X.stack H s E e s' → X.xe e s'

section
variable {X : Cx} {CX : CXT} {k : Nat} {f C : Addr} {fd : FuncData} {ps : List Str} {sp : Sp} {dvs : List V} {ds : List Value} {E : XK} {x m : Str} {p pos apos : Pos} {e o : Expr} {es : List Expr} {ta : TE} {t : TA}

theorem run_fn {pins : List (Addr × Obj)} {σ : St} {H : Hp} {s : Shared} {Q : VK} {us : List Value} {vs : List V} (F : FnOk X.prog X.w X.K X.mg X.base CX k f fd ps sp) (hr : Room k X.A) (hb : Binds X.K fd ps ds) (hd : Vals dvs ds) (hx : Passes CX X E)
    (I : Inv X pins σ H s) (r : Vals vs us) (h : sp (vs ++ dvs) H Q E) : wpAny (model X.prog X.w) X.A (call (.ref f) us) (EP X pins σ Q) X.xe s := by
  have r2 : Vals (vs ++ dvs) (us ++ ds) := r.append hd
  have hl : (us ++ ds).length = ps.length := by rw [← r2.length]; exact F.len _ _ _ _ h
  refine wpAny_call (codeAny_mono (F.run X.A X.stack s H ⟨us, []⟩ (us ++ ds) (vs ++ dvs) Q E hr I.env0 (hb s us I.kIn hl) r2 h) fun r s' hq => ?_)
  cases r with
  | error e => exact hx pins σ H s e s' I hq
  | ok fl =>
    cases fl with
    | ret u => exact I.after hq
    | next => exact False.elim hq
    | brk => exact False.elim hq
    | cont => exact False.elim hq

theorem pe_call (F : FnOk X.prog X.w X.K X.mg X.base CX k f fd ps sp) (hr : Room k X.A) (hg : Gl X x) (hm : X.mg x = some (.ref f)) (hk : PySem.W.keepIn X.K (.ref f) = true) (hb : Binds X.K fd ps ds) (hd : Vals dvs ds) (hx : Passes CX X E)
    (ha : PA X (e :: es) t) (hdb : (x == ("__debug__" : Str)) = false := by decide) (he : starEach (e :: es) X.env = (false, eval e X.env) :: starEach es X.env := by rfl) (hpl : (backTo pos (starEach es X.env)).any (·.1) = false := by rfl) :
    PE X (.Call (.Name x p) (e :: es) [] pos) (tCall sp dvs E t) := by
  intro pins s σ H Q I h
  refine wpAny_Call_Name_kw (ld_glob I hg hm ?_ hdb)
  refine PySem.W.callWith_K (h₀ := X.base) I.ok.mod.kin hk (thn (ha pos pins s σ H _ I h) fun us s1 zz => L2.el5 zz fun vs H1 I1 r q => ⟨I1.kIn, ?_⟩) he hpl
  exact run_fn F hr hb hd hx I1 r q

theorem pe_meth {pl : Sem Bool} (he : PE X o ta) (c : Cls X.K C) (hm : Meth X.K C m f) (F : FnOk X.prog X.w X.K X.mg X.base CX k f fd ps sp) (hr : Room k X.A) (hb : Binds X.K fd ps ds) (hd : Vals dvs ds) (hx : Passes CX X E) (ha : PA X (e :: es) t)
    (hst : starEach (e :: es) X.env = (false, eval e X.env) :: starEach es X.env := by rfl) (hpl : (backTo pos (starEach es X.env)).any (·.1) = false := by rfl)
    (ht : eval (.Call (.Attribute o m apos) (e :: es) [] pos) X.env = (do
      let ov ← eval o X.env
      standAt apos.atName
      let (f, first) ← holding [ov] (getMethod ov m pl)
      callWith pos f first (backTo pos (starEach (e :: es) X.env)) (backToKw pos (keywordEach [] X.env))) := by rfl) :
    PE X (.Call (.Attribute o m apos) (e :: es) [] pos) (tMeth C m sp dvs E ta t) := by
  intro pins s σ H Q I h
  refine PySem.W.methodCall_KW (pl := pl) (thn (he pins s σ H _ I h) fun u s1 zz => ?_) ht
  obtain ⟨x, H1, I1, rx, a, dx, fs, ex, ea, l, q⟩ := zz
  subst ex
  obtain rfl : u = Value.ref a := rx
  refine getmeth_ok I1 ea c hm l ?_
  refine PySem.W.callWith_K (first := [.ref a]) (h₀ := X.base) I.ok.mod.kin hm.kp (thn (ha pos pins s1 σ H1 _ I1 q) fun us s2 zz => L2.el5 zz fun vs H2 I2 r q2 => ⟨I2.kIn, ?_⟩) hst hpl
  exact run_fn (us := .ref a :: us) (vs := .ref a :: vs) F hr hb hd hx I2 (.cons rfl r) q2
theorem pe_meth0 {pl : Sem Bool} (he : PE X o ta) (c : Cls X.K C) (hm : Meth X.K C m f) (F : FnOk X.prog X.w X.K X.mg X.base CX k f fd ps sp) (hr : Room k X.A) (hb : Binds X.K fd ps ds) (hd : Vals dvs ds) (hx : Passes CX X E)
    (ht : eval (.Call (.Attribute o m apos) [] [] pos) X.env = (do
      let ov ← eval o X.env
      standAt apos.atName
      let (f, first) ← holding [ov] (getMethod ov m pl)
      callWith pos f first (backTo pos (starEach [] X.env)) (backToKw pos (keywordEach [] X.env))) := by rfl) :
    PE X (.Call (.Attribute o m apos) [] [] pos) (tMeth C m sp dvs E ta tNil) := by
  intro pins s σ H Q I h
  refine PySem.W.methodCall_KW (pl := pl) (thn (he pins s σ H _ I h) fun u s1 zz => ?_) ht
  obtain ⟨x, H1, I1, rx, a, dx, fs, ex, ea, l, q⟩ := zz
  subst ex
  obtain rfl : u = Value.ref a := rx
  refine getmeth_ok I1 ea c hm l ?_
  exact PySem.W.callWith_K0 (first := [.ref a]) I1.kIn hm.kp (run_fn (us := [.ref a]) (vs := [.ref a]) F hr hb hd hx I1 (.cons rfl .nil) q)

structure Mk (K : PySem.W.Frag) (C f : Addr) : Prop where
  makes : PySem.W.makesIn K C = true
  init : PySem.W.findIn K (.ref C) "__init__" = some (some (.ref f))
  fn : PySem.W.isFn K (.ref f) = true
  kp : PySem.W.keepIn K (.ref C) = true

theorem run_make {pins : List (Addr × Obj)} {σ : St} {H : Hp} {s : Shared} {Q : VK} {us : List Value} {vs : List V} (M : Mk X.K C f) (F : FnOk X.prog X.w X.K X.mg X.base CX k f fd ps sp) (hr : Room (k + 1) X.A) (hb : Binds X.K fd ps ds) (hd : Vals dvs ds)
    (hx : Passes CX X E) (I : Inv X pins σ H s) (r : Vals vs us)
    (h : ∀ x dx, H x = none → H dx = none → dx ≠ x → sp (.ref x :: (vs ++ dvs)) (upd (upd H dx (.own x)) x (.ins C dx [])) (fun v H2 => v = .non ∧ Q (.ref x) H2) E) :
    wpAny (model X.prog X.w) X.A (call (.ref C) us) (EP X pins σ Q) X.xe s := by
  have hq := h (s.heap.objs.size + 1) s.heap.objs.size (I.hok.fresh (Nat.le_succ _)) (I.hok.fresh (Nat.le_refl _)) (Nat.ne_of_lt (Nat.lt_succ_self _))
  have I2 := Inv.made (C := C) I
  have r2 : Vals (V.ref (s.heap.objs.size + 1) :: (vs ++ dvs)) (Value.ref (s.heap.objs.size + 1) :: (us ++ ds)) := .cons rfl (r.append hd)
  have hl : (Value.ref (s.heap.objs.size + 1) :: us ++ ds).length = ps.length := by
    have e := r2.length
    rw [F.len _ _ _ _ hq] at e
    exact e.symm
  refine wpAny_call (make_map (f := f) I.kIn M.makes M.init (beq_iff_eq.mp M.fn) (codeAny_mono (F.run _ X.stack _ _ ⟨Value.ref (s.heap.objs.size + 1) :: us, []⟩ (Value.ref (s.heap.objs.size + 1) :: (us ++ ds)) _ _ E (hr.make C us [])
    (I2.env0.make C us []) (hb _ (Value.ref (s.heap.objs.size + 1) :: us) I2.kIn hl) r2 hq) fun r s' hq' => ?_))
  cases r with
  | error e => exact hx pins σ _ _ e s' I2 hq'
  | ok fl =>
    cases fl with
    | ret u =>
      obtain ⟨v, H', I3, rv, ev, q3⟩ := I2.after hq'
      subst ev
      exact ⟨rv, ⟨V.ref (s.heap.objs.size + 1), H', I3, rfl, q3⟩⟩
    | next => exact False.elim hq'
    | brk => exact False.elim hq'
    | cont => exact False.elim hq'
theorem pe_make (M : Mk X.K C f) (F : FnOk X.prog X.w X.K X.mg X.base CX k f fd ps sp) (hr : Room (k + 1) X.A) (hg : Gl X x) (hm : X.mg x = some (.ref C)) (hb : Binds X.K fd ps ds) (hd : Vals dvs ds) (hx : Passes CX X E)
    (ha : PA X (e :: es) t) (hdb : (x == ("__debug__" : Str)) = false := by decide) (he : starEach (e :: es) X.env = (false, eval e X.env) :: starEach es X.env := by rfl) (hpl : (backTo pos (starEach es X.env)).any (·.1) = false := by rfl) :
    PE X (.Call (.Name x p) (e :: es) [] pos) (tMake C sp dvs E t) := by
  intro pins s σ H Q I h
  refine wpAny_Call_Name_kw (ld_glob I hg hm ?_ hdb)
  refine PySem.W.callWith_K (h₀ := X.base) I.ok.mod.kin M.kp (thn (ha pos pins s σ H _ I h) fun us s1 zz => L2.el5 zz fun vs H1 I1 r q => ⟨I1.kIn, ?_⟩) he hpl
  exact run_make M F hr hb hd hx I1 r q
end

/-! ### keywords -/
section
variable {X : Cx} {CX : CXT} {k : Nat} {f C : Addr} {fd : FuncData} {ps ks : List Str} {sp : Sp} {E : XK} {x m : Str} {p pos apos kpos : Pos} {e o : Expr} {es : List Expr} {kws : List Keyword} {te ta : TE} {t tk : TA} {nm : Option Str}

variable {g : List Value → List Value → List Value} {gV : List V → List V → List V}
end

/-! ### a def's body keeps its promise -/
structure FnScope (N P : List Str) (sc : Scope) : Prop where
  kind : sc.kind = .function
  co : sc.isCoroutine = false
  gen : sc.isGenerator = false
  nd : N.Nodup
  pre : N.take P.length = P
  par : ∀ x ∈ P, sc.names.lookup x = some .local ∨ sc.names.lookup x = some .cell
  nofree : ∀ y ∈ sc.names, y.2 ≠ .free

theorem bindL_out {kindOf : Str → Option NameKind} {x : Str} : ∀ {binds : List (Str × Value)} {m : Str → Option Value}, (∀ v, (x, v) ∉ binds) → bindL kindOf binds m x = m x
  | [], _, _ => rfl
  | (n, v) :: r, m, h => by
    unfold bindL
    rw [bindL_out fun w hw => h w (List.mem_cons_of_mem _ hw)]
    split
    · have : x ≠ n := by rintro rfl; exact h v List.mem_cons_self
      simp [this]
    · rfl
theorem bindC_out {kindOf : Str → Option NameKind} {x : Str} : ∀ {binds : List (Str × Value)} {m : Str → Option Value}, (∀ v, (x, v) ∉ binds) → bindC kindOf binds m x = m x
  | [], _, _ => rfl
  | (n, v) :: r, m, h => by
    unfold bindC
    rw [bindC_out fun w hw => h w (List.mem_cons_of_mem _ hw)]
    split
    · rfl
    · have : x ≠ n := by rintro rfl; exact h v List.mem_cons_self
      simp [this]
theorem bindL_get {kindOf : Str → Option NameKind} {x : Str} {v : Value} : ∀ {P : List Str} {vs : List Value} {i : Nat} {m : Str → Option Value}, P.Nodup → P[i]? = some x → vs[i]? = some v → kindOf x = some .local →
    bindL kindOf (P.zip vs) m x = some v
  | [], _, _, _, _, h, _, _ => by simp at h
  | _ :: _, [], _, _, _, _, h, _ => by simp at h
  | p :: P, w :: vs, 0, m, nd, h1, h2, hk => by
    simp at h1 h2; subst h1; subst h2
    show bindL kindOf ((p, w) :: P.zip vs) m p = _
    unfold bindL
    rw [bindL_out fun v hv => (List.nodup_cons.mp nd).1 (List.of_mem_zip hv).1, if_pos hk]
    simp
  | p :: P, w :: vs, i + 1, m, nd, h1, h2, hk => by
    show bindL kindOf ((p, w) :: P.zip vs) m x = _
    unfold bindL
    exact bindL_get (i := i) (List.nodup_cons.mp nd).2 (by simpa using h1) (by simpa using h2) hk
theorem bindC_get {kindOf : Str → Option NameKind} {x : Str} {v : Value} : ∀ {P : List Str} {vs : List Value} {i : Nat} {m : Str → Option Value}, P.Nodup → P[i]? = some x → vs[i]? = some v → kindOf x ≠ some .local →
    bindC kindOf (P.zip vs) m x = some v
  | [], _, _, _, _, h, _, _ => by simp at h
  | _ :: _, [], _, _, _, _, h, _ => by simp at h
  | p :: P, w :: vs, 0, m, nd, h1, h2, hk => by
    simp at h1 h2; subst h1; subst h2
    show bindC kindOf ((p, w) :: P.zip vs) m p = _
    unfold bindC
    rw [bindC_out fun v hv => (List.nodup_cons.mp nd).1 (List.of_mem_zip hv).1, if_neg hk]
    simp
  | p :: P, w :: vs, i + 1, m, nd, h1, h2, hk => by
    show bindC kindOf ((p, w) :: P.zip vs) m x = _
    unfold bindC
    exact bindC_get (i := i) (List.nodup_cons.mp nd).2 (by simpa using h1) (by simpa using h2) hk

noncomputable def start (N : List Str) (vs : List V) : St := vs.map some ++ List.replicate (N.length - vs.length) none

noncomputable def cxOf (CX : CXT) (P : Program) (w : World) (K : PySem.W.Frag) (mg : Str → Option Value) (base : Heap) (N : List Str) (qual : Str) (scope : Scope) (f : Addr) (cd : Value) (A : Around) (outer : List Env) (s : Shared) (H : Hp) (E : XK) : Cx where
  prog := P
  w := w
  K := K
  mg := mg
  base := base
  A := A.deeper (envOfC qual scope s.heap.objs.size f cd)
  N := N
  s₀ := s
  H₀ := H
  env := envOfC qual scope s.heap.objs.size f cd
  outer := outer
  stack := envOfC qual scope s.heap.objs.size f cd :: outer
  ex := []
  calm := true
  fn := fun _ => true
  pn := []
  xe := fun e s' => wpAny (model P w) (A.deeper (envOfC qual scope s.heap.objs.size f cd)) (leaving (envOfC qual scope s.heap.objs.size f cd) e) (fun _ s'' => CX outer H s E e s'') (fun e' s'' => CX outer H s E e' s'') s'

theorem cell_has {sc : Scope} {n : Nat} {x : Str} (h : sc.names.lookup x = some .cell) : ∃ c, (cellsFrom n sc.names []).lookup x = some c := by
  have q := PySem.W.cellsFrom_some sc.names n [] (.inl h)
  exact Option.isSome_iff_exists.mp q

theorem inv_start {CX : CXT} {P : Program} {w : World} {K : PySem.W.Frag} {mg : Str → Option Value} {base : Heap} {N ps : List Str} {qual : Str} {scope : Scope} {f : Addr} {cd : Value} {A : Around} {outer : List Env} {s s1 : Shared} {H : Hp} {E : XK} {us : List Value} {vs : List V}
    (S : FnScope N ps scope) (hd : A.handled = none) (e0 : Env0 P w K mg base A outer s H) (hl : vs.length = ps.length) (r : Vals vs us)
    (x : InCallC s s.heap.objs.size (bindL (envOfC qual scope s.heap.objs.size f cd).kindOf (ps.zip us) fun _ => none) (cellsFrom (s.heap.objs.size + 1) scope.names []) (bindC (envOfC qual scope s.heap.objs.size f cd).kindOf (ps.zip us) fun _ => none) s1) :
    Inv (cxOf CX P w K mg base N qual scope f cd A outer s H E) [] (start N vs) H s1 := by
  have hpl : ps.length ≤ N.length := by have := congrArg List.length S.pre; rw [List.length_take] at this; omega
  obtain ⟨h1, tk, rfl, hk⟩ := x.done
  have noA : ∀ b : Addr, b ∉ (cxOf CX P w K mg base N qual scope f cd A outer s H E).ex := fun b z => absurd (show b ∈ ([] : List Addr) from z) (by simp)
  refine ⟨⟨e0.mod, S.kind, rfl, rfl, Nat.le_refl _, fun y z c h1 h2 => ?_, fun y hy => ?_, fun y c _ h => ?_, fun _ => hd, Around.frames_deeper e0.frames, .inr ⟨rfl, rfl⟩, fun b z => absurd z (noA b), e0.bs, e0.bsz, fun b _ _ => noA b, fun b z => absurd z (noA b), e0.funs, e0.frf⟩,
    rfl, e0.bare, Un.kept hk, ⟨_, x.toInCall.ns, fun i y v h1 h2 h3 => ?_⟩, fun y c h => ⟨_, x.cell y c h⟩, e0.hok.fresh (Nat.le_refl _), fun y c h => ?_, fun p hp => absurd (show p ∈ ([] : List (Addr × Obj)) from hp) (by simp), e0.hok.kept hk, ?_⟩
  · exact name_of_addr x.apart (PySem.mem_of_lookup h1) (PySem.mem_of_lookup h2)
  · have hy : scope.names.lookup y = some .cell ∨ scope.names.lookup y = some .free := hy
    rcases hy with hy | hy
    · exact cell_has hy
    · exact absurd rfl (S.nofree _ (PySem.mem_of_lookup hy))
  · exact Nat.le_of_lt (x.above y c (PySem.mem_of_lookup h))
  · have hi : i < vs.length := by
      unfold start at h2
      by_cases hi : i < vs.length
      · exact hi
      · rw [List.getElem?_append_right (by simpa using hi)] at h2
        rw [List.getElem?_replicate] at h2
        split at h2 <;> cases h2
    have ha : vs[i]? = some v := by
      unfold start at h2
      rw [List.getElem?_append_left (by simpa using hi), List.getElem?_map] at h2
      cases e : vs[i]? with
      | none => rw [e] at h2; cases h2
      | some a => rw [e] at h2; cases h2; rfl
    obtain ⟨u, hu, rv⟩ := r.get ha
    have hp : ps[i]? = some y := by
      rw [← S.pre, List.getElem?_take_of_lt (by omega)]; exact h1
    have ndP : ps.Nodup := by rw [← S.pre]; exact S.nd.sublist (List.take_sublist _ _)
    refine ⟨u, rv, ?_⟩
    rcases S.par y (List.mem_of_getElem? hp) with k | k
    · exact .inl ⟨k, bindL_get ndP hp hu k⟩
    · obtain ⟨c, e⟩ := cell_has (n := s.heap.objs.size + 1) k
      refine .inr ⟨.inl k, c, e, ?_⟩
      have q := x.cell y c e
      rw [bindC_get ndP hp hu (by show scope.names.lookup y ≠ _; rw [k]; decide)] at q
      exact q
  · exact e0.hok.fresh (Nat.le_of_lt (x.above y c (PySem.mem_of_lookup h)))
  · unfold start
    show _ = N.length
    rw [List.length_append, List.length_map, List.length_replicate]
    omega

theorem fn_of {CX : CXT} {P : Program} {w : World} {K : PySem.W.Frag} {mg : Str → Option Value} {base : Heap} {k : Nat} {f : Addr} {name qual : Str} {params : Arguments} {body : List Stmt} {scope : Scope} {dV kV doc pm cdv ct oc : Value} {an od : Option Addr}
    {osl : Array (Option Value)} {N ps : List Str} {sp : Sp} (lk : K.lookup f = some ⟨oc, od, .func (PySem.W.fnOf name qual params body scope dV kV doc pm an cdv ct), osl⟩) (hcd : PySem.W.codeIn K cdv qual = true) (S : FnScope N ps scope)
    (len : ∀ vs H Q E, sp vs H Q E → vs.length = ps.length)
    (hbody : ∀ (A : Around) (outer : List Env) (s : Shared) (H : Hp) (vs : List V) (Q : VK) (E : XK), Room k (A.deeper (envOfC qual scope s.heap.objs.size f cdv)) → sp vs H Q E →
      ∃ t, PSs (cxOf CX P w K mg base N qual scope f cdv A outer s H E) body t ∧ t { nx := fun _ H' => Q .non H', rt := Q } (start N vs) H) :
    FnOk P w K mg base CX (k + 1) f (PySem.W.fnOf name qual params body scope dV kV doc pm an cdv ct) ps sp := by
  refine ⟨len, fun A outer s H args us vs Q E hr e0 hb r hsp => ?_⟩
  have hl := len _ _ _ _ hsp
  have KX : K.In s.heap := e0.mod.kin.keeps fun b o e => (e0.bs b o e).1
  have lim : s.heap.NoLimit := e0.mod.nolimit.keeps fun b o e => (e0.bs b o e).1
  have hkind : ∀ y ∈ ps.zip us, scope.names.lookup y.1 = some .local ∨ (scope.names.lookup y.1 = some .cell ∧ ((cellsFrom (s.heap.objs.size + 1) scope.names []).lookup y.1).isSome = true) := fun ⟨n, v⟩ hy => by
    rcases S.par n (List.of_mem_zip hy).1 with q | q
    · exact .inl q
    · exact .inr ⟨q, PySem.W.cellsFrom_some _ _ _ (.inl q)⟩
  refine codeAny_call_function hr.depth (KX _ _ lk) rfl S.co S.gen rfl (PySem.W.codeRec_of KX hcd) (hb _ _ _ _ ?_)
  refine wpAny_newFunctionEnv_cells S.kind hkind fun env he s1 x => ?_
  subst he
  refine ⟨lim.keeps x.toInCall.keep, codeAny_func ?_⟩
  obtain ⟨t, ht, hq⟩ := hbody A outer s H vs Q E (hr.deeper _) hsp
  have I : Inv (cxOf CX P w K mg base N qual scope f cdv A outer s H E) [] (start N vs) H s1 := inv_start S hr.hd e0 hl r x
  refine wpAny_mono (ht [] s1 (start N vs) H _ I hq) (fun fl s' hs => ?_) fun e s' hs => hs
  have fin : ∀ {σ' : St} {H' : Hp} {v : V} {u : Value}, Inv (cxOf CX P w K mg base N qual scope f cdv A outer s H E) [] σ' H' s' → RelV v u → Q v H' → CE outer P w H s Q u s' :=
    fun {σ' H' v u} J rv q => ⟨v, H', J.os, J.bare, J.base, J.hok, rv, q⟩
  cases fl with
  | ret u =>
    obtain ⟨v, σ', H', J, rv, q⟩ := hs
    exact fin J rv q
  | next =>
    obtain ⟨σ', H', J, q⟩ := hs
    exact fin (v := V.non) (u := Value.none) J rfl q
  | brk =>
    obtain ⟨_, _, _, q⟩ := hs
    exact False.elim q
  | cont =>
    obtain ⟨_, _, _, q⟩ := hs
    exact False.elim q
end L2

namespace L2
open PySem PySem.Spec PyProof.Rows
section
variable {X : Cx} {x : Str} {p pos : Pos} {e : Expr} {es : List Expr} {t : TA} {id T : String} {r : List V → Hp → VK → Prop}

noncomputable def tCB (r : List V → Hp → VK → Prop) (t : TA) : TE := fun σ H Q => t σ H fun vs H1 => r vs H1 Q
theorem pe_callB (hc : CallR X (.builtin id) r) (hg : Gl X x) (hm : X.mg x = none) (hv : bootBuiltins x = some (.builtin id)) (ha : PA X (e :: es) t) (hn : x ≠ "__name__" := by decide) (hdb : (x == ("__debug__" : Str)) = false := by decide)
    (he : starEach (e :: es) X.env = (false, eval e X.env) :: starEach es X.env := by rfl) (hpl : (backTo pos (starEach es X.env)).any (·.1) = false := by rfl) : PE X (.Call (.Name x p) (e :: es) [] pos) (tCB r t) := by
  intro pins s σ H Q I h
  refine wpAny_Call_Name_kw (ld_blt I hg hm hv ?_ hn hdb)
  exact PyProof.Rows.callWith_builtin1 (thn (ha pos pins s σ H _ I h) fun us s1 zz => L2.el5 zz fun vs H1 I1 r1 q1 => hc pins s1 σ H1 vs us Q I1 r1 q1) he hpl
theorem pe_callTy (hc : CallR X (.type T) r) (hg : Gl X x) (hm : X.mg x = none) (hv : bootBuiltins x = some (.type T)) (ha : PA X (e :: es) t) (hn : x ≠ "__name__" := by decide) (hdb : (x == ("__debug__" : Str)) = false := by decide)
    (he : starEach (e :: es) X.env = (false, eval e X.env) :: starEach es X.env := by rfl) (hpl : (backTo pos (starEach es X.env)).any (·.1) = false := by rfl) : PE X (.Call (.Name x p) (e :: es) [] pos) (tCB r t) := by
  intro pins s σ H Q I h
  refine wpAny_Call_Name_kw (ld_blt I hg hm hv ?_ hn hdb)
  exact PyProof.Rows.callWith_type1 (thn (ha pos pins s σ H _ I h) fun us s1 zz => L2.el5 zz fun vs H1 I1 r1 q1 => hc pins s1 σ H1 vs us Q I1 r1 q1) he hpl
end
end L2

namespace HT
open PySem PyProof.Rows



section
open PySem.SeqAt
open PySem.AutoSeq1 (wpAny_loadPart')
open PySem.MeetsSeq PySem.MeetsSeq2 PySem.MeetsSeq3

end

section
variable {prog : Program} {w : World} {A : Around} {E : Value → Shared → Prop} {s : Shared}



/-! ### t[a:b], not the whole -/
noncomputable def sIx (n d : Nat) : Option Int → Nat
  | none => d
  | some v => if v < 0 then (v + (n : Int)).toNat else min v.toNat n
theorem sIx_none (n d : Nat) : sIx n d none = d := rfl
theorem sIx_nat (n d k : Nat) : sIx n d (some (k : Int)) = min k n := by
  show (if (k : Int) < 0 then ((k : Int) + (n : Int)).toNat else min (k : Int).toNat n) = min k n
  rw [if_neg (by omega), Int.toNat_natCast]
theorem sIx_le (n d : Nat) (hd : d ≤ n) (o : Option Int) : sIx n d o ≤ n := by
  cases o with
  | none => exact hd
  | some v =>
    show (if v < 0 then (v + (n : Int)).toNat else min v.toNat n) ≤ n
    by_cases hv : v < 0
    · rw [if_pos hv]; omega
    · rw [if_neg hv]; exact Nat.min_le_right _ _
theorem clip_eq (v : Int) (n d : Nat) : (if v < 0 then max (v + (n : Int)) 0 else min v (n : Int)) = ((sIx n d (some v) : Nat) : Int) := by
  show (if v < 0 then max (v + (n : Int)) 0 else min v (n : Int)) = (((if v < 0 then (v + (n : Int)).toNat else min v.toNat n) : Nat) : Int)
  by_cases hv : v < 0
  · simp only [if_pos hv]; omega
  · simp only [if_neg hv]; omega
theorem adjust_gen (lo hi : Option Int) (n : Nat) : Builtin.Slice.sliceAdjust lo hi 1 (n : Int) = (((sIx n 0 lo : Nat) : Int), ((sIx n n hi : Nat) : Int)) := by
  have h1 : ¬ ((1 : Int) < 0) := by omega
  unfold Builtin.Slice.sliceAdjust
  simp only [h1, if_false]
  refine Prod.ext ?_ ?_
  · cases lo with
    | none => rfl
    | some v => exact clip_eq v n 0
  · cases hi with
    | none => rfl
    | some v => exact clip_eq v n n
theorem places_gen (i j : Nat) : Builtin.Slice.slicePlaces (i : Int) (j : Int) 1 = j - i := by
  unfold Builtin.Slice.slicePlaces
  have h1 : (1 : Int) > 0 := by omega
  simp only [h1, if_true, Int.ediv_one]
  split <;> omega
theorem slicePart_ {v : Value} {o : Option Int} {Q : Option Int → Shared → Prop} (p : IsPart v o) (h : Q o s) : wpAny (model prog w) A (Builtin.Slice.slicePartIndex v) Q E s := by
  cases p with
  | none => exact slicePart_none h
  | int i t => exact slicePart_int h
theorem sliceApplied_gen {sl : Addr} {vl vu : Value} {lo hi : Option Int} {n : Nat} {Q : Int × Int × Nat → Shared → Prop} (hs : s.heap.IsSliceOf sl vl vu .none) (pl : IsPart vl lo) (pu : IsPart vu hi)
    (h : Q (((sIx n 0 lo : Nat) : Int), 1, sIx n n hi - sIx n 0 lo) s) : wpAny (model prog w) A (Builtin.Slice.sliceApplied (.ref sl) (pure (n : Int))) Q E s := by
  obtain ⟨os, hos, hcs, hds⟩ := id hs
  unfold Builtin.Slice.sliceApplied Builtin.Slice.sliceFields
  refine wpAny_bind (wpAny_bind (wpAny_field hos hds (x := vl) rfl (wpAny_bind (wpAny_field hos hds (x := vu) rfl (wpAny_bind (wpAny_field hos hds (x := .none) rfl (wpAny_pure ?_)))))))
  refine wpAny_bind (slicePart_none ?_)
  show wpAny _ _ (if ((1 : Int) == 0) = true then _ else _) _ _ s
  rw [if_neg (by decide)]
  refine wpAny_bind (slicePart_ pl (wpAny_bind (slicePart_ pu (wpAny_bind (wpAny_pure ?_)))))
  show wpAny _ _ (match Builtin.Slice.sliceAdjust lo hi 1 (n : Int) with | (lo, hi) => pure (lo, (1 : Int), Builtin.Slice.slicePlaces lo hi 1)) _ _ s
  rw [adjust_gen lo hi n]
  show wpAny _ _ (pure (((sIx n 0 lo : Nat) : Int), (1 : Int), Builtin.Slice.slicePlaces ((sIx n 0 lo : Nat) : Int) ((sIx n n hi : Nat) : Int) 1)) _ _ s
  rw [places_gen]
  exact wpAny_pure h
theorem pick_gen (xs : Array Value) (i k : Nat) : ((List.range k).filterMap fun (m : Nat) => xs[((i : Int) + (m : Int) * 1).toNat]?).toArray = ((xs.toList.drop i).take k).toArray := by
  have e : (fun (m : Nat) => xs[((i : Int) + (m : Int) * 1).toNat]?) = fun m => xs[i + m]? := by
    funext m
    have : ((i : Int) + (m : Int) * 1).toNat = i + m := by omega
    rw [this]
  rw [e]
  have := pick_run xs i k
  rw [List.filterMap_map] at this
  have e2 : ((fun x => xs[x]?) ∘ fun x => i + x) = fun m => xs[i + m]? := rfl
  rw [e2] at this
  rw [this]

theorem getItem_tuple_cut {t sl : Addr} {items : Array Value} {vl vu : Value} {lo hi : Option Int} {Q : Value → Shared → Prop} (ht : IsTup s.heap t items) (hs : s.heap.IsSliceOf sl vl vu .none) (pl : IsPart vl lo) (pu : IsPart vu hi)
    (hw : ¬ (sIx items.size 0 lo = 0 ∧ sIx items.size items.size hi = items.size))
    (h : Q (.ref s.heap.objs.size) { s with heap := s.heap.push { cls := .type "tuple", data := .seq ((items.toList.drop (sIx items.size 0 lo)).take (sIx items.size items.size hi - sIx items.size 0 lo)).toArray } })
    (hsz : items.size ≤ sizeLine) : wpAny (model prog w) A (getItem (.ref t) (.ref sl)) Q E s := by
  have htake : sizeOk (.seq ((items.toList.drop (sIx items.size 0 lo)).take (sIx items.size items.size hi - sIx items.size 0 lo)).toArray) := by
    show ((items.toList.drop (sIx items.size 0 lo)).take (sIx items.size items.size hi - sIx items.size 0 lo)).toArray.size ≤ sizeLine
    rw [List.size_toArray, List.length_take, List.length_drop, Array.length_toList]
    omega
  have hj : sIx items.size items.size hi ≤ items.size := sIx_le _ _ (Nat.le_refl _) hi
  obtain ⟨os, hos, hcs, hds⟩ := id hs
  have hTs : s.TypeIs (.ref sl) "slice" := ⟨os, hos, hcs⟩
  unfold getItem
  try with_reducible refine wpAny_holding ?_
  first | refine wpAny_bind (wpAny_pure ?_) | skip
  refine wpAny_bind (wpAny_sequenceKey ht.typeIs (by decide) ?_)
  refine wpAny_bind (wpAny_callSpecial?_slot (name := Str.ofString "__getitem__") ht.typeIs PyProof.Rows.slot_tuple_getitem
    (wpAny_call_entry PyProof.Rows.slot_tuple_getitem ht.typeIs entry_tuple_getitem ?_ (args_tuple_getitem _ _)))
  show wpAny _ _ (Builtin.Tuple.tupleItemsOf (.ref t) >>= _) _ _ s
  refine wpAny_bind (tupleItemsOf_ ht ?_)
  refine wpAny_bind (wpAny_typeOf hTs ?_)
  rw [if_pos (by decide)]
  refine wpAny_bind (sliceApplied_gen hs pl pu ?_)
  have hno : ¬ ((((sIx items.size 0 lo : Nat) : Int) == 0 && (1 : Int) == 1 && (sIx items.size items.size hi - sIx items.size 0 lo) == items.size) = true) := by
    intro q
    rw [Bool.and_eq_true, Bool.and_eq_true] at q
    have q1 : ((sIx items.size 0 lo : Nat) : Int) = 0 := eq_of_beq q.1.1
    have q2 : sIx items.size items.size hi - sIx items.size 0 lo = items.size := eq_of_beq q.2
    exact hw ⟨by omega, by omega⟩
  show wpAny _ _ (if (((sIx items.size 0 lo : Nat) : Int) == 0 && (1 : Int) == 1 && (sIx items.size items.size hi - sIx items.size 0 lo) == items.size) = true then _ else _) _ _ s
  rw [if_neg hno, pick_gen]
  first
    | exact wpAny_bind (m := Builtin.Tuple.tupleExact _) (wpAny_newObj_type (wpAny_pure ⟨_, rfl, wpAny_pure h⟩) htake)
    | exact wpAny_bind (m := Builtin.Tuple.tupleExact _) (wpAny_newObj_type (wpAny_bind (wpAny_pure (wpAny_pure ⟨_, rfl, wpAny_pure h⟩))) htake)
    | exact wpAny_bind (wpAny_bind (m := Builtin.Tuple.tupleExact _) (wpAny_newObj_type (wpAny_pure (wpAny_pure ⟨_, rfl, wpAny_pure h⟩)) htake))
    | exact wpAny_bind (wpAny_bind (m := Builtin.Tuple.tupleExact _) (wpAny_newObj_type (wpAny_pure ⟨_, rfl, wpAny_pure h⟩) htake))
end
end HT

namespace L2
open PySem PySem.Spec PyProof.Rows

/-! ### the parts of a slice -/
noncomputable abbrev TO := St → Hp → (Option Int → Hp → Prop) → Prop
noncomputable def PO (X : Cx) (e : Option Expr) (t : TO) : Prop :=
  ∀ (pins : List (Addr × Obj)) (s : Shared) (σ : St) (H : Hp) (Q : Option Int → Hp → Prop), Inv X pins σ H s → t σ H Q →
    wpAny (model X.prog X.w) X.A (evalPart e X.env) (fun u s' => ∃ o H', Inv X pins σ H' s' ∧ IsPart u o ∧ Q o H') X.xe s
noncomputable def tNoPart : TO := fun _ H Q => Q none H
noncomputable def tPart (t : TE) : TO := fun σ H Q => t σ H fun x H1 => ∃ i, x = .int i ∧ Q (some i) H1


section
variable {X : Cx} {e : Expr} {te : TE} {lo hi : Option Expr} {tl th : TO} {pos p2 : Pos}

theorem po_none : PO X none tNoPart := by
  intro pins s σ H Q I h
  rw [evalPart_none]
  exact wpAny_pure ⟨none, H, I, .none, h⟩
theorem po_some (h : PE X e te) : PO X (some e) (tPart te) := by
  intro pins s σ H Q I hw
  rw [evalPart_some]
  refine thn (h pins s σ H _ I hw) fun u s1 zz => ?_
  obtain ⟨x, H1, I1, r1, q1⟩ := zz
  obtain ⟨i, rfl, q⟩ := q1
  obtain ⟨t, rfl⟩ := r1
  exact ⟨some i, H1, I1, .int i t, q⟩

noncomputable def SlR (X : Cx) (r : V → Option Int → Option Int → Hp → VK → Prop) : Prop :=
  ∀ (pins : List (Addr × Obj)) (s : Shared) (σ : St) (H : Hp) (x : V) (v vl vu : Value) (lo hi : Option Int) (sl : Addr) (Q : VK), Inv X pins σ H s → RelV x v → s.heap.IsSliceOf sl vl vu .none → IsPart vl lo → IsPart vu hi → r x lo hi H Q →
    ∃ T id, typeLookup (.type T) "__getitem__" = pure (some (.builtin id)) ∧ s.TypeIs v T ∧ wpAny (model X.prog X.w) X.A (getItem v (.ref sl)) (EP X pins σ Q) X.xe s
noncomputable def tSl (r : V → Option Int → Option Int → Hp → VK → Prop) (te : TE) (tl th : TO) : TE := fun σ H Q => te σ H fun x H1 => tl σ H1 fun l H2 => th σ H2 fun u H3 => r x l u H3 Q
theorem pe_slice {r : V → Option Int → Option Int → Hp → VK → Prop} (hr : SlR X r) (he : PE X e te) (hl : PO X lo tl) (hu : PO X hi th) : PE X (.Subscript e (.Slice lo hi none p2) pos) (tSl r te tl th) := by
  intro pins s σ H Q I h
  refine Subscript_ (thn (he pins s σ H _ I h) fun v s1 zz => ?_)
  obtain ⟨x, H1, I1, r1, q1⟩ := zz
  refine wpAny_Slice (thn (hl pins s1 σ H1 _ I1 q1) fun vl s2 zz => L2.el5 zz fun l H2 I2 pl q2 => thn (hu pins s2 σ H2 _ I2 q2) fun vu s3 zz => ?_)
  obtain ⟨u, H3, I3, pu, q3⟩ := zz
  rw [evalPart_none]
  refine wpAny_pure ?_
  have I4 : Inv X pins σ H3 { s3 with heap := s3.heap.push { cls := .type "slice", data := .fields #[vl, vu, .none] } } := I3.kept (t' := s3.toks) fun b ob q => Heap.get?_push_of_some _ q
  obtain ⟨T, id, hT, ht, hg⟩ := hr pins { s3 with heap := s3.heap.push { cls := .type "slice", data := .fields #[vl, vu, .none] } } σ H3 x v vl vu l u s3.heap.objs.size Q I4 r1 (Heap.IsSliceOf.new ..) pl pu q3
  show wpAny (model X.prog X.w) X.A (subscriptTail e (.Slice lo hi none p2) v (.ref s3.heap.objs.size)) (EP X pins σ Q) X.xe { s3 with heap := s3.heap.push { cls := .type "slice", data := .fields #[vl, vu, .none] } }
  exact tail_any (ops := [.ref s3.heap.objs.size, v]) ht hT hg (by with_unfolding_all rfl)

noncomputable def cutV (xs : List V) (lo hi : Option Int) : List V := (xs.drop (HT.sIx xs.length 0 lo)).take (HT.sIx xs.length xs.length hi - HT.sIx xs.length 0 lo)
theorem cutV_length (xs : List V) (lo hi : Option Int) : (cutV xs lo hi).length ≤ xs.length := by
  unfold cutV
  rw [List.length_take, List.length_drop]
  omega
noncomputable def rSlT (K : PySem.W.Frag) : V → Option Int → Option Int → Hp → VK → Prop := fun x lo hi H Q => ∃ a xs, x = .ref a ∧ SqT K H a xs ∧
  ¬ (HT.sIx xs.length 0 lo = 0 ∧ HT.sIx xs.length xs.length hi = xs.length) ∧ ∀ p, H p = none → Q (.ref p) (upd H p (.tup (cutV xs lo hi)))
theorem sl_tup : SlR X (rSlT X.K) := by
  intro pins s σ H x v vl vu lo hi sl Q I rx hs pl pu h
  obtain ⟨a, xs, rfl, hx, hw, q⟩ := h
  cases rx
  obtain ⟨its, r, ht, hz⟩ := I.tuple hx
  have hlen : its.toArray.size = xs.length := by rw [List.size_toArray]; exact r.length.symm
  refine ⟨"tuple", _, PyProof.Rows.slot_tuple_getitem.lookup, ht.typeIs, ?_⟩
  refine HT.getItem_tuple_cut ht hs pl pu (by rw [hlen]; exact hw) ?_ (by rw [hlen]; exact hz)
  rw [hlen]
  refine ⟨.ref s.heap.objs.size, _, I.laid (t' := s.toks) (o := .tup (cutV xs lo hi)) (fun b ob q => Heap.get?_push_of_some _ q) (Nat.le_refl _) ?_, rfl, q _ (I.hok.fresh (Nat.le_refl _))⟩
  exact ⟨Nat.le_trans (cutV_length xs lo hi) hz, _, (r.drop (HT.sIx xs.length 0 lo)).take (HT.sIx xs.length xs.length hi - HT.sIx xs.length 0 lo), IsTup.new _ _⟩

/-! ### t < u, t + u -/
end
end L2

namespace L2
open PySem PySem.Spec PyProof.Rows

/-! ### places -/
noncomputable def ixN (n : Nat) (i : Int) : Option Nat := if 0 ≤ i then (if i < n then some i.toNat else none) else if -(n : Int) ≤ i then some (i + n).toNat else none
noncomputable def atI {α : Type} (xs : List α) (i : Int) : Option α := (ixN xs.length i).bind fun j => xs[j]?
theorem ixN_seq {n : Nat} {i : Int} {j : Nat} (h : ixN n i = some j) : seqIndex? i n = some j ∧ j < n ∧ -(n : Int) ≤ i ∧ i < n := by
  unfold ixN at h
  by_cases h0 : 0 ≤ i
  · rw [if_pos h0] at h
    by_cases h1 : i < n
    · rw [if_pos h1] at h
      have e : i.toNat = j := Option.some.inj h
      exact ⟨by rw [seqIndex_of h0 h1, e], by omega, by omega, h1⟩
    · rw [if_neg h1] at h; cases h
  · rw [if_neg h0] at h
    by_cases h1 : -(n : Int) ≤ i
    · rw [if_pos h1] at h
      have e : (i + n).toNat = j := Option.some.inj h
      exact ⟨by rw [seqIndex_neg (by omega) h1, e], by omega, h1, by omega⟩
    · rw [if_neg h1] at h; cases h
theorem atI_get {α : Type} {xs : List α} {i : Int} {v : α} (h : atI xs i = some v) : ∃ j, seqIndex? i xs.length = some j ∧ xs[j]? = some v ∧ j < xs.length ∧ -(xs.length : Int) ≤ i ∧ i < xs.length := by
  unfold atI at h
  cases e : ixN xs.length i with
  | none => rw [e] at h; cases h
  | some j =>
    rw [e] at h
    obtain ⟨h1, h2, h3, h4⟩ := ixN_seq e
    exact ⟨j, h1, h, h2, h3, h4⟩
theorem atI_nat {α : Type} {xs : List α} {j : Nat} {v : α} (h : xs[j]? = some v) : atI xs (j : Int) = some v := by
  have hj : j < xs.length := (List.getElem?_eq_some_iff.mp h).1
  have e : ixN xs.length (j : Int) = some j := by
    unfold ixN
    rw [if_pos (by omega), if_pos (by omega)]; simp
  unfold atI; rw [e]; exact h

/-! ### what may be subscripted -/
noncomputable def PlainIx (b : Expr) : Prop := ∀ o i, subscripted b false o i = operate [o, i] (getItem o i)
noncomputable def IxR (X : Cx) (r : R2) : Prop :=
  ∀ (value slice : Expr) (pins : List (Addr × Obj)) (s : Shared) (σ : St) (H : Hp) (x y : V) (v u : Value) (Q : VK), Inv X pins σ H s → RelV x v → RelV y u → r x y H Q →
    subscripted slice false v u = operate [v, u] (getItem v u) → wpAny (model X.prog X.w) X.A (subscriptTail value slice v u) (EP X pins σ Q) X.xe s
noncomputable def MtR (X : Cx) (id : String) (r : V → List V → Hp → VK → Prop) : Prop :=
  ∀ (pins : List (Addr × Obj)) (s : Shared) (σ : St) (H : Hp) (x : V) (xs : List V) (v : Value) (us : List Value) (Q : VK), Inv X pins σ H s → RelV x v → Vals xs us → r x xs H Q →
    wpAny (model X.prog X.w) X.A (call (.builtin id) (v :: us)) (EP X pins σ Q) X.xe s
section
variable {X : Cx} {a b : Expr} {ta tb : TE} {pos : Pos}
theorem pe_ix {r : R2} (hr : IxR X r) (ha : PE X a ta) (hb : PE X b tb) (hs : PlainIx b) : PE X (.Subscript a b pos) (tOp r ta tb) := by
  intro pins s σ H Q I h
  exact Subscript_ (binT ha hb I h fun v u s2 x y H2 I2 rx ry q => hr a b pins s2 σ H2 x y v u Q I2 rx ry q (hs _ _))

noncomputable def rIxL (K : PySem.W.Frag) : R2 := fun x y H Q => ∃ p xs i v, x = .ref p ∧ y = .int i ∧ SqL K H p xs ∧ atI xs i = some v ∧ Q v H
noncomputable def rIxT (K : PySem.W.Frag) : R2 := fun x y H Q => ∃ p xs i v, x = .ref p ∧ y = .int i ∧ SqT K H p xs ∧ atI xs i = some v ∧ Q v H
theorem ix_list : IxR X (rIxL X.K) := by
  intro value slice pins s σ H x y v u Q I rx ry h hs
  obtain ⟨p, xs, i, z, rfl, rfl, hq, he, q⟩ := h
  cases rx
  obtain ⟨t, rfl⟩ := ry
  obtain ⟨its, r, pl, hz⟩ := I.list hq
  obtain ⟨j, h1, h2, h3, h4, h5⟩ := atI_get he
  obtain ⟨w, ew, rw'⟩ := r.get h2
  have hl := r.length
  have hn := line63
  have fin : EP X pins σ Q w s := ⟨z, H, I, rw', q⟩
  by_cases h0 : 0 ≤ i
  · have hj : i.toNat = j := by
      rw [seqIndex_of h0 h5] at h1
      exact Option.some.inj h1
    exact item_listR pl.isList h0 (by omega) (by rw [hj]; simpa using ew) fin hs
  · have hj : (i + (its.toArray.size : Int)).toNat = j := by
      rw [seqIndex_neg (by omega) h4] at h1
      rw [List.size_toArray, ← hl]
      exact Option.some.inj h1
    exact subscriptTail_builtinR (x := w) pl.isList.typeIs slot_list_getitem.lookup
      (wpAny_getItem_list_neg (Q := fun r s' => r = w ∧ EP X pins σ Q r s') pl.isList (by omega) (by rw [List.size_toArray] <;> omega) (by omega) (by rw [hj]; simpa using ew) ⟨rfl, fin⟩) hs
theorem ix_tup : IxR X (rIxT X.K) := by
  intro value slice pins s σ H x y v u Q I rx ry h hs
  obtain ⟨p, xs, i, z, rfl, rfl, hq, he, q⟩ := h
  cases rx
  obtain ⟨t, rfl⟩ := ry
  obtain ⟨its, r, pl, hz⟩ := I.tuple hq
  obtain ⟨j, h1, h2, h3, h4, h5⟩ := atI_get he
  obtain ⟨w, ew, rw'⟩ := r.get h2
  have hl := r.length
  have hn := line63
  have fin : EP X pins σ Q w s := ⟨z, H, I, rw', q⟩
  exact subscriptTail_builtinR (x := w) pl.typeIs slot_tuple_getitem.lookup
    (getItem_tuple (j := j) (Q := fun r s' => r = w ∧ EP X pins σ Q r s') pl (by omega) (by omega) (by rw [List.size_toArray, ← hl]; exact h1) (by simpa using ew) ⟨rfl, fin⟩) hs

/-! ### xs[i] = v, any sign -/
theorem mapSeq_set (its : List Value) (n j : Nat) (u : Value) : Obj.mapSeq (·.setIfInBounds j u) { cls := .type "list", data := .seq its.toArray n } = { cls := .type "list", data := .seq (its.set j u).toArray n } := by
  simp [Obj.mapSeq]
theorem Inv.lst {pins : List (Addr × Obj)} {σ : St} {H : Hp} {s : Shared} {p : Addr} {xs : List V} (I : Inv X pins σ H s) (h : H p = some (.lst xs)) :
    ∃ (its : List Value) (n : Nat), Vals xs its ∧ s.heap.get? p = some { cls := .type "list", data := .seq its.toArray n } ∧ xs.length ≤ sizeLine := by
  obtain ⟨z, its, n, r, e⟩ := I.hok p _ h
  exact ⟨its, n, r, e, z⟩
theorem Inv.lstUpd {pins : List (Addr × Obj)} {σ : St} {H : Hp} {s : Shared} {p : Addr} {xs ys : List V} {its its' : List Value} {n n' : Nat} {f : Obj → Obj} (I : Inv X pins σ H s) (h : H p = some (.lst xs))
    (ho : s.heap.get? p = some { cls := .type "list", data := .seq its.toArray n }) (hf : f { cls := .type "list", data := .seq its.toArray n } = { cls := .type "list", data := .seq its'.toArray n' }) (r : Vals ys its') (hz : ys.length ≤ sizeLine) (t : Nat) :
    Inv X pins σ (upd H p (.lst ys)) { s with heap := s.heap.update p f, toks := t } := by
  have e : (s.heap.update p f).get? p = some { cls := .type "list", data := .seq its'.toArray n' } := by
    rw [Heap.get?_update_self f ho (by rw [hf] <;> rfl), hf]
  refine I.write (x := p) (e := p) (by rw [h]; trivial) (.inl rfl) (fun b u hb q => (Heap.get?_update_other _ _ (Ne.symm hb)).trans q) ⟨_, e⟩ ?_
  exact ⟨hz, its', n', r, e⟩
noncomputable def rSetL : V → V → V → Hp → (Hp → Prop) → Prop := fun o i v H Q => ∃ p xs k j, o = .ref p ∧ i = .int k ∧ H p = some (.lst xs) ∧ ixN xs.length k = some j ∧ Q (upd H p (.lst (xs.set j v)))
theorem set_list : PSet X rSetL := by
  intro pins s σ H o i v ov iv u Q I ro ri rv h
  obtain ⟨p, xs, k, j, rfl, rfl, hp, hj, q⟩ := h
  cases ro
  obtain ⟨t, rfl⟩ := ri
  obtain ⟨its, n, r, ho, hz⟩ := I.lst hp
  obtain ⟨h1, h2, h3, h4⟩ := ixN_seq hj
  have hl := r.length
  have hn := line63
  have I' : Inv X pins σ (upd H p (.lst (xs.set j v))) { s with heap := s.heap.update p (Obj.mapSeq (·.setIfInBounds j u)) } :=
    I.lstUpd hp ho (mapSeq_set its n j u) (r.set rv j) (by rw [List.length_set]; exact hz) s.toks
  by_cases h0 : 0 ≤ k
  · have hk : k.toNat = j := by
      rw [seqIndex_of h0 h4] at h1
      exact Option.some.inj h1
    exact PySem.W.ki_setAt ho h0 (by omega) (by rw [List.size_toArray, ← hl]; exact h4) (by rw [hk]; exact ⟨_, I', q⟩)
  · have hk : (k + (its.toArray.size : Int)).toNat = j := by
      rw [seqIndex_neg (by omega) h3] at h1
      rw [List.size_toArray, ← hl]
      exact Option.some.inj h1
    exact PySem.W.ki_setBack ho (by omega) (by rw [List.size_toArray, ← hl]; exact h3) (by omega) (by rw [hk]; exact ⟨_, I', q⟩)

/-! ### slices -/
theorem slice_bounds (lo hi : Option Int) (n : Nat) : (sliceBounds lo hi none n).1 = ((HT.sIx n 0 lo : Nat) : Int) ∧ (sliceBounds lo hi none n).2.1 = ((HT.sIx n n hi : Nat) : Int) ∧ (sliceBounds lo hi none n).2.2 = 1 := by
  refine ⟨?_, ?_, rfl⟩
  · cases lo with
    | none => simp [sliceBounds, HT.sIx]
    | some i =>
      simp only [sliceBounds, HT.sIx, Option.getD_none, show (1 : Int) > 0 by decide, if_true]
      by_cases h : i < 0
      · simp only [h, if_true] <;> omega
      · simp only [h, if_false] <;> omega
  · cases hi with
    | none => simp [sliceBounds, HT.sIx]
    | some i =>
      simp only [sliceBounds, HT.sIx, Option.getD_none, show (1 : Int) > 0 by decide, if_true]
      by_cases h : i < 0
      · simp only [h, if_true] <;> omega
      · simp only [h, if_false] <;> omega
theorem slicePick_cut (its : List Value) (lo hi : Option Int) : slicePick its.toArray lo hi none = ((its.drop (HT.sIx its.length 0 lo)).take (HT.sIx its.length its.length hi - HT.sIx its.length 0 lo)).toArray := by
  obtain ⟨h1, h2, h3⟩ := slice_bounds lo hi its.toArray.size
  unfold slicePick
  rw [h1, h2, h3]
  simp only [sliceRange_one, pick_run, List.size_toArray] <;> rfl
noncomputable def rSlL (K : PySem.W.Frag) : V → Option Int → Option Int → Hp → VK → Prop := fun x lo hi H Q => ∃ a xs, x = .ref a ∧ SqL K H a xs ∧ ∀ p, H p = none → Q (.ref p) (upd H p (.lst (cutV xs lo hi)))
theorem sl_list : SlR X (rSlL X.K) := by
  intro pins s σ H x v vl vu lo hi sl Q I rx hs pl pu h
  obtain ⟨a, xs, rfl, hx, q⟩ := h
  cases rx
  obtain ⟨its, r, ht, hz⟩ := I.list hx
  have hlen := r.length
  refine ⟨"list", _, slot_list_getitem.lookup, ht.isList.typeIs, ?_⟩
  refine wpAny_getItem_list_slice ht.isList hs pl pu .none (by simp) ?_ (by rw [List.size_toArray] <;> omega)
  rw [slicePick_cut, ← hlen]
  refine ⟨.ref s.heap.objs.size, _, I.laid (t' := s.toks) (o := .lst (cutV xs lo hi)) (fun b ob q => Heap.get?_push_of_some _ q) (Nat.le_refl _) ?_, rfl, q _ (I.hok.fresh (Nat.le_refl _))⟩
  exact ⟨Nat.le_trans (cutV_length xs lo hi) hz, _, 0, (r.drop (HT.sIx xs.length 0 lo)).take (HT.sIx xs.length xs.length hi - HT.sIx xs.length 0 lo), Heap.get?_push_size _ rfl⟩

/-! ### in, not in: flat items -/
noncomputable def flatV : V → Bool
  | .non => true
  | .bl _ => true
  | .int _ => true
  | .str _ => true
  | _ => false
noncomputable def eqV : V → V → Bool
  | .non, .non => true
  | .bl a, .bl b => a == b
  | .bl a, .int b => (if a then 1 else 0) == b
  | .int a, .bl b => a == (if b then 1 else 0)
  | .int a, .int b => a == b
  | .str a, .str b => a == b
  | _, _ => false
theorem eqAt_V {A : Around} {s : Shared} {y x : V} {u v : Value} (ry : RelV y u) (rx : RelV x v) (fy : flatV y = true) (fx : flatV x = true) : SeqAt.EqAt A s u v (eqV y x) := by
  cases y with
  | non =>
    cases ry
    cases x with
    | non => cases rx; exact SeqAt.EqAt.same _
    | bl b => cases rx; exact SeqAt.EqAt.none_bool b
    | int b => obtain ⟨t, rfl⟩ := rx; exact SeqAt.EqAt.none_int b t
    | str b => obtain ⟨t, rfl⟩ := rx; exact SeqAt.EqAt.none_str b t
    | _ => exact absurd (show false = true from fx) Bool.false_ne_true
  | bl a =>
    cases ry
    cases x with
    | non => cases rx; exact SeqAt.EqAt.bool_none a
    | bl b => cases rx; exact SeqAt.EqAt.bool_bool a b
    | int b => obtain ⟨t, rfl⟩ := rx; exact SeqAt.EqAt.bool_int a b t
    | str b => obtain ⟨t, rfl⟩ := rx; exact SeqAt.EqAt.bool_str a b t
    | _ => exact absurd (show false = true from fx) Bool.false_ne_true
  | int a =>
    obtain ⟨t', rfl⟩ := ry
    cases x with
    | non => cases rx; exact SeqAt.EqAt.int_none a t'
    | bl b => cases rx; exact SeqAt.EqAt.int_bool a t' b
    | int b => obtain ⟨t, rfl⟩ := rx; exact SeqAt.EqAt.int_int a t' b t
    | str b => obtain ⟨t, rfl⟩ := rx; exact SeqAt.EqAt.int_str a t' b t
    | _ => exact absurd (show false = true from fx) Bool.false_ne_true
  | str a =>
    obtain ⟨t', rfl⟩ := ry
    cases x with
    | non => cases rx; exact SeqAt.EqAt.str_none a t'
    | bl b => cases rx; exact SeqAt.EqAt.str_bool a t' b
    | int b => obtain ⟨t, rfl⟩ := rx; exact SeqAt.EqAt.str_int a t' b t
    | str b => obtain ⟨t, rfl⟩ := rx; exact SeqAt.EqAt.str_str a t' b t
    | _ => exact absurd (show false = true from fx) Bool.false_ne_true
  | _ => exact absurd (show false = true from fy) Bool.false_ne_true
noncomputable def eqU (x : V) (u : Value) : Bool := match u with
  | .none => eqV .non x
  | .bool b => eqV (.bl b) x
  | .int i _ => eqV (.int i) x
  | .str z _ => eqV (.str z) x
  | _ => false
theorem eqU_of {x y : V} {u : Value} (r : RelV y u) (f : flatV y = true) : eqU x u = eqV y x := by
  cases y with
  | non => cases r; rfl
  | bl b => cases r; rfl
  | int i => obtain ⟨t, rfl⟩ := r; rfl
  | str z => obtain ⟨t, rfl⟩ := r; rfl
  | _ => exact absurd (show false = true from f) Bool.false_ne_true
theorem any_eqU {x : V} {xs : List V} {us : List Value} (h : Vals xs us) (f : xs.all flatV = true) : us.any (eqU x) = xs.any fun y => eqV y x := by
  induction h with
  | nil => rfl
  | cons r t ih =>
    rw [List.all_cons, Bool.and_eq_true] at f
    rw [List.any_cons, List.any_cons, eqU_of r f.1, ih f.2]
theorem mem_eqAt {A : Around} {s : Shared} {x : V} {v : Value} (rx : RelV x v) (fx : flatV x = true) {xs : List V} {us : List Value} (h : Vals xs us) (f : xs.all flatV = true) : ∀ u ∈ us, SeqAt.EqAt A s u v (eqU x u) := by
  induction h with
  | nil => intro u hu; cases hu
  | cons r t ih =>
    intro u' hu
    rw [List.all_cons, Bool.and_eq_true] at f
    rcases List.mem_cons.mp hu with rfl | hu
    · rw [eqU_of r f.1]; exact eqAt_V r rx f.1 fx
    · exact ih f.2 u' hu
noncomputable def inV (x : V) (xs : List V) : Bool := xs.any fun y => eqV y x
noncomputable def rIn (K : PySem.W.Frag) (neg : Bool) : R2 := fun x y H Q => ∃ p xs, y = .ref p ∧ (SqL K H p xs ∨ SqT K H p xs) ∧ flatV x = true ∧ xs.all flatV = true ∧ Q (.bl (if neg then !inV x xs else inV x xs)) H
theorem op_in_seq : OpR X (compareOp .In) (rIn X.K false) := by
  intro pins s σ H x y v u Q I rx ry h
  obtain ⟨p, xs, rfl, hq, fx, fs, q⟩ := h
  cases ry
  rcases hq with hq | hq
  · obtain ⟨its, r, pl, hz⟩ := I.list hq
    refine SeqAt.in_listAt (eqU x) pl.isList (fun w hw => mem_eqAt rx fx r fs w (by simpa using hw)) ⟨.bl _, H, I, rfl, ?_⟩
    rw [show its.toArray.any (eqU x) = its.any (eqU x) by simp, any_eqU r fs]
    exact q
  · obtain ⟨its, r, pl, hz⟩ := I.tuple hq
    refine SeqAt.in_tupleAt (eqU x) pl (fun w hw => mem_eqAt rx fx r fs w (by simpa using hw)) ⟨.bl _, H, I, rfl, ?_⟩
    rw [show its.toArray.any (eqU x) = its.any (eqU x) by simp, any_eqU r fs]
    exact q

/-! ### len, list(x), tuple(x) of any list or tuple that is read -/
theorem call_len_seq : CallR X (.builtin "len") (fun xs H Q => ∃ p ys, xs = [.ref p] ∧ (SqL X.K H p ys ∨ SqT X.K H p ys) ∧ Q (.int ys.length) H) := by
  intro pins s σ H xs us Q I r h
  obtain ⟨p, ys, rfl, hq, q⟩ := h
  obtain ⟨u, rfl, rx⟩ := vals1 r
  cases rx
  have hn := line63
  rcases hq with hq | hq
  · obtain ⟨its, r', pl, hz⟩ := I.list hq
    have hlen := r'.length
    exact Calls.call_len_list pl.isList (by simp only [List.size_toArray] <;> omega) ⟨.int ys.length, H, I.tok _, ⟨s.toks + 1, by rw [List.size_toArray, hlen]⟩, q⟩
  · obtain ⟨its, r', pl, hz⟩ := I.tuple hq
    have hlen := r'.length
    exact len_tuple pl (by simp only [List.size_toArray] <;> omega) ⟨.int ys.length, H, I.tok _, ⟨s.toks + 1, by rw [List.size_toArray, hlen]⟩, q⟩
theorem call_list_of : CallR X (.type "list") (fun xs H Q => ∃ p ys, xs = [.ref p] ∧ (SqL X.K H p ys ∨ SqT X.K H p ys) ∧ ∀ l, H l = none → Q (.ref l) (upd H l (.lst ys))) := by
  intro pins s σ H xs us Q I r h
  obtain ⟨p, ys, rfl, hq, q⟩ := h
  obtain ⟨u, rfl, rx⟩ := vals1 r
  cases rx
  have fin : ∀ (its : List Value), Vals ys its → ys.length ≤ sizeLine → ∀ (h' : Heap) (c' : Nat), (∀ b o', s.heap.get? b = some o' → h'.get? b = some o') →
      h'.get? s.heap.objs.size = some { cls := .type "list", dict := none, data := .seq its.toArray c', slots := #[] } → EP X pins σ Q (.ref s.heap.objs.size) { s with heap := h' } := fun its r' hz h' c' kp e =>
    ⟨.ref s.heap.objs.size, _, I.laid (t' := s.toks) kp (Nat.le_refl _) (show ObjOk X.prog X.w _ h' _ (.lst ys) from ⟨hz, its, c', r', e⟩), rfl, q _ (I.hok.fresh (Nat.le_refl _))⟩
  rcases hq with hq | hq
  · obtain ⟨its, r', pl, hz⟩ := I.list hq
    have hlen := r'.length
    obtain ⟨o, ho, hc, n, hd⟩ := pl.isList
    exact call_list_seq p (.inl rfl) ho hc hd (fun h' c' kp e => fin its r' hz h' c' kp e) (by simp only [List.size_toArray] <;> omega)
  · obtain ⟨its, r', pl, hz⟩ := I.tuple hq
    have hlen := r'.length
    obtain ⟨o, ho, hc, n, hd⟩ := pl
    exact call_list_seq p (.inr rfl) ho hc hd (fun h' c' kp e => fin its r' hz h' c' kp e) (by simp only [List.size_toArray] <;> omega)
theorem call_tuple_of : CallR X (.type "tuple") (fun xs H Q => ∃ p ys, xs = [.ref p] ∧ ((SqL X.K H p ys ∧ ∀ l, H l = none → Q (.ref l) (upd H l (.tup ys))) ∨ (SqT X.K H p ys ∧ Q (.ref p) H))) := by
  intro pins s σ H xs us Q I r h
  obtain ⟨p, ys, rfl, h⟩ := h
  obtain ⟨u, rfl, rx⟩ := vals1 r
  cases rx
  rcases h with ⟨hq, q⟩ | ⟨hq, q⟩
  · obtain ⟨its, r', pl, hz⟩ := I.list hq
    have hlen := r'.length
    refine call_tuple_list pl.isList (fun h' kp => ?_) (by simp only [List.size_toArray] <;> omega)
    have I1 : Inv X pins σ H { s with heap := h' } := I.kept (t' := s.toks) kp
    have I2 : Inv X pins σ (upd H h'.objs.size (.tup ys)) { s with heap := h'.push { cls := .type "tuple", data := .seq its.toArray } } :=
      I1.laid (t' := s.toks) (fun b o e => Heap.get?_push_of_some _ e) (Nat.le_refl _) (show ObjOk X.prog X.w _ _ _ (.tup ys) from ⟨hz, its, r', IsTup.new _ _⟩)
    exact ⟨.ref h'.objs.size, _, I2, rfl, q _ (I1.hok.fresh (Nat.le_refl _))⟩
  · obtain ⟨its, r', pl, hz⟩ := I.tuple hq
    exact call_tuple_same pl ⟨.ref p, H, I, rfl, q⟩

/-! ### the call of a builtin's method: o.m(..) -/
noncomputable def tyV (K : PySem.W.Frag) (T : String) (x : V) (H : Hp) : Prop := match x with
  | .str _ => T = "str"
  | .int _ => T = "int"
  | .ref p => (T = "list" ∧ ∃ xs, SqL K H p xs) ∨ (T = "tuple" ∧ ∃ o, K.lookup p = some o ∧ o.cls = .type "tuple" ∧ o.dict = none) ∨
      (T = "dict" ∧ ((∃ kvs, H p = some (.dK kvs)) ∨ ∃ kvs, H p = some (.dT kvs))) ∨ (T = "set" ∧ ∃ S n, H p = some (.set S n))
  | _ => False
theorem tyV_is {pins : List (Addr × Obj)} {σ : St} {H : Hp} {s : Shared} {T : String} {x : V} {v : Value} (I : Inv X pins σ H s) (r : RelV x v) (ty : tyV X.K T x H) :
    s.TypeIs v T ∧ ∀ a, v = .ref a → ∃ ob, s.heap.get? a = some ob ∧ ob.dict = none := by
  cases x with
  | str z =>
    obtain ⟨t, rfl⟩ := r
    cases (show T = "str" from ty)
    exact ⟨typeIs_str s z t, fun _ e => nomatch e⟩
  | int i =>
    obtain ⟨t, rfl⟩ := r
    cases (show T = "int" from ty)
    exact ⟨typeIs_int s i t, fun _ e => nomatch e⟩
  | ref p =>
    cases r
    rcases ty with ⟨rfl, xs, hq⟩ | ⟨rfl, o, hk, hc, hd⟩ | ⟨rfl, hk⟩ | ⟨rfl, S, n, hk⟩
    · obtain ⟨its, _, pl, _⟩ := I.list hq
      refine ⟨pl.isList.typeIs, fun a e => ?_⟩
      cases e
      obtain ⟨o, n, e, c, hd, _⟩ := pl
      exact ⟨o, e, hd⟩
    · refine ⟨⟨o, I.kIn p o hk, hc⟩, fun a e => ?_⟩
      cases e
      exact ⟨o, I.kIn _ o hk, hd⟩
    · have z : ∃ o, s.heap.get? p = some o ∧ o.ExactDict := by
        rcases hk with ⟨kvs, hk⟩ | ⟨kvs, hk⟩
        · obtain ⟨_, _, _, _, o, _, _, e, ex, _⟩ := I.hok p _ hk
          exact ⟨o, e, ex⟩
        · obtain ⟨_, _, _, _, o, _, _, e, ex, _⟩ := I.hok p _ hk
          exact ⟨o, e, ex⟩
      obtain ⟨o, e, ex⟩ := z
      refine ⟨⟨o, e, ex.1⟩, fun a e2 => ?_⟩
      cases e2
      exact ⟨o, e, ex.2.1⟩
    · obtain ⟨o, _, _, _, e, ex, _⟩ := I.hok p _ hk
      refine ⟨⟨o, e, ex.1⟩, fun a e2 => ?_⟩
      cases e2
      exact ⟨o, e, ex.2.1⟩
  | _ => exact False.elim ty
noncomputable def tBM (K : PySem.W.Frag) (T : String) (r : V → List V → Hp → VK → Prop) (to : TE) (t : TA) : TE := fun σ H Q => to σ H fun x H1 => tyV K T x H1 ∧ t σ H1 fun xs H2 => r x xs H2 Q
variable {o e : Expr} {es : List Expr} {to : TE} {t : TA} {name : Str} {apos cpos : Pos} {T id : String} {r : V → List V → Hp → VK → Prop}
theorem pe_bm (pa : PlainAttrs T) (slot : Slot T name id) (hty : typeOf (.builtin id) = pure (.type "method_descriptor")) (hm : MtR X id r) (ho : PE X o to) (ha : PA X (e :: es) t)
    (hbase : attributeBase o name X.env (eval o X.env) = eval o X.env := by rfl)
    (hfew : ((backTo cpos (starEach (e :: es) X.env)).all (fun x => !x.1) && (backToKw cpos (keywordEach [] X.env)).all (fun x => x.1.isSome)
      && decide ((e :: es).length + ([] : List Keyword).length + (if ([] : List Keyword).isEmpty then 0 else 1) < 30)) = true := by rfl)
    (hline : (apos.endLine == cpos.line) = true := by rfl) (hs : starEach (e :: es) X.env = (false, eval e X.env) :: starEach es X.env := by rfl) (hplain : (backTo cpos (starEach es X.env)).any (·.1) = false := by rfl) :
    PE X (.Call (.Attribute o name apos) (e :: es) [] cpos) (tBM X.K T r to t) := by
  intro pins s σ H Q I h
  refine wpAny_Call_method_late hbase hfew hline rfl (thn (ho pins s σ H _ I h) fun v s1 zz => ?_)
  obtain ⟨x, H1, I1, r1, ty, q1⟩ := zz
  obtain ⟨h1, h2⟩ := tyV_is I1 r1 ty
  refine ⟨T, id, pa, slot, hty, h1, h2, ?_⟩
  have hA := ha cpos pins s1 σ H1 _ I1 q1
  rw [hs] at hA ⊢
  refine Calls.callWith_builtin (by show (false || (backTo cpos (starEach es X.env)).any (·.1)) = false; rw [hplain] <;> rfl) (Calls.evalArgs_plain ?_)
  exact thn hA fun us s2 zz => L2.el5 zz fun vs H2 I2 r2 q2 => hm pins s2 σ H2 x vs v us Q I2 r1 r2 q2
/- xs.append(e), list.index on a module's tuple .. are MtR facts of 06m -/
end
end L2

namespace L2
open PySem PySem.Spec PyProof.Rows

noncomputable def MtM (X : Cx) (id : String) (r : V → List V → Hp → VK → Prop) : Prop :=
  ∀ (pins : List (Addr × Obj)) (s : Shared) (σ : St) (H : Hp) (x : V) (xs : List V) (v : Value) (us : List Value) (Q : VK), Inv X pins σ H s → RelV x v → Vals xs us → r x xs H Q →
    wpAny (model X.prog X.w) X.A (call (.builtin id) (v :: us)) (EP X pins σ Q) X.xe s

/-! ### lists of values -/
theorem Vals.one {x : V} {us : List Value} (h : Vals [x] us) : ∃ u, us = [u] ∧ RelV x u := by
  cases h with
  | cons r t =>
    cases t
    exact ⟨_, rfl, r⟩

section
variable {X : Cx} {pins : List (Addr × Obj)} {σ : St} {H : Hp} {s : Shared} {l b : Addr} {xs ys zs : List V}

/-! ### the two steps: a tracked list is rewritten, a new list is laid -/
theorem Inv.lset {its its' : List Value} {n : Nat} {f : Array Value → Array Value} {t' : Nat} (I : Inv X pins σ H s) (hH : H l = some (.lst xs))
    (e : s.heap.get? l = some { cls := .type "list", data := .seq its.toArray n }) (hf : f its.toArray = its'.toArray) (hv : Vals ys its') (hz : ys.length ≤ sizeLine) :
    Inv X pins σ (upd H l (.lst ys)) { s with heap := s.heap.update l (Obj.mapSeq f), toks := t' } := by
  have q := PySem.IsL.update e f
  rw [hf] at q
  refine I.write (x := l) (e := l) (by rw [hH]; exact trivial) (.inl rfl) (fun b' u hb hu => (Heap.get?_update_other s.heap (Obj.mapSeq f) (Ne.symm hb)).trans hu) ⟨_, q⟩ ?_
  exact ⟨hz, its', _, hv, q⟩
theorem Inv.lnew {its : List Value} {t' : Nat} (I : Inv X pins σ H s) (hv : Vals ys its) (hz : ys.length ≤ sizeLine) :
    Inv X pins σ (upd H s.heap.objs.size (.lst ys)) { s with heap := s.heap.push { cls := .type "list", data := .seq its.toArray }, toks := t' } :=
  I.laid (fun _ _ q => Heap.get?_push_of_some _ q) (Nat.le_refl _) ⟨hz, its, 0, hv, Heap.get?_push_size _ rfl⟩
theorem Inv.fresh (I : Inv X pins σ H s) : H s.heap.objs.size = none := I.hok.fresh (Nat.le_refl _)
theorem Inv.lstM (I : Inv X pins σ H s) (hH : H l = some (.lst xs)) : xs.length ≤ sizeLine ∧ ∃ (its : List Value) (n : Nat), Vals xs its ∧ xs.length = its.length ∧ s.heap.get? l = some { cls := .type "list", data := .seq its.toArray n } := by
  obtain ⟨z, its, n, r, e⟩ := I.hok l _ hH
  exact ⟨z, its, n, r, r.length, e⟩

end

section
variable {X : Cx}

/-! ### methods -/
noncomputable def rAppend : V → List V → Hp → VK → Prop := fun x vs H Q => ∃ l xs y, x = .ref l ∧ vs = [y] ∧ H l = some (.lst xs) ∧ xs.length < sizeLine ∧ Q .non (upd H l (.lst (xs ++ [y])))
theorem mt_append : MtM X "list.append" rAppend := by
  intro pins s σ H x vs v us Q I rx rv h
  obtain ⟨l, xs, y, rfl, rfl, hH, hz, q⟩ := h
  cases rx
  obtain ⟨u, rfl, ru⟩ := rv.one
  obtain ⟨z, its, n, r, hl, e⟩ := I.lstM hH
  refine call_meets F.slot_list_append ⟨_, e, rfl⟩ F.entry_list_append (F.args_list_append_2 _ _) (PySem.list_append l its.toArray n u (by rw [List.size_toArray]; omega)) ⟨e, ?_⟩
  refine ⟨.non, _, I.lset (its' := its ++ [u]) hH e (by simp) (r.append (.cons ru .nil)) ?_, rfl, q⟩
  rw [List.length_append, List.length_singleton]
  omega






/-! ### list + list, list += list, list * int -/
noncomputable def rCat : R2 := fun x y H Q => ∃ l b xs zs, x = .ref l ∧ y = .ref b ∧ H l = some (.lst xs) ∧ H b = some (.lst zs) ∧ xs.length + zs.length ≤ sizeLine ∧ ∀ p, H p = none → Q (.ref p) (upd H p (.lst (xs ++ zs)))
theorem op_cat : OpR X (binaryOp .Add) rCat := by
  intro pins s σ H x y v u Q I rx ry h
  obtain ⟨l, b, xs, zs, rfl, rfl, hH, hB, hz, q⟩ := h
  cases rx
  cases ry
  obtain ⟨z, its, n, r, hl, e⟩ := I.lstM hH
  obtain ⟨z2, its2, n2, r2, hl2, e2⟩ := I.lstM hB
  refine PySem.P.add_list e e2 ?_ (by rw [List.size_toArray, List.size_toArray]; omega)
  have ea : its.toArray ++ its2.toArray = (its ++ its2).toArray := by simp
  rw [ea]
  exact ⟨.ref _, _, I.lnew (t' := s.toks) (r.append r2) (by rw [List.length_append]; omega), rfl, q _ I.fresh⟩

/-! ### del xs[i] -/
end

/-! ### xs[a:b] = ys -/
section
variable {prog : Program} {w : World} {A : Around} {E : Value → Shared → Prop} {s : Shared}
set_option maxRecDepth 100000 in
end

section
variable {X : Cx}
end
end L2

namespace Att
open PySem PySem.W PySem.Calls PyProof.Rows

/-! ### the script -/
theorem ints_of_wellAll {P : Params} {h : Heap} : ∀ (ns : List Int) (vs : List Value), WellAll P h vs (ns.map WData.int) → IntsAre vs ns := by
  intro ns
  induction ns with
  | nil =>
    intro vs w
    rw [List.map_nil] at w
    cases w
    exact .nil
  | cons n ns ih =>
    intro vs w
    rw [List.map_cons] at w
    cases w with
    | cons a b =>
      cases a
      exact .cons _ _ (ih _ b)

theorem script_of {l : OpenLaw} {n : Nat} (hn : l.most = some n) {P : Params} {h : Heap} {args : List WData} {vals : List Value}
    (hpre : l.row.toRowW.claim.pre args = true) (hwl : WellAll P h vals args) :
    ∃ a vs ns, vals = [Value.ref a] ∧ args = [WData.list (ns.map WData.int)] ∧ h.get? a = some { cls := .type "list", data := .seq vs.toArray } ∧ IntsAre vs ns ∧ ns.length ≤ n := by
  have hsh : WShape.hasAll [] args [.list .int] = true := (pre_splitW hpre).1
  have hc : l.pre.holds [] { args := args } = true := (pre_splitW hpre).2
  obtain ⟨d, r, rfl, h1, h2⟩ := hasAllW_cons hsh
  obtain rfl := hasAllW_nil h2
  obtain ⟨xs, rfl, h3⟩ := hasW_list h1
  obtain ⟨ns, rfl⟩ := items_int h3
  have hlen : ns.length ≤ n := by
    unfold OpenLaw.pre at hc
    have h4 : (WTm.not (.lt (.lit (.int (n : Int))) (.len (.arg 0)))).holds [] { args := [.list (ns.map .int)] } = true := by
      have h4 := (holds_andW hc).1
      rw [hn] at h4
      exact h4
    have h5 := condW_of h4 (w_not (w_lt w_lit (w_len_list (w_arg rfl))))
    rw [List.length_map] at h5
    refine Nat.le_of_not_lt fun q => ?_
    have q' : (n : Int) < ((ns.length : Nat) : Int) := by omega
    first
      | (rw [decide_eq_true q'] at h5; exact absurd h5 (by decide))
      | (simp at h5; omega)
  cases hwl with
  | cons w1 w2 =>
    cases w2
    cases w1 with
    | list ho hall => exact ⟨_, _, ns, rfl, rfl, ho, ints_of_wellAll ns _ hall, hlen⟩

theorem post_true (l : OpenLaw) (args : List WData) : l.row.toRowW.claim.post args (.bool true) args = true :=
  postW_of (r := l.row.toRowW) (X := (true == true))
    (show WShape.has [] (.bool true) .bool = true by first | rfl | decide | simp [WShape.has, WShape.arms, WShape.armsAll])
    (show (WTm.eq .res (.lit (.bool true))).value [] { args := args, res := some (.bool true), after := args } = some (.bool (true == true)) from w_eq_bool (w_res rfl) w_lit) rfl

/-! ### the attachment: holds_open's last premise (the goal 'hc' behind k_head) from a wpAny of the law's body -/

theorem attach_call {l : OpenLaw} {n : Nat} {q : Program} {loose : List Str} {XP : (Str → Option Value) → Heap → Prop} {YP : World → Heap → Prop} {d : DefRec}
    (hn : l.most = some n) (hdf : d.params.defaults = [])
    (call : ∀ (w : World) (s₀ s₁ : Shared) (mg mb : Str → Option Value) (fa : Addr) (o : Obj) (pm cd doc : Value) (a : Addr) (vs : List Value) (ns : List Int),
      Ground q loose [] XP w s₀ mg mb s₁.heap → YP w s₁.heap →
      s₁.heap.get? fa = some o → o.data = .func (docDef d.name d.params d.body d.scope pm cd doc) → s₁.heap.CodeRec cd d.name → mg d.name = some (.ref fa) →
      s₁.heap.get? a = some { cls := .type "list", data := .seq vs.toArray } → IntsAre vs ns → ns.length ≤ n → s₁.gens = #[] →
      codeAny (model l.prog w) callerA (.call (.ref fa) ⟨[.ref a], []⟩) (fun r s' => r = .ok (.ret (.bool true)) ∧ OldK s₁.heap s'.heap ∧ s'.os = s₁.os ∧ AllBare s'.gens) s₁) :
    WalkO q loose XP YP l.row.toRowW d [] (fun f vs => PySem.call f vs) := by
  intro w s₀ s₁ mg mb G Y fa o pm cd doc dV kV ho hd hcd hD hmg hg args vals as hpre hlay hrd hwl hlo
  obtain rfl : dV = .none := Dflts.none hD hdf
  obtain rfl : kV = .none := Dflts.noKw hD
  obtain ⟨a, vs, ns, rfl, rfl, hobj, hints, hlen⟩ := script_of hn hpre hwl
  refine enter_call (codeAny_mono (call w s₀ s₁ mg mb fa o pm cd doc a vs ns G Y ho (fd_plain hd) hcd hmg hobj hints hlen hg) fun r s' hq => ?_)
  obtain ⟨rfl, h2, h3, h4⟩ := hq
  exact ⟨.inl ⟨.bool true, .bool true, [], rfl, fun _ => rfl, .bool true, post_true l _, fun _ => ⟨List.Pairwise.nil, fun _ hm => (nomatch hm)⟩⟩, h2, h3, h4⟩


/-! ### rules over ANY heap (no ledger) from facts about the written part K: the library's own take a ledger (News) for what they write -/
section
variable {prog : Program} {w : World} {A : Around} {E : Value → Shared → Prop} {s : Shared} {K : Frag}





/-! the whole heap as the ledger: makes every rule that writes through a ledger a rule over any heap -/

end
end Att

namespace L2
open PySem PySem.Spec PyProof.Rows

theorem vals_ints : ∀ {vs : List Value} {ns : List Int}, IntsAre vs ns → Vals (ns.map V.int) vs
  | _, _, .nil => .nil
  | _, _, .cons n t h => .cons ⟨t, rfl⟩ (vals_ints h)

noncomputable def Only (H : Hp) : Prop := ∀ b, H b = none ∨ ∃ o xs, H b = some (.frz o (.lst xs))

theorem law_call {P : Program} {w : World} {K : PySem.W.Frag} {mg mb : Str → Option Value} {CX : CXT} {k : Nat} {fa a : Addr} {fd : FuncData} {x : Str} {sp : Sp} {s₁ : Shared} {vs : List Value} {ns : List Int}
    (KX : K.In s₁.heap) (hns : s₁.heap.Ns mainGlobals mg) (hb : s₁.heap.Ns builtinsNs mb) (hbb : ∀ x : Str, x ≠ "__name__" → mb x = bootBuiltins x) (hlim : s₁.heap.NoLimit) (hg : s₁.gens = #[])
    (ha : s₁.heap.get? a = some { cls := .type "list", data := .seq vs.toArray }) (hi : IntsAre vs ns) (hl : ns.length ≤ sizeLine) (hr : Room k callerA)
    (F : ∀ base : Heap, K.In base → base.Ns mainGlobals mg → FnOk P w K mg base CX k fa fd [x] sp) (hbind : ∀ (s : Shared) (u : Value), BindsTo s fd ⟨[u], []⟩ [(x, u)])
    (hsp : ∀ H : Hp, Only H → SqL K H a (ns.map V.int) → sp [.ref a] H (fun v _ => v = .bl true) fun _ _ _ => False)
    (hCX : ∀ H e s', CX [] H s₁ (fun _ _ _ => False) e s' → False) :
    codeAny (model P w) callerA (.call (.ref fa) ⟨[.ref a], []⟩) (fun r s' => r = .ok (.ret (.bool true)) ∧ OldK s₁.heap s'.heap ∧ s'.os = s₁.os ∧ AllBare s'.gens) s₁ := by
  have rv := vals_ints hi
  have lenV := hi.length
  -- from an abstract heap in which nothing but the script may be tracked
  have core : ∀ H : Hp, Only H → SqL K H a (ns.map V.int) → HOk P w H s₁.heap → (∀ b, H b ≠ none → b = a) → (H a ≠ none → K.lookup a = none) →
      codeAny (model P w) callerA (.call (.ref fa) ⟨[.ref a], []⟩) (fun r s' => r = .ok (.ret (.bool true)) ∧ OldK s₁.heap s'.heap ∧ s'.os = s₁.os ∧ AllBare s'.gens) s₁ := by
    intro H hO hS hok hA hK
    have base_of : ∀ {b : Addr} {o : Obj}, s₁.heap.get? b = some o → H b = none → (hidT s₁.heap H).get? b = some o := fun e n => hidT_get e n
    have noA : ∀ {b : Addr} {o : Obj} {es : Array DictEntry} {ep : Nat}, s₁.heap.get? b = some o → o.data = .dict es ep → H b = none := fun {b o es ep} e d => by
      cases q : H b with
      | none => rfl
      | some u =>
        have e' : b = a := hA b (by rw [q]; simp)
        subst e'
        rw [ha] at e; cases e
        have d' : Data.seq vs.toArray _ = Data.dict es ep := d
        cases d'
    have nsK : ∀ {b : Addr} {m : Str → Option Value}, s₁.heap.Ns b m → (hidT s₁.heap H).Ns b m := fun {b m} ⟨o, es, ep, e, d, r⟩ => ⟨o, es, ep, base_of e (noA e d), d, r⟩
    have hKb : K.In (hidT s₁.heap H) := fun b o e => base_of (KX b o e) (by
      cases q : H b with
      | none => rfl
      | some u =>
        have e' : b = a := hA b (by rw [q]; simp)
        subst e'
        rw [hK (by rw [q]; simp)] at e; cases e)
    have hM : Mod K mg (hidT s₁.heap H) := ⟨hKb, nsK hns, ⟨mb, nsK hb, hbb⟩, let ⟨mc, h1, h2⟩ := hlim; ⟨mc, nsK h1, h2⟩⟩
    have e0 : Env0 P w K mg (hidT s₁.heap H) callerA [] s₁ H := ⟨rfl, hM, fun b o e => of_hidT e, Nat.le_of_eq (hidT_size _ _), trivial, fun b hb => absurd (show b ∈ ([] : List Addr) from hb) (by simp), hok, .of_eq hg⟩
    refine codeAny_mono ((F _ hKb (nsK hns)).run callerA [] s₁ H ⟨[.ref a], []⟩ [.ref a] [.ref a] _ _ hr e0 (hbind s₁ (.ref a)) (.cons rfl .nil) (hsp H hO hS)) fun r s' h => ?_
    cases r with
    | error e => exact (hCX H e s' h).elim
    | ok fl =>
      cases fl with
      | next => exact False.elim h
      | brk => exact False.elim h
      | cont => exact False.elim h
      | ret u =>
        obtain ⟨v, H', os, bare, un, hok', r', q⟩ := h
        have q' : v = .bl true := q
        subst q'
        obtain rfl : u = Value.bool true := r'
        refine ⟨rfl, OldK.of_keep fun b o e => ?_, os, bare⟩
        cases q : H b with
        | none => exact un.keep b o e q (by intro z; exact absurd (show b ∈ ([] : List Addr) from z) (by simp)) (by simp)
        | some u =>
          rcases hO b with z | ⟨ob, xs, z⟩
          · rw [q] at z; cases z
          · have z2 := un.frzs b ob _ z
            obtain ⟨e1, _⟩ := hok b _ z
            obtain ⟨e2, _⟩ := hok' b _ z2
            rw [e] at e1; cases e1
            exact e2
  cases hk : K.lookup a with
  | some o =>
    -- the script is one of the module's own objects
    have e := KX a o hk
    rw [ha] at e
    cases e
    refine core (fun _ => none) (fun _ => .inl rfl) (.inr ⟨_, vs.toArray, _, hk, rfl, rfl, rfl, by rw [List.size_toArray, lenV]; exact hl, by simpa using rv⟩) (fun b u z => by have z' : (none : Option HO) = some u := z; cases z') (fun b z => absurd rfl z) fun z => absurd rfl z
  | none =>
    refine core (fun b => if b = a then some (.frz { cls := .type "list", data := .seq vs.toArray } (.lst (ns.map V.int))) else none) (fun b => ?_) (.inl (.inr ⟨{ cls := .type "list", data := .seq vs.toArray }, if_pos rfl⟩)) (fun b u z => ?_) (fun b z => ?_) fun _ => hk
    · by_cases hb : b = a
      · exact .inr ⟨_, _, if_pos hb⟩
      · exact .inl (if_neg hb)
    · by_cases hb : b = a
      · have z' := (if_pos hb).symm.trans z
        cases z'
        subst hb
        exact ⟨ha, by rw [List.length_map]; exact hl, vs, _, rv, ha⟩
      · have z' := (if_neg hb).symm.trans z
        cases z'
    · by_cases hb : b = a
      · exact hb
      · exact absurd (if_neg hb) z
end L2

namespace L2
open PySem PySem.Spec PyProof.Rows

noncomputable abbrev KOf {K : PySem.W.Frag} {h : Heap} (_ : K.In h) : PySem.W.Frag := K

theorem walk_of {l : PySem.W.OpenLaw} {n k : Nat} {q : Program} {loose : List Str} {XP : (Str → Option Value) → Heap → Prop} {YP : World → Heap → Prop} {d : DefRec} {K : Params → PySem.W.Frag} {CX : World → CXT} {sp : World → Sp} {x : Str}
    (hn : l.most = some n) (hn2 : n ≤ sizeLine) (hdf : d.params.defaults = []) (hr : Room k callerA)
    (hY : ∀ (w : World) (h : Heap), YP w h → (K w.params).In h)
    (F : ∀ (w : World) (mg : Str → Option Value) (fa : Addr) (h : Heap), (K w.params).In h → h.Ns mainGlobals mg → mg d.name = some (.ref fa) →
      ∃ fd : FuncData, (∀ (s : Shared) (u : Value), BindsTo s fd ⟨[u], []⟩ [(x, u)]) ∧
        ∀ base : Heap, (K w.params).In base → base.Ns mainGlobals mg → FnOk l.prog w (K w.params) mg base (CX w) k fa fd [x] (sp w))
    (hsp : ∀ (w : World) (H : Hp) (a : Addr) (ns : List Int), ns.length ≤ n → Only H → SqL (K w.params) H a (ns.map V.int) → sp w [.ref a] H (fun v _ => v = .bl true) fun _ _ _ => False)
    (hCX : ∀ (w : World) (H : Hp) (s : Shared) (e : Value) (s' : Shared), CX w [] H s (fun _ _ _ => False) e s' → False) :
    PySem.W.WalkO q loose XP YP l.row.toRowW d [] (fun f vs => PySem.call f vs) := by
  refine Att.attach_call hn hdf fun w s₀ s₁ mg mb fa o pm cd doc a vs ns G Y ho hd hcd hmg hobj hints hlen hg => ?_
  have KX := hY w _ Y
  obtain ⟨fd, hb, hF⟩ := F w mg fa _ KX G.T.g hmg
  exact law_call KX G.T.g G.T.b G.T.builtins G.T.nolimit hg hobj hints (Nat.le_trans hlen hn2) hr hF hb (fun H hO hS => hsp w H a ns hlen hO hS) fun H e s' => hCX w H s₁ e s'
theorem walk_ofK {l : PySem.W.OpenLaw} {n k : Nat} {q : Program} {loose : List Str} {XP : (Str → Option Value) → Heap → Prop} {YP : World → Heap → Prop} {d : DefRec} {K : Params → PySem.W.Frag} {CX : CXT} {sp : PySem.W.Frag → Sp} {x : Str}
    (hn : l.most = some n) (hn2 : n ≤ sizeLine) (hdf : d.params.defaults = []) (hr : Room k callerA)
    (hY : ∀ (w : World) (h : Heap), YP w h → (K w.params).In h)
    (F : ∀ (w : World) (mg : Str → Option Value) (fa : Addr) (h : Heap), (K w.params).In h → h.Ns mainGlobals mg → mg d.name = some (.ref fa) →
      ∃ fd : FuncData, (∀ (s : Shared) (u : Value), BindsTo s fd ⟨[u], []⟩ [(x, u)]) ∧
        ∀ base : Heap, (K w.params).In base → base.Ns mainGlobals mg → FnOk l.prog w (K w.params) mg base CX k fa fd [x] (sp (K w.params)))
    (hsp : ∀ (K : PySem.W.Frag) (H : Hp) (a : Addr) (ns : List Int), ns.length ≤ n → Only H → SqL K H a (ns.map V.int) → sp K [.ref a] H (fun v _ => v = .bl true) fun _ _ _ => False)
    (hCX : ∀ (H : Hp) (s : Shared) (e : Value) (s' : Shared), CX [] H s (fun _ _ _ => False) e s' → False) :
    PySem.W.WalkO q loose XP YP l.row.toRowW d [] (fun f vs => PySem.call f vs) :=
  walk_of (K := K) (CX := fun _ => CX) (sp := fun w => sp (K w.params)) hn hn2 hdf hr hY F (fun w H a ns h1 h2 h3 => hsp (K w.params) H a ns h1 h2 h3) fun _ H s e s' => hCX H s e s'
end L2

/- THE LAST THEOREM (shape; LID, My.* are yours):
   My.Adr: a structure of the addresses that your layer names (classes, functions); My.Txt K t: a structure (Prop) of the equations over K;
   My.txt_mk : {K} {implicit addresses ..} (e1 : nsIn K mainGlobals "law" = some (some (.ref f))) (e2 : K.lookup f = some ⟨oc, od, .func (fnOf "law" "law" params body scope dV kV doc pm an cdv ct), sl⟩) (e3 : codeIn K cdv "law" = true) .. : ∃ t, My.Txt K t

set_option maxRecDepth 100000 in
set_option maxHeartbeats 0 in
theorem PySem.Challenge.cw_LID_holds : PySem.Challenge.rw_LID.Holds := by
  w_on; o_law; k_head; (case hw => w_witness2)
  k_fill
  refine L2.walk_of (l := PySem.Challenge.rw_LID) (n := 63) (k := 40) (x := "script") (CX := fun w => ..) (sp := fun _ => My.sp_law) rfl (by decide) rfl ⟨rfl, by decide, by decide⟩ (fun w h Y => PySem.W.kIn_of Y) ?F ?S ?C
  case F =>
    intro w mg fa h KX G hmg
    have T : ∃ t, My.Txt (L2.KOf KX) t := by
      dsimp only [L2.KOf]                          -- K must stand as «<heap const> w.params» for k_is
      refine' My.txt_mk ?e1 ?e2 ?e3 ..
      (case e1 => PySem.W.k_is)                    -- in the order: a name -> its address -> its object -> its parts
      (case e2 => PySem.W.k_is)
      ..
    obtain ⟨t, T⟩ := T
    have e0 := hmg.symm.trans (PySem.W.mg_of KX G T.law)
    cases e0                                       -- fa is the law's own address
    exact ⟨_, fun s u => .of_eq rfl, fun base kb nb => My.law_fn T kb nb⟩     -- if «.of_eq rfl» comes too early: refine' ⟨_, ?b, fun base kb nb => My.law_fn T kb nb⟩; exact fun s u => .of_eq rfl
  case S => exact fun w H a ns hl hO hS => ..
  case C => exact ..
(the tactic k_is has no namespace: write k_is) -/

/-! SHORT WORDS over the layer: a def of the text, its body, what a loop and a test want. -/
namespace L2
open PySem PySem.Spec PyProof.Rows

/-! ### the text by places -/
noncomputable def inClass (s : Stmt) (j : Nat) : Stmt := match s with
  | .ClassDef _ _ _ body _ _ _ _ _ _ _ => body.getD j (.Pass ⟨0, 0, 0, 0⟩)
  | _ => .Pass ⟨0, 0, 0, 0⟩
noncomputable def defArgs (s : Stmt) : Arguments := match s with
  | .FunctionDef _ a _ _ _ _ _ _ _ _ => a
  | _ => { posonlyargs := [], args := [], vararg := none, kwonlyargs := [], kw_defaults := [], kwarg := none, defaults := [] }
noncomputable def defBody (s : Stmt) : List Stmt := match s with
  | .FunctionDef _ _ b _ _ _ _ _ _ _ => b
  | _ => []
noncomputable def defScope (s : Stmt) : Scope := match s with
  | .FunctionDef _ _ _ _ _ _ sc _ _ _ => sc
  | _ => { kind := .function, names := [], isGenerator := false, isCoroutine := false }

/-! ### no exception leaves a def -/
noncomputable abbrev CX0 : CXT := fun _ _ _ _ _ _ => False
noncomputable abbrev E0 : XK := fun _ _ _ => False
theorem pass0 {X : Cx} : Passes CX0 X E0 := fun _ _ _ _ _ _ _ h => h.elim

/-! ### a def (or method) of the text as it stands behind the top -/
structure Fun (K : PySem.W.Frag) (x qual : Str) (st : Stmt) (f : Addr) (fd : FuncData) : Prop where
  ex : ∃ (oc : Value) (od : Option Addr) (kV doc pm : Value) (an : Option Addr) (cdv ct : Value) (osl : Array (Option Value)),
    fd = PySem.W.fnOf x qual (defArgs st) (defBody st) (defScope st) .none kV doc pm an cdv ct ∧ K.lookup f = some ⟨oc, od, .func fd, osl⟩ ∧ PySem.W.codeIn K cdv qual = true
  kp : PySem.W.keepIn K (.ref f) = true
section
variable {P : Program} {w : World} {K : PySem.W.Frag} {mg : Str → Option Value} {base : Heap}
theorem Fun.ok {x qual : Str} {st : Stmt} {f : Addr} {fd : FuncData} {N ps : List Str} {k : Nat} {sp : Sp} (F : Fun K x qual st f fd) (S : FnScope N ps (defScope st)) (len : ∀ vs H Q E, sp vs H Q E → vs.length = ps.length)
    (hbody : ∀ (cdv : Value) (A : Around) (outer : List Env) (s : Shared) (H : Hp) (vs : List V) (Q : VK) (E : XK), Room k (A.deeper (envOfC qual (defScope st) s.heap.objs.size f cdv)) → sp vs H Q E →
      ∃ t, PSs (cxOf CX0 P w K mg base N qual (defScope st) f cdv A outer s H E).nox (defBody st) t ∧ t { nx := fun _ H' => Q .non H', rt := Q } (start N vs) H) : FnOk P w K mg base CX0 (k + 1) f fd ps sp := by
  obtain ⟨oc, od, kV, doc, pm, an, cdv, ct, osl, rfl, lk, hcd⟩ := F.ex
  refine fn_of lk hcd S len fun A outer s H vs Q E hr hsp => ?_
  obtain ⟨t, h, q⟩ := hbody cdv A outer s H vs Q E hr hsp
  exact ⟨t, h.nox, q⟩
theorem Fun.binds {x qual : Str} {st : Stmt} {f : Addr} {fd : FuncData} {ps : List Str} (F : Fun K x qual st f fd)
    (h : ∀ (kV doc pm : Value) (an : Option Addr) (cdv ct : Value) (us : List Value), us.length = ps.length → bindArgs (PySem.W.fnOf x qual (defArgs st) (defBody st) (defScope st) .none kV doc pm an cdv ct) ⟨us, []⟩ = pure (ps.zip us)) : Binds K fd ps [] := by
  obtain ⟨oc, od, kV, doc, pm, an, cdv, ct, osl, rfl, lk, hcd⟩ := F.ex
  exact .all (h kV doc pm an cdv ct)
theorem fun_mk {x qual : Str} {st : Stmt} {f : Addr} {oc : Value} {od an : Option Addr} {osl : Array (Option Value)} {kV doc pm cdv ct : Value} (l : K.lookup f = some ⟨oc, od, .func (PySem.W.fnOf x qual (defArgs st) (defBody st) (defScope st) .none kV doc pm an cdv ct), osl⟩)
    (c : PySem.W.codeIn K cdv qual = true) (k : PySem.W.keepIn K (.ref f) = true) : Fun K x qual st f (PySem.W.fnOf x qual (defArgs st) (defBody st) (defScope st) .none kV doc pm an cdv ct) := ⟨⟨oc, od, kV, doc, pm, an, cdv, ct, osl, rfl, l, c⟩, k⟩
end
theorem hu_of {A : Around} {k : Nat} (hr : Room k A) : A.units + 1 < cLine := Nat.lt_of_le_of_lt (Nat.add_le_add_left (by decide : 1 ≤ 64) _) hr.units
theorem small1000 {n : Nat} (h : n ≤ 1000) : n < sizeLine := Nat.lt_of_le_of_lt h (by decide)

/-! ### expressions in short: the name that stands in the i-th slot -/
section
variable {X : Cx}
theorem pv (i : Nat) {x : Str} {pos : Pos} (hN : X.N[i]? = some x := by rfl) (hv : Vis X.env.scope x := by first | exact Or.inl rfl | exact Or.inr (Or.inl rfl) | exact Or.inr (Or.inr rfl)) (hd : (x == ("__debug__" : Str)) = false := by decide)
    (hcd : (x == ("__classdict__" : Str)) = false := by decide) : PE X (.Name x pos) (tVar i) := pe_var hN hv hd hcd
end

/-! ### tests -/
theorem iteF {A B : Prop} (h : B) : if false = true then A else B := by
  rw [if_neg Bool.false_ne_true]
  exact h
theorem iteT {A B : Prop} (h : A) : if true = true then A else B := by
  rw [if_pos rfl]
  exact h
theorem ite2 {c A B : Prop} [Decidable c] (h1 : c → A) (h2 : ¬ c → B) : if c then A else B := by
  by_cases h : c
  · rw [if_pos h]
    exact h1 h
  · rw [if_neg h]
    exact h2 h
theorem iteNS {c A B : Prop} [Decidable c] (hc : c) (h : B) : if (!decide c) = true then A else B := by
  rw [decide_eq_true hc]
  exact iteF h

/-! ### heaps -/
noncomputable def Same (H H' : Hp) : Prop := ∀ b o, H b = some o → H' b = some o
theorem Same.refl (H : Hp) : Same H H := fun _ _ h => h
theorem Same.trans {H H1 H2 : Hp} (a : Same H H1) (b : Same H1 H2) : Same H H2 := fun c o h => b c o (a c o h)
theorem Same.free {H H' : Hp} (e : Same H H') {l : Addr} (h : H' l = Option.none) : H l = Option.none := by
  cases q : H l with
  | none => rfl
  | some o =>
    rw [e l o q] at h
    cases h

end L2

set_option Elab.async false
set_option linter.all false
set_option maxRecDepth 100000
/-! A list comprehension with one clause, over the hand layer: its block never raises. -/
namespace L2
open PySem PySem.Spec PyProof.Rows

section
variable {prog : Program} {w : World} {A : Around} {R : Result → Shared → Prop} {s : Shared}
theorem loop_comp {elt target iter : Expr} {ifs : List Expr} {scope : Scope} {pos : Pos} {it acc : Value} {env : Env} (I : Nat → Shared → Prop)
    (turn : ∀ n s, I n s → wpAny (model prog w) A (pyNext it) (fun r s₁ => match r with
      | none => R (.ok .next) s₁
      | some v => wpAny (model prog w) A (letOwnedTupleGo target it v) (fun _ s₁' => wpAny (model prog w) A (assign target env v) (fun _ s₂ =>
          wpAny (model prog w) A (forIn ifs true fun c r => if r = true then do let ok ← isTrue c env (eval c env); pure (ForInStep.yield ok) else pure (ForInStep.yield r)) (fun ok s₃ =>
            if ok = true then wpAny (model prog w) A (eval elt env) (fun x s₄ =>
              wpAny (model prog w) A (call (.builtin "list.append") [acc, x]) (fun _ s₅ => ∃ m, m < n ∧ I m s₅) (fun _ _ => False) s₄) (fun _ _ => False) s₃
            else ∃ m, m < n ∧ I m s₃) (fun _ _ => False) s₂) (fun _ _ => False) s₁') (fun _ _ => False) s₁) (fun _ _ => False) s)
    (n : Nat) (h : I n s) : codeAny (model prog w) A (.compLoop (.ListComp elt [⟨target, iter, ifs, 0⟩] scope pos) 0 it acc env) R s := by
  refine codeAny_loop rfl I (fun n s hI => ?_) n h
  show wpAny _ A ((compTurn (.ListComp elt [⟨target, iter, ifs, 0⟩] scope pos) 0 it acc env).onRaise (fun x => do noteFrame x env; theTreesLotGoes x)) _ _ s
  refine wpAny_noted ?_
  rw [compTurn_list]
  refine wpAny_bind (wpAny_standAt (wpAny_bind (wpAny_mono (turn n s hI) (fun r s₁ h₁ => ?_) fun _ _ h' => h'.elim)))
  cases r with
  | none => exact wpAny_pure h₁
  | some v =>
    refine wpAny_bind (wpAny_mono h₁ (fun _ s₁' h₁' => ?_) fun _ _ h' => h'.elim)
    refine wpAny_bind (wpAny_mono h₁' (fun _ s₂ h₂ => wpAny_bind (wpAny_mono h₂ (fun ok s₃ h₃ => ?_) fun _ _ h' => h'.elim)) fun _ _ h' => h'.elim)
    cases ok with
    | false => exact wpAny_pure ⟨rfl, h₃⟩
    | true =>
      exact wpAny_bind (wpAny_bind (wpAny_mono h₃ (fun x s₄ h₄ => wpAny_bind (wpAny_mono h₄ (fun _ s₅ h₅ => wpAny_pure (wpAny_pure ⟨rfl, h₅⟩)) fun _ _ h' => h'.elim)) fun _ _ h' => h'.elim))
end

/-! ### the cells that a block takes along -/
theorem closure_go {env : Env} {f : (Str × NameKind) → List (Str × Addr) → Sem (ForInStep (List (Str × Addr)))}
    (h1 : ∀ n k cs, k ≠ NameKind.free → f (n, k) cs = pure (.yield cs)) (h2 : ∀ n a cs, env.cells.lookup n = some a → f (n, .free) cs = pure (.yield ((n, a) :: cs))) :
    ∀ (names : List (Str × NameKind)) (acc : List (Str × Addr)), (∀ x ∈ names, x.2 = .free → ∃ c, env.cells.lookup x.1 = some c) → (∀ x c, acc.lookup x = some c → env.cells.lookup x = some c) →
      ∃ cl, forIn names acc f = pure cl ∧ (∀ x c, cl.lookup x = some c → env.cells.lookup x = some c ∧ ((∃ c', acc.lookup x = some c') ∨ (x, NameKind.free) ∈ names)) ∧
        ∀ x, ((∃ c, acc.lookup x = some c) ∨ (x, NameKind.free) ∈ names) → ∃ c, cl.lookup x = some c := by
  intro names
  induction names with
  | nil => exact fun acc _ ha => ⟨acc, rfl, fun x c e => ⟨ha x c e, .inl ⟨c, e⟩⟩, fun x hx => hx.elim (fun z => z) fun z => nomatch z⟩
  | cons y r ih =>
    intro acc hn ha
    obtain ⟨n, k⟩ := y
    have hr : ∀ x ∈ r, x.2 = .free → ∃ c, env.cells.lookup x.1 = some c := fun x hx => hn x (List.mem_cons_of_mem _ hx)
    by_cases hk : k = .free
    · subst hk
      obtain ⟨a, e⟩ := hn (n, .free) List.mem_cons_self rfl
      have e : env.cells.lookup n = some a := e
      have ha' : ∀ x c, ((n, a) :: acc).lookup x = some c → env.cells.lookup x = some c := fun x c q => by
        rw [List.lookup_cons] at q
        cases hx : x == n with
        | true => rw [hx] at q; cases q; rw [beq_iff_eq.mp hx]; exact e
        | false => rw [hx] at q; exact ha x c q
      obtain ⟨cl, e1, e2, e3⟩ := ih ((n, a) :: acc) hr ha'
      refine ⟨cl, ?_, fun x c q => ?_, fun x hx => ?_⟩
      · rw [List.forIn_cons, h2 n a acc e, pure_bind]
        exact e1
      · obtain ⟨q1, q2⟩ := e2 x c q
        refine ⟨q1, ?_⟩
        rcases q2 with ⟨c', q2⟩ | q2
        · rw [List.lookup_cons] at q2
          cases hx : x == n with
          | true => rw [beq_iff_eq.mp hx]; exact .inr List.mem_cons_self
          | false => rw [hx] at q2; exact .inl ⟨c', q2⟩
        · exact .inr (List.mem_cons_of_mem _ q2)
      · refine e3 x ?_
        rcases hx with ⟨c, hx⟩ | hx
        · refine .inl ?_
          rw [List.lookup_cons]
          cases x == n with
          | true => exact ⟨a, rfl⟩
          | false => exact ⟨c, hx⟩
        · rcases List.mem_cons.mp hx with z | z
          · cases z
            exact .inl ⟨a, by rw [List.lookup_cons, beq_self_eq_true]⟩
          · exact .inr z
    · obtain ⟨cl, e1, e2, e3⟩ := ih acc hr ha
      refine ⟨cl, ?_, fun x c q => ?_, fun x hx => ?_⟩
      · rw [List.forIn_cons, h1 n k acc hk, pure_bind]
        exact e1
      · obtain ⟨q1, q2⟩ := e2 x c q
        exact ⟨q1, q2.elim .inl fun z => .inr (List.mem_cons_of_mem _ z)⟩
      · refine e3 x ?_
        rcases hx with hx | hx
        · exact .inl hx
        · rcases List.mem_cons.mp hx with z | z
          · cases z; exact absurd rfl hk
          · exact .inr z
theorem closure_ok {scope : Scope} {env : Env} (h : ∀ x ∈ scope.names, x.2 = .free → ∃ c, env.cells.lookup x.1 = some c) :
    ∃ cl, closureFor scope env = pure cl ∧ (∀ x c, cl.lookup x = some c → env.cells.lookup x = some c ∧ (x, NameKind.free) ∈ scope.names) ∧ ∀ x, (x, NameKind.free) ∈ scope.names → ∃ c, cl.lookup x = some c := by
  obtain ⟨cl, e1, e2, e3⟩ := closure_go (env := env) (f := fun x cs => if (x.2 == NameKind.free) = true then do let a ← cellOf env x.1; pure (ForInStep.yield ((x.1, a) :: cs)) else pure (ForInStep.yield cs))
    (fun n k cs hk => by
      have : (k == NameKind.free) = false := by simpa using hk
      simp only [this, Bool.false_eq_true, if_false])
    (fun n a cs e => by
      simp only [beq_self_eq_true, if_true, cellOf, e, pure_bind])
    scope.names [] h (fun x c q => nomatch q)
  refine ⟨cl, ?_, fun x c q => ?_, fun x hx => e3 x (.inr hx)⟩
  · unfold closureFor
    first
      | (rw [show (forIn scope.names ([] : List (Str × Addr)) _ : Sem (List (Str × Addr))) = pure cl from e1]; rfl)
      | (simp only [e1, pure_bind]; done)
      | exact (congrArg (fun z => z >>= fun cs => pure cs) e1).trans (pure_bind _ _)
  · obtain ⟨q1, q2⟩ := e2 x c q
    exact ⟨q1, q2.elim (fun ⟨_, z⟩ => nomatch z) fun z => z⟩

theorem lookup_relabel_free {env : Env} : ∀ {names : List (Str × NameKind)} {x : Str}, names.lookup x = some .free →
    (names.map fun (n, k) => if (k == NameKind.free && env.scope.kind == .function && env.kindOf n == some .cell) then (n, NameKind.cell) else (n, k)).lookup x = some .cell ∨
    (names.map fun (n, k) => if (k == NameKind.free && env.scope.kind == .function && env.kindOf n == some .cell) then (n, NameKind.cell) else (n, k)).lookup x = some .free
  | [], _, h => by simp at h
  | (n, k) :: r, x, h => by
    have ih := @lookup_relabel_free env r x
    show List.lookup x ((if (k == NameKind.free && env.scope.kind == .function && env.kindOf n == some .cell) = true then (n, NameKind.cell) else (n, k)) :: _) = _ ∨
      List.lookup x ((if (k == NameKind.free && env.scope.kind == .function && env.kindOf n == some .cell) = true then (n, NameKind.cell) else (n, k)) :: _) = _
    cases hx : x == n with
    | true =>
      simp only [List.lookup_cons, hx] at h
      cases h
      by_cases hc : (NameKind.free == NameKind.free && env.scope.kind == .function && env.kindOf n == some .cell) = true
      · rw [if_pos hc]; exact .inl (by simp [List.lookup_cons, hx])
      · rw [if_neg hc]; exact .inr (by simp [List.lookup_cons, hx])
    | false =>
      simp only [List.lookup_cons, hx] at h
      by_cases hc : (k == NameKind.free && env.scope.kind == .function && env.kindOf n == some .cell) = true
      · rw [if_pos hc]; simp only [List.lookup_cons, hx]; exact ih h
      · rw [if_neg hc]; simp only [List.lookup_cons, hx]; exact ih h

/-! ### the block's context -/
noncomputable def compCx (X : Cx) (scope : Scope) (cl : List (Str × Addr)) (N : List Str) (ex : List Addr) (s : Shared) (H : Hp) : Cx where
  prog := X.prog
  w := X.w
  K := X.K
  mg := X.mg
  base := X.base
  A := X.A
  N := N
  s₀ := s
  H₀ := H
  env := compEnvC scope cl s.heap.objs.size X.env
  outer := X.stack
  stack := X.stack
  ex := ex
  fn := fun x => scope.names.lookup x == some .local
  calm := X.calm
  pn := []
  xe := fun _ _ => False
noncomputable def startC (js : List (Option Nat)) (σ : St) : St := js.map fun j => match j with
  | none => none
  | some j => (σ[j]?).join
structure CompOk (sc : Scope) (NX : List Str) (scope : Scope) (N : List Str) (js : List (Option Nat)) : Prop where
  kind : scope.kind = .function
  cell : ∀ x ∈ scope.names, x.2 ≠ .cell
  loc : ∀ x ∈ scope.names, x.2 = .local → scope.names.lookup x.1 = some .local
  free : ∀ x ∈ scope.names, x.2 = .free → scope.names.lookup x.1 = some .free ∧ (sc.names.lookup x.1 = some .cell ∨ sc.names.lookup x.1 = some .free)
  len : js.length = N.length
  at_ : ∀ p ∈ js.zip N, p.1 = none ∨ ∃ j ∈ List.range NX.length, p.1 = some j ∧ NX[j]? = some p.2 ∧ (p.2, NameKind.free) ∈ scope.names


section
variable {X : Cx} {pins : List (Addr × Obj)} {σ : St} {H : Hp} {s : Shared} {scope : Scope} {N : List Str} {js : List (Option Nat)} {cl : List (Str × Addr)} {ex : List Addr}
theorem inv_comp {h1 : Heap} {tk : Nat} (I : Inv X pins σ H s) (C : CompOk X.env.scope X.N scope N js) (c2 : ∀ x c, cl.lookup x = some c → X.env.cells.lookup x = some c ∧ (x, NameKind.free) ∈ scope.names)
    (c3 : ∀ x, (x, NameKind.free) ∈ scope.names → ∃ c, cl.lookup x = some c) (hex : ∀ b ∈ ex, FpOk X pins H b ∧ b < s.heap.objs.size)
    (hns : h1.Ns s.heap.objs.size fun _ => none) (hk : ∀ b o, s.heap.get? b = some o → h1.get? b = some o) : Inv (compCx X scope cl N ex s H) [] (startC js σ) H { s with heap := h1, toks := tk } := by
  have fr : ∀ x, (x, NameKind.free) ∈ scope.names → (relabel scope X.env).names.lookup x = some .cell ∨ (relabel scope X.env).names.lookup x = some .free := fun x hx => lookup_relabel_free (C.free _ hx rfl).1
  refine ⟨⟨I.ok.mod, C.kind, I.ok.glob, I.ok.blt, Nat.le_refl _, fun x y c e1 e2 => I.ok.inj x y c (c2 x c e1).1 (c2 y c e2).1, fun x hx => ?_, fun x c hf e => ?_, I.ok.hd, I.ok.frames, .inl rfl, fun b hb => ⟨Nat.ne_of_lt (hex b hb).2, fun x c e => (hex b hb).1.2.2.2.2.1 x c (c2 x c e).1⟩, I.bs, Nat.le_trans I.ok.bsz I.sz, fun b o e hb => ?_, fun b hb hf => ?_, I.stack, I.stkFree⟩,
    rfl, I.bare, Un.kept hk, ⟨fun _ => none, hns, fun i x v e1 e2 e3 => ?_⟩, fun x c e => ?_, I.hok.fresh (Nat.le_refl _), fun x c e => I.freeC x c (c2 x c e).1, fun p hp => absurd (show p ∈ ([] : List (Addr × Obj)) from hp) (by simp), I.hok.kept hk, ?_⟩
  · -- every cell name has its cell
    have hx : (relabel scope X.env).names.lookup x = some .cell ∨ (relabel scope X.env).names.lookup x = some .free := hx
    have hm : (x, NameKind.free) ∈ scope.names := by
      have key : ∀ k, (relabel scope X.env).names.lookup x = some k → k = .cell ∨ k = .free → (x, NameKind.free) ∈ scope.names := fun k hl hk => by
        have m := PySem.mem_of_lookup hl
        obtain ⟨⟨n, k'⟩, hm, e⟩ := List.mem_map.mp m
        dsimp only at e
        by_cases hc : (k' == NameKind.free && X.env.scope.kind == .function && X.env.kindOf n == some .cell) = true
        · rw [if_pos hc] at e
          cases e
          have : k' = .free := by
            simp only [Bool.and_eq_true, beq_iff_eq] at hc
            exact hc.1.1
          subst this
          exact hm
        · rw [if_neg hc] at e
          cases e
          rcases hk with z | z
          · exact absurd z (C.cell _ hm)
          · subst z; exact hm
      rcases hx with z | z
      · exact key _ z (.inl rfl)
      · exact key _ z (.inr rfl)
    exact c3 x hm
  · have hf : (scope.names.lookup x == some .local) = true := hf
    have e' := (C.free _ (c2 x c e).2 rfl).1
    rw [e'] at hf
    exact absurd hf (by decide)
  · obtain ⟨⟨_, _, _, hz, _, _⟩, hlt⟩ := hex b hb
    rcases hz with z | z
    · exact I.ok.noex b o e z
    · exact absurd (Nat.lt_of_lt_of_le (Nat.lt_of_lt_of_le (Heap.lt_size e) I.ok.bsz) z) (Nat.lt_irrefl _)
  · obtain ⟨⟨_, hL, hfs, _⟩, _⟩ := hex b hb
    rcases List.mem_cons.mp (I.stkSub b hf) with z | z
    · exact hL z
    · exact hfs z
  · -- the names
    unfold startC at e2
    rw [List.getElem?_map] at e2
    cases ej : js[i]? with
    | none => rw [ej] at e2; cases e2
    | some oj =>
      rw [ej] at e2
      cases oj with
      | none => cases e2
      | some j =>
        have e2' : (σ[j]?).join = some v := Option.some.inj e2
        have e2'' : σ[j]? = some (some v) := by
          cases q : σ[j]? with
          | none => rw [q] at e2'; cases e2'
          | some z => rw [q] at e2'; exact congrArg some e2'
        have e1 : N[i]? = some x := e1
        have hz : (some j, x) ∈ js.zip N := List.mem_iff_getElem?.mpr ⟨i, by rw [List.getElem?_zip_eq_some]; exact ⟨ej, e1⟩⟩
        obtain ⟨a1, a2⟩ : X.N[j]? = some x ∧ (x, NameKind.free) ∈ scope.names := by
          rcases C.at_ _ hz with q | ⟨j', _, q, a1, a2⟩
          · cases q
          · cases q
            exact ⟨a1, a2⟩
        have a1 : X.N[j]? = some x := a1
        have a2 : (x, NameKind.free) ∈ scope.names := a2
        obtain ⟨b1, b2⟩ := C.free _ a2 rfl
        have b2 : X.env.scope.names.lookup x = some .cell ∨ X.env.scope.names.lookup x = some .free := b2
        obtain ⟨m, _, hl⟩ := I.loc
        obtain ⟨u, r, l⟩ := hl j x v a1 e2'' (.inr b2)
        refine ⟨u, r, ?_⟩
        rcases l with ⟨k, _⟩ | ⟨_, c, hc, z⟩
        · have k : X.env.scope.names.lookup x = some .local := k
          rcases b2 with b2 | b2 <;> (rw [b2] at k; cases k)
        · obtain ⟨c', hc'⟩ := c3 x a2
          have := (c2 x c' hc').1
          rw [hc] at this
          cases this
          obtain ⟨o, ho, hd⟩ := z
          exact .inr ⟨fr x a2, c, hc', ⟨o, hk _ _ ho, hd⟩⟩
  · obtain ⟨v, o, ho, hd⟩ := I.cell x c (c2 x c e).1
    exact ⟨v, o, hk _ _ ho, hd⟩
  · show (startC js σ).length = N.length
    unfold startC
    rw [List.length_map]
    exact C.len
end

/-! ### the rule -/
noncomputable def PIf (X : Cx) (ifs : List Expr) (t : TT) : Prop :=
  ∀ (pins : List (Addr × Obj)) (s : Shared) (σ : St) (H : Hp) (Q : Bool → Hp → Prop), Inv X pins σ H s → t σ H Q →
    wpAny (model X.prog X.w) X.A (forIn ifs true fun c r => if r = true then do let ok ← isTrue c X.env (eval c X.env); pure (ForInStep.yield ok) else pure (ForInStep.yield r)) (TP X pins σ Q) X.xe s
noncomputable def tAll : TT := fun _ H Q => Q true H
theorem pif_none {X : Cx} : PIf X [] tAll := fun _ _ _ H _ I h => wpAny_tests_nil ⟨H, I, h⟩
theorem pif_one {X : Cx} {c : Expr} {t : TT} (h : PT X c t) : PIf X [c] t := fun pins s σ H Q I hw => wpAny_tests_one (h pins s σ H Q I hw)

noncomputable def CompRun (js : List (Option Nat)) (g : TG) (tc : TT) (te : TE) (σ : St) (Q : VK) (J : It) (H1 : Hp) (D : Addr) : Prop := ∃ W : Nat → Nat → St → Hp → Prop, (∃ m, W 0 m (startC js σ) (upd H1 D (.lst []))) ∧
  ∀ i m σ' H', W i m σ' H' → (J.stop i H' ∧ Q (.ref D) H') ∨ (J.go i H' ∧ ∃ N : St → Hp → Prop, (∀ σ2 H2, N σ2 H2 → ∃ m', m' < m ∧ W (i + 1) m' σ2 H2) ∧
    ∀ x H2, J.yld i H' x H2 → g x σ' H2 fun σ3 H3 => tc σ3 H3 fun ok H4 => if ok = true then te σ3 H4 fun y H5 => ∃ ys, H5 D = some (.lst ys) ∧ ys.length < sizeLine ∧ N σ3 (upd H5 D (.lst (ys ++ [y]))) else N σ3 H4)
noncomputable def tComp (js : List (Option Nat)) (wi : TI) (g : TG) (tc : TT) (te : TE) : TE := fun σ H Q => wi σ H fun J H1 => ∀ D, H1 D = none → CompRun js g tc te σ Q J H1 D

noncomputable def fsc (l : List (Str × NameKind)) : Scope := { kind := .function, names := l, isGenerator := false, isCoroutine := false, more := [] }
section
variable {X : Cx} {tg iter elt : Expr} {ifs : List Expr} {scope : Scope} {pos : Pos} {N : List Str} {js : List (Option Nat)} {wi : TI} {g : TG} {tc : TT} {te : TE}
theorem comp_run {cl : List (Str × Addr)} {pins : List (Addr × Obj)} {σ : St} {H : Hp} {s : Shared} {E : Value → Shared → Prop} {Q : VK} {RR : Value → Addr → Result → Shared → Prop} (hc : HandI X) (C : CompOk X.env.scope X.N scope N js)
    (c2 : ∀ x c, cl.lookup x = some c → X.env.cells.lookup x = some c ∧ (x, NameKind.free) ∈ scope.names) (c3 : ∀ x, (x, NameKind.free) ∈ scope.names → ∃ c, cl.lookup x = some c)
    (hb : ∀ cl ex s H, HandI (compCx X scope cl N ex s H) → PG (compCx X scope cl N ex s H) tg g ∧ PIf (compCx X scope cl N ex s H) ifs tc ∧ PE (compCx X scope cl N ex s H) elt te)
    {it : Addr} {fp : List Addr} {tn : Nat → Heap → Prop} {J : It} (I : Inv X pins σ H s) (T : Turn X.prog X.w X.K tg J fp it tn) (st : tn 0 s.heap) (f2 : ∀ b ∈ fp, FpOk X pins H b)
    (q : ∀ D, H D = none → CompRun js g tc te σ Q J H D)
    (hRR : ∀ D C' H' s', Q (.ref D) H' → (∃ m, s'.heap.Ns C' m) → H' C' = none → X.s₀.heap.objs.size ≤ C' → C' ≠ X.env.locals → (∀ x c, X.env.cells.lookup x = some c → c ≠ C') → (∀ p ∈ X.pn ++ pins, p.1 ≠ C') → Inv X pins σ H' s' → RR (.ref D) C' (.ok .next) s') :
    wpAny (model X.prog X.w) X.A (newList []) (fun acc s₃ => wpAny (model X.prog X.w) X.A (newFunctionEnv scope X.env.globals cl [] X.env.qual none .none (some X.env)) (fun cenv s₄ =>
      codeAny (model X.prog X.w) X.A (.compStart (.ListComp elt [⟨tg, iter, ifs, 0⟩] scope pos) 0 (.ref it) acc { cenv with scope := relabel scope X.env }) (RR acc cenv.locals) s₄) E s₃) E s := by
  have hD : H s.heap.objs.size = none := I.fresh
  have I3 : Inv X pins σ (upd H s.heap.objs.size (.lst [])) { s with heap := s.heap.push { cls := .type "list", data := .seq ([] : List Value).toArray } } := I.lnew (its := []) (ys := []) (t' := s.toks) .nil (Nat.zero_le _)
  refine wpAny_newObj_type (wpAny_newFunctionEnv C.cell (by intro y hy; simp at hy) (fun h₁ hns₁ hsb₁ => ?_) C.kind)
  dsimp only at hns₁ hsb₁ ⊢
  generalize hs3 : ({ s with heap := s.heap.push { cls := .type "list", data := .seq ([] : List Value).toArray } } : Shared) = s3 at I3
  have hh3 : s.heap.push { cls := .type "list", dict := none, data := .seq ([] : List Value).toArray } = s3.heap := by rw [← hs3]
  rw [hh3] at hns₁ hsb₁ ⊢
  have kp : ∀ b o, s3.heap.get? b = some o → h₁.get? b = some o := fun b o e => hsb₁.extBut b o (Nat.ne_of_lt (Heap.lt_size e)) (Heap.get?_push_of_some _ e)
  have hlt : ∀ b ∈ fp, b < s.heap.objs.size := fun b hb => by
    obtain ⟨o, e, _⟩ := T.obj 0 s.heap st b hb
    exact Heap.lt_size e
  have sz3 : s3.heap.objs.size = s.heap.objs.size + 1 := by rw [← hh3, Heap.size_push]
  have f3 : ∀ b ∈ fp, FpOk X pins (upd H s.heap.objs.size (.lst [])) b := fun b hb => by
    obtain ⟨h1, h2⟩ := f2 b hb
    exact ⟨by rw [upd_ne (Nat.ne_of_lt (hlt b hb))]; exact h1, h2⟩
  have IY : ∀ tk, Inv (compCx X scope cl N fp s3 (upd H s.heap.objs.size (.lst []))) [] (startC js σ) (upd H s.heap.objs.size (.lst [])) { s3 with heap := h₁, toks := tk } := fun tk =>
    inv_comp I3 C c2 c3 (fun b hb => ⟨f3 b hb, by rw [sz3]; exact Nat.lt_succ_of_lt (hlt b hb)⟩) hns₁ kp
  have st1 : tn 0 h₁ := T.keep 0 s.heap h₁ st fun b hb o e => kp b o (by rw [← hh3]; exact Heap.get?_push_of_some _ e)
  obtain ⟨W, ⟨m0, w0⟩, turn⟩ := q s.heap.objs.size hD
  have hcY : HandI (compCx X scope cl N fp s3 (upd H s.heap.objs.size (.lst []))) := hc.in_ I3 rfl rfl fun _ _ _ z => z
  have hbY := hb cl fp s3 (upd H s.heap.objs.size (.lst [])) hcY
  obtain ⟨hg, hif, he⟩ := hbY
  have stat : ∀ {H' : Hp}, (∀ b ∈ fp, H' b = none) → ∀ b ∈ fp, FpOk (compCx X scope cl N fp s3 (upd H s.heap.objs.size (.lst []))) [] H' b := fun hn b hb => by
    obtain ⟨_, hL, hfs, _, hcl, _⟩ := f2 b hb
    refine ⟨hn b hb, Nat.ne_of_lt (by show b < s3.heap.objs.size; rw [sz3]; exact Nat.lt_succ_of_lt (hlt b hb)), fun z => ?_, .inl hb, fun x c e => hcl x c (c2 x c e).1, fun p hp => absurd (show p ∈ ([] : List (Addr × Obj)) from hp) (by simp)⟩
    rcases List.mem_cons.mp (I.stkSub b z) with z | z
    · exact hL z
    · exact hfs z
  have loop : ∀ s4 : Shared, s4 = { s3 with heap := h₁, toks := s.toks + ([] : List (Str × Value)).length } →
      codeAny (model X.prog X.w) X.A (.compLoop (.ListComp elt [⟨tg, iter, ifs, 0⟩] scope pos) 0 (.ref it) (.ref s.heap.objs.size) (compEnvC scope cl s3.heap.objs.size X.env)) (RR (.ref s.heap.objs.size) s3.heap.objs.size) s4 := by
    rintro s4 rfl
    refine loop_comp (fun n s' => ∃ i σ' H', Inv (compCx X scope cl N fp s3 (upd H s.heap.objs.size (.lst []))) [] σ' H' s' ∧ tn i s'.heap ∧ (∀ b ∈ fp, H' b = none) ∧ W i n σ' H') ?_ m0
      ⟨0, _, _, IY _, st1, fun b hb => (f3 b hb).1, w0⟩
    rintro n s5 ⟨i, σ5, H5, I5, st5, fr5, w5⟩
    rcases turn i n σ5 H5 w5 with ⟨stop, qn⟩ | ⟨go, Nx, hN, step⟩
    · refine thn (T.done (compCx X scope cl N fp s3 (upd H s.heap.objs.size (.lst []))) rfl rfl rfl hcY i [] s5 σ5 H5 _ I5 (stat fr5) st5 stop) fun r s6 ⟨hr, I6⟩ => ?_
      subst hr
      obtain ⟨m, hn, _⟩ := I6.loc
      refine hRR _ _ H5 s6 qn ⟨m, hn⟩ I6.free (Nat.le_trans I3.sz (Nat.le_refl _)) (Nat.ne_of_gt I3.lt) (fun x c e z => ?_) (fun p hp z => ?_) (I3.call' I6.os I6.base I6.hok I6.bare fun b hb => ?_)
      · obtain ⟨v, o, ho, _⟩ := I3.cell x c e
        exact absurd (Heap.lt_size ho) (by rw [z]; exact Nat.lt_irrefl _)
      · exact absurd (Heap.lt_size (I3.pin p hp).1) (by rw [z]; exact Nat.lt_irrefl _)
      · obtain ⟨_, hL, _, hx, hcl, hp⟩ := f2 b hb
        exact ⟨hx, hL, hcl, hp⟩
    · refine thn (T.item (compCx X scope cl N fp s3 (upd H s.heap.objs.size (.lst []))) rfl rfl rfl hcY i [] s5 σ5 H5 _ I5 (stat fr5) st5 go) fun r s6 zz => L2.el3 zz fun u hr h6 => ?_
      subst hr
      refine thn h6 fun _ s7 zz => ?_
      obtain ⟨x, H7, I7, r7, y7, st7, fr7⟩ := zz
      have I7' := I7.pinned (stat fr7) (T.obj _ _ st7)
      refine thn (hg _ s7 σ5 H7 x u _ I7' r7 (step x H7 y7)) fun _ s8 zz => ?_
      obtain ⟨σ8, H8, I8, q8⟩ := zz
      refine thn (hif _ s8 σ8 H8 _ I8 q8) fun ok s9 zz => ?_
      obtain ⟨H9, I9, q9⟩ := zz
      have again : ∀ {s' : Shared} {σ' : St} {H' : Hp}, Inv (compCx X scope cl N fp s3 (upd H s.heap.objs.size (.lst []))) ([] ++ pinsAt fp s7.heap) σ' H' s' → Nx σ' H' →
          ∃ m, m < n ∧ ∃ i σ'' H'', Inv (compCx X scope cl N fp s3 (upd H s.heap.objs.size (.lst []))) [] σ'' H'' s' ∧ tn i s'.heap ∧ (∀ b ∈ fp, H'' b = none) ∧ W i m σ'' H'' := fun {s' σ' H'} I' n' => by
        obtain ⟨m', hm, w'⟩ := hN σ' H' n'
        refine ⟨m', hm, i + 1, σ', H', I'.unpinned, T.keep _ _ _ st7 fun b hb o e => (I'.pin (b, o) (List.mem_append_right _ (List.mem_append_right _ (mem_pinsAt hb e)))).1, fun b hb => ?_, w'⟩
        obtain ⟨o, e, d⟩ := T.obj _ _ st7 b hb
        exact (I'.pin (b, o) (List.mem_append_right _ (List.mem_append_right _ (mem_pinsAt hb e)))).2.1
      cases ok with
      | false => exact again I9 q9
      | true =>
        refine thn (he _ s9 σ8 H9 _ I9 q9) fun yv s10 zz => ?_
        obtain ⟨y, H10, I10, r10, ys, hDD, hlt', n10⟩ := zz
        refine thn (mt_append _ s10 σ8 H10 (.ref s.heap.objs.size) [y] (.ref s.heap.objs.size) [yv] (fun _ H' => Nx σ8 H') I10 rfl (.cons r10 .nil) ⟨_, ys, y, rfl, rfl, hDD, hlt', n10⟩) fun _ s11 zz => ?_
        obtain ⟨_, H11, I11, _, n11⟩ := zz
        exact again I11 n11
  have e4 : ({ s with heap := h₁, toks := s.toks + ([] : List (Str × Value)).length } : Shared) = { s3 with heap := h₁, toks := s.toks + ([] : List (Str × Value)).length } := by rw [← hs3]
  exact codeAny_compStart_list (loop _ e4) (T.self _ 0 _ _ _ st1 (loop _ e4))

theorem pe_compH (hc : HandI X) (hi : PI X tg iter wi) (C : CompOk X.env.scope X.N scope N js)
    (hb : ∀ cl ex s H, HandI (compCx X scope cl N ex s H) → PG (compCx X scope cl N ex s H) tg g ∧ PIf (compCx X scope cl N ex s H) ifs tc ∧ PE (compCx X scope cl N ex s H) elt te)
    (hs : ∀ x, foldedSetIterable iter X.env x = pure x := by intro _; rfl) : PE X (.ListComp elt [⟨tg, iter, ifs, 0⟩] scope pos) (tComp js wi g tc te) := by
  intro pins s σ H Q I h
  obtain ⟨cl, hcl, c2, c3⟩ := closure_ok (scope := scope) (env := X.env) fun x hx hf => I.ok.has x.1 (C.free x hx hf).2
  rw [eval_ListComp]
  refine wpAny_comprehension_free (use := none) rfl hs hcl C.kind C.loc (thn (hi pins s σ H _ I h) fun xv s₁ h₁ => thn h₁ fun itv s₂ h₂ => ?_)
  obtain ⟨it, fp, tn, J, H2, rfl, I2, T, st2, f2, q⟩ := h₂
  refine comp_run (RR := fun acc C' => compPost (model X.prog X.w) X.A X.xe none (EP X pins σ Q) acc C') hc C c2 c3 hb I2 T st2 f2 q ?_
  intro D C' H' s' hq hns hfr hsz hL hcl' hpin I'
  obtain ⟨m, hn⟩ := hns
  refine ⟨m, hn, fun h' sb => ⟨.ref D, H', ?_, rfl, hq⟩⟩
  exact I'.turned (t' := s'.toks) (fun b o hb e => (sb.2 b hb).trans e) hfr (Ne.symm (Ne.symm hL)) (.inr hsz) hcl' hpin

theorem pe_comp (hc : X.calm = true) (hi : PI X tg iter wi) (C : CompOk X.env.scope X.N scope N js)
    (hb : ∀ cl ex s H, PG (compCx X scope cl N ex s H) tg g ∧ PIf (compCx X scope cl N ex s H) ifs tc ∧ PE (compCx X scope cl N ex s H) elt te)
    (hs : ∀ x, foldedSetIterable iter X.env x = pure x := by intro _; rfl) : PE X (.ListComp elt [⟨tg, iter, ifs, 0⟩] scope pos) (tComp js wi g tc te) := pe_compH (.inl hc) hi C (fun cl ex s H _ => hb cl ex s H) hs
theorem ps_setCH {i : Nat} {y : Str} {py spos : Pos} (hN : X.N.Nodup) (hi' : X.N[i]? = some y) (hy : X.env.scope.names.lookup y = some .local) (hc : HandI X) (hi : PI X tg iter wi) (C : CompOk X.env.scope X.N scope N js)
    (hb : ∀ cl ex s H, HandI (compCx X scope cl N ex s H) → PG (compCx X scope cl N ex s H) tg g ∧ PIf (compCx X scope cl N ex s H) ifs tc ∧ PE (compCx X scope cl N ex s H) elt te)
    (hsw : swapsWith (.ListComp elt [⟨tg, iter, ifs, 0⟩] scope pos) (some (.Name y py)) spos.line X.env = pure true := by rfl)
    (hs : ∀ x, foldedSetIterable iter X.env x = pure x := by intro _; rfl) : PS X (.Assign [.Name y py] (.ListComp elt [⟨tg, iter, ifs, 0⟩] scope pos) spos) (tAsg (tComp js wi g tc te) (gName i)) := by
  intro pins s σ H D I h
  obtain ⟨cl, hcl, c2, c3⟩ := closure_ok (scope := scope) (env := X.env) fun x hx hf => I.ok.has x.1 (C.free x hx hf).2
  rw [exec_Assign_Name_used _ _ _ _ hsw]
  refine wpAny_bind (wpAny_standAt (wpAny_bind ?_))
  show wpAny _ X.A (do let _ ← comprehension (.ListComp elt [⟨tg, iter, ifs, 0⟩] scope pos) scope X.env _ (newList []) false (eval iter X.env) (some (assign (.Name y py) X.env))) _ _ s
  refine wpAny_bind (wpAny_mono (wpAny_comprehension_free (use := some (assign (.Name y py) X.env)) (Q := fun _ s' => SP X pins D .next s') rfl hs hcl C.kind C.loc (thn (hi pins s σ H _ I h) fun xv s₁ h₁ => thn h₁ fun itv s₂ h₂ => ?_))
    (fun _ s' hq => wpAny_pure (wpAny_pure hq)) fun _ _ e => e)
  obtain ⟨it, fp, tn, J, H2, rfl, I2, T, st2, f2, q⟩ := h₂
  refine comp_run (Q := fun x H1 => gName i x σ H1 D.nx) (RR := fun acc C' => compPost (model X.prog X.w) X.A X.xe (some (assign (.Name y py) X.env)) (fun _ s' => SP X pins D .next s') acc C') hc C c2 c3 hb I2 T st2 f2 q ?_
  intro Da C' H' s' hq hns hfr hsz hL hcl' hpin I'
  obtain ⟨m, hn⟩ := hns
  show wpAny _ X.A (assign (.Name y py) X.env (.ref Da)) _ _ _
  refine wpAny_assign_Name (store_ok2 I' hN hi' (.inl hy) (v := .ref Da) rfl (fun s2 I2 hx => ?_) (.inr hy))
  obtain ⟨a, sba, ha⟩ := hx
  have hne : C' ≠ a := by
    rcases ha with z | z
    · rw [z]; exact hL
    · exact fun e => hcl' y a z e.symm
  refine ⟨m, hn.sameBut sba hne, fun h' sb => ⟨_, H', ?_, hq⟩⟩
  exact I2.turned (t' := s2.toks) (fun b o hb e => (sb.2 b hb).trans e) hfr hL (.inr hsz) hcl' hpin
theorem ps_setC {i : Nat} {y : Str} {py spos : Pos} (hN : X.N.Nodup) (hi' : X.N[i]? = some y) (hy : X.env.scope.names.lookup y = some .local) (hc : X.calm = true) (hi : PI X tg iter wi) (C : CompOk X.env.scope X.N scope N js)
    (hb : ∀ cl ex s H, PG (compCx X scope cl N ex s H) tg g ∧ PIf (compCx X scope cl N ex s H) ifs tc ∧ PE (compCx X scope cl N ex s H) elt te)
    (hsw : swapsWith (.ListComp elt [⟨tg, iter, ifs, 0⟩] scope pos) (some (.Name y py)) spos.line X.env = pure true := by rfl)
    (hs : ∀ x, foldedSetIterable iter X.env x = pure x := by intro _; rfl) : PS X (.Assign [.Name y py] (.ListComp elt [⟨tg, iter, ifs, 0⟩] scope pos) spos) (tAsg (tComp js wi g tc te) (gName i)) := ps_setCH hN hi' hy (.inl hc) hi C (fun cl ex s H _ => hb cl ex s H) hsw hs
end

/-! ### the forms one uses -/
section
variable {g : TG} {tc : TT} {te : TE} {js : List (Option Nat)} {σ : St} {H : Hp} {Q : VK} {D : Addr}
theorem comp_range {lo : Int} {n : Nat} (Pv : Nat → St → Hp → Prop) (h0 : Pv 0 (startC js σ) (upd H D (.lst [])))
    (hs : ∀ i σ' H', i < n → Pv i σ' H' → g (.int (lo + i)) σ' H' fun σ3 H3 => tc σ3 H3 fun ok H4 => if ok = true then te σ3 H4 fun y H5 => ∃ ys, H5 D = some (.lst ys) ∧ ys.length < sizeLine ∧ Pv (i + 1) σ3 (upd H5 D (.lst (ys ++ [y]))) else Pv (i + 1) σ3 H4)
    (hd : ∀ σ' H', Pv n σ' H' → Q (.ref D) H') :
    CompRun js g tc te σ Q (Itr lo n) H D := by
  refine ⟨fun i m σ H => m = n - i ∧ i ≤ n ∧ Pv i σ H, ⟨n, by simp, Nat.zero_le _, h0⟩, ?_⟩
  rintro i m σ' H' ⟨rfl, hi, p⟩
  by_cases hlt : i < n
  · refine .inr ⟨hlt, Pv (i + 1), fun σ2 H2 p' => ⟨n - (i + 1), by omega, rfl, hlt, p'⟩, fun x H2 y => ?_⟩
    obtain ⟨e, y⟩ := y
    subst e y
    exact hs i σ' _ hlt p
  · have e : i = n := by omega
    subst e
    exact .inl ⟨Nat.le_refl _, hd σ' H' p⟩
theorem comp_list {K : PySem.W.Frag} {a : Addr} {xs : List V} (Pv : Nat → St → Hp → Prop) (h0 : Pv 0 (startC js σ) (upd H D (.lst []))) (hl : ∀ i σ' H', i ≤ xs.length → Pv i σ' H' → SqL K H' a xs)
    (hs : ∀ i x σ' H', xs[i]? = some x → Pv i σ' H' → g x σ' H' fun σ3 H3 => tc σ3 H3 fun ok H4 => if ok = true then te σ3 H4 fun y H5 => ∃ ys, H5 D = some (.lst ys) ∧ ys.length < sizeLine ∧ Pv (i + 1) σ3 (upd H5 D (.lst (ys ++ [y]))) else Pv (i + 1) σ3 H4)
    (hd : ∀ σ' H', Pv xs.length σ' H' → Q (.ref D) H') :
    CompRun js g tc te σ Q (Itl K a) H D := by
  refine ⟨fun i m σ H => m = xs.length - i ∧ i ≤ xs.length ∧ Pv i σ H, ⟨xs.length, by simp, Nat.zero_le _, h0⟩, ?_⟩
  rintro i m σ' H' ⟨rfl, hi, p⟩
  have q := hl i σ' H' hi p
  by_cases hlt : i < xs.length
  · refine .inr ⟨⟨xs, xs[i], q, by simp [hlt]⟩, Pv (i + 1), fun σ2 H2 p' => ⟨xs.length - (i + 1), by omega, rfl, hlt, p'⟩, fun x H2 y => ?_⟩
    obtain ⟨e, y⟩ := y
    subst e
    exact hs i x σ' _ (y xs q) p
  · have e : i = xs.length := by omega
    subst e
    exact .inl ⟨⟨xs, q, Nat.le_refl _⟩, hd σ' H' p⟩
end
end L2

set_option Elab.async false
set_option linter.all false
set_option maxRecDepth 100000
set_option maxHeartbeats 1000000
/-! Own exceptions below ValueError, with an __init__ of their own: made, raised, passed on, caught. -/
namespace L2
open PySem PySem.Spec PyProof.Rows

section
variable {P : Program} {w : World} {H : Hp} {h : Heap} {a d C : Addr} {dx : Option Addr} {t : Addr} {fs : List (Str × V)}
end


/-! ### what of the text such a class must have -/

/-! ### made -/
section
variable {prog : Program} {w : World} {A : Around} {E : Value → Shared → Prop} {h : Heap} {g : Array GenState} {d : Drawn} {t : Nat} {os : OsState}
variable {nm q : Str} {C N : Addr} {bs bm : List Value} {hdct : Bool} {sn : List Str} {sub : List Value} {ab : Bool} {col : Option Bool} {dd : Option Addr} {k0 k1 k2 k3 k5 : Option Value}
end

section
variable {X : Cx} {CX : CXT} {k : Nat} {f C Mo : Addr} {fd : FuncData} {ps : List Str} {sp : Sp} {E : XK} {x : Str} {p pos : Pos} {e : Expr} {es : List Expr} {t : TA}
end

/-! ### Base.__init__(self, ..) -/
end L2

set_option Elab.async false
set_option linter.all false
set_option maxRecDepth 100000
set_option maxHeartbeats 1000000
namespace L2
open PySem PySem.Spec PyProof.Rows Builtin Builtin.ObjectAttr

/-! ### Base.__init__(self, ..) as an expression -/

/-! ### e.f = value, e an exception -/

end L2

set_option Elab.async false
set_option linter.all false
set_option maxRecDepth 100000
set_option maxHeartbeats 1000000
namespace L2
open PySem PySem.Spec PyProof.Rows

/-! ### in flight -/

section
variable {M : Model} {A : Around} {E : Value → Shared → Prop} {s : Shared} {base h0 : Heap} {H : Hp} {env : Env} {outer : List Env} {L a C : Addr} {dx : Option Addr}
end

/-! ### an exception behind a call -/

section
variable {P : Program} {w : World} {K : PySem.W.Frag} {mg : Str → Option Value} {base : Heap} {N : List Str} {qual : Str} {scope : Scope} {f : Addr} {cd : Value} {A : Around} {outer : List Env} {s : Shared} {H : Hp} {EX : XK}
end

/-! ### raise -/
section
variable {P : Program} {w : World} {K : PySem.W.Frag} {mg : Str → Option Value} {base : Heap} {N : List Str} {qual : Str} {scope : Scope} {f : Addr} {cd : Value} {A : Around} {outer : List Env} {s : Shared} {H : Hp} {EX : XK}
end
end L2

set_option Elab.async false
set_option linter.all false
set_option maxRecDepth 100000
set_option maxHeartbeats 1000000
namespace L2
open PySem PySem.Spec PyProof.Rows

/-! ### try .. except C: .. -/
section
variable {X : Cx} {pins pins' : List (Addr × Obj)} {Ex : Addr → Option Addr → St → Hp → Prop} {σ : St} {H : Hp} {s : Shared} {e : Value}
end
end L2

set_option Elab.async false
set_option linter.all false
set_option maxRecDepth 100000
set_option maxHeartbeats 1000000
namespace L2
open PySem PySem.Spec PyProof.Rows

section
variable {X : Cx} {a b c d : Expr} {ta tb tc td : TE} {pos : Pos}
/-! ### a op b op c op d -/
noncomputable def tChain3 (r r' r'' : R2) (ta tb tc td : TE) : TE := fun σ H Q => ta σ H fun x H1 => tb σ H1 fun y H2 => r x y H2 fun z H3 => ∃ k, z = .bl k ∧
  (if k = true then tc σ H3 fun x2 H4 => r' y x2 H4 fun z2 H5 => ∃ k2, z2 = .bl k2 ∧ (if k2 = true then td σ H5 fun x3 H6 => r'' x2 x3 H6 Q else Q (.bl false) H5) else Q (.bl false) H3)
theorem pt_chain3 {op op' op'' : CmpOp} {r r' r'' : R2} (ho : OpR X (compareOp op) r) (ho' : OpR X (compareOp op') r') (ho'' : OpR X (compareOp op'') r'') (ha : PE X a ta) (hb : PE X b tb) (hc : PE X c tc) (hd : PE X d td)
    (hm : lastMarks [op, op', op''] [b, c, d] = false := by with_unfolding_all rfl) : PT X (.Compare a [op, op', op''] [b, c, d] pos) (tTest (tChain3 r r' r'' ta tb tc td)) := by
  intro pins s σ H Q I h
  refine isTrue_chain (thn (ha pins s σ H _ I h) fun v s1 zz => L2.el5 zz fun x H1 I1 r1 q1 => test_link (thn (hb pins s1 σ H1 _ I1 q1) fun u s2 zz => L2.el5 zz fun y H2 I2 r2 q2 =>
    thn (ho pins s2 σ H2 x y v u _ I2 r1 r2 q2) fun z s3 zz => ?_)) hm
  obtain ⟨z', H3, I3, r3, k, e, q3⟩ := zz
  subst e
  cases r3
  refine wpAny_truthy_bool ?_
  cases k with
  | false =>
    obtain ⟨k', e', q'⟩ := q3
    cases e'
    exact ite_ff ⟨H3, I3, q'⟩
  | true =>
    refine ite_tt (test_link (thn (hc pins s3 σ H3 _ I3 q3) fun x2 s4 zz => L2.el5 zz fun y4 H4 I4 r4 q4 => thn (ho' pins s4 σ H4 y y4 u x2 _ I4 r2 r4 q4) fun z2 s5 zz => ?_))
    obtain ⟨z5, H5, I5, r5, k2, e2, q5⟩ := zz
    subst e2
    cases r5
    refine wpAny_truthy_bool ?_
    cases k2 with
    | false =>
      obtain ⟨k', e', q'⟩ := q5
      cases e'
      exact ite_ff ⟨H5, I5, q'⟩
    | true =>
      refine ite_tt (test_last (thn (hd pins s5 σ H5 _ I5 q5) fun x3 s6 zz => L2.el5 zz fun y6 H6 I6 r6 q6 => thn (ho'' pins s6 σ H6 y4 y6 x2 x3 _ I6 r4 r6 q6) fun z3 s7 zz => ?_))
      obtain ⟨z7, H7, I7, r7, k3, e3, q7⟩ := zz
      subst e3
      cases r7
      exact wpAny_truthy_bool ⟨H7, I7, q7⟩

/-! ### two lists of ints -/

/-! ### isinstance(x, T), T a built-in type -/
theorem call_isinst : CallR X (.builtin "isinstance") (fun xs H Q => ∃ x n t b, xs = [x, .ty n] ∧ TyOf X.K H x t ∧ PySem.W.kitOne X.K t (.type n) = some b ∧ Q (.bl b) H) := by
  intro pins s σ H xs us Q I r h
  obtain ⟨x, n, t, b, rfl, ty, e, q⟩ := h
  obtain ⟨u, v, rfl, r1, r2⟩ := vals2 r
  cases r2
  exact isinst_ok I r1 ty e fun tk => ⟨.bl b, H, I.tok _, rfl, q⟩

/-! ### list(range(n)) -/
end

/-! ### within a block: the readings by the enclosing body's own part -/
section
variable {Y : Cx} {K : PySem.W.Frag} {tg : Expr}
end
end L2

set_option Elab.async false
set_option linter.all false
set_option maxRecDepth 100000
set_option maxHeartbeats 1000000
namespace L2
open PySem PySem.Spec PyProof.Rows

/-! ### try .. except C as e: .. return .. -/
section
variable {P : Program} {w : World} {H : Hp} {h : Heap} {a C : Addr} {dx : Option Addr} {t tb : Value}
end
section
variable {X : Cx} {pins : List (Addr × Obj)} {σ : St} {H : Hp} {s : Shared} {a C : Addr} {dx : Option Addr} {t tb : Value}
end
end L2

set_option Elab.async false
set_option linter.all false
set_option maxRecDepth 100000
set_option maxHeartbeats 1000000
/-! What is asked of an exception that was caught: its kind, its values. -/
namespace L2
open PySem PySem.Spec PyProof.Rows Builtin
section
variable {prog : Program} {w : World} {A : Around} {E : Value → Shared → Prop} {s : Shared} {K : PySem.W.Frag} {x C : Addr} {ox od : Obj} {name : Str}
end

section
variable {X : Cx} {K : PySem.W.Frag} {e : Expr} {f : Str} {pos : Pos} {ta : TE}
end
end L2

set_option Elab.async false
set_option linter.all false
set_option maxRecDepth 100000
set_option maxHeartbeats 1000000
/-! Defs that may be called while an exception is being handled. -/
namespace L2
open PySem PySem.Spec PyProof.Rows






section
variable {P : Program} {w : World} {K : PySem.W.Frag} {mg : Str → Option Value} {base : Heap}
end
section
variable {X : Cx} {CX : CXT} {k : Nat} {f : Addr} {fd : FuncData} {ps : List Str} {sp : Sp} {dvs : List V} {ds : List Value} {E : XK} {x : Str} {p pos : Pos} {e : Expr} {es : List Expr} {t : TA}
end
/-! ### targets -/
end L2

set_option Elab.async false
set_option linter.all false
set_option maxRecDepth 100000
set_option maxHeartbeats 1000000
namespace L2
open PySem PySem.Spec PyProof.Rows
/-! ### two lists, two tuples of flat values -/
noncomputable def allEq (xs ys : List V) : Bool := (List.range xs.length).all fun j => eqV (xs.getD j .non) (ys.getD j .non)
theorem flat_get : ∀ {xs : List V} {j : Nat} {x : V}, xs.all flatV = true → xs[j]? = some x → flatV x = true
  | [], _, _, _, e => by simp at e
  | y :: xs, j, x, h, e => by
    rw [List.all_cons, Bool.and_eq_true] at h
    cases j with
    | zero => simp at e; subst e; exact h.1
    | succ j => exact flat_get h.2 (by simpa using e)
theorem eqAt_of {A : Around} {s : Shared} {xs ys : List V} {us vs : List Value} (r1 : Vals xs us) (r2 : Vals ys vs) (f1 : xs.all flatV = true) (f2 : ys.all flatV = true) (j : Nat) (h1 : j < us.toArray.size) (h2 : j < vs.toArray.size) :
    SeqAt.EqAt A s us.toArray[j] vs.toArray[j] (eqV (xs.getD j .non) (ys.getD j .non)) := by
  have l1 := r1.length
  have l2 := r2.length
  rw [List.size_toArray] at h1 h2
  have g1 : xs[j]? = some (xs.getD j .non) := by rw [List.getD_eq_getElem?_getD, List.getElem?_eq_getElem (by omega)]; rfl
  have g2 : ys[j]? = some (ys.getD j .non) := by rw [List.getD_eq_getElem?_getD, List.getElem?_eq_getElem (by omega)]; rfl
  obtain ⟨u, hu, ru⟩ := r1.get g1
  obtain ⟨v, hv, rv⟩ := r2.get g2
  have e1 : us.toArray[j] = u := by
    have := (List.getElem?_eq_some_iff.mp hu).2
    simpa using this
  have e2 : vs.toArray[j] = v := by
    have := (List.getElem?_eq_some_iff.mp hv).2
    simpa using this
  rw [e1, e2]
  exact eqAt_V ru rv (flat_get f1 g1) (flat_get f2 g2)
section
variable {X : Cx} {K : PySem.W.Frag}
end
end L2

set_option Elab.async false
set_option linter.all false
set_option maxRecDepth 100000
set_option maxHeartbeats 1000000
namespace L2
open PySem PySem.Spec PyProof.Rows
/-! ### min of a list of ints -/
section
variable {X : Cx} {K : PySem.W.Frag}
end
end L2

set_option Elab.async false
set_option linter.all false
set_option maxRecDepth 100000
set_option maxHeartbeats 1000000
namespace L2
open PySem PySem.Spec PyProof.Rows
/-! ### calls in a try's body, the exception's way told with the names' values -/
section
variable {X : Cx} {pins0 : List (Addr × Obj)} {Ex : Addr → Option Addr → St → Hp → Prop} {k : Nat} {f : Addr} {fd : FuncData} {ps : List Str} {sp : Sp} {dvs : List V} {ds : List Value} {x : Str} {p pos : Pos} {e : Expr} {es : List Expr} {t : TA}
end
/-! ### x is not None -/
end L2

set_option Elab.async false
set_option linter.all false
namespace L2
open PySem PySem.Spec PyProof.Rows
noncomputable def tSeqA (t u : TS) : TS := fun D σ H => ∀ N : St → Hp → Prop, (∀ σ' H', u D σ' H' → N σ' H') → t { D with nx := N } σ H
theorem pss_consA {X : Cx} {st : Stmt} {rest : List Stmt} {t u : TS} (h1 : PS X st t) (h2 : PSs X rest u) : PSs X (st :: rest) (tSeqA t u) := fun pins s σ H D I h => pss_cons h1 h2 pins s σ H D I (h (u D) fun _ _ z => z)
end L2

set_option Elab.async false
set_option linter.all false
namespace L2
open PySem PySem.Spec PyProof.Rows
noncomputable def rIxL0 : R2 := fun x y H Q => ∃ p xs i v, x = .ref p ∧ y = .int i ∧ H p = some (.lst xs) ∧ atI xs i = some v ∧ Q v H
noncomputable def rIxT0 : R2 := fun x y H Q => ∃ p xs i v, x = .ref p ∧ y = .int i ∧ H p = some (.tup xs) ∧ atI xs i = some v ∧ Q v H
theorem ix_list0 {X : Cx} : IxR X rIxL0 := by
  intro value slice pins s σ H x y v u Q I rx ry zz hs
  obtain ⟨p, xs, i, v', e1, e2, h, e, q⟩ := zz
  exact ix_list value slice pins s σ H x y v u Q I rx ry ⟨p, xs, i, v', e1, e2, SqL.of h, e, q⟩ hs
theorem ix_tup0 {X : Cx} : IxR X rIxT0 := by
  intro value slice pins s σ H x y v u Q I rx ry zz hs
  obtain ⟨p, xs, i, v', e1, e2, h, e, q⟩ := zz
  exact ix_tup value slice pins s σ H x y v u Q I rx ry ⟨p, xs, i, v', e1, e2, SqT.of h, e, q⟩ hs
theorem rdT {σ : St} {H : Hp} {p : Addr} {xs : List V} {i : Int} {v : V} {Q : VK} (h : H p = some (.tup xs)) (e : atI xs i = some v) (q : Q v H) : tC (.int i) σ H fun y H2 => rIxT0 (.ref p) y H2 Q := ⟨p, xs, i, v, rfl, rfl, h, e, q⟩
theorem rdL {σ : St} {H : Hp} {p : Addr} {xs : List V} {i : Int} {v : V} {Q : VK} (h : H p = some (.lst xs)) (e : atI xs i = some v) (q : Q v H) : tC (.int i) σ H fun y H2 => rIxL0 (.ref p) y H2 Q := ⟨p, xs, i, v, rfl, rfl, h, e, q⟩
theorem rdLv {σ : St} {H : Hp} {p : Addr} {xs : List V} {j : Nat} {i : Int} {v : V} {Q : VK} (h0 : σ[j]? = some (some (.int i))) (h : H p = some (.lst xs)) (e : atI xs i = some v) (q : Q v H) : tVar j σ H fun y H2 => rIxL0 (.ref p) y H2 Q := ⟨.int i, h0, p, xs, i, v, rfl, rfl, h, e, q⟩
end L2

/-! The mathematics of bounds: potentials, the table, functional rings. -/
namespace MA



/-! ### a function's ring -/
end MA

/-! Rounds of pushes, as the program does them. -/
namespace MB
open MA
end MB

/-! The table of the tightest spans, as the program makes it. -/
namespace MB
open MA
/-! it goes down -/
end MB

/-! A round of pushes too many shows a ring that comes to less than nought; else there are times. -/
namespace MB
open MA
end MB

/-! The law's own table, in place; both tables are one. -/
namespace MB
open MA
/-! it goes down -/
end MB

/-! The program's table and the law's. -/
namespace MB
open MA
end MB

set_option Elab.async false
set_option linter.all false
namespace W
open PySem L2
noncomputable def top (i : Nat) : Stmt := PySem.Challenge.pw_momentties_k08_one_fall_one_tie.main.body.getD i (.Pass ⟨0, 0, 0, 0⟩)
noncomputable abbrev sP_room_bounds : Stmt := top 5
noncomputable abbrev sP_span_bounds : Stmt := top 6
noncomputable abbrev sP_bounds_with : Stmt := top 7
noncomputable abbrev sP_told_bounds : Stmt := top 8
noncomputable abbrev sP_falls_by_end : Stmt := top 11
noncomputable abbrev sP_by_sum : Stmt := top 12
noncomputable abbrev sP_by_late : Stmt := top 13
noncomputable abbrev sP_by_soon : Stmt := top 14
noncomputable abbrev sP_by_sure : Stmt := top 15
noncomputable abbrev sP_by_back : Stmt := top 16
noncomputable abbrev sP_by_cross : Stmt := top 17
noncomputable abbrev sP_what_follows : Stmt := top 18
noncomputable abbrev sP_bars_every_hand : Stmt := top 19
noncomputable abbrev sC_Closing_init : Stmt := inClass (top 21) 0
noncomputable abbrev sC_Closing_is_news : Stmt := inClass (top 21) 1
noncomputable abbrev sC_Closing_take : Stmt := inClass (top 21) 2
noncomputable abbrev sC_Closing_draw : Stmt := inClass (top 21) 3
noncomputable abbrev sC_Closing_known_of : Stmt := inClass (top 21) 4
noncomputable abbrev sC_Closing_ties_to : Stmt := inClass (top 21) 5
noncomputable abbrev sC_Closing_draw_from_tie : Stmt := inClass (top 21) 6
noncomputable abbrev sC_Closing_draw_from_wait : Stmt := inClass (top 21) 7
noncomputable abbrev sC_Closing_draw_all : Stmt := inClass (top 21) 8
noncomputable abbrev sC_Closing_best_drawn : Stmt := inClass (top 21) 9
noncomputable abbrev sP_numbers_needed : Stmt := top 22
noncomputable abbrev sP_paper_up_to : Stmt := top 23
noncomputable abbrev sP_is_told : Stmt := top 24
noncomputable abbrev sP_kept : Stmt := top 25
noncomputable abbrev sP_are_two_moments : Stmt := top 31
noncomputable abbrev sP_look_over_size : Stmt := top 32
noncomputable abbrev sP_look_over_ties : Stmt := top 33
noncomputable abbrev sP_look_over_falls : Stmt := top 34
noncomputable abbrev sC_Web_init : Stmt := inClass (top 35) 0
noncomputable abbrev sC_Web_ties : Stmt := inClass (top 35) 1
noncomputable abbrev sC_Web_falls : Stmt := inClass (top 35) 2
noncomputable abbrev sNext : Stmt := top 37
noncomputable abbrev sLaw : Stmt := top 38
end W

set_option Elab.async false
set_option linter.all false
set_option maxRecDepth 100000
set_option maxHeartbeats 4000000
namespace W
open PySem L2

structure Fn (K : PySem.W.Frag) (mg : Str → Option Value) (x : Str) (st : Stmt) (ps : List Str) (f : Addr) (fd : FuncData) : Prop where
  F : Fun K x x st f fd
  b : Binds K fd ps []
  g : mg x = some (.ref f)

end W
namespace L2
open PySem
/-! ### heaps -/
noncomputable def Keep (d : Addr) (H H' : Hp) : Prop := ∀ b o, H b = some o → b ≠ d → H' b = some o
theorem same_new {H : Hp} {p : Addr} {o : HO} (h : H p = none) : Same H (upd H p o) := fun b u e => by rw [upd_ne (ne_of_none e h)]; exact e

end L2
namespace W
open PySem L2
noncomputable def ScrAt (K : PySem.W.Frag) (H : Hp) (sa : Addr) (ns : List Int) : Prop := (∃ o, H sa = some (.frz o (.lst (ns.map V.int)))) ∨
  ∃ (o : Obj) (its : Array Value) (n : Nat), K.lookup sa = some o ∧ o.cls = .type "list" ∧ o.dict = none ∧ o.data = .seq its n ∧ its.size ≤ sizeLine ∧ Vals (ns.map V.int) its.toList
theorem ScrAt.sq {K : PySem.W.Frag} {H : Hp} {sa : Addr} {ns : List Int} (h : ScrAt K H sa ns) : SqL K H sa (ns.map V.int) := by
  rcases h with ⟨o, h⟩ | h
  · exact .inl (.inr ⟨o, h⟩)
  · exact .inr h
theorem ScrAt.same {K : PySem.W.Frag} {H H1 : Hp} {sa : Addr} {ns : List Int} (h : ScrAt K H sa ns) (k : Same H H1) : ScrAt K H1 sa ns := by
  rcases h with ⟨o, h⟩ | h
  · exact .inl ⟨o, k _ _ h⟩
  · exact .inr h
theorem ScrAt.keep {K : PySem.W.Frag} {H H1 : Hp} {sa l : Addr} {ns : List Int} {xs : List V} (h : ScrAt K H sa ns) (k : Keep l H H1) (hl : H l = some (.lst xs)) : ScrAt K H1 sa ns := by
  rcases h with ⟨o, h⟩ | h
  · exact .inl ⟨o, k _ _ h (ne_of h hl (fun z => nomatch z))⟩
  · exact .inr h
structure Dice (K : PySem.W.Frag) (sa : Addr) (H : Hp) (d : Addr) : Prop where
  at_ : ∃ p : Nat, H d = some (.lst [.ref sa, .int p])
  scr : ∃ ns : List Int, ScrAt K H sa ns

noncomputable def spNext (K : PySem.W.Frag) : Sp := fun vs H Q _ => ∃ d sa m, vs = [.ref d, .int m] ∧ Dice K sa H d ∧ 1 ≤ m ∧ ∀ r H', 0 ≤ r → r < m → Dice K sa H' d → Keep d H H' → Q (.int r) H'

section
variable {P : Program} {w : World} {K : PySem.W.Frag} {mg : Str → Option Value} {base : Heap}
theorem scN : FnScope ["_law_dice", "_law_many"] ["_law_dice", "_law_many"] (defScope sNext) := ⟨rfl, rfl, rfl, by decide +kernel, rfl, by decide +kernel, by decide +kernel⟩
theorem ok_next {f : Addr} {fd : FuncData} (F : Fn K mg "_law_next" sNext ["_law_dice", "_law_many"] f fd) (len : mg "len" = none) : FnOk P w K mg base CX0 1 f fd ["_law_dice", "_law_many"] (spNext K) := by
  refine F.F.ok scN (fun vs H Q E h => ?_) (fun cdv A outer s H vs Q E hr h => ?_)
  · obtain ⟨d, sa, m, rfl, _⟩ := h
    rfl
  · obtain ⟨d, sa, m, rfl, D, hm, k⟩ := h
    obtain ⟨⟨p, hd⟩, ⟨ns, hs0⟩⟩ := id D
    refine ⟨_, pss_cons (ps_asg (pe_op op_add (pe_ix ix_list0 (pv 0) pe_int (fun _ _ => rfl)) pe_int) (pg_sub (pv 0) pe_int set_list))
      (pss_cons (ps_if (pt_cmpR op_gt (pe_ix ix_list0 (pv 0) pe_int (fun _ _ => rfl)) (pe_callB call_len_seq (by rfl) len PySem.boot_len (pa_cons (pe_ix ix_list0 (pv 0) pe_int (fun _ _ => rfl)) pa_nil)) (nomark _)) (pss_one (ps_ret pe_int)) pss_nil)
      (pss_one (ps_ret (pe_op op_mod (pe_ix ix_list (pe_ix ix_list0 (pv 0) pe_int (fun _ _ => rfl)) (pe_op op_sub (pe_ix ix_list0 (pv 0) pe_int (fun _ _ => rfl)) pe_int) (fun _ _ => rfl)) (pv 1))))), ?_⟩
    -- dice[1] = dice[1] + 1
    refine ⟨_, rfl, rdL hd rfl ⟨_, _, rfl, rfl, _, rfl, _, _, _, _, rfl, rfl, hd, rfl, ?_⟩⟩
    have hd1 : upd H d (.lst ([V.ref sa, V.int p].set 1 (.int ((p : Int) + 1)))) d = some (.lst [.ref sa, .int ((p : Int) + 1)]) := upd_same
    have kp : Keep d H (upd H d (.lst ([V.ref sa, V.int p].set 1 (.int ((p : Int) + 1))))) := fun b o e n => by rw [upd_ne n]; exact e
    have hs2 := hs0.keep kp hd
    have hs1 := hs2.sq
    have D1 : Dice K sa (upd H d (.lst ([V.ref sa, V.int p].set 1 (.int ((p : Int) + 1))))) d := ⟨⟨p + 1, hd1⟩, ⟨ns, hs2⟩⟩
    -- if dice[1] > len(dice[0])
    refine ⟨_, rfl, rdL hd1 rfl ⟨_, rfl, rdL hd1 rfl ⟨_, _, rfl, .inl hs1, _, _, rfl, rfl, _, rfl, ?_⟩⟩⟩
    refine ite2 (fun _ => ?_) (fun hc => ?_)
    · exact k 0 _ (Int.le_refl _) (by omega) D1 kp
    · have hlt : p < ns.length := by
        rw [List.length_map] at hc
        simp only [decide_eq_true_eq] at hc
        omega
      have ha : atI (ns.map V.int) ((p : Int) + 1 - 1) = some (.int ns[p]) := by
        rw [show (p : Int) + 1 - 1 = ((p : Nat) : Int) by omega]
        exact atI_nat (by rw [List.getElem?_map, List.getElem?_eq_getElem hlt]; rfl)
      refine ⟨_, rfl, rdL hd1 rfl ⟨_, rfl, rdL hd1 rfl ⟨_, _, rfl, rfl, _, _, _, _, rfl, rfl, hs1, ha, _, rfl, _, _, rfl, rfl, (by show (0 : Int) < m; omega), ?_⟩⟩⟩
      exact k _ _ (Int.emod_nonneg _ (by omega)) (Int.emod_lt_of_pos _ (by omega)) D1 kp
end
end W

set_option Elab.async false
set_option linter.all false
set_option maxRecDepth 100000
set_option maxHeartbeats 4000000
namespace L2
open PySem
/-! ### ways that meet -/
noncomputable def tCut (t : TS) : TS := fun D σ H => ∃ R : St → Hp → Prop, t { D with nx := R } σ H ∧ ∀ σ' H', R σ' H' → D.nx σ' H'
theorem ps_cut {X : Cx} {st : Stmt} {t : TS} (h : PS X st t) : PS X st (tCut t) := by
  intro pins s σ H D I hw
  obtain ⟨R, h1, h2⟩ := hw
  refine thn (h pins s σ H _ I h1) fun f s1 q => ?_
  cases f with
  | next => obtain ⟨σ', H', I', r⟩ := q; exact ⟨σ', H', I', h2 σ' H' r⟩
  | brk => exact q
  | cont => exact q
  | ret v => exact q
noncomputable def RowsP (H : Hp) (a : Addr) (ps : List Addr) (rows : List (List Int)) : Prop := H a = some (.lst (ps.map V.ref)) ∧ Paired (fun p r => H p = some (.tup (r.map V.int))) ps rows
noncomputable def RowsAt (H : Hp) (a : Addr) (rows : List (List Int)) : Prop := ∃ ps, RowsP H a ps rows
theorem paired_imp {α β : Type} {F G : α → β → Prop} {l : List α} {m : List β} (h : Paired F l m) (i : ∀ a b, F a b → G a b) : Paired G l m := Paired.mapP h i
theorem RowsP.same {H H' : Hp} {a : Addr} {ps : List Addr} {rows : List (List Int)} (h : RowsP H a ps rows) (k : Same H H') : RowsP H' a ps rows := ⟨k _ _ h.1, paired_imp h.2 fun _ _ e => k _ _ e⟩
theorem RowsAt.same {H H' : Hp} {a : Addr} {rows : List (List Int)} (h : RowsAt H a rows) (k : Same H H') : RowsAt H' a rows := let ⟨ps, r⟩ := h; ⟨ps, r.same k⟩
theorem RowsP.len {H : Hp} {a : Addr} {ps : List Addr} {rows : List (List Int)} (h : RowsP H a ps rows) : ps.length = rows.length := h.2.length
theorem RowsP.push {H : Hp} {a p : Addr} {ps : List Addr} {rows : List (List Int)} {r : List Int} (h : RowsP H a ps rows) (hp : H p = some (.tup (r.map V.int))) : RowsP (upd H a (.lst (ps.map V.ref ++ [.ref p]))) a (ps ++ [p]) (rows ++ [r]) := by
  have na : ∀ q xs, H q = some (.tup xs) → q ≠ a := fun q xs e => ne_of e h.1 (fun z => nomatch z)
  refine ⟨by rw [upd_same, List.map_append]; rfl, Paired.snoc (paired_imp h.2 fun q r e => ?_) ?_⟩
  · rw [upd_ne (na q _ e)]; exact e
  · rw [upd_ne (na p _ hp)]; exact hp
end L2
namespace W
open PySem L2
noncomputable def TieOk (n : Int) (r : List Int) : Prop := ∃ a b l m : Int, r = [a, b, l, m] ∧ 0 ≤ a ∧ a < n ∧ 0 ≤ b ∧ b < n ∧ a ≠ b ∧ -60 ≤ l ∧ l ≤ m ∧ m ≤ 60
theorem paired_get {α β : Type} {F : α → β → Prop} {l : List α} {m : List β} {i : Nat} {a : α} (h : Paired F l m) (e : l[i]? = some a) : ∃ b, m[i]? = some b ∧ F a b := by
  induction h generalizing i with
  | nil => simp at e
  | cons r t ih =>
    cases i with
    | zero => simp at e; subst e; exact ⟨_, rfl, r⟩
    | succ i =>
      obtain ⟨b, h1, h2⟩ := ih (i := i) (by simpa using e)
      exact ⟨b, by simpa using h1, h2⟩
/-! ### a drawn web can be -/
noncomputable def FallOk (n : Int) (r : List Int) : Prop := ∃ a b l m : Int, r = [a, b, l, m] ∧ 0 ≤ a ∧ a < n ∧ 0 < b ∧ b < n ∧ a ≠ b ∧ 1 ≤ l ∧ l ≤ m ∧ m ≤ 60
structure WebOk (n la : Int) (T F : List (List Int)) : Prop where
  n1 : 1 ≤ n
  n2 : n ≤ 8
  l1 : 1 ≤ la
  l2 : la ≤ 60
  tl : T.length ≤ 24
  fl : F.length ≤ 7
  t : ∀ r ∈ T, TieOk n r
  f : ∀ r ∈ F, FallOk n r
  one : ∀ (i j : Nat) r r', F[i]? = some r → F[j]? = some r' → r[1]? = r'[1]? → i = j
  own : ∀ r ∈ F, ∀ r' ∈ F, r[0]? ≠ r'[1]?
end W

set_option Elab.async false
set_option linter.all false
set_option maxRecDepth 100000
set_option maxHeartbeats 4000000
namespace L2
open PySem PySem.Spec PyProof.Rows
section
variable {P : Program} {w : World} {K : PySem.W.Frag} {mg : Str → Option Value} {base : Heap}
end
theorem iteD {c A B : Prop} [Decidable c] (hc : c) (h : A) : if decide c = true then A else B := by
  rw [decide_eq_true hc]
  exact iteT h
theorem iteDN {c A B : Prop} [Decidable c] (hc : ¬ c) (h : B) : if decide c = true then A else B := by
  rw [decide_eq_false hc]
  exact iteF h
theorem bl_of {Q : VK} {H : Hp} {b b' : Bool} (k : Q (.bl b) H) (e : b = b') : Q (.bl b') H := e ▸ k
theorem inV_ints {a : Int} : ∀ {ns : List Int}, inV (.int a) (ns.map V.int) = decide (a ∈ ns)
  | [] => by simp [inV]
  | n :: r => by
    have ih := inV_ints (a := a) (ns := r)
    unfold inV at ih ⊢
    rw [List.map_cons, List.any_cons, ih]
    show ((n == a) || decide (a ∈ r)) = decide (a ∈ n :: r)
    by_cases e : n = a
    · subst e; simp
    · have : ¬ a = n := fun z => e z.symm
      simp [e, this]
theorem flat_ints : ∀ {ns : List Int}, (ns.map V.int).all flatV = true
  | [] => rfl
  | n :: r => by
    rw [List.map_cons, List.all_cons, flat_ints (ns := r)]
    rfl
theorem cut_take {α : Type} {xs : List α} {i : Nat} (h : i ≤ xs.length) : (xs.drop (HT.sIx xs.length 0 none)).take (HT.sIx xs.length xs.length (some (i : Int)) - HT.sIx xs.length 0 none) = xs.take i := by
  rw [HT.sIx_none, HT.sIx_nat, List.drop_zero, Nat.sub_zero, Nat.min_eq_left h]
end L2
namespace W
open PySem L2
structure TxtW (mg : Str → Option Value) : Prop where
  mm : ∃ t, mg "MOST_MOMENTS" = some (.int 8 t)
  ll : ∃ t, mg "LATEST_LAST" = some (.int 60 t)
  ws : ∃ t, mg "WIDEST_SPAN" = some (.int 60 t)
  lf : ∃ t, mg "LONGEST_FALL" = some (.int 60 t)
  list : mg "list" = none
noncomputable def spTwo : Sp := fun vs H Q _ => ∃ n a b, vs = [.int n, .int a, .int b] ∧ Q (.bl (decide (0 ≤ a ∧ a < n ∧ 0 ≤ b ∧ b < n ∧ a ≠ b))) H
noncomputable def spSize : Sp := fun vs H Q _ => ∃ n la, vs = [.int n, .int la] ∧ 1 ≤ n ∧ n ≤ 8 ∧ 1 ≤ la ∧ la ≤ 60 ∧ Q .non H
noncomputable def spLTies : Sp := fun vs H Q _ => ∃ n a T, vs = [.int n, .ref a] ∧ RowsAt H a T ∧ (∀ r ∈ T, TieOk n r) ∧ Q .non H
noncomputable def spLFalls : Sp := fun vs H Q _ => ∃ n a la T F, vs = [.int n, .ref a] ∧ RowsAt H a F ∧ WebOk n la T F ∧ ∀ H', Same H H' → Q .non H'
section
variable {P : Program} {w : World} {K : PySem.W.Frag} {mg : Str → Option Value} {base : Heap}
theorem sc2 : FnScope ["many", "one", "other"] ["many", "one", "other"] (defScope sP_are_two_moments) := ⟨rfl, rfl, rfl, by decide +kernel, rfl, by decide +kernel, by decide +kernel⟩
theorem ok_two {f : Addr} {fd : FuncData} (F : Fn K mg "are_two_moments" sP_are_two_moments ["many", "one", "other"] f fd) : FnOk P w K mg base CX0 1 f fd ["many", "one", "other"] spTwo := by
  refine F.F.ok sc2 (fun vs H Q E h => ?_) (fun cdv A outer s H vs Q E hr h => ?_)
  · obtain ⟨n, a, b, rfl, _⟩ := h
    rfl
  · obtain ⟨n, a, b, rfl, k⟩ := h
    refine ⟨_, pss_one (ps_ret (pe_and (pe_chain op_le op_lt pe_int (pv 1) (pv 0)) (pe_and (pe_chain op_le op_lt pe_int (pv 2) (pv 0)) (pe_one (pe_cmpR op_ne (pv 1) (pv 2) (nomark _)))))), ?_⟩
    refine ⟨_, rfl, _, _, rfl, rfl, _, rfl, ite2 (fun h1 => ⟨_, rfl, _, _, rfl, rfl, _, rfl, ite2 (fun h2 => ⟨_, rfl, _, _, rfl, rfl, _, rfl, ite2 (fun h3 => ⟨_, rfl, _, _, rfl, rfl, _, rfl, ite2 (fun h4 => ⟨_, rfl, _, rfl, rfl, ?_⟩) (fun h4 => ?_)⟩) (fun h3 => ⟨false, rfl, iteF ?_⟩)⟩) (fun h2 => ?_)⟩) (fun h1 => ⟨false, rfl, iteF ?_⟩)⟩
    all_goals simp only [decide_eq_true_eq] at *
    · refine bl_of (Q := Q) k ?_
      by_cases e : a = b
      · subst e; simp
      · simp [e]; omega
    all_goals (refine bl_of (Q := Q) k (decide_eq_false fun z => ?_); omega)
theorem scS : FnScope ["many", "last"] ["many", "last"] (defScope sP_look_over_size) := ⟨rfl, rfl, rfl, by decide +kernel, rfl, by decide +kernel, by decide +kernel⟩
theorem ok_size {f : Addr} {fd : FuncData} (F : Fn K mg "look_over_size" sP_look_over_size ["many", "last"] f fd) (T : TxtW mg) : FnOk P w K mg base CX0 1 f fd ["many", "last"] spSize := by
  obtain ⟨t1, m1⟩ := T.mm
  obtain ⟨t2, m2⟩ := T.ll
  refine F.F.ok scS (fun vs H Q E h => ?_) (fun cdv A outer s H vs Q E hr h => ?_)
  · obtain ⟨n, a, rfl, _⟩ := h
    rfl
  · obtain ⟨n, la, rfl, n1, n2, l1, l2, k⟩ := h
    refine ⟨_, pss_cons (ps_if (pt_not (pt_chain op_le op_le pe_int (pv 0) (pe_glob (v := .int 8) rfl m1 ⟨_, rfl⟩))) pss_never pss_nil) (pss_one (ps_if (pt_not (pt_chain op_le op_le pe_int (pv 1) (pe_glob (v := .int 60) rfl m2 ⟨_, rfl⟩))) pss_never pss_nil)), ?_⟩
    refine ⟨_, rfl, _, _, rfl, rfl, _, rfl, iteD n1 ⟨_, _, rfl, rfl, _, rfl, iteNS n2 ?_⟩⟩
    exact ⟨_, rfl, _, _, rfl, rfl, _, rfl, iteD l1 ⟨_, _, rfl, rfl, _, rfl, iteNS l2 k⟩⟩
noncomputable abbrev nLT : List Str := ["many", "ties", "at", "one", "other", "least", "most"]
theorem scLT : FnScope nLT ["many", "ties"] (defScope sP_look_over_ties) := ⟨rfl, rfl, rfl, by decide +kernel, rfl, by decide +kernel, by decide +kernel⟩
theorem ok_lties {f f2 : Addr} {fd fd2 : FuncData} (F : Fn K mg "look_over_ties" sP_look_over_ties ["many", "ties"] f fd) (T : TxtW mg) (F2 : Fn K mg "are_two_moments" sP_are_two_moments ["many", "one", "other"] f2 fd2)
    (G2 : FnOk P w K mg base CX0 1 f2 fd2 ["many", "one", "other"] spTwo) : FnOk P w K mg base CX0 2 f fd ["many", "ties"] spLTies := by
  obtain ⟨t1, m1⟩ := T.ws
  refine F.F.ok scLT (fun vs H Q E h => ?_) (fun cdv A outer s H vs Q E hr h => ?_)
  · obtain ⟨n, a, _, rfl, _⟩ := h
    rfl
  · obtain ⟨n, a, rows, rfl, ⟨ps, R⟩, hok, k⟩ := h
    refine ⟨_, pss_cons (ps_set (i := 2) scLT.nd rfl (Or.inl rfl) pe_int) (pss_one (ps_for PassesOwn.never rfl (pi_list (pv 1))
      (pg_tup rfl (pgs_cons (pg_name (i := 3) scLT.nd rfl (Or.inl rfl)) (pgs_cons (pg_name (i := 4) scLT.nd rfl (Or.inl rfl)) (pgs_cons (pg_name (i := 5) scLT.nd rfl (Or.inl rfl)) (pgs_cons (pg_name (i := 6) scLT.nd rfl (Or.inl rfl)) pgs_nil)))))
      (pss_cons (ps_if (pt_not (pt_val (pe_call G2 hr rfl F2.g F2.F.kp F2.b .nil pass0 (pa_cons (pv 0) (pa_cons (pv 3) (pa_cons (pv 4) pa_nil)))))) pss_never pss_nil)
      (pss_cons (ps_if (pt_not (pt_chain3 op_le op_le op_le (pe_un un_neg (pe_glob (v := .int 60) rfl m1 ⟨_, rfl⟩)) (pv 5) (pv 6) (pe_glob (v := .int 60) rfl m1 ⟨_, rfl⟩))) pss_never pss_nil)
      (pss_one (ps_aug (i := 2) scLT.nd rfl (Or.inl rfl) pe_int ip_add)))))), ?_⟩
    refine ⟨_, rfl, a, rfl, ⟨_, SqL.of R.1⟩, for_list (K := K) (a := a) (xs := ps.map V.ref) (fun i σ' H' => ∃ z v1 v2 v3 v4, σ' = [some (.int n), some (.ref a), some (.int z), v1, v2, v3, v4] ∧ H' = H) ⟨0, none, none, none, none, rfl, rfl⟩ ?_ ?_ ?_⟩
    · rintro i σ' H' _ ⟨z, v1, v2, v3, v4, rfl, rfl⟩
      exact SqL.of R.1
    · rintro i x σ' H' hx ⟨z, v1, v2, v3, v4, rfl, rfl⟩
      rw [List.getElem?_map] at hx
      cases hq : ps[i]? with
      | none => rw [hq] at hx; cases hx
      | some q =>
        rw [hq] at hx
        cases hx
        obtain ⟨r, hr', hqt⟩ := paired_get R.2 hq
        obtain ⟨a', b', l, m, rfl, h1, h2, h3, h4, h5, h6, h7, h8⟩ := hok r (List.mem_of_getElem? hr')
        refine ⟨q, _, rfl, SqT.of hqt, rfl, _, _, rfl, _, _, rfl, _, _, rfl, _, _, rfl, rfl, ?_⟩
        refine ⟨_, rfl, _, rfl, _, rfl, n, a', b', rfl, _, rfl, iteNS ⟨h1, h2, h3, h4, h5⟩ ?_⟩
        refine ⟨_, rfl, _, rfl, _, _, rfl, rfl, _, rfl, iteD (by omega) ⟨_, rfl, _, _, rfl, rfl, _, rfl, iteD h7 ⟨_, _, rfl, rfl, _, rfl, iteNS h8 ?_⟩⟩⟩
        exact ⟨_, rfl, _, _, rfl, rfl, _, _, _, _, _, rfl, rfl⟩
    · rintro σ' H' ⟨z, v1, v2, v3, v4, rfl, rfl⟩
      exact k
end
end W

set_option Elab.async false
set_option linter.all false
set_option maxRecDepth 100000
set_option maxHeartbeats 4000000
namespace L2
open PySem PySem.Spec PyProof.Rows
theorem iteB {b : Bool} {A B : Prop} (e : b = false) (h : B) : if b = true then A else B := by
  rw [e]
  exact iteF h
theorem iteBT {b : Bool} {A B : Prop} (e : b = true) (h : A) : if b = true then A else B := by
  rw [e]
  exact iteT h
theorem putF_len (f : Str) (v : V) : ∀ fs : List (Str × V), (putF f v fs).length ≤ fs.length + 1
  | [] => Nat.le_refl _
  | (g, x) :: r => by
    unfold putF
    split
    · exact Nat.le_succ _
    · exact Nat.succ_le_succ (putF_len f v r)
theorem RowsP.get {H : Hp} {a : Addr} {ps : List Addr} {rows : List (List Int)} (R : RowsP H a ps rows) {i : Nat} {x : V} (hx : (ps.map V.ref)[i]? = some x) : ∃ q r, x = .ref q ∧ ps[i]? = some q ∧ rows[i]? = some r ∧ H q = some (.tup (r.map V.int)) := by
  rw [List.getElem?_map] at hx
  cases hq : ps[i]? with
  | none => rw [hq] at hx; cases hx
  | some q =>
    rw [hq] at hx
    cases hx
    obtain ⟨r, hr', hqt⟩ := W.paired_get R.2 hq
    exact ⟨q, r, rfl, rfl, hr', hqt⟩
end L2
namespace W
open PySem L2
noncomputable def endI (r : List Int) : Int := r.getD 1 0
structure TxtC (K : PySem.W.Frag) (mg : Str → Option Value) (C : Addr) : Prop where
  cl : Cls K C
  nM : NoAttr K C "many"
  nL : NoAttr K C "last"
  nT : NoAttr K C "told_ties"
  nF : NoAttr K C "told_falls"
  mgC : mg "Web" = some (.ref C)
noncomputable def wflds (n la : Int) (ta fa : Addr) : List (Str × V) := putF "told_falls" (.ref fa) (putF "told_ties" (.ref ta) (putF "last" (.int la) (putF "many" (.int n) [])))
theorem k1 : ¬ (("many" : Str) = "told_falls") := by decide +kernel
theorem k2 : ¬ (("many" : Str) = "told_ties") := by decide +kernel
theorem k3 : ¬ (("many" : Str) = "last") := by decide +kernel
theorem k4 : ¬ (("last" : Str) = "told_falls") := by decide +kernel
theorem k5 : ¬ (("last" : Str) = "told_ties") := by decide +kernel
theorem k6 : ¬ (("told_ties" : Str) = "told_falls") := by decide +kernel
theorem w_many (n la : Int) (ta fa : Addr) : (wflds n la ta fa).lookup ("many" : Str) = some (.int n) := by
  unfold wflds
  rw [lookup_putF, if_neg k1, lookup_putF, if_neg k2, lookup_putF, if_neg k3, lookup_putF, if_pos rfl]
theorem w_last (n la : Int) (ta fa : Addr) : (wflds n la ta fa).lookup ("last" : Str) = some (.int la) := by
  unfold wflds
  rw [lookup_putF, if_neg k4, lookup_putF, if_neg k5, lookup_putF, if_pos rfl]
theorem w_ties (n la : Int) (ta fa : Addr) : (wflds n la ta fa).lookup ("told_ties" : Str) = some (.ref ta) := by
  unfold wflds
  rw [lookup_putF, if_neg k6, lookup_putF, if_pos rfl]
theorem w_falls (n la : Int) (ta fa : Addr) : (wflds n la ta fa).lookup ("told_falls" : Str) = some (.ref fa) := by
  unfold wflds
  rw [lookup_putF, if_pos rfl]
theorem w_no (n la : Int) (ta fa : Addr) {m : Str} (h1 : ¬ m = "told_falls") (h2 : ¬ m = "told_ties") (h3 : ¬ m = "last") (h4 : ¬ m = "many") : (wflds n la ta fa).lookup m = none := by
  unfold wflds
  rw [lookup_putF, if_neg h1, lookup_putF, if_neg h2, lookup_putF, if_neg h3, lookup_putF, if_neg h4]
  all_goals rfl
noncomputable def WebAt (C : Addr) (H : Hp) (p : Addr) (n la : Int) (T F : List (List Int)) : Prop := ∃ dx ta fa, H p = some (.ins C dx (wflds n la ta fa)) ∧ RowsAt H ta T ∧ RowsAt H fa F
theorem WebAt.same {C p : Addr} {H H' : Hp} {n la : Int} {T F : List (List Int)} (h : WebAt C H p n la T F) (k : Same H H') : WebAt C H' p n la T F := by
  obtain ⟨dx, ta, fa, e, r1, r2⟩ := h
  exact ⟨dx, ta, fa, k _ _ e, r1.same k, r2.same k⟩
noncomputable def spInit (C : Addr) : Sp := fun vs H Q _ => ∃ p dx n la a b T F, vs = [.ref p, .int n, .int la, .ref a, .ref b] ∧ H p = some (.ins C dx []) ∧ RowsAt H a T ∧ RowsAt H b F ∧ WebOk n la T F ∧
  ∀ H', WebAt C H' p n la T F → Keep p H H' → Q .non H'
noncomputable def spGet (C : Addr) (g : List (List Int) → List (List Int) → List (List Int)) : Sp := fun vs H Q _ => ∃ p n la T F, vs = [.ref p] ∧ WebAt C H p n la T F ∧ ∀ l H', H l = none → Same H H' → RowsAt H' l (g T F) → Q (.ref l) H'
section
variable {P : Program} {w : World} {K : PySem.W.Frag} {mg : Str → Option Value} {base : Heap}
noncomputable abbrev nLF : List Str := ["many", "falls", "ends", "at", "one", "other", "least", "most"]
theorem scLF : FnScope nLF ["many", "falls"] (defScope sP_look_over_falls) := ⟨rfl, rfl, rfl, by decide +kernel, rfl, by decide +kernel, by decide +kernel⟩
theorem coLF : CompOk (defScope sP_look_over_falls) nLF (fsc [(".0", .local), ("fall", .local)]) ["fall"] [none] := ⟨rfl, by decide +kernel, by decide +kernel, by decide +kernel, rfl, by decide +kernel⟩
theorem nd1 {x : Str} : ([x] : List Str).Nodup := by simp
theorem ok_lfalls {f f2 : Addr} {fd fd2 : FuncData} (F : Fn K mg "look_over_falls" sP_look_over_falls ["many", "falls"] f fd) (T : TxtW mg) (F2 : Fn K mg "are_two_moments" sP_are_two_moments ["many", "one", "other"] f2 fd2)
    (G2 : FnOk P w K mg base CX0 1 f2 fd2 ["many", "one", "other"] spTwo) : FnOk P w K mg base CX0 2 f fd ["many", "falls"] spLFalls := by
  obtain ⟨t1, m1⟩ := T.lf
  refine F.F.ok scLF (fun vs H Q E h => ?_) (fun cdv A outer s H vs Q E hr h => ?_)
  · obtain ⟨n, a, _, _, _, rfl, _⟩ := h
    rfl
  · obtain ⟨n, a, la, TT, rows, rfl, ⟨ps, R⟩, hok, k⟩ := h
    refine ⟨_, pss_cons (ps_setC (i := 2) scLF.nd rfl rfl rfl (pi_list (pv 1)) coLF (fun cl ex s0 H0 => ⟨pg_name (i := 0) nd1 rfl (Or.inl rfl), pif_none, pe_ix ix_tup0 (pv 0) pe_int (fun _ _ => rfl)⟩))
      (pss_cons (ps_set (i := 3) scLF.nd rfl (Or.inl rfl) pe_int) (pss_one (ps_for PassesOwn.never rfl (pi_list (pv 1))
      (pg_tup rfl (pgs_cons (pg_name (i := 4) scLF.nd rfl (Or.inl rfl)) (pgs_cons (pg_name (i := 5) scLF.nd rfl (Or.inl rfl)) (pgs_cons (pg_name (i := 6) scLF.nd rfl (Or.inl rfl)) (pgs_cons (pg_name (i := 7) scLF.nd rfl (Or.inl rfl)) pgs_nil)))))
      (pss_cons (ps_if (PW.pt (pw_or (pt_not (pt_val (pe_call G2 hr rfl F2.g F2.F.kp F2.b .nil pass0 (pa_cons (pv 0) (pa_cons (pv 4) (pa_cons (pv 5) pa_nil)))))) (pw_or1 (pt_cmpR op_in_seq (pv 4) (pv 2) (by with_unfolding_all rfl))))) pss_never pss_nil)
      (pss_cons (ps_if (PW.pt (pw_or (pt_cmpR op_eq (pv 5) pe_int (nomark _)) (pw_or1 (pt_cmpR op_in_seq (pv 5) (pe_slice sl_list (pv 2) po_none (po_some (pv 3))) (by with_unfolding_all rfl))))) pss_never pss_nil)
      (pss_cons (ps_if (pt_not (pt_chain3 op_le op_le op_le pe_int (pv 6) (pv 7) (pe_glob (v := .int 60) rfl m1 ⟨_, rfl⟩))) pss_never pss_nil)
      (pss_one (ps_aug (i := 3) scLF.nd rfl (Or.inl rfl) pe_int ip_add)))))))), ?_⟩
    -- ends = [fall[1] for fall in falls]
    refine ⟨_, rfl, a, rfl, ⟨_, SqL.of R.1⟩, fun Da hDa => ?_⟩
    refine comp_list (xs := ps.map V.ref) (fun j σ' H' => ∃ v, σ' = [v] ∧ H' Da = some (.lst (((rows.take j).map endI).map V.int)) ∧ Same H H') ?_ ?_ ?_ ?_
    · exact ⟨none, rfl, upd_same, same_new hDa⟩
    · rintro j σ' H1 _ ⟨v, rfl, _, s1⟩
      exact SqL.of (s1 _ _ R.1)
    · rintro j x σ' H1 hx ⟨v, rfl, e1, s1⟩
      obtain ⟨q, r, rfl, hq, hr', hqt⟩ := R.get hx
      obtain ⟨a', b', l, m, rfl, _⟩ := hok.f r (List.mem_of_getElem? hr')
      refine ⟨_, rfl, rdT (s1 _ _ hqt) rfl ⟨_, e1, ?_, _, rfl, ?_, fun b o e => ?_⟩⟩
      · rw [List.length_map, List.length_map, List.length_take]
        have := hok.fl
        exact small1000 (by omega)
      · rw [upd_same, List.take_succ, hr', List.map_append, List.map_append]
        rfl
      · rw [upd_ne (ne_of_none e hDa)]
        exact s1 _ _ e
    · rintro σ' H1 ⟨v, rfl, e1, s1⟩
      have hl : rows.take (ps.map V.ref).length = rows := by
        rw [List.length_map, R.len]
        exact List.take_length
      rw [hl] at e1
      have R1 := R.same s1
      -- the rows
      refine ⟨_, rfl, a, rfl, ⟨_, SqL.of R1.1⟩, for_list (K := K) (a := a) (xs := ps.map V.ref) (fun i σ' H' => ∃ z v1 v2 v3 v4, z = (i : Int) ∧ σ' = [some (.int n), some (.ref a), some (.ref Da), some (.int z), v1, v2, v3, v4] ∧ Same H1 H') ⟨0, none, none, none, none, rfl, rfl, Same.refl _⟩ ?_ ?_ ?_⟩
      · rintro i σ' H' _ ⟨z, v1, v2, v3, v4, _, rfl, s2⟩
        exact SqL.of (s2 _ _ R1.1)
      · rintro i x σ' H2 hx ⟨z, v1, v2, v3, v4, rfl, rfl, s2⟩
        have R2 := R1.same s2
        obtain ⟨q, r, rfl, hq, hr', hqt⟩ := R2.get hx
        have hmem := List.mem_of_getElem? hr'
        obtain ⟨a', b', l, m, e4, h1, h2, h3, h4, h5, h6, h7, h8⟩ := hok.f r hmem
        subst e4
        have e2 := s2 _ _ e1
        refine ⟨q, _, rfl, SqT.of hqt, rfl, _, _, rfl, _, _, rfl, _, _, rfl, _, _, rfl, rfl, ?_⟩
        refine ⟨_, rfl, _, rfl, _, rfl, n, a', b', rfl, _, rfl, iteNS ⟨h1, h2, by omega, h4, h5⟩ ?_⟩
        refine ⟨_, rfl, _, rfl, Da, _, rfl, .inl (SqL.of e2), rfl, flat_ints, _, rfl, iteB ?_ ?_⟩
        · show inV _ _ = false
          rw [inV_ints]
          refine decide_eq_false fun z => ?_
          obtain ⟨r', hr2, e⟩ := List.mem_map.mp z
          obtain ⟨a2, b2, l2, m2, e5, _⟩ := hok.f r' hr2
          subst e5
          refine hok.own _ hmem _ hr2 ?_
          have e6 : b2 = a' := e
          show some a' = some b2
          rw [e6]
        · refine ⟨_, rfl, rfl, _, rfl, iteDN (by intro z; have := V.int.inj z; omega) ?_⟩
          refine ⟨_, rfl, _, rfl, _, rfl, _, rfl, Da, _, rfl, SqL.of e2, fun p hp => ⟨p, _, rfl, .inl (SqL.of upd_same), rfl, ?_, _, rfl, iteB ?_ ?_⟩⟩
          · unfold cutV
            rw [cut_take (by rw [List.length_map, List.length_map]; exact Nat.le_of_lt (List.getElem?_eq_some_iff.mp hr').1), ← List.map_take]
            exact flat_ints
          · show inV _ _ = false
            unfold cutV
            rw [cut_take (by rw [List.length_map, List.length_map]; exact Nat.le_of_lt (List.getElem?_eq_some_iff.mp hr').1), ← List.map_take, inV_ints]
            refine decide_eq_false fun z => ?_
            obtain ⟨j, hj⟩ := List.mem_iff_getElem?.mp z
            have hji : j < i := by
              have := (List.getElem?_eq_some_iff.mp hj).1
              rw [List.length_take] at this
              omega
            rw [List.getElem?_take_of_lt hji, List.getElem?_map] at hj
            cases hr2 : rows[j]? with
            | none => rw [hr2] at hj; cases hj
            | some r' =>
              rw [hr2] at hj
              have e : endI r' = b' := Option.some.inj hj
              obtain ⟨a2, b2, l2, m2, e5, _⟩ := hok.f r' (List.mem_of_getElem? hr2)
              subst e5
              have e6 : b2 = b' := e
              have := hok.one j i _ _ hr2 hr' (by show some b2 = some b'; rw [e6])
              omega
          · refine ⟨_, rfl, _, _, rfl, rfl, _, rfl, iteD h6 ⟨_, rfl, _, _, rfl, rfl, _, rfl, iteD h7 ⟨_, _, rfl, rfl, _, rfl, iteNS h8 ?_⟩⟩⟩
            exact ⟨_, rfl, _, _, rfl, rfl, _, _, _, _, _, (by show (i : Int) + 1 = _; omega), rfl, s2.trans (same_new hp)⟩
      · rintro σ' H' ⟨z, v1, v2, v3, v4, _, rfl, s2⟩
        exact k _ (s1.trans s2)
theorem scI : FnScope ["self", "many", "last", "ties", "falls"] ["self", "many", "last", "ties", "falls"] (defScope sC_Web_init) := ⟨rfl, rfl, rfl, by decide +kernel, rfl, by decide +kernel, by decide +kernel⟩
theorem ok_init {f C fS fT fF : Addr} {fd fdS fdT fdF : FuncData} (F : Fun K "__init__" "Web.__init__" sC_Web_init f fd) (T : TxtW mg) (TC : TxtC K mg C)
    (FS : Fn K mg "look_over_size" sP_look_over_size ["many", "last"] fS fdS) (GS : FnOk P w K mg base CX0 1 fS fdS ["many", "last"] spSize)
    (FT : Fn K mg "look_over_ties" sP_look_over_ties ["many", "ties"] fT fdT) (GT : FnOk P w K mg base CX0 2 fT fdT ["many", "ties"] spLTies)
    (FF : Fn K mg "look_over_falls" sP_look_over_falls ["many", "falls"] fF fdF) (GF : FnOk P w K mg base CX0 2 fF fdF ["many", "falls"] spLFalls) :
    FnOk P w K mg base CX0 3 f fd ["self", "many", "last", "ties", "falls"] (spInit C) := by
  refine F.ok scI (fun vs H Q E h => ?_) (fun cdv A outer s H vs Q E hr h => ?_)
  · obtain ⟨p, dx, n, la, a, b, _, _, rfl, _⟩ := h
    rfl
  · obtain ⟨p, dx, n, la, a, b, rT, rF, rfl, hp, RT, RF, hok, k⟩ := h
    have hr1 : Room 1 _ := hr.mono (by decide)
    refine ⟨_, pss_cons (ps_expr (pe_call GS hr1 rfl FS.g FS.F.kp FS.b .nil pass0 (pa_cons (pv 1) (pa_cons (pv 2) pa_nil))))
      (pss_cons (ps_expr (pe_call GT hr rfl FT.g FT.F.kp FT.b .nil pass0 (pa_cons (pv 1) (pa_cons (pv 3) pa_nil))))
      (pss_cons (ps_expr (pe_call GF hr rfl FF.g FF.F.kp FF.b .nil pass0 (pa_cons (pv 1) (pa_cons (pv 4) pa_nil))))
      (pss_cons (ps_fld (pv 0) (pv 1) rfl) (pss_cons (ps_fld (pv 0) (pv 2) rfl)
      (pss_cons (ps_fld (pv 0) (pe_callTy call_list_of (by rfl) T.list (by decide +kernel) (pa_cons (pv 3) pa_nil)) rfl)
      (pss_one (ps_fld (pv 0) (pe_callTy call_list_of (by rfl) T.list (by decide +kernel) (pa_cons (pv 4) pa_nil)) rfl))))))), ?_⟩
    refine ⟨_, rfl, _, rfl, n, la, rfl, hok.n1, hok.n2, hok.l1, hok.l2, ?_⟩
    refine ⟨_, rfl, _, rfl, n, a, rT, rfl, RT, hok.t, ?_⟩
    refine ⟨_, rfl, _, rfl, n, b, la, rT, rF, rfl, RF, hok, fun H1 s1 => ?_⟩
    have hp1 := s1 _ _ hp
    have RT1 := RT.same s1
    have RF1 := RF.same s1
    obtain ⟨ps1, Q1⟩ := RT1
    obtain ⟨ps2, Q2⟩ := RF1
    refine ⟨_, rfl, _, rfl, p, C, dx, _, rfl, hp1, TC.cl, TC.nM, (by show 0 < 1000; decide), ?_⟩
    refine ⟨_, rfl, _, rfl, p, C, dx, _, rfl, upd_same, TC.cl, TC.nL, (by show 1 < 1000; decide), ?_⟩
    rw [upd_upd]
    have kp : ∀ {o : HO}, Keep p H1 (upd H1 p o) := fun {o} b u e ne => by rw [upd_ne ne]; exact e
    have np : ∀ {x : Addr} {xs : List V}, H1 x = some (.lst xs) → x ≠ p := fun {x xs} e => ne_of e hp1 (fun z => nomatch z)
    refine ⟨_, rfl, a, _, rfl, .inl (SqL.of (by rw [upd_ne (np Q1.1)]; exact Q1.1)), fun l1 hl1 => ?_⟩
    have l1p : l1 ≠ p := Ne.symm (ne_of_none upd_same hl1)
    have hl1' : H1 l1 = none := by rw [upd_ne l1p] at hl1; exact hl1
    refine ⟨_, rfl, p, C, dx, _, rfl, (by rw [upd_ne (Ne.symm l1p), upd_same]), TC.cl, TC.nT, Nat.lt_of_le_of_lt (putF_len _ _ _) (by show 2 < 1000; decide), ?_⟩
    generalize hH2 : upd (upd (upd H1 p (.ins C dx (putF "last" (.int la) (putF "many" (.int n) [])))) l1 (.lst (ps1.map V.ref))) p (.ins C dx (putF "told_ties" (.ref l1) (putF "last" (.int la) (putF "many" (.int n) [])))) = H2
    have k2' : Keep p H1 H2 := fun x o e ne => by rw [← hH2, upd_ne ne, upd_ne (ne_of_none e hl1'), upd_ne ne]; exact e
    have p2 : H2 p = some (.ins C dx (putF "told_ties" (.ref l1) (putF "last" (.int la) (putF "many" (.int n) [])))) := by rw [← hH2, upd_same]
    have l2 : H2 l1 = some (.lst (ps1.map V.ref)) := by rw [← hH2, upd_ne l1p, upd_same]
    refine ⟨_, rfl, b, _, rfl, .inl (SqL.of (k2' _ _ Q2.1 (np Q2.1))), fun l3 hl3 => ?_⟩
    have l3p : l3 ≠ p := Ne.symm (ne_of_none p2 hl3)
    have l31 : l3 ≠ l1 := Ne.symm (ne_of_none l2 hl3)
    have hl3' : H1 l3 = none := by
      cases q : H1 l3 with
      | none => rfl
      | some o => rw [k2' _ _ q l3p] at hl3; cases hl3
    refine ⟨_, rfl, p, C, dx, _, rfl, (by rw [upd_ne (Ne.symm l3p)]; exact p2), TC.cl, TC.nF, Nat.lt_of_le_of_lt (putF_len _ _ _) (Nat.lt_of_le_of_lt (Nat.succ_le_succ (putF_len _ _ _)) (by show 3 < 1000; decide)), ?_⟩
    generalize hH4 : upd (upd H2 l3 (.lst (ps2.map V.ref))) p (.ins C dx (putF "told_falls" (.ref l3) (putF "told_ties" (.ref l1) (putF "last" (.int la) (putF "many" (.int n) []))))) = H4
    have k4' : Keep p H1 H4 := fun x o e ne => by rw [← hH4, upd_ne ne, upd_ne (ne_of_none e hl3')]; exact k2' _ _ e ne
    have tp : ∀ {x : Addr} {xs : List V}, H1 x = some (.tup xs) → x ≠ p := fun {x xs} e => ne_of e hp1 (fun z => nomatch z)
    refine k H4 ⟨dx, l1, l3, by rw [← hH4, upd_same]; rfl, ⟨ps1, ?_, paired_imp Q1.2 fun x r e => k4' _ _ e (tp e)⟩, ⟨ps2, ?_, paired_imp Q2.2 fun x r e => k4' _ _ e (tp e)⟩⟩ (fun x o e ne => k4' _ _ (s1 _ _ e) ne)
    · rw [← hH4, upd_ne l1p, upd_ne (Ne.symm l31)]; exact l2
    · rw [← hH4, upd_ne l3p, upd_same]
theorem scG1 : FnScope ["self"] ["self"] (defScope sC_Web_ties) := ⟨rfl, rfl, rfl, by decide +kernel, rfl, by decide +kernel, by decide +kernel⟩
theorem scG2 : FnScope ["self"] ["self"] (defScope sC_Web_falls) := ⟨rfl, rfl, rfl, by decide +kernel, rfl, by decide +kernel, by decide +kernel⟩
theorem ok_tiesM {f C : Addr} {fd : FuncData} (F : Fun K "ties" "Web.ties" sC_Web_ties f fd) (T : TxtW mg) (TC : TxtC K mg C) : FnOk P w K mg base CX0 1 f fd ["self"] (spGet C fun T _ => T) := by
  refine F.ok scG1 (fun vs H Q E h => ?_) (fun cdv A outer s H vs Q E hr h => ?_)
  · obtain ⟨p, _, _, _, _, rfl, _⟩ := h
    rfl
  · obtain ⟨p, n, la, rT, rF, rfl, ⟨dx, ta, fa, hp, ⟨ps, R⟩, _⟩, k⟩ := h
    refine ⟨_, pss_one (ps_ret (pe_callTy call_list_of (by rfl) T.list (by decide +kernel) (pa_cons (pe_fld (pv 0) rfl) pa_nil))), ?_⟩
    refine ⟨_, rfl, p, C, dx, _, _, rfl, hp, TC.cl, TC.nT, w_ties _ _ _ _, ta, _, rfl, .inl (SqL.of R.1), fun l hl => ?_⟩
    exact k l _ hl (same_new hl) ⟨ps, upd_same, (R.same (same_new hl)).2⟩
theorem ok_fallsM {f C : Addr} {fd : FuncData} (F : Fun K "falls" "Web.falls" sC_Web_falls f fd) (T : TxtW mg) (TC : TxtC K mg C) : FnOk P w K mg base CX0 1 f fd ["self"] (spGet C fun _ F => F) := by
  refine F.ok scG2 (fun vs H Q E h => ?_) (fun cdv A outer s H vs Q E hr h => ?_)
  · obtain ⟨p, _, _, _, _, rfl, _⟩ := h
    rfl
  · obtain ⟨p, n, la, rT, rF, rfl, ⟨dx, ta, fa, hp, _, ⟨ps, R⟩⟩, k⟩ := h
    refine ⟨_, pss_one (ps_ret (pe_callTy call_list_of (by rfl) T.list (by decide +kernel) (pa_cons (pe_fld (pv 0) rfl) pa_nil))), ?_⟩
    refine ⟨_, rfl, p, C, dx, _, _, rfl, hp, TC.cl, TC.nF, w_falls _ _ _ _, fa, _, rfl, .inl (SqL.of R.1), fun l hl => ?_⟩
    exact k l _ hl (same_new hl) ⟨ps, upd_same, (R.same (same_new hl)).2⟩
end
end W

set_option Elab.async false
set_option linter.all false
set_option maxRecDepth 100000
set_option maxHeartbeats 4000000
namespace L2
open PySem PySem.Spec PyProof.Rows
theorem paired_append {α β : Type} {F : α → β → Prop} {l l' : List α} {m m' : List β} (h : Paired F l m) (h' : Paired F l' m') : Paired F (l ++ l') (m ++ m') := by
  induction h with
  | nil => exact h'
  | cons r t ih => exact .cons r ih
theorem RowsP.cat {H : Hp} {a b p : Addr} {ps qs : List Addr} {r s : List (List Int)} (h1 : RowsP H a ps r) (h2 : RowsP H b qs s) (hp : H p = none) : RowsP (upd H p (.lst (ps.map V.ref ++ qs.map V.ref))) p (ps ++ qs) (r ++ s) :=
  ⟨by rw [upd_same, List.map_append], paired_append (h1.same (same_new hp)).2 (h2.same (same_new hp)).2⟩
theorem RowsP.more {H0 H : Hp} {l p : Addr} {ps : List Addr} {rows : List (List Int)} {r : List Int} (h : RowsP H l ps rows) (s : Same H0 H) (hl : H0 l = none) (hp : H p = none) :
    RowsP (upd (upd H p (.tup (r.map V.int))) l (.lst (ps.map V.ref ++ [.ref p]))) l (ps ++ [p]) (rows ++ [r]) ∧ Same H0 (upd (upd H p (.tup (r.map V.int))) l (.lst (ps.map V.ref ++ [.ref p]))) ∧ upd H p (.tup (r.map V.int)) l = some (.lst (ps.map V.ref)) := by
  have R := h.same (same_new (o := .tup (r.map V.int)) hp)
  refine ⟨R.push upd_same, fun b o e => ?_, R.1⟩
  rw [upd_ne (ne_of_none e hl), upd_ne (ne_of_none (s _ _ e) hp)]
  exact s _ _ e
end L2
namespace W
open PySem L2
noncomputable def roomB (la : Int) : Nat → List (List Int)
  | 0 => []
  | k + 1 => roomB la k ++ [[0, (k : Int) + 1, la], [(k : Int) + 1, 0, 0]]
theorem roomB_len (la : Int) : ∀ k, (roomB la k).length = 2 * k
  | 0 => rfl
  | k + 1 => by unfold roomB; rw [List.length_append, roomB_len la k]; rfl
noncomputable def spanR : List Int → List (List Int)
  | [a, b, l, m] => [[a, b, m], [b, a, -l]]
  | _ => []
noncomputable def spanB (rows : List (List Int)) : List (List Int) := (rows.map spanR).flatten
noncomputable def Four (rows : List (List Int)) : Prop := ∀ r ∈ rows, ∃ a b l m : Int, r = [a, b, l, m]
theorem spanB_len : ∀ {rows : List (List Int)}, Four rows → (spanB rows).length = 2 * rows.length
  | [], _ => rfl
  | r :: t, h => by
    obtain ⟨a, b, l, m, rfl⟩ := h _ List.mem_cons_self
    have ih := spanB_len (rows := t) fun r hr => h r (List.mem_cons_of_mem _ hr)
    unfold spanB at ih ⊢
    rw [List.map_cons, List.flatten_cons, List.length_append, ih, List.length_cons]
    show 2 + 2 * t.length = 2 * (t.length + 1)
    omega
theorem WebOk.fourT {n la : Int} {T F : List (List Int)} (h : WebOk n la T F) : Four T := fun r hr => by
  obtain ⟨a, b, l, m, e, _⟩ := h.t r hr
  exact ⟨a, b, l, m, e⟩
theorem WebOk.fourF {n la : Int} {T F : List (List Int)} (h : WebOk n la T F) : Four F := fun r hr => by
  obtain ⟨a, b, l, m, e, _⟩ := h.f r hr
  exact ⟨a, b, l, m, e⟩
noncomputable def allB (n la : Int) (T F : List (List Int)) : List (List Int) := roomB la (n - 1).toNat ++ spanB T ++ spanB F
structure TxtB (mg : Str → Option Value) : Prop where
  range : mg "range" = none
noncomputable def spRoom (C : Addr) : Sp := fun vs H Q _ => ∃ p n la T F, vs = [.ref p] ∧ WebAt C H p n la T F ∧ 1 ≤ n ∧ n ≤ 8 ∧ ∀ l H', H l = none → Same H H' → RowsAt H' l (roomB la (n - 1).toNat) → Q (.ref l) H'
noncomputable def spSpan : Sp := fun vs H Q _ => ∃ a rows, vs = [.ref a] ∧ RowsAt H a rows ∧ Four rows ∧ rows.length ≤ 100 ∧ ∀ l H', H l = none → Same H H' → RowsAt H' l (spanB rows) → Q (.ref l) H'
noncomputable def spWith (C : Addr) : Sp := fun vs H Q _ => ∃ p a n la T F T', vs = [.ref p, .ref a] ∧ WebAt C H p n la T F ∧ WebOk n la T F ∧ RowsAt H a T' ∧ Four T' ∧ T'.length ≤ 100 ∧ ∀ l H', H l = none → Same H H' → RowsAt H' l (allB n la T' F) → Q (.ref l) H'
noncomputable def spTold (C : Addr) : Sp := fun vs H Q _ => ∃ p n la T F, vs = [.ref p] ∧ WebAt C H p n la T F ∧ WebOk n la T F ∧ ∀ l H', H l = none → Same H H' → RowsAt H' l (allB n la T F) → Q (.ref l) H'
section
variable {P : Program} {w : World} {K : PySem.W.Frag} {mg : Str → Option Value} {base : Heap}
theorem scRb : FnScope ["web", "bounds", "moment"] ["web"] (defScope sP_room_bounds) := ⟨rfl, rfl, rfl, by decide +kernel, rfl, by decide +kernel, by decide +kernel⟩
theorem ok_room {f C : Addr} {fd : FuncData} (F : Fn K mg "room_bounds" sP_room_bounds ["web"] f fd) (T : TxtB mg) (TC : TxtC K mg C) : FnOk P w K mg base CX0 1 f fd ["web"] (spRoom C) := by
  refine F.F.ok scRb (fun vs H Q E h => ?_) (fun cdv A outer s H vs Q E hr h => ?_)
  · obtain ⟨p, _, _, _, _, rfl, _⟩ := h
    rfl
  · obtain ⟨p, n, la, rT, rF, rfl, ⟨dx, ta, fa, hp, _, _⟩, n1, n2, k⟩ := h
    refine ⟨_, pss_cons (ps_set (i := 1) scRb.nd rfl (Or.inl rfl) (pe_lst pa_nil))
      (pss_cons (ps_for PassesOwn.never rfl (pi_range2 rfl T.range (pa_cons pe_int (pa_cons (pe_fld (pv 0) rfl) pa_nil))) (pg_name (i := 2) scRb.nd rfl (Or.inl rfl))
        (pss_cons (ps_expr (pe_bm PySem.F.plainAttrs_list PySem.F.slot_list_append PySem.F.type_list_append mt_append (pv 1) (pa_cons (pe_tup (pa_cons pe_int (pa_cons (pv 2) (pa_cons (pe_fld (pv 0) rfl) pa_nil)))) pa_nil)))
        (pss_one (ps_expr (pe_bm PySem.F.plainAttrs_list PySem.F.slot_list_append PySem.F.type_list_append mt_append (pv 1) (pa_cons (pe_tup (pa_cons (pv 2) (pa_cons pe_int (pa_cons pe_int pa_nil)))) pa_nil))))))
      (pss_one (ps_ret (pv 1)))), ?_⟩
    refine ⟨Nat.zero_le _, fun l hl => ?_⟩
    have s0 := same_new (o := .lst []) hl
    refine ⟨_, rfl, p, C, dx, _, _, rfl, s0 _ _ hp, TC.cl, TC.nM, w_many _ _ _ _, 1, n, rfl, ⟨by decide, by decide, by omega, by omega⟩, ?_⟩
    refine for_range (n := (n - 1).toNat) (fun i σ' H' => ∃ v ps, σ' = [some (.ref p), some (.ref l), v] ∧ RowsP H' l ps (roomB la i) ∧ Same H H') ⟨none, [], rfl, ⟨upd_same, .nil⟩, s0⟩ ?_ ?_
    · rintro i σ' H1 hi ⟨v, ps, rfl, R1, s1⟩
      have small : ∀ j : Nat, j ≤ 20 → j < sizeLine := fun j hj => small1000 (by omega)
      refine ⟨_, rfl, .inl ⟨rfl, _, SqL.of R1.1⟩, _, rfl, _, rfl, p, C, dx, _, _, rfl, s1 _ _ hp, TC.cl, TC.nL, w_last _ _ _ _, by show 3 ≤ sizeLine; decide, fun p1 hp1 => ?_⟩
      obtain ⟨R2, s2, e2⟩ := R1.more (r := [0, 1 + (i : Int), la]) s1 hl hp1
      refine ⟨l, _, _, rfl, rfl, e2, ?_, ?_⟩
      · rw [List.length_map, R1.len, roomB_len]; exact small _ (by omega)
      refine ⟨_, rfl, .inl ⟨rfl, _, SqL.of R2.1⟩, _, rfl, by show 3 ≤ sizeLine; decide, fun p2 hp2 => ?_⟩
      obtain ⟨R3, s3, e3⟩ := R2.more (r := [1 + (i : Int), 0, 0]) s2 hl hp2
      refine ⟨l, _, _, rfl, rfl, e3, ?_, ?_⟩
      · rw [List.length_map, R2.len, List.length_append, roomB_len]; exact small _ (by simp; omega)
      refine ⟨_, ps ++ [p1] ++ [p2], rfl, ?_, s3⟩
      have e : roomB la (i + 1) = roomB la i ++ [[0, 1 + (i : Int), la]] ++ [[1 + (i : Int), 0, 0]] := by
        rw [List.append_assoc, Int.add_comm 1 (i : Int)]
        rfl
      rw [e]
      exact R3
    · rintro σ' H1 ⟨v, ps, rfl, R1, s1⟩
      exact ⟨_, rfl, k l _ hl s1 ⟨ps, R1⟩⟩
noncomputable abbrev nSb : List Str := ["spans", "bounds", "one", "other", "least", "most"]
theorem scSb : FnScope nSb ["spans"] (defScope sP_span_bounds) := ⟨rfl, rfl, rfl, by decide +kernel, rfl, by decide +kernel, by decide +kernel⟩
theorem ok_span {f : Addr} {fd : FuncData} (F : Fn K mg "span_bounds" sP_span_bounds ["spans"] f fd) : FnOk P w K mg base CX0 1 f fd ["spans"] spSpan := by
  refine F.F.ok scSb (fun vs H Q E h => ?_) (fun cdv A outer s H vs Q E hr h => ?_)
  · obtain ⟨a, _, rfl, _⟩ := h
    rfl
  · obtain ⟨a, rows, rfl, ⟨qs, R⟩, h4, hlen, k⟩ := h
    refine ⟨_, pss_cons (ps_set (i := 1) scSb.nd rfl (Or.inl rfl) (pe_lst pa_nil))
      (pss_cons (ps_for PassesOwn.never rfl (pi_list (pv 0))
        (pg_tup rfl (pgs_cons (pg_name (i := 2) scSb.nd rfl (Or.inl rfl)) (pgs_cons (pg_name (i := 3) scSb.nd rfl (Or.inl rfl)) (pgs_cons (pg_name (i := 4) scSb.nd rfl (Or.inl rfl)) (pgs_cons (pg_name (i := 5) scSb.nd rfl (Or.inl rfl)) pgs_nil)))))
        (pss_cons (ps_expr (pe_bm PySem.F.plainAttrs_list PySem.F.slot_list_append PySem.F.type_list_append mt_append (pv 1) (pa_cons (pe_tup (pa_cons (pv 2) (pa_cons (pv 3) (pa_cons (pv 5) pa_nil)))) pa_nil)))
        (pss_one (ps_expr (pe_bm PySem.F.plainAttrs_list PySem.F.slot_list_append PySem.F.type_list_append mt_append (pv 1) (pa_cons (pe_tup (pa_cons (pv 3) (pa_cons (pv 2) (pa_cons (pe_un un_neg (pv 4)) pa_nil)))) pa_nil))))))
      (pss_one (ps_ret (pv 1)))), ?_⟩
    refine ⟨Nat.zero_le _, fun l hl => ?_⟩
    have s0 := same_new (o := .lst []) hl
    refine ⟨_, rfl, a, rfl, ⟨_, SqL.of (s0 _ _ R.1)⟩, for_list (K := K) (a := a) (xs := qs.map V.ref) (fun i σ' H' => ∃ v1 v2 v3 v4 ps, σ' = [some (.ref a), some (.ref l), v1, v2, v3, v4] ∧ RowsP H' l ps (spanB (rows.take i)) ∧ Same H H') ⟨none, none, none, none, [], rfl, ⟨upd_same, .nil⟩, s0⟩ ?_ ?_ ?_⟩
    · rintro i σ' H1 _ ⟨v1, v2, v3, v4, ps, rfl, R1, s1⟩
      exact SqL.of (s1 _ _ R.1)
    · rintro i x σ' H1 hx ⟨v1, v2, v3, v4, ps, rfl, R1, s1⟩
      obtain ⟨q, r, rfl, hq, hr', hqt⟩ := R.get hx
      obtain ⟨a', b', le, mo, e4⟩ := h4 r (List.mem_of_getElem? hr')
      subst e4
      have hi : i < rows.length := (List.getElem?_eq_some_iff.mp hr').1
      have h4' : Four (rows.take i) := fun r hr => h4 r (List.mem_of_mem_take hr)
      have hl1 : (spanB (rows.take i)).length ≤ 200 := by rw [spanB_len h4', List.length_take]; omega
      refine ⟨q, _, rfl, SqT.of (s1 _ _ hqt), rfl, _, _, rfl, _, _, rfl, _, _, rfl, _, _, rfl, rfl, ?_⟩
      refine ⟨_, rfl, .inl ⟨rfl, _, SqL.of R1.1⟩, _, rfl, _, rfl, _, rfl, by show 3 ≤ sizeLine; decide, fun p1 hp1 => ?_⟩
      obtain ⟨R2, s2, e2⟩ := R1.more (r := [a', b', mo]) s1 hl hp1
      refine ⟨l, _, _, rfl, rfl, e2, ?_, ?_⟩
      · rw [List.length_map, R1.len]; exact small1000 (by omega)
      refine ⟨_, rfl, .inl ⟨rfl, _, SqL.of R2.1⟩, _, rfl, _, rfl, _, rfl, _, rfl, by show 3 ≤ sizeLine; decide, fun p2 hp2 => ?_⟩
      obtain ⟨R3, s3, e3⟩ := R2.more (r := [b', a', -le]) s2 hl hp2
      refine ⟨l, _, _, rfl, rfl, e3, ?_, ?_⟩
      · rw [List.length_map, R2.len, List.length_append]; exact small1000 (by simp; omega)
      refine ⟨_, _, _, _, ps ++ [p1] ++ [p2], rfl, ?_, s3⟩
      have e : spanB (rows.take (i + 1)) = spanB (rows.take i) ++ [[a', b', mo]] ++ [[b', a', -le]] := by
        unfold spanB
        rw [List.take_succ, hr', List.map_append, List.flatten_append, List.append_assoc]
        rfl
      rw [e]
      exact R3
    · rintro σ' H1 ⟨v1, v2, v3, v4, ps, rfl, R1, s1⟩
      have hle : rows.take (qs.map V.ref).length = rows := by
        rw [List.length_map, R.len]
        exact List.take_length
      rw [hle] at R1
      exact ⟨_, rfl, k l _ hl s1 ⟨ps, R1⟩⟩
theorem scBw : FnScope ["web", "ties"] ["web", "ties"] (defScope sP_bounds_with) := ⟨rfl, rfl, rfl, by decide +kernel, rfl, by decide +kernel, by decide +kernel⟩
theorem ok_with {f C fR fS fM : Addr} {fd fdR fdS fdM : FuncData} (F : Fn K mg "bounds_with" sP_bounds_with ["web", "ties"] f fd) (TC : TxtC K mg C)
    (FR : Fn K mg "room_bounds" sP_room_bounds ["web"] fR fdR) (GR : FnOk P w K mg base CX0 1 fR fdR ["web"] (spRoom C))
    (FS : Fn K mg "span_bounds" sP_span_bounds ["spans"] fS fdS) (GS : FnOk P w K mg base CX0 1 fS fdS ["spans"] spSpan)
    (mF : Meth K C "falls" fM) (bF : Binds K fdM ["self"] []) (GF : FnOk P w K mg base CX0 1 fM fdM ["self"] (spGet C fun _ F => F)) : FnOk P w K mg base CX0 2 f fd ["web", "ties"] (spWith C) := by
  refine F.F.ok scBw (fun vs H Q E h => ?_) (fun cdv A outer s H vs Q E hr h => ?_)
  · obtain ⟨p, a, _, _, _, _, _, rfl, _⟩ := h
    rfl
  · obtain ⟨p, a, n, la, rT, rF, T', rfl, W0, hok, RT, hT4, hTl, k⟩ := h
    refine ⟨_, pss_one (ps_ret (pe_op op_cat (pe_op op_cat (pe_call GR hr rfl FR.g FR.F.kp FR.b .nil pass0 (pa_cons (pv 0) pa_nil)) (pe_call GS hr rfl FS.g FS.F.kp FS.b .nil pass0 (pa_cons (pv 1) pa_nil)))
      (pe_call GS hr rfl FS.g FS.F.kp FS.b .nil pass0 (pa_cons (pe_meth0 (pv 0) TC.cl mF GF hr bF .nil pass0) pa_nil)))), ?_⟩
    refine ⟨_, rfl, p, n, la, rT, rF, rfl, W0, hok.n1, hok.n2, fun l1 H1 hl1 s1 R1 => ?_⟩
    refine ⟨_, rfl, a, T', rfl, RT.same s1, hT4, hTl, fun l2 H2 hl2 s2 R2 => ?_⟩
    obtain ⟨ps1, R1'⟩ := R1.same s2
    obtain ⟨ps2, R2⟩ := R2
    have e1 := R1'.len
    have e2 := R2.len
    rw [roomB_len] at e1
    rw [spanB_len hT4] at e2
    have n2 := hok.n2
    refine ⟨l1, l2, _, _, rfl, rfl, R1'.1, R2.1, ?_, fun l3 hl3 => ?_⟩
    · rw [List.length_map, List.length_map]; exact Nat.le_of_lt (small1000 (by omega))
    have R3 := R1'.cat R2 hl3
    have s3 := same_new (o := .lst (ps1.map V.ref ++ ps2.map V.ref)) hl3
    have s13 := (s1.trans s2).trans s3
    obtain ⟨dx, ta, fa, hp, _, _⟩ := id (W0.same s13)
    refine ⟨_, rfl, p, dx, _, rfl, hp, w_no _ _ _ _ (by decide +kernel) (by decide +kernel) (by decide +kernel) (by decide +kernel), p, n, la, rT, rF, rfl, W0.same s13, fun l4 H4 hl4 s4 R4 => ?_⟩
    refine ⟨l4, rF, rfl, R4, hok.fourF, by have := hok.fl; omega, fun l5 H5 hl5 s5 R5 => ?_⟩
    have R3' := (R3.same s4).same s5
    obtain ⟨ps5, R5⟩ := R5
    have e5 := R5.len
    rw [spanB_len hok.fourF] at e5
    have fl := hok.fl
    refine ⟨l3, l5, _, _, rfl, rfl, R3'.1, R5.1, ?_, fun l6 hl6 => ?_⟩
    · rw [List.length_map, List.length_map, List.length_append]; exact Nat.le_of_lt (small1000 (by omega))
    have s5' := (s13.trans s4).trans s5
    exact k l6 _ (s5'.free hl6) (s5'.trans (same_new hl6)) ⟨_, R3'.cat R5 hl6⟩
theorem scTo : FnScope ["web"] ["web"] (defScope sP_told_bounds) := ⟨rfl, rfl, rfl, by decide +kernel, rfl, by decide +kernel, by decide +kernel⟩
theorem ok_told {f C fB fM : Addr} {fd fdB fdM : FuncData} (F : Fn K mg "told_bounds" sP_told_bounds ["web"] f fd) (TC : TxtC K mg C)
    (FB : Fn K mg "bounds_with" sP_bounds_with ["web", "ties"] fB fdB) (GB : FnOk P w K mg base CX0 2 fB fdB ["web", "ties"] (spWith C))
    (mT : Meth K C "ties" fM) (bT : Binds K fdM ["self"] []) (GT : FnOk P w K mg base CX0 1 fM fdM ["self"] (spGet C fun T _ => T)) : FnOk P w K mg base CX0 3 f fd ["web"] (spTold C) := by
  refine F.F.ok scTo (fun vs H Q E h => ?_) (fun cdv A outer s H vs Q E hr h => ?_)
  · obtain ⟨p, _, _, _, _, rfl, _⟩ := h
    rfl
  · obtain ⟨p, n, la, rT, rF, rfl, W0, hok, k⟩ := h
    have hr1 : Room 1 _ := hr.mono (by decide)
    refine ⟨_, pss_one (ps_ret (pe_call GB hr rfl FB.g FB.F.kp FB.b .nil pass0 (pa_cons (pv 0) (pa_cons (pe_meth0 (pv 0) TC.cl mT GT hr1 bT .nil pass0) pa_nil)))), ?_⟩
    obtain ⟨dx, ta, fa, hp, _, _⟩ := id W0
    refine ⟨_, rfl, _, rfl, p, dx, _, rfl, hp, w_no _ _ _ _ (by decide +kernel) (by decide +kernel) (by decide +kernel) (by decide +kernel), p, n, la, rT, rF, rfl, W0, fun l1 H1 hl1 s1 R1 => ?_⟩
    exact ⟨p, l1, n, la, rT, rF, rT, rfl, W0.same s1, hok, R1, hok.fourT, by have := hok.tl; omega, fun l H' hl s' R => k l H' (s1.free hl) (s1.trans s') R⟩
end
end W

set_option Elab.async false
set_option linter.all false
set_option maxRecDepth 100000
set_option maxHeartbeats 1000000
namespace L2
open PySem PySem.Spec PyProof.Rows
/-! ### lists of pairs as tables -/
section
variable {κ : Type} [DecidableEq κ]
noncomputable def valV (kvs : List (κ × V)) (k : κ) : Option V := (kvs.find? fun kv => decide (kv.1 = k)).map (·.2)
noncomputable def putK (kvs : List (κ × V)) (k : κ) (v : V) : List (κ × V) :=
  if (kvs.any fun kv => decide (kv.1 = k)) = true then kvs.map (fun kv => if kv.1 = k then (kv.1, v) else kv) else kvs ++ [(k, v)]

theorem valV_pos {p : κ × V} {r : List (κ × V)} {k : κ} (e : p.1 = k) : valV (p :: r) k = some p.2 := by simp [valV, List.find?_cons, e]
theorem valV_neg {p : κ × V} {r : List (κ × V)} {k : κ} (e : ¬ p.1 = k) : valV (p :: r) k = valV r k := by simp [valV, List.find?_cons, e]
theorem valV_any (k : κ) : ∀ kvs : List (κ × V), (kvs.any fun kv => decide (kv.1 = k)) = (valV kvs k).isSome
  | [] => rfl
  | p :: r => by
    rw [List.any_cons]
    by_cases e : p.1 = k
    · simp only [valV_pos e, decide_eq_true e, Bool.true_or, Option.isSome_some]
    · rw [valV_neg e, decide_eq_false e, Bool.false_or]; exact valV_any k r
theorem valV_map (k j : κ) (y : V) : ∀ kvs : List (κ × V), valV (kvs.map fun kv => if kv.1 = k then (kv.1, y) else kv) j = (valV kvs j).map fun x => if j = k then y else x
  | [] => rfl
  | p :: r => by
    have ih := valV_map k j y r
    rw [List.map_cons]
    by_cases h : p.1 = k
    · rw [if_pos h]
      by_cases e : p.1 = j
      · rw [valV_pos (p := (p.1, y)) e, valV_pos e, Option.map_some, if_pos (e.symm.trans h)]
      · rw [valV_neg (p := (p.1, y)) e, valV_neg e, ih]
    · rw [if_neg h]
      by_cases e : p.1 = j
      · rw [valV_pos (p := p) e, valV_pos e, Option.map_some, if_neg (fun z => h (e.trans z))]
      · rw [valV_neg (p := p) e, valV_neg e, ih]
theorem valV_snoc (k j : κ) (y : V) : ∀ kvs : List (κ × V), valV kvs k = none → valV (kvs ++ [(k, y)]) j = if j = k then some y else valV kvs j
  | [], _ => by
    by_cases e : k = j
    · rw [if_pos e.symm]; exact valV_pos (p := (k, y)) e
    · rw [if_neg (fun z => e z.symm)]; exact valV_neg (p := (k, y)) e
  | p :: r, hn => by
    rw [List.cons_append]
    have hk : ¬ p.1 = k := fun z => by rw [valV_pos z] at hn; cases hn
    rw [valV_neg hk] at hn
    have ih := valV_snoc k j y r hn
    by_cases e : p.1 = j
    · rw [valV_pos e, valV_pos e, if_neg (fun z => hk (e.trans z))]
    · rw [valV_neg e, valV_neg e, ih]
theorem valV_put (kvs : List (κ × V)) (k j : κ) (y : V) : valV (putK kvs k y) j = if j = k then some y else valV kvs j := by
  unfold putK
  by_cases a : (kvs.any fun kv => decide (kv.1 = k)) = true
  · rw [if_pos a, valV_map]
    rw [valV_any] at a
    by_cases e : j = k
    · obtain ⟨x, hx⟩ := Option.isSome_iff_exists.mp a
      rw [if_pos e, e, hx, Option.map_some, if_pos rfl]
    · rw [if_neg e]
      cases valV kvs j with
      | none => rfl
      | some x => rw [Option.map_some, if_neg e]
  · rw [if_neg a]
    refine valV_snoc k j y kvs ?_
    rw [valV_any] at a
    cases q : valV kvs k with
    | none => rfl
    | some x => rw [q] at a; exact (a rfl).elim
theorem length_putK (kvs : List (κ × V)) (k : κ) (v : V) : (putK kvs k v).length ≤ kvs.length + 1 := by
  unfold putK
  split
  · rw [List.length_map]; omega
  · rw [List.length_append, List.length_cons, List.length_nil]; omega

theorem RelO.isSome_eq {o : Option V} {u : Option Value} (r : RelO o u) : o.isSome = u.isSome := by
  cases o with
  | none => cases u with
    | none => rfl
    | some _ => exact (show False from r).elim
  | some _ => cases u with
    | none => exact (show False from r).elim
    | some _ => rfl

theorem KV.val {kvs : List (κ × V)} {vs : List (κ × Value)} (r : KV kvs vs) (k : κ) : RelO (valV kvs k) (valueAt vs k) := by
  unfold KV at r
  induction r with
  | nil => exact True.intro
  | @cons p q ps qs h t ih =>
    obtain ⟨h1, h2⟩ := h
    by_cases e : p.1 = k
    · have e' : q.1 = k := h1.symm.trans e
      have b : valueAt (q :: qs) k = some q.2 := by simp [valueAt, List.find?_cons, e']
      rw [valV_pos e, b]; exact h2
    · have e' : ¬ q.1 = k := fun z => e (h1.trans z)
      have b : valueAt (q :: qs) k = valueAt qs k := by simp [valueAt, List.find?_cons, e']
      rw [valV_neg e, b]; exact ih
theorem KV.any {kvs : List (κ × V)} {vs : List (κ × Value)} (r : KV kvs vs) (k : κ) : (kvs.any fun kv => decide (kv.1 = k)) = vs.any fun kv => decide (kv.1 = k) := by
  unfold KV at r
  induction r with
  | nil => rfl
  | cons h t ih => rw [List.any_cons, List.any_cons, ih, h.1]
theorem KV.repl {kvs : List (κ × V)} {vs : List (κ × Value)} (r : KV kvs vs) (k : κ) {y : V} {u : Value} (ry : RelV y u) :
    KV (kvs.map fun kv => if kv.1 = k then (kv.1, y) else kv) (vs.map fun kv => if kv.1 = k then (kv.1, u) else kv) := by
  unfold KV at r ⊢
  induction r with
  | nil => exact .nil
  | @cons p q ps qs h t ih =>
    rw [List.map_cons, List.map_cons]
    refine .cons ?_ ih
    obtain ⟨h1, h2⟩ := h
    by_cases e : p.1 = k
    · rw [if_pos e, if_pos (h1.symm.trans e)]; exact ⟨h1, ry⟩
    · rw [if_neg e, if_neg (fun z => e (h1.trans z))]; exact ⟨h1, h2⟩
theorem KV.put {kvs : List (κ × V)} {vs : List (κ × Value)} (r : KV kvs vs) (k : κ) {y : V} {u : Value} (ry : RelV y u) : KV (putK kvs k y) (stored vs k u) := by
  unfold putK stored
  rw [r.any k]
  by_cases e : (vs.any fun kv => decide (kv.1 = k)) = true
  · rw [if_pos e, if_pos e]; exact r.repl k ry
  · rw [if_neg e, if_neg e]; exact Paired.snoc r ⟨rfl, ry⟩
theorem KV.length {kvs : List (κ × V)} {vs : List (κ × Value)} (r : KV kvs vs) : kvs.length = vs.length := Paired.length r
end


/-! ### a tracked dict, its keys ints and texts or tuples of these -/
theorem kV_is {P : Program} {w : World} {k : Key} {u : Value} (r : RelV (kV k) u) : (mixKind P w).is k u = true := by
  cases k with
  | inl i => obtain ⟨t, e⟩ := (show ∃ t, u = Value.int i t from r); subst e; exact mixKind_int P w i t
  | inr x => obtain ⟨t, e⟩ := (show ∃ t, u = Value.str x t from r); subst e; exact mixKind_str P w x t
theorem items_are {P : Program} {w : World} : ∀ {ks : List Key} {us : List Value}, Vals (ks.map kV) us → ItemsAre (mixKind P w) ks us
  | [], _, r => by rw [List.map_nil] at r; cases r; exact .nil
  | k :: ks, _, r => by
    rw [List.map_cons] at r
    cases r with
    | cons h t => exact .cons (kV_is h) (items_are t)

noncomputable abbrev KT (H : Hp) : List (List Key × V) → List (List Key × Addr × Value) → Prop := Paired fun p q => p.1 = q.1 ∧ H q.2.1 = some (.tup (p.1.map kV)) ∧ RelV p.2 q.2.2
theorem KT.val {H : Hp} {kvs : List (List Key × V)} {xs : List (List Key × Addr × Value)} (r : KT H kvs xs) (k : List Key) : RelO (valV kvs k) ((atKey xs k).map (·.2)) := by
  induction r with
  | nil => exact True.intro
  | @cons p q ps qs h t ih =>
    obtain ⟨h1, _, h2⟩ := h
    by_cases e : p.1 = k
    · have e' : q.1 = k := h1.symm.trans e
      have b : atKey (q :: qs) k = some q.2 := by simp [atKey, List.find?_cons, e']
      rw [valV_pos e, b]; exact h2
    · have e' : ¬ q.1 = k := fun z => e (h1.trans z)
      have b : atKey (q :: qs) k = atKey qs k := by simp [atKey, List.find?_cons, e']
      rw [valV_neg e, b]; exact ih
theorem KT.repl {H : Hp} {kvs : List (List Key × V)} {xs : List (List Key × Addr × Value)} (r : KT H kvs xs) (k : List Key) {y : V} {u : Value} (ry : RelV y u) :
    KT H (kvs.map fun kv => if kv.1 = k then (kv.1, y) else kv) (xs.map (putAt k u)) := by
  induction r with
  | nil => exact .nil
  | @cons p q ps qs h t ih =>
    rw [List.map_cons, List.map_cons]
    refine .cons ?_ ih
    obtain ⟨h1, h2, h3⟩ := h
    unfold putAt
    by_cases e : p.1 = k
    · rw [if_pos e, if_pos (h1.symm.trans e)]; exact ⟨h1, h2, ry⟩
    · rw [if_neg e, if_neg (fun z => e (h1.trans z))]; exact ⟨h1, h2, h3⟩
theorem KT.put {H : Hp} {kvs : List (List Key × V)} {xs : List (List Key × Addr × Value)} (r : KT H kvs xs) (k : List Key) {b : Addr} {y : V} {u : Value} (hb : H b = some (.tup (k.map kV))) (ry : RelV y u) :
    KT H (putK kvs k y) (storedH xs k b u) := by
  have e : (kvs.any fun kv => decide (kv.1 = k)) = (atKey xs k).isSome := by
    rw [valV_any, (r.val k).isSome_eq, Option.isSome_map]
  unfold putK storedH
  rw [e]
  by_cases q : (atKey xs k).isSome = true
  · rw [if_pos q, if_pos q]; exact r.repl k ry
  · rw [if_neg q, if_neg q]; exact Paired.snoc r ⟨rfl, hb, ry⟩
theorem KT.keeps {H H' : Hp} {kvs : List (List Key × V)} {xs : List (List Key × Addr × Value)} (r : KT H kvs xs) (ht : ∀ b ys, H b = some (.tup ys) → H' b = some (.tup ys)) : KT H' kvs xs :=
  Paired.mapP r fun _ _ z => ⟨z.1, ht _ _ z.2.1, z.2.2⟩

section
variable {P : Program} {w : World} {H : Hp} {h : Heap} {a : Addr}
theorem rd_of {u : HO} (ok : HOk P w H h) (e : Rd H a u) : ObjOk P w H h a u := e.ok ok
theorem dk_rd {kvs : List (Key × V)} (ok : HOk P w H h) (e : Rd H a (.dK kvs)) : kvs.length ≤ sizeLine ∧ (a == sysModules) = false ∧ ∃ vs, KV kvs vs ∧ h.DictOf (mixKind P w) a vs :=
  show ObjOk P w H h a (.dK kvs) from rd_of ok e
theorem dk_of {kvs : List (Key × V)} (ok : HOk P w H h) (e : H a = some (.dK kvs)) : kvs.length ≤ sizeLine ∧ (a == sysModules) = false ∧ ∃ vs, KV kvs vs ∧ h.DictOf (mixKind P w) a vs := dk_rd ok (.inl e)
theorem key_of {ks : List Key} (ok : HOk P w H h) (e : H a = some (.tup (ks.map kV))) : (tupleKind (mixKind P w)).is h ks a := by
  obtain ⟨_, its, r, o, h1, h2, n, h3⟩ := (show ObjOk P w H h a (.tup (ks.map kV)) from ok a _ e)
  exact ⟨o, its.toArray, n, h1, h2, h3, by simpa using items_are r⟩
theorem dt_rd {kvs : List (List Key × V)} (ok : HOk P w H h) (e : Rd H a (.dT kvs)) : kvs.length ≤ sizeLine ∧ (a == sysModules) = false ∧
    ∃ xs, KT H kvs xs ∧ h.DictOfH (tupleKind (mixKind P w)) a xs := by
  obtain ⟨z, y, xs, r, o, es, ep, h1, h2, h3, h4, h5⟩ := (show ObjOk P w H h a (.dT kvs) from rd_of ok e)
  refine ⟨z, y, xs, r, o, es, ep, h1, h2, h3, h4, fun x hx => ?_, h5⟩
  have all : ∀ {l : List (List Key × V)} {m : List (List Key × Addr × Value)}, KT H l m → ∀ x ∈ m, (tupleKind (mixKind P w)).is h x.1 x.2.1 := by
    intro l m q
    induction q with
    | nil => intro x hx; exact nomatch hx
    | @cons p q ps qs hq t ih =>
      intro x hx
      rcases List.mem_cons.mp hx with e | hx
      · subst e
        exact key_of ok (by rw [← hq.1]; exact hq.2.1)
      · exact ih x hx
  exact all r x hx
theorem dt_of {kvs : List (List Key × V)} (ok : HOk P w H h) (e : H a = some (.dT kvs)) : kvs.length ≤ sizeLine ∧ (a == sysModules) = false ∧
    ∃ xs, KT H kvs xs ∧ h.DictOfH (tupleKind (mixKind P w)) a xs := dt_rd ok (.inl e)
end

noncomputable def DGet (H : Hp) (a : Addr) (y : V) (r : Option V) : Prop :=
  (∃ kvs k, Rd H a (.dK kvs) ∧ y = kV k ∧ r = valV kvs k) ∨ ∃ kvs k b, Rd H a (.dT kvs) ∧ y = .ref b ∧ H b = some (.tup (k.map kV)) ∧ r = valV kvs k
noncomputable def DPut (H : Hp) (a : Addr) (y v : V) (H' : Hp) : Prop :=
  (∃ kvs k, H a = some (.dK kvs) ∧ y = kV k ∧ kvs.length < sizeLine ∧ H' = upd H a (.dK (putK kvs k v))) ∨
  ∃ kvs k b, H a = some (.dT kvs) ∧ y = .ref b ∧ H b = some (.tup (k.map kV)) ∧ kvs.length < sizeLine ∧ H' = upd H a (.dT (putK kvs k v))
theorem DGet.k {H : Hp} {a : Addr} {kvs : List (Key × V)} {k : Key} (e : H a = some (.dK kvs)) : DGet H a (kV k) (valV kvs k) := .inl ⟨kvs, k, .inl e, rfl, rfl⟩
theorem DGet.t {H : Hp} {a b : Addr} {kvs : List (List Key × V)} {k : List Key} (e : H a = some (.dT kvs)) (eb : H b = some (.tup (k.map kV))) : DGet H a (.ref b) (valV kvs k) := .inr ⟨kvs, k, b, .inl e, rfl, eb, rfl⟩
theorem DPut.k {H : Hp} {a : Addr} {kvs : List (Key × V)} {k : Key} {v : V} (e : H a = some (.dK kvs)) (hl : kvs.length < sizeLine) : DPut H a (kV k) v (upd H a (.dK (putK kvs k v))) := .inl ⟨kvs, k, e, rfl, hl, rfl⟩
theorem DPut.t {H : Hp} {a b : Addr} {kvs : List (List Key × V)} {k : List Key} {v : V} (e : H a = some (.dT kvs)) (eb : H b = some (.tup (k.map kV))) (hl : kvs.length < sizeLine) :
    DPut H a (.ref b) v (upd H a (.dT (putK kvs k v))) := .inr ⟨kvs, k, b, e, rfl, eb, hl, rfl⟩


section
variable {X : Cx} {pins : List (Addr × Obj)} {σ : St} {H : Hp} {s : Shared} {a : Addr} {y v : V} {u r : Value} {o : Option V} {A : Around} {E : Value → Shared → Prop}

theorem Inv.big (I : Inv X pins σ H s) : sysModules < s.heap.objs.size := by
  have h : mainGlobals < s.heap.objs.size := (I.mod.glob.keeps I.bk).lt
  exact Nat.lt_trans (by decide) h

theorem d_getItem {Q : Value → Shared → Prop} (hu : A.units + 1 < cLine) (I : Inv X pins σ H s) (g : DGet H a y (some v)) (ry : RelV y u) (h : ∀ w' s', Inv X pins σ H s' → RelV v w' → Q w' s') :
    wpAny (model X.prog X.w) A (getItem (.ref a) u) Q E s := by
  rcases g with ⟨kvs, k, e, ey, l⟩ | ⟨kvs, k, b, e, ey, eb, l⟩
  · subst ey
    obtain ⟨z, hd, vs, rel, dd⟩ := dk_rd I.hok e
    obtain ⟨w', hw, rw'⟩ := RelO.some_of (v := v) (o := valueAt vs k) (by rw [l]; exact rel.val k)
    exact wpAny_getItem_of (kV_is ry) dd.mapOf hw (h w' _ (I.tok _) rw')
  · subst ey
    cases (show u = Value.ref b from ry)
    obtain ⟨z, hd, xs, rel, dd⟩ := dt_rd I.hok e
    obtain ⟨w', hw, rw'⟩ := RelO.some_of (v := v) (o := (atKey xs k).map (·.2)) (by rw [l]; exact rel.val k)
    obtain ⟨p, hp, hp2⟩ := Option.map_eq_some_iff.mp hw
    refine wpAny_getItem_heap (tupleKind_room_in1 hu) (key_of I.hok eb) dd hp ?_
    rw [hp2]
    exact h w' _ (I.tok _) rw'
theorem d_in {Q : Value → Shared → Prop} (hu : A.units + 1 < cLine) (I : Inv X pins σ H s) (g : DGet H a y o) (ry : RelV y u) (h : ∀ s', Inv X pins σ H s' → Q (.bool o.isSome) s') :
    wpAny (model X.prog X.w) A (compareOp .In u (.ref a)) Q E s := by
  rcases g with ⟨kvs, k, e, ey, l⟩ | ⟨kvs, k, b, e, ey, eb, l⟩
  · subst ey
    obtain ⟨z, hd, vs, rel, dd⟩ := dk_rd I.hok e
    refine wpAny_in_of (kV_is ry) hd dd.mapOf ?_
    rw [← (rel.val k).isSome_eq, ← l]
    exact h _ (I.tok _)
  · subst ey
    cases (show u = Value.ref b from ry)
    obtain ⟨z, hd, xs, rel, dd⟩ := dt_rd I.hok e
    refine wpAny_in_heap (tupleKind_room_in1 hu) (key_of I.hok eb) hd dd ?_
    have q := (rel.val k).isSome_eq
    rw [Option.isSome_map] at q
    rw [← q, ← l]
    exact h _ (I.tok _)
theorem d_notIn {Q : Value → Shared → Prop} (hu : A.units + 1 < cLine) (I : Inv X pins σ H s) (g : DGet H a y o) (ry : RelV y u) (h : ∀ s', Inv X pins σ H s' → Q (.bool (!o.isSome)) s') :
    wpAny (model X.prog X.w) A (compareOp .NotIn u (.ref a)) Q E s := by
  rcases g with ⟨kvs, k, e, ey, l⟩ | ⟨kvs, k, b, e, ey, eb, l⟩
  · subst ey
    obtain ⟨z, hd, vs, rel, dd⟩ := dk_rd I.hok e
    refine wpAny_notIn_of (kV_is ry) hd dd.mapOf ?_
    rw [← (rel.val k).isSome_eq, ← l]
    exact h _ (I.tok _)
  · subst ey
    cases (show u = Value.ref b from ry)
    obtain ⟨z, hd, xs, rel, dd⟩ := dt_rd I.hok e
    refine wpAny_notIn_heap (tupleKind_room_in1 hu) (key_of I.hok eb) hd dd ?_
    have q := (rel.val k).isSome_eq
    rw [Option.isSome_map] at q
    rw [← q, ← l]
    exact h _ (I.tok _)
theorem d_write {h' : Heap} {t' : Nat} {ob : HO} (I : Inv X pins σ H s) (mu : Mut (H a)) (hs : Heap.SameBut a s.heap h') (he : ∃ q, h'.get? a = some q) (new : ObjOk X.prog X.w (upd H a ob) h' a ob) :
    Inv X pins σ (upd H a ob) { s with heap := h', toks := t' } :=
  I.write (x := a) (e := a) mu (.inl rfl) (fun b q hb z => (hs.2 b hb).trans z) he new
theorem dk_new {P : Program} {w : World} {H' : Hp} {h' : Heap} {kvs : List (Key × V)} {vs : List (Key × Value)} (z : kvs.length ≤ sizeLine) (hd : (a == sysModules) = false) (rel : KV kvs vs) (dd : h'.DictOf (mixKind P w) a vs) :
    ObjOk P w H' h' a (.dK kvs) := ⟨z, hd, vs, rel, dd⟩
theorem d_setItem {H' : Hp} {Q : Unit → Shared → Prop} (hu : A.units + 1 < cLine) (I : Inv X pins σ H s) (g : DPut H a y v H') (ry : RelV y u) (rv : RelV v r) (h : ∀ s', Inv X pins σ H' s' → Q () s') :
    wpAny (model X.prog X.w) A (setItem (.ref a) u r) Q E s := by
  rcases g with ⟨kvs, k, e, ey, l, eH⟩ | ⟨kvs, k, b, e, ey, eb, l, eH⟩
  · subst ey eH
    obtain ⟨z, hd, vs, rel, dd⟩ := dk_of I.hok e
    have hz : vs.length ≤ sizeLine := by rw [← rel.length]; exact z
    have hl : (putK kvs k v).length ≤ sizeLine := by have := length_putK kvs k v; omega
    refine wpAny_setItem_pairs (hsz := hz) (kV_is ry) dd fun h' dd' hs => h _ ?_
    have he : ∃ q, h'.get? a = some q := let ⟨q, _, _, hq, _⟩ := dd'; ⟨q, hq⟩
    exact d_write I (by rw [e]; exact True.intro) hs he (dk_new hl hd (rel.put k rv) dd')
  · subst ey eH
    cases (show u = Value.ref b from ry)
    obtain ⟨z, hd, xs, rel, dd⟩ := dt_of I.hok e
    have hz : xs.length ≤ sizeLine := by rw [← Paired.length rel]; exact z
    have hl : (putK kvs k v).length ≤ sizeLine := by have := length_putK kvs k v; omega
    refine wpAny_setItem_heap (hsz := hz) (tupleKind_room_in1 hu) (key_of I.hok eb) dd fun h' dd' hs => h _ ?_
    obtain ⟨q, es, ep, hq, h2, h3, h4, _, h5⟩ := dd'
    refine d_write I (by rw [e]; exact True.intro) hs ⟨q, hq⟩ ⟨hl, hd, _, (rel.put k eb rv).keeps fun c ys ec => ?_, q, es, ep, hq, h2, h3, h4, h5⟩
    rw [upd_ne (ne_of ec e (fun z => nomatch z))]
    exact ec
end

section
variable {X : Cx} {pins : List (Addr × Obj)} {σ : St} {H : Hp} {s : Shared} {a : Addr} {kvs : List (Key × V)} {k : Key} {u : Value} {A : Around} {E : Value → Shared → Prop}
end


/-! ### readings and rules -/
noncomputable def NoSl (i : Expr) : Prop := ∀ ov iv, subscripted i false ov iv = operate [ov, iv] (getItem ov iv)
theorem subD_of {prog : Program} {w : World} {A : Around} {E : Value → Shared → Prop} {s : Shared} {env : Env} {value slice : Expr} {pos : Pos} {T id : String} {Q : Value → Shared → Prop}
    (hl : typeLookup (.type T) "__getitem__" = pure (some (.builtin id))) (hs : NoSl slice)
    (h : wpAny (model prog w) A (eval value env) (fun o s₁ => wpAny (model prog w) A (eval slice env) (fun i s₂ => s₂.TypeIs o T ∧ wpAny (model prog w) A (getItem o i) Q E s₂) E s₁) E s) :
    wpAny (model prog w) A (eval (.Subscript value slice pos) env) Q E s := by
  refine Subscript_ (wpAny_mono h (fun o s₁ h₁ => wpAny_mono h₁ (fun i s₂ h₂ => ?_) fun _ _ x => x) fun _ _ x => x)
  obtain ⟨hT, h₂⟩ := h₂
  unfold subscriptTail
  refine wpAny_bind ?_
  rw [getitemInPython_of_ne hT.not_modules]
  refine wpAny_bind (wpAny_specialOf hT hl ?_)
  have fin : wpAny (model prog w) A (subscripted slice false o i) (fun r s₃ => wpAny (model prog w) A (letTemporaryGo value o r >>= fun _ => pure r) Q E s₃) E s₂ := by
    rw [hs o i]
    exact wpAny_operating (wpAny_mono h₂ (fun r s₃ h₃ => wpAny_bind (wpAny_letTemporaryGo (wpAny_pure h₃))) fun _ _ x => x)
  first
    | exact wpAny_pure (wpAny_bind fin)
    | exact wpAny_bind (wpAny_pure (wpAny_bind fin))
    | exact wpAny_bind fin

theorem dict_typeIs {X : Cx} {pins : List (Addr × Obj)} {σ : St} {H : Hp} {s : Shared} {a : Addr} {y : V} {o : Option V} (I : Inv X pins σ H s) (g : DGet H a y o) : s.TypeIs (.ref a) "dict" := by
  rcases g with ⟨kvs, k, e, _, _⟩ | ⟨kvs, k, b, e, _, _, _⟩
  · obtain ⟨_, _, vs, _, dd⟩ := dk_rd I.hok e
    exact dd.typeIs
  · obtain ⟨_, _, xs, _, dd⟩ := dt_rd I.hok e
    exact dd.typeIs

noncomputable def tDGet (td ty : TE) : TE := fun σ H Q => td σ H fun x H1 => ty σ H1 fun y H2 => ∃ a v, x = .ref a ∧ DGet H2 a y (some v) ∧ Q v H2
noncomputable def tDIn (ty td : TE) : TE := fun σ H Q => ty σ H fun y H1 => td σ H1 fun x H2 => ∃ a o, x = .ref a ∧ DGet H2 a y o ∧ Q (.bl o.isSome) H2
noncomputable def tDNotIn (ty td : TE) : TE := fun σ H Q => ty σ H fun y H1 => td σ H1 fun x H2 => ∃ a o, x = .ref a ∧ DGet H2 a y o ∧ Q (.bl (!o.isSome)) H2
noncomputable def sDPut (td ty tv : TE) : TS := fun D σ H => tv σ H fun v H1 => td σ H1 fun x H2 => ty σ H2 fun y H3 => ∃ a H4, x = .ref a ∧ DPut H3 a y v H4 ∧ D.nx σ H4

section
variable {X : Cx} {o i e value : Expr} {pos pos' tpos : Pos} {td ty tv : TE}
theorem pe_dget (hu : X.A.units + 1 < cLine) (ho : PE X o td) (hi : PE X i ty) (hs : NoSl i) : PE X (.Subscript o i pos) (tDGet td ty) := by
  intro pins s σ H Q I h
  refine subD_of PySem.F.slot_dict_getitem.lookup hs (thn (ho pins s σ H _ I h) fun u s1 zz => L2.el5 zz fun x H1 I1 rx q1 => thn (hi pins s1 σ H1 _ I1 q1) fun iv s2 zz => ?_)
  obtain ⟨y, H2, I2, ry, a, v, ex, g, q2⟩ := zz
  subst ex
  obtain rfl : u = Value.ref a := rx
  exact ⟨dict_typeIs I2 g, d_getItem hu I2 g ry fun w' s3 I3 rw' => ⟨v, H2, I3, rw', q2⟩⟩
theorem pc_din (hu : X.A.units + 1 < cLine) (hi : PE X i ty) (ho : PE X o td) : PC X .In i o (tDIn ty td) := by
  intro pins s σ H Q I h
  refine thn (hi pins s σ H _ I h) fun iv s1 zz => L2.el5 zz fun y H1 I1 ry q1 => thn (ho pins s1 σ H1 _ I1 q1) fun u s2 zz => ?_
  obtain ⟨x, H2, I2, rx, a, ov, ex, g, q2⟩ := zz
  subst ex
  obtain rfl : u = Value.ref a := rx
  exact d_in hu I2 g ry fun s3 I3 => ⟨.bl ov.isSome, H2, I3, rfl, q2⟩
theorem pc_dnotin (hu : X.A.units + 1 < cLine) (hi : PE X i ty) (ho : PE X o td) : PC X .NotIn i o (tDNotIn ty td) := by
  intro pins s σ H Q I h
  refine thn (hi pins s σ H _ I h) fun iv s1 zz => L2.el5 zz fun y H1 I1 ry q1 => thn (ho pins s1 σ H1 _ I1 q1) fun u s2 zz => ?_
  obtain ⟨x, H2, I2, rx, a, ov, ex, g, q2⟩ := zz
  subst ex
  obtain rfl : u = Value.ref a := rx
  exact d_notIn hu I2 g ry fun s3 I3 => ⟨.bl (!ov.isSome), H2, I3, rfl, q2⟩
theorem ps_dput (hu : X.A.units + 1 < cLine) (ho : PE X o td) (hi : PE X i ty) (hv : PE X value tv) (hs : swapsWith value (some (.Subscript o i pos')) pos.line X.env = pure false) :
    PS X (.Assign [.Subscript o i pos'] value pos) (sDPut td ty tv) := by
  intro pins s σ H D I h
  refine wpAny_Assign_Subscript (thn (hv pins s σ H _ I h) fun r s1 zz => L2.el5 zz fun v H1 I1 rv q1 => thn (ho pins s1 σ H1 _ I1 q1) fun u s2 zz => L2.el5 zz fun x H2 I2 rx q2 => thn (hi pins s2 σ H2 _ I2 q2) fun iv s3 zz => ?_) hs
  obtain ⟨y, H3, I3, ry, a, H4, ex, g, q3⟩ := zz
  subst ex
  obtain rfl : u = Value.ref a := rx
  exact d_setItem hu I3 g ry rv fun s4 I4 => ⟨σ, H4, I4, q3⟩
end


/-! ### displays -/
theorem dk_empty {P : Program} {w : World} {H : Hp} (h : Heap) (hb : sysModules < h.objs.size) : ObjOk P w H (h.push { cls := .type "dict", data := .dict #[] }) h.objs.size (.dK []) :=
  ⟨Nat.zero_le _, beq_eq_false_iff_ne.mpr (Ne.symm (Nat.ne_of_lt hb)), [], .nil, Heap.DictOf.new h⟩
theorem dt_empty {P : Program} {w : World} {H : Hp} (h : Heap) (hb : sysModules < h.objs.size) : ObjOk P w H (h.push { cls := .type "dict", data := .dict #[] }) h.objs.size (.dT []) :=
  ⟨Nat.zero_le _, beq_eq_false_iff_ne.mpr (Ne.symm (Nat.ne_of_lt hb)), [], .nil, _, #[], 0, Heap.get?_push_size _ rfl, ⟨rfl, rfl, rfl⟩, rfl, rfl, List.nodup_nil⟩
noncomputable def tDNewK : TE := fun _ H Q => ∀ p, H p = none → Q (.ref p) (upd H p (.dK []))
noncomputable def tDNewT : TE := fun _ H Q => ∀ p, H p = none → Q (.ref p) (upd H p (.dT []))
section
variable {X : Cx} {pos : Pos}
theorem pe_dnewK : PE X (.Dict [] [] pos) tDNewK := fun pins s σ H Q I h =>
  wpAny_Dict_empty ⟨.ref s.heap.objs.size, _, I.laid (a := s.heap.objs.size) (o := .dK []) (t' := s.toks) (fun _ _ q => Heap.get?_push_of_some _ q) (Nat.le_refl _) (dk_empty s.heap I.big), rfl, h _ (I.hok.fresh (Nat.le_refl _))⟩
theorem pe_dnewT : PE X (.Dict [] [] pos) tDNewT := fun pins s σ H Q I h =>
  wpAny_Dict_empty ⟨.ref s.heap.objs.size, _, I.laid (a := s.heap.objs.size) (o := .dT []) (t' := s.toks) (fun _ _ q => Heap.get?_push_of_some _ q) (Nat.le_refl _) (dt_empty s.heap I.big), rfl, h _ (I.hok.fresh (Nat.le_refl _))⟩
end

noncomputable def tPairs : List (TE × TE) → St → Hp → (List (V × V) → Hp → Prop) → Prop
  | [], _, H, Q => Q [] H
  | (tk, tv) :: r, σ, H, Q => tk σ H fun x H1 => tv σ H1 fun y H2 => tPairs r σ H2 fun ps H3 => Q ((x, y) :: ps) H3
noncomputable abbrev VV : List (V × V) → List (Value × Value) → Prop := Paired fun p q => RelV p.1 q.1 ∧ RelV p.2 q.2
noncomputable def PPs (X : Cx) (pos : Pos) (keys : List (Option Expr)) (values : List Expr) (trs : List (TE × TE)) : Prop :=
  ∀ (pins : List (Addr × Obj)) (s : Shared) (σ : St) (H : Hp) (Q : List (V × V) → Hp → Prop), Inv X pins σ H s → tPairs trs σ H Q →
    wpAny (model X.prog X.w) X.A (evalPairs (pairTrees keys values X.env pos)) (fun vs s' => ∃ ps H', Inv X pins σ H' s' ∧ VV ps vs ∧ Q ps H') X.xe s
theorem pps_nil {X : Cx} {pos : Pos} : PPs X pos [] [] [] := fun pins s σ H Q I h => pairTrees_nil_walk ⟨[], H, I, .nil, h⟩
theorem pps_cons {X : Cx} {pos : Pos} {k v : Expr} {ks : List (Option Expr)} {vs : List Expr} {tk tv : TE} {trs : List (TE × TE)} (hk : PE X k tk) (hv : PE X v tv) (hr : PPs X pos ks vs trs) :
    PPs X pos (some k :: ks) (v :: vs) ((tk, tv) :: trs) := fun pins s σ H Q I h =>
  pairTrees_cons_walk (thn (hk pins s σ H _ I h) fun u s1 zz => L2.el5 zz fun x H1 I1 rx q1 => thn (hv pins s1 σ H1 _ I1 q1) fun w2 s2 zz => L2.el5 zz fun y H2 I2 ry q2 =>
    thn (hr pins s2 σ H2 _ I2 q2) fun ws s3 zz => L2.el5 zz fun ps H3 I3 rel q3 => ⟨(x, y) :: ps, H3, I3, .cons ⟨rx, ry⟩ rel, q3⟩)

noncomputable def mergeK (kvs more : List (Key × V)) : List (Key × V) := more.foldl (fun acc kv => putK acc kv.1 kv.2) kvs
theorem KV.merge : ∀ {more : List (Key × V)} {rs : List (Key × Value)} {kvs : List (Key × V)} {vs : List (Key × Value)}, KV more rs → KV kvs vs → KV (mergeK kvs more) (merged vs rs) := by
  intro more rs kvs vs r
  unfold KV at r
  induction r generalizing kvs vs with
  | nil => intro q; exact q
  | @cons p q ps qs h t ih =>
    intro r0
    have e : KV (putK kvs p.1 p.2) (stored vs q.1 q.2) := by
      have := r0.put p.1 h.2
      rw [← h.1]; exact this
    exact ih e
theorem length_mergeK : ∀ (more kvs : List (Key × V)), (mergeK kvs more).length ≤ kvs.length + more.length
  | [], kvs => by show kvs.length ≤ kvs.length + 0; omega
  | p :: r, kvs => by
    have h1 := length_mergeK r (putK kvs p.1 p.2)
    have h2 := length_putK kvs p.1 p.2
    show (mergeK (putK kvs p.1 p.2) r).length ≤ _
    rw [List.length_cons]; omega
theorem carries_of {P : Program} {w : World} : ∀ {kvs : List (Key × V)} {ws : List (Value × Value)}, VV (kvs.map fun kv => (kV kv.1, kv.2)) ws → ∃ rs, Carries (mixKind P w) ws rs ∧ KV kvs rs
  | [], _, r => by rw [List.map_nil] at r; cases r; exact ⟨[], True.intro, .nil⟩
  | p :: kvs, _, r => by
    rw [List.map_cons] at r
    cases r with
    | @cons a b as bs h t =>
      obtain ⟨rs, c, q⟩ := carries_of (P := P) (w := w) t
      obtain ⟨b1, b2⟩ := b
      exact ⟨(p.1, b2) :: rs, ⟨kV_is h.1, rfl, c⟩, .cons ⟨rfl, h.2⟩ q⟩
noncomputable def tDisp (trs : List (TE × TE)) : TE := fun σ H Q => ∀ p, H p = none → tPairs trs σ (upd H p (.dK [])) fun ps H2 => H2 p = some (.dK []) ∧ ∃ kvs : List (Key × V), ps = kvs.map (fun kv => (kV kv.1, kv.2)) ∧ kvs.length ≤ 15 ∧ Q (.ref p) (upd H2 p (.dK (mergeK [] kvs)))
theorem pe_disp {X : Cx} {pos : Pos} {keys : List (Option Expr)} {values : List Expr} {trs : List (TE × TE)} (h : PPs X pos keys values trs) (hall : keys.all (·.isSome) = true) (hl : keys.length = values.length) (h0 : keys ≠ [])
    (h15 : keys.length ≤ 15) : PE X (.Dict keys values pos) (tDisp trs) := by
  intro pins s σ H Q I q
  have hn := I.hok.fresh (Nat.le_refl s.heap.objs.size)
  have I1 := I.laid (a := s.heap.objs.size) (o := .dK []) (h' := s.heap.push { cls := .type "dict", data := .dict #[] }) (t' := s.toks) (fun _ _ q => Heap.get?_push_of_some _ q) (Nat.le_refl _) (dk_empty s.heap I.big)
  refine wpAny_Dict_walk (knd := mixKind X.prog X.w) hall hl h0 h15 (thn (h pins _ σ _ _ I1 (q _ hn)) fun ws s2 zz => ?_)
  obtain ⟨ps, H2, I2, rel, e, kvs, ep, lk, q2⟩ := zz
  subst ep
  obtain ⟨rs, c, rk⟩ := carries_of (P := X.prog) (w := X.w) rel
  obtain ⟨z, hd, vs0, r0, dd⟩ := dk_of I2.hok e
  cases r0
  refine ⟨rs, c, dd, fun h' dd' hs => ⟨.ref s.heap.objs.size, _, ?_, rfl, q2⟩⟩
  have hz : (mergeK [] kvs).length ≤ sizeLine := by
    have h1 := length_mergeK kvs []
    rw [List.length_nil] at h1
    rw [sizeLine_eq]; omega
  have he : ∃ q, h'.get? s.heap.objs.size = some q := let ⟨q, _, _, hq, _⟩ := dd'; ⟨q, hq⟩
  exact d_write I2 (by rw [e]; exact True.intro) hs he (dk_new hz hd (rk.merge .nil) dd')


/-! ### methods -/
structure M1 (X : Cx) (o : Expr) (m : Str) (apos : Pos) (e : Expr) (cpos : Pos) : Prop where
  base : attributeBase o m X.env (eval o X.env) = eval o X.env
  few : ((backTo cpos (starEach [e] X.env)).all (fun x => !x.1) && (backToKw cpos (keywordEach [] X.env)).all (fun x => x.1.isSome)
    && decide (([e] : List Expr).length + ([] : List Keyword).length + (if ([] : List Keyword).isEmpty then 0 else 1) < 30)) = true
  line : (apos.endLine == cpos.line) = true
  trees : backTo cpos (starEach [e] X.env) = [(false, eval e X.env)]


section
variable {X : Cx} {pins : List (Addr × Obj)} {σ : St} {H : Hp} {s : Shared} {a : Addr} {y d : V} {u r : Value} {o : Option V} {A : Around} {E : Value → Shared → Prop}
end

section
variable {X : Cx} {o e f : Expr} {apos cpos : Pos} {td ty tx : TE}
end

/-! ### dict(d): a copy -/
section
variable {X : Cx} {pins : List (Addr × Obj)} {σ : St} {H : Hp} {s : Shared} {a : Addr} {kvs : List (Key × V)} {A : Around} {E : Value → Shared → Prop}
end


section
variable {X : Cx} {pins : List (Addr × Obj)} {σ : St} {H : Hp} {s : Shared} {a : Addr} {y : V} {u : Value} {A : Around} {E : Value → Shared → Prop}
end
end L2


/-! Why the closing comes to its end: a run without end of rows drawn and looked at is a contradiction.
m t a b: the narrowest tie (a, b) known ahead of the look at row t; pt t a b: row t is that tie, and is looked at. -/
namespace MT
variable {n : Nat} {m : Nat → Nat → Nat → Option Int} {pt : Nat → Nat → Nat → Prop} {low : Int}
end MT

/-! The closing as a run of states: rows drawn, of each two moments the best one, and the first row that bars every hand. -/
namespace MU
structure What where
  tie : Bool
  a : Nat
  b : Nat
  v : Int
inductive Wd where
  | told | sum | late | soon | sure | back | cross
structure Row where
  what : What
  word : Wd
  used : List Nat
noncomputable abbrev Key := Bool × Nat × Nat
noncomputable def What.key (w : What) : Key := (w.tie, w.a, w.b)
structure St where
  rows : List Row
  best : Key → Option Nat
  bar : Option Nat
noncomputable abbrev Falls := Nat → Option (Nat × Int × Int)
noncomputable def wat (st : St) (i : Nat) : Option What := (st.rows[i]?).map (·.what)
noncomputable def val (st : St) (k : Key) : Option Int := (st.best k).bind fun i => (wat st i).map (·.v)
noncomputable def better (tie : Bool) (v u : Int) : Prop := if tie = true then v < u else u < v
noncomputable instance (tie : Bool) (v u : Int) : Decidable (better tie v u) := by unfold better; infer_instance
theorem better_trans {b : Bool} {x y z : Int} (h1 : better b x y) (h2 : better b y z) : better b x z := by
  unfold better at *
  cases b <;> simp_all <;> omega
theorem nbetter_trans {b : Bool} {x y z : Int} (h1 : ¬ better b x y) (h2 : ¬ better b y z) : ¬ better b x z := by
  unfold better at *
  cases b <;> simp_all <;> omega
theorem better_not {b : Bool} {x y : Int} (h : better b x y) : ¬ better b y x := by
  unfold better at *
  cases b <;> simp_all <;> omega
noncomputable def News (st : St) (w : What) : Prop := if w.tie = true ∧ w.a = w.b then w.v < 0 else ∀ u, val st w.key = some u → better w.tie w.v u
noncomputable def Bars (w : What) : Prop := w.tie = true ∧ w.a = w.b ∧ w.v < 0
noncomputable instance (w : What) : Decidable (Bars w) := by unfold Bars; infer_instance
open Classical in
noncomputable instance (st : St) (w : What) : Decidable (News st w) := propDecidable _
noncomputable def take (st : St) (w : What) (word : Wd) (used : List Nat) : St :=
  if News st w then { rows := st.rows ++ [⟨w, word, used⟩], best := fun k => if k = w.key then some st.rows.length else st.best k, bar := if st.bar = none ∧ Bars w then some st.rows.length else st.bar } else st
noncomputable def bySum (p q : What) : Option What := if p.tie = true ∧ q.tie = true ∧ p.b = q.a then some ⟨true, p.a, q.b, p.v + q.v⟩ else none
noncomputable def byLate (F : Falls) (p : What) : Option What := if p.tie = true ∧ p.a ≠ p.b then (F p.b).map fun f => ⟨false, p.a, p.b, f.2.2 - p.v⟩ else none
noncomputable def bySoon (F : Falls) (p : What) : Option What := if p.tie = true ∧ p.a ≠ p.b ∧ p.v < 0 then (F p.a).map fun f => ⟨true, f.1, p.b, f.2.1 + p.v⟩ else none
noncomputable def bySure (F : Falls) (p : What) : Option What := if p.tie = false then (F p.b).map fun f => ⟨true, p.a, f.1, -min p.v f.2.1⟩ else none
noncomputable def byBack (F : Falls) (p q : What) : Option What := if p.tie = false ∧ q.tie = true ∧ q.b = p.a ∧ q.a ≠ p.b then (F p.b).map fun f => ⟨false, q.a, p.b, min p.v f.2.2 - q.v⟩ else none
noncomputable def byCross (F : Falls) (p : What) : Option What := if p.tie = false ∧ p.a ≠ p.b ∧ 0 < p.v then (F p.a).bind fun o => (F p.b).map fun f => ⟨false, o.1, p.b, min p.v f.2.2 - o.2.1⟩ else none
noncomputable def put (st : St) (o : Option What) (word : Wd) (used : List Nat) : St := match o with
  | some w => take st w word used
  | none => st
noncomputable def draw1 (f : What → Option What) (word : Wd) (i : Nat) (st : St) : St := put st ((wat st i).bind f) word [i]
noncomputable def draw2 (f : What → What → Option What) (word : Wd) (i j : Nat) (st : St) : St := put st ((wat st i).bind fun p => (wat st j).bind fun q => f p q) word [i, j]
noncomputable def knownOf (n : Nat) (st : St) (tie : Bool) (a : Nat) : List Nat := (List.range n).filterMap fun b => st.best (tie, a, b)
noncomputable def tiesTo (n : Nat) (st : St) (b : Nat) : List Nat := (List.range n).filterMap fun a => st.best (true, a, b)
noncomputable def fromTie (n : Nat) (F : Falls) (at_ a b : Nat) (st0 : St) : St :=
  let st1 := draw1 (byLate F) .late at_ st0
  let st2 := draw1 (bySoon F) .soon at_ st1
  let st3 := (knownOf n st2 true b).foldl (fun st j => draw2 bySum .sum at_ j st) st2
  let st4 := (tiesTo n st3 a).foldl (fun st j => draw2 bySum .sum j at_ st) st3
  (knownOf n st4 false b).foldl (fun st j => draw2 (byBack F) .back j at_ st) st4
noncomputable def fromWait (n : Nat) (F : Falls) (at_ a : Nat) (st0 : St) : St :=
  let st1 := draw1 (bySure F) .sure at_ st0
  let st2 := draw1 (byCross F) .cross at_ st1
  (tiesTo n st2 a).foldl (fun st j => draw2 (byBack F) .back at_ j st) st2
noncomputable def look (n : Nat) (F : Falls) (at_ : Nat) (st : St) : St := match wat st at_ with
  | some w => if st.best w.key = some at_ then (if w.tie = true then fromTie n F at_ w.a w.b st else fromWait n F at_ w.a st) else st
  | none => st
noncomputable def run (n : Nat) (F : Falls) (st : St) : Nat → St
  | 0 => st
  | t + 1 => look n F t (run n F st t)
structure Ext (s s' : St) : Prop where
  rows : ∃ more, s'.rows = s.rows ++ more
  best : ∀ k, s'.best k = s.best k ∨ ∃ j, s'.best k = some j ∧ s.rows.length ≤ j
  bar : s.bar ≠ none → s'.bar ≠ none
structure Good (n : Nat) (s : St) : Prop where
  at_ : ∀ k i, s.best k = some i → ∃ w, wat s i = some w ∧ w.key = k
  top : ∀ i w, wat s i = some w → ∃ j, i ≤ j ∧ s.best w.key = some j
  lt : ∀ i w, wat s i = some w → w.a < n ∧ w.b < n
  ne : s.bar = none → ∀ i w, wat s i = some w → w.a ≠ w.b
  drop : s.bar = none → ∀ i j w w', wat s i = some w → wat s j = some w' → w.key = w'.key → i < j → better w.tie w'.v w.v
theorem wat_lt {s : St} {i : Nat} {w : What} (h : wat s i = some w) : i < s.rows.length := by
  unfold wat at h
  cases q : s.rows[i]? with
  | none => rw [q] at h; cases h
  | some r => exact (List.getElem?_eq_some_iff.mp q).1
theorem wat_ext {s s' : St} {i : Nat} {w : What} (e : Ext s s') (h : wat s i = some w) : wat s' i = some w := by
  obtain ⟨more, hm⟩ := e.rows
  have hi := wat_lt h
  unfold wat at h ⊢
  rw [hm, List.getElem?_append_left hi]
  exact h
theorem Ext.refl (s : St) : Ext s s := ⟨⟨[], by simp⟩, fun _ => .inl rfl, fun h => h⟩
theorem Ext.len {s s' : St} (e : Ext s s') : s.rows.length ≤ s'.rows.length := by
  obtain ⟨more, hm⟩ := e.rows
  rw [hm, List.length_append]; omega
theorem Ext.trans {a b c : St} (x : Ext a b) (y : Ext b c) : Ext a c := by
  refine ⟨?_, fun k => ?_, fun h => y.bar (x.bar h)⟩
  · obtain ⟨m1, h1⟩ := x.rows
    obtain ⟨m2, h2⟩ := y.rows
    exact ⟨m1 ++ m2, by rw [h2, h1, List.append_assoc]⟩
  · rcases y.best k with h | ⟨j, h, hj⟩
    · rcases x.best k with h' | ⟨j, h', hj⟩
      · exact .inl (h.trans h')
      · exact .inr ⟨j, h.trans h', hj⟩
    · exact .inr ⟨j, h, Nat.le_trans x.len hj⟩
theorem take_ext (st : St) (w : What) (word : Wd) (used : List Nat) : Ext st (take st w word used) := by
  unfold take
  split
  · refine ⟨⟨_, rfl⟩, fun k => ?_, fun h => ?_⟩
    · show (if k = w.key then some st.rows.length else st.best k) = _ ∨ ∃ j, (if k = w.key then some st.rows.length else st.best k) = some j ∧ _
      by_cases e : k = w.key
      · rw [if_pos e]; exact .inr ⟨_, rfl, Nat.le_refl _⟩
      · rw [if_neg e]; exact .inl rfl
    · show (if st.bar = none ∧ Bars w then some st.rows.length else st.bar) ≠ none
      rw [if_neg fun z => h z.1]
      exact h
  · exact Ext.refl st
theorem wat_snoc {rows : List Row} {r : Row} {best : Key → Option Nat} {bar : Option Nat} {i : Nat} {w : What} (h : wat ⟨rows ++ [r], best, bar⟩ i = some w) : (i < rows.length ∧ (rows[i]?).map (·.what) = some w) ∨ (i = rows.length ∧ w = r.what) := by
  unfold wat at h
  by_cases c : i < rows.length
  · left
    refine ⟨c, ?_⟩
    have h : ((rows ++ [r])[i]?).map (·.what) = some w := h
    rwa [List.getElem?_append_left c] at h
  · right
    have h : ((rows ++ [r])[i]?).map (·.what) = some w := h
    rw [List.getElem?_append_right (by omega)] at h
    cases q : i - rows.length with
    | zero => rw [q] at h; exact ⟨by omega, by cases h; rfl⟩
    | succ z => rw [q] at h; cases h
theorem take_good {n : Nat} {st : St} {w : What} {word : Wd} {used : List Nat} (g : Good n st) (ha : w.a < n) (hb : w.b < n) (hw : w.tie = false → w.a ≠ w.b) : Good n (take st w word used) := by
  unfold take
  split
  next hn =>
    have old : ∀ {i u}, wat st i = some u → wat { rows := st.rows ++ [⟨w, word, used⟩], best := fun k => if k = w.key then some st.rows.length else st.best k, bar := if st.bar = none ∧ Bars w then some st.rows.length else st.bar } i = some u := fun {i u} h => by
      have hi := wat_lt h
      unfold wat at h ⊢
      rw [List.getElem?_append_left hi]
      exact h
    have new : wat { rows := st.rows ++ [⟨w, word, used⟩], best := fun k => if k = w.key then some st.rows.length else st.best k, bar := if st.bar = none ∧ Bars w then some st.rows.length else st.bar } st.rows.length = some w := by
      unfold wat
      rw [List.getElem?_append_right (Nat.le_refl _), Nat.sub_self]
      rfl
    have nb : (if st.bar = none ∧ Bars w then some st.rows.length else st.bar) = none → st.bar = none ∧ ¬ Bars w := fun h => by
      by_cases c : st.bar = none ∧ Bars w
      · rw [if_pos c] at h; cases h
      · rw [if_neg c] at h
        exact ⟨h, fun z => c ⟨h, z⟩⟩
    have wne : ¬ Bars w → w.a ≠ w.b := fun hb e => by
      cases ht : w.tie with
      | false => exact hw ht e
      | true =>
        unfold News at hn
        rw [if_pos ⟨ht, e⟩] at hn
        exact hb ⟨ht, e, hn⟩
    refine ⟨fun k i h => ?_, fun i u h => ?_, fun i u h => ?_, fun h0 i u h => ?_, fun h0 i j u u' h h' hk hij => ?_⟩
    · have h : (if k = w.key then some st.rows.length else st.best k) = some i := h
      by_cases c : k = w.key
      · rw [if_pos c] at h
        cases h
        exact ⟨w, new, c.symm⟩
      · rw [if_neg c] at h
        obtain ⟨u, hu, hk⟩ := g.at_ k i h
        exact ⟨u, old hu, hk⟩
    · show ∃ j, i ≤ j ∧ (if u.key = w.key then some st.rows.length else st.best u.key) = some j
      rcases wat_snoc h with ⟨hi, hu⟩ | ⟨hi, rfl⟩
      · by_cases c : u.key = w.key
        · rw [if_pos c]; exact ⟨_, Nat.le_of_lt hi, rfl⟩
        · rw [if_neg c]; exact g.top i u hu
      · rw [if_pos rfl]; exact ⟨_, Nat.le_of_eq hi, rfl⟩
    · rcases wat_snoc h with ⟨_, hu⟩ | ⟨_, rfl⟩
      · exact g.lt i u hu
      · exact ⟨ha, hb⟩
    · obtain ⟨b0, b1⟩ := nb h0
      rcases wat_snoc h with ⟨_, hu⟩ | ⟨_, rfl⟩
      · exact g.ne b0 i u hu
      · exact wne b1
    · obtain ⟨b0, b1⟩ := nb h0
      rcases wat_snoc h' with ⟨hj, hu'⟩ | ⟨hj, e'⟩
      · rcases wat_snoc h with ⟨_, hu⟩ | ⟨hi, _⟩
        · exact g.drop b0 i j u u' hu hu' hk hij
        · omega
      · have e' : u' = w := e'
        rw [e'] at hk ⊢
        rcases wat_snoc h with ⟨hi, hu⟩ | ⟨hi, _⟩
        · -- against the best one of that key
          have hu : wat st i = some u := hu
          obtain ⟨j0, hij0, hbest⟩ := g.top i u hu
          obtain ⟨u0, hu0, hk0⟩ := g.at_ _ _ hbest
          have hv : val st w.key = some u0.v := by
            unfold val
            have hk : u.key = w.key := hk
            rw [← hk, hbest]
            show (wat st j0).map (·.v) = _
            rw [hu0]; rfl
          unfold News at hn
          rw [if_neg fun z => wne b1 z.2] at hn
          have h1 := hn _ hv
          have ht : u.tie = w.tie := congrArg Prod.fst hk
          rw [ht]
          by_cases c : i = j0
          · subst c
            rw [hu] at hu0
            cases hu0
            exact h1
          · have h2 := g.drop b0 i j0 u u0 hu hu0 hk0.symm (by omega)
            rw [ht] at h2
            exact better_trans h1 h2
        · omega
  next => exact g
theorem put_ext (st : St) (o : Option What) (word : Wd) (used : List Nat) : Ext st (put st o word used) := by
  cases o with
  | none => exact Ext.refl st
  | some w => exact take_ext st w word used
noncomputable def Imp (s s' : St) : Prop := Ext s s' ∧ ∀ k u, k.2.1 ≠ k.2.2 → val s k = some u → ∃ u', val s' k = some u' ∧ ¬ better k.1 u u'
theorem nbetter_refl (b : Bool) (u : Int) : ¬ better b u u := by unfold better; split <;> omega
theorem Imp.refl (s : St) : Imp s s := ⟨Ext.refl s, fun k u _ h => ⟨u, h, nbetter_refl _ _⟩⟩
theorem Imp.trans {a b c : St} (x : Imp a b) (y : Imp b c) : Imp a c := by
  refine ⟨x.1.trans y.1, fun k u hk h => ?_⟩
  obtain ⟨u1, h1, n1⟩ := x.2 k u hk h
  obtain ⟨u2, h2, n2⟩ := y.2 k u1 hk h1
  exact ⟨u2, h2, nbetter_trans n1 n2⟩
theorem val_best {s : St} {k : Key} {i : Nat} {w : What} (h : s.best k = some i) (hw : wat s i = some w) : val s k = some w.v := by
  unfold val
  rw [h]
  show (wat s i).map (·.v) = _
  rw [hw]; rfl
theorem take_new {st : St} {w : What} {word : Wd} {used : List Nat} (h : News st w) : val (take st w word used) w.key = some w.v ∧ wat (take st w word used) st.rows.length = some w ∧ (take st w word used).rows.length = st.rows.length + 1 := by
  have e : take st w word used = { rows := st.rows ++ [⟨w, word, used⟩], best := fun k => if k = w.key then some st.rows.length else st.best k, bar := if st.bar = none ∧ Bars w then some st.rows.length else st.bar } := by
    unfold take
    rw [if_pos h]
  have hw : wat (take st w word used) st.rows.length = some w := by
    rw [e]
    unfold wat
    rw [List.getElem?_append_right (Nat.le_refl _), Nat.sub_self]
    rfl
  refine ⟨val_best (i := st.rows.length) (by rw [e]; show (if w.key = w.key then some st.rows.length else st.best w.key) = _; rw [if_pos rfl]) hw, hw, ?_⟩
  rw [e]
  show (st.rows ++ [_]).length = _
  rw [List.length_append]; rfl
theorem take_old {st : St} {w : What} {word : Wd} {used : List Nat} (h : ¬ News st w) : take st w word used = st := by
  unfold take
  rw [if_neg h]
theorem val_other {st : St} {w : What} {word : Wd} {used : List Nat} {k : Key} {u : Int} (hk : k ≠ w.key) (h : val st k = some u) : val (take st w word used) k = some u := by
  by_cases c : News st w
  · have e := take_ext st w word used
    unfold val at h ⊢
    have hb : (take st w word used).best k = st.best k := by
      unfold take
      rw [if_pos c]
      show (if k = w.key then some st.rows.length else st.best k) = _
      rw [if_neg hk]
    rw [hb]
    cases q : st.best k with
    | none => rw [q] at h; cases h
    | some i =>
      rw [q] at h
      have h : (wat st i).map (·.v) = some u := h
      show (wat (take st w word used) i).map (·.v) = some u
      cases q2 : wat st i with
      | none => rw [q2] at h; cases h
      | some r => rw [wat_ext e q2]; rw [q2] at h; exact h
  · rw [take_old c]; exact h
theorem take_imp (st : St) (w : What) (word : Wd) (used : List Nat) : Imp st (take st w word used) := by
  refine ⟨take_ext st w word used, fun k u hk h => ?_⟩
  by_cases c : k = w.key
  · by_cases hn : News st w
    · have h2 := hn
      unfold News at h2
      have : ¬ (w.tie = true ∧ w.a = w.b) := fun z => hk (by rw [c]; exact z.2)
      rw [if_neg this] at h2
      have h3 := h2 u (by rw [← c]; exact h)
      refine ⟨w.v, by rw [c]; exact (take_new hn).1, fun z => ?_⟩
      rw [c] at z
      exact better_not h3 z
    · rw [take_old hn]; exact ⟨u, h, nbetter_refl _ _⟩
  · exact ⟨u, val_other c h, nbetter_refl _ _⟩
theorem take_knows {st : St} {w : What} {word : Wd} {used : List Nat} (h : w.a ≠ w.b) : ∃ u, val (take st w word used) w.key = some u ∧ ¬ better w.tie w.v u := by
  by_cases c : News st w
  · exact ⟨w.v, (take_new c).1, nbetter_refl _ _⟩
  · rw [take_old c]
    unfold News at c
    rw [if_neg fun z => h z.2] at c
    have c := Classical.not_forall.mp c
    obtain ⟨u, hu⟩ := c
    have hu := Classical.not_imp.mp hu
    exact ⟨u, hu.1, hu.2⟩
theorem take_bars {st : St} {w : What} {word : Wd} {used : List Nat} (h : Bars w) : (take st w word used).bar ≠ none := by
  have hn : News st w := by
    unfold News
    rw [if_pos ⟨h.1, h.2.1⟩]
    exact h.2.2
  unfold take
  rw [if_pos hn]
  show (if st.bar = none ∧ Bars w then some st.rows.length else st.bar) ≠ none
  by_cases c : st.bar = none
  · rw [if_pos ⟨c, h⟩]; simp
  · rw [if_neg fun z => c z.1]; exact c
theorem put_imp (st : St) (o : Option What) (word : Wd) (used : List Nat) : Imp st (put st o word used) := by
  cases o with
  | none => exact Imp.refl st
  | some w => exact take_imp st w word used
theorem foldl_imp {f : St → Nat → St} (hf : ∀ s j, Imp s (f s j)) : ∀ (l : List Nat) (s : St), Imp s (l.foldl f s)
  | [], s => Imp.refl s
  | j :: l, s => (hf s j).trans (foldl_imp hf l (f s j))
theorem d1_imp (f : What → Option What) (word : Wd) (i : Nat) (s : St) : Imp s (draw1 f word i s) := put_imp ..
theorem d2_imp (f : What → What → Option What) (word : Wd) (i j : Nat) (s : St) : Imp s (draw2 f word i j s) := put_imp ..
theorem fromTie_imp (n : Nat) (F : Falls) (at_ a b : Nat) (s : St) : Imp s (fromTie n F at_ a b s) :=
  ((((d1_imp _ _ _ _).trans (d1_imp _ _ _ _)).trans (foldl_imp (fun _ _ => d2_imp ..) _ _)).trans (foldl_imp (fun _ _ => d2_imp ..) _ _)).trans (foldl_imp (fun _ _ => d2_imp ..) _ _)
theorem fromWait_imp (n : Nat) (F : Falls) (at_ a : Nat) (s : St) : Imp s (fromWait n F at_ a s) :=
  ((d1_imp _ _ _ _).trans (d1_imp _ _ _ _)).trans (foldl_imp (fun _ _ => d2_imp ..) _ _)
theorem look_imp (n : Nat) (F : Falls) (at_ : Nat) (s : St) : Imp s (look n F at_ s) := by
  unfold look
  split
  · split
    · split
      · exact fromTie_imp ..
      · exact fromWait_imp ..
    · exact Imp.refl s
  · exact Imp.refl s
/-! what is drawn lies within the web -/
structure FOk (n : Nat) (F : Falls) (most : Int) : Prop where
  lt : ∀ e f, F e = some f → f.1 < n ∧ e < n
  own : ∀ e f, F e = some f → F f.1 = none
  num : ∀ e f, F e = some f → 1 ≤ f.2.1 ∧ f.2.1 ≤ f.2.2 ∧ f.2.2 ≤ most
noncomputable def Fit (n : Nat) (w : What) : Prop := w.a < n ∧ w.b < n ∧ (w.tie = false → w.a ≠ w.b)
theorem put_good {n : Nat} {st : St} {o : Option What} {word : Wd} {used : List Nat} (g : Good n st) (h : ∀ w, o = some w → Fit n w) : Good n (put st o word used) := by
  cases o with
  | none => exact g
  | some w => exact take_good g (h w rfl).1 (h w rfl).2.1 (h w rfl).2.2
theorem d1_good {n : Nat} {f : What → Option What} {word : Wd} {i : Nat} {s : St} (g : Good n s) (hf : ∀ p w, p.a < n → p.b < n → f p = some w → Fit n w) : Good n (draw1 f word i s) := by
  refine put_good g fun w h => ?_
  cases q : wat s i with
  | none => rw [q] at h; cases h
  | some p =>
    rw [q] at h
    have := g.lt i p q
    exact hf p w this.1 this.2 h
theorem d2_good {n : Nat} {f : What → What → Option What} {word : Wd} {i j : Nat} {s : St} (g : Good n s) (hf : ∀ p q w, p.a < n → p.b < n → q.a < n → q.b < n → f p q = some w → Fit n w) : Good n (draw2 f word i j s) := by
  refine put_good g fun w h => ?_
  cases e1 : wat s i with
  | none => rw [e1] at h; cases h
  | some p =>
    rw [e1] at h
    have h : (wat s j).bind (fun q => f p q) = some w := h
    cases e2 : wat s j with
    | none => rw [e2] at h; cases h
    | some q =>
      rw [e2] at h
      have h1 := g.lt i p e1
      have h2 := g.lt j q e2
      exact hf p q w h1.1 h1.2 h2.1 h2.2 h
theorem foldl_good {n : Nat} {f : St → Nat → St} (hf : ∀ s j, Good n s → Good n (f s j)) : ∀ (l : List Nat) (s : St), Good n s → Good n (l.foldl f s)
  | [], _, g => g
  | j :: l, s, g => foldl_good hf l (f s j) (hf s j g)
theorem sum_fit {n : Nat} (p q w : What) (h1 : p.a < n) (_ : p.b < n) (_ : q.a < n) (h4 : q.b < n) (h : bySum p q = some w) : Fit n w := by
  unfold bySum at h
  split at h
  · cases h; exact ⟨h1, h4, fun z => nomatch z⟩
  · cases h
theorem late_fit {n : Nat} {F : Falls} (p w : What) (h1 : p.a < n) (h2 : p.b < n) (h : byLate F p = some w) : Fit n w := by
  unfold byLate at h
  split at h
  next c =>
    cases q : F p.b with
    | none => rw [q] at h; cases h
    | some f => rw [q] at h; cases h; exact ⟨h1, h2, fun _ => c.2⟩
  · cases h
theorem soon_fit {n : Nat} {F : Falls} {most : Int} (hF : FOk n F most) (p w : What) (_ : p.a < n) (h2 : p.b < n) (h : bySoon F p = some w) : Fit n w := by
  unfold bySoon at h
  split at h
  · cases q : F p.a with
    | none => rw [q] at h; cases h
    | some f => rw [q] at h; cases h; exact ⟨(hF.lt _ _ q).1, h2, fun z => nomatch z⟩
  · cases h
theorem sure_fit {n : Nat} {F : Falls} {most : Int} (hF : FOk n F most) (p w : What) (h1 : p.a < n) (_ : p.b < n) (h : bySure F p = some w) : Fit n w := by
  unfold bySure at h
  split at h
  · cases q : F p.b with
    | none => rw [q] at h; cases h
    | some f => rw [q] at h; cases h; exact ⟨h1, (hF.lt _ _ q).1, fun z => nomatch z⟩
  · cases h
theorem back_fit {n : Nat} {F : Falls} (p q w : What) (_ : p.a < n) (h2 : p.b < n) (h3 : q.a < n) (_ : q.b < n) (h : byBack F p q = some w) : Fit n w := by
  unfold byBack at h
  split at h
  next c =>
    cases e : F p.b with
    | none => rw [e] at h; cases h
    | some f => rw [e] at h; cases h; exact ⟨h3, h2, fun _ => c.2.2.2⟩
  · cases h
theorem cross_fit {n : Nat} {F : Falls} {most : Int} (hF : FOk n F most) (p w : What) (_ : p.a < n) (h2 : p.b < n) (h : byCross F p = some w) : Fit n w := by
  unfold byCross at h
  split at h
  · cases e : F p.a with
    | none => rw [e] at h; cases h
    | some o =>
      rw [e] at h
      have h : (F p.b).map (fun f => (⟨false, o.1, p.b, min p.v f.2.2 - o.2.1⟩ : What)) = some w := h
      cases e2 : F p.b with
      | none => rw [e2] at h; cases h
      | some f =>
        rw [e2] at h
        cases h
        refine ⟨(hF.lt _ _ e).1, h2, fun _ z => ?_⟩
        have z : o.1 = p.b := z
        have := hF.own _ _ e
        rw [z, e2] at this
        cases this
  · cases h
theorem look_good {n : Nat} {F : Falls} {most : Int} (hF : FOk n F most) {at_ : Nat} {s : St} (g : Good n s) : Good n (look n F at_ s) := by
  unfold look
  split
  · split
    · split
      · refine foldl_good (fun _ _ g => d2_good g back_fit) _ _ (foldl_good (fun _ _ g => d2_good g sum_fit) _ _ (foldl_good (fun _ _ g => d2_good g sum_fit) _ _ (d1_good (d1_good g late_fit) (soon_fit hF))))
      · exact foldl_good (fun _ _ g => d2_good g back_fit) _ _ (d1_good (d1_good g (sure_fit hF)) (cross_fit hF))
    · exact g
  · exact g
theorem run_good {n : Nat} {F : Falls} {most : Int} (hF : FOk n F most) {s : St} (g : Good n s) : ∀ t, Good n (run n F s t)
  | 0 => g
  | t + 1 => look_good hF (run_good hF g t)
end MU

/-! The closing comes to its end. -/
namespace MU
noncomputable def Add (C : What → Prop) (s s' : St) : Prop := ∀ i w, s.rows.length ≤ i → wat s' i = some w → C w
theorem Add.refl {C : What → Prop} (s : St) : Add C s s := fun i w h e => absurd (wat_lt e) (by omega)
theorem Add.trans {C : What → Prop} {a b c : St} (x : Add C a b) (e : Ext b c) (y : Add C b c) : Add C a c := fun i w h hw => by
  by_cases hi : i < b.rows.length
  · have : ∃ w', wat b i = some w' := ⟨_, by unfold wat; rw [List.getElem?_eq_getElem hi]; rfl⟩
    obtain ⟨w', hw'⟩ := this
    have := wat_ext e hw'
    rw [hw] at this
    cases this
    exact x i w h hw'
  · exact y i w (by omega) hw
theorem take_add {C : What → Prop} {s : St} {w : What} {word : Wd} {used : List Nat} (h : C w) : Add C s (take s w word used) := fun i u hi hu => by
  by_cases c : News s w
  · obtain ⟨_, h1, h2⟩ := take_new (word := word) (used := used) c
    have := wat_lt hu
    have e : i = s.rows.length := by omega
    rw [e, h1] at hu
    cases hu
    exact h
  · rw [take_old c] at hu
    exact absurd (wat_lt hu) (by omega)
theorem put_add {C : What → Prop} {s : St} {o : Option What} {word : Wd} {used : List Nat} (h : ∀ w, o = some w → C w) : Add C s (put s o word used) := by
  cases o with
  | none => exact Add.refl s
  | some w => exact take_add (h w rfl)
theorem d1_add {C : What → Prop} {s : St} {f : What → Option What} {word : Wd} {i : Nat} {p : What} (hp : wat s i = some p) (h : ∀ w, f p = some w → C w) : Add C s (draw1 f word i s) := put_add fun w e => by rw [hp] at e; exact h w e
theorem d2_add {C : What → Prop} {s : St} {f : What → What → Option What} {word : Wd} {i j : Nat} {p q : What} (hp : wat s i = some p) (hq : wat s j = some q) (h : ∀ w, f p q = some w → C w) : Add C s (draw2 f word i j s) := put_add fun w e => by
  rw [hp] at e
  have e : (wat s j).bind (fun q => f p q) = some w := e
  rw [hq] at e
  exact h w e
theorem foldl_add {C : What → Prop} {f : St → Nat → St} (hf : ∀ s j, Imp s (f s j)) : ∀ (l : List Nat) (s0 s : St), Imp s0 s → (∀ j ∈ l, ∀ s1, Imp s0 s1 → Add C s1 (f s1 j)) → Add C s (l.foldl f s)
  | [], _, s, _, _ => Add.refl s
  | j :: l, s0, s, h0, h => (h j List.mem_cons_self s h0).trans (foldl_imp hf l (f s j)).1 (foldl_add hf l s0 (f s j) (h0.trans (hf s j)) fun k hk => h k (List.mem_cons_of_mem _ hk))
theorem foldl_mem {f : St → Nat → St} (hf : ∀ s j, Imp s (f s j)) : ∀ (l : List Nat) (s : St) (j : Nat), j ∈ l → ∃ s1, Imp s s1 ∧ Imp (f s1 j) (l.foldl f s)
  | [], _, _, h => nomatch h
  | k :: l, s, j, h => by
    rcases List.mem_cons.mp h with e | h
    · subst e
      exact ⟨s, Imp.refl s, foldl_imp hf l (f s j)⟩
    · obtain ⟨s1, h1, h2⟩ := foldl_mem hf l (f s k) j h
      exact ⟨s1, (hf s k).trans h1, h2⟩
theorem known_mem {n : Nat} {st : St} {tie : Bool} {a j : Nat} (h : j ∈ knownOf n st tie a) : ∃ b, b < n ∧ st.best (tie, a, b) = some j := by
  obtain ⟨b, hb, e⟩ := List.mem_filterMap.mp h
  exact ⟨b, List.mem_range.mp hb, e⟩
theorem tiesTo_mem {n : Nat} {st : St} {b j : Nat} (h : j ∈ tiesTo n st b) : ∃ a, a < n ∧ st.best (true, a, b) = some j := by
  obtain ⟨a, ha, e⟩ := List.mem_filterMap.mp h
  exact ⟨a, List.mem_range.mp ha, e⟩
theorem best_val {n : Nat} {s : St} (g : Good n s) {k : Key} {u : Int} (h : val s k = some u) : ∃ i w, s.best k = some i ∧ wat s i = some w ∧ w.key = k ∧ w.v = u := by
  unfold val at h
  cases q : s.best k with
  | none => rw [q] at h; cases h
  | some i =>
    obtain ⟨w, hw, hk⟩ := g.at_ k i q
    rw [q] at h
    have h : (wat s i).map (·.v) = some u := h
    rw [hw] at h
    exact ⟨i, w, rfl, hw, hk, Option.some.inj h⟩
theorem key_eq {w : What} {t : Bool} {a b : Nat} (h : w.key = (t, a, b)) : w.tie = t ∧ w.a = a ∧ w.b = b := by
  unfold What.key at h
  exact ⟨congrArg Prod.fst h, congrArg (fun z => z.2.1) h, congrArg (fun z => z.2.2) h⟩
theorem tie_sum {n : Nat} {F : Falls} {most : Int} (hF : FOk n F most) {s : St} (g : Good n s) {at_ a b c : Nat} {p : What} {u : Int} (hp : wat s at_ = some p) (pt : p.tie = true) (pa : p.a = a) (pb : p.b = b) (hu : val s (true, b, c) = some u) (hbc : b ≠ c) (hc : c < n) :
    (a ≠ c → ∃ x, x ≤ p.v + u ∧ val (fromTie n F at_ a b s) (true, a, c) = some x) ∧ (a = c → p.v + u < 0 → (fromTie n F at_ a b s).bar ≠ none) := by
  have i2 : Imp s (draw1 (bySoon F) .soon at_ (draw1 (byLate F) .late at_ s)) := (d1_imp _ _ _ _).trans (d1_imp _ _ _ _)
  have g2 : Good n (draw1 (bySoon F) .soon at_ (draw1 (byLate F) .late at_ s)) := d1_good (d1_good g late_fit) (soon_fit hF)
  unfold fromTie
  dsimp only
  generalize draw1 (bySoon F) .soon at_ (draw1 (byLate F) .late at_ s) = s2 at *
  obtain ⟨u2, hu2, nb⟩ := i2.2 (true, b, c) u hbc hu
  have hle : u2 ≤ u := by
    unfold better at nb
    simp at nb
    exact nb
  obtain ⟨j, q, hj, hq, hqk, hqv⟩ := best_val g2 hu2
  obtain ⟨qt, qa, qb⟩ := key_eq hqk
  have hmem : j ∈ knownOf n s2 true b := List.mem_filterMap.mpr ⟨c, List.mem_range.mpr hc, hj⟩
  obtain ⟨s3, i3, i3'⟩ := foldl_mem (f := fun st j => draw2 bySum .sum at_ j st) (fun _ _ => d2_imp ..) _ s2 j hmem
  have hp3 := wat_ext (i2.1.trans i3.1) hp
  have hq3 := wat_ext i3.1 hq
  have hw : bySum p q = some ⟨true, a, c, p.v + u2⟩ := by
    unfold bySum
    rw [if_pos ⟨pt, qt, by rw [pb, qa]⟩, pa, qb, hqv]
  have hd : draw2 bySum .sum at_ j s3 = take s3 ⟨true, a, c, p.v + u2⟩ .sum [at_, j] := by
    unfold draw2
    rw [hp3]
    show put s3 ((wat s3 j).bind fun q => bySum p q) .sum [at_, j] = _
    rw [hq3]
    show put s3 (bySum p q) .sum [at_, j] = _
    rw [hw]
    rfl
  rw [hd] at i3'
  have iZ := i3'.trans ((foldl_imp (f := fun st j => draw2 bySum .sum j at_ st) (fun _ _ => d2_imp ..) (tiesTo n ((knownOf n s2 true b).foldl (fun st j => draw2 bySum .sum at_ j st) s2) a) _).trans (foldl_imp (f := fun st j => draw2 (byBack F) .back j at_ st) (fun _ _ => d2_imp ..) (knownOf n ((tiesTo n ((knownOf n s2 true b).foldl (fun st j => draw2 bySum .sum at_ j st) s2) a).foldl (fun st j => draw2 bySum .sum j at_ st) ((knownOf n s2 true b).foldl (fun st j => draw2 bySum .sum at_ j st) s2)) false b) _))
  refine ⟨fun hac => ?_, fun hac hlt => ?_⟩
  · obtain ⟨x, hx, nx⟩ := take_knows (st := s3) (word := .sum) (used := [at_, j]) (w := ⟨true, a, c, p.v + u2⟩) hac
    obtain ⟨y, hy, ny⟩ := iZ.2 (true, a, c) x hac hx
    refine ⟨y, ?_, hy⟩
    unfold better at nx ny
    simp at nx ny
    omega
  · exact iZ.1.bar (take_bars ⟨rfl, hac, by show p.v + u2 < 0; omega⟩)

end MU

/-! The closing comes to its end: the last step. -/
namespace MU
theorem run_imp {n : Nat} {F : Falls} {s : St} (t : Nat) : ∀ d, Imp (run n F s t) (run n F s (t + d))
  | 0 => Imp.refl _
  | d + 1 => (run_imp t d).trans (look_imp n F (t + d) _)
theorem run_imp' {n : Nat} {F : Falls} {s : St} {t t' : Nat} (h : t ≤ t') : Imp (run n F s t) (run n F s t') := by
  have := run_imp (n := n) (F := F) (s := s) t (t' - t)
  rwa [show t + (t' - t) = t' by omega] at this
section
variable {n : Nat} {F : Falls} {most : Int} {s0 : St}
theorem look_tie {s : St} {t a b : Nat} {w : What} (hw : wat s t = some w) (ht : w.tie = true) (ha : w.a = a) (hb : w.b = b) (hbest : s.best (true, a, b) = some t) : look n F t s = fromTie n F t a b s := by
  unfold look
  rw [hw]
  have hk : w.key = (true, a, b) := by unfold What.key; rw [ht, ha, hb]
  dsimp only
  rw [hk, if_pos hbest, if_pos ht, ha, hb]
end
end MU

/-! No closing goes on without end. -/
namespace MU
variable {n : Nat} {F : Falls} {most : Int} {s0 : St}
theorem look_wait {s : St} {t : Nat} {p : What} (hp : wat s t = some p) (ht : p.tie = false) (hb : s.best p.key = some t) : look n F t s = fromWait n F t p.a s := by
  unfold look
  rw [hp]
  dsimp only
  rw [if_pos hb, if_neg (by rw [ht]; decide)]
theorem look_none {s : St} {t : Nat} {p : What} (hp : wat s t = some p) (hb : s.best p.key ≠ some t) : look n F t s = s := by
  unfold look
  rw [hp]
  dsimp only
  rw [if_neg hb]
end MU

/-! How many rows a closing can draw: counting, and a run in the abstract. -/
namespace MH
theorem inj_le : ∀ (M N : Nat) (f : Nat → Nat), (∀ i, i < N → f i < M) → (∀ i j, i < j → j < N → f i ≠ f j) → N ≤ M
  | 0, N, f, h, _ => by
    cases N with
    | zero => exact Nat.le_refl _
    | succ N => exact absurd (h 0 (Nat.succ_pos _)) (Nat.not_lt_zero _)
  | M + 1, N, f, h, hi => by
    by_cases c : ∃ p, p < N ∧ f p = M
    · obtain ⟨p, hp, ep⟩ := c
      have k := inj_le M (N - 1) (fun i => f (if i < p then i else i + 1)) (fun i hi' => by
          have h1 : (if i < p then i else i + 1) < N := by split <;> omega
          have h2 := h _ h1
          have h3 : f (if i < p then i else i + 1) ≠ M := fun z => by
            by_cases c : i < p
            · rw [if_pos c] at z
              exact hi i p c hp (z.trans ep.symm)
            · rw [if_neg c] at z
              exact hi p (i + 1) (by omega) (by omega) (ep.trans z.symm)
          show f (if i < p then i else i + 1) < M
          omega) (fun i j hij hj => by
          show f (if i < p then i else i + 1) ≠ f (if j < p then j else j + 1)
          refine hi _ _ ?_ ?_
          · split <;> split <;> omega
          · split <;> omega)
      omega
    · have k := inj_le M N f (fun i hi' => by
          have h1 := h i hi'
          have h2 : f i ≠ M := fun z => c ⟨i, hi', z⟩
          omega) hi
      omega
open Classical in
noncomputable def cnt (P : Nat → Prop) : Nat → Nat
  | 0 => 0
  | N + 1 => cnt P N + if P N then 1 else 0
theorem cnt_yes {P : Nat → Prop} {N : Nat} (h : P N) : cnt P (N + 1) = cnt P N + 1 := by
  rw [cnt, if_pos h]
theorem cnt_no {P : Nat → Prop} {N : Nat} (h : ¬ P N) : cnt P (N + 1) = cnt P N := by
  rw [cnt, if_neg h, Nat.add_zero]
theorem cnt_enum (P : Nat → Prop) : ∀ N, ∃ e : Nat → Nat, (∀ i, i < cnt P N → P (e i) ∧ e i < N) ∧ ∀ i j, i < j → j < cnt P N → e i < e j
  | 0 => ⟨fun i => i, fun i h => absurd h (Nat.not_lt_zero _), fun i j _ h => absurd h (Nat.not_lt_zero _)⟩
  | N + 1 => by
    obtain ⟨e, h1, h2⟩ := cnt_enum P N
    by_cases c : P N
    · have ec : cnt P (N + 1) = cnt P N + 1 := cnt_yes c
      refine ⟨fun i => if i < cnt P N then e i else N, fun i hi => ?_, fun i j hij hj => ?_⟩
      · by_cases d : i < cnt P N
        · show P (if i < cnt P N then e i else N) ∧ (if i < cnt P N then e i else N) < N + 1
          rw [if_pos d]
          have := h1 i d
          exact ⟨this.1, by omega⟩
        · show P (if i < cnt P N then e i else N) ∧ (if i < cnt P N then e i else N) < N + 1
          rw [if_neg d]
          exact ⟨c, by omega⟩
      · show (if i < cnt P N then e i else N) < (if j < cnt P N then e j else N)
        rw [if_pos (show i < cnt P N by omega)]
        by_cases d : j < cnt P N
        · rw [if_pos d]; exact h2 i j hij d
        · rw [if_neg d]; exact (h1 i (by omega)).2
    · have ec : cnt P (N + 1) = cnt P N := cnt_no c
      rw [ec]
      exact ⟨e, fun i hi => ⟨(h1 i hi).1, by have := (h1 i hi).2; omega⟩, h2⟩
theorem cnt_le {P : Nat → Prop} {N M : Nat} (code : Nat → Nat) (h : ∀ i, i < N → P i → code i < M) (hi : ∀ i j, i < j → j < N → P i → P j → code i ≠ code j) : cnt P N ≤ M := by
  obtain ⟨e, h1, h2⟩ := cnt_enum P N
  exact inj_le M (cnt P N) (fun i => code (e i)) (fun i z => h _ (h1 i z).2 (h1 i z).1) fun i j hij hj => hi _ _ (h2 i j hij hj) (h1 j hj).2 (h1 i (by omega)).1 (h1 j hj).1
theorem cnt_or {P Q R : Nat → Prop} (h : ∀ i, P i → Q i ∨ R i) : ∀ N, cnt P N ≤ cnt Q N + cnt R N
  | 0 => Nat.le_refl _
  | N + 1 => by
    have ih := cnt_or h N
    have hq : cnt Q N ≤ cnt Q (N + 1) := by
      by_cases c : Q N
      · rw [cnt_yes c]; omega
      · rw [cnt_no c]; omega
    have hr : cnt R N ≤ cnt R (N + 1) := by
      by_cases c : R N
      · rw [cnt_yes c]; omega
      · rw [cnt_no c]; omega
    by_cases c : P N
    · rw [cnt_yes c]
      rcases h N c with q | q
      · rw [cnt_yes q]; omega
      · rw [cnt_yes q]; omega
    · rw [cnt_no c]; omega
theorem nodup_le : ∀ (N : Nat) (l : List Nat), l.Nodup → (∀ z ∈ l, z < N) → l.length ≤ N
  | 0, l, _, h => by
    cases l with
    | nil => exact Nat.le_refl _
    | cons x t => exact absurd (h x List.mem_cons_self) (Nat.not_lt_zero _)
  | N + 1, l, hn, h => by
    by_cases c : N ∈ l
    · have k := nodup_le N (l.erase N) (hn.erase N) (fun z hz => by
        have h1 := h z (List.mem_of_mem_erase hz)
        have h2 : z ≠ N := fun e => by
          rw [e] at hz
          exact (hn.mem_erase_iff.mp hz).1 rfl
        omega)
      rw [List.length_erase_of_mem c] at k
      omega
    · have k := nodup_le N l hn (fun z hz => by
        have h1 := h z hz
        have h2 : z ≠ N := fun e => c (e ▸ hz)
        omega)
      omega
end MH

set_option linter.unusedVariables false
/-! A run of the closing up to a time T, without bar: after a run of generations without looks at (c, 0), all ties are known and narrow. -/
namespace MH
section
variable {n : Nat} {L most : Int} {T : Nat} {len : Nat → Nat} {m w : Nat → Nat → Nat → Option Int} {pt pw : Nat → Nat → Nat → Prop}
end
end MH

set_option linter.unusedVariables false
set_option maxRecDepth 4000
/-! How many rows: the count. -/
namespace MH
section
variable {n l mo T : Nat} {len : Nat → Nat} {m w : Nat → Nat → Nat → Option Int} {pt pw : Nat → Nat → Nat → Prop}
end
end MH

set_option linter.unusedVariables false
set_option maxRecDepth 4000
/-! How many rows: what is drawn once all ties are narrow. -/
namespace MH
section
variable {n l mo T : Nat} {len : Nat → Nat} {m w : Nat → Nat → Nat → Option Int} {pt pw : Nat → Nat → Nat → Prop}
end
end MH

set_option linter.unusedVariables false
set_option maxRecDepth 4000
/-! The closing's run is such a run: how many rows it draws. -/
namespace MU
variable {n : Nat} {F : Falls} {most : Int} {s0 : St}
/-! how many rows a look adds -/
theorem put_len (st : St) (o : Option What) (word : Wd) (used : List Nat) : (put st o word used).rows.length ≤ st.rows.length + 1 := by
  cases o with
  | none => exact Nat.le_succ _
  | some w =>
    show (take st w word used).rows.length ≤ _
    by_cases c : News st w
    · rw [(take_new c).2.2]; exact Nat.le_refl _
    · rw [take_old c]; exact Nat.le_succ _
theorem foldl_len {f : St → Nat → St} (hf : ∀ s j, (f s j).rows.length ≤ s.rows.length + 1) : ∀ (l : List Nat) (s : St), (l.foldl f s).rows.length ≤ s.rows.length + l.length
  | [], s => Nat.le_refl _
  | j :: l, s => by
    have h1 := foldl_len hf l (f s j)
    have h2 := hf s j
    rw [List.length_cons]
    show (l.foldl f (f s j)).rows.length ≤ _
    omega
theorem known_len {tie : Bool} {st : St} {a : Nat} : (knownOf n st tie a).length ≤ n := by
  have := List.length_filterMap_le (fun b => st.best (tie, a, b)) (List.range n)
  rw [List.length_range] at this
  exact this
theorem tiesTo_len {st : St} {b : Nat} : (tiesTo n st b).length ≤ n := by
  have := List.length_filterMap_le (fun a => st.best (true, a, b)) (List.range n)
  rw [List.length_range] at this
  exact this
theorem tie_len {at_ a b : Nat} {s : St} : (fromTie n F at_ a b s).rows.length ≤ s.rows.length + (2 + 3 * n) := by
  unfold fromTie
  dsimp only
  have h1 : (draw1 (byLate F) .late at_ s).rows.length ≤ s.rows.length + 1 := put_len _ _ _ _
  generalize draw1 (byLate F) .late at_ s = s1 at *
  have h2 : (draw1 (bySoon F) .soon at_ s1).rows.length ≤ s1.rows.length + 1 := put_len _ _ _ _
  generalize draw1 (bySoon F) .soon at_ s1 = s2 at *
  have h3 := foldl_len (f := fun st j => draw2 bySum .sum at_ j st) (fun _ _ => put_len _ _ _ _) (knownOf n s2 true b) s2
  have k3 := known_len (n := n) (tie := true) (st := s2) (a := b)
  generalize (knownOf n s2 true b).foldl (fun st j => draw2 bySum .sum at_ j st) s2 = s3 at *
  have h4 := foldl_len (f := fun st j => draw2 bySum .sum j at_ st) (fun _ _ => put_len _ _ _ _) (tiesTo n s3 a) s3
  have k4 := tiesTo_len (n := n) (st := s3) (b := a)
  generalize (tiesTo n s3 a).foldl (fun st j => draw2 bySum .sum j at_ st) s3 = s4 at *
  have h5 := foldl_len (f := fun st j => draw2 (byBack F) .back j at_ st) (fun _ _ => put_len _ _ _ _) (knownOf n s4 false b) s4
  have k5 := known_len (n := n) (tie := false) (st := s4) (a := b)
  omega
theorem wait_len {at_ a : Nat} {s : St} : (fromWait n F at_ a s).rows.length ≤ s.rows.length + (2 + n) := by
  unfold fromWait
  dsimp only
  have h1 : (draw1 (bySure F) .sure at_ s).rows.length ≤ s.rows.length + 1 := put_len _ _ _ _
  generalize draw1 (bySure F) .sure at_ s = s1 at *
  have h2 : (draw1 (byCross F) .cross at_ s1).rows.length ≤ s1.rows.length + 1 := put_len _ _ _ _
  generalize draw1 (byCross F) .cross at_ s1 = s2 at *
  have h3 := foldl_len (f := fun st j => draw2 (byBack F) .back at_ j st) (fun _ _ => put_len _ _ _ _) (tiesTo n s2 a) s2
  have k3 := tiesTo_len (n := n) (st := s2) (b := a)
  omega
theorem look_len {at_ : Nat} {s : St} (h8 : n ≤ 8) : (look n F at_ s).rows.length ≤ s.rows.length + 26 := by
  unfold look
  split
  · split
    · split
      · exact Nat.le_trans tie_len (by omega)
      · exact Nat.le_trans wait_len (by omega)
    · omega
  · omega
/-! the run -/
end MU

set_option linter.unusedVariables false
set_option maxRecDepth 4000
namespace MU
variable {n : Nat} {F : Falls} {most : Int} {s0 : St}
theorem wat_back {s s' : St} (e : Ext s s') {i : Nat} {w : What} (hi : i < s.rows.length) (h : wat s' i = some w) : wat s i = some w := by
  obtain ⟨p, hp⟩ : ∃ p, wat s i = some p := ⟨_, by unfold wat; rw [List.getElem?_eq_getElem hi]; rfl⟩
  rw [wat_ext e hp] at h
  cases h
  exact hp
end MU

set_option linter.unusedVariables false
set_option maxRecDepth 4000
namespace MU
variable {n : Nat} {F : Falls} {s0 : St}
end MU

set_option Elab.async false
set_option linter.all false
set_option maxRecDepth 100000
set_option maxHeartbeats 4000000
namespace L2
theorem iteNP {c A B : Prop} [Decidable c] (hc : ¬ c) (h : A) : if (!decide c) = true then A else B := by
  rw [decide_eq_false hc]
  exact iteT h
end L2
namespace W
open PySem L2
/-! what holds for every hand: ties and waits as tuples -/
noncomputable def kindS (tie : Bool) : Str := if tie = true then "tie" else "wait"
noncomputable def whatV (x : MU.What) : List V := [.str (kindS x.tie), .int (x.a : Int), .int (x.b : Int), .int x.v]
noncomputable def WhatAt (H : Hp) (q : Addr) (x : MU.What) : Prop := H q = some (.tup (whatV x))
theorem WhatAt.same {H H' : Hp} {q : Addr} {x : MU.What} (h : WhatAt H q x) (s : Same H H') : WhatAt H' q x := s _ _ h
structure FallsAt (H : Hp) (d : Addr) (F : MU.Falls) : Prop where
  at_ : ∃ kvs : List (Key × V), H d = some (.dK kvs) ∧ kvs.length ≤ 100 ∧ (∀ e : Nat, F e = none → valV kvs (.inl (e : Int)) = none) ∧ ∀ (e : Nat) f, F e = some f → ∃ p, valV kvs (.inl (e : Int)) = some (.ref p) ∧ H p = some (.tup [.int (f.1 : Int), .int f.2.1, .int f.2.2])
theorem FallsAt.same {H H' : Hp} {d : Addr} {F : MU.Falls} (h : FallsAt H d F) (s : Same H H') : FallsAt H' d F := by
  obtain ⟨kvs, h1, h2, h3, h4⟩ := h.at_
  refine ⟨kvs, s _ _ h1, h2, h3, fun e f hf => ?_⟩
  obtain ⟨p, q1, q2⟩ := h4 e f hf
  exact ⟨p, q1, s _ _ q2⟩
noncomputable def Gives (H : Hp) (Q : VK) (o : Option MU.What) : Prop := (o = none → ∀ H', Same H H' → Q .non H') ∧ ∀ x, o = some x → ∀ r H', H r = none → Same H H' → WhatAt H' r x → Q (.ref r) H'
theorem Gives.no {H : Hp} {Q : VK} {o : Option MU.What} (h : Gives H Q o) (e : o = none) : Q .non H := h.1 e H (Same.refl _)
theorem Gives.yes {H : Hp} {Q : VK} {o : Option MU.What} (h : Gives H Q o) {x : MU.What} (e : o = some x) {r : Addr} (hr : H r = none) : Q (.ref r) (upd H r (.tup (whatV x))) := h.2 x e r _ hr (same_new hr) upd_same
theorem natD {a b : Nat} : decide (V.int (a : Int) = V.int (b : Int)) = decide (a = b) := decide_eq_decide.mpr ⟨fun q => Int.ofNat.inj (V.int.inj q), fun q => by rw [q]⟩
structure TxtP (mg : Str → Option Value) : Prop where
  min : mg "min" = none
noncomputable def spLate : Sp := fun vs H Q _ => ∃ d q F x, vs = [.ref d, .ref q] ∧ FallsAt H d F ∧ WhatAt H q x ∧ x.tie = true ∧ Gives H Q (MU.byLate F x)
noncomputable def spSoon : Sp := fun vs H Q _ => ∃ d q F x, vs = [.ref d, .ref q] ∧ FallsAt H d F ∧ WhatAt H q x ∧ x.tie = true ∧ Gives H Q (MU.bySoon F x)
noncomputable def spSum : Sp := fun vs H Q _ => ∃ p q x y, vs = [.ref p, .ref q] ∧ WhatAt H p x ∧ WhatAt H q y ∧ x.tie = true ∧ y.tie = true ∧ Gives H Q (MU.bySum x y)
noncomputable def spSure : Sp := fun vs H Q _ => ∃ d q F x fa, vs = [.ref d, .ref q] ∧ FallsAt H d F ∧ WhatAt H q x ∧ x.tie = false ∧ F x.b = some fa ∧ Gives H Q (MU.bySure F x)
noncomputable def spBack : Sp := fun vs H Q _ => ∃ d p q F x y fa, vs = [.ref d, .ref p, .ref q] ∧ FallsAt H d F ∧ WhatAt H p x ∧ WhatAt H q y ∧ x.tie = false ∧ y.tie = true ∧ F x.b = some fa ∧ Gives H Q (MU.byBack F x y)
noncomputable def spCross : Sp := fun vs H Q _ => ∃ d q F x fa, vs = [.ref d, .ref q] ∧ FallsAt H d F ∧ WhatAt H q x ∧ x.tie = false ∧ F x.b = some fa ∧ Gives H Q (MU.byCross F x)
noncomputable def spBars : Sp := fun vs H Q _ => ∃ q x, vs = [.ref q] ∧ WhatAt H q x ∧ Q (.bl (decide (MU.Bars x))) H
section
variable {P : Program} {w : World} {K : PySem.W.Frag} {mg : Str → Option Value} {base : Heap}
theorem scLa : FnScope ["falls", "tie", "end"] ["falls", "tie"] (defScope sP_by_late) := ⟨rfl, rfl, rfl, by decide +kernel, rfl, by decide +kernel, by decide +kernel⟩
theorem ok_late {f : Addr} {fd : FuncData} (F : Fn K mg "by_late" sP_by_late ["falls", "tie"] f fd) : FnOk P w K mg base CX0 1 f fd ["falls", "tie"] spLate := by
  refine F.F.ok scLa (fun vs H Q E h => ?_) (fun cdv A outer s H vs Q E hr h => ?_)
  · obtain ⟨_, _, _, _, rfl, _⟩ := h
    rfl
  · obtain ⟨d, q, Fa, x, rfl, FA, hw, ht, G⟩ := h
    have hu := hu_of hr
    refine ⟨_, pss_cons (ps_set (i := 2) scLa.nd rfl (Or.inl rfl) (pe_ix ix_tup0 (pv 1) pe_int (fun _ _ => rfl)))
      (pss_cons (ps_if (PW.pt (pw_or (pt_cmp (pc_dnotin hu (pv 2) (pv 0)) (by with_unfolding_all rfl)) (pw_or1 (pt_cmpR op_eq (pe_ix ix_tup0 (pv 1) pe_int (fun _ _ => rfl)) (pv 2) (nomark _))))) (pss_one (ps_ret pe_non)) pss_nil)
      (pss_one (ps_ret (pe_tup (pa_cons pe_str (pa_cons (pe_ix ix_tup0 (pv 1) pe_int (fun _ _ => rfl)) (pa_cons (pv 2) (pa_cons (pe_op op_sub (pe_ix ix_tup0 (pe_dget hu (pv 0) (pv 2) (fun _ _ => rfl)) pe_int (fun _ _ => rfl)) (pe_ix ix_tup0 (pv 1) pe_int (fun _ _ => rfl))) pa_nil)))))))), ?_⟩
    obtain ⟨kvs, hd, hl, f0, f1⟩ := FA.at_
    refine ⟨_, rfl, rdT hw rfl ⟨_, rfl, _, rfl, d, _, rfl, DGet.k (k := Sum.inl (x.b : Int)) hd, _, rfl, ?_⟩⟩
    cases hf : Fa x.b with
    | none =>
      rw [f0 _ hf]
      refine iteT (G.no ?_)
      unfold MU.byLate
      rw [hf]
      split <;> rfl
    | some fa =>
      obtain ⟨p, e1, e2⟩ := f1 _ _ hf
      rw [e1]
      refine iteF ⟨_, rfl, rdT hw rfl ⟨_, rfl, rfl, _, rfl, ?_⟩⟩
      rw [natD]
      by_cases c : x.a = x.b
      · refine iteD c (G.no ?_)
        unfold MU.byLate
        rw [if_neg fun z => z.2 c]
      · refine iteDN c ?_
        have hg : MU.byLate Fa x = some ⟨false, x.a, x.b, fa.2.2 - x.v⟩ := by
          unfold MU.byLate
          rw [if_pos ⟨ht, c⟩, hf]
          rfl
        refine ⟨_, rfl, rdT hw rfl ⟨_, rfl, _, rfl, _, rfl, d, _, rfl, e1 ▸ DGet.k (k := Sum.inl (x.b : Int)) hd, ?_⟩⟩
        refine rdT e2 rfl ⟨_, rfl, rdT hw rfl ⟨_, _, rfl, rfl, by show 4 ≤ sizeLine; decide, fun r hr' => G.yes hg hr'⟩⟩
theorem scSo0 : FnScope ["falls", "tie", "end"] ["falls", "tie"] (defScope sP_by_soon) := ⟨rfl, rfl, rfl, by decide +kernel, rfl, by decide +kernel, by decide +kernel⟩
theorem ok_soon {f : Addr} {fd : FuncData} (F : Fn K mg "by_soon" sP_by_soon ["falls", "tie"] f fd) : FnOk P w K mg base CX0 1 f fd ["falls", "tie"] spSoon := by
  refine F.F.ok scSo0 (fun vs H Q E h => ?_) (fun cdv A outer s H vs Q E hr h => ?_)
  · obtain ⟨_, _, _, _, rfl, _⟩ := h
    rfl
  · obtain ⟨d, q, Fa, x, rfl, FA, hw, ht, G⟩ := h
    have hu := hu_of hr
    refine ⟨_, pss_cons (ps_set (i := 2) scSo0.nd rfl (Or.inl rfl) (pe_ix ix_tup0 (pv 1) pe_int (fun _ _ => rfl)))
      (pss_cons (ps_if (PW.pt (pw_or (pt_cmp (pc_dnotin hu (pv 2) (pv 0)) (by with_unfolding_all rfl)) (pw_or (pt_cmpR op_eq (pe_ix ix_tup0 (pv 1) pe_int (fun _ _ => rfl)) (pv 2) (nomark _)) (pw_or1 (pt_cmpR op_ge (pe_ix ix_tup0 (pv 1) pe_int (fun _ _ => rfl)) pe_int (nomark _)))))) (pss_one (ps_ret pe_non)) pss_nil)
      (pss_one (ps_ret (pe_tup (pa_cons pe_str (pa_cons (pe_ix ix_tup0 (pe_dget hu (pv 0) (pv 2) (fun _ _ => rfl)) pe_int (fun _ _ => rfl)) (pa_cons (pe_ix ix_tup0 (pv 1) pe_int (fun _ _ => rfl)) (pa_cons (pe_op op_add (pe_ix ix_tup0 (pe_dget hu (pv 0) (pv 2) (fun _ _ => rfl)) pe_int (fun _ _ => rfl)) (pe_ix ix_tup0 (pv 1) pe_int (fun _ _ => rfl))) pa_nil)))))))), ?_⟩
    obtain ⟨kvs, hd, hl, f0, f1⟩ := FA.at_
    refine ⟨_, rfl, rdT hw rfl ⟨_, rfl, _, rfl, d, _, rfl, DGet.k (k := Sum.inl (x.a : Int)) hd, _, rfl, ?_⟩⟩
    cases hf : Fa x.a with
    | none =>
      rw [f0 _ hf]
      refine iteT (G.no ?_)
      unfold MU.bySoon
      rw [hf]
      split <;> rfl
    | some fa =>
      obtain ⟨p, e1, e2⟩ := f1 _ _ hf
      rw [e1]
      refine iteF ⟨_, rfl, rdT hw rfl ⟨_, rfl, rfl, _, rfl, ?_⟩⟩
      rw [natD]
      by_cases c : x.b = x.a
      · refine iteD c (G.no ?_)
        unfold MU.bySoon
        rw [if_neg fun z => z.2.1 c.symm]
      · refine iteDN c ⟨_, rfl, rdT hw rfl ⟨_, _, rfl, rfl, _, rfl, ?_⟩⟩
        by_cases c2 : x.v < 0
        · refine iteDN (by omega) ?_
          have hg : MU.bySoon Fa x = some ⟨true, fa.1, x.b, fa.2.1 + x.v⟩ := by
            unfold MU.bySoon
            rw [if_pos ⟨ht, fun z => c z.symm, c2⟩, hf]
            rfl
          refine ⟨_, rfl, _, rfl, d, _, rfl, e1 ▸ DGet.k (k := Sum.inl (x.a : Int)) hd, ?_⟩
          refine rdT e2 rfl ⟨_, rfl, rdT hw rfl ⟨_, rfl, _, rfl, d, _, rfl, e1 ▸ DGet.k (k := Sum.inl (x.a : Int)) hd, ?_⟩⟩
          refine rdT e2 rfl ⟨_, rfl, rdT hw rfl ⟨_, _, rfl, rfl, by show 4 ≤ sizeLine; decide, fun r hr' => G.yes hg hr'⟩⟩
        · refine iteD (by omega) (G.no ?_)
          unfold MU.bySoon
          rw [if_neg fun z => c2 z.2.2]
theorem scSum0 : FnScope ["first", "second"] ["first", "second"] (defScope sP_by_sum) := ⟨rfl, rfl, rfl, by decide +kernel, rfl, by decide +kernel, by decide +kernel⟩
theorem ok_sum {f : Addr} {fd : FuncData} (F : Fn K mg "by_sum" sP_by_sum ["first", "second"] f fd) : FnOk P w K mg base CX0 1 f fd ["first", "second"] spSum := by
  refine F.F.ok scSum0 (fun vs H Q E h => ?_) (fun cdv A outer s H vs Q E hr h => ?_)
  · obtain ⟨_, _, _, _, rfl, _⟩ := h
    rfl
  · obtain ⟨p, q, x, y, rfl, hx, hy, tx, ty, G⟩ := h
    refine ⟨_, pss_cons (ps_if (pt_cmpR op_ne (pe_ix ix_tup0 (pv 0) pe_int (fun _ _ => rfl)) (pe_ix ix_tup0 (pv 1) pe_int (fun _ _ => rfl)) (nomark _)) (pss_one (ps_ret pe_non)) pss_nil)
      (pss_one (ps_ret (pe_tup (pa_cons pe_str (pa_cons (pe_ix ix_tup0 (pv 0) pe_int (fun _ _ => rfl)) (pa_cons (pe_ix ix_tup0 (pv 1) pe_int (fun _ _ => rfl)) (pa_cons (pe_op op_add (pe_ix ix_tup0 (pv 0) pe_int (fun _ _ => rfl)) (pe_ix ix_tup0 (pv 1) pe_int (fun _ _ => rfl))) pa_nil))))))), ?_⟩
    refine ⟨_, rfl, rdT hx rfl ⟨_, rfl, rdT hy rfl ⟨rfl, _, rfl, ?_⟩⟩⟩
    rw [natD]
    by_cases c : x.b = y.a
    · refine iteNS c ?_
      have hg : MU.bySum x y = some ⟨true, x.a, y.b, x.v + y.v⟩ := if_pos ⟨tx, ty, c⟩
      exact ⟨_, rfl, rdT hx rfl ⟨_, rfl, rdT hy rfl ⟨_, rfl, rdT hx rfl ⟨_, rfl, rdT hy rfl ⟨_, _, rfl, rfl, by show 4 ≤ sizeLine; decide, fun r hr' => G.yes hg hr'⟩⟩⟩⟩⟩
    · exact iteNP c (G.no (if_neg fun z => c z.2.2))
theorem min_if {a b : Int} : (if b < a then b else a) = min a b := by
  rw [Int.min_def]
  by_cases c : b < a
  · rw [if_pos c, if_neg (by omega)]
  · rw [if_neg c, if_pos (by omega)]
theorem scSure0 : FnScope ["falls", "wait", "fall"] ["falls", "wait"] (defScope sP_by_sure) := ⟨rfl, rfl, rfl, by decide +kernel, rfl, by decide +kernel, by decide +kernel⟩
theorem ok_sure {f : Addr} {fd : FuncData} (F : Fn K mg "by_sure" sP_by_sure ["falls", "wait"] f fd) (T : TxtP mg) : FnOk P w K mg base CX0 1 f fd ["falls", "wait"] spSure := by
  refine F.F.ok scSure0 (fun vs H Q E h => ?_) (fun cdv A outer s H vs Q E hr h => ?_)
  · obtain ⟨_, _, _, _, _, rfl, _⟩ := h
    rfl
  · obtain ⟨d, q, Fa, x, fa, rfl, FA, hw, ht, hf, G⟩ := h
    have hu := hu_of hr
    refine ⟨_, pss_cons (ps_set (i := 2) scSure0.nd rfl (Or.inl rfl) (pe_dget hu (pv 0) (pe_ix ix_tup0 (pv 1) pe_int (fun _ _ => rfl)) (fun _ _ => rfl)))
      (pss_one (ps_ret (pe_tup (pa_cons pe_str (pa_cons (pe_ix ix_tup0 (pv 1) pe_int (fun _ _ => rfl)) (pa_cons (pe_ix ix_tup0 (pv 2) pe_int (fun _ _ => rfl)) (pa_cons (pe_un un_neg (pe_callB (call_min2 rfl) (by rfl) T.min (by decide +kernel) (pa_cons (pe_ix ix_tup0 (pv 1) pe_int (fun _ _ => rfl)) (pa_cons (pe_ix ix_tup0 (pv 2) pe_int (fun _ _ => rfl)) pa_nil)))) pa_nil))))))), ?_⟩
    obtain ⟨kvs, hd, hl, f0, f1⟩ := FA.at_
    obtain ⟨p, e1, e2⟩ := f1 _ _ hf
    have hg : MU.bySure Fa x = some ⟨true, x.a, fa.1, -min x.v fa.2.1⟩ := by
      unfold MU.bySure
      rw [if_pos ht, hf]
      rfl
    refine ⟨_, rfl, _, rfl, rdT hw rfl ⟨d, _, rfl, e1 ▸ DGet.k (k := Sum.inl (x.b : Int)) hd, ?_⟩⟩
    refine ⟨_, rfl, rdT hw rfl ⟨_, rfl, rdT e2 rfl ⟨_, rfl, rdT hw rfl ⟨_, rfl, rdT e2 rfl ⟨_, _, rfl, _, rfl, by show 4 ≤ sizeLine; decide, fun r hr' => ?_⟩⟩⟩⟩⟩
    have := G.yes hg hr'
    rw [min_if]
    exact this
theorem scBack0 : FnScope ["falls", "wait", "tie", "end"] ["falls", "wait", "tie"] (defScope sP_by_back) := ⟨rfl, rfl, rfl, by decide +kernel, rfl, by decide +kernel, by decide +kernel⟩
theorem ok_back {f : Addr} {fd : FuncData} (F : Fn K mg "by_back" sP_by_back ["falls", "wait", "tie"] f fd) (T : TxtP mg) : FnOk P w K mg base CX0 1 f fd ["falls", "wait", "tie"] spBack := by
  refine F.F.ok scBack0 (fun vs H Q E h => ?_) (fun cdv A outer s H vs Q E hr h => ?_)
  · obtain ⟨_, _, _, _, _, _, _, rfl, _⟩ := h
    rfl
  · obtain ⟨d, p, q, Fa, x, y, fa, rfl, FA, hx, hy, tx, ty, hf, G⟩ := h
    have hu := hu_of hr
    refine ⟨_, pss_cons (ps_set (i := 3) scBack0.nd rfl (Or.inl rfl) (pe_ix ix_tup0 (pv 1) pe_int (fun _ _ => rfl)))
      (pss_cons (ps_if (PW.pt (pw_or (pt_cmpR op_ne (pe_ix ix_tup0 (pv 2) pe_int (fun _ _ => rfl)) (pe_ix ix_tup0 (pv 1) pe_int (fun _ _ => rfl)) (nomark _)) (pw_or1 (pt_cmpR op_eq (pe_ix ix_tup0 (pv 2) pe_int (fun _ _ => rfl)) (pv 3) (nomark _))))) (pss_one (ps_ret pe_non)) pss_nil)
      (pss_one (ps_ret (pe_tup (pa_cons pe_str (pa_cons (pe_ix ix_tup0 (pv 2) pe_int (fun _ _ => rfl)) (pa_cons (pv 3) (pa_cons (pe_op op_sub (pe_callB (call_min2 rfl) (by rfl) T.min (by decide +kernel) (pa_cons (pe_ix ix_tup0 (pv 1) pe_int (fun _ _ => rfl)) (pa_cons (pe_ix ix_tup0 (pe_dget hu (pv 0) (pv 3) (fun _ _ => rfl)) pe_int (fun _ _ => rfl)) pa_nil))) (pe_ix ix_tup0 (pv 2) pe_int (fun _ _ => rfl))) pa_nil)))))))), ?_⟩
    obtain ⟨kvs, hd, hl, f0, f1⟩ := FA.at_
    obtain ⟨pp, e1, e2⟩ := f1 _ _ hf
    refine ⟨_, rfl, rdT hx rfl ⟨_, rfl, rdT hy rfl ⟨_, rfl, rdT hx rfl ⟨rfl, _, rfl, ?_⟩⟩⟩⟩
    rw [natD]
    by_cases c : y.b = x.a
    · refine iteNS c ⟨_, rfl, rdT hy rfl ⟨_, rfl, rfl, _, rfl, ?_⟩⟩
      rw [natD]
      by_cases c2 : y.a = x.b
      · exact iteD c2 (G.no (if_neg fun z => z.2.2.2 c2))
      · refine iteDN c2 ?_
        have hg : MU.byBack Fa x y = some ⟨false, y.a, x.b, min x.v fa.2.2 - y.v⟩ := by
          unfold MU.byBack
          rw [if_pos ⟨tx, ty, c, c2⟩, hf]
          rfl
        refine ⟨_, rfl, rdT hy rfl ⟨_, rfl, _, rfl, rdT hx rfl ⟨_, rfl, _, rfl, d, _, rfl, e1 ▸ DGet.k (k := Sum.inl (x.b : Int)) hd, ?_⟩⟩⟩
        refine rdT e2 rfl ⟨_, _, rfl, _, rfl, rdT hy rfl ⟨_, _, rfl, rfl, by show 4 ≤ sizeLine; decide, fun r hr' => ?_⟩⟩
        have := G.yes hg hr'
        rw [min_if]
        exact this
    · exact iteNP c (G.no (if_neg fun z => c z.2.2.1))
theorem scCross0 : FnScope ["falls", "wait", "end", "other"] ["falls", "wait"] (defScope sP_by_cross) := ⟨rfl, rfl, rfl, by decide +kernel, rfl, by decide +kernel, by decide +kernel⟩
theorem ok_cross {f : Addr} {fd : FuncData} (F : Fn K mg "by_cross" sP_by_cross ["falls", "wait"] f fd) (T : TxtP mg) : FnOk P w K mg base CX0 1 f fd ["falls", "wait"] spCross := by
  refine F.F.ok scCross0 (fun vs H Q E h => ?_) (fun cdv A outer s H vs Q E hr h => ?_)
  · obtain ⟨_, _, _, _, _, rfl, _⟩ := h
    rfl
  · obtain ⟨d, q, Fa, x, fa, rfl, FA, hw, ht, hf, G⟩ := h
    have hu := hu_of hr
    refine ⟨_, pss_cons (ps_set (i := 2) scCross0.nd rfl (Or.inl rfl) (pe_ix ix_tup0 (pv 1) pe_int (fun _ _ => rfl)))
      (pss_cons (ps_if (PW.pt (pw_or (pt_cmp (pc_dnotin hu (pe_ix ix_tup0 (pv 1) pe_int (fun _ _ => rfl)) (pv 0)) (by with_unfolding_all rfl)) (pw_or (pt_cmpR op_eq (pe_ix ix_tup0 (pv 1) pe_int (fun _ _ => rfl)) (pv 2) (nomark _)) (pw_or1 (pt_cmpR op_le (pe_ix ix_tup0 (pv 1) pe_int (fun _ _ => rfl)) pe_int (nomark _)))))) (pss_one (ps_ret pe_non)) pss_nil)
      (pss_cons (ps_set (i := 3) scCross0.nd rfl (Or.inl rfl) (pe_dget hu (pv 0) (pe_ix ix_tup0 (pv 1) pe_int (fun _ _ => rfl)) (fun _ _ => rfl)))
      (pss_one (ps_ret (pe_tup (pa_cons pe_str (pa_cons (pe_ix ix_tup0 (pv 3) pe_int (fun _ _ => rfl)) (pa_cons (pv 2) (pa_cons (pe_op op_sub (pe_callB (call_min2 rfl) (by rfl) T.min (by decide +kernel) (pa_cons (pe_ix ix_tup0 (pv 1) pe_int (fun _ _ => rfl)) (pa_cons (pe_ix ix_tup0 (pe_dget hu (pv 0) (pv 2) (fun _ _ => rfl)) pe_int (fun _ _ => rfl)) pa_nil))) (pe_ix ix_tup0 (pv 3) pe_int (fun _ _ => rfl))) pa_nil))))))))), ?_⟩
    obtain ⟨kvs, hd, hl, f0, f1⟩ := FA.at_
    obtain ⟨pp, e1, e2⟩ := f1 _ _ hf
    refine ⟨_, rfl, rdT hw rfl ⟨_, rfl, rdT hw rfl ⟨_, rfl, d, _, rfl, DGet.k (k := Sum.inl (x.a : Int)) hd, _, rfl, ?_⟩⟩⟩
    cases ho : Fa x.a with
    | none =>
      rw [f0 _ ho]
      refine iteT (G.no ?_)
      unfold MU.byCross
      rw [ho]
      split <;> rfl
    | some oa =>
      obtain ⟨po, o1, o2⟩ := f1 _ _ ho
      rw [o1]
      refine iteF ⟨_, rfl, rdT hw rfl ⟨_, rfl, rfl, _, rfl, ?_⟩⟩
      rw [natD]
      by_cases c : x.a = x.b
      · refine iteD c (G.no ?_)
        unfold MU.byCross
        rw [if_neg fun z => z.2.1 c]
      · refine iteDN c ⟨_, rfl, rdT hw rfl ⟨_, _, rfl, rfl, _, rfl, ?_⟩⟩
        by_cases c2 : 0 < x.v
        · refine iteDN (by omega) ?_
          have hg : MU.byCross Fa x = some ⟨false, oa.1, x.b, min x.v fa.2.2 - oa.2.1⟩ := by
            unfold MU.byCross
            rw [if_pos ⟨ht, c, c2⟩, ho, hf]
            rfl
          refine ⟨_, rfl, _, rfl, rdT hw rfl ⟨d, _, rfl, o1 ▸ DGet.k (k := Sum.inl (x.a : Int)) hd, ?_⟩⟩
          refine ⟨_, rfl, rdT o2 rfl ⟨_, rfl, _, rfl, rdT hw rfl ⟨_, rfl, _, rfl, d, _, rfl, e1 ▸ DGet.k (k := Sum.inl (x.b : Int)) hd, ?_⟩⟩⟩
          refine rdT e2 rfl ⟨_, _, rfl, _, rfl, rdT o2 rfl ⟨_, _, rfl, rfl, by show 4 ≤ sizeLine; decide, fun r hr' => ?_⟩⟩
          have := G.yes hg hr'
          rw [min_if]
          exact this
        · refine iteD (by omega) (G.no ?_)
          unfold MU.byCross
          rw [if_neg fun z => c2 z.2.2]
theorem scBars : FnScope ["what"] ["what"] (defScope sP_bars_every_hand) := ⟨rfl, rfl, rfl, by decide +kernel, rfl, by decide +kernel, by decide +kernel⟩
theorem kind_tie {t : Bool} : decide (V.str (kindS t) = V.str "tie") = t := by
  cases t
  · exact decide_eq_false fun q => absurd (V.str.inj q) (by decide +kernel)
  · exact decide_eq_true rfl
theorem ok_bars {f : Addr} {fd : FuncData} (F : Fn K mg "bars_every_hand" sP_bars_every_hand ["what"] f fd) : FnOk P w K mg base CX0 1 f fd ["what"] spBars := by
  refine F.F.ok scBars (fun vs H Q E h => ?_) (fun cdv A outer s H vs Q E hr h => ?_)
  · obtain ⟨_, _, rfl, _⟩ := h
    rfl
  · obtain ⟨q, x, rfl, hw, k⟩ := h
    refine ⟨_, pss_one (ps_ret (pe_and (pe_cmpR op_eq (pe_ix ix_tup0 (pv 0) pe_int (fun _ _ => rfl)) pe_str (nomark _)) (pe_and (pe_cmpR op_eq (pe_ix ix_tup0 (pv 0) pe_int (fun _ _ => rfl)) (pe_ix ix_tup0 (pv 0) pe_int (fun _ _ => rfl)) (nomark _)) (pe_one (pe_cmpR op_lt (pe_ix ix_tup0 (pv 0) pe_int (fun _ _ => rfl)) pe_int (nomark _)))))), ?_⟩
    have eb : ∀ b : Bool, b = decide (MU.Bars x) → Q (.bl b) H := fun b e => by rw [e]; exact k
    refine ⟨_, rfl, rdT hw rfl ⟨rfl, _, rfl, ?_⟩⟩
    rw [kind_tie]
    cases ht : x.tie with
    | false => exact iteF (eb _ (decide_eq_false fun z => by have := z.1; rw [ht] at this; cases this).symm)
    | true =>
      refine iteT ⟨_, rfl, rdT hw rfl ⟨_, rfl, rdT hw rfl ⟨rfl, _, rfl, ?_⟩⟩⟩
      rw [natD]
      by_cases c : x.a = x.b
      · refine iteD c ⟨_, rfl, rdT hw rfl ⟨_, _, rfl, rfl, eb _ ?_⟩⟩
        exact decide_eq_decide.mpr ⟨fun z => ⟨ht, c, z⟩, fun z => z.2.2⟩
      · exact iteDN c (eb _ (decide_eq_false fun z => c z.2.1).symm)
end
end W

set_option Elab.async false
set_option linter.all false
set_option maxRecDepth 100000
set_option maxHeartbeats 4000000
namespace W
open PySem L2
/-! the falls by their ends -/
noncomputable def fallOf : List Int → Option (Nat × Int × Int)
  | [a, _, l, m] => some (a.toNat, l, m)
  | _ => none
noncomputable def fallsOf (F : List (List Int)) : MU.Falls := fun e => (F.find? fun r => decide (r[1]? = some (e : Int))).bind fallOf
theorem fallsOf_none {F : List (List Int)} {e : Nat} (h : ∀ r ∈ F, r[1]? ≠ some (e : Int)) : fallsOf F e = none := by
  unfold fallsOf
  have : (F.find? fun r => decide (r[1]? = some (e : Int))) = none := List.find?_eq_none.mpr fun r hr => by simpa using h r hr
  rw [this]
  rfl
theorem WebOk.find {n la : Int} {T F : List (List Int)} (h : WebOk n la T F) {e : Nat} {f : Nat × Int × Int} (hf : fallsOf F e = some f) : ∃ a l m : Int, [a, (e : Int), l, m] ∈ F ∧ f = (a.toNat, l, m) ∧ 0 ≤ a ∧ a < n ∧ 0 < (e : Int) ∧ (e : Int) < n ∧ a ≠ (e : Int) ∧ 1 ≤ l ∧ l ≤ m ∧ m ≤ 60 := by
  unfold fallsOf at hf
  cases q : F.find? fun r => decide (r[1]? = some (e : Int)) with
  | none => rw [q] at hf; cases hf
  | some r =>
    rw [q] at hf
    have hf : fallOf r = some f := hf
    have hm := List.mem_of_find?_eq_some q
    have hp := List.find?_some q
    obtain ⟨a, b, l, m, rfl, x1, x2, x3, x4, x5, x6, x7, x8⟩ := h.f r hm
    have hb : some b = some (e : Int) := of_decide_eq_true hp
    cases hb
    cases hf
    exact ⟨a, l, m, hm, rfl, x1, x2, x3, x4, x5, x6, x7, x8⟩
theorem WebOk.falls {n la : Int} {T F : List (List Int)} (h : WebOk n la T F) {a l m : Int} {e : Nat} (hm : [a, (e : Int), l, m] ∈ F) : fallsOf F e = some (a.toNat, l, m) := by
  obtain ⟨i, hi⟩ := List.mem_iff_getElem?.mp hm
  unfold fallsOf
  cases q : F.find? fun r => decide (r[1]? = some (e : Int)) with
  | none =>
    have := List.find?_eq_none.mp q _ hm
    simp at this
  | some r =>
    have hm' := List.mem_of_find?_eq_some q
    obtain ⟨j, hj⟩ := List.mem_iff_getElem?.mp hm'
    have hp : r[1]? = some (e : Int) := of_decide_eq_true (List.find?_some (p := fun r => decide (r[1]? = some (e : Int))) q)
    have ij := h.one i j _ _ hi hj (by rw [hp]; rfl)
    subst ij
    rw [hi] at hj
    cases hj
    rfl
theorem WebOk.fok {n : Nat} {la : Int} {T F : List (List Int)} (h : WebOk (n : Int) la T F) : MU.FOk n (fallsOf F) ((60 : Nat) : Int) := by
  refine ⟨fun e f hf => ?_, fun e f hf => ?_, fun e f hf => ?_⟩
  · obtain ⟨a, l, m, hm, rfl, x1, x2, x3, x4, _⟩ := h.find hf
    exact ⟨by show a.toNat < n; omega, by omega⟩
  · obtain ⟨a, l, m, hm, rfl, x1, x2, x3, x4, _⟩ := h.find hf
    refine fallsOf_none fun r hr => ?_
    have := h.own _ hm r hr
    show r[1]? ≠ some ((a.toNat : Nat) : Int)
    rw [show ((a.toNat : Nat) : Int) = a by omega]
    exact fun z => this z.symm
  · obtain ⟨a, l, m, hm, rfl, x1, x2, x3, x4, x5, x6, x7, x8⟩ := h.find hf
    exact ⟨x6, x7, x8⟩
noncomputable def spByEnd (C : Addr) : Sp := fun vs H Q _ => ∃ p n la T F, vs = [.ref p] ∧ WebAt C H p n la T F ∧ WebOk n la T F ∧ ∀ d H', H d = none → Same H H' → FallsAt H' d (fallsOf F) → Q (.ref d) H'
section
variable {P : Program} {w : World} {K : PySem.W.Frag} {mg : Str → Option Value} {base : Heap}
noncomputable abbrev nBe : List Str := ["web", "found", "one", "other", "least", "most"]
theorem scBe : FnScope nBe ["web"] (defScope sP_falls_by_end) := ⟨rfl, rfl, rfl, by decide +kernel, rfl, by decide +kernel, by decide +kernel⟩
theorem ok_byEnd {f C fF : Addr} {fd fdF : FuncData} (F : Fn K mg "falls_by_end" sP_falls_by_end ["web"] f fd) (TC : TxtC K mg C) (mF : Meth K C "falls" fF) (bF : Binds K fdF ["self"] []) (GF : FnOk P w K mg base CX0 1 fF fdF ["self"] (spGet C fun _ F => F)) :
    FnOk P w K mg base CX0 2 f fd ["web"] (spByEnd C) := by
  refine F.F.ok scBe (fun vs H Q E h => ?_) (fun cdv A outer s H vs Q E hr h => ?_)
  · obtain ⟨_, _, _, _, _, rfl, _⟩ := h
    rfl
  · obtain ⟨p, n, la, rT, rF, rfl, W0, hok, k⟩ := h
    have hu := hu_of hr
    refine ⟨_, pss_consA (ps_set (i := 1) scBe.nd rfl (Or.inl rfl) pe_dnewK)
      (pss_consA (ps_for PassesOwn.never rfl (pi_list (pe_meth0 (pv 0) TC.cl mF GF hr bF .nil pass0))
        (pg_tup rfl (pgs_cons (pg_name (i := 2) scBe.nd rfl (Or.inl rfl)) (pgs_cons (pg_name (i := 3) scBe.nd rfl (Or.inl rfl)) (pgs_cons (pg_name (i := 4) scBe.nd rfl (Or.inl rfl)) (pgs_cons (pg_name (i := 5) scBe.nd rfl (Or.inl rfl)) pgs_nil)))))
        (pss_one (ps_dput hu (pv 1) (pv 3) (pe_tup (pa_cons (pv 2) (pa_cons (pv 4) (pa_cons (pv 5) pa_nil)))) rfl)))
      (pss_one (ps_ret (pv 1)))), ?_⟩
    refine fun N1 c1 d hd => c1 _ _ ?_
    have s1 := same_new (o := .dK []) hd
    have e1 : upd H d (.dK []) d = some (.dK []) := upd_same
    generalize upd H d (.dK []) = H1 at *
    obtain ⟨dx, ta, fa, ep, _, _⟩ := id W0
    have nf : (wflds n la ta fa).lookup ("falls" : Str) = none := w_no _ _ _ _ (by decide +kernel) (by decide +kernel) (by decide +kernel) (by decide +kernel)
    refine fun N2 c2 => ⟨_, rfl, p, dx, _, rfl, s1 _ _ ep, nf, p, n, la, rT, rF, rfl, W0.same s1, fun l H2 hl s2 R2 => ?_⟩
    obtain ⟨qs, R⟩ := R2
    have R : RowsP H2 l qs rF := R
    refine ⟨l, rfl, ⟨_, SqL.of R.1⟩, ?_⟩
    have fl := hok.fl
    have hdd : H2 d = some (.dK []) := s2 _ _ e1
    have hdH : H d = none := hd
    refine for_list (K := K) (a := l) (xs := qs.map V.ref) (fun i σ' H' => ∃ v1 v2 v3 v4 kvs, σ' = [some (.ref p), some (.ref d), v1, v2, v3, v4] ∧ H' d = some (.dK kvs) ∧ kvs.length ≤ i ∧ (∀ e : Nat, (∀ r ∈ rF.take i, r[1]? ≠ some (e : Int)) → valV kvs (.inl (e : Int)) = none) ∧
        (∀ a b le mo : Int, [a, b, le, mo] ∈ rF.take i → ∃ q, valV kvs (.inl b) = some (.ref q) ∧ H' q = some (.tup [.int a, .int le, .int mo])) ∧ ∀ b o, H2 b = some o → b ≠ d → H' b = some o)
      ⟨none, none, none, none, [], rfl, hdd, Nat.le_refl _, (fun e _ => rfl), (fun a b le mo h => by simp at h), fun b o e _ => e⟩ ?_ ?_ ?_
    · rintro i σ' H3 _ ⟨v1, v2, v3, v4, kvs, rfl, _, _, _, _, kp⟩
      exact SqL.of (kp _ _ R.1 (ne_of R.1 hdd (fun z => nomatch z)))
    · rintro i x σ' H3 hx ⟨v1, v2, v3, v4, kvs, rfl, ed, hlen, h0, h1, kp⟩
      obtain ⟨q, r, rfl, hq, hr', hqt⟩ := R.get hx
      obtain ⟨a', b', le, mo, rfl, x1, x2, x3, x4, _⟩ := hok.f r (List.mem_of_getElem? hr')
      have hi : i < rF.length := (List.getElem?_eq_some_iff.mp hr').1
      refine ⟨q, _, rfl, SqT.of (kp _ _ hqt (ne_of hqt hdd (fun z => nomatch z))), rfl, _, _, rfl, _, _, rfl, _, _, rfl, _, _, rfl, rfl, ?_⟩
      refine ⟨_, rfl, _, rfl, _, rfl, by show 3 ≤ sizeLine; decide, fun t ht => ?_⟩
      have td : t ≠ d := Ne.symm (ne_of_none ed ht)
      refine ⟨_, rfl, _, rfl, d, _, rfl, DPut.k (k := Sum.inl b') (by rw [upd_ne (Ne.symm td)]; exact ed) (small1000 (by omega)), ?_⟩
      have tk : rF.take (i + 1) = rF.take i ++ [[a', b', le, mo]] := by rw [List.take_succ, hr']; rfl
      refine ⟨_, _, _, _, _, rfl, upd_same, Nat.le_trans (length_putK _ _ _) (by omega), fun e he => ?_, fun a b l2 m2 hm => ?_, fun b o e ne => ?_⟩
      · rw [tk] at he
        have hne : b' ≠ (e : Int) := fun z => he [a', b', le, mo] (List.mem_append_right _ List.mem_cons_self) (by rw [← z]; rfl)
        rw [valV_put, if_neg (fun z => hne (Sum.inl.inj z).symm)]
        exact h0 e fun r hr => he r (List.mem_append_left _ hr)
      · rw [tk] at hm
        rcases List.mem_append.mp hm with hm | hm
        · have hbb : b ≠ b' := fun z => by
            obtain ⟨j, hj⟩ := List.mem_iff_getElem?.mp hm
            have hjl : j < i := by
              have := (List.getElem?_eq_some_iff.mp hj).1
              rw [List.length_take] at this
              omega
            have hj' : rF[j]? = some [a, b, l2, m2] := by
              rw [List.getElem?_take] at hj
              rw [if_pos hjl] at hj
              exact hj
            have := hok.one j i _ _ hj' hr' (by rw [z]; rfl)
            omega
          obtain ⟨q', hq1, hq2⟩ := h1 a b l2 m2 hm
          refine ⟨q', by rw [valV_put, if_neg (fun z => hbb (Sum.inl.inj z))]; exact hq1, ?_⟩
          rw [upd_ne (ne_of hq2 ed (fun z => nomatch z)), upd_ne (ne_of_none hq2 ht)]
          exact hq2
        · have hm := List.mem_singleton.mp hm
          cases hm
          refine ⟨t, by rw [valV_put, if_pos rfl], ?_⟩
          rw [upd_ne td, upd_same]
      · rw [upd_ne ne, upd_ne (ne_of_none (kp _ _ e ne) ht)]
        exact kp _ _ e ne
    · rintro σ' H3 ⟨v1, v2, v3, v4, kvs, rfl, ed, hlen, h0, h1, kp⟩
      have hle : rF.take (qs.map V.ref).length = rF := by rw [List.length_map, R.len]; exact List.take_length
      rw [hle] at h0 h1
      rw [List.length_map, R.len] at hlen
      refine c2 _ _ ⟨_, rfl, k d H3 hd (fun b o e => kp _ _ (s2 _ _ (s1 _ _ e)) (ne_of_none e hdH)) ⟨kvs, ed, by omega, fun e he => h0 e fun r hr z => ?_, fun e f hf => ?_⟩⟩
      · obtain ⟨a', b', le, mo, rfl, _⟩ := hok.f r hr
        have z : some b' = some (e : Int) := z
        cases z
        rw [hok.falls hr] at he
        cases he
      · obtain ⟨a, l', m', hm, rfl, x1, _⟩ := hok.find hf
        obtain ⟨q, hq1, hq2⟩ := h1 _ _ _ _ hm
        refine ⟨q, hq1, ?_⟩
        rw [hq2]
        show some (HO.tup [.int a, .int l', .int m']) = some (HO.tup [.int ((a.toNat : Nat) : Int), .int l', .int m'])
        rw [show ((a.toNat : Nat) : Int) = a by omega]
end
end W

set_option Elab.async false
set_option linter.all false
set_option maxRecDepth 100000
set_option maxHeartbeats 1000000
/-! A table of the module, asked by a word: its values are tuples of words. -/
namespace L2
open PySem PySem.Spec PyProof.Rows
noncomputable def strsB : List Value → List Str → Bool
  | [], [] => true
  | .str x _ :: vs, s :: ss => decide (x = s) && strsB vs ss
  | _, _ => false
theorem strsB_vals : ∀ {vs : List Value} {ss : List Str}, strsB vs ss = true → Vals (ss.map V.str) vs
  | [], [], _ => .nil
  | .str x t :: vs, s :: ss, h => by
    have h : (decide (x = s) && strsB vs ss) = true := h
    rw [Bool.and_eq_true, decide_eq_true_eq] at h
    obtain ⟨e, h2⟩ := h
    subst e
    exact .cons ⟨t, rfl⟩ (strsB_vals h2)
  | [], _ :: _, h => by cases h
  | .none :: _, _, h => by simp [strsB] at h
  | .bool _ :: _, _, h => by simp [strsB] at h
  | .int _ _ :: _, _, h => by simp [strsB] at h
  | .float _ _ :: _, _, h => by simp [strsB] at h
  | .str _ _ :: _, [], h => by simp [strsB] at h
  | .bytes _ _ :: _, _, h => by simp [strsB] at h
  | .ref _ :: _, _, h => by simp [strsB] at h
  | .builtin _ :: _, _, h => by simp [strsB] at h
  | .type _ :: _, _, h => by simp [strsB] at h
  | .ellipsis :: _, _, h => by simp [strsB] at h
  | .notImplemented :: _, _, h => by simp [strsB] at h
noncomputable def tupLook (K : PySem.W.Frag) (ss : List Str) : Value → Bool
  | .ref b => match K.lookup b with
    | some o => (o.cls == .type "tuple") && (match o.data with
      | .seq its _ => decide (its.size ≤ sizeLine) && strsB its.toList ss
      | _ => false)
    | none => false
  | _ => false
theorem tupLook_of {K : PySem.W.Frag} {ss : List Str} {v : Value} (h : tupLook K ss v = true) : ∃ b, v = .ref b ∧ ∀ H, SqT K H b (ss.map V.str) := by
  cases v with
  | ref b =>
    refine ⟨b, rfl, fun H => .inr ?_⟩
    have h : (match K.lookup b with
      | some o => (o.cls == .type "tuple") && (match o.data with
        | .seq its _ => decide (its.size ≤ sizeLine) && strsB its.toList ss
        | _ => false)
      | none => false) = true := h
    cases q : K.lookup b with
    | none => rw [q] at h; cases h
    | some o =>
      rw [q] at h
      have h : ((o.cls == .type "tuple") && (match o.data with
        | .seq its _ => decide (its.size ≤ sizeLine) && strsB its.toList ss
        | _ => false)) = true := h
      rw [Bool.and_eq_true] at h
      obtain ⟨h1, h2⟩ := h
      cases d : o.data with
      | seq its n =>
        rw [d] at h2
        have h2 : (decide (its.size ≤ sizeLine) && strsB its.toList ss) = true := h2
        rw [Bool.and_eq_true, decide_eq_true_eq] at h2
        exact ⟨o, its, n, rfl, beq_iff_eq.mp h1, d, h2.1, strsB_vals h2.2⟩
      | _ => rw [d] at h2; cases h2
  | _ => cases h
noncomputable abbrev TabK (K : PySem.W.Frag) (a : Addr) (D : List (Str × List Str)) : Prop := KTD.tabLook (fun d v => tupLook K d v) (fun b => List.lookup b K) a D = true
section
variable {prog : Program} {w : World} {A : Around} {E : Value → Shared → Prop} {s : Shared} {a : Addr} {δ : Type} {R : δ → Value → Prop} {D : List (Str × δ)} {k : Str} {tk : Tok}
theorem dictGet_tab {Q : Option Value → Shared → Prop} (T : KTD.TabOf R s.heap a D) (h1 : ∀ d v, KTD.datumAt k D = some d → R d v → Q (some v) { s with toks := s.toks + 1 }) (h2 : KTD.datumAt k D = none → Q none { s with toks := s.toks + 1 }) :
    wpAny (model prog w) A (dictGet a (.str k tk)) Q E s := by
  obtain ⟨_, o, es, ep, ho, hc, hd, hr⟩ := T
  unfold dictGet
  try with_reducible refine wpAny_holding ?_
  refine wpAny_bind (wpAny_pyHash_str (wpAny_bind (KTD.kt_dictFind_strs (s := { s with toks := s.toks + 1 }) ho hd (by obtain ⟨l⟩ := es; simpa using hr.exact) ?_)))
  have hq : Q (findBy (fun k v => v.isStr k) es k) { s with toks := s.toks + 1 } := by
    have hf : findBy (fun k v => v.isStr k) es k = (es.toList.find? fun e => e.key.isStr k).map (·.val) := by
      obtain ⟨l⟩ := es
      simp [findBy]
    rw [hf]
    cases hat : KTD.datumAt k D with
    | some d => obtain ⟨v, hv, hfl⟩ := hr.find_some hat; rw [hv]; exact h1 d v hat hfl
    | none => rw [hr.find_none hat]; exact h2 hat
  rw [findBy_of_findIdx?] at hq
  cases hi : es.findIdx? fun e => e.key.isStr k with
  | none => rw [hi] at hq; exact wpAny_pure hq
  | some i => rw [hi] at hq; exact wpAny_bind (wpAny_dictEntries (s := { s with toks := s.toks + 1 }) ho hd (wpAny_pure hq))
theorem meets_tab1 : MeetsIn prog w (Builtin.«dict.get» ⟨[.ref a, .str k tk], []⟩) (fun _ R' s => KTD.TabOf R s.heap a D ∧ (∀ d v, KTD.datumAt k D = some d → R d v → R' (.ok (.ret v)) { s with toks := s.toks + 1 }) ∧ (KTD.datumAt k D = none → R' (.ok (.ret .none)) { s with toks := s.toks + 1 })) :=
  .of_wp fun A R' s ⟨T, h1, h2⟩ => by
    show wpAny _ _ (dictGet a (.str k tk) >>= _) _ _ s
    refine wpAny_bind (dictGet_tab T (fun d v ha hv => wpAny_pure ⟨v, rfl, h1 d v ha hv⟩) fun hn => ?_)
    show wpAny _ _ (Builtin.Dict.missed a (.str k tk) >>= _) _ _ _
    exact wpAny_bind (wpAny_missed_other T.1 (wpAny_pure ⟨.none, rfl, h2 hn⟩))
end
noncomputable def tTabGet (K : PySem.W.Frag) (D : List (Str × List Str)) (td ty : TE) : TE := fun σ H Q => td σ H fun x H1 => ∃ a, x = .ref a ∧ TabK K a D ∧ ty σ H1 fun y H2 => ∃ z, y = .str z ∧ (∀ ss, KTD.datumAt z D = some ss → ∀ b, (∀ H', SqT K H' b (ss.map V.str)) → Q (.ref b) H2) ∧ (KTD.datumAt z D = none → Q .non H2)
theorem pe_tabGet {X : Cx} {o e : Expr} {apos cpos : Pos} {td ty : TE} {D : List (Str × List Str)} (ho : PE X o td) (he : PE X e ty) (m : M1 X o "get" apos e cpos) : PE X (.Call (.Attribute o "get" apos) [e] [] cpos) (tTabGet X.K D td ty) := by
  intro pins s σ H Q I h
  refine wpAny_Call_method m.base m.few m.line PySem.F.plainAttrs_dict PySem.F.slot_dict_get PySem.F.type_dict_get (thn (ho pins s σ H _ I h) fun u s1 zz => ?_)
  obtain ⟨x, H1, I1, rx, a, ex, d, q1⟩ := zz
  subst ex
  obtain rfl : u = Value.ref a := rx
  have T : KTD.TabOf (fun (ss : List Str) v => ∃ b, v = Value.ref b ∧ ∀ H, SqT X.K H b (ss.map V.str)) s1.heap a D := KTD.tab_of_look (fun d v z => tupLook_of z) I1.kIn d
  obtain ⟨hsm, ob, es, ep, hob, hc, hdd, hrows⟩ := id T
  refine ⟨⟨ob, hob, hc.1⟩, fun b e => ?_, ?_⟩
  · injection e with e
    subst e
    exact ⟨ob, hob, hc.2.1⟩
  rw [m.trees]
  refine Calls.callWith_builtin rfl (Calls.evalArgs_plain (Calls.spliced_cons (thn (he pins s1 σ H1 _ I1 q1) fun iv s2 zz => Calls.spliced_nil ?_)))
  obtain ⟨y, H2, I2, ry, z, ey, g1, g2⟩ := zz
  subst ey
  obtain ⟨t, rfl⟩ := ry
  have T2 : KTD.TabOf (fun (ss : List Str) v => ∃ b, v = Value.ref b ∧ ∀ H, SqT X.K H b (ss.map V.str)) s2.heap a D := KTD.tab_of_look (fun d v z => tupLook_of z) I2.kIn d
  refine call_meetsIn PySem.F.slot_dict_get (show s2.TypeIs (.ref a) "dict" from ?_) PySem.F.entry_dict_get (PySem.F.args_dict_get_2 _ _) (meets_tab1 (D := D)) ⟨T2, fun ss v ha hv => ?_, fun hn => ?_⟩
  · obtain ⟨_, ob2, _, _, hob2, hc2, _⟩ := id T2
    exact ⟨ob2, hob2, hc2.1⟩
  · obtain ⟨b, rfl, hb⟩ := hv
    exact ⟨.ref b, H2, I2.tok _, rfl, g1 ss ha b hb⟩
  · exact ⟨.non, H2, I2.tok _, rfl, g2 hn⟩
end L2
namespace L2
open PySem PySem.Spec PyProof.Rows
section
variable {X : Cx} {K : PySem.W.Frag}
noncomputable def rNeT (K : PySem.W.Frag) : R2 := fun x y H Q => ∃ p q xs ys, x = .ref p ∧ y = .ref q ∧ SqT K H p xs ∧ SqT K H q ys ∧ xs.all flatV = true ∧ ys.all flatV = true ∧ xs.length = ys.length ∧ Q (.bl (!allEq xs ys)) H
theorem op_neT (hK : X.K = K) (hu : X.A.units + 64 < cLine) : OpR X (compareOp .NotEq) (rNeT K) := by
  subst hK
  intro pins s σ H x y v u Q I rx ry h
  obtain ⟨p, q, xs, ys, rfl, rfl, h1, h2, f1, f2, hl, hq⟩ := h
  cases rx
  cases ry
  obtain ⟨us, r1, p1, _⟩ := I.tuple h1
  obtain ⟨vs, r2, p2, _⟩ := I.tuple h2
  have l1 := r1.length
  have l2 := r2.length
  refine SeqAt.RcNeAt.tuples p1 p2 (by omega) (eqAt_of r1 r2 f1 f2) _ _ _ _ ⟨.bl _, H, I, rfl, ?_⟩
  rw [List.size_toArray, List.size_toArray, ← l1, ← l2, ← hl, Nat.min_self, beq_self_eq_true, Bool.and_true]
  exact hq
end
end L2

set_option Elab.async false
set_option linter.all false
set_option maxRecDepth 100000
set_option maxHeartbeats 4000000
namespace L2
open PySem
theorem eqV_same : ∀ {x : V}, flatV x = true → eqV x x = true
  | .non, _ => rfl
  | .bl b, _ => (beq_self_eq_true b : (b == b) = true)
  | .int i, _ => (beq_self_eq_true i : (i == i) = true)
  | .str s, _ => (beq_self_eq_true s : (s == s) = true)
  | .byt _, h => by cases h
  | .flt _, h => by cases h
  | .ref _, h => by cases h
  | .ty _, h => by cases h
theorem allEq_same {xs : List V} (h : xs.all flatV = true) : allEq xs xs = true := by
  unfold allEq
  rw [List.all_eq_true]
  intro j hj
  have hj := List.mem_range.mp hj
  refine eqV_same (flat_get h (j := j) ?_)
  rw [List.getD_eq_getElem?_getD, List.getElem?_eq_getElem hj]
  rfl
theorem flat_strs : ∀ {ss : List Str}, (ss.map V.str).all flatV = true
  | [] => rfl
  | s :: r => by
    rw [List.map_cons, List.all_cons, flat_strs (ss := r)]
    rfl
end L2
namespace W
open PySem L2
/-! what follows by a word -/
noncomputable abbrev usedD : List (Str × List Str) := [("sum", ["tie", "tie"]), ("late", ["tie"]), ("soon", ["tie"]), ("sure", ["wait"]), ("back", ["wait", "tie"]), ("cross", ["wait"])]
structure TxtU (K : PySem.W.Frag) (mg : Str → Option Value) : Prop where
  at_ : ∃ u, mg "USED_KINDS" = some (.ref u) ∧ TabK K u usedD
  tuple : mg "tuple" = none
noncomputable def kindsL (xs : List MU.What) : List Str := xs.map fun x => kindS x.tie
inductive Asked (F : MU.Falls) : Str → List MU.What → Option MU.What → Prop
  | sum (x y : MU.What) (hx : x.tie = true) (hy : y.tie = true) : Asked F "sum" [x, y] (MU.bySum x y)
  | late (x : MU.What) (hx : x.tie = true) : Asked F "late" [x] (MU.byLate F x)
  | soon (x : MU.What) (hx : x.tie = true) : Asked F "soon" [x] (MU.bySoon F x)
  | sure (x : MU.What) (fa : Nat × Int × Int) (hx : x.tie = false) (hf : F x.b = some fa) : Asked F "sure" [x] (MU.bySure F x)
  | back (x y : MU.What) (fa : Nat × Int × Int) (hx : x.tie = false) (hy : y.tie = true) (hf : F x.b = some fa) : Asked F "back" [x, y] (MU.byBack F x y)
  | cross (x : MU.What) (fa : Nat × Int × Int) (hx : x.tie = false) (hf : F x.b = some fa) : Asked F "cross" [x] (MU.byCross F x)
theorem Asked.kinds {F : MU.Falls} {word : Str} {xs : List MU.What} {o : Option MU.What} (h : Asked F word xs o) : PyProof.Rows.KTD.datumAt word usedD = some (kindsL xs) ∧ xs.length ≤ 2 := by
  cases h with
  | sum x y hx hy => refine ⟨?_, Nat.le_refl _⟩; unfold kindsL; rw [List.map_cons, List.map_cons, List.map_nil, hx, hy]; decide +kernel
  | late x hx => refine ⟨?_, Nat.le_succ 1⟩; unfold kindsL; rw [List.map_cons, List.map_nil, hx]; decide +kernel
  | soon x hx => refine ⟨?_, Nat.le_succ 1⟩; unfold kindsL; rw [List.map_cons, List.map_nil, hx]; decide +kernel
  | sure x fa hx hf => refine ⟨?_, Nat.le_succ 1⟩; unfold kindsL; rw [List.map_cons, List.map_nil, hx]; decide +kernel
  | back x y fa hx hy hf => refine ⟨?_, Nat.le_refl _⟩; unfold kindsL; rw [List.map_cons, List.map_cons, List.map_nil, hx, hy]; decide +kernel
  | cross x fa hx hf => refine ⟨?_, Nat.le_succ 1⟩; unfold kindsL; rw [List.map_cons, List.map_nil, hx]; decide +kernel
noncomputable def WhatsAt (H : Hp) (l : Addr) (ps : List Addr) (xs : List MU.What) : Prop := H l = some (.lst (ps.map V.ref)) ∧ Paired (WhatAt H) ps xs
noncomputable def spFollows : Sp := fun vs H Q _ => ∃ d word ul ps F xs o, vs = [.ref d, .str word, .ref ul] ∧ FallsAt H d F ∧ WhatsAt H ul ps xs ∧ Asked F word xs o ∧ Gives H Q o
theorem Gives.same {H H1 : Hp} {Q : VK} {o : Option MU.What} (g : Gives H Q o) (s : Same H H1) : Gives H1 Q o := ⟨fun e H' s' => g.1 e H' (s.trans s'), fun x e r H' hr s' h => g.2 x e r H' (s.free hr) (s.trans s') h⟩
section
variable {P : Program} {w : World} {K : PySem.W.Frag} {mg : Str → Option Value} {base : Heap}
theorem scWf : FnScope ["falls", "word", "used"] ["falls", "word", "used"] (defScope sP_what_follows) := ⟨rfl, rfl, rfl, by decide +kernel, rfl, by decide +kernel, by decide +kernel⟩
theorem coWf : CompOk (defScope sP_what_follows) ["falls", "word", "used"] (fsc [(".0", .local), ("what", .local)]) ["what"] [none] := ⟨rfl, by decide +kernel, by decide +kernel, by decide +kernel, rfl, by decide +kernel⟩
theorem nd1w : (["what"] : List Str).Nodup := by decide +kernel
section
seal L2.PE L2.PA L2.PT L2.PS L2.PSs L2.PG L2.PGs L2.PI L2.PO
theorem ok_follows {f f1 f2 f3 f4 f5 f6 : Addr} {fd d1 d2 d3 d4 d5 d6 : FuncData} (F : Fn K mg "what_follows" sP_what_follows ["falls", "word", "used"] f fd) (T : TxtU K mg)
    (F1 : Fn K mg "by_sum" sP_by_sum ["first", "second"] f1 d1) (G1 : FnOk P w K mg base CX0 1 f1 d1 ["first", "second"] spSum)
    (F2 : Fn K mg "by_late" sP_by_late ["falls", "tie"] f2 d2) (G2 : FnOk P w K mg base CX0 1 f2 d2 ["falls", "tie"] spLate)
    (F3 : Fn K mg "by_soon" sP_by_soon ["falls", "tie"] f3 d3) (G3 : FnOk P w K mg base CX0 1 f3 d3 ["falls", "tie"] spSoon)
    (F4 : Fn K mg "by_sure" sP_by_sure ["falls", "wait"] f4 d4) (G4 : FnOk P w K mg base CX0 1 f4 d4 ["falls", "wait"] spSure)
    (F5 : Fn K mg "by_back" sP_by_back ["falls", "wait", "tie"] f5 d5) (G5 : FnOk P w K mg base CX0 1 f5 d5 ["falls", "wait", "tie"] spBack)
    (F6 : Fn K mg "by_cross" sP_by_cross ["falls", "wait"] f6 d6) (G6 : FnOk P w K mg base CX0 1 f6 d6 ["falls", "wait"] spCross) :
    FnOk P w K mg base CX0 2 f fd ["falls", "word", "used"] spFollows := by
  obtain ⟨u, mU, tabU⟩ := T.at_
  refine F.F.ok scWf (fun vs H Q E h => ?_) (fun cdv A outer s H vs Q E hr h => ?_)
  · obtain ⟨_, _, _, _, _, _, _, rfl, _⟩ := h
    rfl
  · obtain ⟨d, word, ul, ps, Fa, xs, o, rfl, FA, ⟨hul, hpx⟩, ask, G⟩ := h
    refine ⟨_, pss_consA (ps_if (pt_cmpR (op_neT (K := K) rfl hr.units) (pe_callTy call_tuple_of (by rfl) T.tuple (by decide +kernel) (pa_cons (pe_comp rfl (pi_list (pv 2)) coWf (fun cl ex s0 H0 => ⟨pg_name (i := 0) nd1w rfl (Or.inl rfl), pif_none, pe_ix ix_tup0 (pv 0) pe_int (fun _ _ => rfl)⟩)) pa_nil))
          (pe_tabGet (D := usedD) (pe_glob (v := .ref u) rfl mU rfl) (pv 1) ⟨rfl, rfl, rfl, rfl⟩) (nomark _)) pss_never pss_nil)
      (pss_consA (ps_if (pt_cmpR op_eq (pv 1) pe_str (nomark _)) (pss_one (ps_ret (pe_call G1 hr rfl F1.g F1.F.kp F1.b .nil pass0 (pa_cons (pe_ix ix_list0 (pv 2) pe_int (fun _ _ => rfl)) (pa_cons (pe_ix ix_list0 (pv 2) pe_int (fun _ _ => rfl)) pa_nil))))) pss_nil)
      (pss_consA (ps_if (pt_cmpR op_eq (pv 1) pe_str (nomark _)) (pss_one (ps_ret (pe_call G2 hr rfl F2.g F2.F.kp F2.b .nil pass0 (pa_cons (pv 0) (pa_cons (pe_ix ix_list0 (pv 2) pe_int (fun _ _ => rfl)) pa_nil))))) pss_nil)
      (pss_consA (ps_if (pt_cmpR op_eq (pv 1) pe_str (nomark _)) (pss_one (ps_ret (pe_call G3 hr rfl F3.g F3.F.kp F3.b .nil pass0 (pa_cons (pv 0) (pa_cons (pe_ix ix_list0 (pv 2) pe_int (fun _ _ => rfl)) pa_nil))))) pss_nil)
      (pss_consA (ps_if (pt_cmpR op_eq (pv 1) pe_str (nomark _)) (pss_one (ps_ret (pe_call G4 hr rfl F4.g F4.F.kp F4.b .nil pass0 (pa_cons (pv 0) (pa_cons (pe_ix ix_list0 (pv 2) pe_int (fun _ _ => rfl)) pa_nil))))) pss_nil)
      (pss_consA (ps_if (pt_cmpR op_eq (pv 1) pe_str (nomark _)) (pss_one (ps_ret (pe_call G5 hr rfl F5.g F5.F.kp F5.b .nil pass0 (pa_cons (pv 0) (pa_cons (pe_ix ix_list0 (pv 2) pe_int (fun _ _ => rfl)) (pa_cons (pe_ix ix_list0 (pv 2) pe_int (fun _ _ => rfl)) pa_nil)))))) pss_nil)
      (pss_one (ps_ret (pe_call G6 hr rfl F6.g F6.F.kp F6.b .nil pass0 (pa_cons (pv 0) (pa_cons (pe_ix ix_list0 (pv 2) pe_int (fun _ _ => rfl)) pa_nil)))))))))), ?_⟩
    obtain ⟨hk, hl2⟩ := ask.kinds
    have hlen : ps.length = xs.length := Paired.length hpx
    refine fun N1 c1 => ⟨_, rfl, ul, rfl, ⟨_, SqL.of hul⟩, fun Da hDa => ?_⟩
    refine comp_list (xs := ps.map V.ref) (fun j σ' H' => ∃ v, σ' = [v] ∧ H' Da = some (.lst ((kindsL (xs.take j)).map V.str)) ∧ Same H H') ⟨none, rfl, upd_same, same_new hDa⟩ ?_ ?_ ?_
    · rintro j σ' H2 _ ⟨v, rfl, _, s2⟩
      exact SqL.of (s2 _ _ hul)
    · rintro j x σ' H2 hx ⟨v, rfl, e2, s2⟩
      rw [List.getElem?_map] at hx
      cases q : ps[j]? with
      | none => rw [q] at hx; cases hx
      | some p =>
        rw [q] at hx
        cases hx
        obtain ⟨x, hxj, hw⟩ := paired_get hpx q
        have hj : j < xs.length := (List.getElem?_eq_some_iff.mp hxj).1
        refine ⟨_, rfl, rdT (s2 _ _ hw) rfl ⟨_, e2, ?_, _, rfl, ?_, fun b o e => ?_⟩⟩
        · unfold kindsL
          rw [List.length_map, List.length_map, List.length_take]
          exact small1000 (by omega)
        · unfold kindsL
          rw [upd_same, List.take_succ, hxj, List.map_append, List.map_append]
          rfl
        · rw [upd_ne (ne_of_none e hDa)]
          exact s2 _ _ e
    rintro σ' H2 ⟨v, rfl, e2, s2⟩
    have hall : xs.take (ps.map V.ref).length = xs := by rw [List.length_map, hlen]; exact List.take_length
    rw [hall] at e2
    refine ⟨Da, _, rfl, .inl ⟨SqL.of e2, fun t ht => ?_⟩⟩
    have s3 := s2.trans (same_new (o := .tup ((kindsL xs).map V.str)) ht)
    have e3 : upd H2 t (.tup ((kindsL xs).map V.str)) t = some (.tup ((kindsL xs).map V.str)) := upd_same
    generalize upd H2 t (.tup ((kindsL xs).map V.str)) = H3 at *
    refine ⟨u, rfl, tabU, _, rfl, word, rfl, fun ss hss b hb => ?_, fun hn => by rw [hk] at hn; cases hn⟩
    rw [hk] at hss
    cases hss
    refine ⟨t, b, _, _, rfl, rfl, SqT.of e3, hb H3, flat_strs, flat_strs, rfl, _, rfl, iteB (by rw [allEq_same flat_strs]; rfl) (c1 _ _ ?_)⟩
    clear c1 N1
    have FA3 := FA.same s3
    have G3' := G.same s3
    have hul3 := s3 _ _ hul
    have hpx3 : Paired (WhatAt H3) ps xs := paired_imp hpx fun p x e => e.same s3
    cases ask with
    | sum x y hx hy =>
      cases hpx3 with
      | cons w1 r => cases r with
        | cons w2 r => cases r
                       refine fun N1 c1 => ⟨_, rfl, rfl, _, rfl, iteBT (by decide +kernel) ?_⟩
                       exact ⟨_, rfl, rdL hul3 (atI_nat (j := 0) rfl) ⟨_, rfl, rdL hul3 (atI_nat (j := 1) rfl) ⟨_, _, x, y, rfl, w1, w2, hx, hy, G3'⟩⟩⟩
    | late x hx =>
      cases hpx3 with
      | cons w1 r => cases r
                     refine fun N1 c1 => ⟨_, rfl, rfl, _, rfl, iteB (by decide +kernel) (c1 _ _ ?_)⟩
                     refine fun N1 c1 => ⟨_, rfl, rfl, _, rfl, iteBT (by decide +kernel) ?_⟩
                     exact ⟨_, rfl, _, rfl, rdL hul3 (atI_nat (j := 0) rfl) ⟨d, _, Fa, x, rfl, FA3, w1, hx, G3'⟩⟩
    | soon x hx =>
      cases hpx3 with
      | cons w1 r => cases r
                     refine fun N1 c1 => ⟨_, rfl, rfl, _, rfl, iteB (by decide +kernel) (c1 _ _ ?_)⟩
                     refine fun N1 c1 => ⟨_, rfl, rfl, _, rfl, iteB (by decide +kernel) (c1 _ _ ?_)⟩
                     refine fun N1 c1 => ⟨_, rfl, rfl, _, rfl, iteBT (by decide +kernel) ?_⟩
                     exact ⟨_, rfl, _, rfl, rdL hul3 (atI_nat (j := 0) rfl) ⟨d, _, Fa, x, rfl, FA3, w1, hx, G3'⟩⟩
    | sure x fa hx hf =>
      cases hpx3 with
      | cons w1 r => cases r
                     refine fun N1 c1 => ⟨_, rfl, rfl, _, rfl, iteB (by decide +kernel) (c1 _ _ ?_)⟩
                     refine fun N1 c1 => ⟨_, rfl, rfl, _, rfl, iteB (by decide +kernel) (c1 _ _ ?_)⟩
                     refine fun N1 c1 => ⟨_, rfl, rfl, _, rfl, iteB (by decide +kernel) (c1 _ _ ?_)⟩
                     refine fun N1 c1 => ⟨_, rfl, rfl, _, rfl, iteBT (by decide +kernel) ?_⟩
                     exact ⟨_, rfl, _, rfl, rdL hul3 (atI_nat (j := 0) rfl) ⟨d, _, Fa, x, fa, rfl, FA3, w1, hx, hf, G3'⟩⟩
    | back x y fa hx hy hf =>
      cases hpx3 with
      | cons w1 r => cases r with
        | cons w2 r => cases r
                       refine fun N1 c1 => ⟨_, rfl, rfl, _, rfl, iteB (by decide +kernel) (c1 _ _ ?_)⟩
                       refine fun N1 c1 => ⟨_, rfl, rfl, _, rfl, iteB (by decide +kernel) (c1 _ _ ?_)⟩
                       refine fun N1 c1 => ⟨_, rfl, rfl, _, rfl, iteB (by decide +kernel) (c1 _ _ ?_)⟩
                       refine fun N1 c1 => ⟨_, rfl, rfl, _, rfl, iteB (by decide +kernel) (c1 _ _ ?_)⟩
                       refine fun N1 c1 => ⟨_, rfl, rfl, _, rfl, iteBT (by decide +kernel) ?_⟩
                       exact ⟨_, rfl, _, rfl, rdL hul3 (atI_nat (j := 0) rfl) ⟨_, rfl, rdL hul3 (atI_nat (j := 1) rfl) ⟨d, _, _, Fa, x, y, fa, rfl, FA3, w1, w2, hx, hy, hf, G3'⟩⟩⟩
    | cross x fa hx hf =>
      cases hpx3 with
      | cons w1 r => cases r
                     refine fun N1 c1 => ⟨_, rfl, rfl, _, rfl, iteB (by decide +kernel) (c1 _ _ ?_)⟩
                     refine fun N1 c1 => ⟨_, rfl, rfl, _, rfl, iteB (by decide +kernel) (c1 _ _ ?_)⟩
                     refine fun N1 c1 => ⟨_, rfl, rfl, _, rfl, iteB (by decide +kernel) (c1 _ _ ?_)⟩
                     refine fun N1 c1 => ⟨_, rfl, rfl, _, rfl, iteB (by decide +kernel) (c1 _ _ ?_)⟩
                     refine fun N1 c1 => ⟨_, rfl, rfl, _, rfl, iteB (by decide +kernel) (c1 _ _ ?_)⟩
                     exact ⟨_, rfl, _, rfl, rdL hul3 (atI_nat (j := 0) rfl) ⟨d, _, Fa, x, fa, rfl, FA3, w1, hx, hf, G3'⟩⟩
end
end
end W

set_option Elab.async false
set_option linter.all false
set_option maxRecDepth 100000
set_option maxHeartbeats 4000000
namespace L2
open PySem
theorem putF_skip {f g : Str} {x v : V} {r : List (Str × V)} (h : ¬ g = f) : putF f v ((g, x) :: r) = (g, x) :: putF f v r := if_neg h
theorem putF_hit {f : Str} {x v : V} {r : List (Str × V)} : putF f v ((f, x) :: r) = (f, v) :: r := if_pos rfl
end L2
namespace W
open PySem L2
/-! the closing as it stands -/
structure TxtCl (K : PySem.W.Frag) (mg : Str → Option Value) (C : Addr) : Prop where
  cl : Cls K C
  nM : NoAttr K C "many"
  nB : NoAttr K C "by_end"
  nR : NoAttr K C "rows"
  nE : NoAttr K C "best"
  nX : NoAttr K C "bar"
  len : mg "len" = none
  range : mg "range" = none
noncomputable def cflds (n : Nat) (be rl bd : Addr) (bar : V) : List (Str × V) := [("many", .int (n : Int)), ("by_end", .ref be), ("rows", .ref rl), ("best", .ref bd), ("bar", bar)]
theorem cl1 : (("by_end" : Str) == "many") = false := by decide +kernel
theorem cl2 : (("rows" : Str) == "many") = false := by decide +kernel
theorem cl3 : (("rows" : Str) == "by_end") = false := by decide +kernel
theorem cl4 : (("best" : Str) == "many") = false := by decide +kernel
theorem cl5 : (("best" : Str) == "by_end") = false := by decide +kernel
theorem cl6 : (("best" : Str) == "rows") = false := by decide +kernel
theorem cl7 : (("bar" : Str) == "many") = false := by decide +kernel
theorem cl8 : (("bar" : Str) == "by_end") = false := by decide +kernel
theorem cl9 : (("bar" : Str) == "rows") = false := by decide +kernel
theorem cl10 : (("bar" : Str) == "best") = false := by decide +kernel
section
variable {n : Nat} {be rl bd : Addr} {bar : V}
theorem c_many : (cflds n be rl bd bar).lookup ("many" : Str) = some (.int (n : Int)) := by unfold cflds; rw [List.lookup_cons, beq_self_eq_true]
theorem c_end : (cflds n be rl bd bar).lookup ("by_end" : Str) = some (.ref be) := by unfold cflds; rw [List.lookup_cons, cl1, List.lookup_cons, beq_self_eq_true]
theorem c_rows : (cflds n be rl bd bar).lookup ("rows" : Str) = some (.ref rl) := by unfold cflds; rw [List.lookup_cons, cl2, List.lookup_cons, cl3, List.lookup_cons, beq_self_eq_true]
theorem c_best : (cflds n be rl bd bar).lookup ("best" : Str) = some (.ref bd) := by unfold cflds; rw [List.lookup_cons, cl4, List.lookup_cons, cl5, List.lookup_cons, cl6, List.lookup_cons, beq_self_eq_true]
theorem c_bar : (cflds n be rl bd bar).lookup ("bar" : Str) = some bar := by unfold cflds; rw [List.lookup_cons, cl7, List.lookup_cons, cl8, List.lookup_cons, cl9, List.lookup_cons, cl10, List.lookup_cons, beq_self_eq_true]
theorem c_no {m : Str} (h1 : (m == "many") = false) (h2 : (m == "by_end") = false) (h3 : (m == "rows") = false) (h4 : (m == "best") = false) (h5 : (m == "bar") = false) : (cflds n be rl bd bar).lookup m = none := by
  unfold cflds
  rw [List.lookup_cons, h1, List.lookup_cons, h2, List.lookup_cons, h3, List.lookup_cons, h4, List.lookup_cons, h5]
  rfl
theorem c_put {v : V} : putF "bar" v (cflds n be rl bd bar) = cflds n be rl bd v := by
  unfold cflds
  rw [putF_skip (by decide +kernel), putF_skip (by decide +kernel), putF_skip (by decide +kernel), putF_skip (by decide +kernel), putF_hit]
end
noncomputable def barV : Option Nat → V
  | none => .non
  | some i => .int (i : Int)
noncomputable def wordS : MU.Wd → Str
  | .told => "told"
  | .sum => "sum"
  | .late => "late"
  | .soon => "soon"
  | .sure => "sure"
  | .back => "back"
  | .cross => "cross"
noncomputable def keyL (k : MU.Key) : List Key := [.inr (kindS k.1), .inl (k.2.1 : Int), .inl (k.2.2 : Int)]
theorem kindS_inj {a b : Bool} (h : kindS a = kindS b) : a = b := by
  revert h
  cases a <;> cases b <;> decide +kernel
theorem keyL_inj {k k' : MU.Key} (h : keyL k = keyL k') : k = k' := by
  obtain ⟨t, a, b⟩ := k
  obtain ⟨t', a', b'⟩ := k'
  unfold keyL at h
  injection h with h1 h
  injection h with h2 h
  injection h with h3 _
  have e1 := kindS_inj (Sum.inr.inj h1)
  have e2 := Int.ofNat.inj (Sum.inl.inj h2)
  have e3 := Int.ofNat.inj (Sum.inl.inj h3)
  have e1 : t = t' := e1
  have e2 : a = a' := e2
  have e3 : b = b' := e3
  rw [e1, e2, e3]
noncomputable def RowAt (H : Hp) (q : Addr) (r : MU.Row) : Prop := ∃ pw pu, H q = some (.tup [.ref pw, .str (wordS r.word), .ref pu]) ∧ WhatAt H pw r.what ∧ H pu = some (.tup (r.used.map fun i : Nat => V.int (i : Int)))
theorem RowAt.same {H H' : Hp} {q : Addr} {r : MU.Row} (h : RowAt H q r) (s : Same H H') : RowAt H' q r := by
  obtain ⟨pw, pu, h1, h2, h3⟩ := h
  exact ⟨pw, pu, s _ _ h1, s _ _ h2, s _ _ h3⟩
structure Clo (C : Addr) (H : Hp) (p be rl bd : Addr) (n : Nat) (F : MU.Falls) (st : MU.St) : Prop where
  ins : ∃ dx, H p = some (.ins C dx (cflds n be rl bd (barV st.bar)))
  falls : FallsAt H be F
  rows : ∃ qs, H rl = some (.lst (qs.map V.ref)) ∧ Paired (RowAt H) qs st.rows
  best : ∃ kvs, H bd = some (.dT kvs) ∧ (kvs.length ≤ st.rows.length ∧ ∀ kv ∈ kvs, ∃ k : MU.Key, kv.1 = keyL k) ∧ ∀ k : MU.Key, valV kvs (keyL k) = (st.best k).map fun i : Nat => V.int (i : Int)
theorem Clo.same {C p be rl bd : Addr} {H H' : Hp} {n : Nat} {F : MU.Falls} {st : MU.St} (h : Clo C H p be rl bd n F st) (s : Same H H') : Clo C H' p be rl bd n F st := by
  obtain ⟨⟨dx, h1⟩, h2, ⟨qs, h3, h4⟩, ⟨kvs, h5, h6, h7⟩⟩ := h
  exact ⟨⟨dx, s _ _ h1⟩, h2.same s, ⟨qs, s _ _ h3, paired_imp h4 fun q r e => e.same s⟩, ⟨kvs, s _ _ h5, h6, h7⟩⟩
noncomputable def KeepC (p rl bd : Addr) (H H' : Hp) : Prop := ∀ b o, H b = some o → b ≠ p → b ≠ rl → b ≠ bd → H' b = some o
theorem KeepC.of {p rl bd : Addr} {H H' : Hp} (s : Same H H') : KeepC p rl bd H H' := fun b o e _ _ _ => s _ _ e
theorem KeepC.trans {p rl bd : Addr} {H H1 H2 : Hp} (a : KeepC p rl bd H H1) (b : KeepC p rl bd H1 H2) : KeepC p rl bd H H2 := fun c o e h1 h2 h3 => b c o (a c o e h1 h2 h3) h1 h2 h3
open Classical in
noncomputable def spNews (C : Addr) : Sp := fun vs H Q _ => ∃ p be rl bd q n F st x, vs = [.ref p, .ref q] ∧ Clo C H p be rl bd n F st ∧ MU.Good n st ∧ WhatAt H q x ∧ ∀ H', Same H H' → Q (.bl (decide (MU.News st x))) H'
theorem row_get {H : Hp} {qs : List Addr} {rows : List MU.Row} (h : Paired (RowAt H) qs rows) {i : Nat} {x : MU.What} (hx : (rows[i]?).map (·.what) = some x) : ∃ q r pw pu, qs[i]? = some q ∧ rows[i]? = some r ∧ r.what = x ∧ H q = some (.tup [.ref pw, .str (wordS r.word), .ref pu]) ∧ WhatAt H pw x ∧ H pu = some (.tup (r.used.map fun i : Nat => V.int (i : Int))) := by
  cases hr : rows[i]? with
  | none => rw [hr] at hx; cases hx
  | some r =>
    rw [hr] at hx
    have hx : some r.what = some x := hx
    cases hx
    have hl := Paired.length h
    have hi := (List.getElem?_eq_some_iff.mp hr).1
    obtain ⟨q, hq⟩ : ∃ q, qs[i]? = some q := ⟨_, List.getElem?_eq_getElem (by omega)⟩
    obtain ⟨r', hr', ⟨pw, pu, e1, e2, e3⟩⟩ := paired_get h hq
    rw [hr] at hr'
    cases hr'
    exact ⟨q, r, pw, pu, hq, rfl, rfl, e1, e2, e3⟩
theorem cut3 {x : MU.What} : cutV (whatV x) none (some 3) = (keyL x.key).map kV := by
  unfold cutV whatV
  rw [HT.sIx_none, show (some (3 : Int)) = some ((3 : Nat) : Int) from rfl, HT.sIx_nat]
  rfl
theorem nocut3 {x : MU.What} : ¬ (HT.sIx (whatV x).length 0 none = 0 ∧ HT.sIx (whatV x).length (whatV x).length (some 3) = (whatV x).length) := fun z => by
  have h := z.2
  rw [show (some (3 : Int)) = some ((3 : Nat) : Int) from rfl, HT.sIx_nat] at h
  have e : (whatV x).length = 4 := rfl
  rw [e] at h
  cases h
section
variable {P : Program} {w : World} {K : PySem.W.Frag} {mg : Str → Option Value} {base : Heap}
theorem scNw : FnScope ["self", "what", "key", "known"] ["self", "what"] (defScope sC_Closing_is_news) := ⟨rfl, rfl, rfl, by decide +kernel, rfl, by decide +kernel, by decide +kernel⟩
section
seal L2.PE L2.PA L2.PT L2.PS L2.PSs L2.PG L2.PGs L2.PI L2.PO
theorem ok_news {f C : Addr} {fd : FuncData} (F : Fun K "is_news" "Closing.is_news" sC_Closing_is_news f fd) (T : TxtCl K mg C) : FnOk P w K mg base CX0 1 f fd ["self", "what"] (spNews C) := by
  refine F.ok scNw (fun vs H Q E h => ?_) (fun cdv A outer s H vs Q E hr h => ?_)
  · obtain ⟨_, _, _, _, _, _, _, _, _, rfl, _⟩ := h
    rfl
  · obtain ⟨p, be, rl, bd, q, n, Fa, st, x, rfl, c, g, hw, k⟩ := h
    have hu := hu_of hr
    refine ⟨_, pss_consA (ps_if (PW.pt (pw_and (pt_cmpR op_eq (pe_ix ix_tup0 (pv 1) pe_int (fun _ _ => rfl)) pe_str (nomark _)) (pw_and1 (pt_cmpR op_eq (pe_ix ix_tup0 (pv 1) pe_int (fun _ _ => rfl)) (pe_ix ix_tup0 (pv 1) pe_int (fun _ _ => rfl)) (nomark _)))))
        (pss_one (ps_ret (pe_cmpR op_lt (pe_ix ix_tup0 (pv 1) pe_int (fun _ _ => rfl)) pe_int (nomark _)))) pss_nil)
      (pss_consA (ps_set (i := 2) scNw.nd rfl (Or.inl rfl) (pe_slice sl_tup (pv 1) po_none (po_some pe_int)))
      (pss_consA (ps_if (pt_cmp (pc_dnotin hu (pv 2) (pe_fld (pv 0) rfl)) (by with_unfolding_all rfl)) (pss_one (ps_ret pe_bl)) pss_nil)
      (pss_consA (ps_set (i := 3) scNw.nd rfl (Or.inl rfl) (pe_ix ix_tup0 (pe_ix ix_list0 (pe_fld (pv 0) rfl) (pe_dget hu (pe_fld (pv 0) rfl) (pv 2) (fun _ _ => rfl)) (fun _ _ => rfl)) pe_int (fun _ _ => rfl)))
      (pss_one (ps_ret (pe_ifExp (pt_cmpR op_eq (pe_ix ix_tup0 (pv 1) pe_int (fun _ _ => rfl)) pe_str (nomark _)) (pe_cmpR op_lt (pe_ix ix_tup0 (pv 1) pe_int (fun _ _ => rfl)) (pe_ix ix_tup0 (pv 3) pe_int (fun _ _ => rfl)) (nomark _)) (pe_cmpR op_gt (pe_ix ix_tup0 (pv 1) pe_int (fun _ _ => rfl)) (pe_ix ix_tup0 (pv 3) pe_int (fun _ _ => rfl)) (nomark _)))))))), ?_⟩
    obtain ⟨dx, hp⟩ := c.ins
    obtain ⟨qs, hrl, hrows⟩ := c.rows
    obtain ⟨kvs, hbd, hkl, hkv⟩ := c.best
    have kb : ∀ (H' : Hp) (b : Bool), Same H H' → (b = true ↔ MU.News st x) → Q (.bl b) H' := fun H' b s' e => by
      have := k H' s'
      have e2 : b = decide (MU.News st x) := by
        by_cases z : MU.News st x
        · rw [e.mpr z]; simp [z]
        · cases b with
          | true => exact absurd (e.mp rfl) z
          | false => simp [z]
      rw [e2]
      exact this
    refine fun N1 c1 => ⟨_, rfl, rdT hw rfl ⟨rfl, _, rfl, ?_⟩⟩
    rw [kind_tie]
    -- behind the first question
    have rest : ¬ (x.tie = true ∧ x.a = x.b) → N1 (L2.start ["self", "what", "key", "known"] [.ref p, .ref q]) H := fun hno => by
      refine c1 _ _ ?_
      refine fun N2 c2 => ⟨_, rfl, _, rfl, q, _, rfl, SqT.of hw, nocut3, fun kt hkt => c2 _ _ ?_⟩
      rw [cut3]
      have s1 := same_new (o := .tup ((keyL x.key).map kV)) hkt
      have e1 : upd H kt (.tup ((keyL x.key).map kV)) kt = some (.tup ((keyL x.key).map kV)) := upd_same
      generalize upd H kt (.tup ((keyL x.key).map kV)) = H1 at *
      have dg := DGet.t (k := keyL x.key) (s1 _ _ hbd) e1
      rw [hkv] at dg
      refine fun N3 c3 => ⟨_, rfl, _, rfl, p, C, dx, _, _, rfl, s1 _ _ hp, T.cl, T.nE, c_best, bd, _, rfl, dg, _, rfl, ?_⟩
      have nw : MU.News st x ↔ ∀ u, MU.val st x.key = some u → MU.better x.tie x.v u := by
        unfold MU.News
        rw [if_neg hno]
      cases hb : st.best x.key with
      | none =>
        refine iteT (kb H1 true s1 ⟨fun _ => nw.mpr fun u hu' => ?_, fun _ => rfl⟩)
        unfold MU.val at hu'
        rw [hb] at hu'
        cases hu'
      | some i =>
        rw [hb] at dg
        refine iteF (c3 _ _ ?_)
        obtain ⟨u, hu1, hu2⟩ := g.at_ _ _ hb
        obtain ⟨q', r, pw, pu, g1, g2, g3, g4, g5, g6⟩ := row_get hrows hu1
        have hat : atI (qs.map V.ref) (i : Int) = some (.ref q') := atI_nat (by rw [List.getElem?_map, g1]; rfl)
        refine fun N4 c4 => ⟨_, rfl, p, C, dx, _, _, rfl, s1 _ _ hp, T.cl, T.nR, c_rows, _, rfl, p, C, dx, _, _, rfl, s1 _ _ hp, T.cl, T.nE, c_best, _, rfl, bd, _, rfl, dg, ?_⟩
        refine ⟨rl, _, _, _, rfl, rfl, s1 _ _ hrl, hat, rdT (s1 _ _ g4) rfl (c4 _ _ ?_)⟩
        have hv := MU.val_best hb hu1
        refine ⟨_, rfl, rdT (s1 _ _ hw) rfl ⟨rfl, _, rfl, ?_⟩⟩
        rw [kind_tie]
        have nw2 : MU.News st x ↔ MU.better x.tie x.v u.v := nw.trans ⟨fun z => z _ hv, fun z u' hu' => by rw [hv] at hu'; cases hu'; exact z⟩
        cases ht : x.tie with
        | true =>
          refine iteT ⟨_, rfl, rdT (s1 _ _ hw) rfl ⟨_, rfl, rdT (s1 _ _ g5) rfl ⟨_, _, rfl, rfl, kb _ _ s1 ?_⟩⟩⟩
          rw [nw2, ht, decide_eq_true_eq]
          unfold MU.better
          rw [if_pos rfl]
        | false =>
          refine iteF ⟨_, rfl, rdT (s1 _ _ hw) rfl ⟨_, rfl, rdT (s1 _ _ g5) rfl ⟨_, _, rfl, rfl, kb _ _ s1 ?_⟩⟩⟩
          rw [nw2, ht, decide_eq_true_eq]
          unfold MU.better
          rw [if_neg (by decide)]
    cases ht : x.tie with
    | false => exact iteF (iteF (rest fun z => by rw [ht] at z; cases z.1))
    | true =>
      refine iteT ⟨_, rfl, rdT hw rfl ⟨_, rfl, rdT hw rfl ⟨rfl, _, rfl, ?_⟩⟩⟩
      rw [natD]
      by_cases e : x.a = x.b
      · refine iteD e ⟨_, rfl, rdT hw rfl ⟨_, _, rfl, rfl, kb H _ (Same.refl _) ?_⟩⟩
        rw [decide_eq_true_eq]
        unfold MU.News
        rw [if_pos ⟨ht, e⟩]
      · exact iteDN e (rest fun z => e z.2)
end
end
end W

set_option Elab.async false
set_option linter.all false
set_option maxRecDepth 100000
set_option maxHeartbeats 4000000
namespace W
open PySem L2
/-! taking what is drawn -/
noncomputable def spTake (C : Addr) : Sp := fun vs H Q _ => ∃ p be rl bd q pu n F st x wd us, vs = [.ref p, .ref q, .str (wordS wd), .ref pu] ∧ Clo C H p be rl bd n F st ∧ MU.Good n st ∧ WhatAt H q x ∧ H pu = some (.tup (us.map fun i : Nat => V.int (i : Int))) ∧ st.rows.length ≤ 16500000 ∧
  ∀ H', Clo C H' p be rl bd n F (MU.take st x wd us) → KeepC p rl bd H H' → Q .non H'
theorem bar_non {o : Option Nat} : decide (barV o = V.non) = decide (o = none) := by
  cases o with
  | none => rfl
  | some i => exact (decide_eq_false fun z => nomatch z).trans (decide_eq_false fun z => nomatch z).symm
theorem take_yes {st : MU.St} {x : MU.What} {wd : MU.Wd} {us : List Nat} (h : MU.News st x) : MU.take st x wd us = { rows := st.rows ++ [⟨x, wd, us⟩], best := fun k => if k = x.key then some st.rows.length else st.best k, bar := if st.bar = none ∧ MU.Bars x then some st.rows.length else st.bar } := by
  unfold MU.take
  rw [if_pos h]
theorem mem_putK {kvs : List (List Key × V)} {k : List Key} {v : V} {kv : List Key × V} (h : kv ∈ putK kvs k v) : kv.1 = k ∨ ∃ kv0 ∈ kvs, kv.1 = kv0.1 := by
  unfold putK at h
  split at h
  · obtain ⟨kv0, h0, rfl⟩ := List.mem_map.mp h
    refine .inr ⟨kv0, h0, ?_⟩
    split <;> rfl
  · rcases List.mem_append.mp h with h | h
    · exact .inr ⟨kv, h, rfl⟩
    · rw [List.mem_singleton.mp h]; exact .inl rfl
theorem size16 {n : Nat} (h : n ≤ 16500000) : n < sizeLine := Nat.lt_of_le_of_lt h (by decide)
section
variable {P : Program} {w : World} {K : PySem.W.Frag} {mg : Str → Option Value} {base : Heap}
theorem scTk : FnScope ["self", "what", "word", "used"] ["self", "what", "word", "used"] (defScope sC_Closing_take) := ⟨rfl, rfl, rfl, by decide +kernel, rfl, by decide +kernel, by decide +kernel⟩
section
seal L2.PE L2.PA L2.PT L2.PS L2.PSs L2.PG L2.PGs L2.PI L2.PO
theorem ok_take {f C fN fB : Addr} {fd fdN fdB : FuncData} (F : Fun K "take" "Closing.take" sC_Closing_take f fd) (T : TxtCl K mg C)
    (mN : Meth K C "is_news" fN) (bN : Binds K fdN ["self", "what"] []) (GN : FnOk P w K mg base CX0 1 fN fdN ["self", "what"] (spNews C))
    (FB : Fn K mg "bars_every_hand" sP_bars_every_hand ["what"] fB fdB) (GB : FnOk P w K mg base CX0 1 fB fdB ["what"] spBars) : FnOk P w K mg base CX0 2 f fd ["self", "what", "word", "used"] (spTake C) := by
  refine F.ok scTk (fun vs H Q E h => ?_) (fun cdv A outer s H vs Q E hr h => ?_)
  · obtain ⟨_, _, _, _, _, _, _, _, _, _, _, _, rfl, _⟩ := h
    rfl
  · obtain ⟨p, be, rl, bd, q, pu, n, Fa, st, x, wd, us, rfl, c, g, hw, hpu, hlen, k⟩ := h
    have hu := hu_of hr
    refine ⟨_, pss_one (ps_if (pt_val (pe_meth (pv 0) T.cl mN GN hr bN .nil pass0 (pa_cons (pv 1) pa_nil)))
      (pss_consA (ps_dput hu (pe_fld (pv 0) rfl) (pe_slice sl_tup (pv 1) po_none (po_some pe_int)) (pe_callB call_len_seq (by rfl) T.len PySem.boot_len (pa_cons (pe_fld (pv 0) rfl) pa_nil)) rfl)
      (pss_consA (ps_cut (ps_if (PW.pt (pw_and (pt_cmpR op_isN (pe_fld (pv 0) rfl) pe_non (nomark _)) (pw_and1 (pt_val (pe_call GB hr rfl FB.g FB.F.kp FB.b .nil pass0 (pa_cons (pv 1) pa_nil)))))) (pss_one (ps_fld (pv 0) (pe_callB call_len_seq (by rfl) T.len PySem.boot_len (pa_cons (pe_fld (pv 0) rfl) pa_nil)) rfl)) pss_nil))
      (pss_one (ps_expr (pe_bm PySem.F.plainAttrs_list PySem.F.slot_list_append PySem.F.type_list_append mt_append (pe_fld (pv 0) rfl) (pa_cons (pe_tup (pa_cons (pv 1) (pa_cons (pv 2) (pa_cons (pv 3) pa_nil)))) pa_nil)))))) pss_nil), ?_⟩
    obtain ⟨dx, hp⟩ := c.ins
    refine ⟨_, rfl, p, dx, _, rfl, hp, c_no (by decide +kernel) (by decide +kernel) (by decide +kernel) (by decide +kernel) (by decide +kernel), _, rfl, p, be, rl, bd, q, n, Fa, st, x, rfl, c, g, hw, fun H1 s1 => ⟨_, rfl, ?_⟩⟩
    by_cases hn : MU.News st x
    · refine iteBT (by simp [hn]) ?_
      have c1 := c.same s1
      have hw1 := s1 _ _ hw
      have hpu1 := s1 _ _ hpu
      obtain ⟨dx1, hp1⟩ := c1.ins
      obtain ⟨qs, hrl, hrows⟩ := c1.rows
      obtain ⟨kvs, hbd, hkl, hkv⟩ := c1.best
      have hql : qs.length = st.rows.length := Paired.length hrows
      refine fun N2 c2 => ⟨_, rfl, p, C, dx1, _, _, rfl, hp1, T.cl, T.nR, c_rows, rl, _, rfl, .inl (SqL.of hrl), _, rfl, p, C, dx1, _, _, rfl, hp1, T.cl, T.nE, c_best, _, rfl, _, rfl, q, _, rfl, SqT.of hw1, nocut3, fun kt hkt => ?_⟩
      rw [cut3, List.length_map, hql]
      have s2 := same_new (o := .tup ((keyL x.key).map kV)) hkt
      have e2 : upd H1 kt (.tup ((keyL x.key).map kV)) kt = some (.tup ((keyL x.key).map kV)) := upd_same
      generalize upd H1 kt (.tup ((keyL x.key).map kV)) = H2 at *
      refine ⟨bd, _, rfl, DPut.t (k := keyL x.key) (s2 _ _ hbd) e2 (size16 (by have := hkl.1; omega)), c2 _ _ ?_⟩
      have k3 : ∀ b o, H1 b = some o → b ≠ bd → upd H2 bd (.dT (putK kvs (keyL x.key) (.int (st.rows.length : Int)))) b = some o := fun b o e ne => by
        rw [upd_ne ne]
        exact s2 _ _ e
      have e3 : upd H2 bd (.dT (putK kvs (keyL x.key) (.int (st.rows.length : Int)))) bd = some (.dT (putK kvs (keyL x.key) (.int (st.rows.length : Int)))) := upd_same
      generalize upd H2 bd (.dT (putK kvs (keyL x.key) (.int (st.rows.length : Int)))) = H3 at *
      clear c2 N2
      have pbd : p ≠ bd := ne_of hp1 hbd (fun z => nomatch z)
      have rbd : rl ≠ bd := ne_of hrl hbd (fun z => nomatch z)
      have prl : p ≠ rl := ne_of hp1 hrl (fun z => nomatch z)
      have hp3 := k3 _ _ hp1 pbd
      have hrl3 := k3 _ _ hrl rbd
      have hw3 := k3 _ _ hw1 (ne_of hw1 hbd (fun z => nomatch z))
      refine fun N4 c4 => ⟨fun σ' H' => σ' = L2.start ["self", "what", "word", "used"] [.ref p, .ref q, .str (wordS wd), .ref pu] ∧ (∃ dx', H' p = some (.ins C dx' (cflds n be rl bd (barV (if st.bar = none ∧ MU.Bars x then some st.rows.length else st.bar))))) ∧ ∀ b o, H3 b = some o → b ≠ p → H' b = some o, ?_, ?_⟩
      · refine ⟨_, rfl, p, C, dx1, _, _, rfl, hp3, T.cl, T.nX, c_bar, rfl, _, rfl, ?_⟩
        rw [bar_non]
        by_cases hb : st.bar = none
        · refine iteD hb ⟨_, rfl, q, x, rfl, hw3, _, rfl, ?_⟩
          by_cases hB : MU.Bars x
          · refine iteD hB ?_
            refine ⟨_, rfl, p, C, dx1, _, _, rfl, hp3, T.cl, T.nR, c_rows, rl, _, rfl, .inl (SqL.of hrl3), _, rfl, p, C, dx1, _, rfl, hp3, T.cl, T.nX, by show 5 < 1000; decide, rfl, ⟨dx1, ?_⟩, fun b o e ne => ?_⟩
            · rw [upd_same, c_put, if_pos ⟨hb, hB⟩, List.length_map, hql]
              rfl
            · rw [upd_ne ne]; exact e
          · refine iteDN hB ⟨rfl, ⟨dx1, ?_⟩, fun b o e _ => e⟩
            rw [if_neg fun z => hB z.2]
            exact hp3
        · refine iteDN hb (iteF ⟨rfl, ⟨dx1, ?_⟩, fun b o e _ => e⟩)
          rw [if_neg fun z => hb z.1]
          exact hp3
      · rintro σ' H4 ⟨rfl, ⟨dx4, hp4⟩, k4⟩
        refine c4 _ _ ?_
        have hrl4 := k4 _ _ hrl3 (Ne.symm prl)
        have hw4 := k4 _ _ hw3 (ne_of hw3 hp3 (fun z => nomatch z))
        have hpu3 := k3 _ _ hpu1 (ne_of hpu1 hbd (fun z => nomatch z))
        have hpu4 := k4 _ _ hpu3 (ne_of hpu3 hp3 (fun z => nomatch z))
        refine ⟨_, rfl, p, C, dx4, _, _, rfl, hp4, T.cl, T.nR, c_rows, .inl ⟨rfl, _, SqL.of hrl4⟩, _, rfl, _, rfl, _, rfl, by show 3 ≤ sizeLine; decide, fun rt hrt => ?_⟩
        have s5 := same_new (o := .tup [.ref q, .str (wordS wd), .ref pu]) hrt
        have e5 : upd H4 rt (.tup [.ref q, .str (wordS wd), .ref pu]) rt = some (.tup [.ref q, .str (wordS wd), .ref pu]) := upd_same
        generalize upd H4 rt (.tup [.ref q, .str (wordS wd), .ref pu]) = H5 at *
        refine ⟨rl, _, _, rfl, rfl, s5 _ _ hrl4, by rw [List.length_map, hql]; exact size16 (by omega), ?_⟩
        have k6 : ∀ b o, H5 b = some o → b ≠ rl → upd H5 rl (.lst (qs.map V.ref ++ [.ref rt])) b = some o := fun b o e ne => by rw [upd_ne ne]; exact e
        have e6 : upd H5 rl (.lst (qs.map V.ref ++ [.ref rt])) rl = some (.lst ((qs ++ [rt]).map V.ref)) := by rw [upd_same, List.map_append]; rfl
        generalize upd H5 rl (.lst (qs.map V.ref ++ [.ref rt])) = H6 at *
        -- from the first heap to the last
        have all : ∀ b o, H1 b = some o → b ≠ p → b ≠ rl → b ≠ bd → H6 b = some o := fun b o e n1 n2 n3 => k6 _ _ (s5 _ _ (k4 _ _ (k3 _ _ e n3) n1)) n2
        have tup : ∀ b xs, H1 b = some (.tup xs) → H6 b = some (.tup xs) := fun b xs e => all _ _ e (ne_of e hp1 (fun z => nomatch z)) (ne_of e hrl (fun z => nomatch z)) (ne_of e hbd (fun z => nomatch z))
        refine k H6 ?_ fun b o e n1 n2 n3 => all _ _ (s1 _ _ e) n1 n2 n3
        rw [take_yes hn]
        refine ⟨⟨dx4, k6 _ _ (s5 _ _ hp4) prl⟩, ?_, ⟨qs ++ [rt], e6, ?_⟩, ⟨_, k6 _ _ (s5 _ _ (k4 _ _ e3 (Ne.symm pbd))) (Ne.symm rbd), ?_, fun kk => ?_⟩⟩
        · obtain ⟨fkv, f1, f2, f3, f4⟩ := c1.falls.at_
          refine ⟨fkv, all _ _ f1 (ne_of f1 hp1 (fun z => nomatch z)) (ne_of f1 hrl (fun z => nomatch z)) (ne_of f1 hbd (fun z => nomatch z)), f2, f3, fun e f hf => ?_⟩
          obtain ⟨pp, q1, q2⟩ := f4 e f hf
          exact ⟨pp, q1, tup _ _ q2⟩
        · refine paired_append (paired_imp hrows fun qq r e => ?_) (.cons ?_ .nil)
          · obtain ⟨pw, pu', r1, r2, r3⟩ := e
            exact ⟨pw, pu', tup _ _ r1, tup _ _ r2, tup _ _ r3⟩
          · exact ⟨q, pu, k6 _ _ e5 (ne_of e5 (s5 _ _ hrl4) (fun z => nomatch z)), tup _ _ hw1, tup _ _ hpu1⟩
        · refine ⟨?_, fun kv hkv' => ?_⟩
          · show (putK kvs (keyL x.key) _).length ≤ (st.rows ++ [_]).length
            have := length_putK kvs (keyL x.key) (.int (st.rows.length : Int))
            have := hkl.1
            rw [List.length_append]
            show _ ≤ st.rows.length + 1
            omega
          · rcases mem_putK hkv' with z | z
            · exact ⟨x.key, z⟩
            · obtain ⟨kv0, h0, e0⟩ := z
              obtain ⟨k0, e1⟩ := hkl.2 kv0 h0
              exact ⟨k0, e0.trans e1⟩
        · show valV (putK kvs (keyL x.key) _) (keyL kk) = (if kk = x.key then some st.rows.length else st.best kk).map _
          rw [valV_put]
          by_cases ek : kk = x.key
          · rw [if_pos (by rw [ek]), if_pos ek]
            rfl
          · rw [if_neg fun z => ek (keyL_inj z), if_neg ek]
            exact hkv kk
    · refine iteB (by simp [hn]) (k H1 ?_ (KeepC.of s1))
      rw [MU.take_old hn]
      exact c.same s1
end
end
end W

set_option Elab.async false
set_option linter.all false
set_option maxRecDepth 100000
set_option maxHeartbeats 4000000
namespace L2
open PySem PySem.Spec PyProof.Rows
theorem comp_tup {js : List (Option Nat)} {g : TG} {tc : TT} {te : TE} {σ : St} {H : Hp} {D : Addr} {Q : VK} {K : PySem.W.Frag} {a : Addr} {xs : List V} (Pv : Nat → St → Hp → Prop) (h0 : Pv 0 (startC js σ) (upd H D (.lst []))) (hl : ∀ i σ' H', i ≤ xs.length → Pv i σ' H' → SqT K H' a xs)
    (hs : ∀ i x σ' H', xs[i]? = some x → Pv i σ' H' → g x σ' H' fun σ3 H3 => tc σ3 H3 fun ok H4 => if ok = true then te σ3 H4 fun y H5 => ∃ ys, H5 D = some (.lst ys) ∧ ys.length < sizeLine ∧ Pv (i + 1) σ3 (upd H5 D (.lst (ys ++ [y]))) else Pv (i + 1) σ3 H4)
    (hd : ∀ σ' H', Pv xs.length σ' H' → Q (.ref D) H') :
    CompRun js g tc te σ Q (Itt K a) H D := by
  refine ⟨fun i m σ H => m = xs.length - i ∧ i ≤ xs.length ∧ Pv i σ H, ⟨xs.length, by simp, Nat.zero_le _, h0⟩, ?_⟩
  rintro i m σ' H' ⟨rfl, hi, p⟩
  by_cases hlt : i < xs.length
  · refine .inr ⟨⟨xs, _, hl i σ' H' hi p, List.getElem?_eq_getElem hlt⟩, Pv (i + 1), fun σ2 H2 p' => ⟨xs.length - (i + 1), by omega, rfl, hlt, p'⟩, fun x H2 y => ?_⟩
    obtain ⟨e, y⟩ := y
    subst e
    exact hs i x σ' _ (y xs (hl i σ' _ hi p)) p
  · have e : i = xs.length := by omega
    subst e
    exact .inl ⟨⟨xs, hl _ σ' H' hi p, Nat.le_refl _⟩, hd σ' H' p⟩
theorem pe_fldK {Y : Cx} {K : PySem.W.Frag} {e : Expr} {f : Str} {pos : Pos} {ta : TE} (hK : Y.K = K) (he : PE Y e ta) (hb : attributeBase e f Y.env (eval e Y.env) = eval e Y.env) : PE Y (.Attribute e f pos) (tFld K ta f) := by
  subst hK
  exact pe_fld he hb
end L2
namespace W
open PySem L2
/-! drawing by a word -/
noncomputable def spDraw (C : Addr) : Sp := fun vs H Q _ => ∃ p be rl bd pu n F st wd us xs o, vs = [.ref p, .str (wordS wd), .ref pu] ∧ Clo C H p be rl bd n F st ∧ MU.Good n st ∧ H pu = some (.tup (us.map fun i : Nat => V.int (i : Int))) ∧ Paired (fun i x => MU.wat st i = some x) us xs ∧ Asked F (wordS wd) xs o ∧ st.rows.length ≤ 16500000 ∧
  ∀ H', Clo C H' p be rl bd n F (MU.put st o wd us) → KeepC p rl bd H H' → Q .non H'
section
variable {P : Program} {w : World} {K : PySem.W.Frag} {mg : Str → Option Value} {base : Heap}
theorem scDr : FnScope ["self", "word", "used", "what"] ["self", "word", "used"] (defScope sC_Closing_draw) := ⟨rfl, rfl, rfl, by decide +kernel, rfl, by decide +kernel, by decide +kernel⟩
theorem coDr : CompOk (defScope sC_Closing_draw) ["self", "word", "used", "what"] (fsc [(".0", .local), ("number", .local), ("self", .free)]) ["number", "self"] [none, some 0] := ⟨rfl, by decide +kernel, by decide +kernel, by decide +kernel, rfl, by decide +kernel⟩
theorem ndDr : (["number", "self"] : List Str).Nodup := by decide +kernel
section
seal L2.PE L2.PA L2.PT L2.PS L2.PSs L2.PG L2.PGs L2.PI L2.PO
theorem ok_draw {f C fT fW : Addr} {fd fdT fdW : FuncData} (F : Fun K "draw" "Closing.draw" sC_Closing_draw f fd) (T : TxtCl K mg C)
    (mT : Meth K C "take" fT) (bT : Binds K fdT ["self", "what", "word", "used"] []) (GT : FnOk P w K mg base CX0 2 fT fdT ["self", "what", "word", "used"] (spTake C))
    (FW : Fn K mg "what_follows" sP_what_follows ["falls", "word", "used"] fW fdW) (GW : FnOk P w K mg base CX0 2 fW fdW ["falls", "word", "used"] spFollows) : FnOk P w K mg base CX0 3 f fd ["self", "word", "used"] (spDraw C) := by
  refine F.ok scDr (fun vs H Q E h => ?_) (fun cdv A outer s H vs Q E hr h => ?_)
  · obtain ⟨_, _, _, _, _, _, _, _, _, _, _, _, rfl, _⟩ := h
    rfl
  · obtain ⟨p, be, rl, bd, pu, n, Fa, st, wd, us, xs, o, rfl, c, g, hpu, hux, ask, hlen, k⟩ := h
    refine ⟨_, pss_consA (ps_set (i := 3) scDr.nd rfl (Or.inl rfl) (pe_call GW hr rfl FW.g FW.F.kp FW.b .nil pass0 (pa_cons (pe_fld (pv 0) rfl) (pa_cons (pv 1) (pa_cons (pe_comp rfl (pi_tup (pv 2)) coDr (fun cl ex s0 H0 => ⟨pg_name (i := 0) ndDr rfl (Or.inl rfl), pif_none, pe_ix ix_tup0 (pe_ix ix_list0 (pe_fldK (K := K) rfl (pv 1) rfl) (pv 0) (fun _ _ => rfl)) pe_int (fun _ _ => rfl)⟩)) pa_nil)))))
      (pss_one (ps_if (pt_cmpR op_notN (pv 3) pe_non (nomark _)) (pss_one (ps_expr (pe_meth (pv 0) T.cl mT GT hr bT .nil pass0 (pa_cons (pv 3) (pa_cons (pv 1) (pa_cons (pv 2) pa_nil)))))) pss_nil)), ?_⟩
    obtain ⟨dx, hp⟩ := c.ins
    obtain ⟨qs, hrl, hrows⟩ := c.rows
    obtain ⟨hk, hx2⟩ := ask.kinds
    have hul : us.length = xs.length := Paired.length hux
    refine fun N1 c1 => ⟨_, rfl, p, C, dx, _, _, rfl, hp, T.cl, T.nB, c_end, _, rfl, _, rfl, pu, rfl, ⟨_, SqT.of hpu⟩, fun Da hDa => ?_⟩
    refine comp_tup (xs := us.map fun i : Nat => V.int (i : Int)) (fun j σ' H' => ∃ v ps, σ' = [v, some (.ref p)] ∧ H' Da = some (.lst (ps.map V.ref)) ∧ Paired (WhatAt H') ps (xs.take j) ∧ Same H H') ⟨none, [], rfl, upd_same, .nil, same_new hDa⟩ ?_ ?_ ?_
    · rintro j σ' H2 _ ⟨v, ps, rfl, _, _, s2⟩
      exact SqT.of (s2 _ _ hpu)
    · rintro j x σ' H2 hx ⟨v, ps, rfl, e2, hps, s2⟩
      rw [List.getElem?_map] at hx
      cases q : us[j]? with
      | none => rw [q] at hx; cases hx
      | some i =>
        rw [q] at hx
        cases hx
        obtain ⟨y, hyj, hy⟩ := paired_get hux q
        obtain ⟨q', r, pw, pu', g1, g2, g3, g4, g5, g6⟩ := row_get hrows hy
        have hat : atI (qs.map V.ref) (i : Int) = some (.ref q') := atI_nat (by rw [List.getElem?_map, g1]; rfl)
        have hj : j < xs.length := (List.getElem?_eq_some_iff.mp hyj).1
        have hpl : ps.length = min j xs.length := by rw [Paired.length hps, List.length_take]
        refine ⟨_, rfl, p, C, dx, _, _, rfl, s2 _ _ hp, T.cl, T.nR, c_rows, rdLv rfl (s2 _ _ hrl) hat (rdT (s2 _ _ g4) rfl ⟨_, e2, ?_, _, ps ++ [pw], rfl, ?_, ?_, fun b o e => ?_⟩)⟩
        · rw [List.length_map, hpl]
          exact small1000 (by omega)
        · rw [upd_same, List.map_append]
          rfl
        · have et : xs.take (j + 1) = xs.take j ++ [y] := by rw [List.take_succ, hyj]; rfl
          rw [et]
          have keep : ∀ b x, WhatAt H2 b x → WhatAt (upd H2 Da (.lst (ps.map V.ref ++ [.ref pw]))) b x := fun b x e => by
            unfold WhatAt
            rw [upd_ne (ne_of e e2 (fun z => nomatch z))]
            exact e
          exact paired_append (paired_imp hps fun b x e => keep b x e) (.cons (keep _ _ (s2 _ _ g5)) .nil)
        · rw [upd_ne (ne_of_none e hDa)]
          exact s2 _ _ e
    rintro σ' H2 ⟨v, ps, rfl, e2, hps, s2⟩
    have hall : xs.take (us.map fun i : Nat => V.int (i : Int)).length = xs := by rw [List.length_map, hul]; exact List.take_length
    rw [hall] at hps
    have c2 := c.same s2
    refine ⟨be, _, Da, ps, Fa, xs, o, rfl, c2.falls, ⟨e2, hps⟩, ask, fun ho H3 s3 => c1 _ _ ?_, fun x ho r H3 hr' s3 hw => c1 _ _ ?_⟩
    · refine ⟨_, rfl, rfl, _, rfl, iteB rfl ?_⟩
      refine k H3 ?_ (KeepC.of (s2.trans s3))
      rw [ho]
      exact c2.same s3
    · refine ⟨_, rfl, rfl, _, rfl, iteBT rfl ?_⟩
      have c3 := c2.same s3
      have s03 := s2.trans s3
      refine ⟨_, rfl, p, dx, _, rfl, s03 _ _ hp, c_no (by decide +kernel) (by decide +kernel) (by decide +kernel) (by decide +kernel) (by decide +kernel), _, rfl, _, rfl, _, rfl, p, be, rl, bd, r, pu, n, Fa, st, x, wd, us, rfl, c3, g, hw, s03 _ _ hpu, hlen, fun H4 c4 k4 => ?_⟩
      refine k H4 ?_ ((KeepC.of s03).trans k4)
      rw [ho]
      exact c4
end
/-! which rows are known -/
noncomputable def numsV (l : List Nat) : List V := l.map fun i : Nat => V.int (i : Int)
noncomputable def spKnown (C : Addr) : Sp := fun vs H Q _ => ∃ (p be rl bd : Addr) (n : Nat) (F : MU.Falls) (st : MU.St) (t : Bool) (a : Nat), vs = [.ref p, .str (kindS t), .int (a : Int)] ∧ Clo C H p be rl bd n F st ∧ n ≤ 8 ∧ ∀ l H', H l = none → Same H H' → H' l = some (.lst (numsV (MU.knownOf n st t a))) → Q (.ref l) H'
noncomputable def spTo (C : Addr) : Sp := fun vs H Q _ => ∃ (p be rl bd : Addr) (n : Nat) (F : MU.Falls) (st : MU.St) (b : Nat), vs = [.ref p, .int (b : Int)] ∧ Clo C H p be rl bd n F st ∧ n ≤ 8 ∧ ∀ l H', H l = none → Same H H' → H' l = some (.lst (numsV (MU.tiesTo n st b))) → Q (.ref l) H'
theorem filterMap_take {α : Type} {f : Nat → Option α} {n : Nat} : (List.range (n + 1)).filterMap f = (List.range n).filterMap f ++ (f n).toList := by
  rw [List.range_succ, List.filterMap_append]
  cases h : f n with
  | none => simp [h]
  | some x => simp [h]
theorem scKn : FnScope ["self", "kind", "a"] ["self", "kind", "a"] (defScope sC_Closing_known_of) := ⟨rfl, rfl, rfl, by decide +kernel, rfl, by decide +kernel, by decide +kernel⟩
theorem coKn : CompOk (defScope sC_Closing_known_of) ["self", "kind", "a"] (fsc [(".0", .local), ("b", .local), ("a", .free), ("kind", .free), ("self", .free)]) ["b", "a", "kind", "self"] [none, some 2, some 1, some 0] := ⟨rfl, by decide +kernel, by decide +kernel, by decide +kernel, rfl, by decide +kernel⟩
theorem ndKn : (["b", "a", "kind", "self"] : List Str).Nodup := by decide +kernel
section
seal L2.PE L2.PA L2.PT L2.PS L2.PSs L2.PG L2.PGs L2.PI L2.PO
theorem ok_known {f C : Addr} {fd : FuncData} (F : Fun K "known_of" "Closing.known_of" sC_Closing_known_of f fd) (T : TxtCl K mg C) : FnOk P w K mg base CX0 1 f fd ["self", "kind", "a"] (spKnown C) := by
  refine F.ok scKn (fun vs H Q E h => ?_) (fun cdv A outer s H vs Q E hr h => ?_)
  · obtain ⟨_, _, _, _, _, _, _, _, _, rfl, _⟩ := h
    rfl
  · obtain ⟨p, be, rl, bd, n, Fa, st, t, a, rfl, c, h8, k⟩ := h
    have hu := hu_of hr
    refine ⟨_, pss_one (ps_ret (pe_comp rfl (pi_range1 rfl T.range (pa_cons (pe_fld (pv 0) rfl) pa_nil)) coKn (fun cl ex s0 H0 => ⟨pg_name (i := 0) ndKn rfl (Or.inl rfl), pif_one (pt_cmp (pc_din hu (pe_tup (pa_cons (pv 2) (pa_cons (pv 1) (pa_cons (pv 0) pa_nil)))) (pe_fldK (K := K) rfl (pv 3) rfl)) (by with_unfolding_all rfl)), pe_dget hu (pe_fldK (K := K) rfl (pv 3) rfl) (pe_tup (pa_cons (pv 2) (pa_cons (pv 1) (pa_cons (pv 0) pa_nil)))) (fun _ _ => rfl)⟩))), ?_⟩
    obtain ⟨dx, hp⟩ := c.ins
    obtain ⟨kvs, hbd, hkl, hkv⟩ := c.best
    refine ⟨_, rfl, p, C, dx, _, _, rfl, hp, T.cl, T.nM, c_many, _, rfl, by omega, by omega, fun Da hDa => ?_⟩
    refine comp_range (n := ((n : Int)).toNat) (fun i σ' H' => ∃ v, σ' = [v, some (.int (a : Int)), some (.str (kindS t)), some (.ref p)] ∧ H' Da = some (.lst (numsV ((List.range i).filterMap fun b => st.best (t, a, b)))) ∧ Same H H') ⟨none, rfl, upd_same, same_new hDa⟩ ?_ ?_
    · rintro i σ' H2 hi ⟨v, rfl, e2, s2⟩
      have hin : i < n := by omega
      have ei : ((0 : Int) + (i : Int)) = (i : Int) := by omega
      refine ⟨_, rfl, _, rfl, _, rfl, by show 3 ≤ sizeLine; decide, fun kt hkt => ?_⟩
      rw [ei]
      have s3 := same_new (o := .tup ((keyL (t, a, i)).map kV)) hkt
      have e3 : upd H2 kt (.tup ((keyL (t, a, i)).map kV)) kt = some (.tup ((keyL (t, a, i)).map kV)) := upd_same
      have ek : (HO.tup [V.str (kindS t), V.int (a : Int), V.int (i : Int)]) = .tup ((keyL (t, a, i)).map kV) := rfl
      rw [ek]
      generalize upd H2 kt (.tup ((keyL (t, a, i)).map kV)) = H3 at *
      have s03 := s2.trans s3
      have dg := DGet.t (k := keyL (t, a, i)) (s03 _ _ hbd) e3
      rw [hkv] at dg
      refine ⟨_, rfl, p, C, dx, _, _, rfl, s03 _ _ hp, T.cl, T.nE, c_best, bd, _, rfl, dg, _, rfl, ?_⟩
      have fl : ((List.range i).filterMap fun b => st.best (t, a, b)).length ≤ i := by
        have := List.length_filterMap_le (fun b => st.best (t, a, b)) (List.range i)
        rw [List.length_range] at this
        exact this
      cases hb : st.best (t, a, i) with
      | none =>
        refine iteF ⟨_, rfl, ?_, s03⟩
        rw [filterMap_take, hb]
        show H3 Da = some (.lst (numsV (_ ++ [])))
        rw [List.append_nil]
        exact s3 _ _ e2
      | some j =>
        rw [hb] at dg
        refine iteT ?_
        refine ⟨_, rfl, p, C, dx, _, _, rfl, s03 _ _ hp, T.cl, T.nE, c_best, _, rfl, _, rfl, _, rfl, by show 3 ≤ sizeLine; decide, fun kt2 hkt2 => ?_⟩
        have s4 := same_new (o := .tup ((keyL (t, a, i)).map kV)) hkt2
        have e4 : upd H3 kt2 (.tup ((keyL (t, a, i)).map kV)) kt2 = some (.tup ((keyL (t, a, i)).map kV)) := upd_same
        rw [ek]
        generalize upd H3 kt2 (.tup ((keyL (t, a, i)).map kV)) = H4 at *
        have s04 := s03.trans s4
        have dg4 := DGet.t (k := keyL (t, a, i)) (s04 _ _ hbd) e4
        rw [hkv, hb] at dg4
        refine ⟨bd, _, rfl, dg4, _, s4 _ _ (s3 _ _ e2), ?_, _, rfl, ?_, fun b o e => ?_⟩
        · unfold numsV
          rw [List.length_map]
          exact small1000 (by omega)
        · rw [upd_same, filterMap_take, hb]
          unfold numsV
          rw [List.map_append]
          rfl
        · rw [upd_ne (ne_of_none e hDa)]
          exact s04 _ _ e
    · rintro σ' H2 ⟨v, rfl, e2, s2⟩
      exact k Da H2 hDa s2 e2
end
theorem scTz : FnScope ["self", "b"] ["self", "b"] (defScope sC_Closing_ties_to) := ⟨rfl, rfl, rfl, by decide +kernel, rfl, by decide +kernel, by decide +kernel⟩
theorem coTz : CompOk (defScope sC_Closing_ties_to) ["self", "b"] (fsc [(".0", .local), ("a", .local), ("b", .free), ("self", .free)]) ["a", "b", "self"] [none, some 1, some 0] := ⟨rfl, by decide +kernel, by decide +kernel, by decide +kernel, rfl, by decide +kernel⟩
theorem ndTz : (["a", "b", "self"] : List Str).Nodup := by decide +kernel
section
seal L2.PE L2.PA L2.PT L2.PS L2.PSs L2.PG L2.PGs L2.PI L2.PO
theorem ok_tiesTo {f C : Addr} {fd : FuncData} (F : Fun K "ties_to" "Closing.ties_to" sC_Closing_ties_to f fd) (T : TxtCl K mg C) : FnOk P w K mg base CX0 1 f fd ["self", "b"] (spTo C) := by
  refine F.ok scTz (fun vs H Q E h => ?_) (fun cdv A outer s H vs Q E hr h => ?_)
  · obtain ⟨_, _, _, _, _, _, _, _, rfl, _⟩ := h
    rfl
  · obtain ⟨p, be, rl, bd, n, Fa, st, b0, rfl, c, h8, k⟩ := h
    have hu := hu_of hr
    refine ⟨_, pss_one (ps_ret (pe_comp rfl (pi_range1 rfl T.range (pa_cons (pe_fld (pv 0) rfl) pa_nil)) coTz (fun cl ex s0 H0 => ⟨pg_name (i := 0) ndTz rfl (Or.inl rfl), pif_one (pt_cmp (pc_din hu (pe_tup (pa_cons pe_str (pa_cons (pv 0) (pa_cons (pv 1) pa_nil)))) (pe_fldK (K := K) rfl (pv 2) rfl)) (by with_unfolding_all rfl)), pe_dget hu (pe_fldK (K := K) rfl (pv 2) rfl) (pe_tup (pa_cons pe_str (pa_cons (pv 0) (pa_cons (pv 1) pa_nil)))) (fun _ _ => rfl)⟩))), ?_⟩
    obtain ⟨dx, hp⟩ := c.ins
    obtain ⟨kvs, hbd, hkl, hkv⟩ := c.best
    refine ⟨_, rfl, p, C, dx, _, _, rfl, hp, T.cl, T.nM, c_many, _, rfl, by omega, by omega, fun Da hDa => ?_⟩
    refine comp_range (n := ((n : Int)).toNat) (fun i σ' H' => ∃ v, σ' = [v, some (.int (b0 : Int)), some (.ref p)] ∧ H' Da = some (.lst (numsV ((List.range i).filterMap fun a => st.best (true, a, b0)))) ∧ Same H H') ⟨none, rfl, upd_same, same_new hDa⟩ ?_ ?_
    · rintro i σ' H2 hi ⟨v, rfl, e2, s2⟩
      have hin : i < n := by omega
      have ei : ((0 : Int) + (i : Int)) = (i : Int) := by omega
      refine ⟨_, rfl, _, rfl, by show 3 ≤ sizeLine; decide, fun kt hkt => ?_⟩
      rw [ei]
      have s3 := same_new (o := .tup ((keyL (true, i, b0)).map kV)) hkt
      have e3 : upd H2 kt (.tup ((keyL (true, i, b0)).map kV)) kt = some (.tup ((keyL (true, i, b0)).map kV)) := upd_same
      have ek : (HO.tup [V.str "tie", V.int (i : Int), V.int (b0 : Int)]) = .tup ((keyL (true, i, b0)).map kV) := rfl
      rw [ek]
      generalize upd H2 kt (.tup ((keyL (true, i, b0)).map kV)) = H3 at *
      have s03 := s2.trans s3
      have dg := DGet.t (k := keyL (true, i, b0)) (s03 _ _ hbd) e3
      rw [hkv] at dg
      refine ⟨_, rfl, p, C, dx, _, _, rfl, s03 _ _ hp, T.cl, T.nE, c_best, bd, _, rfl, dg, _, rfl, ?_⟩
      have fl : ((List.range i).filterMap fun a => st.best (true, a, b0)).length ≤ i := by
        have := List.length_filterMap_le (fun a => st.best (true, a, b0)) (List.range i)
        rw [List.length_range] at this
        exact this
      cases hb : st.best (true, i, b0) with
      | none =>
        refine iteF ⟨_, rfl, ?_, s03⟩
        rw [filterMap_take, hb]
        show H3 Da = some (.lst (numsV (_ ++ [])))
        rw [List.append_nil]
        exact s3 _ _ e2
      | some j =>
        rw [hb] at dg
        refine iteT ?_
        refine ⟨_, rfl, p, C, dx, _, _, rfl, s03 _ _ hp, T.cl, T.nE, c_best, _, rfl, _, rfl, by show 3 ≤ sizeLine; decide, fun kt2 hkt2 => ?_⟩
        have s4 := same_new (o := .tup ((keyL (true, i, b0)).map kV)) hkt2
        have e4 : upd H3 kt2 (.tup ((keyL (true, i, b0)).map kV)) kt2 = some (.tup ((keyL (true, i, b0)).map kV)) := upd_same
        rw [ek]
        generalize upd H3 kt2 (.tup ((keyL (true, i, b0)).map kV)) = H4 at *
        have s04 := s03.trans s4
        have dg4 := DGet.t (k := keyL (true, i, b0)) (s04 _ _ hbd) e4
        rw [hkv, hb] at dg4
        refine ⟨bd, _, rfl, dg4, _, s4 _ _ (s3 _ _ e2), ?_, _, rfl, ?_, fun b o e => ?_⟩
        · unfold numsV
          rw [List.length_map]
          exact small1000 (by omega)
        · rw [upd_same, filterMap_take, hb]
          unfold numsV
          rw [List.map_append]
          rfl
        · rw [upd_ne (ne_of_none e hDa)]
          exact s04 _ _ e
    · rintro σ' H2 ⟨v, rfl, e2, s2⟩
      exact k Da H2 hDa s2 e2
end
end
end W

set_option Elab.async false
set_option linter.all false
set_option maxRecDepth 100000
set_option maxHeartbeats 4000000
namespace MU
noncomputable def EndsOk (F : Falls) (st : St) : Prop := ∀ i w, wat st i = some w → w.tie = false → ∃ f, F w.b = some f
structure Sta (n : Nat) (F : Falls) (st : St) : Prop where
  good : Good n st
  ends : EndsOk F st
noncomputable def FitE (n : Nat) (F : Falls) (w : What) : Prop := Fit n w ∧ (w.tie = false → ∃ f, F w.b = some f)
variable {n : Nat} {F : Falls} {most : Int} {st : St}
theorem Sta.put (h : Sta n F st) {o : Option What} {wd : Wd} {us : List Nat} (ho : ∀ w, o = some w → FitE n F w) : Sta n F (put st o wd us) := by
  refine ⟨put_good h.good fun w e => (ho w e).1, fun i w hw ht => ?_⟩
  by_cases hi : i < st.rows.length
  · exact h.ends i w (wat_back (put_ext _ _ _ _) hi hw) ht
  · exact (put_add (C := fun w => w.tie = false → ∃ f, F w.b = some f) (fun w e => (ho w e).2) i w (by omega) hw) ht
theorem sum_fe {p q w : What} (h1 : p.a < n) (h2 : q.b < n) (h : bySum p q = some w) : FitE n F w := by
  unfold bySum at h
  split at h
  · cases h; exact ⟨⟨h1, h2, fun z => nomatch z⟩, fun z => nomatch z⟩
  · cases h
theorem late_fe {p w : What} (h1 : p.a < n) (h2 : p.b < n) (h : byLate F p = some w) : FitE n F w := by
  refine ⟨late_fit p w h1 h2 h, fun _ => ?_⟩
  unfold byLate at h
  split at h
  · cases q : F p.b with
    | none => rw [q] at h; cases h
    | some f => rw [q] at h; cases h; exact ⟨f, q⟩
  · cases h
theorem soon_fe (hF : FOk n F most) {p w : What} (h1 : p.a < n) (h2 : p.b < n) (h : bySoon F p = some w) : FitE n F w := by
  refine ⟨soon_fit hF p w h1 h2 h, fun ht => ?_⟩
  unfold bySoon at h
  split at h
  · cases q : F p.a with
    | none => rw [q] at h; cases h
    | some f => rw [q] at h; cases h; cases ht
  · cases h
theorem sure_fe (hF : FOk n F most) {p w : What} (h1 : p.a < n) (h2 : p.b < n) (h : bySure F p = some w) : FitE n F w := by
  refine ⟨sure_fit hF p w h1 h2 h, fun ht => ?_⟩
  unfold bySure at h
  split at h
  · cases q : F p.b with
    | none => rw [q] at h; cases h
    | some f => rw [q] at h; cases h; cases ht
  · cases h
theorem back_fe {p q w : What} (h1 : p.a < n) (h2 : p.b < n) (h3 : q.a < n) (h4 : q.b < n) (h : byBack F p q = some w) : FitE n F w := by
  refine ⟨back_fit p q w h1 h2 h3 h4 h, fun _ => ?_⟩
  unfold byBack at h
  split at h
  · cases e : F p.b with
    | none => rw [e] at h; cases h
    | some f => rw [e] at h; cases h; exact ⟨f, e⟩
  · cases h
theorem cross_fe (hF : FOk n F most) {p w : What} (h1 : p.a < n) (h2 : p.b < n) (h : byCross F p = some w) : FitE n F w := by
  refine ⟨cross_fit hF p w h1 h2 h, fun _ => ?_⟩
  unfold byCross at h
  split at h
  · cases e : F p.a with
    | none => rw [e] at h; cases h
    | some o =>
      rw [e] at h
      have h : (F p.b).map (fun f => (⟨false, o.1, p.b, min p.v f.2.2 - o.2.1⟩ : What)) = some w := h
      cases e2 : F p.b with
      | none => rw [e2] at h; cases h
      | some f => rw [e2] at h; cases h; exact ⟨f, e2⟩
  · cases h
theorem d1_is {f : What → Option What} {wd : Wd} {i : Nat} {x : What} (h : wat st i = some x) : draw1 f wd i st = put st (f x) wd [i] := by
  unfold draw1
  rw [h]
  rfl
theorem d2_is {f : What → What → Option What} {wd : Wd} {i j : Nat} {x y : What} (h : wat st i = some x) (h' : wat st j = some y) : draw2 f wd i j st = put st (f x y) wd [i, j] := by
  unfold draw2
  rw [h]
  show put st ((wat st j).bind fun q => f x q) wd [i, j] = _
  rw [h']
  rfl
theorem foldl_take {f : St → Nat → St} {l : List Nat} {i j : Nat} (h : l[i]? = some j) : (l.take (i + 1)).foldl f st = f ((l.take i).foldl f st) j := by
  rw [List.take_succ, h, List.foldl_append]
  rfl
end MU
namespace W
open PySem L2
/-! a look at a row -/
section
variable {C p be rl bd : Addr} {n : Nat} {F : MU.Falls} {st : MU.St} {σ : L2.St} {H : Hp} {Q : VK} {E : XK}
theorem tup1 {at_ : Nat} {i : Nat} {R : List V → Hp → Prop} (h1 : σ[i]? = some (some (.int (at_ : Int)))) (k : ∀ t, H t = none → R [.ref t] (upd H t (.tup ([at_].map fun i : Nat => V.int (i : Int))))) : tCons (tTup (tCons (tVar i) tNil)) tNil σ H R :=
  ⟨_, h1, by show 1 ≤ sizeLine; decide, fun t ht => k t ht⟩
theorem tup2 {a b : Nat} {i j : Nat} {R : List V → Hp → Prop} (h1 : σ[i]? = some (some (.int (a : Int)))) (h2 : σ[j]? = some (some (.int (b : Int)))) (k : ∀ t, H t = none → R [.ref t] (upd H t (.tup ([a, b].map fun i : Nat => V.int (i : Int))))) : tCons (tTup (tCons (tVar i) (tCons (tVar j) tNil))) tNil σ H R :=
  ⟨_, h1, _, h2, by show 2 ≤ sizeLine; decide, fun t ht => k t ht⟩
theorem rd_draw {us : List Nat} {xs : List MU.What} {wd : MU.Wd} {o : Option MU.What} {tu : TA} {word : Str} (hw : word = wordS wd) (h0 : σ[0]? = some (some (.ref p))) (c : Clo C H p be rl bd n F st) (g : MU.Good n st)
    (hu : ∀ R : List V → Hp → Prop, (∀ t, H t = none → R [.ref t] (upd H t (.tup (us.map fun i : Nat => V.int (i : Int))))) → tu σ H R) (hx : Paired (fun i x => MU.wat st i = some x) us xs) (ask : Asked F (wordS wd) xs o) (hlen : st.rows.length ≤ 16500000)
    (k : ∀ H', Clo C H' p be rl bd n F (MU.put st o wd us) → KeepC p rl bd H H' → Q .non H') : tMeth C "draw" (spDraw C) [] E (tVar 0) (tCons (tC (.str word)) tu) σ H Q := by
  subst hw
  obtain ⟨dx, hp⟩ := c.ins
  refine ⟨_, h0, p, dx, _, rfl, hp, c_no (by decide +kernel) (by decide +kernel) (by decide +kernel) (by decide +kernel) (by decide +kernel), ?_⟩
  refine hu _ fun t ht => ?_
  have s1 := same_new (o := .tup (us.map fun i : Nat => V.int (i : Int))) ht
  exact ⟨p, be, rl, bd, t, n, F, st, wd, us, xs, o, rfl, c.same s1, g, upd_same, hx, ask, hlen, fun H' c' k' => k H' c' ((KeepC.of s1).trans k')⟩
end
theorem Clo.apart {C p be rl bd la : Addr} {H : Hp} {n : Nat} {F : MU.Falls} {st : MU.St} (c : Clo C H p be rl bd n F st) (h : H la = none) : la ≠ p ∧ la ≠ rl ∧ la ≠ bd := by
  obtain ⟨dx, hp⟩ := c.ins
  obtain ⟨qs, hrl, _⟩ := c.rows
  obtain ⟨kvs, hbd, _⟩ := c.best
  exact ⟨Ne.symm (ne_of_none hp h), Ne.symm (ne_of_none hrl h), Ne.symm (ne_of_none hbd h)⟩
noncomputable def spFromTie (C : Addr) : Sp := fun vs H Q _ => ∃ (p be rl bd : Addr) (n : Nat) (F : MU.Falls) (st : MU.St) (at_ : Nat) (x : MU.What), vs = [.ref p, .int (at_ : Int), .int (x.a : Int), .int (x.b : Int)] ∧ Clo C H p be rl bd n F st ∧ MU.Sta n F st ∧ MU.FOk n F ((60 : Nat) : Int) ∧ MU.wat st at_ = some x ∧ x.tie = true ∧ n ≤ 8 ∧ st.rows.length ≤ 16000000 ∧
  ∀ H', Clo C H' p be rl bd n F (MU.fromTie n F at_ x.a x.b st) → MU.Sta n F (MU.fromTie n F at_ x.a x.b st) → KeepC p rl bd H H' → Q .non H'
noncomputable def spFromWait (C : Addr) : Sp := fun vs H Q _ => ∃ (p be rl bd : Addr) (n : Nat) (F : MU.Falls) (st : MU.St) (at_ : Nat) (x : MU.What), vs = [.ref p, .int (at_ : Int), .int (x.a : Int)] ∧ Clo C H p be rl bd n F st ∧ MU.Sta n F st ∧ MU.FOk n F ((60 : Nat) : Int) ∧ MU.wat st at_ = some x ∧ x.tie = false ∧ n ≤ 8 ∧ st.rows.length ≤ 16000000 ∧
  ∀ H', Clo C H' p be rl bd n F (MU.fromWait n F at_ x.a st) → MU.Sta n F (MU.fromWait n F at_ x.a st) → KeepC p rl bd H H' → Q .non H'
section
variable {P : Program} {w : World} {K : PySem.W.Frag} {mg : Str → Option Value} {base : Heap}
noncomputable abbrev nFt : List Str := ["self", "at", "a", "b", "number"]
theorem scFt : FnScope nFt ["self", "at", "a", "b"] (defScope sC_Closing_draw_from_tie) := ⟨rfl, rfl, rfl, by decide +kernel, rfl, by decide +kernel, by decide +kernel⟩
noncomputable abbrev nFw : List Str := ["self", "at", "a", "number"]
theorem scFw : FnScope nFw ["self", "at", "a"] (defScope sC_Closing_draw_from_wait) := ⟨rfl, rfl, rfl, by decide +kernel, rfl, by decide +kernel, by decide +kernel⟩
section
seal L2.PE L2.PA L2.PT L2.PS L2.PSs L2.PG L2.PGs L2.PI L2.PO
theorem ok_fromWait {f C fD fZ : Addr} {fd fdD fdZ : FuncData} (F : Fun K "draw_from_wait" "Closing.draw_from_wait" sC_Closing_draw_from_wait f fd) (T : TxtCl K mg C)
    (mD : Meth K C "draw" fD) (bD : Binds K fdD ["self", "word", "used"] []) (GD : FnOk P w K mg base CX0 3 fD fdD ["self", "word", "used"] (spDraw C))
    (mZ : Meth K C "ties_to" fZ) (bZ : Binds K fdZ ["self", "b"] []) (GZ : FnOk P w K mg base CX0 1 fZ fdZ ["self", "b"] (spTo C)) : FnOk P w K mg base CX0 4 f fd ["self", "at", "a"] (spFromWait C) := by
  refine F.ok scFw (fun vs H Q E h => ?_) (fun cdv A outer s H vs Q E hr h => ?_)
  · obtain ⟨_, _, _, _, _, _, _, _, _, rfl, _⟩ := h
    rfl
  · obtain ⟨p, be, rl, bd, n, Fa, st, at_, x, rfl, c, S, hF, hx, ht, h8, hlen, k⟩ := h
    have hr1 : Room 1 _ := hr.mono (by decide)
    refine ⟨_, pss_consA (ps_expr (pe_meth (pv 0) T.cl mD GD hr bD .nil pass0 (pa_cons pe_str (pa_cons (pe_tup (pa_cons (pv 1) pa_nil)) pa_nil))))
      (pss_consA (ps_expr (pe_meth (pv 0) T.cl mD GD hr bD .nil pass0 (pa_cons pe_str (pa_cons (pe_tup (pa_cons (pv 1) pa_nil)) pa_nil))))
      (pss_one (ps_for PassesOwn.never rfl (pi_list (pe_meth (pv 0) T.cl mZ GZ hr1 bZ .nil pass0 (pa_cons (pv 2) pa_nil))) (pg_name (i := 3) scFw.nd rfl (Or.inl rfl))
        (pss_one (ps_expr (pe_meth (pv 0) T.cl mD GD hr bD .nil pass0 (pa_cons pe_str (pa_cons (pe_tup (pa_cons (pv 1) (pa_cons (pv 3) pa_nil))) pa_nil)))))))), ?_⟩
    obtain ⟨xa, xb⟩ := S.good.lt _ _ hx
    obtain ⟨fa, hfa⟩ := S.ends _ _ hx ht
    have d1 : MU.draw1 (MU.bySure Fa) .sure at_ st = MU.put st (MU.bySure Fa x) .sure [at_] := MU.d1_is hx
    have S1 : MU.Sta n Fa (MU.put st (MU.bySure Fa x) .sure [at_]) := S.put fun w e => MU.sure_fe hF xa xb e
    have hx1 : MU.wat (MU.put st (MU.bySure Fa x) .sure [at_]) at_ = some x := MU.wat_ext (MU.put_ext _ _ _ _) hx
    have l1 := MU.put_len st (MU.bySure Fa x) .sure [at_]
    have goal : MU.fromWait n Fa at_ x.a st = (MU.tiesTo n (MU.draw1 (MU.byCross Fa) .cross at_ (MU.draw1 (MU.bySure Fa) .sure at_ st)) x.a).foldl (fun st j => MU.draw2 (MU.byBack Fa) .back at_ j st) (MU.draw1 (MU.byCross Fa) .cross at_ (MU.draw1 (MU.bySure Fa) .sure at_ st)) := rfl
    rw [d1] at goal
    refine fun N1 c1 => rd_draw (wd := .sure) rfl rfl c S.good (fun R z => tup1 rfl z) (.cons hx .nil) (.sure x fa ht hfa) (by omega) fun H1 C1 k1 => c1 _ _ ?_
    generalize MU.put st (MU.bySure Fa x) .sure [at_] = st1 at *
    clear c1 N1
    have d2 : MU.draw1 (MU.byCross Fa) .cross at_ st1 = MU.put st1 (MU.byCross Fa x) .cross [at_] := MU.d1_is hx1
    have S2 : MU.Sta n Fa (MU.put st1 (MU.byCross Fa x) .cross [at_]) := S1.put fun w e => MU.cross_fe hF xa xb e
    have hx2 : MU.wat (MU.put st1 (MU.byCross Fa x) .cross [at_]) at_ = some x := MU.wat_ext (MU.put_ext _ _ _ _) hx1
    have l2 := MU.put_len st1 (MU.byCross Fa x) .cross [at_]
    rw [d2] at goal
    refine fun N2 c2 => rd_draw (wd := .cross) rfl rfl C1 S1.good (fun R z => tup1 rfl z) (.cons hx1 .nil) (.cross x fa ht hfa) (by omega) fun H2 C2 k2 => c2 _ _ ?_
    generalize MU.put st1 (MU.byCross Fa x) .cross [at_] = st2 at *
    clear c2 N2
    have k02 := k1.trans k2
    obtain ⟨dx, hp⟩ := C2.ins
    refine ⟨_, rfl, p, dx, _, rfl, hp, c_no (by decide +kernel) (by decide +kernel) (by decide +kernel) (by decide +kernel) (by decide +kernel), _, rfl, p, be, rl, bd, n, Fa, st2, x.a, rfl, C2, h8, fun la H3 hla s3 e3 => ?_⟩
    obtain ⟨n1, n2, n3⟩ := C2.apart hla
    have C3 := C2.same s3
    refine ⟨la, rfl, ⟨_, SqL.of e3⟩, ?_⟩
    have hmem : ∀ j ∈ MU.tiesTo n st2 x.a, ∃ y, MU.wat st2 j = some y ∧ y.tie = true ∧ y.a < n ∧ y.b < n := fun j hj => by
      obtain ⟨cc, _, hb⟩ := MU.tiesTo_mem hj
      obtain ⟨y, hy, hk⟩ := S2.good.at_ _ _ hb
      obtain ⟨q1, q2, q3⟩ := MU.key_eq hk
      exact ⟨y, hy, q1, S2.good.lt _ _ hy⟩
    have tl := MU.tiesTo_len (n := n) (st := st2) (b := x.a)
    generalize MU.tiesTo n st2 x.a = L at *
    refine for_list (K := K) (a := la) (xs := numsV L) (fun i σ' H' => ∃ v, σ' = [some (.ref p), some (.int (at_ : Int)), some (.int (x.a : Int)), v] ∧ Clo C H' p be rl bd n Fa ((L.take i).foldl (fun st j => MU.draw2 (MU.byBack Fa) .back at_ j st) st2) ∧ MU.Sta n Fa ((L.take i).foldl (fun st j => MU.draw2 (MU.byBack Fa) .back at_ j st) st2) ∧ MU.Ext st2 ((L.take i).foldl (fun st j => MU.draw2 (MU.byBack Fa) .back at_ j st) st2) ∧ KeepC p rl bd H3 H') ⟨none, rfl, C3, S2, MU.Ext.refl _, KeepC.of (Same.refl _)⟩ ?_ ?_ ?_
    · rintro i σ' H4 _ ⟨v, rfl, _, _, _, k4⟩
      exact SqL.of (k4 _ _ e3 n1 n2 n3)
    · rintro i y σ' H4 hy ⟨v, rfl, C4, S4, x4, k4⟩
      unfold numsV at hy
      rw [List.getElem?_map] at hy
      cases q : L[i]? with
      | none => rw [q] at hy; cases hy
      | some j =>
        rw [q] at hy
        cases hy
        obtain ⟨y, hyj, yt, ya, yb⟩ := hmem j (List.mem_of_getElem? q)
        have fl := MU.foldl_len (f := fun st j => MU.draw2 (MU.byBack Fa) .back at_ j st) (fun _ _ => MU.put_len _ _ _ _) (L.take i) st2
        rw [List.length_take] at fl
        rw [MU.foldl_take q]
        have hx4 := MU.wat_ext x4 hx2
        have hy4 := MU.wat_ext x4 hyj
        have e4 : MU.draw2 (MU.byBack Fa) .back at_ j ((L.take i).foldl (fun st j => MU.draw2 (MU.byBack Fa) .back at_ j st) st2) = MU.put ((L.take i).foldl (fun st j => MU.draw2 (MU.byBack Fa) .back at_ j st) st2) (MU.byBack Fa x y) .back [at_, j] := MU.d2_is hx4 hy4
        rw [e4]
        generalize (L.take i).foldl (fun st j => MU.draw2 (MU.byBack Fa) .back at_ j st) st2 = st4 at *
        refine rd_draw (wd := .back) rfl rfl C4 S4.good (fun R z => tup2 rfl rfl z) (.cons hx4 (.cons hy4 .nil)) (.back x y fa ht yt hfa) (by omega) fun H5 C5 k5 => ⟨_, rfl, C5, S4.put fun w e => MU.back_fe xa xb ya yb e, x4.trans (MU.put_ext _ _ _ _), k4.trans k5⟩
    · rintro σ' H4 ⟨v, rfl, C4, S4, x4, k4⟩
      have hall : L.take (numsV L).length = L := by unfold numsV; rw [List.length_map]; exact List.take_length
      rw [hall, ← goal] at C4 S4
      exact k H4 C4 S4 ((k02.trans (KeepC.of s3)).trans k4)
end
end
end W

set_option Elab.async false
set_option linter.all false
set_option maxRecDepth 100000
set_option maxHeartbeats 4000000
namespace W
open PySem L2
section
variable {P : Program} {w : World} {K : PySem.W.Frag} {mg : Str → Option Value} {base : Heap}
section
seal L2.PE L2.PA L2.PT L2.PS L2.PSs L2.PG L2.PGs L2.PI L2.PO
theorem ok_fromTie {f C fD fZ fK : Addr} {fd fdD fdZ fdK : FuncData} (F : Fun K "draw_from_tie" "Closing.draw_from_tie" sC_Closing_draw_from_tie f fd) (T : TxtCl K mg C)
    (mD : Meth K C "draw" fD) (bD : Binds K fdD ["self", "word", "used"] []) (GD : FnOk P w K mg base CX0 3 fD fdD ["self", "word", "used"] (spDraw C))
    (mZ : Meth K C "ties_to" fZ) (bZ : Binds K fdZ ["self", "b"] []) (GZ : FnOk P w K mg base CX0 1 fZ fdZ ["self", "b"] (spTo C))
    (mK : Meth K C "known_of" fK) (bK : Binds K fdK ["self", "kind", "a"] []) (GK : FnOk P w K mg base CX0 1 fK fdK ["self", "kind", "a"] (spKnown C)) : FnOk P w K mg base CX0 4 f fd ["self", "at", "a", "b"] (spFromTie C) := by
  refine F.ok scFt (fun vs H Q E h => ?_) (fun cdv A outer s H vs Q E hr h => ?_)
  · obtain ⟨_, _, _, _, _, _, _, _, _, rfl, _⟩ := h
    rfl
  · obtain ⟨p, be, rl, bd, n, Fa, st, at_, x, rfl, c, S, hF, hx, ht, h8, hlen, k⟩ := h
    have hr1 : Room 1 _ := hr.mono (by decide)
    refine ⟨_, pss_consA (ps_expr (pe_meth (pv 0) T.cl mD GD hr bD .nil pass0 (pa_cons pe_str (pa_cons (pe_tup (pa_cons (pv 1) pa_nil)) pa_nil))))
      (pss_consA (ps_expr (pe_meth (pv 0) T.cl mD GD hr bD .nil pass0 (pa_cons pe_str (pa_cons (pe_tup (pa_cons (pv 1) pa_nil)) pa_nil))))
      (pss_consA (ps_for PassesOwn.never rfl (pi_list (pe_meth (pv 0) T.cl mK GK hr1 bK .nil pass0 (pa_cons pe_str (pa_cons (pv 3) pa_nil)))) (pg_name (i := 4) scFt.nd rfl (Or.inl rfl))
        (pss_one (ps_expr (pe_meth (pv 0) T.cl mD GD hr bD .nil pass0 (pa_cons pe_str (pa_cons (pe_tup (pa_cons (pv 1) (pa_cons (pv 4) pa_nil))) pa_nil))))))
      (pss_consA (ps_for PassesOwn.never rfl (pi_list (pe_meth (pv 0) T.cl mZ GZ hr1 bZ .nil pass0 (pa_cons (pv 2) pa_nil))) (pg_name (i := 4) scFt.nd rfl (Or.inl rfl))
        (pss_one (ps_expr (pe_meth (pv 0) T.cl mD GD hr bD .nil pass0 (pa_cons pe_str (pa_cons (pe_tup (pa_cons (pv 4) (pa_cons (pv 1) pa_nil))) pa_nil))))))
      (pss_one (ps_for PassesOwn.never rfl (pi_list (pe_meth (pv 0) T.cl mK GK hr1 bK .nil pass0 (pa_cons pe_str (pa_cons (pv 3) pa_nil)))) (pg_name (i := 4) scFt.nd rfl (Or.inl rfl))
        (pss_one (ps_expr (pe_meth (pv 0) T.cl mD GD hr bD .nil pass0 (pa_cons pe_str (pa_cons (pe_tup (pa_cons (pv 4) (pa_cons (pv 1) pa_nil))) pa_nil)))))))))), ?_⟩
    obtain ⟨xa, xb⟩ := S.good.lt _ _ hx
    have d1 : MU.draw1 (MU.byLate Fa) .late at_ st = MU.put st (MU.byLate Fa x) .late [at_] := MU.d1_is hx
    have S1 : MU.Sta n Fa (MU.put st (MU.byLate Fa x) .late [at_]) := S.put fun w e => MU.late_fe xa xb e
    have hx1 : MU.wat (MU.put st (MU.byLate Fa x) .late [at_]) at_ = some x := MU.wat_ext (MU.put_ext _ _ _ _) hx
    have l1 := MU.put_len st (MU.byLate Fa x) .late [at_]
    generalize hgoal : MU.fromTie n Fa at_ x.a x.b st = fin at *
    unfold MU.fromTie at hgoal
    dsimp only at hgoal
    rw [d1] at hgoal
    refine fun N1 c1 => rd_draw (wd := .late) rfl rfl c S.good (fun R z => tup1 rfl z) (.cons hx .nil) (.late x ht) (by omega) fun H1 C1 k1 => c1 _ _ ?_
    generalize MU.put st (MU.byLate Fa x) .late [at_] = st1 at *
    clear c1 N1
    have d2 : MU.draw1 (MU.bySoon Fa) .soon at_ st1 = MU.put st1 (MU.bySoon Fa x) .soon [at_] := MU.d1_is hx1
    have S2 : MU.Sta n Fa (MU.put st1 (MU.bySoon Fa x) .soon [at_]) := S1.put fun w e => MU.soon_fe hF xa xb e
    have hx2 : MU.wat (MU.put st1 (MU.bySoon Fa x) .soon [at_]) at_ = some x := MU.wat_ext (MU.put_ext _ _ _ _) hx1
    have l2 := MU.put_len st1 (MU.bySoon Fa x) .soon [at_]
    rw [d2] at hgoal
    refine fun N2 c2 => rd_draw (wd := .soon) rfl rfl C1 S1.good (fun R z => tup1 rfl z) (.cons hx1 .nil) (.soon x ht) (by omega) fun H2 C2 k2 => c2 _ _ ?_
    generalize MU.put st1 (MU.bySoon Fa x) .soon [at_] = st2 at *
    clear c2 N2
    have kA := k1.trans k2
    clear k1 k2
    have v4 : ∃ v : Option V, (none : Option V) = v := ⟨_, rfl⟩
    obtain ⟨v4, hv4⟩ := v4
    have lenA : st2.rows.length ≤ st.rows.length + 2 := by omega
    refine fun N3 c3 => ?_
    obtain ⟨dx, hp⟩ := C2.ins
    refine ⟨_, rfl, p, dx, _, rfl, hp, c_no (by decide +kernel) (by decide +kernel) (by decide +kernel) (by decide +kernel) (by decide +kernel), _, rfl, p, be, rl, bd, n, Fa, st2, true, x.b, rfl, C2, h8, fun la H3 hla s3 e3 => ?_⟩
    obtain ⟨n1, n2, n3⟩ := C2.apart hla
    have C3 := C2.same s3
    refine ⟨la, rfl, ⟨_, SqL.of e3⟩, ?_⟩
    have hmem : ∀ j ∈ MU.knownOf n st2 true x.b, ∃ y, MU.wat st2 j = some y ∧ y.tie = true ∧ y.a < n ∧ y.b < n := fun j hj => by
      obtain ⟨cc, _, hb⟩ := MU.known_mem hj
      obtain ⟨y, hy, hk⟩ := S2.good.at_ _ _ hb
      obtain ⟨q1, q2, q3⟩ := MU.key_eq hk
      exact ⟨y, hy, q1, S2.good.lt _ _ hy⟩
    have tl : (MU.knownOf n st2 true x.b).length ≤ n := MU.known_len
    generalize MU.knownOf n st2 true x.b = L at *
    refine for_list (K := K) (a := la) (xs := numsV L) (fun i σ' H' => ∃ v, σ' = [some (.ref p), some (.int (at_ : Int)), some (.int (x.a : Int)), some (.int (x.b : Int)), v] ∧ Clo C H' p be rl bd n Fa ((L.take i).foldl (fun st j => MU.draw2 MU.bySum .sum at_ j st) st2) ∧ MU.Sta n Fa ((L.take i).foldl (fun st j => MU.draw2 MU.bySum .sum at_ j st) st2) ∧ MU.Ext st2 ((L.take i).foldl (fun st j => MU.draw2 MU.bySum .sum at_ j st) st2) ∧ KeepC p rl bd H3 H') ⟨_, rfl, C3, S2, MU.Ext.refl _, KeepC.of (Same.refl _)⟩ ?_ ?_ ?_
    · rintro i σ' H4 _ ⟨v, rfl, _, _, _, k4⟩
      exact SqL.of (k4 _ _ e3 n1 n2 n3)
    · rintro i y σ' H4 hy ⟨v, rfl, C4, S4, x4, k4⟩
      unfold numsV at hy
      rw [List.getElem?_map] at hy
      cases q : L[i]? with
      | none => rw [q] at hy; cases hy
      | some j =>
        rw [q] at hy
        cases hy
        obtain ⟨y, hyj, yt, ya, yb⟩ := hmem j (List.mem_of_getElem? q)
        have fl := MU.foldl_len (f := fun st j => MU.draw2 MU.bySum .sum at_ j st) (fun _ _ => MU.put_len _ _ _ _) (L.take i) st2
        rw [List.length_take] at fl
        rw [MU.foldl_take q]
        have hx4 := MU.wat_ext x4 hx2
        have hy4 := MU.wat_ext x4 hyj
        have e4 : MU.draw2 MU.bySum .sum at_ j ((L.take i).foldl (fun st j => MU.draw2 MU.bySum .sum at_ j st) st2) = MU.put ((L.take i).foldl (fun st j => MU.draw2 MU.bySum .sum at_ j st) st2) (MU.bySum x y) .sum [at_, j] := MU.d2_is hx4 hy4
        rw [e4]
        generalize (L.take i).foldl (fun st j => MU.draw2 MU.bySum .sum at_ j st) st2 = st4 at *
        refine rd_draw (wd := .sum) rfl rfl C4 S4.good (fun R z => tup2 rfl rfl z) (.cons hx4 (.cons hy4 .nil)) (.sum x y ht yt) (by omega) fun H5 C5 k5 => ⟨_, rfl, C5, S4.put fun w e => MU.sum_fe xa yb e, x4.trans (MU.put_ext _ _ _ _), k4.trans k5⟩
    rintro σ' H4 ⟨v1, rfl, C5, S5, x1, k4⟩
    have hall : L.take (numsV L).length = L := by unfold numsV; rw [List.length_map]; exact List.take_length
    rw [hall] at C5 S5 x1
    refine c3 _ _ ?_
    have kB := (kA.trans (KeepC.of s3)).trans k4
    have hx3 := MU.wat_ext x1 hx2
    have lenB : (L.foldl (fun st j => MU.draw2 MU.bySum .sum at_ j st) st2).rows.length ≤ st.rows.length + (2 + 1 * n) := by
      have := MU.foldl_len (f := fun st j => MU.draw2 MU.bySum .sum at_ j st) (fun _ _ => MU.put_len _ _ _ _) L st2
      omega
    generalize L.foldl (fun st j => MU.draw2 MU.bySum .sum at_ j st) st2 = st3 at *
    clear hmem tl e3 n1 n2 n3 C3 hla s3 k4 hall x1 hp c3 N3
    refine fun N4 c4 => ?_
    obtain ⟨dx, hp⟩ := C5.ins
    refine ⟨_, rfl, p, dx, _, rfl, hp, c_no (by decide +kernel) (by decide +kernel) (by decide +kernel) (by decide +kernel) (by decide +kernel), _, rfl, p, be, rl, bd, n, Fa, st3, x.a, rfl, C5, h8, fun la H3 hla s3 e3 => ?_⟩
    obtain ⟨n1, n2, n3⟩ := C5.apart hla
    have C3 := C5.same s3
    refine ⟨la, rfl, ⟨_, SqL.of e3⟩, ?_⟩
    have hmem : ∀ j ∈ MU.tiesTo n st3 x.a, ∃ y, MU.wat st3 j = some y ∧ y.tie = true ∧ y.a < n ∧ y.b < n := fun j hj => by
      obtain ⟨cc, _, hb⟩ := MU.tiesTo_mem hj
      obtain ⟨y, hy, hk⟩ := S5.good.at_ _ _ hb
      obtain ⟨q1, q2, q3⟩ := MU.key_eq hk
      exact ⟨y, hy, q1, S5.good.lt _ _ hy⟩
    have tl : (MU.tiesTo n st3 x.a).length ≤ n := MU.tiesTo_len
    generalize MU.tiesTo n st3 x.a = L at *
    refine for_list (K := K) (a := la) (xs := numsV L) (fun i σ' H' => ∃ v, σ' = [some (.ref p), some (.int (at_ : Int)), some (.int (x.a : Int)), some (.int (x.b : Int)), v] ∧ Clo C H' p be rl bd n Fa ((L.take i).foldl (fun st j => MU.draw2 MU.bySum .sum j at_ st) st3) ∧ MU.Sta n Fa ((L.take i).foldl (fun st j => MU.draw2 MU.bySum .sum j at_ st) st3) ∧ MU.Ext st3 ((L.take i).foldl (fun st j => MU.draw2 MU.bySum .sum j at_ st) st3) ∧ KeepC p rl bd H3 H') ⟨_, rfl, C3, S5, MU.Ext.refl _, KeepC.of (Same.refl _)⟩ ?_ ?_ ?_
    · rintro i σ' H4 _ ⟨v, rfl, _, _, _, k4⟩
      exact SqL.of (k4 _ _ e3 n1 n2 n3)
    · rintro i y σ' H4 hy ⟨v, rfl, C4, S4, x4, k4⟩
      unfold numsV at hy
      rw [List.getElem?_map] at hy
      cases q : L[i]? with
      | none => rw [q] at hy; cases hy
      | some j =>
        rw [q] at hy
        cases hy
        obtain ⟨y, hyj, yt, ya, yb⟩ := hmem j (List.mem_of_getElem? q)
        have fl := MU.foldl_len (f := fun st j => MU.draw2 MU.bySum .sum j at_ st) (fun _ _ => MU.put_len _ _ _ _) (L.take i) st3
        rw [List.length_take] at fl
        rw [MU.foldl_take q]
        have hx4 := MU.wat_ext x4 hx3
        have hy4 := MU.wat_ext x4 hyj
        have e4 : MU.draw2 MU.bySum .sum j at_ ((L.take i).foldl (fun st j => MU.draw2 MU.bySum .sum j at_ st) st3) = MU.put ((L.take i).foldl (fun st j => MU.draw2 MU.bySum .sum j at_ st) st3) (MU.bySum y x) .sum [j, at_] := MU.d2_is hy4 hx4
        rw [e4]
        generalize (L.take i).foldl (fun st j => MU.draw2 MU.bySum .sum j at_ st) st3 = st4 at *
        refine rd_draw (wd := .sum) rfl rfl C4 S4.good (fun R z => tup2 rfl rfl z) (.cons hy4 (.cons hx4 .nil)) (.sum y x yt ht) (by omega) fun H5 C5 k5 => ⟨_, rfl, C5, S4.put fun w e => MU.sum_fe ya xb e, x4.trans (MU.put_ext _ _ _ _), k4.trans k5⟩
    rintro σ' H4 ⟨v2, rfl, C6, S6, x2, k4⟩
    have hall : L.take (numsV L).length = L := by unfold numsV; rw [List.length_map]; exact List.take_length
    rw [hall] at C6 S6 x2
    refine c4 _ _ ?_
    have kC := (kB.trans (KeepC.of s3)).trans k4
    have hx4z := MU.wat_ext x2 hx3
    have lenC : (L.foldl (fun st j => MU.draw2 MU.bySum .sum j at_ st) st3).rows.length ≤ st.rows.length + (2 + 2 * n) := by
      have := MU.foldl_len (f := fun st j => MU.draw2 MU.bySum .sum j at_ st) (fun _ _ => MU.put_len _ _ _ _) L st3
      omega
    generalize L.foldl (fun st j => MU.draw2 MU.bySum .sum j at_ st) st3 = st4z at *
    clear hmem tl e3 n1 n2 n3 C3 hla s3 k4 hall x2 hp c4 N4
    obtain ⟨dx, hp⟩ := C6.ins
    refine ⟨_, rfl, p, dx, _, rfl, hp, c_no (by decide +kernel) (by decide +kernel) (by decide +kernel) (by decide +kernel) (by decide +kernel), _, rfl, p, be, rl, bd, n, Fa, st4z, false, x.b, rfl, C6, h8, fun la H3 hla s3 e3 => ?_⟩
    obtain ⟨n1, n2, n3⟩ := C6.apart hla
    have C3 := C6.same s3
    refine ⟨la, rfl, ⟨_, SqL.of e3⟩, ?_⟩
    have hmem : ∀ j ∈ MU.knownOf n st4z false x.b, ∃ y, MU.wat st4z j = some y ∧ y.tie = false ∧ y.a < n ∧ y.b < n := fun j hj => by
      obtain ⟨cc, _, hb⟩ := MU.known_mem hj
      obtain ⟨y, hy, hk⟩ := S6.good.at_ _ _ hb
      obtain ⟨q1, q2, q3⟩ := MU.key_eq hk
      exact ⟨y, hy, q1, S6.good.lt _ _ hy⟩
    have tl : (MU.knownOf n st4z false x.b).length ≤ n := MU.known_len
    generalize MU.knownOf n st4z false x.b = L at *
    refine for_list (K := K) (a := la) (xs := numsV L) (fun i σ' H' => ∃ v, σ' = [some (.ref p), some (.int (at_ : Int)), some (.int (x.a : Int)), some (.int (x.b : Int)), v] ∧ Clo C H' p be rl bd n Fa ((L.take i).foldl (fun st j => MU.draw2 (MU.byBack Fa) .back j at_ st) st4z) ∧ MU.Sta n Fa ((L.take i).foldl (fun st j => MU.draw2 (MU.byBack Fa) .back j at_ st) st4z) ∧ MU.Ext st4z ((L.take i).foldl (fun st j => MU.draw2 (MU.byBack Fa) .back j at_ st) st4z) ∧ KeepC p rl bd H3 H') ⟨_, rfl, C3, S6, MU.Ext.refl _, KeepC.of (Same.refl _)⟩ ?_ ?_ ?_
    · rintro i σ' H4 _ ⟨v, rfl, _, _, _, k4⟩
      exact SqL.of (k4 _ _ e3 n1 n2 n3)
    · rintro i y σ' H4 hy ⟨v, rfl, C4, S4, x4, k4⟩
      unfold numsV at hy
      rw [List.getElem?_map] at hy
      cases q : L[i]? with
      | none => rw [q] at hy; cases hy
      | some j =>
        rw [q] at hy
        cases hy
        obtain ⟨y, hyj, yt, ya, yb⟩ := hmem j (List.mem_of_getElem? q)
        have fl := MU.foldl_len (f := fun st j => MU.draw2 (MU.byBack Fa) .back j at_ st) (fun _ _ => MU.put_len _ _ _ _) (L.take i) st4z
        rw [List.length_take] at fl
        rw [MU.foldl_take q]
        have hx4 := MU.wat_ext x4 hx4z
        have hy4 := MU.wat_ext x4 hyj
        have e4 : MU.draw2 (MU.byBack Fa) .back j at_ ((L.take i).foldl (fun st j => MU.draw2 (MU.byBack Fa) .back j at_ st) st4z) = MU.put ((L.take i).foldl (fun st j => MU.draw2 (MU.byBack Fa) .back j at_ st) st4z) ((MU.byBack Fa) y x) .back [j, at_] := MU.d2_is hy4 hx4
        rw [e4]
        obtain ⟨yf, hyf⟩ := S4.ends _ _ hy4 yt
        generalize (L.take i).foldl (fun st j => MU.draw2 (MU.byBack Fa) .back j at_ st) st4z = st4 at *
        refine rd_draw (wd := .back) rfl rfl C4 S4.good (fun R z => tup2 rfl rfl z) (.cons hy4 (.cons hx4 .nil)) (.back y x yf yt ht hyf) (by omega) fun H5 C5 k5 => ⟨_, rfl, C5, S4.put fun w e => MU.back_fe ya yb xa xb e, x4.trans (MU.put_ext _ _ _ _), k4.trans k5⟩
    · rintro σ' H4 ⟨v, rfl, C4, S4, x4, k4⟩
      have hall : L.take (numsV L).length = L := by unfold numsV; rw [List.length_map]; exact List.take_length
      rw [hall, hgoal] at C4 S4
      exact k H4 C4 S4 ((kC.trans (KeepC.of s3)).trans k4)
end
end
end W

set_option Elab.async false
set_option linter.all false
set_option maxRecDepth 100000
set_option maxHeartbeats 4000000
namespace W
open PySem L2
/-! the whole closing -/
structure Ended (n : Nat) (F : MU.Falls) (s0 : MU.St) (T : Nat) : Prop where
  end_ : (MU.run n F s0 T).rows.length ≤ T ∨ (MU.run n F s0 T).bar ≠ none
  first : ∀ t, t < T → t < (MU.run n F s0 t).rows.length ∧ (MU.run n F s0 t).bar = none
  few : ∀ t, t ≤ T → (MU.run n F s0 t).rows.length ≤ 16000000
noncomputable def spAll (C : Addr) : Sp := fun vs H Q _ => ∃ (p be rl bd : Addr) (n : Nat) (F : MU.Falls) (s0 : MU.St) (T : Nat), vs = [.ref p] ∧ Clo C H p be rl bd n F s0 ∧ MU.Sta n F s0 ∧ MU.FOk n F ((60 : Nat) : Int) ∧ n ≤ 8 ∧ Ended n F s0 T ∧
  ∀ H', Clo C H' p be rl bd n F (MU.run n F s0 T) → MU.Sta n F (MU.run n F s0 T) → KeepC p rl bd H H' → Q .non H'
section
variable {P : Program} {w : World} {K : PySem.W.Frag} {mg : Str → Option Value} {base : Heap}
theorem scAl : FnScope ["self", "at", "what"] ["self"] (defScope sC_Closing_draw_all) := ⟨rfl, rfl, rfl, by decide +kernel, rfl, by decide +kernel, by decide +kernel⟩
section
seal L2.PE L2.PA L2.PT L2.PS L2.PSs L2.PG L2.PGs L2.PI L2.PO
theorem ok_drawAll {f C fT fW : Addr} {fd fdT fdW : FuncData} (F : Fun K "draw_all" "Closing.draw_all" sC_Closing_draw_all f fd) (T : TxtCl K mg C)
    (mT : Meth K C "draw_from_tie" fT) (bT : Binds K fdT ["self", "at", "a", "b"] []) (GT : FnOk P w K mg base CX0 4 fT fdT ["self", "at", "a", "b"] (spFromTie C))
    (mW : Meth K C "draw_from_wait" fW) (bW : Binds K fdW ["self", "at", "a"] []) (GW : FnOk P w K mg base CX0 4 fW fdW ["self", "at", "a"] (spFromWait C)) : FnOk P w K mg base CX0 5 f fd ["self"] (spAll C) := by
  refine F.ok scAl (fun vs H Q E h => ?_) (fun cdv A outer s H vs Q E hr h => ?_)
  · obtain ⟨_, _, _, _, _, _, _, _, rfl, _⟩ := h
    rfl
  · obtain ⟨p, be, rl, bd, n, Fa, s0, Te, rfl, c, S, hF, h8, hE, k⟩ := h
    have hu := hu_of hr
    refine ⟨_, pss_consA (ps_set (i := 1) scAl.nd rfl (Or.inl rfl) pe_int)
      (pss_one (ps_while PassesOwn.never (PW.pt (pw_and (pt_cmpR op_lt (pv 1) (pe_callB call_len_seq (by rfl) T.len PySem.boot_len (pa_cons (pe_fld (pv 0) rfl) pa_nil)) (nomark _)) (pw_and1 (pt_cmpR op_isN (pe_fld (pv 0) rfl) pe_non (nomark _)))))
        (pss_consA (ps_set (i := 2) scAl.nd rfl (Or.inl rfl) (pe_ix ix_tup0 (pe_ix ix_list0 (pe_fld (pv 0) rfl) (pv 1) (fun _ _ => rfl)) pe_int (fun _ _ => rfl)))
        (pss_consA (ps_cut (ps_if (pt_cmpR op_eq (pe_dget hu (pe_fld (pv 0) rfl) (pe_slice sl_tup (pv 2) po_none (po_some pe_int)) (fun _ _ => rfl)) (pv 1) (nomark _))
          (pss_one (ps_if (pt_cmpR op_eq (pe_ix ix_tup0 (pv 2) pe_int (fun _ _ => rfl)) pe_str (nomark _))
            (pss_one (ps_expr (pe_meth (pv 0) T.cl mT GT hr bT .nil pass0 (pa_cons (pv 1) (pa_cons (pe_ix ix_tup0 (pv 2) pe_int (fun _ _ => rfl)) (pa_cons (pe_ix ix_tup0 (pv 2) pe_int (fun _ _ => rfl)) pa_nil))))))
            (pss_one (ps_expr (pe_meth (pv 0) T.cl mW GW hr bW .nil pass0 (pa_cons (pv 1) (pa_cons (pe_ix ix_tup0 (pv 2) pe_int (fun _ _ => rfl)) pa_nil))))))) pss_nil))
        (pss_one (ps_aug (i := 1) scAl.nd rfl (Or.inl rfl) pe_int ip_add)))))), ?_⟩
    refine fun N1 c1 => c1 _ _ ?_
    refine ⟨fun m σ' H' => ∃ t v, t + m = Te ∧ σ' = [some (.ref p), some (.int (t : Int)), v] ∧ Clo C H' p be rl bd n Fa (MU.run n Fa s0 t) ∧ MU.Sta n Fa (MU.run n Fa s0 t) ∧ KeepC p rl bd H H', ⟨Te, 0, none, by omega, rfl, c, S, KeepC.of (Same.refl _)⟩, ?_⟩
    rintro m σ' H1 ⟨t, v, htm, rfl, C1, S1, k1⟩
    obtain ⟨dx, hp⟩ := C1.ins
    obtain ⟨qs, hrl, hrows⟩ := C1.rows
    obtain ⟨kvs, hbd, hkl, hkv⟩ := C1.best
    have hql : qs.length = (MU.run n Fa s0 t).rows.length := Paired.length hrows
    refine ⟨_, rfl, _, rfl, p, C, dx, _, _, rfl, hp, T.cl, T.nR, c_rows, rl, _, rfl, .inl (SqL.of hrl), _, _, rfl, rfl, _, rfl, ?_⟩
    rw [List.length_map, hql]
    have ending : ∀ b, (MU.run n Fa s0 t).rows.length ≤ t ∨ (MU.run n Fa s0 t).bar ≠ none → b = false → if b = true then (∃ N : L2.St → Hp → Prop, (∀ σ' H', N σ' H' → ∃ m', m' < m ∧ ∃ t v, t + m' = Te ∧ σ' = [some (.ref p), some (.int (t : Int)), v] ∧ Clo C H' p be rl bd n Fa (MU.run n Fa s0 t) ∧ MU.Sta n Fa (MU.run n Fa s0 t) ∧ KeepC p rl bd H H') ∧ False) else Q .non H1 := fun b hst hb => by
      have e : t = Te := Classical.byContradiction fun z => by
        have := hE.first t (by omega)
        rcases hst with y | y
        · omega
        · exact y this.2
      rw [if_neg (by rw [hb]; decide)]
      rw [e] at C1 S1
      exact k H1 C1 S1 k1
    by_cases hlt : t < (MU.run n Fa s0 t).rows.length
    · refine iteD (by omega) ⟨_, rfl, p, C, dx, _, _, rfl, hp, T.cl, T.nX, c_bar, rfl, _, rfl, ?_⟩
      rw [bar_non]
      by_cases hb : (MU.run n Fa s0 t).bar = none
      · refine iteD hb ?_
        have htT : t < Te := Classical.byContradiction fun z => by
          have e : t = Te := by omega
          rcases hE.end_ with y | y
          · rw [← e] at y; omega
          · rw [← e] at y; exact y hb
        refine ⟨fun σ' H' => ∃ m', m' < m ∧ ∃ t v, t + m' = Te ∧ σ' = [some (.ref p), some (.int (t : Int)), v] ∧ Clo C H' p be rl bd n Fa (MU.run n Fa s0 t) ∧ MU.Sta n Fa (MU.run n Fa s0 t) ∧ KeepC p rl bd H H', fun σ' H' z => z, ?_⟩
        obtain ⟨x, hx⟩ : ∃ x, MU.wat (MU.run n Fa s0 t) t = some x := ⟨_, by unfold MU.wat; rw [List.getElem?_eq_getElem hlt]; rfl⟩
        obtain ⟨q', r, pw, pu, g1, g2, g3, g4, g5, g6⟩ := row_get hrows hx
        have hat : atI (qs.map V.ref) (t : Int) = some (.ref q') := atI_nat (by rw [List.getElem?_map, g1]; rfl)
        refine fun N2 c2 => ⟨_, rfl, p, C, dx, _, _, rfl, hp, T.cl, T.nR, c_rows, rdLv rfl hrl hat (rdT g4 rfl (c2 _ _ ?_))⟩
        clear c2 N2
        refine fun N3 c3 => ⟨fun σ' H' => σ' = [some (.ref p), some (.int (t : Int)), some (.ref pw)] ∧ Clo C H' p be rl bd n Fa (MU.run n Fa s0 (t + 1)) ∧ MU.Sta n Fa (MU.run n Fa s0 (t + 1)) ∧ KeepC p rl bd H1 H', ?_, ?_⟩
        · refine ⟨_, rfl, p, C, dx, _, _, rfl, hp, T.cl, T.nE, c_best, _, rfl, _, rfl, pw, _, rfl, SqT.of g5, nocut3, fun kt hkt => ?_⟩
          rw [cut3]
          have s3 := same_new (o := .tup ((keyL x.key).map kV)) hkt
          have e3 : upd H1 kt (.tup ((keyL x.key).map kV)) kt = some (.tup ((keyL x.key).map kV)) := upd_same
          generalize upd H1 kt (.tup ((keyL x.key).map kV)) = H3 at *
          obtain ⟨j, hj, hbj⟩ := S1.good.top t x hx
          have dg := DGet.t (k := keyL x.key) (s3 _ _ hbd) e3
          rw [hkv, hbj] at dg
          have C3 := C1.same s3
          have few := hE.few t (by omega)
          have hl : MU.run n Fa s0 (t + 1) = MU.look n Fa t (MU.run n Fa s0 t) := rfl
          refine ⟨bd, _, rfl, dg, _, rfl, rfl, _, rfl, ?_⟩
          rw [natD]
          by_cases e : j = t
          · rw [e] at hbj
            refine iteD e ⟨_, rfl, rdT (s3 _ _ g5) rfl ⟨rfl, _, rfl, ?_⟩⟩
            rw [kind_tie]
            cases ht : x.tie with
            | true =>
              have el := MU.look_tie (n := n) (F := Fa) hx ht rfl rfl (by rw [← hbj]; unfold MU.What.key; rw [ht])
              rw [hl, el]
              refine iteT ⟨_, rfl, p, dx, _, rfl, s3 _ _ hp, c_no (by decide +kernel) (by decide +kernel) (by decide +kernel) (by decide +kernel) (by decide +kernel), _, rfl, _, rfl, rdT (s3 _ _ g5) rfl ⟨_, rfl, rdT (s3 _ _ g5) rfl ?_⟩⟩
              exact ⟨p, be, rl, bd, n, Fa, _, t, x, rfl, C3, S1, hF, hx, ht, h8, few, fun H4 C4 S4 k4 => ⟨rfl, C4, S4, (KeepC.of s3).trans k4⟩⟩
            | false =>
              have el := MU.look_wait (n := n) (F := Fa) hx ht hbj
              rw [hl, el]
              refine iteF ⟨_, rfl, p, dx, _, rfl, s3 _ _ hp, c_no (by decide +kernel) (by decide +kernel) (by decide +kernel) (by decide +kernel) (by decide +kernel), _, rfl, _, rfl, rdT (s3 _ _ g5) rfl ?_⟩
              exact ⟨p, be, rl, bd, n, Fa, _, t, x, rfl, C3, S1, hF, hx, ht, h8, few, fun H4 C4 S4 k4 => ⟨rfl, C4, S4, (KeepC.of s3).trans k4⟩⟩
          · have el := MU.look_none (n := n) (F := Fa) hx (by rw [hbj]; exact fun z => e (Option.some.inj z))
            rw [hl, el]
            exact iteDN e ⟨rfl, C3, S1, KeepC.of s3⟩
        · rintro σ' H4 ⟨rfl, C4, S4, k4⟩
          refine c3 _ _ ⟨_, rfl, _, _, rfl, rfl, m - 1, by omega, t + 1, some (.ref pw), by omega, ?_, C4, S4, k1.trans k4⟩
          show [some (V.ref p), some (V.int ((t : Int) + 1)), some (V.ref pw)] = [some (V.ref p), some (V.int ((t + 1 : Nat) : Int)), some (V.ref pw)]
          rfl
      · have := ending false (.inr hb) rfl
        exact iteDN hb this
    · have := ending false (.inl (by omega)) rfl
      exact iteDN (by omega) (iteF this)
end
end
end W

set_option linter.unusedVariables false
namespace MU
/-! what is told -/
noncomputable def empty : St := ⟨[], fun _ => none, none⟩
noncomputable def tells (rows : List What) (st : St) : St := rows.foldl (fun st w => take st w .told []) st
variable {n : Nat} {F : Falls} {st : St}
theorem empty_good : Good n empty := by
  have nw : ∀ i w, wat empty i ≠ some w := fun i w h => by
    unfold wat empty at h
    simp at h
  exact ⟨fun k i h => (nomatch h), fun i w h => absurd h (nw i w), fun i w h => absurd h (nw i w), fun _ i w h => absurd h (nw i w), fun _ i j w w' h => absurd h (nw i w)⟩
noncomputable def Told (n : Nat) (w : What) : Prop := w.a < n ∧ w.b < n ∧ w.tie = true
theorem tells_good : ∀ (rows : List What) (st : St), Good n st → (∀ w ∈ rows, Told n w) → Good n (tells rows st)
  | [], _, g, _ => g
  | w :: r, st, g, h => tells_good r _ (take_good g (h w List.mem_cons_self).1 (h w List.mem_cons_self).2.1 fun z => by rw [(h w List.mem_cons_self).2.2] at z; cases z) fun w' hw' => h w' (List.mem_cons_of_mem _ hw')
theorem tells_imp : ∀ (rows : List What) (st : St), Imp st (tells rows st)
  | [], st => Imp.refl st
  | w :: r, st => (take_imp st w _ _).trans (tells_imp r _)
theorem tells_len : ∀ (rows : List What) (st : St), (tells rows st).rows.length ≤ st.rows.length + rows.length
  | [], st => Nat.le_refl _
  | w :: r, st => by
    have h1 := tells_len r (take st w .told [])
    have h2 := put_len st (some w) .told []
    have h2 : (take st w .told []).rows.length ≤ st.rows.length + 1 := h2
    rw [List.length_cons]
    show (tells r (take st w .told [])).rows.length ≤ _
    omega
theorem tells_ties : ∀ (rows : List What) (st : St), (∀ i w, wat st i = some w → w.tie = true) → (∀ w ∈ rows, Told n w) → ∀ i w, wat (tells rows st) i = some w → w.tie = true
  | [], _, h, _ => h
  | w :: r, st, h, hw => tells_ties r _ (fun i u hu => by
      by_cases hi : i < st.rows.length
      · exact h i u (wat_back (take_ext _ _ _ _) hi hu)
      · exact take_add (C := fun u => u.tie = true) (hw w List.mem_cons_self).2.2 i u (by omega) hu) fun w' hw' => hw w' (List.mem_cons_of_mem _ hw')
theorem tells_knows : ∀ (rows : List What) (st : St) (w : What), w ∈ rows → w.a ≠ w.b → ∃ u, val (tells rows st) w.key = some u ∧ ¬ better w.tie w.v u
  | [], _, w, h, _ => nomatch h
  | x :: r, st, w, h, hne => by
    rcases List.mem_cons.mp h with e | h
    · subst e
      obtain ⟨u, hu, nu⟩ := take_knows (st := st) (w := w) (word := .told) (used := []) hne
      obtain ⟨u', hu', nu'⟩ := (tells_imp r (take st w .told [])).2 w.key u hne hu
      exact ⟨u', hu', nbetter_trans nu nu'⟩
    · exact tells_knows r _ w h hne
theorem empty_ties : ∀ i w, wat empty i = some w → w.tie = true := fun i w h => by
  unfold wat empty at h
  simp at h
end MU

set_option Elab.async false
set_option linter.all false
set_option maxRecDepth 100000
set_option maxHeartbeats 4000000
namespace W
open PySem L2
/-! a closing that begins -/
noncomputable def tieW : List Int → MU.What
  | [a, b, v] => ⟨true, a.toNat, b.toNat, v⟩
  | _ => ⟨true, 0, 0, 0⟩
noncomputable def IdxN (n : Int) (rows : List (List Int)) : Prop := ∀ r ∈ rows, ∃ a b v : Int, r = [a, b, v] ∧ 0 ≤ a ∧ a < n ∧ 0 ≤ b ∧ b < n ∧ a ≠ b
theorem roomB_idx {la : Int} : ∀ {k : Nat} {n : Int}, (k : Int) + 1 ≤ n → IdxN n (roomB la k)
  | 0, _, _ => fun r hr => nomatch hr
  | k + 1, n, h => fun r hr => by
    unfold roomB at hr
    rcases List.mem_append.mp hr with hr | hr
    · exact roomB_idx (k := k) (by omega) r hr
    · rcases List.mem_cons.mp hr with rfl | hr
      · exact ⟨0, (k : Int) + 1, la, rfl, by omega, by omega, by omega, by omega, by omega⟩
      · rw [List.mem_singleton.mp hr]
        exact ⟨(k : Int) + 1, 0, 0, rfl, by omega, by omega, by omega, by omega, by omega⟩
theorem spanB_idx {n : Int} {rows : List (List Int)} (h : ∀ r ∈ rows, ∃ a b l m : Int, r = [a, b, l, m] ∧ 0 ≤ a ∧ a < n ∧ 0 ≤ b ∧ b < n ∧ a ≠ b) : IdxN n (spanB rows) := fun r hr => by
  unfold spanB at hr
  obtain ⟨x, hx, hrx⟩ := List.mem_flatten.mp hr
  obtain ⟨y, hy, rfl⟩ := List.mem_map.mp hx
  obtain ⟨a, b, l, m, rfl, h1, h2, h3, h4, h5⟩ := h y hy
  rcases List.mem_cons.mp hrx with rfl | hrx
  · exact ⟨a, b, m, rfl, h1, h2, h3, h4, h5⟩
  · rw [List.mem_singleton.mp hrx]
    exact ⟨b, a, -l, rfl, h3, h4, h1, h2, Ne.symm h5⟩
theorem WebOk.idxN {n la : Int} {T F : List (List Int)} (h : WebOk n la T F) : IdxN n (allB n la T F) := fun r hr => by
  unfold allB at hr
  have n1 := h.n1
  rcases List.mem_append.mp hr with hr | hr
  · rcases List.mem_append.mp hr with hr | hr
    · exact roomB_idx (by omega) r hr
    · exact spanB_idx (fun r hr => by obtain ⟨a, b, l, m, e, x1, x2, x3, x4, x5, _⟩ := h.t r hr; exact ⟨a, b, l, m, e, x1, x2, x3, x4, x5⟩) r hr
  · exact spanB_idx (fun r hr => by obtain ⟨a, b, l, m, e, x1, x2, x3, x4, x5, _⟩ := h.f r hr; exact ⟨a, b, l, m, e, x1, x2, by omega, x4, x5⟩) r hr
theorem allB_short {n la : Int} {T F : List (List Int)} (h : WebOk n la T F) : (allB n la T F).length ≤ 100 := by
  unfold allB
  rw [List.length_append, List.length_append, roomB_len, spanB_len h.fourT, spanB_len h.fourF]
  have := h.tl
  have := h.fl
  have := h.n2
  omega
noncomputable def begun (n la : Int) (T F : List (List Int)) : MU.St := MU.tells ((allB n la T F).map tieW) MU.empty
theorem toldW {n : Nat} {rows : List (List Int)} (h : IdxN (n : Int) rows) : ∀ w ∈ rows.map tieW, MU.Told n w := fun w hw => by
  obtain ⟨r, hr, rfl⟩ := List.mem_map.mp hw
  obtain ⟨a, b, v, rfl, h1, h2, h3, h4, _⟩ := h r hr
  exact ⟨by show a.toNat < n; omega, by show b.toNat < n; omega, rfl⟩
theorem begun_sta {n : Nat} {la : Int} {T F : List (List Int)} (h : WebOk (n : Int) la T F) : MU.Sta n (fallsOf F) (begun n la T F) := by
  have g := MU.tells_good ((allB (n : Int) la T F).map tieW) MU.empty MU.empty_good (toldW h.idxN)
  refine ⟨g, fun i w hw ht => ?_⟩
  have := MU.tells_ties (n := n) _ _ MU.empty_ties (toldW h.idxN) i w hw
  rw [ht] at this
  cases this
noncomputable def spCInit (C CW : Addr) : Sp := fun vs H Q _ => ∃ (p wb dx : Addr) (n : Nat) (la : Int) (T F : List (List Int)), vs = [.ref p, .ref wb] ∧ H p = some (.ins C dx []) ∧ WebAt CW H wb (n : Int) la T F ∧ WebOk (n : Int) la T F ∧
  ∀ H' be rl bd, Clo C H' p be rl bd n (fallsOf F) (begun n la T F) → H be = none → H rl = none → H bd = none → Keep p H H' → Q .non H'
section
variable {P : Program} {w : World} {K : PySem.W.Frag} {mg : Str → Option Value} {base : Heap}
noncomputable abbrev nCi : List Str := ["self", "web", "a", "b", "most"]
theorem scCi : FnScope nCi ["self", "web"] (defScope sC_Closing_init) := ⟨rfl, rfl, rfl, by decide +kernel, rfl, by decide +kernel, by decide +kernel⟩
theorem km1 : ¬ (("many" : Str) = "by_end") := by decide +kernel
theorem km2 : ¬ (("many" : Str) = "rows") := by decide +kernel
theorem km3 : ¬ (("by_end" : Str) = "rows") := by decide +kernel
theorem km4 : ¬ (("many" : Str) = "best") := by decide +kernel
theorem km5 : ¬ (("by_end" : Str) = "best") := by decide +kernel
theorem km6 : ¬ (("rows" : Str) = "best") := by decide +kernel
theorem km7 : ¬ (("many" : Str) = "bar") := by decide +kernel
theorem km8 : ¬ (("by_end" : Str) = "bar") := by decide +kernel
theorem km9 : ¬ (("rows" : Str) = "bar") := by decide +kernel
theorem km0 : ¬ (("best" : Str) = "bar") := by decide +kernel
theorem c_all {n : Nat} {be rl bd : Addr} {v : V} : putF "bar" v (putF "best" (.ref bd) (putF "rows" (.ref rl) (putF "by_end" (.ref be) (putF "many" (.int (n : Int)) [])))) = cflds n be rl bd v := by
  have s1 : putF "by_end" (V.ref be) [(("many" : Str), V.int (n : Int))] = [(("many" : Str), V.int (n : Int)), ("by_end", .ref be)] := by rw [putF_skip km1]; rfl
  have s2 : putF "rows" (V.ref rl) [(("many" : Str), V.int (n : Int)), ("by_end", .ref be)] = [(("many" : Str), V.int (n : Int)), ("by_end", .ref be), ("rows", .ref rl)] := by rw [putF_skip km2, putF_skip km3]; rfl
  have s3 : putF "best" (V.ref bd) [(("many" : Str), V.int (n : Int)), ("by_end", .ref be), ("rows", .ref rl)] = [(("many" : Str), V.int (n : Int)), ("by_end", .ref be), ("rows", .ref rl), ("best", .ref bd)] := by rw [putF_skip km4, putF_skip km5, putF_skip km6]; rfl
  have s4 : putF "bar" v [(("many" : Str), V.int (n : Int)), ("by_end", .ref be), ("rows", .ref rl), ("best", .ref bd)] = cflds n be rl bd v := by rw [putF_skip km7, putF_skip km8, putF_skip km9, putF_skip km0]; rfl
  show putF "bar" v (putF "best" (.ref bd) (putF "rows" (.ref rl) (putF "by_end" (.ref be) [(("many" : Str), V.int (n : Int))]))) = _
  rw [s1, s2, s3, s4]
section
seal L2.PE L2.PA L2.PT L2.PS L2.PSs L2.PG L2.PGs L2.PI L2.PO
theorem ok_cinit {f C CW fT fE fB : Addr} {fd fdT fdE fdB : FuncData} (F : Fun K "__init__" "Closing.__init__" sC_Closing_init f fd) (T : TxtCl K mg C) (TC : TxtC K mg CW)
    (mT : Meth K C "take" fT) (bT : Binds K fdT ["self", "what", "word", "used"] []) (GT : FnOk P w K mg base CX0 2 fT fdT ["self", "what", "word", "used"] (spTake C))
    (FE : Fn K mg "falls_by_end" sP_falls_by_end ["web"] fE fdE) (GE : FnOk P w K mg base CX0 2 fE fdE ["web"] (spByEnd CW))
    (FB : Fn K mg "told_bounds" sP_told_bounds ["web"] fB fdB) (GB : FnOk P w K mg base CX0 3 fB fdB ["web"] (spTold CW)) : FnOk P w K mg base CX0 4 f fd ["self", "web"] (spCInit C CW) := by
  refine F.ok scCi (fun vs H Q E h => ?_) (fun cdv A outer s H vs Q E hr h => ?_)
  · obtain ⟨_, _, _, _, _, _, _, rfl, _⟩ := h
    rfl
  · obtain ⟨p, wb, dx, n, la, rT, rF, rfl, hp, W0, hok, k⟩ := h
    have hr2 : Room 2 _ := hr.mono (by decide)
    have hr3 : Room 3 _ := hr
    refine ⟨_, pss_consA (ps_fld (pv 0) (pe_fld (pv 1) rfl) rfl)
      (pss_consA (ps_fld (pv 0) (pe_call GE hr2 rfl FE.g FE.F.kp FE.b .nil pass0 (pa_cons (pv 1) pa_nil)) rfl)
      (pss_consA (ps_fld (pv 0) (pe_lst pa_nil) rfl)
      (pss_consA (ps_fld (pv 0) pe_dnewT rfl)
      (pss_consA (ps_fld (pv 0) pe_non rfl)
      (pss_one (ps_for PassesOwn.never rfl (pi_list (pe_call GB hr3 rfl FB.g FB.F.kp FB.b .nil pass0 (pa_cons (pv 1) pa_nil)))
        (pg_tup rfl (pgs_cons (pg_name (i := 2) scCi.nd rfl (Or.inl rfl)) (pgs_cons (pg_name (i := 3) scCi.nd rfl (Or.inl rfl)) (pgs_cons (pg_name (i := 4) scCi.nd rfl (Or.inl rfl)) pgs_nil))))
        (pss_one (ps_expr (pe_meth (pv 0) T.cl mT GT hr2 bT .nil pass0 (pa_cons (pe_tup (pa_cons pe_str (pa_cons (pv 2) (pa_cons (pv 3) (pa_cons (pv 4) pa_nil))))) (pa_cons pe_str (pa_cons (pe_tup pa_nil) pa_nil)))))))))))), ?_⟩
    obtain ⟨wdx, wta, wfa, hwb, wr1, wr2⟩ := id W0
    have pw : p ≠ wb := fun z => by
      rw [z, hwb] at hp
      have := HO.ins.inj (Option.some.inj hp)
      exact absurd this.2.2 (fun z => by unfold wflds putF at z; cases z)
    -- many
    refine fun N1 c1 => ⟨_, rfl, wb, CW, wdx, _, _, rfl, hwb, TC.cl, TC.nM, w_many _ _ _ _, _, rfl, p, C, dx, _, rfl, hp, T.cl, T.nM, by show 0 < 1000; decide, c1 _ _ ?_⟩
    have kp : ∀ {Hx : Hp} {fs : List (Str × V)} {o : HO}, Hx p = some (.ins C dx fs) → Keep p Hx (upd Hx p o) := fun {Hx fs o} e b o' e' ne => by rw [upd_ne ne]; exact e'
    have k1 : Keep p H (upd H p (.ins C dx (putF "many" (.int (n : Int)) []))) := kp hp
    have p1 : upd H p (.ins C dx (putF "many" (.int (n : Int)) [])) p = some (.ins C dx (putF "many" (.int (n : Int)) [])) := upd_same
    generalize upd H p (.ins C dx (putF "many" (.int (n : Int)) [])) = H1 at *
    clear c1 N1
    have W1 : WebAt CW H1 wb (n : Int) la rT rF := ⟨wdx, wta, wfa, k1 _ _ hwb (Ne.symm pw), by
      obtain ⟨ps, R⟩ := wr1
      exact ⟨ps, k1 _ _ R.1 (ne_of R.1 hp (fun z => nomatch z)), paired_imp R.2 fun _ _ e => k1 _ _ e (ne_of e hp (fun z => nomatch z))⟩, by
      obtain ⟨ps, R⟩ := wr2
      exact ⟨ps, k1 _ _ R.1 (ne_of R.1 hp (fun z => nomatch z)), paired_imp R.2 fun _ _ e => k1 _ _ e (ne_of e hp (fun z => nomatch z))⟩⟩
    -- by_end
    refine fun N2 c2 => ⟨_, rfl, wb, (n : Int), la, rT, rF, rfl, W1, hok, fun be H2 hbe s2 FA2 => ⟨_, rfl, p, C, dx, _, rfl, s2 _ _ p1, T.cl, T.nB, by show 1 < 1000; decide, c2 _ _ ?_⟩⟩
    have k2 : Keep p H2 (upd H2 p (.ins C dx (putF "by_end" (.ref be) (putF "many" (.int (n : Int)) [])))) := kp (s2 _ _ p1)
    have p2 : upd H2 p (.ins C dx (putF "by_end" (.ref be) (putF "many" (.int (n : Int)) []))) p = some (.ins C dx (putF "by_end" (.ref be) (putF "many" (.int (n : Int)) []))) := upd_same
    have p2' := s2 _ _ p1
    have FA3 : FallsAt (upd H2 p (.ins C dx (putF "by_end" (.ref be) (putF "many" (.int (n : Int)) [])))) be (fallsOf rF) := by
      obtain ⟨fkv, f1, f2, f3, f4⟩ := FA2.at_
      refine ⟨fkv, k2 _ _ f1 (ne_of f1 p2' (fun z => nomatch z)), f2, f3, fun e f hf => ?_⟩
      obtain ⟨pp, q1, q2⟩ := f4 e f hf
      exact ⟨pp, q1, k2 _ _ q2 (ne_of q2 p2' (fun z => nomatch z))⟩
    generalize upd H2 p (.ins C dx (putF "by_end" (.ref be) (putF "many" (.int (n : Int)) []))) = H3 at *
    clear c2 N2
    have K3 : Keep p H H3 := fun b o e ne => k2 _ _ (s2 _ _ (k1 _ _ e ne)) ne
    have free : ∀ {Hx : Hp} {b : Addr}, Keep p H Hx → Hx b = none → b ≠ p → H b = none := fun {Hx b} kk e ne => by
      cases q : H b with
      | none => rfl
      | some o => rw [kk _ _ q ne] at e; cases e
    have beH : H be = none := free k1 hbe (Ne.symm (ne_of_none p1 hbe))
    -- rows
    refine fun N3 c3 => ⟨Nat.zero_le _, fun rl hrl => ⟨_, rfl, p, C, dx, _, rfl, same_new hrl _ _ p2, T.cl, T.nR, by show 2 < 1000; decide, c3 _ _ ?_⟩⟩
    have s4 := same_new (o := .lst []) hrl
    have r4 : upd H3 rl (.lst []) rl = some (.lst []) := upd_same
    have FA4 := FA3.same s4
    have p4 := s4 _ _ p2
    generalize upd H3 rl (.lst []) = H4 at *
    have prl : p ≠ rl := ne_of_none p2 hrl
    have rlH : H rl = none := free K3 hrl (Ne.symm prl)
    have k5 : Keep p H4 (upd H4 p (.ins C dx (putF "rows" (.ref rl) (putF "by_end" (.ref be) (putF "many" (.int (n : Int)) []))))) := kp p4
    have p5 : upd H4 p (.ins C dx (putF "rows" (.ref rl) (putF "by_end" (.ref be) (putF "many" (.int (n : Int)) [])))) p = some (.ins C dx (putF "rows" (.ref rl) (putF "by_end" (.ref be) (putF "many" (.int (n : Int)) [])))) := upd_same
    have r5 := k5 _ _ r4 (Ne.symm prl)
    generalize upd H4 p (.ins C dx (putF "rows" (.ref rl) (putF "by_end" (.ref be) (putF "many" (.int (n : Int)) [])))) = H5 at *
    clear c3 N3
    have K5 : Keep p H H5 := fun b o e ne => k5 _ _ (s4 _ _ (K3 _ _ e ne)) ne
    -- best
    refine fun N4 c4 bd hbd => ⟨_, rfl, p, C, dx, _, rfl, same_new hbd _ _ p5, T.cl, T.nE, by show 3 < 1000; decide, c4 _ _ ?_⟩
    have s6 := same_new (o := .dT []) hbd
    have b6 : upd H5 bd (.dT []) bd = some (.dT []) := upd_same
    have p6 := s6 _ _ p5
    have r6 := s6 _ _ r5
    generalize upd H5 bd (.dT []) = H6 at *
    have pbd : p ≠ bd := ne_of_none p5 hbd
    have bdH : H bd = none := free K5 hbd (Ne.symm pbd)
    have k7 : Keep p H6 (upd H6 p (.ins C dx (putF "best" (.ref bd) (putF "rows" (.ref rl) (putF "by_end" (.ref be) (putF "many" (.int (n : Int)) [])))))) := kp p6
    have p7 : upd H6 p (.ins C dx (putF "best" (.ref bd) (putF "rows" (.ref rl) (putF "by_end" (.ref be) (putF "many" (.int (n : Int)) []))))) p = some (.ins C dx (putF "best" (.ref bd) (putF "rows" (.ref rl) (putF "by_end" (.ref be) (putF "many" (.int (n : Int)) []))))) := upd_same
    have r7 := k7 _ _ r6 (Ne.symm prl)
    have b7 := k7 _ _ b6 (Ne.symm pbd)
    generalize upd H6 p (.ins C dx (putF "best" (.ref bd) (putF "rows" (.ref rl) (putF "by_end" (.ref be) (putF "many" (.int (n : Int)) []))))) = H7 at *
    clear c4 N4
    -- bar
    refine fun N5 c5 => ⟨_, rfl, p, C, dx, _, rfl, p7, T.cl, T.nX, by show 4 < 1000; decide, c5 _ _ ?_⟩
    rw [c_all]
    have k8 : Keep p H7 (upd H7 p (.ins C dx (cflds n be rl bd .non))) := kp p7
    have p8 : upd H7 p (.ins C dx (cflds n be rl bd .non)) p = some (.ins C dx (cflds n be rl bd .non)) := upd_same
    have r8 := k8 _ _ r7 (Ne.symm prl)
    have b8 := k8 _ _ b7 (Ne.symm pbd)
    generalize upd H7 p (.ins C dx (cflds n be rl bd .non)) = H8 at *
    clear c5 N5
    have k38 : Keep p H4 H8 := fun b o e ne => k8 _ _ (k7 _ _ (s6 _ _ (k5 _ _ e ne)) ne) ne
    have K8 : Keep p H H8 := fun b o e ne => k38 _ _ (s4 _ _ (K3 _ _ e ne)) ne
    have FA8 : FallsAt H8 be (fallsOf rF) := by
      obtain ⟨fkv, f1, f2, f3, f4⟩ := FA4.at_
      refine ⟨fkv, k38 _ _ f1 (ne_of f1 p4 (fun z => nomatch z)), f2, f3, fun e f hf => ?_⟩
      obtain ⟨pp, q1, q2⟩ := f4 e f hf
      exact ⟨pp, q1, k38 _ _ q2 (ne_of q2 p4 (fun z => nomatch z))⟩
    have C8 : Clo C H8 p be rl bd n (fallsOf rF) MU.empty := ⟨⟨dx, p8⟩, FA8, ⟨[], r8, .nil⟩, ⟨[], b8, ⟨Nat.le_refl _, fun _ z => nomatch z⟩, fun k => rfl⟩⟩
    have W8 : WebAt CW H8 wb (n : Int) la rT rF := ⟨wdx, wta, wfa, K8 _ _ hwb (Ne.symm pw), by
      obtain ⟨ps, R⟩ := wr1
      exact ⟨ps, K8 _ _ R.1 (ne_of R.1 hp (fun z => nomatch z)), paired_imp R.2 fun _ _ e => K8 _ _ e (ne_of e hp (fun z => nomatch z))⟩, by
      obtain ⟨ps, R⟩ := wr2
      exact ⟨ps, K8 _ _ R.1 (ne_of R.1 hp (fun z => nomatch z)), paired_imp R.2 fun _ _ e => K8 _ _ e (ne_of e hp (fun z => nomatch z))⟩⟩
    -- what is told
    refine ⟨_, rfl, wb, (n : Int), la, rT, rF, rfl, W8, hok, fun l H9 hl s9 R9 => ?_⟩
    obtain ⟨qs, R⟩ := R9
    have C9 := C8.same s9
    obtain ⟨n1, n2, n3⟩ := C8.apart hl
    have idx := hok.idxN
    have sh := allB_short hok
    refine ⟨l, rfl, ⟨_, SqL.of R.1⟩, ?_⟩
    have stays : ∀ {H' : Hp}, KeepC p rl bd H9 H' → H' l = some (.lst (qs.map V.ref)) := fun kk => kk _ _ R.1 n1 n2 n3
    obtain ⟨dx9, p9⟩ := C9.ins
    obtain ⟨q9, r9, _⟩ := C9.rows
    obtain ⟨kv9, b9, _⟩ := C9.best
    have tups : ∀ {H' : Hp} {b : Addr} {xs : List V}, KeepC p rl bd H9 H' → H9 b = some (.tup xs) → H' b = some (.tup xs) := fun kk e => kk _ _ e (ne_of e p9 (fun z => nomatch z)) (ne_of e r9 (fun z => nomatch z)) (ne_of e b9 (fun z => nomatch z))
    generalize hB : allB (n : Int) la rT rF = B at *
    refine for_list (K := K) (a := l) (xs := qs.map V.ref) (fun i σ' H' => ∃ v2 v3 v4, σ' = [some (.ref p), some (.ref wb), v2, v3, v4] ∧ Clo C H' p be rl bd n (fallsOf rF) (MU.tells ((B.take i).map tieW) MU.empty) ∧ KeepC p rl bd H9 H') ⟨none, none, none, rfl, C9, KeepC.of (Same.refl _)⟩ ?_ ?_ ?_
    · rintro i σ' H' _ ⟨v2, v3, v4, rfl, _, kk⟩
      exact SqL.of (stays kk)
    · rintro i y σ' H10 hy ⟨v2, v3, v4, rfl, C10, kk⟩
      obtain ⟨q, r, rfl, hq, hr', hqt⟩ := R.get hy
      obtain ⟨a, b, v, rfl, x1, x2, x3, x4, x5⟩ := idx r (List.mem_of_getElem? hr')
      have hi : i < B.length := (List.getElem?_eq_some_iff.mp hr').1
      refine ⟨q, _, rfl, SqT.of (tups kk hqt), rfl, _, _, rfl, _, _, rfl, _, _, rfl, rfl, ?_⟩
      obtain ⟨dx10, p10⟩ := C10.ins
      have gi := MU.tells_good ((B.take i).map tieW) MU.empty (MU.empty_good (n := n)) (toldW fun r hr => idx r (List.mem_of_mem_take hr))
      have li := MU.tells_len ((B.take i).map tieW) MU.empty
      rw [List.length_map, List.length_take] at li
      have li : (MU.tells ((B.take i).map tieW) MU.empty).rows.length ≤ 0 + min i B.length := li
      have et : MU.tells ((B.take (i + 1)).map tieW) MU.empty = MU.take (MU.tells ((B.take i).map tieW) MU.empty) (tieW [a, b, v]) .told [] := by
        unfold MU.tells
        rw [List.take_succ, hr', List.map_append, List.foldl_append]
        rfl
      rw [et]
      generalize MU.tells ((B.take i).map tieW) MU.empty = sti at *
      refine ⟨_, rfl, p, dx10, _, rfl, p10, c_no (by decide +kernel) (by decide +kernel) (by decide +kernel) (by decide +kernel) (by decide +kernel), _, rfl, _, rfl, _, rfl, by show 4 ≤ sizeLine; decide, fun t ht => ⟨Nat.zero_le _, fun u hu' => ?_⟩⟩
      have s11 := same_new (o := .tup [V.str "tie", V.int a, V.int b, V.int v]) ht
      have w11 : WhatAt (upd H10 t (.tup [V.str "tie", V.int a, V.int b, V.int v])) t (tieW [a, b, v]) := by
        unfold WhatAt
        rw [upd_same]
        show some (HO.tup [V.str "tie", V.int a, V.int b, V.int v]) = some (HO.tup [V.str "tie", V.int ((a.toNat : Nat) : Int), V.int ((b.toNat : Nat) : Int), V.int v])
        rw [show ((a.toNat : Nat) : Int) = a by omega, show ((b.toNat : Nat) : Int) = b by omega]
      generalize upd H10 t (.tup [V.str "tie", V.int a, V.int b, V.int v]) = H11 at *
      have s12 := same_new (o := .tup []) hu'
      refine ⟨p, be, rl, bd, t, u, n, _, _, tieW [a, b, v], .told, [], rfl, (C10.same s11).same s12, gi, w11.same s12, upd_same, by omega, fun H13 C13 k13 => ⟨_, _, _, rfl, C13, ?_⟩⟩
      exact (kk.trans (KeepC.of (s11.trans s12))).trans k13
    · rintro σ' H10 ⟨v2, v3, v4, rfl, C10, kk⟩
      have hall : B.take (qs.map V.ref).length = B := by rw [List.length_map, R.len]; exact List.take_length
      rw [hall] at C10
      refine k H10 be rl bd ?_ beH rlH bdH fun b o e ne => kk _ _ (s9 _ _ (K8 _ _ e ne)) ne (ne_of_none e rlH) (ne_of_none e bdH)
      unfold begun
      rw [hB]
      exact C10
end
end
end W

set_option Elab.async false
set_option linter.all false
set_option maxRecDepth 100000
set_option maxHeartbeats 1000000
/-! Going through the keys of a dict whose keys are tuples. -/
namespace L2
open PySem PySem.Spec PyProof.Rows
section
variable {prog : Program} {w : World} {A : Around} {E : Value → Shared → Prop} {s : Shared}
theorem raw_iter {d : Addr} {o : Obj} {es : Array DictEntry} {ep : Nat} {Q : Value → Shared → Prop} (hd : (d == sysModules) = false) (ho : s.heap.get? d = some o) (hc : o.ExactDict) (hdat : o.data = .dict es ep)
    (hQ : Q (.ref s.heap.objs.size) { s with heap := s.heap.push { cls := .type "dict_keyiterator", data := .fields #[.ref d, .int 0 0, .int es.size 0, .int ep 0] } }) :
    wpAny (model prog w) A (pyIter (.ref d)) Q E s := by
  have hT : s.TypeIs (.ref d) "dict" := ⟨o, ho, hc.1⟩
  refine wpAny_pyIter_slot hT F.slot_dict_iter (wpAny_call_entry F.slot_dict_iter hT F.entry_dict_iter ?_ (F.args_dict_iter_1 _))
  unfold Builtin.«dict.__iter__» Builtin.Dict.dictSlotNone
  refine wpAny_bind (wpAny_bind (wpAny_notOrdered_dict hT (show wpAny _ _ (pure (Value.ref d)) _ _ s from wpAny_pure ?_)))
  refine (show wpAny _ _ (Builtin.Dict.showsAll d >>= _) _ _ s from ?_)
  unfold Builtin.Dict.showsAll
  rw [if_neg (by rw [hd]; exact Bool.false_ne_true)]
  refine wpAny_bind (wpAny_pure (wpAny_bind (wpAny_dictEntries ho hdat (wpAny_bind (wpAny_dictEpoch ho hdat (wpAny_bind (wpAny_newObj_type (wpAny_pure ⟨_, rfl, "dict_keyiterator", _, ⟨_, Heap.get?_push_size _ rfl, rfl⟩, F.slot_dict_keyiterator_next.lookup, ?_⟩))))))))
  simpa [rawInt] using hQ

theorem raw_next {it d : Addr} {i ep : Nat} {od : Obj} {es : Array DictEntry} {e : DictEntry} {Q : Option Value → Shared → Prop} (hit : s.heap.IsKeyIter it d i es.size ep) (hod : s.heap.get? d = some od) (hdd : od.data = .dict es ep) (hx : es[i]? = some e)
    (hQ : ∀ h', h'.IsKeyIter it d (i + 1) es.size ep → Heap.SameBut it s.heap h' → Q (some e.key) { s with heap := h' }) : wpAny (model prog w) A (pyNext (.ref it)) Q E s := by
  obtain ⟨o, ho, hc, hd⟩ := id hit
  unfold pyNext
  refine wpAny_bind (wpAny_attempt (wpAny_callSpecial?_slot (name := Str.ofString "__next__") hit.typeIs F.slot_dict_keyiterator_next (wpAny_call_entry F.slot_dict_keyiterator_next hit.typeIs F.entry_dict_keyiterator_next ?_ (F.args_dict_keyiterator_next_1 _))))
  refine wpAny_bind (wpAny_pure (wpAny_bind (wpAny_bind ?_)))
  first | refine wpAny_bind (wpAny_typeNameOfWhole_keyiter hit.typeIs (wpAny_pure (wpAny_bind (wpAny_fieldsOf ho hd ?_)))) | refine wpAny_bind (wpAny_typeNameOf_keyiter hit.typeIs (wpAny_pure (wpAny_bind (wpAny_fieldsOf ho hd ?_))))
  simp only [show Builtin.Dict_items.ownsTuple "dict_keyiterator" = false by decide, Bool.false_eq_true, if_false]
  refine (show wpAny _ _ (if (Value.ref d == Value.none) = true then _ else _) _ _ s from ?_)
  rw [if_neg (show ¬ ((Value.ref d == Value.none) = true) from Bool.false_ne_true)]
  refine wpAny_bind (wpAny_pure (wpAny_bind (wpAny_dictEntries hod hdd ?_)))
  rw [if_neg (by simp)]
  refine wpAny_bind (wpAny_pure (wpAny_bind (wpAny_dictEpoch hod hdd ?_)))
  rw [if_neg (by simp)]
  refine wpAny_pure ?_
  simp only [show ¬ ((i : Int) < 0) from by omega, if_false, Int.toNat_natCast, hx]
  refine wpAny_bind ?_
  first | refine wpAny_bind (wpAny_typeNameOfWhole_keyiter hit.typeIs (wpAny_pure (wpAny_bind (wpAny_isOneOf_keyiter hit.typeIs ?_)))) | refine wpAny_bind (wpAny_typeNameOf_keyiter hit.typeIs (wpAny_pure (wpAny_bind (wpAny_isOneOf_keyiter hit.typeIs ?_))))
  refine (show wpAny _ _ (setField (.ref it) 1 (rawInt ((i : Int) + 1)) >>= _) _ _ s from wpAny_bind (wpAny_setField ho hd (by simp) ?_))
  have hit' : (s.heap.update it (Obj.mapFields (·.setIfInBounds 1 (rawInt ((i : Int) + 1))))).IsKeyIter it d (i + 1) es.size ep :=
    ⟨_, Heap.get?_update_self _ ho (Obj.isFreed_of_fields (Obj.data_mapFields hd _)), (Obj.cls_mapFields ..).trans hc, by rw [Obj.data_mapFields hd]; simp [rawInt]⟩
  refine wpAny_bind (wpAny_holding (wpAny_bind (wpAny_isOneOf_keyiter (s := { s with heap := s.heap.update it (Obj.mapFields (·.setIfInBounds 1 (rawInt ((i : Int) + 1)))) }) hit'.typeIs (show wpAny _ _ (pure e.key) _ _ _ from wpAny_pure (wpAny_pure ⟨_, rfl, wpAny_pure (hQ _ hit' (Heap.SameBut.update ..))⟩)))))

theorem raw_end {it d : Addr} {i ep : Nat} {od : Obj} {es : Array DictEntry} {Q : Option Value → Shared → Prop} (q : Hd A s.heap) (hit : s.heap.IsKeyIter it d i es.size ep) (hod : s.heap.get? d = some od) (hdd : od.data = .dict es ep) (hx : es.size ≤ i)
    (hQ : ∀ h', Heap.ExtBut it s.heap h' → Q none { s with heap := h' }) : wpAny (model prog w) A (pyNext (.ref it)) Q E s := by
  obtain ⟨o, ho, hc, hd⟩ := id hit
  unfold pyNext
  refine wpAny_bind (wpAny_attempt (wpAny_callSpecial?_slot (name := Str.ofString "__next__") hit.typeIs F.slot_dict_keyiterator_next (wpAny_call_entry F.slot_dict_keyiterator_next hit.typeIs F.entry_dict_keyiterator_next ?_ (F.args_dict_keyiterator_next_1 _))))
  refine wpAny_bind (wpAny_pure (wpAny_bind (wpAny_bind ?_)))
  first | refine wpAny_bind (wpAny_typeNameOfWhole_keyiter hit.typeIs (wpAny_pure (wpAny_bind (wpAny_fieldsOf ho hd ?_)))) | refine wpAny_bind (wpAny_typeNameOf_keyiter hit.typeIs (wpAny_pure (wpAny_bind (wpAny_fieldsOf ho hd ?_))))
  simp only [show Builtin.Dict_items.ownsTuple "dict_keyiterator" = false by decide, Bool.false_eq_true, if_false]
  refine (show wpAny _ _ (if (Value.ref d == Value.none) = true then _ else _) _ _ s from ?_)
  rw [if_neg (show ¬ ((Value.ref d == Value.none) = true) from Bool.false_ne_true)]
  refine wpAny_bind (wpAny_pure (wpAny_bind (wpAny_dictEntries hod hdd ?_)))
  rw [if_neg (by simp)]
  refine wpAny_bind (wpAny_pure (wpAny_bind (wpAny_dictEpoch hod hdd ?_)))
  rw [if_neg (by simp)]
  refine wpAny_pure ?_
  simp only [show ¬ ((i : Int) < 0) from by omega, if_false, Int.toNat_natCast, Array.getElem?_eq_none hx]
  refine wpAny_bind ?_
  first | refine wpAny_bind (wpAny_typeNameOfWhole_keyiter hit.typeIs (wpAny_pure ?_)) | refine wpAny_bind (wpAny_typeNameOf_keyiter hit.typeIs (wpAny_pure ?_))
  refine (show wpAny _ _ (setField (.ref it) 0 .none >>= _) _ _ s from wpAny_bind (wpAny_setField ho hd (by simp) ?_))
  have other : ∀ b o, b ≠ it → s.heap.get? b = some o → (s.heap.update it (Obj.mapFields (·.setIfInBounds 0 Value.none))).get? b = some o := fun b o hb e => (Heap.get?_update_other _ _ (Ne.symm hb)).trans e
  refine stop_hd (A := A.in1) (s := { s with heap := s.heap.update it (Obj.mapFields (·.setIfInBounds 0 Value.none)) }) (Hd.keep (A := A.in1) q fun b C dx t tb e => other b _ (fun z => ?_) e) fun e h' kk te => ?_
  · rw [z, ho] at e
    cases e
    cases hc
  · refine wpAny_bind (wpAny_mono (ends_hd (s0 := s) (fun b o hb z => kk b o (other b o hb z)) te hQ) (fun b s' z => ?_) fun _ _ z => z)
    obtain ⟨rfl, z⟩ := z
    exact wpAny_pure z
end
end L2

set_option Elab.async false
set_option linter.all false
set_option maxRecDepth 100000
set_option maxHeartbeats 1000000
namespace L2
open PySem PySem.Spec PyProof.Rows
section
variable {X : Cx} {pins : List (Addr × Obj)} {σ : St} {H : Hp} {s : Shared} {a : Addr} {o : Obj} {u : HO}
theorem Inv.freeze (I : Inv X pins σ H s) (hu : H a = some u) (mu : Mut (some u)) (ho : s.heap.get? a = some o) : Inv X pins σ (upd H a (.frz o u)) s := by
  have ntup : ∀ b xs, H b = some (.tup xs) → b ≠ a := fun b xs r z => by subst z; rw [hu] at r; cases r; exact mu
  have nown : ∀ b y, H b = some (.own y) → b ≠ a := fun b y r z => by subst z; rw [hu] at r; cases r; exact mu
  exact I.write (h' := s.heap) (t' := s.toks) (x := a) (e := a) (by rw [hu]; exact mu) (.inl rfl) (fun b v _ e => e) ⟨o, ho⟩
    ⟨ho, (I.hok a u hu).stay (fun b v _ e => e) (fun b e => by rw [upd_ne (nown b a e)]; exact e) fun b xs e => by rw [upd_ne (ntup b xs e)]; exact e⟩
theorem Inv.thaw (I : Inv X pins σ H s) (hu : H a = some (.frz o u)) (h0 : ∀ o u, X.H₀ a ≠ some (.frz o u)) : Inv X pins σ (upd H a u) s := by
  have ne : ∀ {b : Addr} {x : Option HO}, H b = x → (∀ o u, x ≠ some (.frz o u)) → b ≠ a := fun {b x} e hx z => by subst z; rw [hu] at e; exact hx _ _ e.symm
  have st : ∀ b v, ObjOk X.prog X.w H s.heap b v → ObjOk X.prog X.w (upd H a u) s.heap b v := fun b v x =>
    x.stay (fun c v _ e => e) (fun c e => by rw [upd_ne (ne e fun _ _ z => nomatch z)]; exact e) fun c xs e => by rw [upd_ne (ne e fun _ _ z => nomatch z)]; exact e
  refine ⟨I.ok, I.os, I.bare, ⟨I.base.keep, I.base.slot, fun b v q n hx => ?_, I.base.there, fun b xs q => ?_, fun b ob v q => ?_, fun b ps q => ?_⟩, I.loc, I.cell, ?_, fun x c e => ?_, fun p hp => ?_, fun b v q => ?_, I.len⟩
  · have e := I.base.free b v q n hx
    rw [upd_ne (ne e fun _ _ z => nomatch z)]; exact e
  · have e := I.base.tups b xs q
    rw [upd_ne (ne e fun _ _ z => nomatch z)]; exact e
  · have e := I.base.frzs b ob v q
    rw [upd_ne (fun z => by subst z; exact h0 ob v q)]; exact e
  · obtain ⟨more, e⟩ := I.base.tbls b ps q
    exact ⟨more, by rw [upd_ne (ne e fun _ _ z => nomatch z)]; exact e⟩
  · rw [upd_ne (ne I.free fun _ _ z => nomatch z)]; exact I.free
  · rw [upd_ne (ne (I.freeC x c e) fun _ _ z => nomatch z)]; exact I.freeC x c e
  · obtain ⟨p1, p2, p3⟩ := I.pin p hp
    exact ⟨p1, by rw [upd_ne (ne p2 fun _ _ z => nomatch z)]; exact p2, p3⟩
  · by_cases hb : b = a
    · subst hb
      rw [upd_same] at q
      cases q
      exact st b u (I.hok b _ hu).2
    · rw [upd_ne hb] at q
      exact st b v (I.hok b v q)
end
noncomputable def tThaw (H₀ : Hp) (t : TE) : TE := fun σ H Q => t σ H fun x H1 => ∃ a o u, H1 a = some (.frz o u) ∧ (∀ o u, H₀ a ≠ some (.frz o u)) ∧ Q x (upd H1 a u)
theorem pe_thaw {X : Cx} {e : Expr} {t : TE} (he : PE X e t) : PE X e (tThaw X.H₀ t) := by
  intro pins s σ H Q I h
  refine thn (he pins s σ H _ I h) fun v s1 zz => ?_
  obtain ⟨x, H1, I1, r1, q1⟩ := zz
  obtain ⟨a, o, u, e1, e2, q⟩ := q1
  exact ⟨x, _, I1.thaw e1 e2, r1, q⟩

noncomputable def Itk (a : Addr) (o : Obj) (kvs : List (List Key × V)) : It :=
  ⟨fun i H => H a = some (.frz o (.dT kvs)) ∧ i < kvs.length, fun i H x H' => H' = H ∧ ∃ q k v, x = .ref q ∧ kvs[i]? = some (k, v) ∧ H q = some (.tup (k.map kV)), fun i H => H a = some (.frz o (.dT kvs)) ∧ kvs.length ≤ i⟩

theorem paired_at {α β : Type} {F : α → β → Prop} {l : List α} {m : List β} (h : Paired F l m) {i : Nat} {x : α} (hx : l[i]? = some x) : ∃ y, m[i]? = some y ∧ F x y := by
  induction h generalizing i with
  | nil => simp at hx
  | cons r _ ih =>
    cases i with
    | zero => simp at hx; subst hx; exact ⟨_, rfl, r⟩
    | succ i => simpa using ih (by simpa using hx)

theorem paired_keys {α β γ : Type} {F : α × β → α × γ → Prop} : ∀ {l : List (α × β)} {m : List (α × γ)}, Paired F l m → (∀ p q, F p q → p.1 = q.1) → l.map (·.1) = m.map (·.1)
  | _, _, .nil, _ => rfl
  | _, _, .cons r t, h => by rw [List.map_cons, List.map_cons, paired_keys t h, h _ _ r]
theorem frz_dict {X : Cx} {pins : List (Addr × Obj)} {σ : St} {H : Hp} {s : Shared} {a : Addr} {o : Obj} {kvs : List (List Key × V)} {es : Array DictEntry} {ep : Nat} (I : Inv X pins σ H s) (h : H a = some (.frz o (.dT kvs))) (hd : o.data = .dict es ep) :
    s.heap.get? a = some o ∧ es.size = kvs.length ∧ ∀ (i : Nat) (k : List Key) (v : V), kvs[i]? = some (k, v) → ∃ (e : DictEntry) (q : Addr), es[i]? = some e ∧ e.key = Value.ref q ∧ H q = some (.tup (k.map kV)) := by
  obtain ⟨ho, _, _, xs, hp, o', es', ep', ho', hc, hd', he, hn⟩ := (show ObjOk X.prog X.w H s.heap a (.frz o (.dT kvs)) from I.hok a _ h)
  rw [ho] at ho'
  cases ho'
  rw [hd] at hd'
  cases hd'
  refine ⟨ho, ?_, fun i k v hx => ?_⟩
  · rw [← Array.length_toList, he, List.length_map, Paired.length hp]
  · obtain ⟨x, hx', r1, r2, r3⟩ := paired_at hp hx
    refine ⟨_, x.2.1, by rw [← Array.getElem?_toList, he, List.getElem?_map, hx']; rfl, rfl, ?_⟩
    exact r2

theorem turn_keys {P : Program} {w : World} {K : PySem.W.Frag} {tg : Expr} (a it : Addr) (o : Obj) (kvs : List (List Key × V)) {es : Array DictEntry} {ep : Nat} (hd : o.data = .dict es ep) :
    Turn P w K tg (Itk a o kvs) [it] it (fun i h => h.IsKeyIter it a i es.size ep) where
  mem := by simp
  obj := fun i h st b hb => by
    have e : b = it := by simpa using hb
    subst e
    obtain ⟨o, e, c, d⟩ := st
    exact ⟨o, e, fun v z => by rw [d] at z; cases z⟩
  keep := fun i h h' st k => st.at fun o e => k it (by simp) o e
  item := by
    intro X hP hw hK hc i pins s σ H E I hf st hg
    subst hP hw hK
    obtain ⟨hfz, hi⟩ := hg
    obtain ⟨ho, hsz, hat⟩ := frz_dict I hfz hd
    obtain ⟨⟨k, v⟩, hx⟩ : ∃ p, kvs[i]? = some p := ⟨kvs[i], by simp [hi]⟩
    obtain ⟨e, q, he, hk, hq⟩ := hat i k v hx
    obtain ⟨f0, f1, f2, f3, f4, f5⟩ := hf it (by simp)
    refine raw_next st ho hd he fun h' st' sb => ?_
    have I1 : Inv X pins σ H { s with heap := h' } := I.turned (t' := s.toks) (fun b o hb e => (sb.2 b hb).trans e) f0 f1 f3 f4 f5
    rw [hk]
    exact ⟨_, rfl, letGo_keyiter (s' := { s with heap := h' }) st' ⟨.ref q, H, I1, rfl, ⟨rfl, q, k, v, rfl, hx, hq⟩, st', fun b hb => (hf b hb).1⟩⟩
  done := by
    intro X hP hw hK hc i pins s σ H E I hf st hg
    subst hP hw hK
    obtain ⟨hfz, hi⟩ := hg
    obtain ⟨ho, hsz, _⟩ := frz_dict I hfz hd
    obtain ⟨f0, f1, f2, f3, f4, f5⟩ := hf it (by simp)
    exact raw_end (hd_of hc I) st ho hd (by omega) fun h' eb => ⟨rfl, I.turned (t' := s.toks) (fun b o hb e => eb b o hb e) f0 f1 f3 f4 f5⟩
  self := fun _ _ _ _ _ st h => wpAny_pyIter_keyiter st h
section
variable {X : Cx} {tg : Expr}
noncomputable def iKeys (td : TE) : TI := fun σ H R => td σ H fun x H1 => ∃ a kvs, x = .ref a ∧ H1 a = some (.dT kvs) ∧ ((kvs.map (·.1)).Nodup → ∀ o, R (Itk a o kvs) (upd H1 a (.frz o (.dT kvs))))
theorem pi_keys {d : Expr} {td : TE} (hl : PE X d td) : PI X tg d (iKeys td) := by
  intro pins s σ H R I h
  refine thn (hl pins s σ H _ I h) fun v s1 zz => ?_
  obtain ⟨x, H1, I1, r1, q1⟩ := zz
  obtain ⟨a, kvs, e, hq, q⟩ := q1
  subst e
  cases r1
  obtain ⟨_, hs, xs, hp, o, es, ep, ho, hc, hd, he, hn⟩ := (show ObjOk X.prog X.w H1 s1.heap a (.dT kvs) from I1.hok a _ hq)
  have hnd : (kvs.map (·.1)).Nodup := by rw [paired_keys hp fun _ _ z => z.1]; exact hn
  refine raw_iter hs ho hc hd ?_
  have I2 := I1.freeze hq trivial ho
  refine ⟨s1.heap.objs.size, [s1.heap.objs.size], _, _, _, rfl, I2.kept (t' := s1.toks) fun b o e => Heap.get?_push_of_some _ e, turn_keys a _ o kvs hd, ⟨_, Heap.get?_push_size _ rfl, rfl, rfl⟩, fun b hb => ?_, q hnd o⟩
  have e : b = s1.heap.objs.size := by simpa using hb
  subst e
  exact I2.fpOk (Nat.le_refl _) (I2.hok.fresh (Nat.le_refl _))
end
theorem comp_keys {js : List (Option Nat)} {g : TG} {tc : TT} {te : TE} {σ : St} {H : Hp} {D : Addr} {Q : VK} {a : Addr} {o : Obj} {kvs : List (List Key × V)} (Pv : Nat → St → Hp → Prop) (h0 : Pv 0 (startC js σ) (upd H D (.lst [])))
    (hl : ∀ i σ' H', i ≤ kvs.length → Pv i σ' H' → H' a = some (.frz o (.dT kvs)))
    (hs : ∀ i k v q σ' H', kvs[i]? = some (k, v) → H' q = some (.tup (k.map kV)) → Pv i σ' H' → g (.ref q) σ' H' fun σ3 H3 => tc σ3 H3 fun ok H4 => if ok = true then te σ3 H4 fun y H5 => ∃ ys, H5 D = some (.lst ys) ∧ ys.length < sizeLine ∧ Pv (i + 1) σ3 (upd H5 D (.lst (ys ++ [y]))) else Pv (i + 1) σ3 H4)
    (hd : ∀ σ' H', Pv kvs.length σ' H' → Q (.ref D) H') :
    CompRun js g tc te σ Q (Itk a o kvs) H D := by
  refine ⟨fun i m σ H => m = kvs.length - i ∧ i ≤ kvs.length ∧ Pv i σ H, ⟨kvs.length, by simp, Nat.zero_le _, h0⟩, ?_⟩
  rintro i m σ' H' ⟨rfl, hi, p⟩
  by_cases hlt : i < kvs.length
  · refine .inr ⟨⟨hl i σ' H' hi p, hlt⟩, Pv (i + 1), fun σ2 H2 p' => ⟨kvs.length - (i + 1), by omega, rfl, hlt, p'⟩, fun x H2 y => ?_⟩
    obtain ⟨e, q, k, v, rfl, hx, hq⟩ := y
    subst e
    exact hs i k v q σ' _ hx hq p
  · have e : i = kvs.length := by omega
    subst e
    exact .inl ⟨⟨hl _ σ' H' hi p, Nat.le_refl _⟩, hd σ' H' p⟩
end L2

set_option linter.all false
namespace TS
open PySem PyProof PyProof.Rows

noncomputable def gal : Bool → Keyed → Array Keyed → Nat → Nat → Nat → StateT SortSt Sem (Option Nat) := sortPriv% PySem.Builtin.gallop

class SK where
  num : Keyed → Int
  ok : Keyed → Prop
  kind : SortKind
noncomputable def N [SK] (p : Keyed) : Int := SK.num p
noncomputable def isN [SK] (p : Keyed) : Prop := SK.ok p
noncomputable def K [SK] (xs : Array Keyed) (i : Nat) : Int := match xs[i]? with
  | some p => N p
  | none => 0
class LtOk [SK] (prog : Program) (w : World) (A : Around) (E : Value → Shared → Prop) (s : Shared) : Prop where
  lt : ∀ {st : SortSt} {p q : Keyed} {Q : Option Bool → SortSt → Prop}, kindOf st = SK.kind → isN p → isN q → Q (some (decide (N p < N q))) st → wpS (model prog w) A E s (lt' p q) Q st

section
variable [SK]
theorem K_congr {xs ys : Array Keyed} {i j : Nat} (h : xs[i]? = ys[j]?) : K xs i = K ys j := by unfold K; rw [h]
theorem K_bubble {xs : Array Keyed} {src d : Nat} (hs : src < xs.size) (hd : d ≤ src) (k : Nat) :
    K (bubble xs src d) k = if k = src - d then K xs src else if src - d < k ∧ k ≤ src then K xs (k - 1) else K xs k := by
  have e := getElem?_bubble hs d hd k
  by_cases h1 : k = src - d
  · rw [if_pos h1] at *; exact K_congr e
  rw [if_neg h1] at *
  by_cases h2 : src - d < k ∧ k ≤ src
  · rw [if_pos h2] at *; exact K_congr e
  · rw [if_neg h2] at *; exact K_congr e
theorem K_mirror {xs : Array Keyed} {i j : Nat} (hj : j ≤ xs.size) (k : Nat) : K (mirror xs i j ((j - i) / 2)) k = if i ≤ k ∧ k < j then K xs (i + j - 1 - k) else K xs k := by
  have e := getElem?_mirror_all (i := i) hj k
  by_cases h1 : i ≤ k ∧ k < j
  · rw [if_pos h1] at *; exact K_congr e
  · rw [if_neg h1] at *; exact K_congr e
theorem K_mirror_equal {xs : Array Keyed} {i j : Nat} (hj : j ≤ xs.size) (he : ∀ k, i ≤ k → k < j → K xs k = K xs (j - 1)) (k : Nat) : K (mirror xs i j ((j - i) / 2)) k = K xs k := by
  rw [K_mirror hj]; split
  · rename_i h; rw [he k h.1 h.2, he (i + j - 1 - k) (by omega) (by omega)]
  · rfl
end

noncomputable def Bey (left : Bool) (kv x : Int) : Bool := if left then decide (x < kv) else !decide (kv < x)
theorem bey_mono {l : Bool} {kv x y : Int} (h : x ≤ y) (hy : Bey l kv y = true) : Bey l kv x = true := by
  unfold Bey at *; cases l <;> simp_all <;> omega
theorem bey_not {l : Bool} {kv x y : Int} (h : x ≤ y) (hy : Bey l kv x = false) : Bey l kv y = false := by
  cases e : Bey l kv y with
  | false => rfl
  | true => rw [bey_mono h e] at hy; exact hy

section
variable [SK] {prog : Program} {w : World} {A : Around} {E : Value → Shared → Prop} {s : Shared} [LtOk prog w A E s] {st : SortSt}

theorem wp_elem {a : Array Keyed} {i : Nat} {p : Keyed} {Q : Keyed → SortSt → Prop} (he : a[i]? = some p) (h : Q p st) :
    wpS (model prog w) A E s (elem' a i) Q st := by
  rw [elem'_eq, he]; exact wpS_pure h

theorem wp_lt {p q : Keyed} {Q : Option Bool → SortSt → Prop} (hk : kindOf st = SK.kind) (hp : isN p) (hq : isN q)
    (h : Q (some (decide (N p < N q))) st) : wpS (model prog w) A E s (lt' p q) Q st := LtOk.lt hk hp hq h

theorem wp_bey {l : Bool} {key p : Keyed} {a : Array Keyed} {i : Nat} {Q : Option Bool → SortSt → Prop} (hk : kindOf st = SK.kind)
    (he : a[i]? = some p) (hp : isN p) (hq : isN key) (h : Q (some (Bey l (N key) (N p))) st) :
    wpS (model prog w) A E s (do
      let x ← elem' a i
      if l = true then lt' x key else do
        let r ← lt' key x
        pure (Option.map (fun x => !x) r)) Q st := by
  refine wpS_bind (wp_elem he ?_)
  cases l
  · exact wpS_bind (wp_lt hk hq hp (wpS_pure h))
  · exact wp_lt hk hp hq h

theorem at_of {a : Array Keyed} (hI : ∀ p, p ∈ a.toList → isN p) {i : Nat} (hi : i < a.size) : ∃ p, a[i]? = some p ∧ isN p ∧ K a i = N p :=
  ⟨a[i], getElem?_pos _ i hi, hI _ (by simp), by unfold K; rw [getElem?_pos a i hi]⟩

noncomputable abbrev BSt := Option (Option Nat) × Nat × Nat

theorem wp_binloop {P : Nat → Bool} {n lo hi : Nat} {f : Nat → BSt → StateT SortSt Sem (ForInStep BSt)}
    (hP : ∀ i j, i ≤ j → j < n → P j = true → P i = true)
    (hf : ∀ x lo hi, hi ≤ n → ∀ Q : ForInStep BSt → SortSt → Prop, (hi ≤ lo → Q (.done (none, lo, hi)) st) →
      (lo < hi → P (lo + (hi - lo) / 2) = true → Q (.yield (none, lo + (hi - lo) / 2 + 1, hi)) st) →
      (lo < hi → P (lo + (hi - lo) / 2) = false → Q (.yield (none, lo, lo + (hi - lo) / 2)) st) →
      wpS (model prog w) A E s (f x (none, lo, hi)) Q st)
    (hlo : lo ≤ hi) (hhi : hi ≤ n) (h1 : ∀ i, i < lo → P i = true) (h2 : ∀ i, hi ≤ i → i < n → P i = false) :
    wpS (model prog w) A E s (forIn [:n] ((none, lo, hi) : BSt) f)
      (fun c st' => st' = st ∧ ∃ k, c = (none, k, k) ∧ k ≤ n ∧ (∀ i, i < k → P i = true) ∧ (∀ i, k ≤ i → i < n → P i = false)) st := by
  refine wpS_forRange
    (I := fun x c st' => st' = st ∧ ∃ lo hi, c = (none, lo, hi) ∧ lo ≤ hi ∧ hi ≤ n ∧ hi - lo ≤ n - x ∧
      (∀ i, i < lo → P i = true) ∧ (∀ i, hi ≤ i → i < n → P i = false))
    ?_ ?_ ⟨rfl, lo, hi, rfl, hlo, hhi, by omega, h1, h2⟩
  · rintro x c st' _ hx ⟨rfl, lo, hi, rfl, a1, a2, a3, a4, a5⟩
    refine hf x lo hi a2 _ (fun hge => ?_) (fun hlt hm => ?_) (fun hlt hm => ?_)
    · obtain rfl : lo = hi := by omega
      exact ⟨rfl, lo, rfl, a2, a4, a5⟩
    · exact ⟨rfl, _, hi, rfl, by omega, a2, by omega, fun i hi' => hP i _ (by omega) (by omega) hm, a5⟩
    · refine ⟨rfl, lo, _, rfl, by omega, by omega, by omega, a4, fun i hi' hin => ?_⟩
      cases e : P i with
      | false => rfl
      | true => rw [hP _ i hi' hin e] at hm; exact hm
  · rintro c st' ⟨rfl, lo, hi, rfl, a1, a2, a3, a4, a5⟩
    obtain rfl : lo = hi := by simp at a3; omega
    exact ⟨rfl, lo, rfl, a2, a4, a5⟩

theorem wp_gal {l : Bool} {key : Keyed} {a : Array Keyed} {b n hint : Nat} {Q : Option Nat → SortSt → Prop} (hk : kindOf st = SK.kind)
    (hI : ∀ p, p ∈ a.toList → isN p) (hq : isN key) (hn : b + n ≤ a.size) (hs : ∀ i j, i ≤ j → j < n → K a (b + i) ≤ K a (b + j)) (hh : hint < n)
    (h : ∀ k, k ≤ n → (∀ i, i < k → Bey l (N key) (K a (b + i)) = true) → (∀ i, k ≤ i → i < n → Bey l (N key) (K a (b + i)) = false) → Q (some k) st) :
    wpS (model prog w) A E s (gal l key a b n hint) Q st := by
  refine wpS_bind ?_
  obtain ⟨p, e1, e2, e3⟩ := at_of hI (i := b + hint) (by omega)
  refine wp_bey hk e1 e2 hq ?_
  rw [← e3]
  cases e : Bey l (N key) (K a (b + hint)) with
  | true =>
    dsimp only
    rw [if_pos rfl]
    refine wpS_bind (wpS_mono (wpS_forRange
      (I := fun x c st' => st' = st ∧ ∃ lo ofs, c = (none, lo, ofs) ∧ lo < ofs ∧ x < ofs ∧ hint + lo < n ∧ Bey l (N key) (K a (b + (hint + lo))) = true)
      (Q := fun c st' => st' = st ∧ ∃ lo ofs, c = (none, lo, ofs) ∧ lo < ofs ∧ hint + lo < n ∧ Bey l (N key) (K a (b + (hint + lo))) = true ∧
        (hint + ofs < n → Bey l (N key) (K a (b + (hint + ofs))) = false))
      ?_ ?_ ⟨rfl, 0, 1, rfl, by omega, by omega, by omega, e⟩) ?_)
    · rintro x c st' _ hx ⟨rfl, lo, ofs, rfl, a1, a2, a3, a4⟩
      dsimp only
      by_cases hge : ofs ≥ n - hint
      · rw [if_pos hge]
        exact wpS_pure ⟨rfl, lo, ofs, rfl, a1, a3, a4, fun h => absurd h (by omega)⟩
      · rw [if_neg hge]
        obtain ⟨p, e1, e2, e3⟩ := at_of hI (i := b + (hint + ofs)) (by omega)
        refine wpS_bind (wp_bey hk e1 e2 hq ?_)
        rw [← e3]
        cases e' : Bey l (N key) (K a (b + (hint + ofs))) with
        | true => exact wpS_pure ⟨rfl, ofs, 2 * ofs + 1, rfl, by omega, by omega, by omega, e'⟩
        | false => exact wpS_pure ⟨rfl, lo, ofs, rfl, a1, a3, a4, fun _ => e'⟩
    · rintro c st' ⟨rfl, lo, ofs, rfl, a1, a2, a3, a4⟩
      exact ⟨rfl, lo, ofs, rfl, a1, a3, a4, fun h => absurd h (by simp at a2; omega)⟩
    · rintro c st' ⟨rfl, lo, ofs, rfl, a1, a3, a4, a5⟩
      dsimp only
      refine wpS_bind (wpS_mono (wp_binloop (P := fun i => Bey l (N key) (K a (b + i))) (fun i j hij hj e => bey_mono (hs i j hij hj) e)
        ?_ (by omega) (by omega) (fun i hi => ?_) (fun i hi hin => ?_)) ?_)
      · intro x lo hi hhn Q' c1 c2 c3
        dsimp only
        by_cases hge : lo ≥ hi
        · rw [if_pos hge]; exact wpS_pure (c1 hge)
        · rw [if_neg hge]
          obtain ⟨p, e1, e2, e3⟩ := at_of hI (i := b + (lo + (hi - lo) / 2)) (by omega)
          refine wpS_bind (wp_bey hk e1 e2 hq ?_)
          rw [← e3]
          cases e' : Bey l (N key) (K a (b + (lo + (hi - lo) / 2))) with
          | true => exact wpS_pure (c2 (by omega) e')
          | false => exact wpS_pure (c3 (by omega) e')
      · exact bey_mono (hs i (hint + lo) (by omega) (by omega)) a4
      · exact bey_not (hs (hint + ofs) i (by omega) (by omega)) (a5 (by omega))
      · rintro c st' ⟨rfl, k, rfl, b1, b2, b3⟩
        exact wpS_pure (h k b1 b2 b3)
  | false =>
    dsimp only
    rw [if_neg (by decide)]
    refine wpS_bind (wpS_mono (wpS_forRange
      (I := fun x c st' => st' = st ∧ ∃ lo ofs, c = (none, lo, ofs) ∧ lo < ofs ∧ x < ofs ∧ lo ≤ hint ∧ Bey l (N key) (K a (b + (hint - lo))) = false)
      (Q := fun c st' => st' = st ∧ ∃ lo ofs, c = (none, lo, ofs) ∧ lo < ofs ∧ lo ≤ hint ∧ Bey l (N key) (K a (b + (hint - lo))) = false ∧
        (ofs ≤ hint → Bey l (N key) (K a (b + (hint - ofs))) = true))
      ?_ ?_ ⟨rfl, 0, 1, rfl, by omega, by omega, by omega, e⟩) ?_)
    · rintro x c st' _ hx ⟨rfl, lo, ofs, rfl, a1, a2, a3, a4⟩
      dsimp only
      by_cases hge : ofs ≥ hint + 1
      · rw [if_pos hge]
        exact wpS_pure ⟨rfl, lo, ofs, rfl, a1, a3, a4, fun h => absurd h (by omega)⟩
      · rw [if_neg hge]
        obtain ⟨p, e1, e2, e3⟩ := at_of hI (i := b + (hint - ofs)) (by omega)
        refine wpS_bind (wp_bey hk e1 e2 hq ?_)
        rw [← e3]
        cases e' : Bey l (N key) (K a (b + (hint - ofs))) with
        | true => exact wpS_pure ⟨rfl, lo, ofs, rfl, a1, a3, a4, fun _ => e'⟩
        | false => exact wpS_pure ⟨rfl, ofs, 2 * ofs + 1, rfl, by omega, by omega, by omega, e'⟩
    · rintro c st' ⟨rfl, lo, ofs, rfl, a1, a2, a3, a4⟩
      exact ⟨rfl, lo, ofs, rfl, a1, a3, a4, fun h => absurd h (by simp at a2; omega)⟩
    · rintro c st' ⟨rfl, lo, ofs, rfl, a1, a3, a4, a5⟩
      dsimp only
      refine wpS_bind (wpS_mono (wp_binloop (P := fun i => Bey l (N key) (K a (b + i))) (fun i j hij hj e => bey_mono (hs i j hij hj) e)
        ?_ (by omega) (by omega) (fun i hi => ?_) (fun i hi hin => ?_)) ?_)
      · intro x lo hi hhn Q' c1 c2 c3
        dsimp only
        by_cases hge : lo ≥ hi
        · rw [if_pos hge]; exact wpS_pure (c1 hge)
        · rw [if_neg hge]
          obtain ⟨p, e1, e2, e3⟩ := at_of hI (i := b + (lo + (hi - lo) / 2)) (by omega)
          refine wpS_bind (wp_bey hk e1 e2 hq ?_)
          rw [← e3]
          cases e' : Bey l (N key) (K a (b + (lo + (hi - lo) / 2))) with
          | true => exact wpS_pure (c2 (by omega) e')
          | false => exact wpS_pure (c3 (by omega) e')
      · exact bey_mono (hs i (hint - ofs) (by omega) (by omega)) (a5 (by omega))
      · exact bey_not (hs (hint - lo) i (by omega) (by omega)) a4
      · rintro c st' ⟨rfl, k, rfl, b1, b2, b3⟩
        exact wpS_pure (h k b1 b2 b3)
end
end TS

set_option linter.all false
namespace TS
open PySem PyProof PyProof.Rows

/-! What a merge keeps: drawn so far, and what is left of either side. -/
structure Iv (r : Keyed → Keyed → Prop) (W O X Y : List Keyed) : Prop where
  perm : (O ++ (X ++ Y)).Perm W
  srt : O.Pairwise r
  sx : X.Pairwise r
  sy : Y.Pairwise r
  lx : ∀ p ∈ O, ∀ q ∈ X, r p q
  ly : ∀ p ∈ O, ∀ q ∈ Y, r p q

noncomputable def Out (r : Keyed → Keyed → Prop) (W R : List Keyed) : Prop := R.Perm W ∧ R.Pairwise r

theorem Iv.symm {r W O X Y} (h : Iv r W O X Y) : Iv r W O Y X :=
  ⟨((List.perm_append_comm (l₁ := Y) (l₂ := X)).append_left O).trans h.perm, h.srt, h.sy, h.sx, h.ly, h.lx⟩

theorem Iv.stepX {r W O u v Y} (h : Iv r W O (u ++ v) Y) (hc : ∀ p ∈ u, ∀ q ∈ Y, r p q) : Iv r W (O ++ u) v Y := by
  have hp := List.pairwise_append.mp h.sx
  refine ⟨by simpa [List.append_assoc] using h.perm, ?_, hp.2.1, h.sy, ?_, ?_⟩
  · exact List.pairwise_append.mpr ⟨h.srt, hp.1, fun p hp' q hq => h.lx p hp' q (List.mem_append_left _ hq)⟩
  · intro p hp' q hq
    rcases List.mem_append.mp hp' with h' | h'
    · exact h.lx p h' q (List.mem_append_right _ hq)
    · exact hp.2.2 p h' q hq
  · intro p hp' q hq
    rcases List.mem_append.mp hp' with h' | h'
    · exact h.ly p h' q hq
    · exact hc p h' q hq

theorem Iv.stepY {r W O X u v} (h : Iv r W O X (u ++ v)) (hc : ∀ p ∈ u, ∀ q ∈ X, r p q) : Iv r W (O ++ u) X v := (h.symm.stepX hc).symm

theorem Iv.fin {r W O X Y R} (h : Iv r W O X Y) (hp : R.Perm (X ++ Y)) (hs : R.Pairwise r) : Out r W (O ++ R) := by
  refine ⟨(hp.append_left O).trans h.perm, List.pairwise_append.mpr ⟨h.srt, hs, fun p hp' q hq => ?_⟩⟩
  rcases List.mem_append.mp (hp.mem_iff.mp hq) with h' | h'
  · exact h.lx p hp' q h'
  · exact h.ly p hp' q h'

section
variable [SK]
noncomputable def le (p q : Keyed) : Prop := N p ≤ N q
noncomputable def ge (p q : Keyed) : Prop := N q ≤ N p

theorem drop_split {a : Array Keyed} {i k : Nat} (h : i + k ≤ a.size) : a.toList.drop i = (a.extract i (i + k)).toList ++ a.toList.drop (i + k) := by
  rw [Array.toList_extract, List.extract_eq_take_drop, Nat.add_sub_cancel_left, ← List.drop_drop, List.take_append_drop]

theorem drop_cons {a : Array Keyed} {i : Nat} {p : Keyed} (h : a[i]? = some p) : a.toList.drop i = [p] ++ a.toList.drop (i + 1) := by
  obtain ⟨hi, rfl⟩ := Array.getElem?_eq_some_iff.mp h
  rw [List.drop_eq_getElem_cons (by simpa using hi)]; simp

theorem mem_seg {a : Array Keyed} {i j : Nat} {p : Keyed} (h : p ∈ (a.extract i j).toList) : ∃ m, i ≤ m ∧ m < j ∧ m < a.size ∧ K a m = N p := by
  obtain ⟨m, hm, e⟩ := List.getElem_of_mem h
  simp only [Array.length_toList, Array.size_extract] at hm
  refine ⟨i + m, by omega, by omega, by omega, ?_⟩
  have : a[i + m]? = some p := by
    rw [getElem?_pos a (i + m) (by omega)]
    simp only [Array.getElem_toList, Array.getElem_extract] at e
    rw [e]
  unfold K; rw [this]

theorem K_some {a : Array Keyed} {i : Nat} {p : Keyed} (h : a[i]? = some p) : K a i = N p := by unfold K; rw [h]

theorem K_le {a : Array Keyed} (hs : a.toList.Pairwise le) {i j : Nat} (hij : i ≤ j) (hj : j < a.size) : K a i ≤ K a j := by
  rcases Nat.lt_or_eq_of_le hij with h | rfl
  · have e1 := getElem?_pos a i (by omega)
    have e2 := getElem?_pos a j hj
    rw [K_some e1, K_some e2]
    have := List.pairwise_iff_getElem.mp hs i j (by simp; omega) (by simp; omega) h
    exact (by simpa using this : le a[i] a[j])
  · exact Int.le_refl _

theorem mem_drop {a : Array Keyed} {i : Nat} {p : Keyed} (h : p ∈ a.toList.drop i) : ∃ m, i ≤ m ∧ m < a.size ∧ K a m = N p := by
  obtain ⟨m, hm, e⟩ := List.getElem_of_mem h
  simp only [List.length_drop, Array.length_toList] at hm
  refine ⟨i + m, by omega, by omega, K_some ?_⟩
  rw [getElem?_pos a (i + m) (by omega)]
  simpa using e

theorem mem_take {a : Array Keyed} {i : Nat} {p : Keyed} (h : p ∈ a.toList.take i) : ∃ m, m < i ∧ m < a.size ∧ K a m = N p := by
  obtain ⟨m, hm, e⟩ := List.getElem_of_mem h
  simp only [List.length_take, Array.length_toList] at hm
  refine ⟨m, by omega, by omega, K_some ?_⟩
  rw [getElem?_pos a m (by omega)]
  simpa using e

/-! From the front -/
section lo
variable {a b out : Array Keyed} {ia ib : Nat} {W : List Keyed}
noncomputable abbrev Fv (W : List Keyed) (a b out : Array Keyed) (ia ib : Nat) : Prop := Iv le W out.toList (a.toList.drop ia) (b.toList.drop ib)

theorem Fv.runA (h : Fv W a b out ia ib) {k : Nat} (hk : ia + k ≤ a.size) (hc : ∀ p ∈ (a.extract ia (ia + k)).toList, ∀ q ∈ b.toList.drop ib, le p q) :
    Fv W a b (out ++ a.extract ia (ia + k)) (ia + k) ib := by
  unfold Fv at *; rw [drop_split hk] at h; rw [Array.toList_append]; exact h.stepX hc
theorem Fv.runB (h : Fv W a b out ia ib) {k : Nat} (hk : ib + k ≤ b.size) (hc : ∀ p ∈ (b.extract ib (ib + k)).toList, ∀ q ∈ a.toList.drop ia, le p q) :
    Fv W a b (out ++ b.extract ib (ib + k)) ia (ib + k) := by
  unfold Fv at *; rw [drop_split hk] at h; rw [Array.toList_append]; exact h.stepY hc
theorem Fv.oneA (h : Fv W a b out ia ib) {p : Keyed} (e : a[ia]? = some p) (hc : ∀ q ∈ b.toList.drop ib, le p q) : Fv W a b (out.push p) (ia + 1) ib := by
  unfold Fv at *; rw [drop_cons e] at h; rw [Array.toList_push]; exact h.stepX (by simpa using hc)
theorem Fv.oneB (h : Fv W a b out ia ib) {p : Keyed} (e : b[ib]? = some p) (hc : ∀ q ∈ a.toList.drop ia, le p q) : Fv W a b (out.push p) ia (ib + 1) := by
  unfold Fv at *; rw [drop_cons e] at h; rw [Array.toList_push]; exact h.stepY (by simpa using hc)

theorem rest_eq (a : Array Keyed) (i : Nat) : (a.extract i a.size).toList = a.toList.drop i := by
  rw [Array.toList_extract, List.extract_eq_take_drop]; exact List.take_of_length_le (by simp)

theorem Fv.end1 (h : Fv W a b out ia ib) (he : ia = a.size ∨ ib = b.size) : Out le W (out ++ a.extract ia a.size ++ b.extract ib b.size).toList := by
  rw [Array.toList_append, Array.toList_append, rest_eq, rest_eq, List.append_assoc]
  refine h.fin (List.Perm.refl _) ?_
  rcases he with rfl | rfl
  · rw [List.drop_of_length_le (by simp)]; exact h.sy
  · rw [show b.toList.drop b.size = [] from List.drop_of_length_le (by simp), List.append_nil]; exact h.sx
theorem Fv.end2 (h : Fv W a b out ia ib) (hc : ∀ p ∈ b.toList.drop ib, ∀ q ∈ a.toList.drop ia, le p q) : Out le W (out ++ b.extract ib b.size ++ a.extract ia a.size).toList := by
  rw [Array.toList_append, Array.toList_append, rest_eq, rest_eq, List.append_assoc]
  exact h.fin List.perm_append_comm (List.pairwise_append.mpr ⟨h.sy, h.sx, hc⟩)
end lo

/-! From the back -/
section hi
variable {a b out : Array Keyed} {na nb : Nat} {W : List Keyed}
noncomputable abbrev Bv (W : List Keyed) (a b out : Array Keyed) (na nb : Nat) : Prop := Iv ge W out.toList (a.toList.take na).reverse (b.toList.take nb).reverse

theorem take_split {a : Array Keyed} {i n : Nat} (h : i ≤ n) : (a.toList.take n).reverse = (a.extract i n).reverse.toList ++ (a.toList.take i).reverse := by
  rw [Array.toList_reverse, Array.toList_extract, List.extract_eq_take_drop, ← List.reverse_append]
  congr 1
  rw [← List.drop_take, ]
  conv => lhs; rw [← List.take_append_drop i (a.toList.take n)]
  rw [List.take_take, Nat.min_eq_left h]
theorem take_cons {a : Array Keyed} {i : Nat} {p : Keyed} (h : a[i]? = some p) : (a.toList.take (i + 1)).reverse = [p] ++ (a.toList.take i).reverse := by
  obtain ⟨hi, rfl⟩ := Array.getElem?_eq_some_iff.mp h
  rw [List.take_succ_eq_append_getElem (by simpa using hi), List.reverse_append]; simp

theorem Bv.runA (h : Bv W a b out na nb) {i : Nat} (hi : i ≤ na) (hc : ∀ p ∈ (a.extract i na).toList, ∀ q ∈ b.toList.take nb, ge p q) :
    Bv W a b (out ++ (a.extract i na).reverse) i nb := by
  unfold Bv at *; rw [take_split hi] at h; rw [Array.toList_append]; exact h.stepX (by simpa using hc)
theorem Bv.runB (h : Bv W a b out na nb) {i : Nat} (hi : i ≤ nb) (hc : ∀ p ∈ (b.extract i nb).toList, ∀ q ∈ a.toList.take na, ge p q) :
    Bv W a b (out ++ (b.extract i nb).reverse) na i := by
  unfold Bv at *; rw [take_split hi] at h; rw [Array.toList_append]; exact h.stepY (by simpa using hc)
theorem Bv.oneA (h : Bv W a b out (na + 1) nb) {p : Keyed} (e : a[na]? = some p) (hc : ∀ q ∈ b.toList.take nb, ge p q) : Bv W a b (out.push p) na nb := by
  unfold Bv at *; rw [take_cons e] at h; rw [Array.toList_push]; exact h.stepX (by simpa using hc)
theorem Bv.oneB (h : Bv W a b out na (nb + 1)) {p : Keyed} (e : b[nb]? = some p) (hc : ∀ q ∈ a.toList.take na, ge p q) : Bv W a b (out.push p) na nb := by
  unfold Bv at *; rw [take_cons e] at h; rw [Array.toList_push]; exact h.stepY (by simpa using hc)

theorem first_eq (a : Array Keyed) (i : Nat) : (a.extract 0 i).toList = a.toList.take i := by
  rw [Array.toList_extract, List.extract_eq_take_drop]; simp

theorem Out.rev {R : List Keyed} (h : Out ge W R) : Out le W R.reverse := ⟨(List.reverse_perm R).trans h.1, List.pairwise_reverse.mpr h.2⟩

theorem Bv.end1 (h : Bv W a b out na nb) (he : na = 0 ∨ nb = 0) : Out le W (a.extract 0 na ++ b.extract 0 nb ++ out.reverse).toList := by
  have : (a.extract 0 na ++ b.extract 0 nb ++ out.reverse).toList = (out.toList ++ ((b.toList.take nb).reverse ++ (a.toList.take na).reverse)).reverse := by
    rw [Array.toList_append, Array.toList_append, first_eq, first_eq, Array.toList_reverse]; simp
  rw [this]
  refine (h.fin List.perm_append_comm ?_).rev
  rcases he with rfl | rfl
  · simpa using h.sy
  · simpa using h.sx
theorem Bv.end2 (h : Bv W a b out na nb) (hc : ∀ p ∈ a.toList.take na, ∀ q ∈ b.toList.take nb, ge p q) : Out le W (b.extract 0 nb ++ a.extract 0 na ++ out.reverse).toList := by
  have : (b.extract 0 nb ++ a.extract 0 na ++ out.reverse).toList = (out.toList ++ ((a.toList.take na).reverse ++ (b.toList.take nb).reverse)).reverse := by
    rw [Array.toList_append, Array.toList_append, first_eq, first_eq, Array.toList_reverse]; simp
  rw [this]
  exact (h.fin (List.Perm.refl _) (List.pairwise_append.mpr ⟨h.sx, h.sy, by simpa using hc⟩)).rev
end hi
end
end TS

set_option linter.all false
namespace TS
open PySem PyProof PyProof.Rows

noncomputable def mlo : Array Keyed → Array Keyed → StateT SortSt Sem (Array Keyed) := sortPriv% PySem.Builtin.mergeLo
noncomputable def mhi : Array Keyed → Array Keyed → StateT SortSt Sem (Array Keyed) := sortPriv% PySem.Builtin.mergeHi

structure Sm (st st' : SortSt) : Prop where
  kind : kindOf st' = kindOf st
  arr : arrOf st' = arrOf st
  pend : pendingOf st' = pendingOf st
  fail : failedOf st' = failedOf st
theorem Sm.refl (st : SortSt) : Sm st st := ⟨rfl, rfl, rfl, rfl⟩

noncomputable def smg : Nat → StateT SortSt Sem Unit := sortPriv% PySem.Builtin.setMinGallop

section
variable [SK] {prog : Program} {w : World} {A : Around} {E : Value → Shared → Prop} {s : Shared} [LtOk prog w A E s] {st st₀ : SortSt} {a b : Array Keyed}

theorem wp_yes {α : Type} {c : Prop} {inst : Decidable c} {m n : StateT SortSt Sem α} {Q : α → SortSt → Prop} (hc : c) (h : wpS (model prog w) A E s m Q st) :
    wpS (model prog w) A E s (@ite _ c inst m n) Q st := by rw [if_pos hc]; exact h
theorem wp_no {α : Type} {c : Prop} {inst : Decidable c} {m n : StateT SortSt Sem α} {Q : α → SortSt → Prop} (hc : ¬ c) (h : wpS (model prog w) A E s n Q st) :
    wpS (model prog w) A E s (@ite _ c inst m n) Q st := by rw [if_neg hc]; exact h

theorem wp_smg {g : Nat} {Q : Unit → SortSt → Prop} (hm : Sm st₀ st) (h : ∀ st', Sm st₀ st' → Q () st') : wpS (model prog w) A E s (smg g) Q st :=
  wpS_modify (h _ ⟨hm.kind, hm.arr, hm.pend, hm.fail⟩)

theorem galA {l : Bool} {key : Keyed} {i : Nat} {Q : Option Nat → SortSt → Prop} (hk : kindOf st = SK.kind)
    (hI : ∀ p, p ∈ a.toList → isN p) (hs : a.toList.Pairwise le) (hq : isN key) (hi : i < a.size)
    (h : ∀ k, i + k ≤ a.size → (∀ m, i ≤ m → m < i + k → Bey l (N key) (K a m) = true) → (∀ m, i + k ≤ m → m < a.size → Bey l (N key) (K a m) = false) → Q (some k) st) :
    wpS (model prog w) A E s (gal l key a i (a.size - i) 0) Q st := by
  refine wp_gal hk hI hq (by omega) (fun x y hxy hy => K_le hs (by omega) (by omega)) (by omega) fun k h1 h2 h3 => ?_
  refine h k (by omega) (fun m m1 m2 => ?_) (fun m m1 m2 => ?_)
  · have := h2 (m - i) (by omega); rwa [show i + (m - i) = m by omega] at this
  · have := h3 (m - i) (by omega) (by omega); rwa [show i + (m - i) = m by omega] at this

noncomputable def SQ {β : Type} (Q I : β → SortSt → Prop) : ForInStep β → SortSt → Prop
  | .done c, st => Q c st
  | .yield c, st => I c st

theorem wp_loop {β : Type} {n : Nat} {f : Nat → β → StateT SortSt Sem (ForInStep β)} (I : Nat → β → SortSt → Prop) {Q : β → SortSt → Prop}
    (hstep : ∀ i c st, i < n → I i c st → wpS (model prog w) A E s (f i c) (SQ Q (I (i + 1))) st)
    (hend : ∀ c st, I n c st → Q c st) {c : β} {st : SortSt} (h : I 0 c st) : wpS (model prog w) A E s (forIn [:n] c f) Q st :=
  wpS_forRange I (fun i c st _ hi hI => wpS_mono (hstep i c st hi hI) fun r st' h' => by cases r <;> exact h')
    (fun c st h' => hend c st (by rwa [Nat.max_eq_right (Nat.zero_le _)] at h')) h

theorem wp_mlo {Q : Array Keyed → SortSt → Prop} {W : List Keyed} (hW : W = a.toList ++ b.toList) (hk : kindOf st = SK.kind)
    (ha : ∀ p, p ∈ a.toList → isN p) (hb : ∀ p, p ∈ b.toList → isN p) (sa : a.toList.Pairwise le) (sb : b.toList.Pairwise le)
    (na : 0 < a.size) (nb : 0 < b.size) (h0 : K b 0 ≤ K a 0) (hl : K b (b.size - 1) ≤ K a (a.size - 1))
    (h : ∀ r st', Sm st st' → Out le W r.toList → Q r st') : wpS (model prog w) A E s (mlo a b) Q st := by
  have hlast : ∀ {i j : Nat}, i + 1 = a.size → ∀ p ∈ b.toList.drop j, ∀ q ∈ a.toList.drop i, le p q := by
    intro i j hi p hp q hq
    obtain ⟨x, x1, x2, x3⟩ := mem_drop hp
    obtain ⟨y, y1, y2, y3⟩ := mem_drop hq
    unfold le
    rw [← x3, ← y3, show y = a.size - 1 by omega]
    exact Int.le_trans (K_le sb (by omega) (by omega)) hl
  let J : Array Keyed → Nat → Nat → SortSt → Prop := fun out ia ib st' => Fv W a b out ia ib ∧ ia + 1 < a.size ∧ ib < b.size ∧ Sm st st'
  let F : Array Keyed → SortSt → Prop := fun r st' => Out le W r.toList ∧ Sm st st'
  refine wpS_bind (wpS_lift (wpAny_rule ⟨rfl, ?_⟩))
  obtain ⟨y0, e0, i0, k0⟩ := at_of hb (i := 0) nb
  refine wpS_bind (wp_elem e0 ?_)
  have start : Fv W a b #[y0] 0 1 := by
    have : Fv W a b #[] 0 0 := ⟨by simp [hW], List.Pairwise.nil, sa, sb, by simp, by simp⟩
    refine this.oneB e0 fun q hq => ?_
    obtain ⟨m, m1, m2, m3⟩ := mem_drop hq
    unfold le; rw [← m3, ← k0]
    exact Int.le_trans h0 (K_le sa (Nat.zero_le _) m2)
  by_cases c1 : 1 = b.size
  · refine wp_yes (c := (1 == b.size) = true) (by simpa using c1) ?_
    exact wpS_pure (h _ _ (Sm.refl st) (start.end1 (.inr c1)))
  refine wp_no (c := (1 == b.size) = true) (by simpa using c1) ?_
  by_cases c2 : 0 + 1 = a.size
  · refine wp_yes (c := (0 + 1 == a.size) = true) (by simpa using c2) ?_
    exact wpS_pure (h _ _ (Sm.refl st) (start.end2 (hlast c2)))
  refine wp_no (c := (0 + 1 == a.size) = true) (by simpa using c2) ?_
  refine wpS_bind (wpS_get ?_)
  refine wpS_bind (wpS_mono (wp_loop
    (I := fun x c st' => ∃ out ia ib mg, c = (none, out, ia, ib, mg) ∧ J out ia ib st' ∧ x ≤ ia + ib)
    (Q := fun c st' => ∃ r, c.1 = some r ∧ F r st') ?outer ?oend ⟨_, _, _, _, rfl, ⟨start, by omega, by omega, Sm.refl st⟩, by omega⟩) ?post)
  case post =>
    rintro ⟨c1, c2⟩ st' ⟨r, rfl, hF⟩
    exact wpS_pure (h r st' hF.2 hF.1)
  case oend =>
    rintro c st' ⟨out, ia, ib, mg, rfl, ⟨_, j2, j3, _⟩, hx⟩
    exfalso
    omega
  case outer =>
    rintro x c st' hx ⟨out, ia, ib, mg, rfl, hJ, hxx⟩
    generalize ht0 : ia + ib = t0 at hxx
    refine wpS_bind (wpS_mono (wp_loop
      (I := fun x c st' => ∃ out ia ib ac bc, c = (none, out, ia, ib, ac, bc) ∧ J out ia ib st' ∧ t0 + x ≤ ia + ib)
      (Q := fun c st' => (∃ r, c.1 = some r ∧ F r st') ∨ ∃ out ia ib ac bc, c = (none, out, ia, ib, ac, bc) ∧ J out ia ib st' ∧ t0 + 1 ≤ ia + ib)
      ?one ?oneEnd ⟨out, ia, ib, 0, 0, rfl, hJ, by omega⟩) ?two)
    case oneEnd =>
      rintro c st' ⟨out, ia, ib, ac, bc, rfl, j, hx'⟩
      exact .inr ⟨out, ia, ib, ac, bc, rfl, j, by omega⟩
    case one =>
      rintro x' c st' _ ⟨out, ia, ib, ac, bc, rfl, ⟨j1, j2, j3, j4⟩, hx'⟩
      obtain ⟨y, ey, iy, ky⟩ := at_of hb (i := ib) j3
      obtain ⟨z, ez, iz, kz⟩ := at_of ha (i := ia) (by omega)
      refine wpS_bind (wp_elem ey (wpS_bind (wp_elem ez (wpS_bind (wp_lt (j4.kind.trans hk) iy iz ?_)))))
      by_cases hlt : N y < N z
      · rw [decide_eq_true hlt]
        refine wpS_bind (wp_elem ey ?_)
        have j1' := j1.oneB ey (fun q hq => by
          obtain ⟨m, m1, m2, m3⟩ := mem_drop hq
          unfold le; rw [← m3]
          exact Int.le_trans (Int.le_of_lt hlt) (kz ▸ K_le sa m1 m2))
        by_cases c3 : ib + 1 = b.size
        · refine wp_yes (c := (ib + 1 == b.size) = true) (by simpa using c3) ?_
          exact wpS_pure (.inl ⟨_, rfl, j1'.end1 (.inr c3), j4⟩)
        refine wp_no (c := (ib + 1 == b.size) = true) (by simpa using c3) ?_
        have jj : J (out.push y) ia (ib + 1) st' := ⟨j1', j2, by omega, j4⟩
        by_cases c4 : bc + 1 ≥ mg
        · refine wp_yes c4 ?_
          exact wpS_pure (.inr ⟨_, ia, ib + 1, _, _, rfl, jj, by omega⟩)
        · refine wp_no c4 ?_
          exact wpS_pure ⟨_, ia, ib + 1, _, _, rfl, jj, by omega⟩
      · rw [decide_eq_false hlt]
        refine wpS_bind (wp_elem ez ?_)
        have j1' := j1.oneA ez (fun q hq => by
          obtain ⟨m, m1, m2, m3⟩ := mem_drop hq
          unfold le; rw [← m3]
          exact Int.le_trans (Int.not_lt.mp hlt) (ky ▸ K_le sb m1 m2))
        by_cases c3 : ia + 1 + 1 = a.size
        · refine wp_yes (c := (ia + 1 + 1 == a.size) = true) (by simpa using c3) ?_
          exact wpS_pure (.inl ⟨_, rfl, j1'.end2 (hlast c3), j4⟩)
        refine wp_no (c := (ia + 1 + 1 == a.size) = true) (by simpa using c3) ?_
        have jj : J (out.push z) (ia + 1) ib st' := ⟨j1', by omega, j3, j4⟩
        by_cases c4 : ac + 1 ≥ mg
        · refine wp_yes c4 ?_
          exact wpS_pure (.inr ⟨_, ia + 1, ib, _, _, rfl, jj, by omega⟩)
        · refine wp_no c4 ?_
          exact wpS_pure ⟨_, ia + 1, ib, _, _, rfl, jj, by omega⟩
    case two =>
      rintro ⟨c1, c2⟩ st2 (⟨r, rfl, hF⟩ | ⟨out, ia, ib, ac, bc, e, hJ', ht⟩)
      · exact wpS_pure ⟨r, rfl, hF⟩
      cases e
      refine wpS_bind (wpS_lift (wpAny_rule ⟨rfl, ?_⟩))
      refine wpS_bind (wpS_mono (wp_loop
        (I := fun x c st' => ∃ out ia ib mg ac bc, c = (none, out, ia, ib, mg, ac, bc) ∧ J out ia ib st' ∧ t0 + 1 ≤ ia + ib)
        (Q := fun c st' => (∃ r, c.1 = some r ∧ F r st') ∨ ∃ out ia ib mg ac bc, c = (none, out, ia, ib, mg, ac, bc) ∧ J out ia ib st' ∧ t0 + 1 ≤ ia + ib)
        ?gal ?galEnd ⟨_, _, _, _, _, _, rfl, hJ', ht⟩) ?three)
      case galEnd => exact fun c st' hh => .inr hh
      case three =>
        rintro ⟨c1, c2⟩ st3 (⟨r, rfl, hF⟩ | ⟨out, ia, ib, mg, ac, bc, e, ⟨j1, j2, j3, j4⟩, ht⟩)
        · exact wpS_pure ⟨r, rfl, hF⟩
        cases e
        exact wpS_bind (wp_smg j4 fun st4 j4' => wpS_pure ⟨out, ia, ib, _, rfl, ⟨j1, j2, j3, j4'⟩, by omega⟩)
      case gal =>
        rintro x' c st3 _ ⟨out, ia, ib, mg, ac, bc, rfl, ⟨j1, j2, j3, j4⟩, ht⟩
        extract_lets -underBinder +onlyGivenNames s1 out1 s2 ia1 s3 ib1 s4 mg1 s5 ac1 bc1 jp
        let R : ForInStep (Option (Array Keyed) × Array Keyed × Nat × Nat × Nat × Nat × Nat) → SortSt → Prop :=
          SQ (fun c st' => (∃ r, c.1 = some r ∧ F r st') ∨ ∃ out ia ib mg ac bc, c = (none, out, ia, ib, mg, ac, bc) ∧ J out ia ib st' ∧ t0 + 1 ≤ ia + ib)
            (fun c st' => ∃ out ia ib mg ac bc, c = (none, out, ia, ib, mg, ac, bc) ∧ J out ia ib st' ∧ t0 + 1 ≤ ia + ib)
        have hjp : ∀ (u : Unit) (g : Nat), wpS (model prog w) A E s (jp u g) R st3 := by
          intro u g
          refine wpS_bind (wp_smg j4 fun st4 j4' => ?_)
          obtain ⟨y, ey, iy, ky⟩ := at_of hb (i := ib) j3
          refine wpS_bind (wp_elem ey (wpS_bind (galA (j4'.kind.trans hk) ha sa iy (i := ia) (by omega) fun k g1 g2 g3 => ?_)))
          dsimp -zeta only
          extract_lets -underBinder +onlyGivenNames ac2 jp2
          have hrun := j1.runA g1 (fun p hp q hq => by
            obtain ⟨m, m1, m2, m3, m4⟩ := mem_seg hp
            obtain ⟨m', n1, n2, n3⟩ := mem_drop hq
            have := g2 m m1 m2
            unfold le; rw [← m4, ← n3]
            exact Int.le_trans (by simpa [Bey] using this) (ky ▸ K_le sb n1 n2))
          have hjp2 : ∀ (u : Unit) (out : Array Keyed) (i : Nat), Fv W a b out i ib → i + 1 < a.size → ia ≤ i → (∀ m, i ≤ m → m < a.size → N y < K a m) →
              wpS (model prog w) A E s (jp2 u out i) R st4 := by
            intro u out i f1 f2 f3 f4
            refine wpS_bind (wp_elem ey ?_)
            have f5 := f1.oneB ey (fun q hq => by
              obtain ⟨m', n1, n2, n3⟩ := mem_drop hq
              unfold le; rw [← n3]; exact Int.le_of_lt (f4 m' n1 n2))
            by_cases c3 : ib + 1 = b.size
            · refine wp_yes (c := (ib + 1 == b.size) = true) (by simpa using c3) ?_
              exact wpS_pure (.inl ⟨_, rfl, f5.end1 (.inr c3), j4'⟩)
            refine wp_no (c := (ib + 1 == b.size) = true) (by simpa using c3) ?_
            obtain ⟨z, ez, iz, kz⟩ := at_of ha (i := i) (by omega)
            refine wpS_bind (wp_elem ez (wpS_bind (galA (j4'.kind.trans hk) hb sb iz (i := ib + 1) (by omega) fun k' g1' g2' g3' => ?_)))
            dsimp -zeta only
            extract_lets -underBinder +onlyGivenNames bc2 jp3
            have hrun' := f5.runB g1' (fun p hp q hq => by
              obtain ⟨m, m1, m2, m3, m4⟩ := mem_seg hp
              obtain ⟨m', n1, n2, n3⟩ := mem_drop hq
              have := g2' m m1 m2
              unfold le; rw [← m4, ← n3]
              exact Int.le_trans (Int.le_of_lt (by simpa [Bey] using this)) (kz ▸ K_le sa n1 n2))
            have hjp3 : ∀ (u : Unit) (out : Array Keyed) (j : Nat), Fv W a b out i j → j < b.size → ib + 1 ≤ j → (∀ m, j ≤ m → m < b.size → N z ≤ K b m) →
                wpS (model prog w) A E s (jp3 u out j) R st4 := by
              intro u out j d1 d2 d3 d4
              refine wpS_bind (wp_elem ez ?_)
              have d5 := d1.oneA ez (fun q hq => by
                obtain ⟨m', n1, n2, n3⟩ := mem_drop hq
                unfold le; rw [← n3]; exact d4 m' n1 n2)
              by_cases c4 : i + 1 + 1 = a.size
              · refine wp_yes (c := (i + 1 + 1 == a.size) = true) (by simpa using c4) ?_
                exact wpS_pure (.inl ⟨_, rfl, d5.end2 (hlast c4), j4'⟩)
              refine wp_no (c := (i + 1 + 1 == a.size) = true) (by simpa using c4) ?_
              have jj : J (out.push z) (i + 1) j st4 := ⟨d5, by omega, d2, j4'⟩
              by_cases c5 : (decide (k < 7) && decide (k' < 7)) = true
              · refine wp_yes c5 ?_
                exact wpS_pure (.inr ⟨_, i + 1, j, _, _, _, rfl, jj, by omega⟩)
              · refine wp_no c5 ?_
                exact wpS_pure ⟨_, i + 1, j, _, _, _, rfl, jj, by omega⟩
            by_cases c4 : k' > 0
            · refine wp_yes c4 ?_
              by_cases c5 : ib + 1 + k' = b.size
              · refine wp_yes (c := (ib + 1 + k' == b.size) = true) (by simpa using c5) ?_
                exact wpS_pure (.inl ⟨_, rfl, hrun'.end1 (.inr c5), j4'⟩)
              refine wp_no (c := (ib + 1 + k' == b.size) = true) (by simpa using c5) ?_
              exact hjp3 () _ (ib + 1 + k') hrun' (by omega) (by omega) fun m m1 m2 => by simpa [Bey] using g3' m m1 m2
            · refine wp_no c4 ?_
              obtain rfl : k' = 0 := by omega
              exact hjp3 () _ (ib + 1) f5 (by omega) (by omega) fun m m1 m2 => by simpa [Bey] using g3' m m1 m2
          by_cases c4 : k > 0
          · refine wp_yes c4 ?_
            by_cases c5 : ia + k + 1 = a.size
            · refine wp_yes (c := (ia + k + 1 == a.size) = true) (by simpa using c5) ?_
              exact wpS_pure (.inl ⟨_, rfl, hrun.end2 (hlast c5), j4'⟩)
            refine wp_no (c := (ia + k + 1 == a.size) = true) (by simpa using c5) ?_
            by_cases c6 : ia + k = a.size
            · refine wp_yes (c := (ia + k == a.size) = true) (by simpa using c6) ?_
              exact wpS_pure (.inl ⟨_, rfl, hrun.end1 (.inl c6), j4'⟩)
            refine wp_no (c := (ia + k == a.size) = true) (by simpa using c6) ?_
            exact hjp2 () _ (ia + k) hrun (by omega) (by omega) fun m m1 m2 => by simpa [Bey] using g3 m m1 m2
          · refine wp_no c4 ?_
            obtain rfl : k = 0 := by omega
            exact hjp2 () _ ia j1 (by omega) (by omega) fun m m1 m2 => by simpa [Bey] using g3 m m1 m2
        by_cases c5 : mg > 1
        · refine wp_yes c5 ?_
          exact hjp () (mg - 1)
        · refine wp_no c5 ?_
          exact hjp () mg
end
end TS

set_option linter.all false
namespace TS
open PySem PyProof PyProof.Rows
section
variable [SK] {prog : Program} {w : World} {A : Around} {E : Value → Shared → Prop} {s : Shared} [LtOk prog w A E s] {st st₀ : SortSt} {a b : Array Keyed}

theorem galB {l : Bool} {key : Keyed} {n : Nat} {Q : Option Nat → SortSt → Prop} (hk : kindOf st = SK.kind)
    (hI : ∀ p, p ∈ a.toList → isN p) (hs : a.toList.Pairwise le) (hq : isN key) (hn : n ≤ a.size) (h0 : 0 < n)
    (h : ∀ k, k ≤ n → (∀ m, m < k → Bey l (N key) (K a m) = true) → (∀ m, k ≤ m → m < n → Bey l (N key) (K a m) = false) → Q (some k) st) :
    wpS (model prog w) A E s (gal l key a 0 n (n - 1)) Q st := by
  refine wp_gal hk hI hq (by omega) (fun x y hxy hy => K_le hs (by omega) (by omega)) (by omega) fun k h1 h2 h3 => ?_
  refine h k h1 (fun m m1 => ?_) (fun m m1 m2 => ?_)
  · have := h2 m m1; rwa [Nat.zero_add] at this
  · have := h3 m m1 m2; rwa [Nat.zero_add] at this

theorem wp_mhi {Q : Array Keyed → SortSt → Prop} {W : List Keyed} (hW : W = a.toList ++ b.toList) (hk : kindOf st = SK.kind)
    (ha : ∀ p, p ∈ a.toList → isN p) (hb : ∀ p, p ∈ b.toList → isN p) (sa : a.toList.Pairwise le) (sb : b.toList.Pairwise le)
    (pa : 0 < a.size) (pb : 0 < b.size) (h0 : K b 0 ≤ K a 0) (hl : K b (b.size - 1) ≤ K a (a.size - 1))
    (h : ∀ r st', Sm st st' → Out le W r.toList → Q r st') : wpS (model prog w) A E s (mhi a b) Q st := by
  have hfirst : ∀ {i j : Nat}, j = 1 → ∀ p ∈ a.toList.take i, ∀ q ∈ b.toList.take j, ge p q := by
    intro i j hj p hp q hq
    obtain ⟨x, x1, x2, x3⟩ := mem_take hp
    obtain ⟨y, y1, y2, y3⟩ := mem_take hq
    unfold ge
    rw [← x3, ← y3, show y = 0 by omega]
    exact Int.le_trans h0 (K_le sa (by omega) (by omega))
  let J : Array Keyed → Nat → Nat → SortSt → Prop := fun out na nb st' => Bv W a b out na nb ∧ 0 < na ∧ na ≤ a.size ∧ 1 < nb ∧ nb ≤ b.size ∧ Sm st st'
  let F : Array Keyed → SortSt → Prop := fun r st' => Out le W r.toList ∧ Sm st st'
  refine wpS_bind (wpS_lift (wpAny_rule ⟨rfl, ?_⟩))
  obtain ⟨y0, e0, i0, k0⟩ := at_of ha (i := a.size - 1) (by omega)
  refine wpS_bind (wp_elem e0 ?_)
  have start : Bv W a b #[y0] (a.size - 1) b.size := by
    have : Bv W a b #[] (a.size - 1 + 1) b.size := by
      rw [show a.size - 1 + 1 = a.size by omega]
      unfold Bv
      rw [List.take_of_length_le (by simp), List.take_of_length_le (by simp)]
      refine ⟨?_, List.Pairwise.nil, List.pairwise_reverse.mpr sa, List.pairwise_reverse.mpr sb, by simp, by simp⟩
      rw [hW]
      exact (List.reverse_perm _).append (List.reverse_perm _)
    refine this.oneA e0 fun q hq => ?_
    obtain ⟨m, m1, m2, m3⟩ := mem_take hq
    unfold ge; rw [← m3, ← k0]
    exact Int.le_trans (K_le sb (by omega) (by omega)) hl
  by_cases c1 : a.size - 1 = 0
  · refine wp_yes (c := (a.size - 1 == 0) = true) (by simpa using c1) ?_
    exact wpS_pure (h _ _ (Sm.refl st) (start.end1 (.inl c1)))
  refine wp_no (c := (a.size - 1 == 0) = true) (by simpa using c1) ?_
  by_cases c2 : b.size = 1
  · refine wp_yes (c := (b.size == 1) = true) (by simpa using c2) ?_
    exact wpS_pure (h _ _ (Sm.refl st) (start.end2 (hfirst c2)))
  refine wp_no (c := (b.size == 1) = true) (by simpa using c2) ?_
  refine wpS_bind (wpS_get ?_)
  refine wpS_bind (wpS_mono (wp_loop
    (I := fun x c st' => ∃ na nb out mg, c = (none, na, nb, out, mg) ∧ J out na nb st' ∧ na + nb + x ≤ a.size + b.size)
    (Q := fun c st' => ∃ r, c.1 = some r ∧ F r st') ?outer ?oend ⟨a.size - 1, b.size, _, _, rfl, ⟨start, by omega, by omega, by omega, by omega, Sm.refl st⟩, by omega⟩) ?post)
  case post =>
    rintro ⟨c1, c2⟩ st' ⟨r, rfl, hF⟩
    exact wpS_pure (h r st' hF.2 hF.1)
  case oend =>
    rintro c st' ⟨na, nb, out, mg, rfl, ⟨_, j2, j3, j4, j5, _⟩, hx⟩
    exfalso
    omega
  case outer =>
    rintro x c st' hx ⟨na, nb, out, mg, rfl, hJ, hxx⟩
    obtain ⟨t0, ht0⟩ : ∃ t0, na + nb = t0 := ⟨_, rfl⟩
    refine wpS_bind (wpS_mono (wp_loop
      (I := fun x c st' => ∃ na nb out ac bc, c = (none, na, nb, out, ac, bc) ∧ J out na nb st' ∧ na + nb + x ≤ t0)
      (Q := fun c st' => (∃ r, c.1 = some r ∧ F r st') ∨ ∃ na nb out ac bc, c = (none, na, nb, out, ac, bc) ∧ J out na nb st' ∧ na + nb + 1 ≤ t0)
      ?one ?oneEnd ⟨na, nb, out, 0, 0, rfl, hJ, by omega⟩) ?two)
    case oneEnd =>
      rintro c st' ⟨na, nb, out, ac, bc, rfl, j, hx'⟩
      exact .inr ⟨na, nb, out, ac, bc, rfl, j, by omega⟩
    case one =>
      rintro x' c st' _ ⟨na, nb, out, ac, bc, rfl, ⟨j1, j2, j3, j4, j5, j6⟩, hx'⟩
      obtain ⟨y, ey, iy, ky⟩ := at_of hb (i := nb - 1) (by omega)
      obtain ⟨z, ez, iz, kz⟩ := at_of ha (i := na - 1) (by omega)
      refine wpS_bind (wp_elem ey (wpS_bind (wp_elem ez (wpS_bind (wp_lt (j6.kind.trans hk) iy iz ?_)))))
      by_cases hlt : N y < N z
      · rw [decide_eq_true hlt]
        refine wpS_bind (wp_elem ez ?_)
        have j1' : Bv W a b (out.push z) (na - 1) nb := Bv.oneA (by rwa [show na - 1 + 1 = na by omega]) ez (fun q hq => by
          obtain ⟨m, m1, m2, m3⟩ := mem_take hq
          unfold ge; rw [← m3]
          exact Int.le_trans (ky ▸ K_le sb (by omega) (by omega)) (Int.le_of_lt hlt))
        by_cases c3 : na - 1 = 0
        · refine wp_yes (c := (na - 1 == 0) = true) (by simpa using c3) ?_
          exact wpS_pure (.inl ⟨_, rfl, j1'.end1 (.inl c3), j6⟩)
        refine wp_no (c := (na - 1 == 0) = true) (by simpa using c3) ?_
        have jj : J (out.push z) (na - 1) nb st' := ⟨j1', by omega, by omega, j4, j5, j6⟩
        by_cases c4 : ac + 1 ≥ mg
        · refine wp_yes c4 ?_
          exact wpS_pure (.inr ⟨na - 1, nb, _, _, _, rfl, jj, by omega⟩)
        · refine wp_no c4 ?_
          exact wpS_pure ⟨na - 1, nb, _, _, _, rfl, jj, by omega⟩
      · rw [decide_eq_false hlt]
        refine wpS_bind (wp_elem ey ?_)
        have j1' : Bv W a b (out.push y) na (nb - 1) := Bv.oneB (by rwa [show nb - 1 + 1 = nb by omega]) ey (fun q hq => by
          obtain ⟨m, m1, m2, m3⟩ := mem_take hq
          unfold ge; rw [← m3]
          exact Int.le_trans (kz ▸ K_le sa (by omega) (by omega)) (Int.not_lt.mp hlt))
        by_cases c3 : nb - 1 = 1
        · refine wp_yes (c := (nb - 1 == 1) = true) (by simpa using c3) ?_
          exact wpS_pure (.inl ⟨_, rfl, j1'.end2 (hfirst c3), j6⟩)
        refine wp_no (c := (nb - 1 == 1) = true) (by simpa using c3) ?_
        have jj : J (out.push y) na (nb - 1) st' := ⟨j1', j2, j3, by omega, by omega, j6⟩
        by_cases c4 : bc + 1 ≥ mg
        · refine wp_yes c4 ?_
          exact wpS_pure (.inr ⟨na, nb - 1, _, _, _, rfl, jj, by omega⟩)
        · refine wp_no c4 ?_
          exact wpS_pure ⟨na, nb - 1, _, _, _, rfl, jj, by omega⟩
    case two =>
      rintro ⟨c1, c2⟩ st2 (⟨r, rfl, hF⟩ | ⟨na, nb, out, ac, bc, e, hJ', ht⟩)
      · exact wpS_pure ⟨r, rfl, hF⟩
      cases e
      refine wpS_bind (wpS_lift (wpAny_rule ⟨rfl, ?_⟩))
      refine wpS_bind (wpS_mono (wp_loop
        (I := fun x c st' => ∃ na nb out mg ac bc, c = (none, na, nb, out, mg, ac, bc) ∧ J out na nb st' ∧ na + nb + 1 ≤ t0)
        (Q := fun c st' => (∃ r, c.1 = some r ∧ F r st') ∨ ∃ na nb out mg ac bc, c = (none, na, nb, out, mg, ac, bc) ∧ J out na nb st' ∧ na + nb + 1 ≤ t0)
        ?gal ?galEnd ⟨_, _, _, _, _, _, rfl, hJ', ht⟩) ?three)
      case galEnd => exact fun c st' hh => .inr hh
      case three =>
        rintro ⟨c1, c2⟩ st3 (⟨r, rfl, hF⟩ | ⟨na, nb, out, mg, ac, bc, e, ⟨j1, j2, j3, j4, j5, j6⟩, ht⟩)
        · exact wpS_pure ⟨r, rfl, hF⟩
        cases e
        exact wpS_bind (wp_smg j6 fun st4 j6' => wpS_pure ⟨na, nb, out, _, rfl, ⟨j1, j2, j3, j4, j5, j6'⟩, by omega⟩)
      case gal =>
        rintro x' c st3 _ ⟨na, nb, out, mg, ac, bc, rfl, ⟨j1, j2, j3, j4, j5, j6⟩, ht⟩
        extract_lets -underBinder +onlyGivenNames s1 na1 s2 nb1 s3 out1 s4 mg1 s5 ac1 bc1 jp
        let R : ForInStep (Option (Array Keyed) × Nat × Nat × Array Keyed × Nat × Nat × Nat) → SortSt → Prop :=
          SQ (fun c st' => (∃ r, c.1 = some r ∧ F r st') ∨ ∃ na nb out mg ac bc, c = (none, na, nb, out, mg, ac, bc) ∧ J out na nb st' ∧ na + nb + 1 ≤ t0)
            (fun c st' => ∃ na nb out mg ac bc, c = (none, na, nb, out, mg, ac, bc) ∧ J out na nb st' ∧ na + nb + 1 ≤ t0)
        have hjp : ∀ (u : Unit) (g : Nat), wpS (model prog w) A E s (jp u g) R st3 := by
          intro u g
          refine wpS_bind (wp_smg j6 fun st4 j6' => ?_)
          obtain ⟨y, ey, iy, ky⟩ := at_of hb (i := nb - 1) (by omega)
          refine wpS_bind (wp_elem ey (wpS_bind (galB (j6'.kind.trans hk) ha sa iy (n := na) j3 j2 fun k g1 g2 g3 => ?_)))
          dsimp -zeta only
          extract_lets -underBinder +onlyGivenNames kk ac2 jp2
          have hrun := j1.runA g1 (fun p hp q hq => by
            obtain ⟨m, m1, m2, m3, m4⟩ := mem_seg hp
            obtain ⟨m', n1, n2, n3⟩ := mem_take hq
            have := g3 m m1 m2
            unfold ge; rw [← m4, ← n3]
            exact Int.le_trans (ky ▸ K_le sb (i := m') (j := nb - 1) (by omega) (by omega)) (Int.le_of_lt (by simpa [Bey] using this)))
          have hjp2 : ∀ (u : Unit) (i : Nat) (out : Array Keyed), Bv W a b out i nb → 0 < i → i ≤ na → (∀ m, m < i → K a m ≤ N y) →
              wpS (model prog w) A E s (jp2 u i out) R st4 := by
            intro u i out f1 f2 f3 f4
            refine wpS_bind (wp_elem ey ?_)
            have f5 : Bv W a b (out.push y) i (nb - 1) := Bv.oneB (by rwa [show nb - 1 + 1 = nb by omega]) ey (fun q hq => by
              obtain ⟨m', n1, n2, n3⟩ := mem_take hq
              unfold ge; rw [← n3]; exact f4 m' n1)
            by_cases c3 : nb - 1 = 1
            · refine wp_yes (c := (nb - 1 == 1) = true) (by simpa using c3) ?_
              exact wpS_pure (.inl ⟨_, rfl, f5.end2 (hfirst c3), j6'⟩)
            refine wp_no (c := (nb - 1 == 1) = true) (by simpa using c3) ?_
            obtain ⟨z, ez, iz, kz⟩ := at_of ha (i := i - 1) (by omega)
            refine wpS_bind (wp_elem ez (wpS_bind (galB (j6'.kind.trans hk) hb sb iz (n := nb - 1) (by omega) (by omega) fun k' g1' g2' g3' => ?_)))
            dsimp -zeta only
            extract_lets -underBinder +onlyGivenNames kk2 bc2 jp3
            have hrun' := f5.runB g1' (fun p hp q hq => by
              obtain ⟨m, m1, m2, m3, m4⟩ := mem_seg hp
              obtain ⟨m', n1, n2, n3⟩ := mem_take hq
              have := g3' m m1 m2
              unfold ge; rw [← m4, ← n3]
              exact Int.le_trans (kz ▸ K_le sa (i := m') (j := i - 1) (by omega) (by omega)) (by simpa [Bey] using this))
            have hjp3 : ∀ (u : Unit) (j : Nat) (out : Array Keyed), Bv W a b out i j → 1 < j → j ≤ nb - 1 → (∀ m, m < j → K b m ≤ N z) →
                wpS (model prog w) A E s (jp3 u j out) R st4 := by
              intro u j out d1 d2 d3 d4
              refine wpS_bind (wp_elem ez ?_)
              have d5 : Bv W a b (out.push z) (i - 1) j := Bv.oneA (by rwa [show i - 1 + 1 = i by omega]) ez (fun q hq => by
                obtain ⟨m', n1, n2, n3⟩ := mem_take hq
                unfold ge; rw [← n3]; exact d4 m' n1)
              by_cases c4 : i - 1 = 0
              · refine wp_yes (c := (i - 1 == 0) = true) (by simpa using c4) ?_
                exact wpS_pure (.inl ⟨_, rfl, d5.end1 (.inl c4), j6'⟩)
              refine wp_no (c := (i - 1 == 0) = true) (by simpa using c4) ?_
              have jj : J (out.push z) (i - 1) j st4 := ⟨d5, by omega, by omega, d2, by omega, j6'⟩
              by_cases c5 : (decide (na - k < 7) && decide (nb - 1 - k' < 7)) = true
              · refine wp_yes c5 ?_
                exact wpS_pure (.inr ⟨i - 1, j, _, _, _, _, rfl, jj, by omega⟩)
              · refine wp_no c5 ?_
                exact wpS_pure ⟨i - 1, j, _, _, _, _, rfl, jj, by omega⟩
            have hz : ∀ m, m < k' → K b m ≤ N z := fun m m1 => Int.le_of_lt (by simpa [Bey] using g2' m m1)
            by_cases c4 : nb - 1 - k' > 0
            · refine wp_yes c4 ?_
              by_cases c5 : k' = 1
              · refine wp_yes (c := (k' == 1) = true) (by simpa using c5) ?_
                exact wpS_pure (.inl ⟨_, rfl, hrun'.end2 (hfirst c5), j6'⟩)
              refine wp_no (c := (k' == 1) = true) (by simpa using c5) ?_
              by_cases c6 : k' = 0
              · refine wp_yes (c := (k' == 0) = true) (by simpa using c6) ?_
                exact wpS_pure (.inl ⟨_, rfl, hrun'.end1 (.inr c6), j6'⟩)
              refine wp_no (c := (k' == 0) = true) (by simpa using c6) ?_
              exact hjp3 () k' _ hrun' (by omega) (by omega) hz
            · refine wp_no c4 ?_
              obtain rfl : k' = nb - 1 := by omega
              exact hjp3 () (nb - 1) _ f5 (by omega) (by omega) hz
          have hy : ∀ m, m < k → K a m ≤ N y := fun m m1 => by simpa [Bey] using g2 m m1
          by_cases c4 : na - k > 0
          · refine wp_yes c4 ?_
            by_cases c5 : k = 0
            · refine wp_yes (c := (k == 0) = true) (by simpa using c5) ?_
              exact wpS_pure (.inl ⟨_, rfl, hrun.end1 (.inl c5), j6'⟩)
            refine wp_no (c := (k == 0) = true) (by simpa using c5) ?_
            exact hjp2 () k _ hrun (by omega) (by omega) hy
          · refine wp_no c4 ?_
            obtain rfl : k = na := by omega
            exact hjp2 () k _ j1 (by omega) (by omega) hy
        by_cases c5 : mg > 1
        · refine wp_yes c5 ?_
          exact hjp () (mg - 1)
        · refine wp_no c5 ?_
          exact hjp () mg
end
end TS

set_option linter.all false
namespace TS
open PySem PyProof PyProof.Rows

section
variable [SK]
noncomputable def Srt (xs : Array Keyed) (a b : Nat) : Prop := ∀ i j, a ≤ i → i ≤ j → j < b → K xs i ≤ K xs j

theorem write_seg (sa : Nat) : ∀ (l : List Keyed) (n : Nat) (xs : Array Keyed), sa + n + l.length ≤ xs.size →
    ((l.zipIdx n).foldl (fun a (pj : Keyed × Nat) => a.setIfInBounds (sa + pj.2) pj.1) xs).toList
      = xs.toList.take (sa + n) ++ (l ++ xs.toList.drop (sa + n + l.length))
  | [], n, xs, _ => by simp
  | p :: t, n, xs, h => by
    simp only [List.length_cons] at h
    rw [List.zipIdx_cons, List.foldl_cons, write_seg sa t (n + 1) _ (by simp; omega)]
    simp only [Array.toList_setIfInBounds]
    rw [show sa + (n + 1) = sa + n + 1 by omega, List.drop_set_of_lt (by omega), List.length_cons,
      show sa + n + 1 + t.length = sa + n + (t.length + 1) by omega]
    have : (xs.toList.set (sa + n) p).take (sa + n + 1) = xs.toList.take (sa + n) ++ [p] := by
      rw [List.take_succ_eq_append_getElem (by simp; omega), List.take_set_of_le (Nat.le_refl _)]
      simp
    rw [this]; simp


section seg
variable {xs ys : Array Keyed} {a b : Nat} {M : List Keyed}

theorem seg_K (h : ys.toList = xs.toList.take a ++ (M ++ xs.toList.drop (a + M.length))) (hs : a + M.length ≤ xs.size) :
    (∀ m, m < a ∨ a + M.length ≤ m → K ys m = K xs m) ∧ ∀ m, (hm : m < M.length) → K ys (a + m) = N M[m] := by
  have hl : (xs.toList.take a).length = a := by simp; omega
  refine ⟨fun m hm => ?_, fun m hm => ?_⟩
  · refine K_congr ?_
    rw [← Array.getElem?_toList, ← Array.getElem?_toList, h]
    rcases hm with hm | hm
    · rw [List.getElem?_append_left (by omega), List.getElem?_take_of_lt hm]
    · rw [List.getElem?_append_right (by omega), hl, List.getElem?_append_right (by omega), List.getElem?_drop]
      congr 1; omega
  · refine K_some ?_
    rw [← Array.getElem?_toList, h, List.getElem?_append_right (by omega), hl, Nat.add_sub_cancel_left, List.getElem?_append_left hm, List.getElem?_eq_getElem hm]

theorem seg_perm (h : ys.toList = xs.toList.take a ++ (M ++ xs.toList.drop (a + M.length))) (hM : M.Perm (xs.extract a b).toList) (hb : b ≤ xs.size) (hab : a ≤ b) : ys.Perm xs := by
  have hl : M.length = b - a := by rw [hM.length_eq]; simp; omega
  refine Array.perm_iff_toList_perm.mpr ?_
  rw [h]
  have e : xs.toList = xs.toList.take a ++ ((xs.extract a b).toList ++ xs.toList.drop (a + M.length)) := by
    conv => lhs; rw [← List.take_append_drop a xs.toList]
    congr 1
    have := drop_split (a := xs) (i := a) (k := b - a) (by omega)
    rw [show a + (b - a) = b by omega] at this
    rw [this, show a + M.length = b by omega]
  conv => rhs; rw [e]
  exact (hM.append_right _).append_left _
end seg

structure Bs (a₀ : Array Keyed) (st : SortSt) : Prop where
  perm : (arrOf st).Perm a₀
  kind : kindOf st = SK.kind
  fail : failedOf st = none
theorem Bs.size {a₀ : Array Keyed} {st : SortSt} (h : Bs a₀ st) : (arrOf st).size = a₀.size := h.perm.size_eq
theorem Bs.nums {a₀ : Array Keyed} {st : SortSt} (h : Bs a₀ st) (h0 : ∀ p, p ∈ a₀.toList → isN p) : ∀ p, p ∈ (arrOf st).toList → isN p :=
  fun p hp => h0 p ((Array.perm_iff_toList_perm.mp h.perm).mem_iff.mp hp)

theorem pair_ext {xs : Array Keyed} {a b : Nat} (hs : Srt xs a b) (hb : b ≤ xs.size) : (xs.extract a b).toList.Pairwise le := by
  rw [List.pairwise_iff_getElem]
  intro i j hi hj hij
  simp only [Array.length_toList, Array.size_extract] at hi hj
  simp only [Array.getElem_toList, Array.getElem_extract]
  have := hs (a + i) (a + j) (by omega) (by omega) (by omega)
  rw [K_some (getElem?_pos xs (a + i) (by omega)), K_some (getElem?_pos xs (a + j) (by omega))] at this
  exact this

theorem K_ext {xs : Array Keyed} {a b m : Nat} (hm : a + m < b) (_hb : b ≤ xs.size) : K (xs.extract a b) m = K xs (a + m) := by
  refine K_congr ?_
  rw [Array.getElem?_extract, if_pos (by omega)]

end
section
variable [SK] {prog : Program} {w : World} {A : Around} {E : Value → Shared → Prop} {s : Shared} [LtOk prog w A E s] {st : SortSt} {a₀ : Array Keyed}

theorem wpS_set {st' : SortSt} {Q : PUnit → SortSt → Prop} (h : Q ⟨⟩ st') : wpS (model prog w) A E s (set st' : StateT SortSt Sem PUnit) Q st := by
  unfold wpS; rw [StateT.run_set]; exact wpAny_pure ⟨rfl, h⟩

theorem wp_mat {i : Nat} {L T : List (Nat × Nat × Nat)} {sa na p sb nb p' : Nat} {Q : Bool → SortSt → Prop} (h0 : ∀ p, p ∈ a₀.toList → isN p) (hB : Bs a₀ st)
    (hp : pendingOf st = (L ++ (sa, na, p) :: (sb, nb, p') :: T).toArray) (hi : i = L.length) (hadj : sb = sa + na) (hna : 1 ≤ na) (hnb : 1 ≤ nb)
    (hsz : sb + nb ≤ a₀.size) (s1 : Srt (arrOf st) sa sb) (s2 : Srt (arrOf st) sb (sb + nb))
    (h : ∀ st', Bs a₀ st' → pendingOf st' = (L ++ (sa, na + nb, p) :: T).toArray → Srt (arrOf st') sa (sb + nb) →
      (∀ m, m < sa ∨ sb + nb ≤ m → K (arrOf st') m = K (arrOf st) m) → Q true st') :
    wpS (model prog w) A E s (mergeAt' i) Q st := by
  subst hi
  have hI := hB.nums h0
  have hsize := hB.size
  refine wpS_bind (wpS_get ?_)
  have g1 : (pendingOf st)[L.length]? = some (sa, na, p) := by rw [hp]; simp
  have g2 : (pendingOf st)[L.length + 1]? = some (sb, nb, p') := by rw [hp]; simp
  have g3 : ((pendingOf st).setIfInBounds L.length (sa, na + nb, p)).eraseIdxIfInBounds (L.length + 1) = (L ++ (sa, na + nb, p) :: T).toArray := by
    rw [hp]
    apply Array.toList_inj.mp
    simp [List.eraseIdx_append_of_length_le]
  refine (show ((pendingOf st)[L.length]?, (pendingOf st)[L.length + 1]?) = (some (sa, na, p), some (sb, nb, p')) by rw [g1, g2]).symm ▸ ?_
  refine wpS_bind (wpS_set (g3.symm ▸ ?_))
  refine (fun (H : ∀ st1 : SortSt, st1 = SortSt.mk' (kindOf st) (arrOf st) ((L ++ (sa, na + nb, p) :: T).toArray) (gallopOf st) (failedOf st) →
    wpS (model prog w) A E s _ Q st1) => H _ rfl) ?_
  intro st1 e1
  have b1 : Bs a₀ st1 := by rw [e1]; exact ⟨hB.perm, hB.kind, hB.fail⟩
  have x1 : arrOf st1 = arrOf st := by rw [e1]
  have p1 : pendingOf st1 = (L ++ (sa, na + nb, p) :: T).toArray := by rw [e1]
  have keep : Srt (arrOf st) sa (sb + nb) → Q true st1 := fun hs => h st1 b1 p1 (by rw [x1]; exact hs) (fun m _ => by rw [x1])
  clear e1
  obtain ⟨y, ey, iy, ky⟩ := at_of hI (i := sb) (by omega)
  refine wpS_bind (wp_elem ey (wpS_bind (wp_gal (a := arrOf st) b1.kind hI iy (n := na) (by omega) (fun i j hij hj => s1 _ _ (by omega) (by omega) (by omega)) (by omega)
    fun k k1 k2 k3 => ?_)))
  have k2' : ∀ m, sa ≤ m → m < sa + k → K (arrOf st) m ≤ K (arrOf st) sb := fun m m1 m2 => by
    have := k2 (m - sa) (by omega); rw [show sa + (m - sa) = m by omega] at this
    rw [ky]; simpa [Bey] using this
  have k3' : ∀ m, sa + k ≤ m → m < sb → K (arrOf st) sb < K (arrOf st) m := fun m m1 m2 => by
    have := k3 (m - sa) (by omega) (by omega); rw [show sa + (m - sa) = m by omega] at this
    rw [ky]; simpa [Bey] using this
  dsimp -zeta only
  by_cases c1 : na - k = 0
  · refine wp_yes (c := (na - k == 0) = true) (by simpa using c1) ?_
    refine wpS_pure (keep fun i j h1 h2 h3 => ?_)
    by_cases hj : j < sb
    · exact s1 i j h1 h2 hj
    by_cases hi : sb ≤ i
    · exact s2 i j hi h2 h3
    exact Int.le_trans (k2' i h1 (by omega)) (s2 sb j (Nat.le_refl _) (by omega) h3)
  refine wp_no (c := (na - k == 0) = true) (by simpa using c1) ?_
  obtain ⟨z, ez, iz, kz⟩ := at_of hI (i := sa + k + (na - k) - 1) (by omega)
  have esb : sa + k + (na - k) - 1 = sb - 1 := by omega
  refine wpS_bind (wp_elem ez (wpS_bind (wp_gal (a := arrOf st) b1.kind hI iz (b := sb) (n := nb) (by omega) (fun i j hij hj => s2 _ _ (by omega) (by omega) (by omega)) (by omega)
    fun nb' q1 q2 q3 => ?_)))
  rw [esb] at kz
  have q2' : ∀ m, sb ≤ m → m < sb + nb' → K (arrOf st) m < K (arrOf st) (sb - 1) := fun m m1 m2 => by
    have := q2 (m - sb) (by omega); rw [show sb + (m - sb) = m by omega] at this
    rw [kz]; simpa [Bey] using this
  have q3' : ∀ m, sb + nb' ≤ m → m < sb + nb → K (arrOf st) (sb - 1) ≤ K (arrOf st) m := fun m m1 m2 => by
    have := q3 (m - sb) (by omega) (by omega); rw [show sb + (m - sb) = m by omega] at this
    rw [kz]; simpa [Bey] using this
  dsimp -zeta only
  by_cases c2 : nb' = 0
  · refine wp_yes (c := (nb' == 0) = true) (by simpa using c2) ?_
    refine wpS_pure (keep fun i j h1 h2 h3 => ?_)
    by_cases hj : j < sb
    · exact s1 i j h1 h2 hj
    by_cases hi : sb ≤ i
    · exact s2 i j hi h2 h3
    exact Int.le_trans (s1 i (sb - 1) h1 (by omega) (by omega)) (q3' j (by omega) h3)
  refine wp_no (c := (nb' == 0) = true) (by simpa using c2) ?_
  extract_lets -underBinder +onlyGivenNames x y' jp
  have szx : x.size = na - k := by show ((arrOf st).extract (sa + k) sb).size = _; rw [Array.size_extract]; omega
  have szy : y'.size = nb' := by show ((arrOf st).extract sb (sb + nb')).size = _; rw [Array.size_extract]; omega
  have hx : ∀ q, q ∈ x.toList → isN q := fun q hq => hI q (by
    have : q ∈ ((arrOf st).extract (sa + k) sb).toList := hq
    rw [Array.toList_extract, List.extract_eq_take_drop] at this
    exact List.mem_of_mem_drop (List.mem_of_mem_take this))
  have hy : ∀ q, q ∈ y'.toList → isN q := fun q hq => hI q (by
    have : q ∈ ((arrOf st).extract sb (sb + nb')).toList := hq
    rw [Array.toList_extract, List.extract_eq_take_drop] at this
    exact List.mem_of_mem_drop (List.mem_of_mem_take this))
  have ox : x.toList.Pairwise le := pair_ext (xs := arrOf st) (fun i j h1 h2 h3 => s1 i j (by omega) h2 h3) (by omega)
  have oy : y'.toList.Pairwise le := pair_ext (xs := arrOf st) (fun i j h1 h2 h3 => s2 i j h1 h2 (by omega)) (by omega)
  have hf : K y' 0 ≤ K x 0 := by
    show K ((arrOf st).extract sb (sb + nb')) 0 ≤ K ((arrOf st).extract (sa + k) sb) 0
    rw [K_ext (by omega) (by omega), K_ext (by omega) (by omega)]
    exact Int.le_of_lt (k3' _ (by omega) (by omega))
  have hl : K y' (y'.size - 1) ≤ K x (x.size - 1) := by
    rw [szx, szy]
    show K ((arrOf st).extract sb (sb + nb')) _ ≤ K ((arrOf st).extract (sa + k) sb) _
    rw [K_ext (by omega) (by omega), K_ext (by omega) (by omega), show sa + k + (na - k - 1) = sb - 1 by omega]
    exact Int.le_of_lt (q2' _ (by omega) (by omega))
  have hW : x.toList ++ y'.toList = ((arrOf st).extract (sa + k) (sb + nb')).toList := by
    have e1 := drop_split (a := (arrOf st)) (i := sa + k) (k := na - k) (by omega)
    have e2 := drop_split (a := (arrOf st)) (i := sb) (k := nb') (by omega)
    have e3 := drop_split (a := (arrOf st)) (i := sa + k) (k := na - k + nb') (by omega)
    rw [show sa + k + (na - k) = sb by omega] at e1
    rw [show sa + k + (na - k + nb') = sb + nb' by omega] at e3
    rw [e2] at e1
    rw [e3, ← List.append_assoc] at e1
    exact (List.append_cancel_right e1).symm
  have hjp : ∀ r st2, Sm st1 st2 → Out le (x.toList ++ y'.toList) r.toList → wpS (model prog w) A E s (jp r) Q st2 := by
    intro r st2 hm hO
    rw [hW] at hO
    have rl : r.toList.length = na - k + nb' := by rw [hO.1.length_eq]; simp; omega
    refine wpS_bind (wpS_modify (wpS_bind (wpS_get (wpS_pure ?_))))
    have hY := write_seg (sa + k) r.toList 0 (arrOf st2) (by rw [hm.arr, x1]; omega)
    rw [hm.arr, x1, Nat.add_zero] at hY
    have hKs := seg_K hY (by omega)
    have hP := seg_perm hY hO.1 (by omega) (by omega)
    have hmem : ∀ m, sa + k ≤ m → m < sb + nb' → ∀ v, v = K (List.foldl (fun a (pj : Keyed × Nat) => a.setIfInBounds (sa + k + pj.2) pj.1) (arrOf st) (r.toList.zipIdx 0)) m → K (arrOf st) sb ≤ v ∧ v ≤ K (arrOf st) (sb - 1) := by
      rintro m m1 m2 v rfl
      have := hKs.2 (m - (sa + k)) (by omega)
      rw [show sa + k + (m - (sa + k)) = m by omega] at this
      rw [this]
      obtain ⟨m', n1, n2, n3, n4⟩ := mem_seg (hO.1.mem_iff.mp (List.getElem_mem (l := r.toList) (n := m - (sa + k)) (by omega)))
      rw [← n4]
      by_cases hc : m' < sb
      · exact ⟨Int.le_of_lt (k3' m' n1 hc), s1 _ _ (by omega) (by omega) (by omega)⟩
      · exact ⟨s2 _ _ (by omega) (by omega) (by omega), Int.le_of_lt (q2' m' (by omega) n2)⟩
    have hfail : (failedOf st2).isNone = true := by rw [hm.fail, b1.fail]; rfl
    have hfold : List.foldl (fun a x => match x with | (p, j) => a.setIfInBounds (sa + k + j) p) (arrOf st2) r.toList.zipIdx
        = List.foldl (fun a (pj : Keyed × Nat) => a.setIfInBounds (sa + k + pj.2) pj.1) (arrOf st) (r.toList.zipIdx 0) := by rw [hm.arr, x1]
    generalize List.foldl (fun a (pj : Keyed × Nat) => a.setIfInBounds (sa + k + pj.2) pj.1) (arrOf st) (r.toList.zipIdx 0) = Y at hfold hY hKs hP hmem
    refine (show Q (failedOf st2).isNone (SortSt.mk' (kindOf st2) (List.foldl (fun a x => match x with | (p, j) => a.setIfInBounds (sa + k + j) p) (arrOf st2) r.toList.zipIdx) (pendingOf st2) (gallopOf st2) (failedOf st2)) from ?_)
    rw [hfold, hfail]
    refine h _ ⟨hP.trans hB.perm, hm.kind.trans b1.kind, hm.fail.trans b1.fail⟩ (hm.pend.trans p1) ?_ ?_
    · show Srt Y sa (sb + nb)
      have out1 : ∀ m, m < sa + k → K Y m = K (arrOf st) m := fun m m1 => hKs.1 m (.inl m1)
      have out2 : ∀ m, sb + nb' ≤ m → K Y m = K (arrOf st) m := fun m m1 => hKs.1 m (.inr (by omega))
      intro i j h1 h2 h3
      by_cases i1 : i < sa + k
      · rw [out1 i i1]
        by_cases j1 : j < sa + k
        · rw [out1 j j1]; exact s1 i j h1 h2 (by omega)
        have := k2' i h1 i1
        by_cases j2 : j < sb + nb'
        · exact Int.le_trans this (hmem j (by omega) j2 _ rfl).1
        · rw [out2 j (by omega)]; exact Int.le_trans this (s2 _ _ (Nat.le_refl _) (by omega) h3)
      by_cases i2 : i < sb + nb'
      · by_cases j2 : j < sb + nb'
        · rcases Nat.lt_or_eq_of_le h2 with hij | rfl
          · have e1 := hKs.2 (i - (sa + k)) (by omega)
            have e2 := hKs.2 (j - (sa + k)) (by omega)
            rw [show sa + k + (i - (sa + k)) = i by omega] at e1
            rw [show sa + k + (j - (sa + k)) = j by omega] at e2
            rw [e1, e2]
            exact List.pairwise_iff_getElem.mp hO.2 _ _ _ _ (by omega)
          · exact Int.le_refl _
        · rw [out2 j (by omega)]
          exact Int.le_trans (hmem i (by omega) i2 _ rfl).2 (q3' j (by omega) h3)
      · rw [out2 i (by omega), out2 j (by omega)]; exact s2 i j (by omega) h2 h3
    · intro m hm'
      exact hKs.1 m (by omega)
  by_cases c3 : na - k ≤ nb'
  · refine wp_yes c3 ?_
    exact wpS_bind (wp_mlo rfl b1.kind hx hy ox oy (by omega) (by omega) hf hl fun r st2 hm hO => hjp r st2 hm hO)
  · refine wp_no c3 ?_
    exact wpS_bind (wp_mhi rfl b1.kind hx hy ox oy (by omega) (by omega) hf hl fun r st2 hm hO => hjp r st2 hm hO)
end
end TS

set_option linter.all false
namespace TS
open PySem PyProof PyProof.Rows

section
variable [SK]
noncomputable def Dec (xs : Array Keyed) (a b : Nat) : Prop := ∀ i j, a ≤ i → i ≤ j → j < b → K xs j ≤ K xs i

structure Go (a₀ : Array Keyed) (lo : Nat) (st st' : SortSt) : Prop where
  base : Bs a₀ st'
  pend : pendingOf st' = pendingOf st
  low : ∀ m, m < lo → K (arrOf st') m = K (arrOf st) m

theorem Go.refl {a₀ : Array Keyed} {lo : Nat} {st : SortSt} (h : Bs a₀ st) : Go a₀ lo st st := ⟨h, rfl, fun _ _ => rfl⟩

theorem Go.put {a₀ : Array Keyed} {lo : Nat} {st st' : SortSt} (h : Go a₀ lo st st') {xs : Array Keyed} (hp : xs.Perm (arrOf st')) (hl : ∀ m, m < lo → K xs m = K (arrOf st') m) :
    Go a₀ lo st (setArr st' xs) := ⟨⟨hp.trans h.base.perm, h.base.kind, h.base.fail⟩, h.pend, fun m hm => (hl m hm).trans (h.low m hm)⟩

theorem Srt.snoc {xs : Array Keyed} {a b : Nat} (h : Srt xs a b) (hl : a < b → K xs (b - 1) ≤ K xs b) : Srt xs a (b + 1) := by
  intro i j h1 h2 h3
  by_cases hj : j < b
  · exact h i j h1 h2 hj
  obtain rfl : j = b := by omega
  by_cases hi : i = j
  · rw [hi]; exact Int.le_refl _
  · exact Int.le_trans (h i (j - 1) h1 (by omega) (by omega)) (hl (by omega))
theorem Dec.snoc {xs : Array Keyed} {a b : Nat} (h : Dec xs a b) (hl : a < b → K xs b ≤ K xs (b - 1)) : Dec xs a (b + 1) := by
  intro i j h1 h2 h3
  by_cases hj : j < b
  · exact h i j h1 h2 hj
  obtain rfl : j = b := by omega
  by_cases hi : i = j
  · rw [hi]; exact Int.le_refl _
  · exact Int.le_trans (hl (by omega)) (h i (j - 1) h1 (by omega) (by omega))
theorem Srt.one (xs : Array Keyed) (a : Nat) : Srt xs a (a + 1) := fun i j h1 h2 h3 => by
  obtain rfl : i = j := by omega
  exact Int.le_refl _
theorem Dec.rev {xs : Array Keyed} {a b : Nat} (h : Dec xs a b) (hb : b ≤ xs.size) : Srt (mirror xs a b ((b - a) / 2)) a b := by
  intro i j h1 h2 h3
  rw [K_mirror hb, K_mirror hb, if_pos ⟨h1, by omega⟩, if_pos ⟨by omega, h3⟩]
  exact h _ _ (by omega) (by omega) (by omega)

end
section
variable [SK] {prog : Program} {w : World} {A : Around} {E : Value → Shared → Prop} {s : Shared} [LtOk prog w A E s] {st : SortSt} {a₀ : Array Keyed}

theorem wp_range {β : Type} {a n : Nat} {f : Nat → β → StateT SortSt Sem (ForInStep β)} (I : Nat → β → SortSt → Prop) {Q : β → SortSt → Prop} (han : a ≤ n)
    (hstep : ∀ i c st, a ≤ i → i < n → I i c st → wpS (model prog w) A E s (f i c) (SQ Q (I (i + 1))) st)
    (hend : ∀ c st, I n c st → Q c st) {c : β} {st : SortSt} (h : I a c st) : wpS (model prog w) A E s (forIn [a:n] c f) Q st :=
  wpS_forRange I (fun i c st hai hi hI => wpS_mono (hstep i c st hai hi hI) fun r st' h' => by cases r <;> exact h')
    (fun c st h' => hend c st (by rwa [Nat.max_eq_right han] at h')) h

theorem wp_at {i j : Nat} {Q : Option Bool → SortSt → Prop} (h0 : ∀ p, p ∈ a₀.toList → isN p) (hB : Bs a₀ st) (hi : i < a₀.size) (hj : j < a₀.size)
    (h : Q (some (decide (K (arrOf st) i < K (arrOf st) j))) st) : wpS (model prog w) A E s (ltAt' i j) Q st := by
  have hI := hB.nums h0
  obtain ⟨p, e1, i1, k1⟩ := at_of hI (i := i) (by rw [hB.size]; exact hi)
  obtain ⟨q, e2, i2, k2⟩ := at_of hI (i := j) (by rw [hB.size]; exact hj)
  rw [ltAt'_eq]
  refine wpS_bind (wpS_get (wpS_bind (wp_elem e1 (wpS_bind (wp_elem e2 (wp_lt hB.kind i1 i2 ?_))))))
  rwa [k1, k2] at h

theorem wp_count {lo nrem : Nat} {Q : Option Nat → SortSt → Prop} (h0 : ∀ p, p ∈ a₀.toList → isN p) (hB : Bs a₀ st) (hn : lo + nrem ≤ a₀.size) (h1 : 1 ≤ nrem)
    (h : ∀ m st', 1 ≤ m → m ≤ nrem → Go a₀ lo st st' → Srt (arrOf st') lo (lo + m) → Q (some m) st') :
    wpS (model prog w) A E s (countRun' lo nrem) Q st := by
  refine wpS_bind (wpS_mono (wp_range
    (I := fun x c st' => st' = st ∧ c = (none, x) ∧ Srt (arrOf st) lo (lo + x))
    (Q := fun c st' => st' = st ∧ ∃ n, c = (none, n) ∧ 1 ≤ n ∧ n ≤ nrem ∧ Srt (arrOf st) lo (lo + n) ∧ (n = nrem ∨ K (arrOf st) (lo + n) < K (arrOf st) (lo + n - 1)))
    h1 ?_ ?_ ⟨rfl, rfl, Srt.one _ _⟩) ?_)
  · rintro x c st' hx1 hx2 ⟨rfl, rfl, hs⟩
    refine wpS_bind (wp_at h0 hB (by show lo + x < _; omega) (by show lo + x - 1 < _; omega) ?_)
    by_cases hlt : K (arrOf st') (lo + x) < K (arrOf st') (lo + x - 1)
    · rw [decide_eq_true hlt]
      exact wpS_pure ⟨rfl, x, rfl, hx1, by omega, hs, .inr hlt⟩
    · rw [decide_eq_false hlt]
      exact wpS_pure ⟨rfl, rfl, hs.snoc fun _ => Int.not_lt.mp hlt⟩
  · rintro c st' ⟨rfl, rfl, hs⟩
    exact ⟨rfl, nrem, rfl, h1, Nat.le_refl _, hs, .inl rfl⟩
  rintro c st' ⟨rfl, n, rfl, n1, n2, hs, hor⟩
  refine (fun (H : wpS (model prog w) A E s (ite ((n == nrem) = true) _ _) Q st') => H) ?_
  by_cases c1 : n = nrem
  · rw [if_pos (by simpa using c1)]
    exact wpS_pure (h n _ n1 n2 (Go.refl hB) hs)
  rw [if_neg (by simpa using c1)]
  have hlt := hor.resolve_left c1
  extract_lets -underBinder +onlyGivenNames jp
  have hjp : ∀ u st2, Go a₀ lo st' st2 → Dec (arrOf st2) lo (lo + (n + 1)) → wpS (model prog w) A E s (jp u) Q st2 := by
    intro u st2 hg hd
    refine wpS_bind (wpS_lift (wpAny_rule ⟨rfl, ?_⟩))
    refine wpS_bind (wpS_mono (wp_range
      (I := fun x c st3 => ∃ neq, c = (none, x, neq) ∧ Go a₀ lo st' st3 ∧ Dec (arrOf st3) lo (lo + x) ∧ neq + 1 ≤ x ∧ ∀ i, lo + x - (neq + 1) ≤ i → i < lo + x → K (arrOf st3) i = K (arrOf st3) (lo + x - 1))
      (Q := fun c st3 => ∃ x neq, c = (none, x, neq) ∧ n + 1 ≤ x ∧ x ≤ nrem ∧ Go a₀ lo st' st3 ∧ Dec (arrOf st3) lo (lo + x) ∧ neq + 1 ≤ x ∧ ∀ i, lo + x - (neq + 1) ≤ i → i < lo + x → K (arrOf st3) i = K (arrOf st3) (lo + x - 1))
      (show n + 1 ≤ nrem by omega) ?_ ?_ ⟨0, rfl, hg, hd, by omega, fun i i1 i2 => by congr 1; omega⟩) ?_)
    · rintro x c st3 x1 x2 ⟨neq, rfl, hg, hd, hq, he⟩
      have hsz : lo + x ≤ (arrOf st3).size := by rw [hg.base.size]; omega
      refine wpS_bind (wp_at h0 hg.base (by show lo + x < _; omega) (by show lo + x - 1 < _; omega) ?_)
      by_cases hlt : K (arrOf st3) (lo + x) < K (arrOf st3) (lo + x - 1)
      · rw [decide_eq_true hlt]
        dsimp only
        rw [if_pos rfl]
        by_cases hneq : neq > 0
        · rw [if_pos hneq]
          have hK := K_mirror_equal (i := lo + x - (neq + 1)) hsz he
          refine wpS_bind (wpS_reverse (wpS_pure ⟨0, rfl, hg.put (mirror_perm _ _ _ _) (fun m _ => hK m), ?_, by omega, fun i i1 i2 => by congr 1; omega⟩))
          intro i j i1 i2 i3
          show K (mirror (arrOf st3) _ _ _) j ≤ K (mirror (arrOf st3) _ _ _) i
          rw [hK, hK]
          exact (hd.snoc fun _ => Int.le_of_lt hlt) i j i1 i2 (by omega)
        · rw [if_neg hneq]
          exact wpS_pure ⟨0, rfl, hg, hd.snoc fun _ => Int.le_of_lt hlt, by omega, fun i i1 i2 => by congr 1; omega⟩
      · rw [decide_eq_false hlt]
        dsimp only
        rw [if_neg (by decide)]
        refine wpS_bind (wp_at h0 hg.base (by omega) (by omega) ?_)
        by_cases hgt : K (arrOf st3) (lo + x - 1) < K (arrOf st3) (lo + x)
        · rw [decide_eq_true hgt]
          exact wpS_pure ⟨x, neq, rfl, by omega, by omega, hg, hd, hq, he⟩
        · rw [decide_eq_false hgt]
          have heq : K (arrOf st3) (lo + x) = K (arrOf st3) (lo + x - 1) := by omega
          refine wpS_pure ⟨neq + 1, rfl, hg, hd.snoc fun _ => by omega, by omega, fun i i1 i2 => ?_⟩
          rw [show lo + (x + 1) - 1 = lo + x by omega]
          by_cases hi : i = lo + x
          · rw [hi]
          · rw [heq]; exact he i (by omega) (by omega)
    · rintro c st3 ⟨neq, rfl, hg, hd, hq, he⟩
      exact ⟨nrem, neq, rfl, by omega, Nat.le_refl _, hg, hd, hq, he⟩
    rintro c st3 ⟨x, neq, rfl, x1, x2, hg, hd, hq, he⟩
    have hsz : lo + x ≤ (arrOf st3).size := by rw [hg.base.size]; omega
    refine (fun (H : wpS (model prog w) A E s _ Q st3) => H) ?_
    extract_lets -underBinder +onlyGivenNames r0 s0 xx nn
    dsimp -zeta only [r0]
    extract_lets -underBinder +onlyGivenNames jp2
    have hjp2 : ∀ u st4, Go a₀ lo st' st4 → Dec (arrOf st4) lo (lo + x) → wpS (model prog w) A E s (jp2 u) Q st4 := by
      intro u st4 hg hd
      have hsz : lo + x ≤ (arrOf st4).size := by rw [hg.base.size]; omega
      refine wpS_bind (wpS_reverse ?_)
      have hg5 : Go a₀ lo st' (setArr st4 (mirror (arrOf st4) lo (lo + x) ((lo + x - lo) / 2))) :=
        hg.put (mirror_perm _ _ _ _) (fun m hm => by rw [K_mirror hsz, if_neg (by omega)])
      have hs5 : Srt (arrOf (setArr st4 (mirror (arrOf st4) lo (lo + x) ((lo + x - lo) / 2)))) lo (lo + x) := hd.rev hsz
      refine (fun (H : ∀ st5, Go a₀ lo st' st5 → Srt (arrOf st5) lo (lo + x) → wpS (model prog w) A E s _ Q st5) => H _ hg5 hs5) ?_
      intro st5 hg5 hs5
      refine wpS_bind (wpS_mono (wp_range
        (I := fun y c st6 => st6 = st5 ∧ c = (none, y) ∧ Srt (arrOf st5) lo (lo + y))
        (Q := fun c st6 => st6 = st5 ∧ ∃ y, c = (none, y) ∧ 1 ≤ y ∧ y ≤ nrem ∧ Srt (arrOf st5) lo (lo + y)) x2 ?_ ?_ ⟨rfl, rfl, hs5⟩) ?_)
      · rintro y c st6 y1 y2 ⟨rfl, rfl, hs⟩
        refine wpS_bind (wp_at h0 hg5.base (by show lo + y < _; omega) (by show lo + y - 1 < _; omega) ?_)
        by_cases hlt : K (arrOf st6) (lo + y) < K (arrOf st6) (lo + y - 1)
        · rw [decide_eq_true hlt]
          exact wpS_pure ⟨rfl, y, rfl, by omega, by omega, hs⟩
        · rw [decide_eq_false hlt]
          exact wpS_pure ⟨rfl, rfl, hs.snoc fun _ => Int.not_lt.mp hlt⟩
      · rintro c st6 ⟨rfl, rfl, hs⟩
        exact ⟨rfl, nrem, rfl, h1, Nat.le_refl _, hs⟩
      · rintro c st6 ⟨rfl, y, rfl, y1, y2, hs⟩
        exact wpS_pure (h y _ y1 y2 hg5 hs)
    by_cases hneq : neq > 0
    · refine wp_yes (c := neq > 0) hneq ?_
      have hK := K_mirror_equal (i := lo + x - (neq + 1)) hsz he
      refine wpS_bind (wpS_reverse (hjp2 () _ (hg.put (mirror_perm _ _ _ _) (fun m _ => hK m)) ?_))
      intro i j i1 i2 i3
      show K (mirror (arrOf st3) _ _ _) j ≤ K (mirror (arrOf st3) _ _ _) i
      rw [hK, hK]
      exact hd i j i1 i2 i3
    · refine wp_no (c := neq > 0) hneq ?_
      exact hjp2 () _ hg hd
  have hsz : lo + n ≤ (arrOf st').size := by rw [hB.size]; omega
  by_cases c2 : n > 1
  · refine wp_yes (c := n > 1) c2 ?_
    refine wpS_bind (wp_at h0 hB (by omega) (by show lo + n - 1 < _; omega) ?_)
    by_cases hr : K (arrOf st') lo < K (arrOf st') (lo + n - 1)
    · rw [decide_eq_true hr]
      exact wpS_pure (h n _ n1 n2 (Go.refl hB) hs)
    · rw [decide_eq_false hr]
      have hall : ∀ k, lo ≤ k → k < lo + n → K (arrOf st') k = K (arrOf st') (lo + n - 1) := fun k k1 k2 => by
        have a1 := hs lo k (Nat.le_refl _) k1 k2
        have a2 := hs k (lo + n - 1) k1 (by omega) (by omega)
        omega
      have hK := K_mirror_equal hsz hall
      refine wpS_bind (wpS_reverse (hjp () _ ((Go.refl hB).put (mirror_perm _ _ _ _) (fun m _ => hK m)) ?_))
      have hd : Dec (arrOf st') lo (lo + n) := fun i j i1 i2 i3 => by rw [hall i i1 (by omega), hall j (by omega) i3]; exact Int.le_refl _
      intro i j i1 i2 i3
      show K (mirror (arrOf st') _ _ _) j ≤ K (mirror (arrOf st') _ _ _) i
      rw [hK, hK]
      exact (hd.snoc fun _ => Int.le_of_lt hlt) i j i1 i2 (by omega)
  · refine wp_no (c := n > 1) c2 ?_
    obtain rfl : n = 1 := by omega
    have hd : Dec (arrOf st') lo (lo + 1) := fun i j i1 i2 i3 => by
      obtain rfl : i = j := by omega
      exact Int.le_refl _
    exact hjp () _ (Go.refl hB) (hd.snoc fun _ => Int.le_of_lt hlt)
end
end TS

set_option linter.all false
namespace TS
open PySem PyProof PyProof.Rows
section
variable [SK] {prog : Program} {w : World} {A : Around} {E : Value → Shared → Prop} {s : Shared} [LtOk prog w A E s] {st : SortSt} {a₀ : Array Keyed}

theorem wp_bins {lo n ok : Nat} {Q : Bool → SortSt → Prop} (h0 : ∀ p, p ∈ a₀.toList → isN p) (hB : Bs a₀ st) (hn : lo + n ≤ a₀.size) (h1 : 1 ≤ ok) (hok : ok ≤ n)
    (hs : Srt (arrOf st) lo (lo + ok)) (h : ∀ st', Go a₀ lo st st' → Srt (arrOf st') lo (lo + n) → Q true st') :
    wpS (model prog w) A E s (binarySort' lo n ok) Q st := by
  refine wpS_bind (wpS_mono (wp_range
    (I := fun k c st' => c = (none, ()) ∧ Go a₀ lo st st' ∧ Srt (arrOf st') lo (lo + k))
    (Q := fun c st' => c = (none, ()) ∧ Go a₀ lo st st' ∧ Srt (arrOf st') lo (lo + n)) (show max ok 1 ≤ n by omega) ?_ ?_
    ⟨rfl, Go.refl hB, by rw [Nat.max_eq_left h1]; exact hs⟩) ?_)
  · rintro k c st' k1 k2 ⟨rfl, hg, hs'⟩
    have hsz : lo + k < (arrOf st').size := by rw [hg.base.size]; omega
    refine wpS_bind (wpS_mono (wp_loop
      (I := fun x c st2 => st2 = st' ∧ ∃ l r, c = (none, l, r) ∧ l ≤ r ∧ r ≤ k ∧ r - l ≤ k - x ∧ (∀ i, i < l → K (arrOf st') (lo + i) ≤ K (arrOf st') (lo + k)) ∧
        ∀ i, r ≤ i → i < k → K (arrOf st') (lo + k) ≤ K (arrOf st') (lo + i))
      (Q := fun c st2 => st2 = st' ∧ ∃ l, c = (none, l, l) ∧ l ≤ k ∧ (∀ i, i < l → K (arrOf st') (lo + i) ≤ K (arrOf st') (lo + k)) ∧
        ∀ i, l ≤ i → i < k → K (arrOf st') (lo + k) ≤ K (arrOf st') (lo + i)) ?_ ?_ ⟨rfl, 0, k, rfl, by omega, by omega, by omega, fun i hi => by omega, fun i i1 i2 => by omega⟩) ?_)
    · rintro x c st2 hx ⟨rfl, l, r, rfl, a1, a2, a3, a4, a5⟩
      dsimp only
      by_cases hge : l ≥ r
      · rw [if_pos hge]
        obtain rfl : l = r := by omega
        exact wpS_pure ⟨rfl, l, rfl, a2, a4, a5⟩
      rw [if_neg hge]
      generalize hm : (l + r) / 2 = m
      refine wpS_bind (wp_at h0 hg.base (i := lo + k) (j := lo + m) (by omega) (by omega) ?_)
      by_cases hlt : K (arrOf st2) (lo + k) < K (arrOf st2) (lo + m)
      · rw [decide_eq_true hlt]
        refine wpS_pure ⟨rfl, l, m, rfl, by omega, by omega, by omega, a4, fun i i1 i2 => ?_⟩
        exact Int.le_trans (Int.le_of_lt hlt) (hs' _ _ (by omega) (by omega) (by omega))
      · rw [decide_eq_false hlt]
        refine wpS_pure ⟨rfl, m + 1, r, rfl, by omega, by omega, by omega, fun i i1 => ?_, a5⟩
        exact Int.le_trans (hs' _ (lo + m) (by omega) (by omega) (by omega)) (Int.not_lt.mp hlt)
    · rintro c st2 ⟨rfl, l, r, rfl, a1, a2, a3, a4, a5⟩
      obtain rfl : l = r := by omega
      exact ⟨rfl, l, rfl, a2, a4, a5⟩
    · rintro c st2 ⟨rfl, l, rfl, a2, a4, a5⟩
      refine (fun (H : wpS (model prog w) A E s (do moveDown' (lo + k) (lo + l); pure (ForInStep.yield (none, ()))) _ st2) => H) ?_
      rw [moveDown'_eq]
      have hKb := fun m => K_bubble (d := lo + k - (lo + l)) hsz (by omega) m
      refine wpS_bind (wpS_modify (wpS_pure ⟨rfl, hg.put (bubble_perm _ _ _) (fun m hm => ?_), ?_⟩))
      · rw [hKb, if_neg (by omega), if_neg (by omega)]
      · intro i j i1 i2 i3
        show K (bubble (arrOf st2) (lo + k) (lo + k - (lo + l))) i ≤ K (bubble (arrOf st2) (lo + k) (lo + k - (lo + l))) j
        have low : ∀ m, lo ≤ m → m < lo + l → K (arrOf st2) m ≤ K (arrOf st2) (lo + k) := fun m m1 m2 => by
          have := a4 (m - lo) (by omega); rwa [show lo + (m - lo) = m by omega] at this
        have high : ∀ m, lo + l ≤ m → m < lo + k → K (arrOf st2) (lo + k) ≤ K (arrOf st2) m := fun m m1 m2 => by
          have := a5 (m - lo) (by omega) (by omega); rwa [show lo + (m - lo) = m by omega] at this
        rw [hKb, hKb]
        repeat' split
        all_goals first
          | (exfalso; omega)
          | exact Int.le_refl _
          | exact low _ (by omega) (by omega)
          | exact high _ (by omega) (by omega)
          | exact hs' _ _ (by omega) (by omega) (by omega)
  · rintro c st' ⟨hc, hg, hs'⟩
    exact ⟨hc, hg, hs'⟩
  · rintro c st' ⟨rfl, hg, hs'⟩
    exact wpS_pure (h st' hg hs')
end
end TS

set_option linter.all false
namespace TS
open PySem PyProof PyProof.Rows

noncomputable def Run [SK] (xs : Array Keyed) : Nat → List (Nat × Nat × Nat) → Nat → Prop
  | s, [], e => s = e
  | s, r :: t, e => r.1 = s ∧ 1 ≤ r.2.1 ∧ Srt xs s (s + r.2.1) ∧ Run xs (s + r.2.1) t e

section run
variable [SK] {X Y : Array Keyed}
theorem Run.le : ∀ {rs s e}, Run X s rs e → s + rs.length ≤ e
  | [], s, e, h => by unfold Run at h; simp; omega
  | r :: t, s, e, ⟨_, h1, _, h2⟩ => by have := h2.le; simp only [List.length_cons]; omega
theorem Run.congr : ∀ {rs s e}, Run X s rs e → (∀ m, s ≤ m → m < e → K Y m = K X m) → Run Y s rs e
  | [], _, _, h, _ => h
  | r :: t, s, e, ⟨h0, h1, h2, h3⟩, hk => by
    have := h3.le
    refine ⟨h0, h1, fun i j a1 a2 a3 => ?_, h3.congr fun m m1 m2 => hk m (by omega) m2⟩
    rw [hk i a1 (by omega), hk j (by omega) (by omega)]
    exact h2 i j a1 a2 a3
theorem Run.app : ∀ {l r s e}, Run X s (l ++ r) e ↔ ∃ m, Run X s l m ∧ Run X m r e
  | [], r, s, e => ⟨fun h => ⟨s, rfl, h⟩, fun ⟨m, h1, h2⟩ => by unfold Run at h1; subst h1; exact h2⟩
  | a :: l, r, s, e => ⟨fun ⟨h0, h1, h2, h3⟩ => by
      obtain ⟨m, a1, a2⟩ := Run.app.mp h3
      exact ⟨m, ⟨h0, h1, h2, a1⟩, a2⟩, fun ⟨m, ⟨h0, h1, h2, h3⟩, h4⟩ => ⟨h0, h1, h2, Run.app.mpr ⟨m, h3, h4⟩⟩⟩
theorem Run.same : ∀ {rs rs' s e}, Run X s rs e → rs.map (fun r => (r.1, r.2.1)) = rs'.map (fun r => (r.1, r.2.1)) → Run X s rs' e
  | [], [], _, _, h, _ => h
  | a :: t, b :: t', s, e, ⟨h0, h1, h2, h3⟩, hm => by
    simp only [List.map_cons, List.cons.injEq, Prod.mk.injEq] at hm
    obtain ⟨⟨e1, e2⟩, e3⟩ := hm
    refine ⟨e1 ▸ h0, e2 ▸ h1, e2 ▸ h2, ?_⟩
    rw [← e2]; exact h3.same e3
  | [], _ :: _, _, _, _, hm => by simp at hm
  | _ :: _, [], _, _, _, hm => by simp at hm
end run

theorem modify_keep {α β : Type} {f : α → α} {g : α → β} (h : ∀ x, g (f x) = g x) : ∀ (l : List α) (i : Nat), (l.modify i f).map g = l.map g
  | [], i => by simp
  | a :: t, 0 => by simp [h]
  | a :: t, i + 1 => by simp [modify_keep h t i]

section
variable [SK] {prog : Program} {w : World} {A : Around} {E : Value → Shared → Prop} {s : Shared} [LtOk prog w A E s] {st : SortSt} {a₀ : Array Keyed}

structure Pd (a₀ : Array Keyed) (lo : Nat) (rs : List (Nat × Nat × Nat)) (st : SortSt) : Prop where
  base : Bs a₀ st
  pend : pendingOf st = rs.toArray
  run : Run (arrOf st) 0 rs lo
  top : lo ≤ a₀.size

theorem wp_mat' {lo i : Nat} {rs : List (Nat × Nat × Nat)} {Q : Bool → SortSt → Prop} (h0 : ∀ p, p ∈ a₀.toList → isN p) (hP : Pd a₀ lo rs st) (hi : i + 1 < rs.length)
    (h : ∀ rs' st', Pd a₀ lo rs' st' → rs'.length + 1 = rs.length → (∀ m, lo ≤ m → K (arrOf st') m = K (arrOf st) m) → Q true st') :
    wpS (model prog w) A E s (mergeAt' i) Q st := by
  obtain ⟨L, r1, r2, T, e, hL⟩ : ∃ L r1 r2 T, rs = L ++ r1 :: r2 :: T ∧ i = L.length := by
    refine ⟨rs.take i, rs[i], rs[i + 1], rs.drop (i + 2), ?_, by simp; omega⟩
    rw [← List.drop_eq_getElem_cons, ← List.drop_eq_getElem_cons, List.take_append_drop]
  obtain ⟨sa, na, p⟩ := r1
  obtain ⟨sb, nb, p'⟩ := r2
  have hr := hP.run
  rw [e] at hr
  obtain ⟨m, hl, rfl, b1, b2, rfl, c1, c2, ht⟩ := Run.app.mp hr
  dsimp only at b1 b2 c1 c2 ht
  have t1 := ht.le
  have t2 := hP.top
  refine wp_mat h0 hP.base (e ▸ hP.pend) hL rfl b1 c1 (by omega) b2 c2 fun st' d1 d2 d3 d4 => ?_
  refine h _ st' ⟨d1, d2, Run.app.mpr ⟨sa, hl.congr fun m _ m2 => d4 m (.inl m2), rfl, by show 1 ≤ na + nb; omega, ?_, ?_⟩, t2⟩ (by rw [e]; simp; omega)
    (fun m m1 => d4 m (.inr (by omega)))
  · show Srt _ sa (sa + (na + nb)); rw [← Nat.add_assoc]; exact d3
  · show Run _ (sa + (na + nb)) T lo; rw [← Nat.add_assoc]; exact ht.congr fun m m1 _ => d4 m (.inr m1)

theorem wp_runs {Q : Unit → SortSt → Prop} (h0 : ∀ p, p ∈ a₀.toList → isN p) (hB : Bs a₀ st) (hp : pendingOf st = #[]) (h2 : 2 ≤ a₀.size)
    (h : ∀ st', (arrOf st').Perm a₀ → failedOf st' = none → Srt (arrOf st') 0 a₀.size → Q () st') : wpS (model prog w) A E s sortRuns' Q st := by
  refine wpS_bind (wpS_get ?_)
  have hsize := hB.size
  refine wpS_bind (wpS_mono (wp_loop
    (I := fun x c st' => ∃ lo rs, c = (none, lo) ∧ Pd a₀ lo rs st' ∧ (x ≤ lo ∨ lo = a₀.size))
    (Q := fun c st' => ∃ rs, c = (none, a₀.size) ∧ Pd a₀ a₀.size rs st') ?big ?bigEnd ⟨0, [], rfl, ⟨hB, hp, rfl, Nat.zero_le _⟩, .inl (Nat.le_refl _)⟩) ?after)
  case bigEnd =>
    rintro c st' ⟨lo, rs, rfl, hP, hx⟩
    have := hP.top
    change (arrOf st).size ≤ lo ∨ lo = a₀.size at hx
    obtain rfl : lo = a₀.size := by omega
    exact ⟨rs, rfl, hP⟩
  case big =>
    rintro x c st' hx ⟨lo, rs, rfl, hP, hxx⟩
    refine (fun (H : wpS (model prog w) A E s (ite (lo ≥ (arrOf st).size) _ _) _ st') => H) ?_
    by_cases c1 : lo ≥ (arrOf st).size
    · rw [if_pos c1]
      have := hP.top
      obtain rfl : lo = a₀.size := by omega
      exact wpS_pure ⟨rs, rfl, hP⟩
    rw [if_neg c1]
    refine wpS_bind (wp_count h0 hP.base (by show lo + ((arrOf st).size - lo) ≤ _; omega) (by show 1 ≤ (arrOf st).size - lo; omega) fun m st2 m1 m2 hg hs => ?_)
    change m ≤ (arrOf st).size - lo at m2
    change Go a₀ lo st' st2 at hg
    change Srt (arrOf st2) lo (lo + m) at hs
    have hP2 : Pd a₀ lo rs st2 := ⟨hg.base, hg.pend.trans hP.pend, hP.run.congr fun m _ m2 => hg.low m m2, hP.top⟩
    refine (fun (H : wpS (model prog w) A E s _ _ st2) => H) ?_
    dsimp -zeta only
    extract_lets -underBinder +onlyGivenNames n0 jp
    have hjp : ∀ (u : Unit) n st3, 1 ≤ n → lo + n ≤ a₀.size → Pd a₀ lo rs st3 → Srt (arrOf st3) lo (lo + n) →
        wpS (model prog w) A E s (jp u n) (SQ (fun c st' => ∃ rs, c = (none, a₀.size) ∧ Pd a₀ a₀.size rs st')
          (fun c st' => ∃ lo rs, c = (none, lo) ∧ Pd a₀ lo rs st' ∧ (x + 1 ≤ lo ∨ lo = a₀.size))) st3 := by
      intro u n st3 n1 n2 hP3 hs3
      refine wpS_bind (wpS_get ?_)
      extract_lets -underBinder +onlyGivenNames jp2
      have hjp2 : ∀ (u : Unit) st4 rs', Pd a₀ lo rs' st4 → Srt (arrOf st4) lo (lo + n) →
          wpS (model prog w) A E s (jp2 u) (SQ (fun c st' => ∃ rs, c = (none, a₀.size) ∧ Pd a₀ a₀.size rs st')
            (fun c st' => ∃ lo rs, c = (none, lo) ∧ Pd a₀ lo rs st' ∧ (x + 1 ≤ lo ∨ lo = a₀.size))) st4 := by
        intro u st4 rs' hP4 hs4
        refine wpS_bind (wpS_modify (wpS_pure ⟨lo + n, rs' ++ [(lo, n, 0)], rfl, ⟨⟨hP4.base.perm, hP4.base.kind, hP4.base.fail⟩, ?_, ?_, n2⟩, by omega⟩))
        · show (pendingOf st4).push (lo, n, 0) = _
          rw [hP4.pend]; simp
        · exact Run.app.mpr ⟨lo, hP4.run, rfl, n1, hs4, rfl⟩
      cases hb : (pendingOf st3).back? with
      | none =>
        exact hjp2 () st3 rs hP3 hs3
      | some r =>
        obtain ⟨s1, l1, p1⟩ := r
        refine wpS_bind (wpS_mono (wp_loop
          (I := fun x c st4 => c = (none, ()) ∧ ∃ rs', Pd a₀ lo rs' st4 ∧ Srt (arrOf st4) lo (lo + n))
          (Q := fun c st4 => c = (none, ()) ∧ ∃ rs', Pd a₀ lo rs' st4 ∧ Srt (arrOf st4) lo (lo + n)) ?_ (fun c st4 hh => hh) ⟨rfl, rs, hP3, hs3⟩) ?_)
        · rintro x' c st4 _ ⟨rfl, rs', hP4, hs4⟩
          refine wpS_bind (wpS_get ?_)
          have hsz : (pendingOf st4).size = rs'.length := by rw [hP4.pend]; simp
          dsimp only
          by_cases c2 : (pendingOf st4).size > 1
          · rw [if_pos c2]
            cases hq : (pendingOf st4)[(pendingOf st4).size - 2]? with
            | none => exact wpS_pure ⟨rfl, rs', hP4, hs4⟩
            | some r =>
              obtain ⟨x1, x2, older⟩ := r
              dsimp only
              split
              · exact wpS_pure ⟨rfl, rs', hP4, hs4⟩
              · refine wpS_bind (wp_mat' h0 hP4 (by show (pendingOf st4).size - 2 + 1 < _; omega) fun rs5 st5 hP5 _ hk => ?_)
                refine wpS_pure ⟨rfl, rs5, hP5, fun i j i1 i2 i3 => ?_⟩
                rw [hk i i1, hk j (by omega)]; exact hs4 i j i1 i2 i3
          · rw [if_neg c2]
            exact wpS_pure ⟨rfl, rs', hP4, hs4⟩
        · rintro c st4 ⟨rfl, rs', hP4, hs4⟩
          refine wpS_bind (wpS_modify (hjp2 () _ (rs'.modify (rs'.length - 1) fun r => (r.1, r.2.1, power' (arrOf st).size (2 * s1 + l1) (2 * s1 + l1 + l1 + n) (arrOf st).size)) ⟨⟨hP4.base.perm, hP4.base.kind, hP4.base.fail⟩, ?_, ?_, hP4.top⟩ hs4))
          · refine (fun (H : (pendingOf st4).modify ((pendingOf st4).size - 1) (fun r => (r.1, r.2.1, power' (arrOf st).size (2 * s1 + l1) (2 * s1 + l1 + l1 + n) (arrOf st).size)) = _) => H) ?_
            rw [hP4.pend]
            apply Array.toList_inj.mp
            simp
          · exact hP4.run.same (modify_keep (f := fun r => (r.1, r.2.1, power' (arrOf st).size (2 * s1 + l1) (2 * s1 + l1 + l1 + n) (arrOf st).size)) (fun _ => rfl) _ _).symm
    by_cases c2 : m < minRun' (arrOf st).size (arrOf st).size 0
    · refine wp_yes (c := m < minRun' (arrOf st).size (arrOf st).size 0) c2 ?_
      refine wpS_bind (wpS_lift (wpAny_rule ⟨rfl, ?_⟩))
      refine wpS_bind (wp_bins h0 hg.base (n := min ((arrOf st).size - lo) (minRun' (arrOf st).size (arrOf st).size 0)) (by omega) m1 (by omega) hs fun st3 hg3 hs3 => ?_)
      exact hjp () (min ((arrOf st).size - lo) (minRun' (arrOf st).size (arrOf st).size 0)) st3 (by omega) (by omega) ⟨hg3.base, hg3.pend.trans hP2.pend, hP2.run.congr fun m _ m2 => hg3.low m m2, hP2.top⟩ hs3
    · refine wp_no (c := m < minRun' (arrOf st).size (arrOf st).size 0) c2 ?_
      exact hjp () m st2 m1 (by omega) hP2 hs
  case after =>
    rintro c st' ⟨rs, rfl, hP⟩
    refine (fun (H : wpS (model prog w) A E s _ Q st') => H) ?_
    dsimp only
    have hlen := hP.run.le
    refine wpS_bind (wpS_mono (wp_loop
      (I := fun x c st4 => c = (none, ()) ∧ ∃ rs', Pd a₀ a₀.size rs' st4 ∧ (rs'.length + x ≤ a₀.size ∨ rs'.length ≤ 1))
      (Q := fun c st4 => c = (none, ()) ∧ ∃ rs', Pd a₀ a₀.size rs' st4 ∧ rs'.length ≤ 1) ?_ ?_ ⟨rfl, rs, hP, .inl (by omega)⟩) ?_)
    · rintro x' c st4 _ ⟨rfl, rs', hP4, hl4⟩
      refine wpS_bind (wpS_get ?_)
      have hsz : (pendingOf st4).size = rs'.length := by rw [hP4.pend]; simp
      by_cases c2 : (pendingOf st4).size ≤ 1
      · rw [if_pos c2]
        exact wpS_pure ⟨rfl, rs', hP4, by omega⟩
      rw [if_neg c2]
      refine wpS_bind (wp_mat' h0 hP4 ?_ fun rs5 st5 hP5 hl5 _ => wpS_pure ⟨rfl, rs5, hP5, by omega⟩)
      have key : ∀ j, j ≤ (pendingOf st4).size - 2 → j + 1 < rs'.length := by omega
      refine key _ ?_
      repeat' split
      all_goals first
        | exact Nat.le_refl _
        | exact Nat.sub_le _ _
    · rintro c st4 ⟨rfl, rs', hP4, hl4⟩
      change rs'.length + (arrOf st).size ≤ a₀.size ∨ rs'.length ≤ 1 at hl4
      exact ⟨rfl, rs', hP4, by omega⟩
    · rintro c st4 ⟨rfl, rs', hP4, hl4⟩
      refine wpS_pure (h st4 hP4.base.perm hP4.base.fail ?_)
      have hr := hP4.run
      match rs', hl4, hr with
      | [], _, hr => unfold Run at hr; omega
      | [r], _, ⟨_, _, e1, e2⟩ =>
        unfold Run at e2
        intro i j i0 i1 i2
        exact e1 i j i0 i1 (by omega)
end
end TS

set_option linter.all false
set_option maxRecDepth 100000
namespace TS
open PySem PyProof PyProof.Rows
section
variable {prog : Program} {w : World} {k : Type} [DecidableEq k] {knd : KeyKind prog w k} {A : Around} {E : Value → Shared → Prop} {s : Shared}

theorem collect_dict {d : Addr} {kvs : List (k × Value)} {ep : Nat} {Q : List Value → Shared → Prop} (hh : A.handled = none) (hd : (d == sysModules) = false) (hm : s.heap.DictAt knd d kvs ep) (hn : kvs.length ≤ sizeLine)
    (hQ : ∀ s' acc, (∀ b o, s.heap.get? b = some o → s'.heap.get? b = some o) → s'.gens = s.gens → s'.drawn = s.drawn → s'.os = s.os → s.toks ≤ s'.toks →
      ItemsOf (fun i v => ∃ key x, kvs[i]? = some (key, x) ∧ knd.is key v = true) acc kvs.length → Q acc.toList s') : wpAny (model prog w) A (collect (.ref d)) Q E s := by
  let L : Obj := { cls := .type "list", data := .seq ([] : List Value).toArray }
  have hdlt := hm.lt_size
  have hSd : s.heap.objs.size ≠ d := Nat.ne_of_gt hdlt
  unfold collect
  refine wpAny_bind (wpAny_runValue (codeAny_builtin F.entry_proto_collect ?_))
  rw [Around.under_plainId F.plain_proto_collect _]
  refine (show wpAny _ A.in1 (newList [] >>= fun l => again (.builtin "list.__iadd__" ⟨[l, .ref d], []⟩)) _ _ s from wpAny_bind (wpAny_newObj_type (wpAny_pure ⟨plainId_quiet F.plain_list_iadd _, codeAny_builtin F.entry_list_iadd ?_⟩)))
  rw [Around.under_plainId F.plain_list_iadd _]
  have hm1 : (s.heap.push L).DictAt knd d kvs ep := hm.push _
  have hT : ({ s with heap := s.heap.push L } : Shared).TypeIs (.ref d) "dict" := hm1.dictOf.typeIs (s := { s with heap := s.heap.push L })
  have hS : (s.heap.push L).get? s.heap.objs.size = some L := Heap.get?_push_size _ rfl
  refine (show wpAny _ A.in1 (Builtin.List.listExtendWith (.ref s.heap.objs.size) (.ref d) (.ref s.heap.objs.size)) _ _ { s with heap := s.heap.push L } from ?_)
  unfold Builtin.List.listExtendWith
  refine wpAny_bind (wpAny_typeOf hT ?_)
  rw [if_neg (by rw [show Builtin.List.listSameRef (.ref s.heap.objs.size) (.ref d) = false by simp [Builtin.List.listSameRef, hSd]]; decide)]
  refine wpAny_bind (wpAny_pyIter_dict hd hm1 (wpAny_bind (wpAny_holding ?_)))
  unfold Builtin.List.listLengthHint
  let I : Addr := (s.heap.push L).objs.size
  let h2 : Heap := (s.heap.push L).push { cls := .type "dict_keyiterator", data := .fields #[.ref d, .int 0 0, .int kvs.length 0, .int ep 0] }
  have hm2 : h2.DictAt knd d kvs ep := hm1.push _
  have hT2 : ({ s with heap := h2 } : Shared).TypeIs (.ref d) "dict" := hm2.dictOf.typeIs (s := { s with heap := h2 })
  refine wpAny_bind (wpAny_specialOf (name := Str.ofString "__len__") hT2 F.slot_dict_len.lookup ?_)
  generalize hid : ("dict.__len__" : String) = id0
  (fail_if_success (clear hid id0))
  wp_delta
  rw [show splitId id0 = some ("dict", "__len__") from by subst hid; decide +kernel]
  subst hid
  refine wpAny_bind (wpAny_isInstance (b := true) hT2 (by rw [isSubtype_type]; kernel_rfl) ?_)
  rw [if_neg (by decide)]
  refine (fun (H : wpAny (model prog w) A.in1 (ite _ _ _) _ _ _) => H) ?_
  rw [if_pos (by decide +kernel)]
  refine wpAny_bind (wpAny_typeOf hT2 (wpAny_pure ?_))
  rw [if_pos (by decide +kernel)]
  let S : Addr := s.heap.objs.size
  have hSI : S ≠ I := Nat.ne_of_lt (show s.heap.objs.size < (s.heap.push L).objs.size by rw [size_push']; exact Nat.lt_succ_self _)
  have hdI : d ≠ I := Nat.ne_of_lt (show d < (s.heap.push L).objs.size by rw [size_push']; exact Nat.lt_succ_of_lt hdlt)
  have hS2 : h2.get? S = some L := Heap.get?_push_of_some _ hS
  have hS3 := Heap.get?_update_self (Obj.mapSeq (·.push Value.none)) hS2 rfl
  have hS4 := Heap.get?_update_self (Obj.mapSeq (·.pop)) hS3 rfl
  have oth : ∀ b o, b ≠ S → h2.get? b = some o → ((h2.update S (Obj.mapSeq (·.push Value.none))).update S (Obj.mapSeq (·.pop))).get? b = some o :=
    fun b o hb e => (Heap.get?_update_other _ _ (Ne.symm hb)).trans ((Heap.get?_update_other _ _ (Ne.symm hb)).trans e)
  have W := (Walks.dictKeys (knd := knd) (prog := prog) (w := w) (A := A.in1) hh I d hdI kvs ep).toS
  have hit2 : h2.IsKeyIter I d 0 kvs.length ep := ⟨_, Heap.get?_push_size _ rfl, rfl, rfl⟩
  refine wpAny_bind (wpAny_rule (wpAny_bind (show wpAny _ A.in1 (updateSeq S (·.push .none) >>= fun _ => updateSeq S (·.pop)) _ _ { s with heap := h2 } from wpAny_bind (wpAny_updateSeq (s := { s with heap := h2 }) hS2 rfl (wpAny_updateSeq (s := { s with heap := h2.update S (Obj.mapSeq (·.push Value.none)) }) hS3 rfl ?_)))))
  refine wpAny_pure ⟨plainId_quiet F.plain_extend_loop _, codeAny_extend_loopS W hn S (fun z => (List.mem_cons.mp z).elim hSI fun z => hSd (List.mem_singleton.mp z)) _ kvs.length 0 _ _ _ rfl (Nat.zero_le _)
    ⟨hit2.at fun o e => oth _ _ (Ne.symm hSI) e, hm2.at' fun o e => oth _ _ (Ne.symm hSd) e⟩ hS4 (ItemsOf.nil _) fun s' acc c hmv hS' hacc => ?_⟩
  refine (show wpAny _ A (load S >>= _) _ _ s' from wpAny_bind (wpAny_load hS' (wpAny_pure (hQ s' acc (fun b o e => ?_) hmv.gens hmv.drawn hmv.os hmv.toks hacc))))
  have hb : b < s.heap.objs.size := Heap.lt_size e
  refine hmv.heap b o (fun z => ?_) (oth b o (Nat.ne_of_lt hb) (Heap.get?_push_of_some _ (Heap.get?_push_of_some _ e)))
  rcases List.mem_cons.mp z with z | z
  · exact Nat.ne_of_lt hb z
  · have z := List.mem_singleton.mp z
    have e2 : I = s.heap.objs.size + 1 := size_push' _ _
    exact Nat.lt_irrefl _ (Nat.lt_of_lt_of_le hb (by rw [z, e2]; exact Nat.le_succ _))
end
end TS

set_option linter.all false
set_option maxRecDepth 100000
namespace TS
open PySem PyProof PyProof.Rows

theorem zip_self (vs : List Value) : (vs.toArray.zip vs.toArray).toList = vs.map fun v => (v, v) := by
  rw [Array.toList_zip]
  show vs.zip vs = _
  induction vs with
  | nil => rfl
  | cons v r ih => simp [ih]

section
variable [SK] {prog : Program} {w : World} {A : Around} {E : Value → Shared → Prop} {s : Shared}

theorem out_of {vs : List Value} {X : Array Keyed} (hp : X.Perm (vs.toArray.zip vs.toArray)) (hs : Srt X 0 (vs.toArray.zip vs.toArray).size) :
    (X.map (·.2)).toList.Perm vs ∧ (X.map (·.2)).toList.Pairwise fun u v => N (u, u) ≤ N (v, v) := by
  have hpl := Array.perm_iff_toList_perm.mp hp
  rw [zip_self] at hpl
  have hsz : X.size = (vs.toArray.zip vs.toArray).size := hp.size_eq
  have hdiag : ∀ p ∈ X.toList, p = (p.2, p.2) := fun p hm => by
    obtain ⟨v, _, rfl⟩ := List.mem_map.mp (hpl.mem_iff.mp hm)
    rfl
  rw [Array.toList_map]
  refine ⟨by simpa [List.map_map, Function.comp_def] using hpl.map (·.2), ?_⟩
  rw [List.pairwise_map, List.pairwise_iff_getElem]
  intro i j hi hj hij
  have hi' : i < X.size := by simpa using hi
  have hj' : j < X.size := by simpa using hj
  have := hs i j (Nat.zero_le _) (Nat.le_of_lt hij) (hsz ▸ hj')
  rw [K_some (getElem?_pos X i hi'), K_some (getElem?_pos X j hj')] at this
  rw [← hdiag _ (List.getElem_mem hi), ← hdiag _ (List.getElem_mem hj)]
  exact this

theorem list_sort_any {a : Addr} {vs : List Value} {n : Nat} {P : PySem.Fin → Shared → Prop} (ho : s.heap.get? a = some (seqObj "list" vs.toArray n)) (hz : vs.length ≤ sizeLine)
    (hkind : 2 ≤ vs.length → ∀ (h' : Heap) (Q : SortKind → Shared → Prop), (∀ b o, b ≠ a → s.heap.get? b = some o → h'.get? b = some o) → Q SK.kind { s with heap := h' } →
      wpAny (model prog w) A (keyKind' vs.toArray) Q E { s with heap := h' })
    (hlt : ∀ h' : Heap, (∀ b o, b ≠ a → s.heap.get? b = some o → h'.get? b = some o) → LtOk prog w A E { s with heap := h' })
    (hok : ∀ v ∈ vs, isN (v, v))
    (h : ∀ out : Array Value, out.toList.Perm vs → (out.toList.Pairwise fun u v => N (u, u) ≤ N (v, v)) → P (.done (.ret .none)) { s with heap := sortedHeap s.heap a vs out }) :
    wpAny (model prog w) A (Builtin.«list.sort» ⟨[.ref a], []⟩) P E s := by
  rw [list_sort_plain]
  have ha : a < s.heap.objs.size := Heap.lt_size ho
  obtain ⟨e1, ho1⟩ : ∃ e1, (s.heap.update a (Obj.mapSeq fun _ => #[])).get? a = some (seqObj "list" #[] e1) := ⟨_, get?_update_seq ho (fun _ => #[])⟩
  let h3 : Heap := ((s.heap.update a (Obj.mapSeq fun _ => #[])).push (seqObj "tuple" vs.toArray 0)).push (seqObj "list" #[] 0)
  have keep : ∀ b o, b ≠ a → s.heap.get? b = some o → h3.get? b = some o := fun b o hb e =>
    Heap.get?_push_of_some _ (Heap.get?_push_of_some _ ((Heap.get?_update_other _ _ (Ne.symm hb)).trans e))
  have ho3 : h3.get? a = some (seqObj "list" #[] e1) := Heap.get?_push_of_some _ (Heap.get?_push_of_some _ ho1)
  have hsz : vs.toArray.size = vs.length := by simp
  refine wpAny_bind (listItems_at ho rfl (wpAny_bind (listUpdate_at ho rfl (wpAny_bind (seqEpoch_at ho1 rfl (wpAny_bind (wpAny_newTuple (wpAny_bind (wpAny_newList (wpAny_holding ?_) (Nat.zero_le _))) hz)))) (by rw [hsz]; exact hz) (Nat.zero_le _))))
  have fin : ∀ st' : SortSt, (arrOf st').Perm (vs.toArray.zip vs.toArray) → failedOf st' = none → Srt (arrOf st') 0 (vs.toArray.zip vs.toArray).size →
      wpAny (model prog w) A (do
        let touched := (← seqEpoch a) != e1
        Builtin.List.listUpdate (.ref a) fun _ => (arrOf st').map (·.2)
        if let some e := failedOf st' then rule "list.sort.comparison-raised"; throw e
        if touched then rule "list.sort.modified"; raiseError "ValueError" "list modified during sort"
        ret .none) P E { s with heap := h3 } := by
    intro st' hp hf hs
    obtain ⟨o1, o2⟩ := out_of hp hs
    refine wpAny_bind (seqEpoch_at ho3 rfl (wpAny_bind (listUpdate_at ho3 rfl ?_ (Nat.zero_le _) ?_)))
    · rw [hf]
      simp only [bne_self_eq_false, Bool.false_eq_true, if_false]
      exact wpAny_pure (h _ o1 o2)
    · have := o1.length_eq
      rw [Array.length_toList] at this
      exact Nat.le_succ_of_le (this ▸ hz)
  refine (show wpAny (model prog w) A _ P E { s with heap := h3 } from ?_)
  by_cases h2 : vs.toArray.size < 2
  · dsimp only
    rw [if_pos h2, if_pos h2]
    refine wpAny_bind (wpAny_pure ?_)
    rw [StateT.run_pure]
    refine wpAny_bind (wpAny_pure (fin (SortSt.mk' general' (vs.toArray.zip vs.toArray) #[] 7 none) (Array.Perm.refl _) rfl ?_))
    intro i j _ hij hj
    obtain rfl : i = j := by simp at hj; omega
    exact Int.le_refl _
  · dsimp only
    rw [if_neg h2, if_neg h2]
    refine wpAny_bind (hkind (by omega) h3 _ keep ?_)
    have := hlt h3 keep
    refine wpAny_bind (wpAny_mono (wp_runs (s := { s with heap := h3 }) (a₀ := vs.toArray.zip vs.toArray) (st := SortSt.mk' SK.kind (vs.toArray.zip vs.toArray) #[] 7 none)
      (Q := fun _ st' => (arrOf st').Perm (vs.toArray.zip vs.toArray) ∧ failedOf st' = none ∧ Srt (arrOf st') 0 (vs.toArray.zip vs.toArray).size)
      (fun p hp => ?_) ⟨Array.Perm.refl _, rfl, rfl⟩ rfl (by simp; omega) fun st' a1 a2 a3 => ⟨a1, a2, a3⟩) ?_ fun _ _ e => e)
    · rw [zip_self] at hp
      obtain ⟨v, hv, rfl⟩ := List.mem_map.mp hp
      exact hok v hv
    · rintro ⟨⟨⟩, st'⟩ s' ⟨rfl, hp, hf, hs⟩
      exact fin st' hp hf hs

end
section
variable {prog : Program} {w : World} {A : Around} {E : Value → Shared → Prop} {s : Shared}
theorem sorted_any {x : Value} {Q : Value → Shared → Prop} {R : Shared → List Value → Prop}
    (hc : wpAny (model prog w) A.in1 (collect x) (fun vs s1 => R s1 vs) E s)
    (h : ∀ s1 vs, R s1 vs → wpAny (model prog w) A.in1 (newList vs >>= fun l => holding [l] (call (.builtin "list.sort") [l]) >>= fun _ => ret l) (fun fin s' => ∃ r, fin = .done (.ret r) ∧ Q r s') E s1) :
    wpAny (model prog w) A (call (.builtin "sorted") [x]) Q E s := by
  refine Calls.call_function_entry kind_sorted plain_sorted entry_sorted (args_sorted1 _) ?_
  unfold Builtin.«sorted»
  refine wpAny_bind (m := checkCount "sorted" 1 1 _) (wpAny_pure ?_)
  refine wpAny_bind (wpAny_mono hc (fun vs s1 hr => h s1 vs hr) fun _ _ e => e)
end
end TS

set_option Elab.async false
set_option linter.all false
set_option maxRecDepth 100000
set_option maxHeartbeats 1000000
namespace TS
open PySem PyProof PyProof.Rows
/-! numbers, and triples of numbers -/
@[reducible] noncomputable def skI : SK := ⟨fun p => numOf p.1, fun p => ∃ n t, p.1 = .int n t, oneType'⟩
theorem ltI {prog : Program} {w : World} {A : Around} {E : Value → Shared → Prop} {s : Shared} : @LtOk skI prog w A E s := by
  refine @LtOk.mk skI prog w A E s ?_
  rintro st p q Q hk ⟨n, t, hp⟩ ⟨n', t', hq⟩ h
  have e1 : @N skI p = n := by show numOf p.1 = n; rw [hp]; rfl
  have e2 : @N skI q = n' := by show numOf q.1 = n'; rw [hq]; rfl
  rw [e1, e2] at h
  rw [lt'_eq, hp, hq]
  refine wpS_bind (wpS_get ?_)
  rw [show kindOf st = oneType' from hk, keyLt'_oneType]
  exact wpS_bind (wpS_lift (wpAny_attempt (oneLt_int ⟨rfl, wpS_pure h⟩)))

theorem kindI {prog : Program} {w : World} {A : Around} {E : Value → Shared → Prop} {s : Shared} {vs : List Value} {ns : List Int} {Q : SortKind → Shared → Prop} (hI : IntsAre vs ns) (h2 : 2 ≤ vs.length) (h : Q oneType' s) : wpAny (model prog w) A (keyKind' vs.toArray) Q E s := by
  match vs, h2, hI with
  | v₁ :: v₂ :: r, _, hI => rw [keyKind_ints hI]; exact wpAny_pure h

section
variable [SK] {prog : Program} {w : World} {A : Around} {E : Value → Shared → Prop} {s : Shared}
theorem sort_new {vs : List Value} {Q : Value → Shared → Prop} (hz : vs.length ≤ sizeLine)
    (hkind : 2 ≤ vs.length → ∀ (A : Around) (E : Value → Shared → Prop) (h' : Heap) (Q : SortKind → Shared → Prop), (∀ b o, s.heap.get? b = some o → h'.get? b = some o) → Q SK.kind { s with heap := h' } →
      wpAny (model prog w) A (keyKind' vs.toArray) Q E { s with heap := h' })
    (hlt : ∀ (A : Around) (E : Value → Shared → Prop) (h' : Heap), (∀ b o, s.heap.get? b = some o → h'.get? b = some o) → LtOk prog w A E { s with heap := h' })
    (hok : ∀ v ∈ vs, isN (v, v))
    (h : ∀ (out : Array Value) (h' : Heap), out.toList.Perm vs → (out.toList.Pairwise fun u v => N (u, u) ≤ N (v, v)) → (∀ b o, s.heap.get? b = some o → h'.get? b = some o) →
      (∃ e, h'.get? s.heap.objs.size = some (seqObj "list" out e)) → Q (.ref s.heap.objs.size) { s with heap := h' }) :
    wpAny (model prog w) A (newList vs >>= fun l => holding [l] (call (.builtin "list.sort") [l]) >>= fun _ => ret l) (fun fin s' => ∃ r, fin = .done (.ret r) ∧ Q r s') E s := by
  let h1 : Heap := s.heap.push (seqObj "list" vs.toArray 0)
  have hoL : h1.get? s.heap.objs.size = some (seqObj "list" vs.toArray 0) := Heap.get?_push_size _ rfl
  have up : ∀ (h' : Heap), (∀ b o, b ≠ s.heap.objs.size → h1.get? b = some o → h'.get? b = some o) → ∀ b o, s.heap.get? b = some o → h'.get? b = some o := fun h' hk b o e =>
    hk b o (Nat.ne_of_lt (Heap.lt_size e)) (Heap.get?_push_of_some _ e)
  refine wpAny_bind (wpAny_newList ?_ hz)
  refine wpAny_bind (wpAny_holding (wpAny_call_entry (s := { s with heap := h1 }) slot_list_sort ⟨_, hoL, rfl⟩ entry_list_sort (list_sort_any hoL hz (fun h2 h' Q hk hq => hkind h2 _ _ h' Q (up h' hk) hq) (fun h' hk => hlt _ _ h' (up h' hk)) hok fun out o1 o2 => ⟨_, rfl, ?_⟩) (args_list_sort _)))
  refine wpAny_pure ⟨_, rfl, h out _ o1 o2 (fun b o e => ?_) (sortedHeap_at hoL)⟩
  have hb : b < s.heap.objs.size := Heap.lt_size e
  rw [sortedHeap_old (Nat.ne_of_lt hb) (show b < h1.objs.size by show b < (s.heap.push _).objs.size; rw [size_push']; exact Nat.lt_succ_of_lt hb)]
  exact Heap.get?_push_of_some _ e
end
end TS

set_option Elab.async false
set_option linter.all false
set_option maxRecDepth 100000
set_option maxHeartbeats 1000000
namespace L2
open PySem PySem.Spec PyProof.Rows TS
theorem ints_get : ∀ {us : List Value} {ns : List Int}, us.length = ns.length → (∀ (j : Nat) v i, us[j]? = some v → ns[j]? = some i → ∃ t, v = .int i t) → IntsAre us ns
  | [], [], _, _ => .nil
  | u :: us, n :: ns, hl, h => by
    obtain ⟨t, rfl⟩ := h 0 u n rfl rfl
    exact .cons _ _ (ints_get (by simpa using hl) fun j v i e1 e2 => h (j + 1) v i (by simpa using e1) (by simpa using e2))
  | [], _ :: _, hl, _ => by simp at hl
  | _ :: _, [], hl, _ => by simp at hl
theorem ints_nums : ∀ {us : List Value} {ns : List Int}, IntsAre us ns → us.map numOf = ns ∧ ∀ u ∈ us, ∃ n t, u = .int n t
  | _, _, .nil => ⟨rfl, fun _ h => nomatch h⟩
  | _, _, .cons n t h => by
    obtain ⟨a, b⟩ := ints_nums h
    refine ⟨by rw [List.map_cons, a]; rfl, fun u hu => ?_⟩
    rcases List.mem_cons.mp hu with rfl | hu
    · exact ⟨n, t, rfl⟩
    · exact b u hu
theorem vals_nums : ∀ {us : List Value}, (∀ u ∈ us, ∃ n t, u = .int n t) → Vals ((us.map numOf).map V.int) us
  | [], _ => .nil
  | u :: us, h => by
    obtain ⟨n, t, rfl⟩ := h u List.mem_cons_self
    exact .cons ⟨t, rfl⟩ (vals_nums fun v hv => h v (List.mem_cons_of_mem _ hv))
theorem Inv.at_ {X : Cx} {pins : List (Addr × Obj)} {σ : St} {H : Hp} {s s1 : Shared} (I : Inv X pins σ H s) (k : ∀ b o, s.heap.get? b = some o → s1.heap.get? b = some o) (hg : s1.gens = s.gens) (hd : s1.drawn = s.drawn) (ho : s1.os = s.os) : Inv X pins σ H s1 := by
  have e : s1 = { s with heap := s1.heap, toks := s1.toks } := by
    obtain ⟨h1, g1, d1, t1, o1⟩ := s1
    cases hg; cases hd; cases ho
    rfl
  rw [e]
  exact I.kept (t' := s1.toks) k
section
variable {X : Cx}
theorem call_sortedD (hc : X.calm = true) : CallR X (.builtin "sorted") (fun xs H Q => ∃ (p : Addr) (kvs : List (Key × V)) (ns : List Int), xs = [.ref p] ∧ H p = some (.dK kvs) ∧ kvs.map (·.1) = ns.map Sum.inl ∧
    ∀ (l : Addr) (ns' : List Int), H l = none → ns'.Perm ns → ns'.Pairwise (· ≤ ·) → Q (.ref l) (upd H l (.lst (ns'.map V.int)))) := by
  intro pins s σ H xs us Q I r h
  obtain ⟨p, kvs, ns, rfl, hp, hns, q⟩ := h
  obtain ⟨u, rfl, ru⟩ := vals1 r
  cases ru
  obtain ⟨hz, hs, vs, hv, hD⟩ := (show ObjOk X.prog X.w H s.heap p (.dK kvs) from I.hok p _ hp)
  obtain ⟨ep, hat⟩ := hD.dictAt
  have hlv : kvs.length = vs.length := Paired.length hv
  have hln : kvs.length = ns.length := by have := congrArg List.length hns; simpa using this
  refine sorted_any (R := fun s1 us => Inv X pins σ H s1 ∧ (∀ b o, s.heap.get? b = some o → s1.heap.get? b = some o) ∧ IntsAre us ns) (collect_dict (I.ok.hd hc) hs hat (by omega) fun s1 acc k hg hd ho ht hi => ?_) ?_
  · refine ⟨I.at_ k hg hd ho, k, ints_get (by rw [Array.length_toList, hi.1]; omega) fun j v i e1 e2 => ?_⟩
    obtain ⟨key, x, g1, g2⟩ := hi.2 j v (by simpa using e1)
    have hk : (kvs.map (·.1))[j]? = some (Sum.inl i) := by rw [hns, List.getElem?_map, e2]; rfl
    rw [List.getElem?_map] at hk
    cases hkv : kvs[j]? with
    | none => rw [hkv] at hk; cases hk
    | some kv =>
      rw [hkv] at hk
      obtain ⟨y, hy, ey, _⟩ := paired_at hv hkv
      rw [g1] at hy
      cases hy
      have e : kv.1 = Sum.inl i := Option.some.inj hk
      rw [e] at ey
      subst ey
      rcases keyIs_shape (show keyIs (Sum.inl i) v = true from g2) with ⟨i', t, e3, rfl⟩ | ⟨x', t, e3, rfl⟩
      · cases e3; exact ⟨t, rfl⟩
      · cases e3
  · rintro s1 us ⟨I1, k1, hI⟩
    have hul : us.length = ns.length := by rw [← (ints_nums hI).1]; simp
    refine @sort_new skI X.prog X.w _ _ s1 us _ (by omega) (fun h2 A E h' Q hk hq => kindI (s := { s1 with heap := h' }) hI h2 hq) (fun A E h' hk => ltI) (fun v hv => ?_) fun out h' o1 o2 k2 he => ?_
    · obtain ⟨n, t, e⟩ := (ints_nums hI).2 v hv
      exact ⟨n, t, e⟩
    · obtain ⟨e, he⟩ := he
      have hall : ∀ u ∈ out.toList, ∃ n t, u = Value.int n t := fun u hu => (ints_nums hI).2 u (o1.mem_iff.mp hu)
      have fr : H s1.heap.objs.size = none := I1.hok.fresh (Nat.le_refl _)
      have hpm : (out.toList.map numOf).Perm ns := by rw [← (ints_nums hI).1]; exact o1.map numOf
      refine ⟨.ref s1.heap.objs.size, _, I1.laid (t' := s1.toks) k2 (Nat.le_refl _) (show ObjOk X.prog X.w _ h' _ (.lst ((out.toList.map numOf).map V.int)) from ⟨?_, out.toList, e, vals_nums hall, by rw [he]⟩), rfl, q _ _ fr hpm ?_⟩
      · rw [List.length_map, hpm.length_eq]; omega
      · rw [List.pairwise_map]; exact o2
end
end L2

set_option Elab.async false
set_option linter.all false
set_option maxRecDepth 100000
set_option maxHeartbeats 1000000
namespace L2
open PySem PySem.Spec PyProof.Rows TS
/-! sorted of a list of triples of numbers, the first two of them below 64, the third one by them -/
noncomputable def tri (a b m : Int) : HO := .tup [.int a, .int b, .int m]
noncomputable def cod (H : Hp) : Value → Int
  | .ref q => match H q with
    | some (.tup [.int a, .int b, _]) => a * 64 + b
    | _ => 0
  | _ => 0
@[reducible] noncomputable def skT (H : Hp) (g : Int → Int → Int) : SK :=
  ⟨fun p => cod H p.1, fun p => ∃ q a b, p.1 = .ref q ∧ H q = some (tri a b (g a b)) ∧ 0 ≤ a ∧ a < 64 ∧ 0 ≤ b ∧ b < 64, tuples' true⟩
theorem cod_tri {H : Hp} {q : Addr} {a b m : Int} (h : H q = some (tri a b m)) : cod H (.ref q) = a * 64 + b := by
  show (match H q with | some (.tup [.int a, .int b, _]) => a * 64 + b | _ => 0) = _
  rw [h]; rfl

section
variable {prog : Program} {w : World} {A : Around} {E : Value → Shared → Prop} {s : Shared} {H : Hp} {g : Int → Int → Int}
noncomputable def Tris (H : Hp) (h : Heap) : Prop := ∀ q a b m, H q = some (tri a b m) → ∃ t1 t2 t3 o n, h.get? q = some o ∧ o.cls = .type "tuple" ∧ o.data = .seq #[.int a t1, .int b t2, .int m t3] n
theorem Tris.keep {h h' : Heap} (x : Tris H h) (k : ∀ b o, h.get? b = some o → h'.get? b = some o) : Tris H h' := fun q a b m e =>
  let ⟨t1, t2, t3, o, n, e1, e2⟩ := x q a b m e; ⟨t1, t2, t3, o, n, k _ _ e1, e2⟩
theorem tris_of {P : Program} {w : World} {h : Heap} (ok : HOk P w H h) : Tris H h := fun q a b m e => by
  obtain ⟨_, its, hv, o, e1, e2, n, e3⟩ := (show ObjOk P w H h q (tri a b m) from ok q _ e)
  rcases hv with _ | ⟨⟨t1, rfl⟩, hv⟩
  rcases hv with _ | ⟨⟨t2, rfl⟩, hv⟩
  rcases hv with _ | ⟨⟨t3, rfl⟩, hv⟩
  cases hv
  exact ⟨t1, t2, t3, o, n, e1, e2, e3⟩

theorem ltT (ht : Tris H s.heap) : @LtOk (skT H g) prog w A E s := by
  refine @LtOk.mk (skT H g) prog w A E s ?_
  rintro st p q Q hk ⟨x, a, b, hp, hx, a0, a1, b0, b1⟩ ⟨y, a', b', hq, hy, a0', a1', b0', b1'⟩ h
  have e1 : @N (skT H g) p = a * 64 + b := by show cod H p.1 = _; rw [hp, cod_tri hx]
  have e2 : @N (skT H g) q = a' * 64 + b' := by show cod H q.1 = _; rw [hq, cod_tri hy]
  rw [e1, e2] at h
  obtain ⟨t1, t2, t3, ox, n, ox1, _, ox2⟩ := ht x _ _ _ hx
  obtain ⟨u1, u2, u3, oy, n', oy1, _, oy2⟩ := ht y _ _ _ hy
  rw [lt'_eq, hp, hq]
  refine wpS_bind (wpS_get ?_)
  rw [show kindOf st = tuples' true from hk]
  refine wpS_bind (wpS_lift (wpAny_attempt (PySem.W.kat_lt ox1 ox2 oy1 oy2 ?_)))
  show PySem.W.KatLex prog w A true (decide (3 < 3)) _ [(.int a t1, .int a' u1), (.int b t2, .int b' u2), (.int (g a b) t3, .int (g a' b') u3)] 0 s
  refine PySem.W.kat_cons (wpAny_eqBool_int (PySem.W.kat_go (fun e => PySem.W.kat_yes ?_) fun e => PySem.W.kat_no ?_))
  · have ea : a = a' := by simpa using e
    subst ea
    refine PySem.W.kat_cons (wpAny_eqBool_int (PySem.W.kat_go (fun e => PySem.W.kat_yes ?_) fun e => PySem.W.kat_no ?_))
    · have eb : b = b' := by simpa using e
      subst eb
      refine PySem.W.kat_cons (wpAny_eqBool_int (PySem.W.kat_go (fun e => PySem.W.kat_yes (PySem.W.kat_nil ⟨rfl, wpS_pure ?_⟩)) fun e => absurd e (by simp)))
      have : decide (a * 64 + b < a * 64 + b) = decide (3 < 3) := by simp
      rw [← this]; exact h
    · have : decide (a * 64 + b < a * 64 + b') = decide (b < b') := by
        by_cases hb : b < b'
        · rw [decide_eq_true hb, decide_eq_true (by omega)]
        · rw [decide_eq_false hb, decide_eq_false (by omega)]
      rw [this] at h
      exact PySem.W.kat_one _ _ (lt_int (show _ from ⟨rfl, wpS_pure h⟩))
  · have ea : a ≠ a' := by simpa using e
    have : decide (a * 64 + b < a' * 64 + b') = decide (a < a') := by
      by_cases hb : a < a'
      · rw [decide_eq_true hb, decide_eq_true (by omega)]
      · rw [decide_eq_false hb, decide_eq_false (by omega)]
    rw [this] at h
    exact oneLt_int ⟨rfl, wpS_pure h⟩

theorem kindT (ht : Tris H s.heap) {vs : List Value} {Q : SortKind → Shared → Prop} (hv : ∀ v ∈ vs, @isN (skT H g) (v, v)) (h2 : 2 ≤ vs.length) (h : Q (tuples' true) s) : wpAny (model prog w) A (keyKind' vs.toArray) Q E s := by
  have key : ∀ l : List Value, (∀ v ∈ l, @isN (skT H g) (v, v)) → ∃ fs, PySem.W.KatTups s.heap l fs ∧ fs.length = l.length ∧ ∀ f ∈ fs, ∃ n t, f = Value.int n t := by
    intro l
    induction l with
    | nil => exact fun _ => ⟨[], PySem.W.KatTups.nil, rfl, fun _ h => nomatch h⟩
    | cons v r ih =>
      intro hl
      obtain ⟨fs, k1, k2, k3⟩ := ih fun v hv => hl v (List.mem_cons_of_mem _ hv)
      obtain ⟨q, a, b, e, hq, _⟩ := hl v List.mem_cons_self
      obtain rfl : v = .ref q := e
      obtain ⟨t1, t2, t3, o, n, e1, e2, e3⟩ := ht q _ _ _ hq
      refine ⟨.int a t1 :: fs, PySem.W.KatTups.cons e1 e2 e3 rfl k1, by simp [k2], fun f hf => ?_⟩
      rcases List.mem_cons.mp hf with rfl | hf
      · exact ⟨a, t1, rfl⟩
      · exact k3 f hf
  obtain ⟨fs, k1, k2, k3⟩ := key vs hv
  exact PySem.W.kat_kind (T := .type "int") k1 (by omega) (fun v hv => by obtain ⟨n, t, rfl⟩ := k3 v hv; exact PySem.W.Looks.of_pure rfl) (by decide) h
end
section
variable {X : Cx}
theorem refs_of : ∀ {ps : List Addr} {us : List Value}, Vals (ps.map V.ref) us → us = ps.map Value.ref
  | [], _, .nil => rfl
  | p :: ps, _, .cons r t => by
    have e := refs_of t
    cases r
    rw [List.map_cons, e]
theorem vals_refs : ∀ (ps : List Addr), Vals (ps.map V.ref) (ps.map Value.ref)
  | [] => .nil
  | p :: ps => .cons rfl (vals_refs ps)
theorem call_sortedT : CallR X (.builtin "sorted") (fun xs H Q => ∃ (p : Addr) (ps : List Addr) (g : Int → Int → Int), xs = [.ref p] ∧ H p = some (.lst (ps.map V.ref)) ∧
    (∀ q ∈ ps, ∃ a b, H q = some (tri a b (g a b)) ∧ 0 ≤ a ∧ a < 64 ∧ 0 ≤ b ∧ b < 64) ∧
    ∀ (l : Addr) (ps' : List Addr), H l = none → ps'.Perm ps → (ps'.Pairwise fun x y => cod H (.ref x) ≤ cod H (.ref y)) → Q (.ref l) (upd H l (.lst (ps'.map V.ref)))) := by
  intro pins s σ H xs us Q I r h
  obtain ⟨p, ps, g, rfl, hp, hps, q⟩ := h
  obtain ⟨u, rfl, ru⟩ := vals1 r
  cases ru
  obtain ⟨hz, its, n, rv, e0⟩ := (show ObjOk X.prog X.w H s.heap p (.lst (ps.map V.ref)) from I.hok p _ hp)
  rw [List.length_map] at hz
  obtain rfl := refs_of rv
  refine sorted_any (R := fun s1 us => Inv X pins σ H s1 ∧ us = ps.map Value.ref) (collect_list (vs := ps.map Value.ref) ⟨_, e0, rfl, n, rfl⟩ ⟨I.at_ (s1 := { s with heap := _ }) (fun b o e => ?_) rfl rfl rfl, rfl⟩ (by simpa using hz)) ?_
  · have hb : b < s.heap.objs.size := Heap.lt_size e
    rw [Heap.get?_update_ne _ _ _ _ (Nat.ne_of_lt hb)]
    exact Heap.get?_push_of_some _ e
  · rintro s1 us ⟨I1, rfl⟩
    have ht : Tris H s1.heap := tris_of I1.hok
    have hok : ∀ v ∈ ps.map Value.ref, @isN (skT H g) (v, v) := fun v hv => by
      obtain ⟨x, hx, rfl⟩ := List.mem_map.mp hv
      obtain ⟨a, b, h1, h2⟩ := hps x hx
      exact ⟨x, a, b, rfl, h1, h2⟩
    refine @sort_new (skT H g) X.prog X.w _ _ s1 _ _ (by simpa using hz) (fun h2 A E h' Q hk hq => kindT (s := { s1 with heap := h' }) (ht.keep hk) hok h2 hq) (fun A E h' hk => ltT (s := { s1 with heap := h' }) (ht.keep hk)) hok fun out h' o1 o2 k2 he => ?_
    obtain ⟨e, he⟩ := he
    obtain ⟨ps', hps'⟩ : ∃ ps' : List Addr, out.toList = ps'.map Value.ref := by
      have : ∀ l : List Value, (∀ v ∈ l, v ∈ ps.map Value.ref) → ∃ ps' : List Addr, l = ps'.map Value.ref := by
        intro l
        induction l with
        | nil => exact fun _ => ⟨[], rfl⟩
        | cons v r ih =>
          intro hl
          obtain ⟨ps', e⟩ := ih fun v hv => hl v (List.mem_cons_of_mem _ hv)
          obtain ⟨x, _, e1⟩ := List.mem_map.mp (hl v List.mem_cons_self)
          exact ⟨x :: ps', by rw [List.map_cons, e, e1]⟩
      exact this _ fun v hv => o1.mem_iff.mp hv
    rw [hps'] at o1 o2
    have hinj : Function.Injective Value.ref := fun a b e => by cases e; rfl
    have hpm : ps'.Perm ps := by
      have := o1.map (fun v : Value => match v with | .ref a => a | _ => 0)
      simpa [List.map_map, Function.comp_def] using this
    have fr : H s1.heap.objs.size = none := I1.hok.fresh (Nat.le_refl _)
    refine ⟨.ref s1.heap.objs.size, _, I1.laid (t' := s1.toks) k2 (Nat.le_refl _) (show ObjOk X.prog X.w _ h' _ (.lst (ps'.map V.ref)) from ⟨?_, out.toList, e, by rw [hps']; exact vals_refs ps', by rw [he]⟩), rfl, q _ _ fr hpm ?_⟩
    · rw [List.length_map, hpm.length_eq]; exact hz
    · rw [List.pairwise_map] at o2; exact o2
end
end L2

set_option Elab.async false
set_option linter.all false
set_option maxRecDepth 100000
set_option maxHeartbeats 4000000
namespace L2
open PySem PySem.Spec PyProof.Rows
noncomputable def rSlT0 : V → Option Int → Option Int → Hp → VK → Prop := fun x lo hi H Q => ∃ a xs, x = .ref a ∧ H a = some (.tup xs) ∧
  ¬ (HT.sIx xs.length 0 lo = 0 ∧ HT.sIx xs.length xs.length hi = xs.length) ∧ ∀ p, H p = none → Q (.ref p) (upd H p (.tup (cutV xs lo hi)))
theorem sl_tup0 {X : Cx} : SlR X rSlT0 := by
  intro pins s σ H x v vl vu lo hi sl Q I rx hs pl pu h
  obtain ⟨a, xs, e, h1, h2, q⟩ := h
  exact sl_tup pins s σ H x v vl vu lo hi sl Q I rx hs pl pu ⟨a, xs, e, SqT.of h1, h2, q⟩
end L2
namespace W
open PySem L2
/-! the best of one kind, in order -/
noncomputable abbrev Tri := Nat × Nat × Int
noncomputable def TriAt (H : Hp) (q : Addr) (x : Tri) : Prop := H q = some (tri x.1 x.2.1 x.2.2)
theorem TriAt.same {H H' : Hp} {q : Addr} {x : Tri} (h : TriAt H q x) (s : Same H H') : TriAt H' q x := s _ _ h
noncomputable def decT (H : Hp) (q : Addr) : Tri := match H q with
  | some (.tup [.int a, .int b, .int v]) => (a.toNat, b.toNat, v)
  | _ => (0, 0, 0)
theorem decT_at {H : Hp} {q : Addr} {x : Tri} (h : TriAt H q x) : decT H q = x := by
  unfold decT
  rw [h]
  obtain ⟨a, b, v⟩ := x
  rfl
theorem triL_map {H : Hp} : ∀ {ps : List Addr} {L : List Tri}, Paired (TriAt H) ps L → L = ps.map (decT H)
  | _, _, .nil => rfl
  | _, _, .cons r t => by rw [List.map_cons, ← triL_map t, decT_at r]
theorem triL_of {H : Hp} : ∀ {ps : List Addr}, (∀ q ∈ ps, TriAt H q (decT H q)) → Paired (TriAt H) ps (ps.map (decT H))
  | [], _ => .nil
  | q :: ps, h => .cons (h q List.mem_cons_self) (triL_of fun r hr => h r (List.mem_cons_of_mem _ hr))
theorem paired_mem {α β : Type} {F : α → β → Prop} : ∀ {l : List α} {m : List β}, Paired F l m → ∀ x ∈ l, ∃ y ∈ m, F x y
  | _, _, .nil, _, h => nomatch h
  | _, _, .cons r t, x, h => by
    rcases List.mem_cons.mp h with rfl | h
    · exact ⟨_, List.mem_cons_self, r⟩
    · obtain ⟨y, hy, ry⟩ := paired_mem t x h
      exact ⟨y, List.mem_cons_of_mem _ hy, ry⟩
noncomputable def pick (st : MU.St) (t : Bool) (k : MU.Key) : Option Tri := if k.1 = t then (MU.val st k).map fun v => (k.2.1, k.2.2, v) else none
structure Best (st : MU.St) (t : Bool) (L : List Tri) : Prop where
  up : L.Pairwise fun x y => ((x.1 : Int) * 64 + x.2.1) ≤ ((y.1 : Int) * 64 + y.2.1)
  has : ∀ a b v, (a, b, v) ∈ L ↔ MU.val st (t, a, b) = some v
  once : (L.map fun x => (x.1, x.2.1)).Nodup
noncomputable def spBest (C : Addr) : Sp := fun vs H Q _ => ∃ (p be rl bd : Addr) (n : Nat) (F : MU.Falls) (st : MU.St) (t : Bool), vs = [.ref p, .str (kindS t)] ∧ Clo C H p be rl bd n F st ∧ MU.Good n st ∧ n ≤ 8 ∧ st.rows.length ≤ 16500000 ∧
  ∀ l H' ps L, H l = none → Same H H' → H' l = some (.lst (ps.map V.ref)) → Paired (TriAt H') ps L → Best st t L → Q (.ref l) H'
theorem keys_of {kvs : List (List Key × V)} (h : ∀ kv ∈ kvs, ∃ k : MU.Key, kv.1 = keyL k) : ∃ ks : List MU.Key, kvs.map (·.1) = ks.map keyL := by
  induction kvs with
  | nil => exact ⟨[], rfl⟩
  | cons kv r ih =>
    obtain ⟨ks, e⟩ := ih fun kv hkv => h kv (List.mem_cons_of_mem _ hkv)
    obtain ⟨k, e1⟩ := h kv List.mem_cons_self
    exact ⟨k :: ks, by rw [List.map_cons, List.map_cons, e, e1]⟩
theorem cut1 {x : MU.What} : cutV (whatV x) (some 1) none = [V.int (x.a : Int), V.int (x.b : Int), V.int x.v] := by
  unfold cutV whatV
  rw [HT.sIx_none, show (some (1 : Int)) = some ((1 : Nat) : Int) from rfl, HT.sIx_nat]
  rfl
theorem nocut1 {x : MU.What} : ¬ (HT.sIx (whatV x).length 0 (some 1) = 0 ∧ HT.sIx (whatV x).length (whatV x).length none = (whatV x).length) := fun z => by
  have h := z.1
  rw [show (some (1 : Int)) = some ((1 : Nat) : Int) from rfl, HT.sIx_nat] at h
  have e : (whatV x).length = 4 := rfl
  rw [e] at h
  cases h
theorem nodup_of_map {α β : Type} {f : α → β} : ∀ {l : List α}, (l.map f).Nodup → l.Nodup
  | [], _ => List.nodup_nil
  | a :: l, h => by
    rw [List.map_cons, List.nodup_cons] at h
    exact List.nodup_cons.mpr ⟨fun z => h.1 (List.mem_map_of_mem z), nodup_of_map h.2⟩
theorem kindD {a b : Bool} : decide (V.str (kindS a) = V.str (kindS b)) = decide (a = b) := decide_eq_decide.mpr ⟨fun q => kindS_inj (V.str.inj q), fun q => by rw [q]⟩
section
variable {P : Program} {w : World} {K : PySem.W.Frag} {mg : Str → Option Value} {base : Heap}
theorem scBd : FnScope ["self", "kind"] ["self", "kind"] (defScope sC_Closing_best_drawn) := ⟨rfl, rfl, rfl, by decide +kernel, rfl, by decide +kernel, by decide +kernel⟩
theorem coBd : CompOk (defScope sC_Closing_best_drawn) ["self", "kind"] (fsc [(".0", .local), ("key", .local), ("kind", .free), ("self", .free)]) ["key", "kind", "self"] [none, some 1, some 0] := ⟨rfl, by decide +kernel, by decide +kernel, by decide +kernel, rfl, by decide +kernel⟩
theorem ndBd : (["key", "kind", "self"] : List Str).Nodup := by decide +kernel
section
seal L2.PE L2.PA L2.PT L2.PS L2.PSs L2.PG L2.PGs L2.PI L2.PO
theorem ok_best {f C : Addr} {fd : FuncData} (F : Fun K "best_drawn" "Closing.best_drawn" sC_Closing_best_drawn f fd) (T : TxtCl K mg C) (hS : mg "sorted" = none) : FnOk P w K mg base CX0 1 f fd ["self", "kind"] (spBest C) := by
  refine F.ok scBd (fun vs H Q E h => ?_) (fun cdv A outer s H vs Q E hr h => ?_)
  · obtain ⟨_, _, _, _, _, _, _, _, rfl, _⟩ := h
    rfl
  · obtain ⟨p, be, rl, bd, n, Fa, st, t, rfl, c, g, h8, hlen, k⟩ := h
    have hu := hu_of hr
    refine ⟨_, pss_one (ps_ret (pe_callB call_sortedT (by rfl) hS PyProof.Rows.boot_sorted (pa_cons (pe_thaw (pe_comp rfl (pi_keys (pe_fld (pv 0) rfl)) coBd (fun cl ex s0 H0 => ⟨pg_name (i := 0) ndBd rfl (Or.inl rfl), pif_one (pt_cmpR op_eq (pe_ix ix_tup0 (pv 0) pe_int (fun _ _ => rfl)) (pv 1) (nomark _)), pe_slice sl_tup0 (pe_ix ix_tup0 (pe_ix ix_list0 (pe_fldK (K := K) rfl (pv 2) rfl) (pe_dget hu (pe_fldK (K := K) rfl (pv 2) rfl) (pv 0) (fun _ _ => rfl)) (fun _ _ => rfl)) pe_int (fun _ _ => rfl)) (po_some pe_int) po_none⟩))) pa_nil))), ?_⟩
    obtain ⟨dx, hp⟩ := c.ins
    obtain ⟨qs, hrl, hrows⟩ := c.rows
    obtain ⟨kvs, hbd, hkl, hkv⟩ := c.best
    obtain ⟨ks, hks⟩ := keys_of hkl.2
    have hkn : kvs.length = ks.length := by have := congrArg List.length hks; simpa using this
    refine ⟨_, rfl, p, C, dx, _, _, rfl, hp, T.cl, T.nE, c_best, bd, kvs, rfl, hbd, fun hnd o Da hDa => ?_⟩
    rw [hks] at hnd
    have knd : ks.Nodup := nodup_of_map hnd
    have known : ∀ kk ∈ ks, ∃ j x, st.best kk = some j ∧ MU.wat st j = some x ∧ x.key = kk := fun kk hk => by
      have : (valV kvs (keyL kk)).isSome = true := by
        rw [← valV_any]
        have hm : keyL kk ∈ kvs.map (·.1) := by rw [hks]; exact List.mem_map_of_mem hk
        obtain ⟨kv, h1, h2⟩ := List.mem_map.mp hm
        exact List.any_eq_true.mpr ⟨kv, h1, by simpa using h2⟩
      rw [hkv] at this
      cases hb : st.best kk with
      | none => rw [hb] at this; cases this
      | some j =>
        obtain ⟨x, h1, h2⟩ := g.at_ _ _ hb
        exact ⟨j, x, rfl, h1, h2⟩
    have bdp : bd ≠ p := ne_of hbd hp (fun z => nomatch z)
    have bdr : bd ≠ rl := ne_of hbd hrl (fun z => nomatch z)
    have Dbd : Da ≠ bd := fun z => by rw [z, upd_same] at hDa; cases hDa
    have hDH : H Da = none := by rwa [upd_ne Dbd] at hDa
    refine comp_keys (a := bd) (o := o) (kvs := kvs) (fun i σ' H' => ∃ v ps L, σ' = [v, some (.str (kindS t)), some (.ref p)] ∧ H' Da = some (.lst (ps.map V.ref)) ∧ Paired (TriAt H') ps L ∧ L = (ks.take i).filterMap (pick st t) ∧ ps.length ≤ i ∧ H' bd = some (.frz o (.dT kvs)) ∧ ∀ b x, H b = some x → b ≠ bd → H' b = some x)
      ⟨none, [], [], rfl, upd_same, .nil, rfl, Nat.zero_le _, by rw [upd_ne (Ne.symm Dbd), upd_same], fun b x e ne => by rw [upd_ne (ne_of_none e hDH), upd_ne ne]; exact e⟩ ?_ ?_ ?_
    · rintro i σ' H2 _ ⟨v, ps, L, rfl, _, _, _, _, e, _⟩
      exact e
    · rintro i kx vx q σ' H2 hi hq ⟨v, ps, L, rfl, e2, hps, hL, hpl, eb, kp⟩
      obtain ⟨kk, hkk, rfl⟩ : ∃ kk, ks[i]? = some kk ∧ kx = keyL kk := by
        have := congrArg (fun l => l[i]?) hks
        simp only [List.getElem?_map, hi] at this
        cases hk : ks[i]? with
        | none => rw [hk] at this; cases this
        | some kk => rw [hk] at this; exact ⟨kk, rfl, Option.some.inj this⟩
      have hil : i < ks.length := (List.getElem?_eq_some_iff.mp hkk).1
      have et : ks.take (i + 1) = ks.take i ++ [kk] := by rw [List.take_succ, hkk]; rfl
      obtain ⟨tt, a, b⟩ := kk
      obtain ⟨j, x, hbj, hx, hxk⟩ := known _ (List.mem_of_getElem? hkk)
      have hval : MU.val st (tt, a, b) = some x.v := by unfold MU.val; rw [hbj]; show (MU.wat st j).map _ = _; rw [hx]; rfl
      refine ⟨_, rfl, rdT hq rfl ⟨_, rfl, rfl, _, rfl, ?_⟩⟩
      refine (show if decide (V.str (kindS tt) = V.str (kindS t)) = true then _ else _ from ?_)
      rw [kindD]
      by_cases ht : tt = t
      · refine iteD ht ?_
        obtain ⟨q', r, pw, pu, g1, g2, g3, g4, g5, g6⟩ := row_get hrows hx
        have hat : atI (qs.map V.ref) (j : Int) = some (.ref q') := atI_nat (by rw [List.getElem?_map, g1]; rfl)
        have dg : DGet H2 bd (.ref q) (some (.int (j : Int))) := .inr ⟨kvs, _, q, .inr ⟨o, eb⟩, rfl, hq, by rw [hkv, hbj]; rfl⟩
        have tupk : ∀ {b : Addr} {xs : List V}, H b = some (.tup xs) → H2 b = some (.tup xs) := fun e => kp _ _ e (ne_of e hbd (fun z => nomatch z))
        refine ⟨_, rfl, p, C, dx, _, _, rfl, kp _ _ hp (Ne.symm bdp), T.cl, T.nR, c_rows, _, rfl, p, C, dx, _, _, rfl, kp _ _ hp (Ne.symm bdp), T.cl, T.nE, c_best, _, rfl, bd, _, rfl, dg, rl, _, _, _, rfl, rfl, kp _ _ hrl (Ne.symm bdr), hat, rdT (tupk g4) rfl ⟨_, rfl, pw, _, rfl, tupk g5, nocut1, fun kt hkt => ?_⟩⟩
        rw [cut1]
        have hk2 := MU.key_eq hxk
        have e3 : upd H2 kt (.tup [V.int (x.a : Int), V.int (x.b : Int), V.int x.v]) kt = some (.tup [V.int (x.a : Int), V.int (x.b : Int), V.int x.v]) := upd_same
        have s3 := same_new (o := .tup [V.int (x.a : Int), V.int (x.b : Int), V.int x.v]) hkt
        generalize upd H2 kt (.tup [V.int (x.a : Int), V.int (x.b : Int), V.int x.v]) = H3 at *
        have e2' := s3 _ _ e2
        have nD : ∀ {b : Addr} {o : HO}, H3 b = some o → o ≠ .lst (ps.map V.ref) → upd H3 Da (.lst (ps.map V.ref ++ [.ref kt])) b = some o := fun {b o} e ne => by rw [upd_ne (ne_of e e2' ne)]; exact e
        have keep : ∀ b y, TriAt H2 b y → TriAt (upd H3 Da (.lst (ps.map V.ref ++ [.ref kt]))) b y := fun b y e => nD (s3 _ _ e) (fun z => nomatch z)
        refine ⟨_, e2', ?_, _, ps ++ [kt], L ++ [(a, b, x.v)], rfl, ?_, ?_, ?_, ?_, ?_, fun b' y e ne => ?_⟩
        · rw [List.length_map]
          have := hkl.1
          exact Nat.lt_of_le_of_lt (show ps.length ≤ 16500000 by omega) (by decide)
        · rw [upd_same, List.map_append]
          rfl
        · refine paired_append (paired_imp hps keep) (.cons ?_ .nil)
          have : TriAt H3 kt (a, b, x.v) := by
            unfold TriAt tri
            rw [e3, hk2.2.1, hk2.2.2]
          exact nD this (fun z => nomatch z)
        · rw [et, List.filterMap_append, hL]
          have : pick st t (tt, a, b) = some (a, b, x.v) := by
            unfold pick
            rw [if_pos ht, hval]
            rfl
          simp [this]
        · rw [List.length_append]; show ps.length + 1 ≤ i + 1; omega
        · exact nD (s3 _ _ eb) (fun z => nomatch z)
        · rw [upd_ne (ne_of_none e hDH)]
          exact s3 _ _ (kp _ _ e ne)
      · refine iteDN ht ⟨_, ps, L, rfl, e2, hps, ?_, by omega, eb, kp⟩
        rw [et, List.filterMap_append, hL]
        have : pick st t (tt, a, b) = none := if_neg ht
        simp [this]
    · rintro σ' H2 ⟨v, ps, L, rfl, e2, hps, hL, hpl, eb, kp⟩
      refine ⟨bd, o, _, eb, fun o u z => ?_, ?_⟩
      · have z : H bd = some (.frz o u) := z
        rw [hbd] at z
        cases z
      have s3 : Same H (upd H2 bd (.dT kvs)) := fun b x e => by
        by_cases hb : b = bd
        · subst hb; rw [hbd] at e; cases e; exact upd_same
        · rw [upd_ne hb]; exact kp _ _ e hb
      have nb : ∀ {b : Addr} {x : HO}, H2 b = some x → x ≠ .frz o (.dT kvs) → upd H2 bd (.dT kvs) b = some x := fun {b x} e ne => by rw [upd_ne (ne_of e eb ne)]; exact e
      have e3 := nb e2 (fun z => nomatch z)
      have hps3 : Paired (TriAt (upd H2 bd (.dT kvs))) ps L := paired_imp hps fun b y e => nb e (fun z => nomatch z)
      generalize upd H2 bd (.dT kvs) = H3 at *
      have hall : ks.take kvs.length = ks := by rw [hkn]; exact List.take_length
      rw [hall] at hL
      have inL : ∀ a b v, (a, b, v) ∈ L ↔ MU.val st (t, a, b) = some v := fun a b v => by
        rw [hL, List.mem_filterMap]
        constructor
        · rintro ⟨kk, hk, e⟩
          unfold pick at e
          by_cases hkt : kk.1 = t
          · rw [if_pos hkt] at e
            cases hv : MU.val st kk with
            | none => rw [hv] at e; cases e
            | some v' =>
              rw [hv] at e
              cases e
              obtain ⟨t', a', b'⟩ := kk
              cases hkt
              exact hv
          · rw [if_neg hkt] at e; cases e
        · intro hv
          have hb : ∃ j, st.best (t, a, b) = some j := by
            unfold MU.val at hv
            cases hq : st.best (t, a, b) with
            | none => rw [hq] at hv; cases hv
            | some j => exact ⟨j, rfl⟩
          obtain ⟨j, hj⟩ := hb
          have : (valV kvs (keyL (t, a, b))).isSome = true := by rw [hkv, hj]; rfl
          rw [← valV_any] at this
          obtain ⟨kv, h1, h2⟩ := List.any_eq_true.mp this
          have hm : keyL (t, a, b) ∈ ks.map keyL := by rw [← hks]; exact List.mem_map.mpr ⟨kv, h1, by simpa using h2⟩
          obtain ⟨kk, h3, h4⟩ := List.mem_map.mp hm
          refine ⟨(t, a, b), keyL_inj h4 ▸ h3, ?_⟩
          unfold pick
          rw [if_pos rfl, hv]
          rfl
      have small : ∀ q ∈ ps, ∃ x ∈ L, TriAt H3 q x ∧ x.1 < 8 ∧ x.2.1 < 8 := fun q hq => by
        obtain ⟨x, hx, hqx⟩ := paired_mem hps3 q hq
        refine ⟨x, hx, hqx, ?_⟩
        obtain ⟨a, b, v⟩ := x
        have hv := (inL a b v).mp hx
        unfold MU.val at hv
        cases hq : st.best (t, a, b) with
        | none => rw [hq] at hv; cases hv
        | some j =>
          obtain ⟨w', h1, h2⟩ := g.at_ _ _ hq
          have h3 := g.lt _ _ h1
          have h4 := MU.key_eq h2
          exact ⟨by show a < 8; have := h4.2.1; omega, by show b < 8; have := h4.2.2; omega⟩
      refine ⟨Da, ps, fun a b => (MU.val st (t, a.toNat, b.toNat)).getD 0, rfl, e3, fun q hq => ?_, fun l ps' hl hpm hup => ?_⟩
      · obtain ⟨⟨a, b, v⟩, hx, hqx, ha, hb⟩ := small q hq
        have ha : a < 8 := ha
        have hb : b < 8 := hb
        refine ⟨a, b, ?_, by omega, by omega, by omega, by omega⟩
        show H3 q = some (tri a b ((MU.val st (t, ((a : Int)).toNat, ((b : Int)).toNat)).getD 0))
        rw [Int.toNat_natCast, Int.toNat_natCast, (inL a b v).mp hx]
        exact hqx
      · have hlH : H l = none := by
          cases q : H l with
          | none => rfl
          | some x => rw [s3 _ _ q] at hl; cases hl
        have s4 := same_new (o := .lst (ps'.map V.ref)) hl
        have hdec : ∀ q ∈ ps', TriAt H3 q (decT H3 q) := fun q hq => by
          obtain ⟨x, _, hqx, _⟩ := small q (hpm.mem_iff.mp hq)
          rw [decT_at hqx]
          exact hqx
        have hLp : (ps'.map (decT H3)).Perm L := by rw [triL_map hps3]; exact hpm.map _
        refine k l _ ps' (ps'.map (decT H3)) hlH (s3.trans s4) upd_same (paired_imp (triL_of hdec) fun q x e => e.same s4) ⟨?_, fun a b v => ?_, ?_⟩
        · rw [List.pairwise_map]
          refine List.Pairwise.imp_of_mem (fun {x y} hx hy e => ?_) hup
          rw [cod_tri (hdec x hx), cod_tri (hdec y hy)] at e
          exact e
        · rw [hLp.mem_iff]
          exact inL a b v
        · refine ((hLp.map _).nodup_iff).mpr ?_
          rw [hL]
          unfold List.Nodup
          rw [List.pairwise_map]
          refine List.Pairwise.filterMap _ (fun a a' hne b hb b' hb' e => hne ?_) knd
          unfold pick at hb hb'
          by_cases h1 : a.1 = t
          · by_cases h2 : a'.1 = t
            · rw [if_pos h1] at hb
              rw [if_pos h2] at hb'
              cases hv : MU.val st a with
              | none => rw [hv] at hb; cases hb
              | some v1 =>
                cases hv' : MU.val st a' with
                | none => rw [hv'] at hb'; cases hb'
                | some v2 =>
                  rw [hv] at hb
                  rw [hv'] at hb'
                  cases hb
                  cases hb'
                  have e : (a.2.1, a.2.2) = (a'.2.1, a'.2.2) := e
                  exact Prod.ext (h1.trans h2.symm) e
            · rw [if_neg h2] at hb'; cases hb'
          · rw [if_neg h1] at hb; cases hb
end
end
end W

set_option linter.unusedVariables false
namespace MU
/-! what a row uses stands ahead of it -/
noncomputable def Uses (st : St) : Prop := (∀ (i : Nat) (r : Row), st.rows[i]? = some r → r.used.length ≤ 2 ∧ ∀ j ∈ r.used, j < i) ∧ ∀ b, st.bar = some b → ∃ r, st.rows[b]? = some r ∧ Bars r.what
theorem take_uses {st : St} {w : What} {word : Wd} {us : List Nat} (h : Uses st) (hu : us.length ≤ 2 ∧ ∀ j ∈ us, j < st.rows.length) : Uses (take st w word us) := by
  unfold take
  split
  · refine ⟨fun i r hr => ?_, fun b hb => ?_⟩
    · have hr : (st.rows ++ [⟨w, word, us⟩])[i]? = some r := hr
      by_cases hi : i < st.rows.length
      · rw [List.getElem?_append_left hi] at hr
        exact h.1 i r hr
      · rw [List.getElem?_append_right (by omega)] at hr
        cases hk : i - st.rows.length with
        | zero =>
          rw [hk] at hr
          cases hr
          exact ⟨hu.1, fun j hj => by have := hu.2 j hj; omega⟩
        | succ k => rw [hk] at hr; cases hr
    · have hb : (if st.bar = none ∧ Bars w then some st.rows.length else st.bar) = some b := hb
      show ∃ r, (st.rows ++ [(⟨w, word, us⟩ : Row)])[b]? = some r ∧ Bars r.what
      by_cases hc : st.bar = none ∧ Bars w
      · rw [if_pos hc] at hb
        cases hb
        exact ⟨_, by rw [List.getElem?_append_right (Nat.le_refl _), Nat.sub_self]; rfl, hc.2⟩
      · rw [if_neg hc] at hb
        obtain ⟨r, hr, hB⟩ := h.2 b hb
        exact ⟨r, by rw [List.getElem?_append_left (List.getElem?_eq_some_iff.mp hr).1]; exact hr, hB⟩
  · exact h
theorem put_uses {st : St} {o : Option What} {word : Wd} {us : List Nat} (h : Uses st) (hu : ∀ x, o = some x → us.length ≤ 2 ∧ ∀ j ∈ us, j < st.rows.length) : Uses (put st o word us) := by
  cases o with
  | none => exact h
  | some x => exact take_uses h (hu x rfl)
theorem draw1_uses {f : What → Option What} {word : Wd} {i : Nat} {st : St} (h : Uses st) : Uses (draw1 f word i st) := by
  refine put_uses h fun x hx => ⟨by show 1 ≤ 2; omega, fun j hj => ?_⟩
  cases hw : wat st i with
  | none => rw [hw] at hx; cases hx
  | some y => rw [List.mem_singleton.mp hj]; exact wat_lt hw
theorem draw2_uses {f : What → What → Option What} {word : Wd} {i j : Nat} {st : St} (h : Uses st) : Uses (draw2 f word i j st) := by
  refine put_uses h fun x hx => ⟨Nat.le_refl 2, fun k hk => ?_⟩
  cases hw : wat st i with
  | none => rw [hw] at hx; cases hx
  | some y =>
    rw [hw] at hx
    cases hw' : wat st j with
    | none => rw [show ((some y).bind fun p => (wat st j).bind fun q => f p q) = (wat st j).bind fun q => f y q from rfl, hw'] at hx; cases hx
    | some z =>
      rcases List.mem_cons.mp hk with rfl | hk
      · exact wat_lt hw
      · rw [List.mem_singleton.mp hk]; exact wat_lt hw'
theorem fold_uses {α : Type} {g : St → α → St} (hg : ∀ st a, Uses st → Uses (g st a)) : ∀ (l : List α) (st : St), Uses st → Uses (l.foldl g st)
  | [], _, h => h
  | a :: l, st, h => fold_uses hg l _ (hg st a h)
theorem tells_uses (rows : List What) (st : St) (h : Uses st) : Uses (tells rows st) := fold_uses (fun st w h => take_uses h ⟨Nat.zero_le _, fun j hj => absurd hj (by simp)⟩) rows st h
theorem empty_uses : Uses empty := ⟨fun i r h => by simp [empty] at h, fun b h => by simp [empty] at h⟩
theorem fromTie_uses {n : Nat} {F : Falls} {at_ a b : Nat} {st : St} (h : Uses st) : Uses (fromTie n F at_ a b st) :=
  fold_uses (fun _ _ h => draw2_uses h) _ _ (fold_uses (fun _ _ h => draw2_uses h) _ _ (fold_uses (fun _ _ h => draw2_uses h) _ _ (draw1_uses (draw1_uses h))))
theorem fromWait_uses {n : Nat} {F : Falls} {at_ a : Nat} {st : St} (h : Uses st) : Uses (fromWait n F at_ a st) :=
  fold_uses (fun _ _ h => draw2_uses h) _ _ (draw1_uses (draw1_uses h))
theorem run_uses {n : Nat} {F : Falls} {st : St} (h : Uses st) : ∀ t, Uses (run n F st t)
  | 0 => h
  | t + 1 => by
    have ih := run_uses (n := n) (F := F) h t
    show Uses (look n F t (run n F st t))
    unfold look
    split
    · split
      · split
        · exact fromTie_uses ih
        · exact fromWait_uses ih
      · exact ih
    · exact ih
end MU

set_option Elab.async false
set_option linter.all false
set_option maxRecDepth 100000
set_option maxHeartbeats 1000000
/-! range going down, reversed of a range, sorted of a list of ints -/
namespace L2
open PySem PySem.Spec PyProof.Rows
noncomputable def Itd (hi : Int) (n : Nat) : It := ⟨fun i _ => i < n, fun i H x H' => H' = H ∧ x = .int (hi - i), fun i _ => n ≤ i⟩
theorem range_item_dn {prog : Program} {w : World} {A : Around} {E : Value → Shared → Prop} {s : Shared} {it : Addr} {lo : Int} {i n : Nat} {Q : Option Value → Shared → Prop} (hi : i < n) (st : IsRangeIter s.heap it (lo - (i : Nat)) ((n : Int) - (i : Nat)) (-1))
    (hQ : ∀ (t : Tok) h' tk, IsRangeIter h' it (lo - ((i + 1 : Nat) : Int)) ((n : Int) - ((i + 1 : Nat) : Int)) (-1) → (∀ b o, b ∉ [it] → s.heap.get? b = some o → h'.get? b = some o) → Q (some (.int (lo - (i : Nat)) t)) { s with heap := h', toks := tk }) :
    wpAny (model prog w) A (pyNext (.ref it)) Q E s := by
  refine wpAny_pyNext_range_item st (by omega) fun h' st' sb => ?_
  refine hQ _ h' _ ?_ fun b o hb e => sb.extBut b o (fun z => hb (by simp [z])) e
  have e1 : lo - ((i + 1 : Nat) : Int) = lo - (i : Int) + -1 := by omega
  have e2 : (n : Int) - ((i + 1 : Nat) : Int) = (n : Int) - (i : Int) - 1 := by omega
  rw [e1, e2]
  exact st'
theorem turn_down {P : Program} {w : World} {K : PySem.W.Frag} {tg : Expr} (it : Addr) (lo : Int) (n : Nat) : Turn P w K tg (Itd lo n) [it] it (fun i h => IsRangeIter h it (lo - (i : Nat)) ((n : Int) - (i : Nat)) (-1)) where
  mem := by simp
  obj := fun i h st b hb => by
    have e : b = it := by simpa using hb
    subst e
    exact ⟨_, st, fun v z => by
      have z' : Data.fields _ = Data.cell v := z
      cases z'⟩
  keep := fun i h h' st k => k it (by simp) _ st
  item := by
    intro X hP hw hK hc i pins s σ H E I hf st hg
    subst hP hw hK
    obtain ⟨f0, f1, f2, f3, f4, f5⟩ := hf it (by simp)
    refine range_item_dn hg st fun t h' tk st' kk => ?_
    have I1 : Inv X pins σ H { s with heap := h', toks := tk } := I.turned (fun b o hb e => kk b o (by simpa using hb) e) f0 f1 f3 f4 f5
    exact ⟨_, rfl, go_of (s := { s with heap := h', toks := tk }) (n := "range_iterator") st' rfl rfl (by decide) ⟨.int (lo - i), H, I1, ⟨t, rfl⟩, ⟨rfl, rfl⟩, st', fun b hb => (hf b hb).1⟩⟩
  done := by
    intro X hP hw hK hc i pins s σ H E I hf st hg
    subst hP hw hK
    obtain ⟨f0, f1, f2, f3, f4, f5⟩ := hf it (by simp)
    exact range_end_hd (hd_of hc I) st (by have : n ≤ i := hg; omega) fun h' eb => ⟨rfl, I.turned (t' := s.toks) (fun b o hb e => eb b o hb e) f0 f1 f3 f4 f5⟩
  self := fun _ _ _ _ _ st h => wpAny_pyIter_rangeiter st h
theorem for_down {lo : Int} {n : Nat} {g : TG} {tb : TS} {D : Ends} {σ : St} {H : Hp} (Pv : Nat → St → Hp → Prop) (h0 : Pv 0 σ H)
    (hs : ∀ i σ H, i < n → Pv i σ H → g (.int (lo - i)) σ H fun σ2 H2 => tb { D with nx := Pv (i + 1), ct := Pv (i + 1), bk := D.nx } σ2 H2) (hd : ∀ σ H, Pv n σ H → D.nx σ H) :
    ∃ W : Nat → Nat → St → Hp → Prop, (∃ m, W 0 m σ H) ∧ ∀ i m σ H, W i m σ H →
      ((Itd lo n).stop i H ∧ D.nx σ H) ∨ ((Itd lo n).go i H ∧ ∃ N : St → Hp → Prop, (∀ σ' H', N σ' H' → ∃ m', m' < m ∧ W (i + 1) m' σ' H') ∧ ∀ x H', (Itd lo n).yld i H x H' → g x σ H' fun σ2 H2 => tb { D with nx := N, ct := N, bk := D.nx } σ2 H2) := by
  refine ⟨fun i m σ H => m = n - i ∧ i ≤ n ∧ Pv i σ H, ⟨n, by simp, Nat.zero_le _, h0⟩, ?_⟩
  rintro i m σ H ⟨rfl, hi, p⟩
  by_cases hlt : i < n
  · refine .inr ⟨hlt, Pv (i + 1), fun σ' H' p' => ⟨n - (i + 1), by omega, rfl, hlt, p'⟩, fun x H' y => ?_⟩
    obtain ⟨e, y⟩ := y
    subst e y
    exact hs i σ _ hlt p
  · have e : i = n := by omega
    subst e
    exact .inl ⟨Nat.le_refl _, hd σ H p⟩
theorem size_dn (n : Nat) : Builtin.Range.rangeSize ((n : Int) - 1) (-1) (-1) = (n : Int) := by
  unfold Builtin.Range.rangeSize
  rw [if_neg (by decide)]
  by_cases h : 0 < n
  · rw [if_pos (by omega)]
    show ((n : Int) - 1 - -1 - 1) / 1 + 1 = n
    rw [Int.ediv_one]
    omega
  · rw [if_neg (by omega)]
    omega
theorem small_dn {n : Nat} (h : n ≤ 20000000) : Builtin.Range.small ((n : Int) - 1) (-1) (-1) = true := by
  unfold Builtin.Range.small
  rw [size_dn]
  simp [Builtin.Range.rangeFitsLong]
  omega
section
variable {X : Cx} {tg : Expr}
noncomputable def iDn (ta : TA) : TI := fun σ H R => ta σ H fun vs H1 => ∃ n : Nat, vs = [.int ((n : Int) - 1), .int (-1), .int (-1)] ∧ n ≤ 20000000 ∧ R (Itd ((n : Int) - 1) n) H1
theorem pi_range3 {a b c : Expr} {ta : TA} {p pos : Pos} (hg : Gl X "range") (hm : X.mg "range" = none) (ha : PA X [a, b, c] ta) (hs : starEach [a, b, c] X.env = [(false, eval a X.env), (false, eval b X.env), (false, eval c X.env)] := by rfl) (hs2 : starEach [b, c] X.env = [(false, eval b X.env), (false, eval c X.env)] := by rfl) :
    PI X tg (.Call (.Name "range" p) [a, b, c] [] pos) (iDn ta) := by
  intro pins s σ H R I h
  refine Call_ (ld_blt I hg hm boot_range (PyProof.Rows.callWith_type1 (thn (ha pos pins s σ H _ I h) fun us s1 zz => ?_) (by rw [hs, hs2]) (by rw [hs2]; rfl)))
  obtain ⟨vs, H1, I1, r1, q1⟩ := zz
  obtain ⟨n, e, hn, q⟩ := q1
  subst e
  cases r1 with
  | cons r rr =>
    cases rr with
    | cons r' rr =>
      cases rr with
      | cons r'' rr =>
        cases rr
        obtain ⟨t, rfl⟩ := r
        obtain ⟨t', rfl⟩ := r'
        obtain ⟨t'', rfl⟩ := r''
        refine call_range_3 (by decide) ?_ (Or.inl (PyProof.noPylong_small (by omega)))
        refine wpAny_pyIter_range (IsRange.new ..) (small_dn hn) ?_
        have I2 : Inv X pins σ H1 { s1 with heap := s1.heap.push { cls := .type "range", data := .fields #[.int ((n : Int) - 1) t, .int (-1) t', .int (-1) t''] }, toks := s1.toks } := I1.kept fun b o e => Heap.get?_push_of_some _ e
        refine ⟨(s1.heap.push { cls := .type "range", data := .fields #[.int ((n : Int) - 1) t, .int (-1) t', .int (-1) t''] }).objs.size, [(s1.heap.push { cls := .type "range", data := .fields #[.int ((n : Int) - 1) t, .int (-1) t', .int (-1) t''] }).objs.size], _, _, H1, rfl,
          I2.kept (t' := s1.toks) fun b o e => Heap.get?_push_of_some _ e, turn_down _ ((n : Int) - 1) n, ?_, fun b hb => ?_, q⟩
        · show IsRangeIter _ _ (((n : Int) - 1) - ((0 : Nat) : Int)) ((n : Int) - ((0 : Nat) : Int)) (-1)
          rw [show ((n : Int) - 1) - ((0 : Nat) : Int) = (n : Int) - 1 by omega, show (n : Int) - ((0 : Nat) : Int) = Builtin.Range.rangeSize ((n : Int) - 1) (-1) (-1) by rw [size_dn]; omega]
          exact Heap.get?_push_size _ rfl
        · have e : b = (s1.heap.push { cls := .type "range", data := .fields #[.int ((n : Int) - 1) t, .int (-1) t', .int (-1) t''] }).objs.size := by simpa using hb
          subst e
          exact I2.fpOk (Nat.le_refl _) (I2.hok.fresh (Nat.le_refl _))
end
end L2

set_option Elab.async false
set_option linter.all false
set_option maxRecDepth 100000
set_option maxHeartbeats 4000000
namespace W
open PySem L2
/-! which rows are needed -/
noncomputable def UsesR (rows : List MU.Row) : Prop := ∀ (i : Nat) (r : MU.Row), rows[i]? = some r → r.used.length ≤ 2 ∧ ∀ j ∈ r.used, j < i
structure Need (rows : List MU.Row) (last : Nat) (ns : List Nat) : Prop where
  up : ns.Pairwise (· < ·)
  le : ∀ i ∈ ns, i ≤ last
  has : last ∈ ns
  uses : ∀ i ∈ ns, ∀ r, rows[i]? = some r → ∀ j ∈ r.used, j ∈ ns
  why : ∀ i ∈ ns, i = last ∨ ∃ k ∈ ns, ∃ r, rows[k]? = some r ∧ i ∈ r.used
structure NI (rows : List MU.Row) (last : Nat) (P : Nat → Prop) (ks : List Nat) : Prop where
  once : ks.Nodup
  le : ∀ k ∈ ks, k ≤ last
  has : last ∈ ks
  why : ∀ i ∈ ks, i = last ∨ ∃ k ∈ ks, ∃ r, rows[k]? = some r ∧ i ∈ r.used
  fin : ∀ k ∈ ks, P k → ∀ r, rows[k]? = some r → ∀ j ∈ r.used, j ∈ ks
noncomputable def addN (ks : List Nat) (j : Nat) : List Nat := if j ∈ ks then ks else ks ++ [j]
theorem mem_addN {ks : List Nat} {j k : Nat} : k ∈ addN ks j ↔ k ∈ ks ∨ k = j := by
  unfold addN
  split
  · exact ⟨.inl, fun h => h.elim id fun e => e ▸ ‹j ∈ ks›⟩
  · simp
theorem NI.add {rows : List MU.Row} {last m j : Nat} {P : Nat → Prop} {ks : List Nat} {r : MU.Row} (h : NI rows last P ks) (hm : m ∈ ks) (hr : rows[m]? = some r) (hj : j ∈ r.used) (hjm : j ≤ m) (hP : ¬ P j) : NI rows last P (addN ks j) := by
  refine ⟨?_, fun k hk => ?_, mem_addN.mpr (.inl h.has), fun i hi => ?_, fun k hk hp r' hr' j' hj' => ?_⟩
  · unfold addN
    split
    · exact h.once
    · rename_i hn
      exact List.nodup_append.mpr ⟨h.once, List.nodup_cons.mpr ⟨fun z => (nomatch z), List.nodup_nil⟩, fun a ha b hb e => hn (by rw [List.mem_singleton.mp hb] at e; rw [← e]; exact ha)⟩
  · rcases mem_addN.mp hk with hk | rfl
    · exact h.le k hk
    · have := h.le m hm
      omega
  · rcases mem_addN.mp hi with hi | rfl
    · rcases h.why i hi with e | ⟨k, hk, r', h1, h2⟩
      · exact .inl e
      · exact .inr ⟨k, mem_addN.mpr (.inl hk), r', h1, h2⟩
    · exact .inr ⟨m, mem_addN.mpr (.inl hm), r, hr, hj⟩
  · rcases mem_addN.mp hk with hk | rfl
    · exact mem_addN.mpr (.inl (h.fin k hk hp r' hr' j' hj'))
    · exact absurd hp hP
noncomputable def keyN (ks : List Nat) : List Key := ks.map fun i : Nat => Sum.inl (i : Int)
theorem keyN_mem {ks : List Nat} {j : Nat} : (Sum.inl (j : Int) : Key) ∈ keyN ks ↔ j ∈ ks := by
  unfold keyN
  rw [List.mem_map]
  constructor
  · rintro ⟨k, hk, e⟩
    have := Int.ofNat.inj (Sum.inl.inj e)
    exact this ▸ hk
  · exact fun h => ⟨j, h, rfl⟩
theorem keys_put {kvs : List (Key × V)} {ks : List Nat} {j : Nat} {v : V} (h : kvs.map (·.1) = keyN ks) : (putK kvs (Sum.inl (j : Int)) v).map (·.1) = keyN (addN ks j) := by
  have hm : (kvs.any fun kv => decide (kv.1 = Sum.inl (j : Int))) = true ↔ j ∈ ks := by
    rw [List.any_eq_true, ← keyN_mem, ← h, List.mem_map]
    constructor
    · rintro ⟨kv, h1, h2⟩
      exact ⟨kv, h1, by simpa using h2⟩
    · rintro ⟨kv, h1, h2⟩
      exact ⟨kv, h1, by simpa using h2⟩
  unfold putK addN
  by_cases hj : j ∈ ks
  · rw [if_pos (hm.mpr hj), if_pos hj, ← h, List.map_map]
    refine List.map_congr_left fun kv _ => ?_
    show (if kv.1 = Sum.inl (j : Int) then (kv.1, v) else kv).1 = kv.1
    split <;> rfl
  · rw [if_neg (fun z => hj (hm.mp z)), if_neg hj, List.map_append, h]
    unfold keyN
    rw [List.map_append]
    rfl
theorem val_isSome {kvs : List (Key × V)} {ks : List Nat} {j : Nat} (h : kvs.map (·.1) = keyN ks) : (valV kvs (Sum.inl (j : Int))).isSome = decide (j ∈ ks) := by
  rw [← valV_any]
  by_cases hj : j ∈ ks
  · rw [decide_eq_true hj]
    have : (Sum.inl (j : Int) : Key) ∈ kvs.map (·.1) := by rw [h]; exact keyN_mem.mpr hj
    obtain ⟨kv, h1, h2⟩ := List.mem_map.mp this
    exact List.any_eq_true.mpr ⟨kv, h1, by simpa using h2⟩
  · rw [decide_eq_false hj]
    refine List.any_eq_false.mpr fun kv h1 => ?_
    intro z
    have : (Sum.inl (j : Int) : Key) ∈ kvs.map (·.1) := List.mem_map.mpr ⟨kv, h1, by simpa using z⟩
    rw [h] at this
    exact hj (keyN_mem.mp this)
noncomputable def spNeed : Sp := fun vs H Q _ => ∃ (rl : Addr) (qs : List Addr) (rows : List MU.Row) (last : Nat), vs = [.ref rl, .int (last : Int)] ∧ H rl = some (.lst (qs.map V.ref)) ∧ Paired (RowAt H) qs rows ∧ UsesR rows ∧ last < rows.length ∧ rows.length ≤ 16500000 ∧
  ∀ l H' ns, H l = none → Same H H' → H' l = some (.lst (numsV ns)) → Need rows last ns → Q (.ref l) H'
section
variable {P : Program} {w : World} {K : PySem.W.Frag} {mg : Str → Option Value} {base : Heap}
noncomputable abbrev nNn : List Str := ["rows", "last", "needed", "at", "number"]
theorem scNn : FnScope nNn ["rows", "last"] (defScope sP_numbers_needed) := ⟨rfl, rfl, rfl, by decide +kernel, rfl, by decide +kernel, by decide +kernel⟩
section
seal L2.PE L2.PA L2.PT L2.PS L2.PSs L2.PG L2.PGs L2.PI L2.PO
theorem ok_needed {f : Addr} {fd : FuncData} (F : Fn K mg "numbers_needed" sP_numbers_needed ["rows", "last"] f fd) (hR : mg "range" = none) (hS : mg "sorted" = none) : FnOk P w K mg base CX0 1 f fd ["rows", "last"] spNeed := by
  refine F.F.ok scNn (fun vs H Q E h => ?_) (fun cdv A outer s H vs Q E hr h => ?_)
  · obtain ⟨_, _, _, _, rfl, _⟩ := h
    rfl
  · obtain ⟨rl, qs, rows, last, rfl, hrl, hrows, hU, hlast, hlen, k⟩ := h
    have hu := hu_of hr
    refine ⟨_, pss_consA (ps_set (i := 2) scNn.nd rfl (Or.inl rfl) (pe_disp (pps_cons (pv 1) pe_bl pps_nil) rfl rfl (by simp) (by simp)))
      (pss_consA (ps_for PassesOwn.never rfl (pi_range3 rfl hR (pa_cons (pv 1) (pa_cons (pe_un un_neg pe_int) (pa_cons (pe_un un_neg pe_int) pa_nil)))) (pg_name (i := 3) scNn.nd rfl (Or.inl rfl))
        (pss_one (ps_if (pt_cmp (pc_din hu (pv 3) (pv 2)) (by with_unfolding_all rfl))
          (pss_one (ps_for PassesOwn.never rfl (pi_tup (pe_ix ix_tup0 (pe_ix ix_list0 (pv 0) (pv 3) (fun _ _ => rfl)) pe_int (fun _ _ => rfl))) (pg_name (i := 4) scNn.nd rfl (Or.inl rfl))
            (pss_one (ps_dput hu (pv 2) (pv 4) pe_bl rfl)))) pss_nil)))
      (pss_one (ps_ret (pe_callB (call_sortedD rfl) (by rfl) hS PyProof.Rows.boot_sorted (pa_cons (pv 2) pa_nil))))), ?_⟩
    refine fun N1 c1 d hd => ⟨_, rfl, upd_same, [(Sum.inl (last : Int), .bl true)], rfl, by simp, c1 _ _ ?_⟩
    rw [upd_upd]
    have hql : qs.length = rows.length := Paired.length hrows
    have e1 : upd H d (.dK (mergeK [] [(Sum.inl (last : Int), .bl true)])) d = some (.dK [(Sum.inl (last : Int), .bl true)]) := upd_same
    have s1 := same_new (o := .dK (mergeK [] [(Sum.inl (last : Int), .bl true)])) hd
    generalize upd H d (.dK (mergeK [] [(Sum.inl (last : Int), .bl true)])) = H1 at *
    clear c1 N1
    have ev : [V.int (last : Int), V.int (-1), V.int (-1)] = [V.int (((last + 1 : Nat) : Int) - 1), V.int (-1), V.int (-1)] := by rw [show ((last + 1 : Nat) : Int) - 1 = (last : Int) by omega]
    have dr : d ≠ rl := Ne.symm (ne_of_none hrl hd)
    refine fun N2 c2 => ⟨_, rfl, _, rfl, _, rfl, last + 1, ev, by omega, ?_⟩
    refine for_down (fun i σ' H' => ∃ v3 v4 kvs ks, σ' = [some (.ref rl), some (.int (last : Int)), some (.ref d), v3, v4] ∧ H' d = some (.dK kvs) ∧ kvs.map (·.1) = keyN ks ∧ NI rows last (fun k => last < k + i) ks ∧ ∀ b o, H b = some o → H' b = some o)
      ⟨none, none, _, [last], rfl, e1, rfl, ⟨List.nodup_cons.mpr ⟨fun z => (nomatch z), List.nodup_nil⟩, fun k hk => by rw [List.mem_singleton.mp hk]; exact Nat.le_refl _, List.mem_singleton.mpr rfl, fun k hk => .inl (List.mem_singleton.mp hk), fun k hk hp => by have := List.mem_singleton.mp hk; omega⟩, fun b o e => s1 _ _ e⟩ ?_ ?_
    · rintro i σ' H2 hi ⟨v3, v4, kvs, ks, rfl, ed, hkv, hN, kp⟩
      obtain ⟨at_, hat⟩ : ∃ at_, at_ + i = last := ⟨last - i, by omega⟩
      have ex : V.int ((((last + 1 : Nat) : Int) - 1) - (i : Int)) = V.int (at_ : Int) := by rw [show (((last + 1 : Nat) : Int) - 1) - (i : Int) = (at_ : Int) by omega]
      rw [ex]
      have dg : DGet H2 d (.int (at_ : Int)) (valV kvs (Sum.inl (at_ : Int))) := DGet.k (k := Sum.inl (at_ : Int)) ed
      refine ⟨_, rfl, _, rfl, d, _, rfl, dg, _, rfl, ?_⟩
      rw [val_isSome hkv]
      by_cases hin : at_ ∈ ks
      · refine iteD hin ?_
        obtain ⟨q, hq⟩ : ∃ q, qs[at_]? = some q := ⟨_, List.getElem?_eq_getElem (by omega)⟩
        obtain ⟨r, hr', pw, pu, g4, g5, g6⟩ := paired_get hrows hq
        have hatI : atI (qs.map V.ref) (at_ : Int) = some (.ref q) := atI_nat (by rw [List.getElem?_map, hq]; rfl)
        refine ⟨_, rfl, rdLv rfl (kp _ _ hrl) hatI (rdT (kp _ _ g4) rfl ⟨pu, rfl, ⟨_, SqT.of (kp _ _ g6)⟩, ?_⟩)⟩
        refine for_tup (K := K) (a := pu) (xs := r.used.map fun i : Nat => V.int (i : Int)) (fun m σ' H' => ∃ v4 kvs ks, σ' = [some (.ref rl), some (.int (last : Int)), some (.ref d), some (.int (at_ : Int)), v4] ∧ H' d = some (.dK kvs) ∧ kvs.map (·.1) = keyN ks ∧ NI rows last (fun k => last < k + i) ks ∧ at_ ∈ ks ∧ (∀ j ∈ r.used.take m, j ∈ ks) ∧ ∀ b o, H b = some o → H' b = some o)
          ⟨v4, kvs, ks, rfl, ed, hkv, hN, hin, fun j hj => by simp at hj, kp⟩ ?_ ?_ ?_
        · rintro m σ' H3 _ ⟨_, _, _, rfl, _, _, _, _, _, kp3⟩
          exact SqT.of (kp3 _ _ g6)
        · rintro m x σ' H3 hx ⟨v4, kvs, ks, rfl, ed, hkv, hN, hin, hm, kp3⟩
          rw [List.getElem?_map] at hx
          cases hj : r.used[m]? with
          | none => rw [hj] at hx; cases hx
          | some j =>
            rw [hj] at hx
            cases hx
            have hjm := List.mem_of_getElem? hj
            have hja := (hU at_ r hr').2 j hjm
            have hl : kvs.length ≤ last + 1 := by
              have h1 := congrArg List.length hkv
              unfold keyN at h1
              rw [List.length_map, List.length_map] at h1
              have := MH.nodup_le (last + 1) ks hN.once fun z hz => by have := hN.le z hz; omega
              omega
            refine ⟨_, rfl, _, rfl, d, _, rfl, DPut.k (k := Sum.inl (j : Int)) ed (size16 (by omega)), ?_⟩
            refine ⟨_, _, addN ks j, rfl, upd_same, keys_put hkv, hN.add hin hr' hjm (Nat.le_of_lt hja) (by omega), mem_addN.mpr (.inl hin), fun j' hj' => ?_, fun b o e => ?_⟩
            · rw [List.take_succ, hj] at hj'
              rcases List.mem_append.mp hj' with hj' | hj'
              · exact mem_addN.mpr (.inl (hm j' hj'))
              · exact mem_addN.mpr (.inr (by simpa using hj'))
            · rw [upd_ne (ne_of_none e hd)]
              exact kp3 _ _ e
        · rintro σ' H3 ⟨v4, kvs, ks, rfl, ed, hkv, hN, hin, hm, kp3⟩
          have hall : r.used.take (r.used.map fun i : Nat => V.int (i : Int)).length = r.used := by rw [List.length_map]; exact List.take_length
          rw [hall] at hm
          refine ⟨_, _, kvs, ks, rfl, ed, hkv, ⟨hN.once, hN.le, hN.has, hN.why, fun k hk hp r' hr2 j hj => ?_⟩, kp3⟩
          by_cases e : k = at_
          · subst e
            rw [hr'] at hr2
            cases hr2
            exact hm j hj
          · exact hN.fin k hk (by omega) r' hr2 j hj
      · refine iteDN hin ⟨_, _, kvs, ks, rfl, ed, hkv, ⟨hN.once, hN.le, hN.has, hN.why, fun k hk hp r' hr2 j hj => ?_⟩, kp⟩
        exact hN.fin k hk (by have : k ≠ at_ := fun e => hin (e ▸ hk); omega) r' hr2 j hj
    · rintro σ' H2 ⟨v3, v4, kvs, ks, rfl, ed, hkv, hN, kp⟩
      refine c2 _ _ ⟨_, rfl, d, kvs, ks.map fun i : Nat => (i : Int), rfl, ed, by rw [hkv, List.map_map]; rfl, fun l ns' hl hpm hup => ?_⟩
      have hlH : H l = none := by
        cases q : H l with
        | none => rfl
        | some x => rw [kp _ _ q] at hl; cases hl
      have hback : ∀ {l : List Int}, (∀ z ∈ l, 0 ≤ z) → (l.map Int.toNat).map (fun i : Nat => (i : Int)) = l := fun {l} h => by
        rw [List.map_map]
        conv => rhs; rw [← List.map_id l]
        exact List.map_congr_left fun z hz => Int.toNat_of_nonneg (h z hz)
      have hnn : ∀ z ∈ ns', 0 ≤ z := fun z hz => by
        obtain ⟨k, _, rfl⟩ := List.mem_map.mp (hpm.mem_iff.mp hz)
        omega
      have hpn : (ns'.map Int.toNat).Perm ks := by
        have := hpm.map Int.toNat
        rw [List.map_map] at this
        have e : ks.map (Int.toNat ∘ fun i : Nat => (i : Int)) = ks := by
          conv => rhs; rw [← List.map_id ks]
          exact List.map_congr_left fun z _ => Int.toNat_natCast z
        rw [e] at this
        exact this
      have s3 : Same H (upd H2 l (.lst (ns'.map V.int))) := fun b o e => by rw [upd_ne (ne_of_none (kp _ _ e) hl)]; exact kp _ _ e
      refine k l _ (ns'.map Int.toNat) hlH s3 ?_ ⟨?_, fun i hi => hN.le i (hpn.mem_iff.mp hi), hpn.mem_iff.mpr hN.has, fun i hi r' hr' j hj => ?_, fun i hi => ?_⟩
      · rw [upd_same]
        unfold numsV
        have e : ns'.map V.int = (ns'.map Int.toNat).map fun i : Nat => V.int (i : Int) := by
          conv => lhs; rw [← hback hnn]
          rw [List.map_map]
          rfl
        rw [e]
      · have hnd : (ns'.map Int.toNat).Nodup := hpn.nodup_iff.mpr hN.once
        have h1 : (ns'.map Int.toNat).Pairwise (· ≤ ·) := by
          rw [List.pairwise_map]
          exact hup.imp fun h => Int.toNat_le_toNat h
        exact h1.imp₂ (fun a b h h' => Nat.lt_of_le_of_ne h h') hnd
      · have hi' := hpn.mem_iff.mp hi
        have := hN.le i hi'
        exact hpn.mem_iff.mpr (hN.fin i hi' (by omega) r' hr' j hj)
      · rcases hN.why i (hpn.mem_iff.mp hi) with e | ⟨k', hk', r', h1, h2⟩
        · exact .inl e
        · exact .inr ⟨k', hpn.mem_iff.mpr hk', r', h1, h2⟩
end
end
end W

set_option Elab.async false
set_option linter.all false
set_option maxRecDepth 100000
set_option maxHeartbeats 4000000
namespace W
open PySem L2
/-! the paper -/
noncomputable def paperRow (rows : List MU.Row) (ns : List Nat) (i : Nat) : Option MU.Row := (rows[i]?).map fun r => ⟨r.what, r.word, r.used.map fun j => ns.idxOf j⟩
noncomputable def paperOf (rows : List MU.Row) (ns : List Nat) : List MU.Row := ns.filterMap (paperRow rows ns)
theorem idx_at {ns : List Nat} {m x : Nat} (hn : ns.Nodup) (h : ns[m]? = some x) : ns.idxOf x = m := by
  obtain ⟨hm, rfl⟩ := List.getElem?_eq_some_iff.mp h
  exact List.Nodup.idxOf_getElem hn m hm
theorem up_nodup {ns : List Nat} (h : ns.Pairwise (· < ·)) : ns.Nodup := h.imp fun h => Nat.ne_of_lt h
theorem up_take {ns : List Nat} (h : ns.Pairwise (· < ·)) {m x j : Nat} (hx : ns[m]? = some x) (hj : j ∈ ns) (hlt : j < x) : j ∈ ns.take m := by
  obtain ⟨i, hi, e⟩ := List.getElem_of_mem hj
  obtain ⟨hm, e'⟩ := List.getElem?_eq_some_iff.mp hx
  have him : i < m := Classical.byContradiction fun z => by
    rcases Nat.lt_or_eq_of_le (Nat.le_of_not_lt z) with z | z
    · have := List.pairwise_iff_getElem.mp h m i hm hi z
      omega
    · subst z
      omega
  rw [← e]
  exact List.mem_take_iff_getElem.mpr ⟨i, by omega, rfl⟩
noncomputable def spPaper : Sp := fun vs H Q _ => ∃ (rl : Addr) (qs : List Addr) (rows : List MU.Row) (last : Nat), vs = [.ref rl, .int (last : Int)] ∧ H rl = some (.lst (qs.map V.ref)) ∧ Paired (RowAt H) qs rows ∧ UsesR rows ∧ last < rows.length ∧ rows.length ≤ 16500000 ∧
  ∀ l H' ns ps, H l = none → Same H H' → Need rows last ns → H' l = some (.lst (ps.map V.ref)) → Paired (RowAt H') ps (paperOf rows ns) → Q (.ref l) H'
section
variable {P : Program} {w : World} {K : PySem.W.Frag} {mg : Str → Option Value} {base : Heap}
noncomputable abbrev nPu : List Str := ["rows", "last", "places", "paper", "number", "row"]
theorem scPu : FnScope nPu ["rows", "last"] (defScope sP_paper_up_to) := ⟨rfl, rfl, rfl, by decide +kernel, rfl, by decide +kernel, by decide +kernel⟩
theorem coPu : CompOk (defScope sP_paper_up_to) nPu (fsc [(".0", .local), ("used", .local), ("places", .free)]) ["used", "places"] [none, some 2] := ⟨rfl, by decide +kernel, by decide +kernel, by decide +kernel, rfl, by decide +kernel⟩
theorem ndPu : (["used", "places"] : List Str).Nodup := by decide +kernel
section
seal L2.PE L2.PA L2.PT L2.PS L2.PSs L2.PG L2.PGs L2.PI L2.PO
theorem ok_paperUp {f fN : Addr} {fd fdN : FuncData} (F : Fn K mg "paper_up_to" sP_paper_up_to ["rows", "last"] f fd) (hL : mg "len" = none) (hT : mg "tuple" = none)
    (FN : Fn K mg "numbers_needed" sP_numbers_needed ["rows", "last"] fN fdN) (GN : FnOk P w K mg base CX0 1 fN fdN ["rows", "last"] spNeed) : FnOk P w K mg base CX0 2 f fd ["rows", "last"] spPaper := by
  refine F.F.ok scPu (fun vs H Q E h => ?_) (fun cdv A outer s H vs Q E hr h => ?_)
  · obtain ⟨_, _, _, _, rfl, _⟩ := h
    rfl
  · obtain ⟨rl, qs, rows, last, rfl, hrl, hrows, hU, hlast, hlen, k⟩ := h
    have hu := hu_of hr
    refine ⟨_, pss_consA (ps_set (i := 2) scPu.nd rfl (Or.inr rfl) pe_dnewK)
      (pss_consA (ps_set (i := 3) scPu.nd rfl (Or.inl rfl) (pe_lst pa_nil))
      (pss_consA (ps_for PassesOwn.never rfl (pi_list (pe_call GN hr rfl FN.g FN.F.kp FN.b .nil pass0 (pa_cons (pv 0) (pa_cons (pv 1) pa_nil)))) (pg_name (i := 4) scPu.nd rfl (Or.inl rfl))
        (pss_consA (ps_set (i := 5) scPu.nd rfl (Or.inl rfl) (pe_ix ix_list0 (pv 0) (pv 4) (fun _ _ => rfl)))
        (pss_consA (ps_dput hu (pv 2) (pv 4) (pe_callB call_len_seq (by rfl) hL PySem.boot_len (pa_cons (pv 3) pa_nil)) rfl)
        (pss_one (ps_expr (pe_bm PySem.F.plainAttrs_list PySem.F.slot_list_append PySem.F.type_list_append mt_append (pv 3) (pa_cons (pe_tup (pa_cons (pe_ix ix_tup0 (pv 5) pe_int (fun _ _ => rfl)) (pa_cons (pe_ix ix_tup0 (pv 5) pe_int (fun _ _ => rfl)) (pa_cons (pe_callTy call_tuple_of (by rfl) hT (by decide +kernel) (pa_cons (pe_comp rfl (pi_tup (pe_ix ix_tup0 (pv 5) pe_int (fun _ _ => rfl))) coPu (fun cl ex s0 H0 => ⟨pg_name (i := 0) ndPu rfl (Or.inl rfl), pif_none, pe_dget hu (pv 1) (pv 0) (fun _ _ => rfl)⟩)) pa_nil)) pa_nil)))) pa_nil)))))))
      (pss_one (ps_ret (pv 3))))), ?_⟩
    refine fun N1 c1 d hd => c1 _ _ ?_
    have s1 := same_new (o := .dK []) hd
    have e1 : upd H d (.dK []) d = some (.dK []) := upd_same
    generalize upd H d (.dK []) = H1 at *
    clear c1 N1
    refine fun N2 c2 => ⟨Nat.zero_le _, fun pl hpl => c2 _ _ ?_⟩
    have s2 := same_new (o := .lst []) hpl
    have e2 : upd H1 pl (.lst []) pl = some (.lst []) := upd_same
    have plH : H pl = none := by
      cases q : H pl with
      | none => rfl
      | some x => rw [s1 _ _ q] at hpl; cases hpl
    have dpl : d ≠ pl := ne_of_none e1 hpl
    generalize upd H1 pl (.lst []) = H2 at *
    clear c2 N2
    have s02 := s1.trans s2
    have hql : qs.length = rows.length := Paired.length hrows
    refine fun N3 c3 => ⟨_, rfl, _, rfl, rl, qs, rows, last, rfl, s02 _ _ hrl, paired_imp hrows fun q r e => e.same s02, hU, hlast, hlen, fun l H3 ns hl s3 el hN => ?_⟩
    have hnd := up_nodup hN.up
    have hnl : ns.length ≤ last + 1 := MH.nodup_le (last + 1) ns hnd fun z hz => by have := hN.le z hz; omega
    have s03 := s02.trans s3
    have ed3 := s3 _ _ (s2 _ _ e1)
    have ep3 := s3 _ _ e2
    have lH : H l = none := by
      cases q : H l with
      | none => rfl
      | some x => rw [s02 _ _ q] at hl; cases hl
    have ld : l ≠ d := Ne.symm (ne_of_none (s2 _ _ e1) hl)
    have lp : l ≠ pl := Ne.symm (ne_of_none e2 hl)
    refine ⟨l, rfl, ⟨_, SqL.of el⟩, ?_⟩
    refine for_list (K := K) (a := l) (xs := numsV ns) (fun m σ' H' => ∃ v4 v5 kvs ps, σ' = [some (.ref rl), some (.int (last : Int)), some (.ref d), some (.ref pl), v4, v5] ∧ H' d = some (.dK kvs) ∧ kvs.length ≤ m ∧
        (∀ j : Nat, j ∈ ns.take m → valV kvs (Sum.inl (j : Int)) = some (.int (ns.idxOf j : Int))) ∧ H' pl = some (.lst (ps.map V.ref)) ∧ ps.length = m ∧ Paired (RowAt H') ps ((ns.take m).filterMap (paperRow rows ns)) ∧ H' l = some (.lst (numsV ns)) ∧ Same H H')
      ⟨none, none, [], [], rfl, ed3, Nat.le_refl _, fun j hj => by simp at hj, ep3, rfl, .nil, el, s03⟩ ?_ ?_ ?_
    · rintro m σ' H4 _ ⟨_, _, _, _, rfl, _, _, _, _, _, _, e, _⟩
      exact SqL.of e
    · rintro m x σ' H4 hx ⟨v4, v5, kvs, ps, rfl, ed, hkl, hkv, ep, hpl', hps, el4, s4⟩
      unfold numsV at hx
      rw [List.getElem?_map] at hx
      cases hj : ns[m]? with
      | none => rw [hj] at hx; cases hx
      | some num =>
        rw [hj] at hx
        cases hx
        have hmn : m < ns.length := (List.getElem?_eq_some_iff.mp hj).1
        have hnum := hN.le num (List.mem_of_getElem? hj)
        obtain ⟨q, hq⟩ : ∃ q, qs[num]? = some q := ⟨_, List.getElem?_eq_getElem (by omega)⟩
        obtain ⟨r, hr', pw, pu, g4, g5, g6⟩ := paired_get hrows hq
        have hat : atI (qs.map V.ref) (num : Int) = some (.ref q) := atI_nat (by rw [List.getElem?_map, hq]; rfl)
        refine fun N5 c5 => ⟨_, rfl, rdLv rfl (s4 _ _ hrl) hat (c5 _ _ ?_)⟩
        clear c5 N5
        refine fun N6 c6 => ⟨_, rfl, pl, _, rfl, .inl (SqL.of ep), _, rfl, _, rfl, d, _, rfl, DPut.k (k := Sum.inl (num : Int)) ed (size16 (by omega)), c6 _ _ ?_⟩
        rw [List.length_map, hpl']
        clear c6 N6
        have kd : ∀ {b : Addr} {o : HO}, H4 b = some o → b ≠ d → upd H4 d (.dK (putK kvs (Sum.inl (num : Int)) (.int (m : Int)))) b = some o := fun e ne => by rw [upd_ne ne]; exact e
        have ed5 : upd H4 d (.dK (putK kvs (Sum.inl (num : Int)) (.int (m : Int)))) d = some (.dK (putK kvs (Sum.inl (num : Int)) (.int (m : Int)))) := upd_same
        have s5 : Same H (upd H4 d (.dK (putK kvs (Sum.inl (num : Int)) (.int (m : Int))))) := fun b o e => kd (s4 _ _ e) (ne_of_none e hd)
        have ep5 := kd ep (Ne.symm dpl)
        have el5 := kd el4 ld
        have hps5 : Paired (RowAt (upd H4 d (.dK (putK kvs (Sum.inl (num : Int)) (.int (m : Int)))))) ps ((ns.take m).filterMap (paperRow rows ns)) := paired_imp hps fun q r ⟨pw, pu, h1, h2, h3⟩ =>
          ⟨pw, pu, kd h1 (ne_of h1 ed (fun z => nomatch z)), kd h2 (ne_of h2 ed (fun z => nomatch z)), kd h3 (ne_of h3 ed (fun z => nomatch z))⟩
        generalize upd H4 d (.dK (putK kvs (Sum.inl (num : Int)) (.int (m : Int)))) = H5 at *
        have et : ns.take (m + 1) = ns.take m ++ [num] := by rw [List.take_succ, hj]; rfl
        have hkv5 : ∀ j : Nat, j ∈ ns.take (m + 1) → valV (putK kvs (Sum.inl (num : Int)) (.int (m : Int))) (Sum.inl (j : Int)) = some (.int (ns.idxOf j : Int)) := fun j hj' => by
          rw [valV_put]
          by_cases e : j = num
          · subst e
            rw [if_pos rfl, idx_at hnd hj]
          · rw [if_neg (show ¬ ((Sum.inl (j : Int) : Key) = Sum.inl (num : Int)) from fun z => e (Int.ofNat.inj (Sum.inl.inj z)))]
            rw [et] at hj'
            rcases List.mem_append.mp hj' with h | h
            · exact hkv j h
            · exact absurd (List.mem_singleton.mp h) e
        have hu2 := hU num r hr'
        refine ⟨_, rfl, .inl ⟨rfl, _, SqL.of ep5⟩, _, rfl, rdT (s5 _ _ g4) rfl ⟨_, rfl, rdT (s5 _ _ g4) rfl ⟨_, rfl, rdT (s5 _ _ g4) rfl ⟨pu, rfl, ⟨_, SqT.of (s5 _ _ g6)⟩, fun Da hDa => ?_⟩⟩⟩⟩
        refine comp_tup (xs := r.used.map fun i : Nat => V.int (i : Int)) (fun a σ' H' => ∃ v, σ' = [v, some (.ref d)] ∧ H' Da = some (.lst (((r.used.take a).map fun j => ns.idxOf j).map fun i : Nat => V.int (i : Int))) ∧ Same H5 H') ⟨none, rfl, upd_same, same_new hDa⟩ ?_ ?_ ?_
        · rintro a σ' H6 _ ⟨v, rfl, _, s6⟩
          exact SqT.of (s6 _ _ (s5 _ _ g6))
        · rintro a x σ' H6 hx ⟨v, rfl, e6, s6⟩
          rw [List.getElem?_map] at hx
          cases hj2 : r.used[a]? with
          | none => rw [hj2] at hx; cases hx
          | some j =>
            rw [hj2] at hx
            cases hx
            have hjm := List.mem_of_getElem? hj2
            have hjn := hN.uses num (List.mem_of_getElem? hj) r hr' j hjm
            have hin : j ∈ ns.take (m + 1) := by rw [et]; exact List.mem_append_left _ (up_take hN.up hj hjn (hu2.2 j hjm))
            have dg : DGet H6 d (.int (j : Int)) (some (.int (ns.idxOf j : Int))) := by
              have := DGet.k (k := Sum.inl (j : Int)) (s6 _ _ ed5)
              rw [hkv5 j hin] at this
              exact this
            refine ⟨_, rfl, _, rfl, d, _, rfl, dg, _, e6, ?_, _, rfl, ?_, fun b o e => ?_⟩
            · rw [List.length_map, List.length_map, List.length_take]
              exact small1000 (by omega)
            · rw [upd_same, List.take_succ, hj2, List.map_append, List.map_append]
              rfl
            · rw [upd_ne (ne_of_none e hDa)]
              exact s6 _ _ e
        · rintro σ' H6 ⟨v, rfl, e6, s6⟩
          have hall : r.used.take (r.used.map fun i : Nat => V.int (i : Int)).length = r.used := by rw [List.length_map]; exact List.take_length
          rw [hall] at e6
          refine ⟨Da, _, rfl, .inl ⟨SqL.of e6, fun tu htu => ⟨by show 3 ≤ sizeLine; decide, fun rt hrt => ?_⟩⟩⟩
          have s7 := same_new (o := .tup ((r.used.map fun j => ns.idxOf j).map fun i : Nat => V.int (i : Int))) htu
          have e7 : upd H6 tu (.tup ((r.used.map fun j => ns.idxOf j).map fun i : Nat => V.int (i : Int))) tu = some (.tup ((r.used.map fun j => ns.idxOf j).map fun i : Nat => V.int (i : Int))) := upd_same
          generalize upd H6 tu (.tup ((r.used.map fun j => ns.idxOf j).map fun i : Nat => V.int (i : Int))) = H7 at *
          have s8 := same_new (o := .tup [.ref pw, .str (wordS r.word), .ref tu]) hrt
          have e8 : upd H7 rt (.tup [.ref pw, .str (wordS r.word), .ref tu]) rt = some (.tup [.ref pw, .str (wordS r.word), .ref tu]) := upd_same
          generalize upd H7 rt (.tup [.ref pw, .str (wordS r.word), .ref tu]) = H8 at *
          have s58 := (s6.trans s7).trans s8
          have ep8 := s58 _ _ ep5
          refine ⟨pl, _, _, rfl, rfl, ep8, by rw [List.length_map, hpl']; exact size16 (by omega), ?_⟩
          have kp : ∀ {b : Addr} {o : HO}, H8 b = some o → b ≠ pl → upd H8 pl (.lst (ps.map V.ref ++ [.ref rt])) b = some o := fun e ne => by rw [upd_ne ne]; exact e
          have tup : ∀ {b : Addr} {xs : List V}, H8 b = some (.tup xs) → upd H8 pl (.lst (ps.map V.ref ++ [.ref rt])) b = some (.tup xs) := fun e => kp e (ne_of e ep8 (fun z => nomatch z))
          refine ⟨_, _, _, ps ++ [rt], rfl, kp (s58 _ _ ed5) dpl, Nat.le_trans (length_putK _ _ _) (by omega), hkv5, ?_, by rw [List.length_append, hpl']; rfl, ?_, kp (s58 _ _ el5) lp, fun b o e => kp (s58 _ _ (s5 _ _ e)) (ne_of_none e plH)⟩
          · rw [upd_same, List.map_append]
            rfl
          · rw [et, List.filterMap_append]
            refine paired_append (paired_imp hps5 fun q r' ⟨pw', pu', h1, h2, h3⟩ => ⟨pw', pu', tup (s58 _ _ h1), tup (s58 _ _ h2), tup (s58 _ _ h3)⟩) ?_
            have er : paperRow rows ns num = some ⟨r.what, r.word, r.used.map fun j => ns.idxOf j⟩ := by unfold paperRow; rw [hr']; rfl
            rw [show [num].filterMap (paperRow rows ns) = [⟨r.what, r.word, r.used.map fun j => ns.idxOf j⟩] by simp [er]]
            exact .cons ⟨pw, tu, tup e8, tup (s58 _ _ (s5 _ _ g5)), tup (s8 _ _ e7)⟩ .nil
    · rintro σ' H4 ⟨v4, v5, kvs, ps, rfl, ed, hkl, hkv, ep, hpl', hps, el4, s4⟩
      have hall : ns.take (numsV ns).length = ns := by unfold numsV; rw [List.length_map]; exact List.take_length
      rw [hall] at hps
      exact c3 _ _ ⟨_, rfl, k pl H4 ns ps plH s4 hN ep hps⟩
end
end
end W

set_option Elab.async false
set_option linter.all false
set_option maxRecDepth 100000
set_option maxHeartbeats 4000000
namespace W
open PySem L2
/-! which waits are told -/
noncomputable def toldW2 (F : MU.Falls) (x : Tri) : Bool := match F x.2.1 with
  | some f => decide (f.2.1 < x.2.2) && decide (x.2.2 ≤ f.2.2)
  | none => false
noncomputable def spTold2 : Sp := fun vs H Q _ => ∃ (d q : Addr) (F : MU.Falls) (x : Tri) (f : Nat × Int × Int), vs = [.ref d, .ref q] ∧ FallsAt H d F ∧ TriAt H q x ∧ F x.2.1 = some f ∧ Q (.bl (toldW2 F x)) H
section
variable {P : Program} {w : World} {K : PySem.W.Frag} {mg : Str → Option Value} {base : Heap}
theorem scIt : FnScope ["by_end", "wait", "fall"] ["by_end", "wait"] (defScope sP_is_told) := ⟨rfl, rfl, rfl, by decide +kernel, rfl, by decide +kernel, by decide +kernel⟩
theorem ok_isTold {f : Addr} {fd : FuncData} (F : Fn K mg "is_told" sP_is_told ["by_end", "wait"] f fd) : FnOk P w K mg base CX0 1 f fd ["by_end", "wait"] spTold2 := by
  refine F.F.ok scIt (fun vs H Q E h => ?_) (fun cdv A outer s H vs Q E hr h => ?_)
  · obtain ⟨_, _, _, _, _, rfl, _⟩ := h
    rfl
  · obtain ⟨d, q, Fa, x, fa, rfl, FA, hw, hf, k⟩ := h
    have hu := hu_of hr
    refine ⟨_, pss_cons (ps_set (i := 2) scIt.nd rfl (Or.inl rfl) (pe_dget hu (pv 0) (pe_ix ix_tup0 (pv 1) pe_int (fun _ _ => rfl)) (fun _ _ => rfl)))
      (pss_one (ps_ret (pe_chain op_lt op_le (pe_ix ix_tup0 (pv 2) pe_int (fun _ _ => rfl)) (pe_ix ix_tup0 (pv 1) pe_int (fun _ _ => rfl)) (pe_ix ix_tup0 (pv 2) pe_int (fun _ _ => rfl))))), ?_⟩
    obtain ⟨kvs, hd, hl, f0, f1⟩ := FA.at_
    obtain ⟨p, e1, e2⟩ := f1 _ _ hf
    have ev : toldW2 Fa x = (decide (fa.2.1 < x.2.2) && decide (x.2.2 ≤ fa.2.2)) := by unfold toldW2; rw [hf]
    rw [ev] at k
    refine ⟨_, rfl, _, rfl, rdT hw rfl ⟨d, _, rfl, e1 ▸ DGet.k (k := Sum.inl (x.2.1 : Int)) hd, ?_⟩⟩
    refine ⟨_, rfl, rdT e2 rfl ⟨_, rfl, rdT hw rfl ⟨_, _, rfl, rfl, _, rfl, ?_⟩⟩⟩
    by_cases c : fa.2.1 < x.2.2
    · rw [decide_eq_true c] at k
      refine iteD c ⟨_, rfl, rdT e2 rfl ⟨_, _, rfl, rfl, ?_⟩⟩
      exact k
    · rw [decide_eq_false c] at k
      exact iteDN c k
/-! what kept tells -/
noncomputable def RuleAt (H : Hp) (r : Addr) (st : MU.St) (F : MU.Falls) : Prop := ∃ lt lw ps qs L M, H r = some (.tup [.str "rule", .ref lt, .ref lw]) ∧ H lt = some (.lst (ps.map V.ref)) ∧ Paired (TriAt H) ps L ∧ Best st true L ∧
  H lw = some (.lst (qs.map V.ref)) ∧ Paired (TriAt H) qs (M.filter (toldW2 F)) ∧ Best st false M
noncomputable def PaperAt (H : Hp) (r : Addr) (st : MU.St) (b : Nat) : Prop := ∃ l ns ps, H r = some (.tup [.str "paper", .ref l]) ∧ H l = some (.lst (ps.map V.ref)) ∧ Paired (RowAt H) ps (paperOf st.rows ns) ∧ Need st.rows b ns
noncomputable def closed (n : Nat) (la : Int) (T F : List (List Int)) (Te : Nat) : MU.St := MU.run n (fallsOf F) (begun n la T F) Te
noncomputable def spKept (CW : Addr) : Sp := fun vs H Q _ => ∃ (wb : Addr) (n : Nat) (la : Int) (T F : List (List Int)) (Te : Nat), vs = [.ref wb] ∧ WebAt CW H wb (n : Int) la T F ∧ WebOk (n : Int) la T F ∧ Ended n (fallsOf F) (begun n la T F) Te ∧
  ∀ r H', H r = none → Same H H' → (∀ b, (closed n la T F Te).bar = some b → PaperAt H' r (closed n la T F Te) b → Q (.ref r) H') ∧ ((closed n la T F Te).bar = none → RuleAt H' r (closed n la T F Te) (fallsOf F) → Q (.ref r) H')
theorem scKe : FnScope ["web", "closing", "waits"] ["web"] (defScope sP_kept) := ⟨rfl, rfl, rfl, by decide +kernel, rfl, by decide +kernel, by decide +kernel⟩
theorem coKe : CompOk (defScope sP_kept) ["web", "closing", "waits"] (fsc [(".0", .local), ("wait", .local), ("is_told", .globalImplicit), ("closing", .free)]) ["wait", "closing"] [none, some 1] := ⟨rfl, by decide +kernel, by decide +kernel, by decide +kernel, rfl, by decide +kernel⟩
theorem ndKe : (["wait", "closing"] : List Str).Nodup := by decide +kernel
section
seal L2.PE L2.PA L2.PT L2.PS L2.PSs L2.PG L2.PGs L2.PI L2.PO
theorem ok_kept {f C CW fI fA fB fP fT : Addr} {fd fdI fdA fdB fdP fdT : FuncData} (F : Fn K mg "kept" sP_kept ["web"] f fd) (T : TxtCl K mg C) (M : Mk K C fI) (hC : mg "Closing" = some (.ref C))
    (bI : Binds K fdI ["self", "web"] []) (GI : FnOk P w K mg base CX0 4 fI fdI ["self", "web"] (spCInit C CW))
    (mA : Meth K C "draw_all" fA) (bA : Binds K fdA ["self"] []) (GA : FnOk P w K mg base CX0 5 fA fdA ["self"] (spAll C))
    (mB : Meth K C "best_drawn" fB) (bB : Binds K fdB ["self", "kind"] []) (GB : FnOk P w K mg base CX0 1 fB fdB ["self", "kind"] (spBest C))
    (FP : Fn K mg "paper_up_to" sP_paper_up_to ["rows", "last"] fP fdP) (GP : FnOk P w K mg base CX0 2 fP fdP ["rows", "last"] spPaper)
    (FT : Fn K mg "is_told" sP_is_told ["by_end", "wait"] fT fdT) (GT : FnOk P w K mg base CX0 1 fT fdT ["by_end", "wait"] spTold2) : FnOk P w K mg base CX0 6 f fd ["web"] (spKept CW) := by
  refine F.F.ok scKe (fun vs H Q E h => ?_) (fun cdv A outer s H vs Q E hr h => ?_)
  · obtain ⟨_, _, _, _, _, _, rfl, _⟩ := h
    rfl
  · obtain ⟨wb, n, la, rT, rF, Te, rfl, W0, hok, hE, k⟩ := h
    have hr1 : Room 1 _ := hr.mono (by decide)
    have hr2 : Room 2 _ := hr.mono (by decide)
    refine ⟨_, pss_consA (ps_set (i := 1) scKe.nd rfl (Or.inr rfl) (pe_make M GI hr rfl hC bI .nil pass0 (pa_cons (pv 0) pa_nil)))
      (pss_consA (ps_expr (pe_meth0 (pv 1) T.cl mA GA hr bA .nil pass0))
      (pss_consA (ps_if (pt_cmpR op_notN (pe_fld (pv 1) rfl) pe_non (nomark _)) (pss_one (ps_ret (pe_tup (pa_cons pe_str (pa_cons (pe_call GP hr2 rfl FP.g FP.F.kp FP.b .nil pass0 (pa_cons (pe_fld (pv 1) rfl) (pa_cons (pe_fld (pv 1) rfl) pa_nil))) pa_nil))))) pss_nil)
      (pss_consA (ps_setC (i := 2) scKe.nd rfl rfl rfl (pi_list (pe_meth (pv 1) T.cl mB GB hr1 bB .nil pass0 (pa_cons pe_str pa_nil))) coKe (fun cl ex s0 H0 => ⟨pg_name (i := 0) ndKe rfl (Or.inl rfl), pif_one (pt_val (pe_call GT hr1 rfl FT.g FT.F.kp FT.b .nil pass0 (pa_cons (pe_fldK (K := K) rfl (pv 1) rfl) (pa_cons (pv 0) pa_nil)))), pv 0⟩))
      (pss_one (ps_ret (pe_tup (pa_cons pe_str (pa_cons (pe_meth (pv 1) T.cl mB GB hr1 bB .nil pass0 (pa_cons pe_str pa_nil)) (pa_cons (pv 2) pa_nil))))))))), ?_⟩
    have n1 := hok.n1
    have n2 := hok.n2
    refine fun N1 c1 => ⟨_, rfl, fun p dx hp hdx hne => ?_⟩
    have W1 : WebAt CW (upd (upd H dx (.own p)) p (.ins C dx [])) wb (n : Int) la rT rF := W0.same fun b o e => by rw [upd_ne (ne_of_none e hp), upd_ne (ne_of_none e hdx)]; exact e
    have keep0 : ∀ b o, H b = some o → upd (upd H dx (.own p)) p (.ins C dx []) b = some o := fun b o e => by rw [upd_ne (ne_of_none e hp), upd_ne (ne_of_none e hdx)]; exact e
    refine ⟨p, wb, dx, n, la, rT, rF, rfl, upd_same, W1, hok, fun H2 be rl bd c2 hbe hrl hbd k2 => ⟨rfl, c1 _ _ ?_⟩⟩
    have s2 : Same H H2 := fun b o e => k2 _ _ (keep0 _ _ e) (ne_of_none e hp)
    have none0 : ∀ {b : Addr}, upd (upd H dx (.own p)) p (.ins C dx []) b = none → H b = none := fun {b} e => by
      cases q : H b with
      | none => rfl
      | some x => rw [keep0 _ _ q] at e; cases e
    have rlH := none0 hrl
    have bdH := none0 hbd
    clear c1 N1
    obtain ⟨dx2, hp2⟩ := c2.ins
    refine fun N2 c2' => ⟨_, rfl, p, dx2, _, rfl, hp2, c_no (by decide +kernel) (by decide +kernel) (by decide +kernel) (by decide +kernel) (by decide +kernel), p, be, rl, bd, n, _, _, Te, rfl, c2, begun_sta hok, hok.fok, by omega, hE, fun H3 c3 S3 k3 => c2' _ _ ?_⟩
    clear c2'
    have hcl : MU.run n (fallsOf rF) (begun n la rT rF) Te = closed n la rT rF Te := rfl
    rw [hcl] at c3 S3
    have s3 : Same H H3 := fun b o e => k3 _ _ (s2 _ _ e) (ne_of_none e hp) (ne_of_none e rlH) (ne_of_none e bdH)
    have hU : MU.Uses (closed n la rT rF Te) := MU.run_uses (MU.tells_uses _ _ MU.empty_uses) Te
    have few : (closed n la rT rF Te).rows.length ≤ 16000000 := hE.few Te (Nat.le_refl _)
    generalize closed n la rT rF Te = st at *
    obtain ⟨dx3, hp3⟩ := c3.ins
    obtain ⟨qs, hrl3, hrows⟩ := c3.rows
    refine fun N3 c3' => ⟨_, rfl, p, C, dx3, _, _, rfl, hp3, T.cl, T.nX, c_bar, rfl, _, rfl, ?_⟩
    have lastH : ∀ {H' : Hp} {b : Addr}, Same H H' → H' b = none → H b = none := fun {H' b} ss e => by
      cases q : H b with
      | none => rfl
      | some x => rw [ss _ _ q] at e; cases e
    cases hbar : st.bar with
    | some b =>
      obtain ⟨r0, hr0, _⟩ := hU.2 b hbar
      have hb := (List.getElem?_eq_some_iff.mp hr0).1
      refine iteBT rfl ⟨_, rfl, p, C, dx3, _, _, rfl, hp3, T.cl, T.nR, c_rows, _, rfl, p, C, dx3, _, _, rfl, hp3, T.cl, T.nX, c_bar, rl, qs, st.rows, b, by rw [hbar]; rfl, hrl3, hrows, hU.1, hb, by omega, fun l H4 ns ps hl s4 hN el hps => ⟨by show 2 ≤ sizeLine; decide, fun r hr' => ?_⟩⟩
      have s5 := same_new (o := .tup [.str "paper", .ref l]) hr'
      have s35 := (s3.trans s4).trans s5
      exact (k r _ (lastH (s3.trans s4) hr') s35).1 b hbar ⟨l, ns, ps, upd_same, s5 _ _ el, paired_imp hps fun q r e => e.same s5, hN⟩
    | none =>
      refine iteB rfl (c3' _ _ ?_)
      clear c3' N3
      have inB : ∀ {tt : Bool} {L : List Tri}, Best st tt L → L.length ≤ 64 ∧ ∀ x ∈ L, ∃ w', w'.tie = tt ∧ w'.b = x.2.1 ∧ ∃ j, MU.wat st j = some w' := fun {tt L} hB => by
        have mem : ∀ x ∈ L, ∃ w', w'.tie = tt ∧ w'.a = x.1 ∧ w'.b = x.2.1 ∧ ∃ j, MU.wat st j = some w' := fun x hx => by
          obtain ⟨a, b, v⟩ := x
          have hv := (hB.has a b v).mp hx
          unfold MU.val at hv
          cases hq : st.best (tt, a, b) with
          | none => rw [hq] at hv; cases hv
          | some j =>
            obtain ⟨w', h1, h2⟩ := S3.good.at_ _ _ hq
            have h4 := MU.key_eq h2
            exact ⟨w', h4.1, h4.2.1, h4.2.2, j, h1⟩
        refine ⟨?_, fun x hx => ?_⟩
        · have hnd : (L.map fun x => x.1 * 8 + x.2.1).Nodup := by
            have h0 := hB.once
            unfold List.Nodup at h0 ⊢
            rw [List.pairwise_map] at h0 ⊢
            refine List.Pairwise.imp_of_mem (fun {x y} hx hy e z => e ?_) h0
            obtain ⟨w1, _, a1, b1, j1, e1⟩ := mem x hx
            obtain ⟨w2, _, a2, b2, j2, e2⟩ := mem y hy
            have l1 := S3.good.lt _ _ e1
            have l2 := S3.good.lt _ _ e2
            exact Prod.ext (by show x.1 = y.1; omega) (by show x.2.1 = y.2.1; omega)
          have := MH.nodup_le 64 _ hnd fun z hz => by
            obtain ⟨x, hx, rfl⟩ := List.mem_map.mp hz
            obtain ⟨w1, _, a1, b1, j1, e1⟩ := mem x hx
            have l1 := S3.good.lt _ _ e1
            show x.1 * 8 + x.2.1 < 64
            omega
          rwa [List.length_map] at this
        · obtain ⟨w1, h1, _, h2, h3⟩ := mem x hx
          exact ⟨w1, h1, h2, h3⟩
      refine fun N4 c4 => ⟨_, rfl, p, dx3, _, rfl, hp3, c_no (by decide +kernel) (by decide +kernel) (by decide +kernel) (by decide +kernel) (by decide +kernel), p, be, rl, bd, n, _, st, false, rfl, c3, S3.good, by omega, by omega, fun l H4 ps M hl s4 el hps hM => ⟨l, rfl, ⟨_, SqL.of el⟩, fun Da hDa => ?_⟩⟩
      obtain ⟨hM64, hMw⟩ := inB hM
      have hpl : ps.length = M.length := Paired.length hps
      have c4s := c3.same s4
      refine comp_list (K := K) (a := l) (xs := ps.map V.ref) (fun i σ' H' => ∃ v ps', σ' = [v, some (.ref p)] ∧ H' Da = some (.lst (ps'.map V.ref)) ∧ Paired (TriAt H') ps' ((M.take i).filter (toldW2 (fallsOf rF))) ∧ ps'.length ≤ i ∧ Same H4 H') ⟨none, [], rfl, upd_same, .nil, Nat.le_refl _, same_new hDa⟩ ?_ ?_ ?_
      · rintro i σ' H5 _ ⟨v, ps', rfl, _, _, _, s5⟩
        exact SqL.of (s5 _ _ el)
      · rintro i y σ' H5 hy ⟨v, ps', rfl, e5, hps', hl', s5⟩
        rw [List.getElem?_map] at hy
        cases hq : ps[i]? with
        | none => rw [hq] at hy; cases hy
        | some q =>
          rw [hq] at hy
          cases hy
          obtain ⟨x, hx, hqx⟩ := paired_get hps hq
          have hi : i < M.length := (List.getElem?_eq_some_iff.mp hx).1
          obtain ⟨w1, t1, b1, j1, g1⟩ := hMw x (List.mem_of_getElem? hx)
          obtain ⟨fa, hfa⟩ := S3.ends j1 w1 g1 t1
          rw [b1] at hfa
          have c5 := c4s.same s5
          obtain ⟨dx5, hp5⟩ := c5.ins
          have et : M.take (i + 1) = M.take i ++ [x] := by rw [List.take_succ, hx]; rfl
          refine ⟨_, rfl, p, C, dx5, _, _, rfl, hp5, T.cl, T.nB, c_end, _, rfl, be, q, _, x, fa, rfl, c5.falls, hqx.same s5, hfa, _, rfl, ?_⟩
          cases ht : toldW2 (fallsOf rF) x with
          | true =>
            refine iteT ⟨_, rfl, _, e5, ?_, _, ps' ++ [q], rfl, ?_, ?_, ?_, fun b o e => ?_⟩
            · rw [List.length_map]; exact small1000 (by omega)
            · rw [upd_same, List.map_append]; rfl
            · rw [et, List.filter_append]
              have kp : ∀ b y, TriAt H5 b y → TriAt (upd H5 Da (.lst (ps'.map V.ref ++ [.ref q]))) b y := fun b y e => by
                unfold TriAt
                rw [upd_ne (ne_of e e5 (fun z => nomatch z))]
                exact e
              refine paired_append (paired_imp hps' kp) ?_
              rw [show [x].filter (toldW2 (fallsOf rF)) = [x] by simp [ht]]
              exact .cons (kp _ _ (hqx.same s5)) .nil
            · rw [List.length_append]; show ps'.length + 1 ≤ i + 1; omega
            · rw [upd_ne (ne_of_none e hDa)]; exact s5 _ _ e
          | false =>
            refine iteF ⟨_, ps', rfl, e5, ?_, by omega, s5⟩
            rw [et, List.filter_append]
            rw [show [x].filter (toldW2 (fallsOf rF)) = [] by simp [ht], List.append_nil]
            exact hps'
      · rintro σ' H5 ⟨v, ps', rfl, e5, hps', hl', s5⟩
        have hall : M.take (ps.map V.ref).length = M := by rw [List.length_map, hpl]; exact List.take_length
        rw [hall] at hps'
        refine c4 _ _ ?_
        have c5 := c4s.same s5
        obtain ⟨dx5, hp5⟩ := c5.ins
        have s35 := (s3.trans s4).trans s5
        refine ⟨_, rfl, p, dx5, _, rfl, hp5, c_no (by decide +kernel) (by decide +kernel) (by decide +kernel) (by decide +kernel) (by decide +kernel), p, be, rl, bd, n, _, st, true, rfl, c5, S3.good, by omega, by omega, fun l6 H6 ps6 L hl6 s6 el6 hps6 hL => ⟨_, rfl, by show 3 ≤ sizeLine; decide, fun r hr' => ?_⟩⟩
        have s7 := same_new (o := .tup [.str "rule", .ref l6, .ref Da]) hr'
        have s67 := s6.trans s7
        exact (k r _ (lastH (s35.trans s6) hr') (s35.trans s67)).2 hbar ⟨l6, Da, ps6, ps', L, M, upd_same, s7 _ _ el6, paired_imp hps6 fun q x e => e.same s7, hL, s67 _ _ e5, paired_imp hps' fun q x e => e.same s67, hM⟩
end
end
end W

set_option linter.unusedVariables false
namespace MU
/-! known, or bettered -/
noncomputable def Kn (st : St) (w : What) : Prop := (w.a ≠ w.b → ∃ u, val st w.key = some u ∧ ¬ better w.tie w.v u) ∧ (Bars w → st.bar ≠ none)
theorem Kn.imp {s s' : St} {w : What} (h : Kn s w) (i : Imp s s') : Kn s' w := by
  refine ⟨fun hne => ?_, fun hb => i.1.bar (h.2 hb)⟩
  obtain ⟨u, hu, nu⟩ := h.1 hne
  obtain ⟨u', hu', nu'⟩ := i.2 w.key u hne hu
  exact ⟨u', hu', nbetter_trans nu nu'⟩
theorem take_kn (s : St) (w : What) (word : Wd) (us : List Nat) : Kn (take s w word us) w := ⟨fun h => take_knows h, fun h => take_bars h⟩
theorem d1_kn {f : What → Option What} {word : Wd} {i : Nat} {s : St} {p w : What} (hp : wat s i = some p) (hf : f p = some w) : Kn (draw1 f word i s) w := by
  unfold draw1
  rw [hp]
  show Kn (put s (f p) word [i]) w
  rw [hf]
  exact take_kn _ _ _ _
theorem d2_kn {f : What → What → Option What} {word : Wd} {i j : Nat} {s : St} {p q w : What} (hp : wat s i = some p) (hq : wat s j = some q) (hf : f p q = some w) : Kn (draw2 f word i j s) w := by
  unfold draw2
  rw [hp]
  show Kn (put s ((wat s j).bind fun q => f p q) word [i, j]) w
  rw [hq]
  show Kn (put s (f p q) word [i, j]) w
  rw [hf]
  exact take_kn _ _ _ _
theorem fold_kn {f : St → Nat → St} (hf : ∀ s j, Imp s (f s j)) {l : List Nat} {s : St} {j : Nat} {w : What} (hj : j ∈ l) (h : ∀ s1, Imp s s1 → Kn (f s1 j) w) : Kn (l.foldl f s) w := by
  obtain ⟨s1, i1, i2⟩ := foldl_mem hf l s j hj
  exact (h s1 i1).imp i2
theorem best_back {s s' : St} (e : Ext s s') {k : Key} {j : Nat} (h : s'.best k = some j) (hj : j < s.rows.length) : s.best k = some j := by
  rcases e.best k with h' | ⟨i, h', hi⟩
  · rw [← h']; exact h
  · rw [h] at h'; cases h'; omega
variable {n : Nat} {F : Falls} {s fs : St} {at_ a b : Nat} {p : What}
section
variable (hp : wat s at_ = some p) (hZ : Imp (fromTie n F at_ a b s) fs)
theorem tieK_late {w : What} (hp : wat s at_ = some p) (h : byLate F p = some w) : Kn (fromTie n F at_ a b s) w :=
  (d1_kn hp h).imp ((d1_imp _ _ _ _).trans ((foldl_imp (fun _ _ => d2_imp ..) _ _).trans ((foldl_imp (fun _ _ => d2_imp ..) _ _).trans (foldl_imp (fun _ _ => d2_imp ..) _ _))))
theorem tieK_soon {w : What} (hp : wat s at_ = some p) (h : bySoon F p = some w) : Kn (fromTie n F at_ a b s) w :=
  (d1_kn (wat_ext (d1_imp _ _ _ _).1 hp) h).imp ((foldl_imp (fun _ _ => d2_imp ..) _ _).trans ((foldl_imp (fun _ _ => d2_imp ..) _ _).trans (foldl_imp (fun _ _ => d2_imp ..) _ _)))
theorem tieK_sum1 {w q : What} {c j : Nat} (hp : wat s at_ = some p) (hZ : Imp (fromTie n F at_ a b s) fs) (hc : c < n) (hb : fs.best (true, b, c) = some j) (hj : j < s.rows.length) (hq : wat fs j = some q) (h : bySum p q = some w) : Kn (fromTie n F at_ a b s) w := by
  have i2 : Imp s (draw1 (bySoon F) .soon at_ (draw1 (byLate F) .late at_ s)) := (d1_imp _ _ _ _).trans (d1_imp _ _ _ _)
  unfold fromTie at hZ ⊢
  dsimp only at hZ ⊢
  generalize draw1 (bySoon F) .soon at_ (draw1 (byLate F) .late at_ s) = s2 at *
  have r3 := (foldl_imp (f := fun st j => draw2 bySum .sum j at_ st) (fun _ _ => d2_imp ..) (tiesTo n ((knownOf n s2 true b).foldl (fun st j => draw2 bySum .sum at_ j st) s2) a) ((knownOf n s2 true b).foldl (fun st j => draw2 bySum .sum at_ j st) s2)).trans (foldl_imp (f := fun st j => draw2 (byBack F) .back j at_ st) (fun _ _ => d2_imp ..) (knownOf n ((tiesTo n ((knownOf n s2 true b).foldl (fun st j => draw2 bySum .sum at_ j st) s2) a).foldl (fun st j => draw2 bySum .sum j at_ st) ((knownOf n s2 true b).foldl (fun st j => draw2 bySum .sum at_ j st) s2)) false b) _)
  have e3 : Imp s2 fs := ((foldl_imp (f := fun st j => draw2 bySum .sum at_ j st) (fun _ _ => d2_imp ..) (knownOf n s2 true b) s2).trans r3).trans hZ
  have hj2 : j < s2.rows.length := Nat.lt_of_lt_of_le hj i2.1.len
  refine Kn.imp (fold_kn (fun _ _ => d2_imp ..) (j := j) (List.mem_filterMap.mpr ⟨c, List.mem_range.mpr hc, best_back e3.1 hb hj2⟩) fun s1 i1 => ?_) r3
  exact d2_kn (wat_ext (i2.1.trans i1.1) hp) (wat_ext i1.1 (wat_back e3.1 hj2 hq)) h
theorem tieK_sum2 {w q : What} {c j : Nat} (hp : wat s at_ = some p) (hZ : Imp (fromTie n F at_ a b s) fs) (hc : c < n) (hb : fs.best (true, c, a) = some j) (hj : j < s.rows.length) (hq : wat fs j = some q) (h : bySum q p = some w) : Kn (fromTie n F at_ a b s) w := by
  have i2 : Imp s (draw1 (bySoon F) .soon at_ (draw1 (byLate F) .late at_ s)) := (d1_imp _ _ _ _).trans (d1_imp _ _ _ _)
  unfold fromTie at hZ ⊢
  dsimp only at hZ ⊢
  generalize draw1 (bySoon F) .soon at_ (draw1 (byLate F) .late at_ s) = s2 at *
  have i3 := i2.trans (foldl_imp (f := fun st j => draw2 bySum .sum at_ j st) (fun _ _ => d2_imp ..) (knownOf n s2 true b) s2)
  generalize (knownOf n s2 true b).foldl (fun st j => draw2 bySum .sum at_ j st) s2 = s3 at *
  have r4 := foldl_imp (f := fun st j => draw2 (byBack F) .back j at_ st) (fun _ _ => d2_imp ..) (knownOf n ((tiesTo n s3 a).foldl (fun st j => draw2 bySum .sum j at_ st) s3) false b) ((tiesTo n s3 a).foldl (fun st j => draw2 bySum .sum j at_ st) s3)
  have e3 : Imp s3 fs := ((foldl_imp (f := fun st j => draw2 bySum .sum j at_ st) (fun _ _ => d2_imp ..) (tiesTo n s3 a) s3).trans r4).trans hZ
  have hj3 : j < s3.rows.length := Nat.lt_of_lt_of_le hj i3.1.len
  refine Kn.imp (fold_kn (fun _ _ => d2_imp ..) (j := j) (List.mem_filterMap.mpr ⟨c, List.mem_range.mpr hc, best_back e3.1 hb hj3⟩) fun s1 i1 => ?_) r4
  exact d2_kn (wat_ext i1.1 (wat_back e3.1 hj3 hq)) (wat_ext (i3.1.trans i1.1) hp) h
theorem tieK_back {w q : What} {e j : Nat} (hp : wat s at_ = some p) (hZ : Imp (fromTie n F at_ a b s) fs) (hc : e < n) (hb : fs.best (false, b, e) = some j) (hj : j < s.rows.length) (hq : wat fs j = some q) (h : byBack F q p = some w) : Kn (fromTie n F at_ a b s) w := by
  have i2 : Imp s (draw1 (bySoon F) .soon at_ (draw1 (byLate F) .late at_ s)) := (d1_imp _ _ _ _).trans (d1_imp _ _ _ _)
  unfold fromTie at hZ ⊢
  dsimp only at hZ ⊢
  generalize draw1 (bySoon F) .soon at_ (draw1 (byLate F) .late at_ s) = s2 at *
  have i3 := i2.trans (foldl_imp (f := fun st j => draw2 bySum .sum at_ j st) (fun _ _ => d2_imp ..) (knownOf n s2 true b) s2)
  generalize (knownOf n s2 true b).foldl (fun st j => draw2 bySum .sum at_ j st) s2 = s3 at *
  have i4 := i3.trans (foldl_imp (f := fun st j => draw2 bySum .sum j at_ st) (fun _ _ => d2_imp ..) (tiesTo n s3 a) s3)
  generalize (tiesTo n s3 a).foldl (fun st j => draw2 bySum .sum j at_ st) s3 = s4 at *
  have e4 : Imp s4 fs := (foldl_imp (f := fun st j => draw2 (byBack F) .back j at_ st) (fun _ _ => d2_imp ..) (knownOf n s4 false b) s4).trans hZ
  have hj4 : j < s4.rows.length := Nat.lt_of_lt_of_le hj i4.1.len
  refine fold_kn (fun _ _ => d2_imp ..) (j := j) (List.mem_filterMap.mpr ⟨e, List.mem_range.mpr hc, best_back e4.1 hb hj4⟩) fun s1 i1 => ?_
  exact d2_kn (wat_ext i1.1 (wat_back e4.1 hj4 hq)) (wat_ext (i4.1.trans i1.1) hp) h
theorem waitK_sure {w : What} (hp : wat s at_ = some p) (h : bySure F p = some w) : Kn (fromWait n F at_ a s) w :=
  (d1_kn hp h).imp ((d1_imp _ _ _ _).trans (foldl_imp (fun _ _ => d2_imp ..) _ _))
theorem waitK_back {w q : What} {c j : Nat} (hp : wat s at_ = some p) (hZ : Imp (fromWait n F at_ a s) fs) (hc : c < n) (hb : fs.best (true, c, a) = some j) (hj : j < s.rows.length) (hq : wat fs j = some q) (h : byBack F p q = some w) : Kn (fromWait n F at_ a s) w := by
  have i2 : Imp s (draw1 (byCross F) .cross at_ (draw1 (bySure F) .sure at_ s)) := (d1_imp _ _ _ _).trans (d1_imp _ _ _ _)
  unfold fromWait at hZ ⊢
  dsimp only at hZ ⊢
  generalize draw1 (byCross F) .cross at_ (draw1 (bySure F) .sure at_ s) = s2 at *
  have e2 : Imp s2 fs := (foldl_imp (f := fun st j => draw2 (byBack F) .back at_ j st) (fun _ _ => d2_imp ..) (tiesTo n s2 a) s2).trans hZ
  have hj2 : j < s2.rows.length := Nat.lt_of_lt_of_le hj i2.1.len
  refine fold_kn (fun _ _ => d2_imp ..) (j := j) (List.mem_filterMap.mpr ⟨c, List.mem_range.mpr hc, best_back e2.1 hb hj2⟩) fun s1 i1 => ?_
  exact d2_kn (wat_ext (i2.1.trans i1.1) hp) (wat_ext i1.1 (wat_back e2.1 hj2 hq)) h
end
end MU

set_option linter.unusedVariables false
namespace MU
/-! the end: what follows is known or bettered -/
structure Fin (n : Nat) (F : Falls) (most : Int) (s0 : St) (T : Nat) : Prop where
  fok : FOk n F most
  good : Good n s0
  first : ∀ t, t < T → t < (run n F s0 t).rows.length
  stop : (run n F s0 T).rows.length ≤ T
variable {n : Nat} {F : Falls} {most : Int} {s0 : St} {T : Nat}
theorem Fin.ev (h : Fin n F most s0 T) {k : Key} {i : Nat} {p : What} (hb : (run n F s0 T).best k = some i) (hp : wat (run n F s0 T) i = some p) :
    i < (run n F s0 i).rows.length ∧ wat (run n F s0 i) i = some p ∧ (run n F s0 i).best k = some i ∧ Imp (run n F s0 (i + 1)) (run n F s0 T) := by
  have hi := wat_lt hp
  have hiT : i < T := Nat.lt_of_lt_of_le hi h.stop
  have h1 := h.first i hiT
  have e := run_imp' (n := n) (F := F) (s := s0) (Nat.le_of_lt hiT)
  exact ⟨h1, wat_back e.1 h1 hp, best_back e.1 hb h1, run_imp' hiT⟩
theorem Fin.row (h : Fin n F most s0 T) {t : Bool} {a b : Nat} {v : Int} (hv : val (run n F s0 T) (t, a, b) = some v) : ∃ i p, (run n F s0 T).best (t, a, b) = some i ∧ wat (run n F s0 T) i = some p ∧ p.tie = t ∧ p.a = a ∧ p.b = b ∧ p.v = v ∧ a < n ∧ b < n := by
  have g := run_good h.fok h.good T
  obtain ⟨i, p, h1, h2, h3, h4⟩ := best_val g hv
  obtain ⟨k1, k2, k3⟩ := key_eq h3
  have l := g.lt _ _ h2
  exact ⟨i, p, h1, h2, k1, k2, k3, h4, by omega, by omega⟩
theorem Fin.tie (h : Fin n F most s0 T) {a b i : Nat} {p : What} (hb : (run n F s0 T).best (true, a, b) = some i) (hp : wat (run n F s0 T) i = some p) (pt : p.tie = true) (pa : p.a = a) (pb : p.b = b) :
    Imp (fromTie n F i a b (run n F s0 i)) (run n F s0 T) := by
  obtain ⟨_, e2, e3, e4⟩ := h.ev hb hp
  have : run n F s0 (i + 1) = fromTie n F i a b (run n F s0 i) := look_tie e2 pt pa pb e3
  rw [← this]
  exact e4
theorem Fin.late (h : Fin n F most s0 T) {a b : Nat} {v : Int} {f : Nat × Int × Int} (hv : val (run n F s0 T) (true, a, b) = some v) (hab : a ≠ b) (hf : F b = some f) : Kn (run n F s0 T) ⟨false, a, b, f.2.2 - v⟩ := by
  obtain ⟨i, p, h1, h2, pt, pa, pb, pv, _⟩ := h.row hv
  obtain ⟨_, e2, _⟩ := h.ev h1 h2
  refine (tieK_late e2 ?_).imp (h.tie h1 h2 pt pa pb)
  unfold byLate
  rw [if_pos ⟨pt, by rw [pa, pb]; exact hab⟩, pb, hf, pa, pv]
  rfl
theorem Fin.soon (h : Fin n F most s0 T) {a b : Nat} {v : Int} {f : Nat × Int × Int} (hv : val (run n F s0 T) (true, a, b) = some v) (hab : a ≠ b) (hlt : v < 0) (hf : F a = some f) : Kn (run n F s0 T) ⟨true, f.1, b, f.2.1 + v⟩ := by
  obtain ⟨i, p, h1, h2, pt, pa, pb, pv, _⟩ := h.row hv
  obtain ⟨_, e2, _⟩ := h.ev h1 h2
  refine (tieK_soon e2 ?_).imp (h.tie h1 h2 pt pa pb)
  unfold bySoon
  rw [if_pos ⟨pt, by rw [pa, pb]; exact hab, by rw [pv]; exact hlt⟩, pa, hf, pb, pv]
  rfl
theorem Fin.sum (h : Fin n F most s0 T) {a b c : Nat} {v u : Int} (hv : val (run n F s0 T) (true, a, b) = some v) (hu : val (run n F s0 T) (true, b, c) = some u) : Kn (run n F s0 T) ⟨true, a, c, v + u⟩ := by
  obtain ⟨i, p, h1, h2, pt, pa, pb, pv, an, bn⟩ := h.row hv
  obtain ⟨j, q, j1, j2, qt, qa, qb, qv, _, cn⟩ := h.row hu
  have hs : bySum p q = some ⟨true, a, c, v + u⟩ := by
    unfold bySum
    rw [if_pos ⟨pt, qt, by rw [pb, qa]⟩, pa, qb, pv, qv]
  obtain ⟨i1, e2, _⟩ := h.ev h1 h2
  obtain ⟨i1', e2', _⟩ := h.ev j1 j2
  by_cases hij : j ≤ i
  · have hZ := h.tie h1 h2 pt pa pb
    exact (tieK_sum1 e2 hZ cn j1 (Nat.lt_of_le_of_lt hij i1) j2 hs).imp hZ
  · have hZ := h.tie j1 j2 qt qa qb
    exact (tieK_sum2 e2' hZ an h1 (Nat.lt_of_le_of_lt (by omega) i1') h2 hs).imp hZ
theorem Fin.wait (h : Fin n F most s0 T) {a b i : Nat} {p : What} (hb : (run n F s0 T).best (false, a, b) = some i) (hp : wat (run n F s0 T) i = some p) (pt : p.tie = false) (pa : p.a = a) (pb : p.b = b) :
    Imp (fromWait n F i a (run n F s0 i)) (run n F s0 T) := by
  obtain ⟨_, e2, e3, e4⟩ := h.ev hb hp
  have : run n F s0 (i + 1) = fromWait n F i a (run n F s0 i) := by
    rw [← pa]
    exact look_wait e2 pt (by unfold What.key; rw [pt, pa, pb]; exact e3)
  rw [← this]
  exact e4
theorem Fin.sure (h : Fin n F most s0 T) {a b : Nat} {v : Int} {f : Nat × Int × Int} (hv : val (run n F s0 T) (false, a, b) = some v) (hf : F b = some f) : Kn (run n F s0 T) ⟨true, a, f.1, -min v f.2.1⟩ := by
  obtain ⟨i, p, h1, h2, pt, pa, pb, pv, _⟩ := h.row hv
  obtain ⟨_, e2, _⟩ := h.ev h1 h2
  refine (waitK_sure e2 ?_).imp (h.wait h1 h2 pt pa pb)
  unfold bySure
  rw [if_pos pt, pb, hf, pa, pv]
  rfl
theorem Fin.back (h : Fin n F most s0 T) {a b c : Nat} {v u : Int} {f : Nat × Int × Int} (hv : val (run n F s0 T) (false, a, b) = some v) (hu : val (run n F s0 T) (true, c, a) = some u) (hcb : c ≠ b) (hf : F b = some f) : Kn (run n F s0 T) ⟨false, c, b, min v f.2.2 - u⟩ := by
  obtain ⟨i, p, h1, h2, pt, pa, pb, pv, an, bn⟩ := h.row hv
  obtain ⟨j, q, j1, j2, qt, qa, qb, qv, cn, _⟩ := h.row hu
  have hs : byBack F p q = some ⟨false, c, b, min v f.2.2 - u⟩ := by
    unfold byBack
    rw [if_pos ⟨pt, qt, by rw [qb, pa], by rw [qa, pb]; exact hcb⟩, pb, hf, qa, pv, qv]
    rfl
  obtain ⟨i1, e2, _⟩ := h.ev h1 h2
  obtain ⟨i1', e2', _⟩ := h.ev j1 j2
  by_cases hij : j ≤ i
  · have hZ := h.wait h1 h2 pt pa pb
    exact (waitK_back e2 hZ cn j1 (Nat.lt_of_le_of_lt hij i1) j2 hs).imp hZ
  · have hZ := h.tie j1 j2 qt qa qb
    exact (tieK_back e2' hZ bn h1 (Nat.lt_of_le_of_lt (by omega) i1') h2 hs).imp hZ
/-! what holds of all that is told and goes over by the words holds of all rows -/
noncomputable def AllR (C : What → Prop) (st : St) : Prop := ∀ i w, wat st i = some w → C w
theorem put_all {C : What → Prop} {st : St} {o : Option What} {word : Wd} {us : List Nat} (h : AllR C st) (ho : ∀ w, o = some w → C w) : AllR C (put st o word us) := fun i w hw => by
  by_cases hi : i < st.rows.length
  · exact h i w (wat_back (put_ext _ _ _ _) hi hw)
  · exact put_add ho i w (by omega) hw
theorem d1_all {C : What → Prop} {st : St} {f : What → Option What} {word : Wd} {i : Nat} (hf : ∀ p w, C p → f p = some w → C w) (h : AllR C st) : AllR C (draw1 f word i st) := put_all h fun w e => by
  cases hp : wat st i with
  | none => rw [hp] at e; cases e
  | some p => rw [hp] at e; exact hf p w (h i p hp) e
theorem d2_all {C : What → Prop} {st : St} {f : What → What → Option What} {word : Wd} {i j : Nat} (hf : ∀ p q w, C p → C q → f p q = some w → C w) (h : AllR C st) : AllR C (draw2 f word i j st) := put_all h fun w e => by
  cases hp : wat st i with
  | none => rw [hp] at e; cases e
  | some p =>
    rw [hp] at e
    have e : ((wat st j).bind fun q => f p q) = some w := e
    cases hq : wat st j with
    | none => rw [hq] at e; cases e
    | some q => rw [hq] at e; exact hf p q w (h i p hp) (h j q hq) e
theorem fold_all {C : What → Prop} {g : St → Nat → St} (hg : ∀ s j, AllR C s → AllR C (g s j)) : ∀ (l : List Nat) (s : St), AllR C s → AllR C (l.foldl g s)
  | [], _, h => h
  | a :: l, s, h => fold_all hg l _ (hg s a h)
structure Goes (F : Falls) (C : What → Prop) : Prop where
  sum : ∀ p q w, C p → C q → bySum p q = some w → C w
  late : ∀ p w, C p → byLate F p = some w → C w
  soon : ∀ p w, C p → bySoon F p = some w → C w
  sure : ∀ p w, C p → bySure F p = some w → C w
  back : ∀ p q w, C p → C q → byBack F p q = some w → C w
  cross : ∀ p w, C p → byCross F p = some w → C w
theorem run_all {C : What → Prop} (G : Goes F C) {s : St} (h : AllR C s) : ∀ t, AllR C (run n F s t)
  | 0 => h
  | t + 1 => by
    have ih := run_all G h t
    show AllR C (look n F t (run n F s t))
    unfold look
    split
    · split
      · split
        · exact fold_all (fun _ _ h => d2_all G.back h) _ _ (fold_all (fun _ _ h => d2_all G.sum h) _ _ (fold_all (fun _ _ h => d2_all G.sum h) _ _ (d1_all G.soon (d1_all G.late ih))))
        · exact fold_all (fun _ _ h => d2_all G.back h) _ _ (d1_all G.cross (d1_all G.sure ih))
      · exact ih
    · exact ih
theorem tells_all {C : What → Prop} : ∀ (rows : List What) (s : St), AllR C s → (∀ w ∈ rows, C w) → AllR C (tells rows s)
  | [], _, h, _ => h
  | w :: r, s, h, hw => tells_all r _ (put_all (o := some w) h fun w' e => by cases e; exact hw _ List.mem_cons_self) fun w' hw' => hw w' (List.mem_cons_of_mem _ hw')
theorem empty_all {C : What → Prop} : AllR C empty := fun i w h => by unfold wat empty at h; simp at h
end MU

set_option linter.unusedVariables false
namespace MU
/-! how each row was drawn -/
noncomputable def Rule (F : Falls) (D : What → Prop) (st : St) (r : Row) : Prop :=
  (r.word = .told ∧ r.used = [] ∧ D r.what) ∨
  (r.word = .late ∧ ∃ i p, r.used = [i] ∧ wat st i = some p ∧ byLate F p = some r.what) ∨
  (r.word = .soon ∧ ∃ i p, r.used = [i] ∧ wat st i = some p ∧ bySoon F p = some r.what) ∨
  (r.word = .sure ∧ ∃ i p, r.used = [i] ∧ wat st i = some p ∧ bySure F p = some r.what) ∨
  (r.word = .cross ∧ ∃ i p, r.used = [i] ∧ wat st i = some p ∧ byCross F p = some r.what) ∨
  (r.word = .sum ∧ ∃ i j p q, r.used = [i, j] ∧ wat st i = some p ∧ wat st j = some q ∧ bySum p q = some r.what) ∨
  (r.word = .back ∧ ∃ i j p q, r.used = [i, j] ∧ wat st i = some p ∧ wat st j = some q ∧ byBack F p q = some r.what)
variable {F : Falls} {D : What → Prop} {n : Nat}
theorem Rule.ext {s s' : St} {r : Row} (h : Rule F D s r) (e : Ext s s') : Rule F D s' r := by
  have o : ∀ {f : What → Option What}, (∃ i p, r.used = [i] ∧ wat s i = some p ∧ f p = some r.what) → ∃ i p, r.used = [i] ∧ wat s' i = some p ∧ f p = some r.what := fun ⟨i, p, h1, h2, h3⟩ => ⟨i, p, h1, wat_ext e h2, h3⟩
  have t : ∀ {f : What → What → Option What}, (∃ i j p q, r.used = [i, j] ∧ wat s i = some p ∧ wat s j = some q ∧ f p q = some r.what) → ∃ i j p q, r.used = [i, j] ∧ wat s' i = some p ∧ wat s' j = some q ∧ f p q = some r.what := fun ⟨i, j, p, q, h1, h2, h3, h4⟩ => ⟨i, j, p, q, h1, wat_ext e h2, wat_ext e h3, h4⟩
  rcases h with h | ⟨w, h⟩ | ⟨w, h⟩ | ⟨w, h⟩ | ⟨w, h⟩ | ⟨w, h⟩ | ⟨w, h⟩
  · exact .inl h
  · exact .inr (.inl ⟨w, o h⟩)
  · exact .inr (.inr (.inl ⟨w, o h⟩))
  · exact .inr (.inr (.inr (.inl ⟨w, o h⟩)))
  · exact .inr (.inr (.inr (.inr (.inl ⟨w, o h⟩))))
  · exact .inr (.inr (.inr (.inr (.inr (.inl ⟨w, t h⟩)))))
  · exact .inr (.inr (.inr (.inr (.inr (.inr ⟨w, t h⟩)))))
noncomputable def Drawn (F : Falls) (D : What → Prop) (st : St) : Prop := ∀ (i : Nat) (r : Row), st.rows[i]? = some r → Rule F D st r
theorem take_drawn {st : St} {w : What} {word : Wd} {us : List Nat} (h : Drawn F D st) (hr : Rule F D st ⟨w, word, us⟩) : Drawn F D (take st w word us) := fun i r hi => by
  have e := take_ext st w word us
  unfold take at hi
  split at hi
  · have hi : (st.rows ++ [(⟨w, word, us⟩ : Row)])[i]? = some r := hi
    by_cases hl : i < st.rows.length
    · rw [List.getElem?_append_left hl] at hi
      exact (h i r hi).ext e
    · rw [List.getElem?_append_right (by omega)] at hi
      cases hk : i - st.rows.length with
      | zero => rw [hk] at hi; cases hi; exact hr.ext e
      | succ k => rw [hk] at hi; cases hi
  · exact (h i r hi).ext e
theorem put_drawn {st : St} {o : Option What} {word : Wd} {us : List Nat} (h : Drawn F D st) (hr : ∀ w, o = some w → Rule F D st ⟨w, word, us⟩) : Drawn F D (put st o word us) := by
  cases o with
  | none => exact h
  | some w => exact take_drawn h (hr w rfl)
theorem d1_drawn {f : What → Option What} {word : Wd} {i : Nat} {st : St} (h : Drawn F D st) (hr : ∀ w, (∃ i' p, [i] = [i'] ∧ wat st i' = some p ∧ f p = some w) → Rule F D st ⟨w, word, [i]⟩) : Drawn F D (draw1 f word i st) := put_drawn h fun w e => by
  cases hp : wat st i with
  | none => rw [hp] at e; cases e
  | some p => rw [hp] at e; exact hr w ⟨i, p, rfl, hp, e⟩
theorem d2_drawn {f : What → What → Option What} {word : Wd} {i j : Nat} {st : St} (h : Drawn F D st) (hr : ∀ w, (∃ i' j' p q, [i, j] = [i', j'] ∧ wat st i' = some p ∧ wat st j' = some q ∧ f p q = some w) → Rule F D st ⟨w, word, [i, j]⟩) : Drawn F D (draw2 f word i j st) := put_drawn h fun w e => by
  cases hp : wat st i with
  | none => rw [hp] at e; cases e
  | some p =>
    rw [hp] at e
    have e : ((wat st j).bind fun q => f p q) = some w := e
    cases hq : wat st j with
    | none => rw [hq] at e; cases e
    | some q => rw [hq] at e; exact hr w ⟨i, j, p, q, rfl, hp, hq, e⟩
theorem fold_drawn {g : St → Nat → St} (hg : ∀ s j, Drawn F D s → Drawn F D (g s j)) : ∀ (l : List Nat) (s : St), Drawn F D s → Drawn F D (l.foldl g s)
  | [], _, h => h
  | a :: l, s, h => fold_drawn hg l _ (hg s a h)
theorem run_drawn {s : St} (h : Drawn F D s) : ∀ t, Drawn F D (run n F s t)
  | 0 => h
  | t + 1 => by
    have ih := run_drawn h t
    show Drawn F D (look n F t (run n F s t))
    unfold look
    have sum : ∀ i j s, Drawn F D s → Drawn F D (draw2 bySum .sum i j s) := fun i j s h => d2_drawn h fun w e => .inr (.inr (.inr (.inr (.inr (.inl ⟨rfl, e⟩)))))
    have back : ∀ i j s, Drawn F D s → Drawn F D (draw2 (byBack F) .back i j s) := fun i j s h => d2_drawn h fun w e => .inr (.inr (.inr (.inr (.inr (.inr ⟨rfl, e⟩)))))
    split
    · split
      · split
        · exact fold_drawn (fun s j h => back j t s h) _ _ (fold_drawn (fun s j h => sum j t s h) _ _ (fold_drawn (fun s j h => sum t j s h) _ _ (d1_drawn (d1_drawn ih fun w e => .inr (.inl ⟨rfl, e⟩)) fun w e => .inr (.inr (.inl ⟨rfl, e⟩)))))
        · exact fold_drawn (fun s j h => back t j s h) _ _ (d1_drawn (d1_drawn ih fun w e => .inr (.inr (.inr (.inl ⟨rfl, e⟩)))) fun w e => .inr (.inr (.inr (.inr (.inl ⟨rfl, e⟩)))))
      · exact ih
    · exact ih
theorem tells_drawn : ∀ (rows : List What) (s : St), Drawn F D s → (∀ w ∈ rows, D w) → Drawn F D (tells rows s)
  | [], _, h, _ => h
  | w :: r, s, h, hw => tells_drawn r _ (take_drawn h (.inl ⟨rfl, rfl, hw w List.mem_cons_self⟩)) fun w' hw' => hw w' (List.mem_cons_of_mem _ hw')
theorem empty_drawn : Drawn F D empty := fun i r h => by simp [empty] at h
end MU

set_option linter.unusedVariables false
namespace MU
/-! three moments: 0, the moment x, and the end e that falls out from 0 -/
structure K8 (e x : Nat) (s l p q L : Int) : Prop where
  ex : (e = 1 ∧ x = 2) ∨ (e = 2 ∧ x = 1)
  s1 : 1 ≤ s
  sl : s ≤ l
  l30 : l ≤ 30
  L0 : 0 ≤ L
  L30 : L ≤ 30
  q30 : q ≤ 30
  p30 : -p ≤ 30
noncomputable def F8 (e : Nat) (s l : Int) : Falls := fun i => if i = e then some (0, s, l) else none
noncomputable def W8 (e x : Nat) (s l p q L : Int) : List What := [⟨true, 0, 1, L⟩, ⟨true, 1, 0, 0⟩, ⟨true, 0, 2, L⟩, ⟨true, 2, 0, 0⟩, ⟨true, x, e, q⟩, ⟨true, e, x, -p⟩, ⟨true, 0, e, l⟩, ⟨true, e, 0, -s⟩]
noncomputable def S8 (e x : Nat) (s l p q L : Int) : St := tells (W8 e x s l p q L) empty
theorem F8_some {e i : Nat} {s l : Int} {f : Nat × Int × Int} (h : F8 e s l i = some f) : i = e ∧ f = (0, s, l) := by
  unfold F8 at h
  split at h
  · exact ⟨‹_›, (Option.some.inj h).symm⟩
  · cases h
theorem F8_e {e : Nat} {s l : Int} : F8 e s l e = some (0, s, l) := if_pos rfl
variable {e x : Nat} {s l p q L : Int}
theorem K8.fok (h : K8 e x s l p q L) : FOk 3 (F8 e s l) ((60 : Nat) : Int) := by
  have := h.s1
  have := h.sl
  have := h.l30
  refine ⟨fun i f hf => ?_, fun i f hf => ?_, fun i f hf => ?_⟩
  all_goals
    obtain ⟨rfl, rfl⟩ := F8_some hf
  · rcases h.ex with ⟨rfl, _⟩ | ⟨rfl, _⟩ <;> exact ⟨Nat.lt_of_sub_ne_zero (fun z => nomatch z), Nat.lt_of_sub_ne_zero (fun z => nomatch z)⟩
  · show F8 i s l 0 = none
    rcases h.ex with ⟨rfl, _⟩ | ⟨rfl, _⟩ <;> rfl
  · exact ⟨h.s1, h.sl, by show l ≤ _; omega⟩
theorem K8.told (h : K8 e x s l p q L) : ∀ w ∈ W8 e x s l p q L, Told 3 w := fun w hw => by
  unfold W8 at hw
  rcases h.ex with ⟨rfl, rfl⟩ | ⟨rfl, rfl⟩ <;>
    (simp only [List.mem_cons, List.not_mem_nil, or_false] at hw
     rcases hw with rfl | rfl | rfl | rfl | rfl | rfl | rfl | rfl <;> exact ⟨Nat.lt_of_sub_ne_zero (fun z => nomatch z), Nat.lt_of_sub_ne_zero (fun z => nomatch z), rfl⟩)
theorem K8.good (h : K8 e x s l p q L) : Good 3 (S8 e x s l p q L) := tells_good _ _ empty_good h.told
theorem K8.knows (h : K8 e x s l p q L) {w : What} (hw : w ∈ W8 e x s l p q L) (hne : w.a ≠ w.b) : ∃ u, u ≤ w.v ∧ val (S8 e x s l p q L) (true, w.a, w.b) = some u := by
  obtain ⟨u, hu, nu⟩ := tells_knows _ empty w hw hne
  have ht := (h.told w hw).2.2
  unfold What.key at hu
  rw [ht] at hu nu
  unfold better at nu
  exact ⟨u, by simpa using nu, hu⟩
theorem K8.six (h : K8 e x s l p q L) {a b : Nat} (ha : a < 3) (hb : b < 3) (hab : a ≠ b) : ∃ u, u ≤ 30 ∧ val (S8 e x s l p q L) (true, a, b) = some u := by
  have key : ∃ w ∈ W8 e x s l p q L, w.a = a ∧ w.b = b ∧ w.v ≤ 30 := by
    have := h.L30
    have := h.q30
    have := h.p30
    unfold W8
    have c : (a = 0 ∧ b = 1) ∨ (a = 1 ∧ b = 0) ∨ (a = 0 ∧ b = 2) ∨ (a = 2 ∧ b = 0) ∨ (a = 1 ∧ b = 2) ∨ (a = 2 ∧ b = 1) := by omega
    rcases c with ⟨rfl, rfl⟩ | ⟨rfl, rfl⟩ | ⟨rfl, rfl⟩ | ⟨rfl, rfl⟩ | ⟨rfl, rfl⟩ | ⟨rfl, rfl⟩
    · exact ⟨_, List.mem_cons_self, rfl, rfl, h.L30⟩
    · exact ⟨_, .tail _ List.mem_cons_self, rfl, rfl, by show (0 : Int) ≤ 30; omega⟩
    · exact ⟨_, .tail _ (.tail _ List.mem_cons_self), rfl, rfl, h.L30⟩
    · exact ⟨_, .tail _ (.tail _ (.tail _ List.mem_cons_self)), rfl, rfl, by show (0 : Int) ≤ 30; omega⟩
    · rcases h.ex with ⟨rfl, rfl⟩ | ⟨rfl, rfl⟩
      · exact ⟨_, .tail _ (.tail _ (.tail _ (.tail _ (.tail _ List.mem_cons_self)))), rfl, rfl, h.p30⟩
      · exact ⟨_, .tail _ (.tail _ (.tail _ (.tail _ List.mem_cons_self))), rfl, rfl, h.q30⟩
    · rcases h.ex with ⟨rfl, rfl⟩ | ⟨rfl, rfl⟩
      · exact ⟨_, .tail _ (.tail _ (.tail _ (.tail _ List.mem_cons_self))), rfl, rfl, h.q30⟩
      · exact ⟨_, .tail _ (.tail _ (.tail _ (.tail _ (.tail _ List.mem_cons_self)))), rfl, rfl, h.p30⟩
  obtain ⟨w, hw, rfl, rfl, hv⟩ := key
  obtain ⟨u, hu, e⟩ := h.knows hw hab
  exact ⟨u, by omega, e⟩
noncomputable def R8 (e x : Nat) (s l p q L : Int) (t : Nat) : St := run 3 (F8 e s l) (S8 e x s l p q L) t
theorem K8.at (h : K8 e x s l p q L) (t : Nat) {a b : Nat} (ha : a < 3) (hb : b < 3) (hab : a ≠ b) : ∃ u, u ≤ 30 ∧ val (R8 e x s l p q L t) (true, a, b) = some u := by
  obtain ⟨u, hu, hv⟩ := h.six ha hb hab
  obtain ⟨u', hv', nu⟩ := (run_imp' (n := 3) (F := F8 e s l) (s := S8 e x s l p q L) (Nat.zero_le t)).2 (true, a, b) u hab hv
  unfold better at nu
  simp at nu
  exact ⟨u', by omega, hv'⟩
theorem K8.goodR (h : K8 e x s l p q L) (t : Nat) : Good 3 (R8 e x s l p q L t) := run_good h.fok h.good t
end MU

set_option linter.unusedVariables false
namespace MU
variable {e x : Nat} {s l p q L : Int}
theorem least_of {P : Nat → Prop} : ∀ n, P n → ∃ i, i ≤ n ∧ P i ∧ ∀ j, j < i → ¬ P j := fun n => by
  induction n using Nat.strongRecOn with
  | _ n ih =>
    intro h
    by_cases c : ∃ j, j < n ∧ P j
    · obtain ⟨j, hj, hp⟩ := c
      obtain ⟨i, h1, h2, h3⟩ := ih j hj hp
      exact ⟨i, by omega, h2, h3⟩
    · exact ⟨n, Nat.le_refl _, h, fun j hj hp => c ⟨j, hj, hp⟩⟩
theorem K8.up (h : K8 e x s l p q L) {t : Nat} (hb : (R8 e x s l p q L t).bar = none) {i : Nat} {w : What} (hw : wat (R8 e x s l p q L t) i = some w) (wt : w.tie = true) : w.v ≤ 30 := by
  have g := h.goodR t
  have E := run_imp' (n := 3) (F := F8 e s l) (s := S8 e x s l p q L) (Nat.zero_le t)
  by_cases hi : i < (S8 e x s l p q L).rows.length
  · have h0 : wat (S8 e x s l p q L) i = some w := wat_back E.1 hi hw
    refine tells_all (C := fun w => w.v ≤ 30) (W8 e x s l p q L) empty empty_all (fun w hw => ?_) i w h0
    have := h.L30
    have := h.q30
    have := h.p30
    have := h.l30
    have := h.s1
    unfold W8 at hw
    simp only [List.mem_cons, List.not_mem_nil, or_false] at hw
    rcases hw with rfl | rfl | rfl | rfl | rfl | rfl | rfl | rfl
    · exact h.L30
    · show (0 : Int) ≤ 30; omega
    · exact h.L30
    · show (0 : Int) ≤ 30; omega
    · exact h.q30
    · exact h.p30
    · exact h.l30
    · show -s ≤ 30; omega
  · have lt := g.lt _ _ hw
    obtain ⟨u, hu, hv⟩ := h.six lt.1 lt.2 (g.ne hb _ _ hw)
    obtain ⟨j, w0, j1, j2, j3, j4⟩ := best_val h.good hv
    have hj := wat_lt j2
    have hd := g.drop hb j i w0 w (wat_ext E.1 j2) hw (by rw [j3]; unfold What.key; rw [wt]) (by omega)
    have := (key_eq j3).1
    unfold better at hd
    rw [this] at hd
    simp at hd
    omega
theorem K8.drawn (h : K8 e x s l p q L) (t : Nat) : Drawn (F8 e s l) (fun w => w.tie = true) (R8 e x s l p q L t) := run_drawn (tells_drawn _ _ empty_drawn fun w hw => (h.told w hw).2.2) t
theorem K8.usesR (h : K8 e x s l p q L) (t : Nat) : Uses (R8 e x s l p q L t) := run_uses (tells_uses _ _ empty_uses) t
theorem K8.born (h : K8 e x s l p q L) {t i : Nat} {w : What} (hb : (R8 e x s l p q L t).bar = none) (hw : wat (R8 e x s l p q L t) i = some w) (wt : w.tie = false) : w.b = e ∧
    (-29 ≤ w.v ∨ ∃ j w', j < i ∧ wat (R8 e x s l p q L t) j = some w' ∧ w'.tie = false ∧ w'.a ≠ w.a ∧ min w'.v l - 30 ≤ w.v) := by
  have g := h.goodR t
  unfold wat at hw
  cases hr : (R8 e x s l p q L t).rows[i]? with
  | none => rw [hr] at hw; cases hw
  | some r =>
    rw [hr] at hw
    have hw : some r.what = some w := hw
    cases hw
    have us := (h.usesR t).1 i r hr
    have hs1 := h.s1
    have hsl := h.sl
    rcases h.drawn t i r hr with ⟨_, _, d⟩ | ⟨_, j, p', e1, e2, e3⟩ | ⟨_, j, p', e1, e2, e3⟩ | ⟨_, j, p', e1, e2, e3⟩ | ⟨_, j, p', e1, e2, e3⟩ | ⟨_, j, k, p', q', e1, e2, e3, e4⟩ | ⟨_, j, k, p', q', e1, e2, e3, e4⟩
    · rw [d] at wt; cases wt
    · unfold byLate at e3
      split at e3
      · rename_i hc
        cases hf : F8 e s l p'.b with
        | none => rw [hf] at e3; cases e3
        | some f =>
          rw [hf] at e3
          obtain ⟨f1, f2⟩ := F8_some hf
          have e3 : (⟨false, p'.a, p'.b, f.2.2 - p'.v⟩ : What) = r.what := Option.some.inj e3
          rw [← e3, f2]
          have := h.up hb e2 hc.1
          exact ⟨f1, .inl (by show -29 ≤ l - p'.v; omega)⟩
      · cases e3
    · unfold bySoon at e3
      split at e3
      · cases hf : F8 e s l p'.a with
        | none => rw [hf] at e3; cases e3
        | some f =>
          rw [hf] at e3
          have e3 : (⟨true, f.1, p'.b, f.2.1 + p'.v⟩ : What) = r.what := Option.some.inj e3
          rw [← e3] at wt; cases wt
      · cases e3
    · unfold bySure at e3
      split at e3
      · cases hf : F8 e s l p'.b with
        | none => rw [hf] at e3; cases e3
        | some f =>
          rw [hf] at e3
          have e3 : (⟨true, p'.a, f.1, -min p'.v f.2.1⟩ : What) = r.what := Option.some.inj e3
          rw [← e3] at wt; cases wt
      · cases e3
    · unfold byCross at e3
      split at e3
      · rename_i hc
        cases ho : F8 e s l p'.a with
        | none => rw [ho] at e3; cases e3
        | some o =>
          rw [ho] at e3
          cases hf : F8 e s l p'.b with
          | none =>
            have e3 : ((F8 e s l p'.b).map fun f => (⟨false, o.1, p'.b, min p'.v f.2.2 - o.2.1⟩ : What)) = some r.what := e3
            rw [hf] at e3; cases e3
          | some f => exact absurd ((F8_some ho).1.trans (F8_some hf).1.symm) hc.2.1
      · cases e3
    · unfold bySum at e4
      split at e4
      · have e4 := Option.some.inj e4
        rw [← e4] at wt; cases wt
      · cases e4
    · unfold byBack at e4
      split at e4
      · rename_i hc
        cases hf : F8 e s l p'.b with
        | none => rw [hf] at e4; cases e4
        | some f =>
          rw [hf] at e4
          obtain ⟨f1, f2⟩ := F8_some hf
          have e4 : (⟨false, q'.a, p'.b, min p'.v f.2.2 - q'.v⟩ : What) = r.what := Option.some.inj e4
          rw [← e4, f2]
          have := h.up hb e3 hc.2.1
          refine ⟨f1, .inr ⟨j, p', us.2 j (by rw [e1]; exact List.mem_cons_self), e2, hc.1, ?_, by show min p'.v l - 30 ≤ min p'.v l - q'.v; omega⟩⟩
          show p'.a ≠ q'.a
          have := g.ne hb _ _ e3
          rw [hc.2.2.1] at this
          exact Ne.symm this
      · cases e4
theorem K8.low (h : K8 e x s l p q L) {t i : Nat} {w : What} (hb : (R8 e x s l p q L t).bar = none) (hw : wat (R8 e x s l p q L t) i = some w) (wt : w.tie = false) : -59 ≤ w.v := by
  have g := h.goodR t
  have hs1 := h.s1
  have hsl := h.sl
  obtain ⟨m, hmi, ⟨wm, hm, mt⟩, hfirst⟩ := least_of (P := fun i => ∃ w, wat (R8 e x s l p q L t) i = some w ∧ w.tie = false) i ⟨w, hw, wt⟩
  have vm : -29 ≤ wm.v := by
    rcases (h.born hb hm mt).2 with z | ⟨j, w', hj, h1, h2, _⟩
    · exact z
    · exact absurd ⟨w', h1, h2⟩ (hfirst j hj)
  have same : ∀ i w, wat (R8 e x s l p q L t) i = some w → w.tie = false → w.a = wm.a → -29 ≤ w.v := fun i w hw wt ha => by
    have hmi : m ≤ i := Classical.byContradiction fun z => hfirst i (by omega) ⟨w, hw, wt⟩
    rcases Nat.lt_or_eq_of_le hmi with hlt | rfl
    · have hk : wm.key = w.key := by unfold What.key; rw [mt, wt, ha, (h.born hb hm mt).1, (h.born hb hw wt).1]
      have := g.drop hb m i wm w hm hw hk hlt
      unfold better at this
      rw [mt] at this
      simp at this
      omega
    · rw [hm] at hw; cases hw; exact vm
  by_cases ha : w.a = wm.a
  · have := same i w hw wt ha; omega
  · obtain ⟨m2, hm2i, ⟨w2, h2, t2, a2⟩, hf2⟩ := least_of (P := fun i => ∃ w, wat (R8 e x s l p q L t) i = some w ∧ w.tie = false ∧ w.a ≠ wm.a) i ⟨w, hw, wt, ha⟩
    have v2 : -59 ≤ w2.v := by
      rcases (h.born hb h2 t2).2 with z | ⟨j, w', hj, h1, h3, h4, h5⟩
      · omega
      · have : w'.a = wm.a := Classical.byContradiction fun z => hf2 j hj ⟨w', h1, h3, z⟩
        have := same j w' h1 h3 this
        omega
    have three : ∀ {w : What} {i : Nat}, wat (R8 e x s l p q L t) i = some w → w.tie = false → w.a < 3 ∧ w.a ≠ e := fun {w i} hw wt => by
      have h1 := g.ne hb _ _ hw
      rw [(h.born hb hw wt).1] at h1
      exact ⟨(g.lt _ _ hw).1, h1⟩
    have same2 : w.a = w2.a := by
      have t1 := three hw wt
      have t2 := three h2 t2
      have t3 := three hm mt
      rcases h.ex with ⟨he, _⟩ | ⟨he, _⟩ <;> omega
    rcases Nat.lt_or_eq_of_le hm2i with hlt | rfl
    · have hk : w2.key = w.key := by unfold What.key; rw [t2, wt, same2, (h.born hb h2 t2).1, (h.born hb hw wt).1]
      have := g.drop hb m2 i w2 w h2 hw hk hlt
      unfold better at this
      rw [t2] at this
      simp at this
      omega
    · rw [h2] at hw; cases hw; exact v2
end MU

set_option linter.unusedVariables false
namespace MU
open MH
variable {e x : Nat} {s l p q L : Int}
theorem cnt_step {P : Nat → Prop} {m m' : Nat} (h : m ≤ m') : cnt P m' ≤ cnt P m + (m' - m) := by
  obtain ⟨d, rfl⟩ : ∃ d, m' = m + d := ⟨m' - m, by omega⟩
  induction d with
  | zero => simp
  | succ d ih =>
    have ih := ih (by omega)
    by_cases c : P (m + d)
    · rw [show m + (d + 1) = (m + d) + 1 from rfl, cnt_yes c]; omega
    · rw [show m + (d + 1) = (m + d) + 1 from rfl, cnt_no c]; omega
theorem cnt_flat {P : Nat → Prop} {m m' : Nat} (h : m ≤ m') (hn : ∀ i, m ≤ i → i < m' → ¬ P i) : cnt P m' = cnt P m := by
  obtain ⟨d, rfl⟩ : ∃ d, m' = m + d := ⟨m' - m, by omega⟩
  induction d with
  | zero => rfl
  | succ d ih =>
    have ih := ih (by omega) fun i h1 h2 => hn i h1 (by omega)
    rw [show m + (d + 1) = (m + d) + 1 from rfl, cnt_no (hn (m + d) (by omega) (by omega))]
    exact ih
theorem cnt_mono {P : Nat → Prop} {m m' : Nat} (h : m ≤ m') : cnt P m ≤ cnt P m' := by
  obtain ⟨d, rfl⟩ : ∃ d, m' = m + d := ⟨m' - m, by omega⟩
  induction d with
  | zero => exact Nat.le_refl _
  | succ d ih =>
    have ih := ih (by omega)
    by_cases c : P (m + d)
    · rw [show m + (d + 1) = (m + d) + 1 from rfl, cnt_yes c]; omega
    · rw [show m + (d + 1) = (m + d) + 1 from rfl, cnt_no c]; omega
theorem cnt_sub {P Q : Nat → Prop} (h : ∀ i, P i → Q i) (N : Nat) : cnt P N ≤ cnt Q N := by
  induction N with
  | zero => exact Nat.le_refl _
  | succ N ih =>
    by_cases c : P N
    · rw [cnt_yes c, cnt_yes (h N c)]; omega
    · rw [cnt_no c]
      exact Nat.le_trans ih (cnt_mono (Nat.le_succ N))
noncomputable def Ev (e x : Nat) (s l p q L : Int) (C : What → Prop) (t : Nat) : Prop := ∃ w, wat (R8 e x s l p q L t) t = some w ∧ (R8 e x s l p q L t).best w.key = some t ∧ C w
theorem K8.still (h : K8 e x s l p q L) {t : Nat} (hn : ¬ Ev e x s l p q L (fun _ => True) t) : R8 e x s l p q L (t + 1) = R8 e x s l p q L t := by
  show look 3 (F8 e s l) t (R8 e x s l p q L t) = _
  unfold look
  split
  · rename_i w hw
    rw [if_neg fun z => hn ⟨w, hw, z, trivial⟩]
  · rfl
theorem K8.tieV (h : K8 e x s l p q L) {t : Nat} (hb : (R8 e x s l p q L (t + 1)).bar = none) {w : What} (hw : wat (R8 e x s l p q L t) t = some w) (hk : (R8 e x s l p q L t).best w.key = some t) (wt : w.tie = true) : -30 ≤ w.v ∧ w.v ≤ 30 := by
  have i1 : Imp (R8 e x s l p q L t) (R8 e x s l p q L (t + 1)) := run_imp' (Nat.le_succ t)
  have hb0 : (R8 e x s l p q L t).bar = none := Classical.byContradiction fun z => i1.1.bar z hb
  have g := h.goodR t
  have lt := g.lt _ _ hw
  have ne := g.ne hb0 _ _ hw
  refine ⟨?_, h.up hb0 hw wt⟩
  obtain ⟨u, hu, hv⟩ := h.at t lt.2 lt.1 (Ne.symm ne)
  have e1 : R8 e x s l p q L (t + 1) = fromTie 3 (F8 e s l) t w.a w.b (R8 e x s l p q L t) := look_tie hw wt rfl rfl (by unfold What.key at hk; rw [wt] at hk; exact hk)
  have := (tie_sum h.fok g hw wt rfl rfl hv (Ne.symm ne) lt.1).2 rfl
  rw [← e1] at this
  by_cases c : w.v + u < 0
  · exact absurd hb (this c)
  · omega
theorem K8.wait0 (h : K8 e x s l p q L) {t : Nat} (hb : (R8 e x s l p q L (t + 1)).bar = none) {w : What} (hw : wat (R8 e x s l p q L t) t = some w) (hk : (R8 e x s l p q L t).best w.key = some t) (wt : w.tie = false) (w0 : w.a = 0) : w.v ≤ 0 := by
  have i1 : Imp (R8 e x s l p q L t) (R8 e x s l p q L (t + 1)) := run_imp' (Nat.le_succ t)
  have hb0 : (R8 e x s l p q L t).bar = none := Classical.byContradiction fun z => i1.1.bar z hb
  have e1 : R8 e x s l p q L (t + 1) = fromWait 3 (F8 e s l) t w.a (R8 e x s l p q L t) := look_wait hw wt hk
  have hs : bySure (F8 e s l) w = some ⟨true, w.a, 0, -min w.v s⟩ := by
    unfold bySure
    rw [if_pos wt, (h.born hb0 hw wt).1, F8_e]
    rfl
  have := (waitK_sure (n := 3) (a := w.a) hw hs).2
  rw [← e1] at this
  have hs1 := h.s1
  by_cases c : 0 < w.v
  · exact absurd hb (this ⟨rfl, w0, by show -min w.v s < 0; omega⟩)
  · omega
theorem K8.waitX (h : K8 e x s l p q L) {t : Nat} (hb : (R8 e x s l p q L (t + 1)).bar = none) {w : What} (hw : wat (R8 e x s l p q L t) t = some w) (hk : (R8 e x s l p q L t).best w.key = some t) (wt : w.tie = false) : Add (fun u => ¬ (u.tie = false ∧ u.a = w.a)) (R8 e x s l p q L t) (R8 e x s l p q L (t + 1)) := by
  have i1 : Imp (R8 e x s l p q L t) (R8 e x s l p q L (t + 1)) := run_imp' (Nat.le_succ t)
  have hb0 : (R8 e x s l p q L t).bar = none := Classical.byContradiction fun z => i1.1.bar z hb
  have g := h.goodR t
  have g1 := h.goodR (t + 1)
  have e1 : R8 e x s l p q L (t + 1) = fromWait 3 (F8 e s l) t w.a (R8 e x s l p q L t) := look_wait hw wt hk
  rw [e1] at hb g1 ⊢
  have we := (h.born hb0 hw wt).1
  generalize R8 e x s l p q L t = st at *
  have A1 : Add (fun u => ¬ (u.tie = false ∧ u.a = w.a)) st (draw1 (bySure (F8 e s l)) .sure t st) := d1_add hw fun u hu z => by
    unfold bySure at hu
    rw [if_pos wt, we, F8_e] at hu
    have hu := Option.some.inj hu
    rw [← hu] at z
    cases z.1
  have j1 : Imp st (draw1 (bySure (F8 e s l)) .sure t st) := d1_imp _ _ _ _
  have A2 : Add (fun u => ¬ (u.tie = false ∧ u.a = w.a)) (draw1 (bySure (F8 e s l)) .sure t st) (draw1 (byCross (F8 e s l)) .cross t (draw1 (bySure (F8 e s l)) .sure t st)) := d1_add (wat_ext j1.1 hw) fun u hu z => by
    unfold byCross at hu
    split at hu
    · rename_i hc
      cases ho : F8 e s l w.a with
      | none => rw [ho] at hu; cases hu
      | some o => exact hc.2.1 ((F8_some ho).1.trans we.symm)
    · cases hu
  have j2 : Imp (draw1 (bySure (F8 e s l)) .sure t st) (draw1 (byCross (F8 e s l)) .cross t (draw1 (bySure (F8 e s l)) .sure t st)) := d1_imp _ _ _ _
  have g2 : Good 3 (draw1 (byCross (F8 e s l)) .cross t (draw1 (bySure (F8 e s l)) .sure t st)) := d1_good (d1_good g (sure_fit h.fok)) (cross_fit h.fok)
  have A12 := A1.trans j2.1 A2
  have j12 := j1.trans j2
  unfold fromWait at hb ⊢
  dsimp only at hb ⊢
  generalize draw1 (byCross (F8 e s l)) .cross t (draw1 (bySure (F8 e s l)) .sure t st) = s2 at *
  have j3 : Imp s2 ((tiesTo 3 s2 w.a).foldl (fun st j => draw2 (byBack (F8 e s l)) .back t j st) s2) := foldl_imp (fun _ _ => d2_imp ..) _ _
  have hb2 : s2.bar = none := Classical.byContradiction fun z => j3.1.bar z hb
  refine A12.trans j3.1 (foldl_add (fun _ _ => d2_imp ..) _ s2 s2 (Imp.refl _) fun j hj s1 k1 => ?_)
  obtain ⟨c, hc, hbest⟩ := tiesTo_mem hj
  obtain ⟨q', hq, hqk⟩ := g2.at_ _ _ hbest
  have hne := g2.ne hb2 _ _ hq
  have qk := key_eq hqk
  refine d2_add (wat_ext (j12.1.trans k1.1) hw) (wat_ext k1.1 hq) fun u hu z => ?_
  unfold byBack at hu
  split at hu
  · cases hf : F8 e s l w.b with
    | none => rw [hf] at hu; cases hu
    | some f =>
      rw [hf] at hu
      have hu := Option.some.inj hu
      rw [← hu] at z
      have z2 : q'.a = w.a := z.2
      exact hne (z2.trans qk.2.2.symm)
  · cases hu
theorem K8.rows (h : K8 e x s l p q L) {N : Nat} (hl : ∀ t, t ≤ N → t ≤ (R8 e x s l p q L t).rows.length) (hb : ∀ t, t ≤ N → (R8 e x s l p q L t).bar = none) : (R8 e x s l p q L N).rows.length ≤ 500000 := by
  have gN := h.goodR N
  have toN : ∀ {t : Nat}, t ≤ N → Imp (R8 e x s l p q L t) (R8 e x s l p q L N) := fun ht => run_imp' ht
  have l0 : (R8 e x s l p q L 0).rows.length ≤ 8 := by
    have := tells_len (W8 e x s l p q L) empty
    exact this
  let row : Nat → What := fun t => (wat (R8 e x s l p q L N) t).getD ⟨true, 0, 0, 0⟩
  have hrow : ∀ {t : Nat} {w : What}, t ≤ N → wat (R8 e x s l p q L t) t = some w → row t = w ∧ wat (R8 e x s l p q L N) t = some w := fun {t w} ht hw => by
    have := wat_ext (toN ht).1 hw
    exact ⟨by show (wat _ t).getD _ = w; rw [this]; rfl, this⟩
  have diff : ∀ {i j : Nat} {w w' : What}, i < j → wat (R8 e x s l p q L N) i = some w → wat (R8 e x s l p q L N) j = some w' → w.key = w'.key → w.v ≠ w'.v := fun {i j w w'} hij h1 h2 hk hv => by
    have := gN.drop (hb N (Nat.le_refl _)) i j w w' h1 h2 hk hij
    rw [hv] at this
    exact nbetter_refl _ _ this
  have c1 : cnt (Ev e x s l p q L fun w => w.tie = true) N ≤ 549 := by
    refine cnt_le (fun t => ((row t).a * 3 + (row t).b) * 61 + ((row t).v + 30).toNat) (fun t ht ⟨w, h1, h2, h3⟩ => ?_) fun i j hij hj ⟨w, h1, h2, h3⟩ ⟨w', h1', h2', h3'⟩ => ?_
    · obtain ⟨r1, r2⟩ := hrow (by omega) h1
      have lt := gN.lt _ _ r2
      have := h.tieV (hb (t + 1) (by omega)) h1 h2 h3
      show ((row t).a * 3 + (row t).b) * 61 + ((row t).v + 30).toNat < 549
      rw [r1]
      omega
    · obtain ⟨r1, r2⟩ := hrow (t := i) (by omega) h1
      obtain ⟨r1', r2'⟩ := hrow (t := j) (by omega) h1'
      have lt := gN.lt _ _ r2
      have lt' := gN.lt _ _ r2'
      have v1 := h.tieV (hb (i + 1) (by omega)) h1 h2 h3
      have v2 := h.tieV (hb (j + 1) (by omega)) h1' h2' h3'
      show ((row i).a * 3 + (row i).b) * 61 + ((row i).v + 30).toNat ≠ ((row j).a * 3 + (row j).b) * 61 + ((row j).v + 30).toNat
      rw [r1, r1']
      intro z
      have ea : w.a = w'.a := by omega
      have eb : w.b = w'.b := by omega
      exact diff hij r2 r2' (by unfold What.key; rw [h3, h3', ea, eb]) (by omega)
  have c2 : cnt (Ev e x s l p q L fun w => w.tie = false ∧ w.a = 0) N ≤ 60 := by
    refine cnt_le (fun t => ((row t).v + 59).toNat) (fun t ht ⟨w, h1, h2, h3⟩ => ?_) fun i j hij hj ⟨w, h1, h2, h3⟩ ⟨w', h1', h2', h3'⟩ => ?_
    · obtain ⟨r1, r2⟩ := hrow (by omega) h1
      have := h.wait0 (hb (t + 1) (by omega)) h1 h2 h3.1 h3.2
      have := h.low (hb N (Nat.le_refl _)) r2 h3.1
      show ((row t).v + 59).toNat < 60
      rw [r1]
      omega
    · obtain ⟨r1, r2⟩ := hrow (t := i) (by omega) h1
      obtain ⟨r1', r2'⟩ := hrow (t := j) (by omega) h1'
      have v1 := h.low (hb N (Nat.le_refl _)) r2 h3.1
      have v2 := h.low (hb N (Nat.le_refl _)) r2' h3'.1
      show ((row i).v + 59).toNat ≠ ((row j).v + 59).toNat
      rw [r1, r1']
      intro z
      exact diff hij r2 r2' (by unfold What.key; rw [h3.1, h3'.1, h3.2, h3'.2, (h.born (hb N (Nat.le_refl _)) r2 h3.1).1, (h.born (hb N (Nat.le_refl _)) r2' h3'.1).1]) (by omega)
  -- the waits of x
  let isX : Nat → Prop := fun i => ∃ w, wat (R8 e x s l p q L N) i = some w ∧ w.tie = false ∧ w.a ≠ 0
  let A : Nat → Prop := fun t => Ev e x s l p q L (fun w => w.tie = true) t ∨ Ev e x s l p q L (fun w => w.tie = false ∧ w.a = 0) t
  have cX : ∀ t, t ≤ N → cnt isX (R8 e x s l p q L t).rows.length ≤ 8 + 26 * cnt A t := fun t => by
    induction t with
    | zero =>
      intro _
      have := cnt_step (P := isX) (Nat.zero_le (R8 e x s l p q L 0).rows.length)
      have e0 : cnt isX 0 = 0 := rfl
      omega
    | succ t ih =>
      intro ht
      have ih := ih (by omega)
      have hlen : (R8 e x s l p q L t).rows.length ≤ (R8 e x s l p q L (t + 1)).rows.length := (run_imp' (n := 3) (F := F8 e s l) (s := S8 e x s l p q L) (Nat.le_succ t)).1.len
      by_cases c : A t
      · have h26 : (R8 e x s l p q L (t + 1)).rows.length ≤ (R8 e x s l p q L t).rows.length + 26 := look_len (by decide)
        have := cnt_step (P := isX) hlen
        rw [cnt_yes c]
        omega
      · rw [cnt_no c]
        by_cases ev : Ev e x s l p q L (fun _ => True) t
        · obtain ⟨w, h1, h2, _⟩ := ev
          have wt : w.tie = false := by
            cases q : w.tie with
            | false => rfl
            | true => exact absurd (.inl ⟨w, h1, h2, q⟩) c
          have wa : w.a ≠ 0 := fun z => c (.inr ⟨w, h1, h2, wt, z⟩)
          have ad := h.waitX (hb (t + 1) ht) h1 h2 wt
          have fl : cnt isX (R8 e x s l p q L (t + 1)).rows.length = cnt isX (R8 e x s l p q L t).rows.length := cnt_flat hlen fun i hi1 hi2 ⟨u, hu, ut, ua⟩ => by
            have hu' := wat_back (toN ht).1 hi2 hu
            refine ad i u hi1 hu' ⟨ut, ?_⟩
            have b0 := hb N (Nat.le_refl _)
            have n1 := gN.ne b0 _ _ hu
            have n2 := (gN.lt _ _ hu).1
            rw [(h.born b0 hu ut).1] at n1
            have r2 := (hrow (by omega) h1).2
            have m1 := gN.ne b0 _ _ r2
            have m2 := (gN.lt _ _ r2).1
            rw [(h.born b0 r2 wt).1] at m1
            rcases h.ex with ⟨he, _⟩ | ⟨he, _⟩ <;> omega
          rw [fl]
          exact ih
        · rw [h.still ev]
          exact ih
  have c3 : cnt (Ev e x s l p q L fun w => w.tie = false ∧ w.a ≠ 0) N ≤ 8 + 26 * 609 := by
    have h1 := cnt_sub (P := fun t => Ev e x s l p q L (fun w => w.tie = false ∧ w.a ≠ 0) t ∧ t < N) (Q := isX) (fun t ⟨⟨w, h1, h2, h3⟩, ht⟩ => ⟨w, (hrow (by omega) h1).2, h3⟩) N
    have h2 : cnt (Ev e x s l p q L fun w => w.tie = false ∧ w.a ≠ 0) N ≤ cnt (fun t => Ev e x s l p q L (fun w => w.tie = false ∧ w.a ≠ 0) t ∧ t < N) N := by
      have : ∀ M, M ≤ N → cnt (Ev e x s l p q L fun w => w.tie = false ∧ w.a ≠ 0) M ≤ cnt (fun t => Ev e x s l p q L (fun w => w.tie = false ∧ w.a ≠ 0) t ∧ t < N) M := fun M => by
        induction M with
        | zero => intro _; exact Nat.le_refl _
        | succ M ih =>
          intro hM
          have ih := ih (by omega)
          by_cases c : Ev e x s l p q L (fun w => w.tie = false ∧ w.a ≠ 0) M
          · rw [cnt_yes c, cnt_yes (P := fun t => Ev e x s l p q L (fun w => w.tie = false ∧ w.a ≠ 0) t ∧ t < N) ⟨c, by omega⟩]; omega
          · rw [cnt_no c]
            exact Nat.le_trans ih (cnt_mono (Nat.le_succ M))
      exact this N (Nat.le_refl _)
    have h3 := cnt_mono (P := isX) (hl N (Nat.le_refl _))
    have h4 := cX N (Nat.le_refl _)
    have h5 := cnt_or (P := A) (fun i z => z) N
    omega
  have cE : ∀ t, t ≤ N → (R8 e x s l p q L t).rows.length ≤ 8 + 26 * cnt (Ev e x s l p q L fun _ => True) t := fun t => by
    induction t with
    | zero => intro _; omega
    | succ t ih =>
      intro ht
      have ih := ih (by omega)
      by_cases ev : Ev e x s l p q L (fun _ => True) t
      · have h26 : (R8 e x s l p q L (t + 1)).rows.length ≤ (R8 e x s l p q L t).rows.length + 26 := look_len (by decide)
        rw [cnt_yes ev]
        omega
      · rw [h.still ev, cnt_no ev]
        exact ih
  have cA := cnt_or (P := Ev e x s l p q L fun _ => True) (Q := Ev e x s l p q L fun w => w.tie = true) (R := fun t => Ev e x s l p q L (fun w => w.tie = false ∧ w.a = 0) t ∨ Ev e x s l p q L (fun w => w.tie = false ∧ w.a ≠ 0) t) (fun t ⟨w, h1, h2, _⟩ => by
    cases wt : w.tie with
    | true => exact .inl ⟨w, h1, h2, wt⟩
    | false =>
      by_cases wa : w.a = 0
      · exact .inr (.inl ⟨w, h1, h2, wt, wa⟩)
      · exact .inr (.inr ⟨w, h1, h2, wt, wa⟩)) N
  have cB := cnt_or (P := fun t => Ev e x s l p q L (fun w => w.tie = false ∧ w.a = 0) t ∨ Ev e x s l p q L (fun w => w.tie = false ∧ w.a ≠ 0) t) (fun t z => z) N
  have := cE N (Nat.le_refl _)
  omega
end MU

set_option linter.unusedVariables false
namespace MU
theorem ends_of {n : Nat} {F : Falls} {s0 : St} {M : Nat} (key : ∀ T, (∀ t, t < T → t < (run n F s0 t).rows.length ∧ (run n F s0 t).bar = none) → (run n F s0 T).rows.length ≤ M) :
    ∃ T, ((run n F s0 T).rows.length ≤ T ∨ (run n F s0 T).bar ≠ none) ∧ (∀ t, t < T → t < (run n F s0 t).rows.length ∧ (run n F s0 t).bar = none) ∧ ∀ t, t ≤ T → (run n F s0 t).rows.length ≤ M := by
  have hex : ∃ T, (run n F s0 T).rows.length ≤ T ∨ (run n F s0 T).bar ≠ none := Classical.byContradiction fun hn => by
    have all : ∀ t, t < (run n F s0 t).rows.length ∧ (run n F s0 t).bar = none := fun t => ⟨Classical.byContradiction fun c => hn ⟨t, .inl (by omega)⟩, Classical.byContradiction fun c => hn ⟨t, .inr c⟩⟩
    have h1 := key M fun t _ => all t
    have h2 := (all M).1
    omega
  obtain ⟨T0, hT0⟩ := hex
  obtain ⟨T, _, h1, h2⟩ := least_of (P := fun T => (run n F s0 T).rows.length ≤ T ∨ (run n F s0 T).bar ≠ none) T0 hT0
  have first : ∀ t, t < T → t < (run n F s0 t).rows.length ∧ (run n F s0 t).bar = none := fun t ht => ⟨Classical.byContradiction fun c => h2 t ht (.inl (by omega)), Classical.byContradiction fun c => h2 t ht (.inr c)⟩
  exact ⟨T, h1, first, fun t ht => key t fun s hs => first s (by omega)⟩
variable {e x : Nat} {s l p q L : Int}
theorem K8.ends (h : K8 e x s l p q L) : ∃ T, ((R8 e x s l p q L T).rows.length ≤ T ∨ (R8 e x s l p q L T).bar ≠ none) ∧ (∀ t, t < T → t < (R8 e x s l p q L t).rows.length ∧ (R8 e x s l p q L t).bar = none) ∧ ∀ t, t ≤ T → (R8 e x s l p q L t).rows.length ≤ 16000000 := by
  obtain ⟨T, h1, h2, h3⟩ := ends_of (n := 3) (F := F8 e s l) (s0 := S8 e x s l p q L) (M := 600000) fun T hT => by
    cases T with
    | zero =>
      have := tells_len (W8 e x s l p q L) empty
      have : (S8 e x s l p q L).rows.length ≤ 8 := this
      show (S8 e x s l p q L).rows.length ≤ _
      omega
    | succ N =>
      have a := h.rows (N := N) (fun t ht => Nat.le_of_lt (hT t (by omega)).1) fun t ht => (hT t (by omega)).2
      have b : (R8 e x s l p q L (N + 1)).rows.length ≤ (R8 e x s l p q L N).rows.length + 26 := look_len (by decide)
      show (R8 e x s l p q L (N + 1)).rows.length ≤ _
      omega
  exact ⟨T, h1, h2, fun t ht => Nat.le_trans (h3 t ht) (by decide)⟩
noncomputable def Due (s l p q L : Int) : Prop := if q < 0 then l - q ≤ L else if 0 < p then l ≤ L ∧ max 0 (l - q) ≤ s - p else l ≤ L
/-! a way to keep it -/
noncomputable def tm (e x : Nat) (X : Int → Int) (a : Nat) (d : Int) : Int := if a = e then d else if a = x then X d else 0
noncomputable def H8 (e x : Nat) (s l : Int) (X : Int → Int) (w : What) : Prop :=
  (w.tie = true → ∀ d, s ≤ d → d ≤ l → tm e x X w.b d - tm e x X w.a d ≤ w.v) ∧ (w.tie = false → w.b = e ∧ ∀ d, s ≤ d → d ≤ l → d ≤ tm e x X w.a d ∨ w.v ≤ tm e x X w.a d)
theorem tm_e {X : Int → Int} {d : Int} : tm e x X e d = d := if_pos rfl
theorem K8.goes (h : K8 e x s l p q L) {X : Int → Int} (hX : (∀ d, s ≤ d → d ≤ l → d ≤ X d) ∨ ∃ k, ∀ d, X d = k) : Goes (F8 e s l) (H8 e x s l X) := by
  have hs1 := h.s1
  have hsl := h.sl
  have kind : ∀ c, c ≠ e → (∀ d, s ≤ d → d ≤ l → d ≤ tm e x X c d) ∨ ∃ k, ∀ d, tm e x X c d = k := fun c hc => by
    have ev : ∀ d, tm e x X c d = if c = x then X d else 0 := fun d => by unfold tm; rw [if_neg hc]
    by_cases hx : c = x
    · have ev : ∀ d, tm e x X c d = X d := fun d => by rw [ev, if_pos hx]
      rcases hX with z | ⟨k, z⟩
      · exact .inl fun d h1 h2 => by rw [ev]; exact z d h1 h2
      · exact .inr ⟨k, fun d => by rw [ev]; exact z d⟩
    · exact .inr ⟨0, fun d => by rw [ev, if_neg hx]⟩
  have t0 : ∀ d, tm e x X 0 d = 0 := fun d => by
    unfold tm
    rcases h.ex with ⟨rfl, rfl⟩ | ⟨rfl, rfl⟩ <;> rfl
  refine ⟨fun p' q' w hp hq hw => ?_, fun p' w hp hw => ?_, fun p' w hp hw => ?_, fun p' w hp hw => ?_, fun p' q' w hp hq hw => ?_, fun p' w hp hw => ?_⟩
  · unfold bySum at hw
    split at hw
    · rename_i hc
      have hw := Option.some.inj hw
      rw [← hw]
      refine ⟨fun _ d h1 h2 => ?_, (fun z => nomatch z)⟩
      have a1 := hp.1 hc.1 d h1 h2
      have a2 := hq.1 hc.2.1 d h1 h2
      rw [hc.2.2] at a1
      show tm e x X q'.b d - tm e x X p'.a d ≤ p'.v + q'.v
      omega
    · cases hw
  · unfold byLate at hw
    split at hw
    · rename_i hc
      cases hf : F8 e s l p'.b with
      | none => rw [hf] at hw; cases hw
      | some f =>
        rw [hf] at hw
        obtain ⟨f1, f2⟩ := F8_some hf
        have hw := Option.some.inj hw
        rw [← hw, f2]
        refine ⟨(fun z => nomatch z), fun _ => ⟨f1, fun d h1 h2 => ?_⟩⟩
        have hv := hp.1 hc.1 l hsl (Int.le_refl _)
        rw [f1, tm_e] at hv
        show d ≤ tm e x X p'.a d ∨ l - p'.v ≤ tm e x X p'.a d
        rcases kind p'.a (by rw [← f1]; exact hc.2) with z | ⟨k, z⟩
        · exact .inl (z d h1 h2)
        · right
          rw [z] at hv ⊢
          omega
    · cases hw
  · unfold bySoon at hw
    split at hw
    · rename_i hc
      cases hf : F8 e s l p'.a with
      | none => rw [hf] at hw; cases hw
      | some f =>
        rw [hf] at hw
        obtain ⟨f1, f2⟩ := F8_some hf
        have hw := Option.some.inj hw
        rw [← hw, f2]
        refine ⟨fun _ d h1 h2 => ?_, (fun z => nomatch z)⟩
        have hv := hp.1 hc.1 s (Int.le_refl _) hsl
        rw [f1, tm_e] at hv
        show tm e x X p'.b d - tm e x X 0 d ≤ s + p'.v
        rw [t0]
        rcases kind p'.b (by rw [← f1]; exact Ne.symm hc.2.1) with z | ⟨k, z⟩
        · have := z s (Int.le_refl _) hsl
          have := hc.2.2
          omega
        · rw [z] at hv ⊢
          omega
    · cases hw
  · unfold bySure at hw
    split at hw
    · rename_i hc
      cases hf : F8 e s l p'.b with
      | none => rw [hf] at hw; cases hw
      | some f =>
        rw [hf] at hw
        obtain ⟨f1, f2⟩ := F8_some hf
        have hw := Option.some.inj hw
        rw [← hw, f2]
        refine ⟨fun _ d h1 h2 => ?_, (fun z => nomatch z)⟩
        show tm e x X 0 d - tm e x X p'.a d ≤ -min p'.v s
        rw [t0]
        rcases (hp.2 hc).2 d h1 h2 with z | z <;> omega
    · cases hw
  · unfold byBack at hw
    split at hw
    · rename_i hc
      cases hf : F8 e s l p'.b with
      | none => rw [hf] at hw; cases hw
      | some f =>
        rw [hf] at hw
        obtain ⟨f1, f2⟩ := F8_some hf
        have hw := Option.some.inj hw
        rw [← hw, f2]
        refine ⟨(fun z => nomatch z), fun _ => ⟨f1, fun d h1 h2 => ?_⟩⟩
        show d ≤ tm e x X q'.a d ∨ min p'.v l - q'.v ≤ tm e x X q'.a d
        have hv := hq.1 hc.2.1 l hsl (Int.le_refl _)
        have hwl := (hp.2 hc.1).2 l hsl (Int.le_refl _)
        rw [hc.2.2.1] at hv
        rcases kind q'.a (by rw [← f1]; exact hc.2.2.2) with z | ⟨k, z⟩
        · exact .inl (z d h1 h2)
        · right
          rw [z] at hv ⊢
          rcases hwl with y | y <;> omega
    · cases hw
  · unfold byCross at hw
    split at hw
    · rename_i hc
      cases ho : F8 e s l p'.a with
      | none => rw [ho] at hw; cases hw
      | some o => exact absurd ((F8_some ho).1.trans (hp.2 hc.1).1.symm) hc.2.1
    · cases hw
theorem K8.sound (h : K8 e x s l p q L) {X : Int → Int} (hX : (∀ d, s ≤ d → d ≤ l → d ≤ X d) ∨ ∃ k, ∀ d, X d = k)
    (hk : ∀ d, s ≤ d → d ≤ l → 0 ≤ X d ∧ X d ≤ L ∧ d ≤ L ∧ d - X d ≤ q ∧ p ≤ d - X d) (t : Nat) : (R8 e x s l p q L t).bar = none := by
  have hs1 := h.s1
  have all : AllR (H8 e x s l X) (R8 e x s l p q L t) := run_all (h.goes hX) (tells_all _ _ empty_all fun w hw => by
    unfold W8 at hw
    simp only [List.mem_cons, List.not_mem_nil, or_false] at hw
    rcases h.ex with ⟨rfl, rfl⟩ | ⟨rfl, rfl⟩ <;>
      rcases hw with rfl | rfl | rfl | rfl | rfl | rfl | rfl | rfl <;>
      refine ⟨fun _ d h1 h2 => ?_, (fun z => nomatch z)⟩ <;>
      have := hk d h1 h2 <;>
      simp [tm] <;> omega) t
  cases hb : (R8 e x s l p q L t).bar with
  | none => rfl
  | some b =>
    obtain ⟨r, hr, hB⟩ := (h.usesR t).2 b hb
    have hw : wat (R8 e x s l p q L t) b = some r.what := by unfold wat; rw [hr]; rfl
    have := (all b _ hw).1 hB.1 s (Int.le_refl _) h.sl
    rw [hB.2.1] at this
    have := hB.2.2
    omega
theorem K8.full (h : K8 e x s l p q L) {T : Nat} (hfirst : ∀ t, t < T → t < (R8 e x s l p q L t).rows.length) (hend : (R8 e x s l p q L T).rows.length ≤ T) (hb : (R8 e x s l p q L T).bar = none) (hpq : p ≤ q) : Due s l p q L := by
  have fin : Fin 3 (F8 e s l) ((60 : Nat) : Int) (S8 e x s l p q L) T := ⟨h.fok, h.good, hfirst, hend⟩
  have hs1 := h.s1
  have hsl := h.sl
  have toT : ∀ {w : What}, w ∈ W8 e x s l p q L → w.a ≠ w.b → ∃ u, u ≤ w.v ∧ val (R8 e x s l p q L T) (true, w.a, w.b) = some u := fun {w} hw hne => by
    obtain ⟨u, hu, hv⟩ := h.knows hw hne
    obtain ⟨u', hv', nu⟩ := (run_imp' (n := 3) (F := F8 e s l) (s := S8 e x s l p q L) (Nat.zero_le T)).2 (true, w.a, w.b) u hne hv
    unfold better at nu
    simp at nu
    exact ⟨u', by omega, hv'⟩
  have xe : x ≠ e ∧ 0 ≠ e ∧ 0 ≠ x := by rcases h.ex with ⟨rfl, rfl⟩ | ⟨rfl, rfl⟩ <;> exact ⟨by decide, by decide, by decide⟩
  obtain ⟨uxe, hxe, vxe⟩ := toT (w := ⟨true, x, e, q⟩) (.tail _ (.tail _ (.tail _ (.tail _ List.mem_cons_self)))) xe.1
  obtain ⟨uex, hex, vex⟩ := toT (w := ⟨true, e, x, -p⟩) (.tail _ (.tail _ (.tail _ (.tail _ (.tail _ List.mem_cons_self))))) (Ne.symm xe.1)
  obtain ⟨u0x, h0x, v0x⟩ : ∃ u, u ≤ L ∧ val (R8 e x s l p q L T) (true, 0, x) = some u := by
    rcases h.ex with ⟨rfl, rfl⟩ | ⟨rfl, rfl⟩
    · exact toT (w := ⟨true, 0, 2, L⟩) (.tail _ (.tail _ List.mem_cons_self)) (show 0 ≠ 2 by decide)
    · exact toT (w := ⟨true, 0, 1, L⟩) List.mem_cons_self (show 0 ≠ 1 by decide)
  obtain ⟨ux0, hx0, vx0⟩ : ∃ u, u ≤ 0 ∧ val (R8 e x s l p q L T) (true, x, 0) = some u := by
    rcases h.ex with ⟨rfl, rfl⟩ | ⟨rfl, rfl⟩
    · exact toT (w := ⟨true, 2, 0, 0⟩) (.tail _ (.tail _ (.tail _ List.mem_cons_self))) (by decide)
    · exact toT (w := ⟨true, 1, 0, 0⟩) (.tail _ List.mem_cons_self) (by decide)
  obtain ⟨u0e, h0e, v0e⟩ : ∃ u, u ≤ L ∧ val (R8 e x s l p q L T) (true, 0, e) = some u := by
    rcases h.ex with ⟨rfl, rfl⟩ | ⟨rfl, rfl⟩
    · exact toT (w := ⟨true, 0, 1, L⟩) List.mem_cons_self (show 0 ≠ 1 by decide)
    · exact toT (w := ⟨true, 0, 2, L⟩) (.tail _ (.tail _ List.mem_cons_self)) (show 0 ≠ 2 by decide)
  -- no wait of 0 is above nought
  have nowait : ∀ {v : Int}, Kn (R8 e x s l p q L T) ⟨false, 0, e, v⟩ → v ≤ 0 := fun {v} hk => by
    obtain ⟨u, hu, nu⟩ := hk.1 xe.2.1
    have hs := (fin.sure (f := (0, s, l)) hu F8_e).2
    have nu : ¬ better false v u := nu
    unfold better at nu
    simp at nu
    by_cases c : 0 < u
    · exact absurd hb (hs ⟨rfl, rfl, by show -min u s < 0; omega⟩)
    · omega
  have late0 : l ≤ u0e := by
    have := nowait (fin.late (f := (0, s, l)) v0e xe.2.1 F8_e)
    have this : l - u0e ≤ 0 := this
    omega
  have tieK : ∀ {a b : Nat} {v u : Int}, Kn (R8 e x s l p q L T) ⟨true, a, b, v⟩ → a ≠ b → val (R8 e x s l p q L T) (true, a, b) = some u → u ≤ v := fun {a b v u} hk hab hu => by
    obtain ⟨u', hu', nu⟩ := hk.1 hab
    have hu' : val (R8 e x s l p q L T) (true, a, b) = some u' := hu'
    rw [hu] at hu'
    cases hu'
    have nu : ¬ better true v u := nu
    unfold better at nu
    simp at nu
    exact nu
  unfold Due
  have hxe : uxe ≤ q := hxe
  have hex : uex ≤ -p := hex
  have sum := tieK (fin.sum v0x vxe) xe.2.1 v0e
  split
  · omega
  · split
    · rename_i hq hp
      have soon := tieK (fin.soon (f := (0, s, l)) vex (Ne.symm xe.1) (by omega) F8_e) xe.2.2 v0x
      have soon : u0x ≤ s + uex := soon
      have ring := (fin.sum v0x vx0).2
      have r0 : 0 ≤ u0x + ux0 := Classical.byContradiction fun z => absurd hb (ring ⟨rfl, rfl, by show u0x + ux0 < 0; omega⟩)
      obtain ⟨wx, hwx, nwx⟩ := (fin.late (f := (0, s, l)) vxe xe.1 F8_e).1 xe.1
      have hwx : val (R8 e x s l p q L T) (false, x, e) = some wx := hwx
      have nwx : ¬ better false (l - uxe) wx := nwx
      unfold better at nwx
      simp at nwx
      have bk := nowait (fin.back (f := (0, s, l)) hwx v0x xe.2.1 F8_e)
      have bk : min wx l - u0x ≤ 0 := bk
      refine ⟨by omega, ?_⟩
      omega
    · omega
theorem K8.iff (h : K8 e x s l p q L) (hpq : p ≤ q) {T : Nat} (hfirst : ∀ t, t < T → t < (R8 e x s l p q L t).rows.length) (hend : (R8 e x s l p q L T).rows.length ≤ T ∨ (R8 e x s l p q L T).bar ≠ none) : (R8 e x s l p q L T).bar = none ↔ Due s l p q L := by
  have hs1 := h.s1
  have hsl := h.sl
  constructor
  · intro hb
    rcases hend with z | z
    · exact h.full hfirst z hb hpq
    · exact absurd hb z
  · intro hd
    unfold Due at hd
    split at hd
    · exact h.sound (X := fun d => d - q) (.inl fun d h1 h2 => by show d ≤ d - q; omega) (fun d h1 h2 => by show 0 ≤ d - q ∧ d - q ≤ L ∧ d ≤ L ∧ d - (d - q) ≤ q ∧ p ≤ d - (d - q); omega) T
    · split at hd
      · exact h.sound (X := fun _ => s - p) (.inr ⟨s - p, fun _ => rfl⟩) (fun d h1 h2 => by show 0 ≤ s - p ∧ s - p ≤ L ∧ d ≤ L ∧ d - (s - p) ≤ q ∧ p ≤ d - (s - p); omega) T
      · exact h.sound (X := fun d => d) (.inl fun d h1 h2 => Int.le_refl _) (fun d h1 h2 => by show 0 ≤ d ∧ d ≤ L ∧ d ≤ L ∧ d - d ≤ q ∧ p ≤ d - d; omega) T
end MU

set_option Elab.async false
set_option linter.all false
set_option maxRecDepth 100000
set_option maxHeartbeats 4000000
namespace W
open PySem L2
theorem scr_of {K : PySem.W.Frag} {H : Hp} {a : Addr} {ns : List Int} (o : Only H) (h : SqL K H a (ns.map V.int)) : ScrAt K H a ns := by
  rcases h with (h | h) | h
  · rcases o a with z | ⟨ob, xs, z⟩
    · rw [z] at h; cases h
    · rw [z] at h; cases h
  · exact .inl h
  · exact .inr h
noncomputable def spLaw (K : PySem.W.Frag) : Sp := fun vs H Q _ => ∃ a ns, vs = [.ref a] ∧ ScrAt K H a ns ∧ ∀ H', Q (.bl true) H'
/-! the web of this law -/
theorem begun8 {e x : Nat} {s l p q L : Int} : begun ((3 : Nat) : Int) L [[(x : Int), (e : Int), p, q]] [[0, (e : Int), s, l]] = MU.S8 e x s l p q L := rfl
theorem falls8 {e : Nat} {s l : Int} : fallsOf [[0, (e : Int), s, l]] = MU.F8 e s l := by
  funext i
  unfold fallsOf MU.F8
  by_cases h : i = e
  · subst h
    rw [if_pos rfl]
    have : ([[0, (i : Int), s, l]] : List (List Int)).find? (fun r => decide (r[1]? = some (i : Int))) = some [0, (i : Int), s, l] := by
      rw [List.find?_cons_of_pos (by exact decide_eq_true rfl)]
    rw [this]
    rfl
  · rw [if_neg h]
    have : ([[0, (e : Int), s, l]] : List (List Int)).find? (fun r => decide (r[1]? = some (i : Int))) = none := by
      rw [List.find?_cons_of_neg (by
        show ¬ decide ((some (e : Int) : Option Int) = some (i : Int)) = true
        rw [decide_eq_true_eq, Option.some.injEq]
        omega)]
      rfl
    rw [this]
    rfl
theorem webOk8 {e x : Nat} {s l p q L : Int} (h : MU.K8 e x s l p q L) (hpq : p ≤ q) (hp : -60 ≤ p) (h1 : 1 ≤ L) : WebOk ((3 : Nat) : Int) L [[(x : Int), (e : Int), p, q]] [[0, (e : Int), s, l]] := by
  have ex := h.ex
  have := h.s1
  have := h.sl
  have := h.l30
  have := h.L30
  have := h.q30
  have he : 0 < (e : Int) ∧ (e : Int) < 3 := by omega
  refine ⟨by decide, by decide, h1, by omega, by show 1 ≤ 24; decide, by show 1 ≤ 7; decide, fun r hr => ?_, fun r hr => ?_, fun i j r r' hi hj e => ?_, fun r hr r' hr' e' => ?_⟩
  · rw [List.mem_singleton] at hr
    exact ⟨_, _, _, _, hr, by omega, by omega, by omega, by omega, by omega, hp, hpq, by omega⟩
  · rw [List.mem_singleton] at hr
    exact ⟨_, _, _, _, hr, by omega, by omega, he.1, he.2, by omega, h.s1, h.sl, by omega⟩
  · have hi := (List.getElem?_eq_some_iff.mp hi).1
    have hj := (List.getElem?_eq_some_iff.mp hj).1
    have hi : i < 1 := hi
    have hj : j < 1 := hj
    omega
  · rw [List.mem_singleton] at hr hr'
    subst hr
    subst hr'
    have e' : (some (0 : Int)) = some (e : Int) := e'
    injection e'
    omega
theorem kept8 {e x : Nat} {s l p q L : Int} (h : MU.K8 e x s l p q L) (hpq : p ≤ q) : ∃ Te, Ended 3 (fallsOf [[0, (e : Int), s, l]]) (begun ((3 : Nat) : Int) L [[(x : Int), (e : Int), p, q]] [[0, (e : Int), s, l]]) Te ∧
    ((closed 3 L [[(x : Int), (e : Int), p, q]] [[0, (e : Int), s, l]] Te).bar = none ↔ MU.Due s l p q L) := by
  obtain ⟨T, h1, h2, h3⟩ := h.ends
  refine ⟨T, ?_, ?_⟩
  · rw [falls8, begun8]
    exact ⟨h1, h2, h3⟩
  · unfold closed
    rw [falls8, begun8]
    exact h.iff hpq (fun t ht => (h2 t ht).1) h1
section
variable {P : Program} {w : World} {K : PySem.W.Frag} {mg : Str → Option Value} {base : Heap}
noncomputable abbrev n08 : List Str := ["_law_script", "_law_d", "_law_soon", "_law_late", "_law_least", "_law_most", "_law_last", "_law_end", "_law_due", "_law_web", "_law_found"]
theorem sc08 : FnScope n08 ["_law_script"] (defScope sLaw) := ⟨rfl, rfl, rfl, by decide +kernel, rfl, by decide +kernel, by decide +kernel⟩
structure TxtE (K : PySem.W.Frag) (mg : Str → Option Value) : Prop where
  max : mg "max" = none
  isi : mg "isinstance" = none
  tuple : mg "tuple" = none
  int : mg "int" = none
theorem kit_tt {K : PySem.W.Frag} : PySem.W.kitOne K (.type "tuple") (.type "tuple") = some true := by
  unfold PySem.W.kitOne
  rw [if_pos (by decide +kernel)]
section
seal L2.PE L2.PA L2.PT L2.PS L2.PSs L2.PG L2.PGs L2.PI L2.PO
theorem ok_law {f C fN fI fK : Addr} {fd fdN fdI fdK : FuncData} (F : Fn K mg "law" sLaw ["_law_script"] f fd) (T : TxtE K mg) (TC : TxtC K mg C)
    (FN : Fn K mg "_law_next" sNext ["_law_dice", "_law_many"] fN fdN) (GN : FnOk P w K mg base CX0 1 fN fdN ["_law_dice", "_law_many"] (spNext K))
    (M : Mk K C fI) (bI : Binds K fdI ["self", "many", "last", "ties", "falls"] []) (GI : FnOk P w K mg base CX0 3 fI fdI ["self", "many", "last", "ties", "falls"] (spInit C))
    (FK : Fn K mg "kept" sP_kept ["web"] fK fdK) (GK : FnOk P w K mg base CX0 6 fK fdK ["web"] (spKept C)) :
    FnOk P w K mg base CX0 7 f fd ["_law_script"] (spLaw K) := by
  refine F.F.ok sc08 (fun vs H Q E h => ?_) (fun cdv A outer s H vs Q E hr h => ?_)
  · obtain ⟨a, ns, rfl, _⟩ := h
    rfl
  · obtain ⟨a, ns, rfl, hS, k⟩ := h
    have hr1 : Room 1 _ := hr.mono (by decide)
    have hr4 : Room 4 _ := hr.mono (by decide)
    refine ⟨_, pss_consA (ps_set (i := 1) sc08.nd rfl (Or.inl rfl) (pe_lst (pa_cons (pv 0) (pa_cons pe_int pa_nil))))
      (pss_consA (ps_set (i := 2) sc08.nd rfl (Or.inl rfl) (pe_op op_add pe_int (pe_call GN hr1 rfl FN.g FN.F.kp FN.b .nil pass0 (pa_cons (pv 1) (pa_cons pe_int pa_nil)))))
      (pss_consA (ps_set (i := 3) sc08.nd rfl (Or.inl rfl) (pe_op op_add (pv 2) (pe_call GN hr1 rfl FN.g FN.F.kp FN.b .nil pass0 (pa_cons (pv 1) (pa_cons pe_int pa_nil)))))
      (pss_consA (ps_set (i := 4) sc08.nd rfl (Or.inl rfl) (pe_op op_sub (pe_call GN hr1 rfl FN.g FN.F.kp FN.b .nil pass0 (pa_cons (pv 1) (pa_cons pe_int pa_nil))) pe_int))
      (pss_consA (ps_set (i := 5) sc08.nd rfl (Or.inl rfl) (pe_op op_add (pv 4) (pe_call GN hr1 rfl FN.g FN.F.kp FN.b .nil pass0 (pa_cons (pv 1) (pa_cons pe_int pa_nil)))))
      (pss_consA (ps_set (i := 6) sc08.nd rfl (Or.inl rfl) (pe_op op_add pe_int (pe_call GN hr1 rfl FN.g FN.F.kp FN.b .nil pass0 (pa_cons (pv 1) (pa_cons pe_int pa_nil)))))
      (pss_consA (ps_set (i := 7) sc08.nd rfl (Or.inl rfl) (pe_op op_add pe_int (pe_call GN hr1 rfl FN.g FN.F.kp FN.b .nil pass0 (pa_cons (pv 1) (pa_cons pe_int pa_nil)))))
      (pss_consA (ps_set (i := 8) sc08.nd rfl (Or.inl rfl) (pe_cmpR op_le (pv 3) (pv 6) (nomark _)))
      (pss_consA (ps_cut (ps_if (pt_cmpR op_lt (pv 5) pe_int (nomark _))
          (pss_one (ps_set (i := 8) sc08.nd rfl (Or.inl rfl) (pe_cmpR op_le (pe_op op_sub (pv 3) (pv 5)) (pv 6) (nomark _))))
          (pss_one (ps_if (pt_cmpR op_gt (pv 4) pe_int (nomark _))
            (pss_one (ps_set (i := 8) sc08.nd rfl (Or.inl rfl) (pe_and (pv 8) (pe_one (pe_cmpR op_le (pe_callB (call_max2 rfl) (by rfl) T.max (by decide +kernel) (pa_cons pe_int (pa_cons (pe_op op_sub (pv 3) (pv 5)) pa_nil))) (pe_op op_sub (pv 2) (pv 4)) (nomark _))))))
            pss_nil))))
      (pss_consA (ps_set (i := 9) sc08.nd rfl (Or.inl rfl) (pe_make M GI hr4 rfl TC.mgC bI .nil pass0 (pa_cons pe_int (pa_cons (pv 6) (pa_cons (pe_lst (pa_cons (pe_tup (pa_cons (pe_op op_sub pe_int (pv 7)) (pa_cons (pv 7) (pa_cons (pv 4) (pa_cons (pv 5) pa_nil))))) pa_nil))
          (pa_cons (pe_lst (pa_cons (pe_tup (pa_cons pe_int (pa_cons (pv 7) (pa_cons (pv 2) (pa_cons (pv 3) pa_nil))))) pa_nil)) pa_nil))))))
      (pss_consA (ps_set (i := 10) sc08.nd rfl (Or.inl rfl) (pe_call GK hr rfl FK.g FK.F.kp FK.b .nil pass0 (pa_cons (pv 9) pa_nil)))
      (pss_one (ps_ret (pe_and (pe_callB call_isinst (by rfl) T.isi (by decide +kernel) (pa_cons (pv 10) (pa_cons (pe_bltn (v := .ty "tuple") rfl T.tuple (by decide +kernel) rfl) pa_nil)))
        (pe_one (pe_cmpR op_eq (pe_ix ix_tup0 (pv 10) pe_int (fun _ _ => rfl)) (pe_ix ix_list0 (pe_lst (pa_cons pe_str (pa_cons pe_str pa_nil))) (pe_callTy call_int1 (by rfl) T.int (by decide +kernel) (pa_cons (pv 8) pa_nil)) (fun _ _ => rfl)) (nomark _)))))))))))))))), ?_⟩
    -- the dice
    refine fun N1 c1 => ⟨_, rfl, by show 2 ≤ sizeLine; decide, fun d hd => c1 _ _ ?_⟩
    have D1 : Dice K a (upd H d (.lst [.ref a, .int 0])) d := ⟨⟨0, upd_same⟩, ⟨ns, hS.same (same_new hd)⟩⟩
    generalize upd H d (.lst [.ref a, .int 0]) = H1 at *
    clear c1 N1
    refine fun N1 c1 => ⟨_, rfl, d, a, _, rfl, D1, by decide, fun r1 H2 a1 b1 D2 _ => ⟨_, _, rfl, rfl, c1 _ _ ?_⟩⟩
    clear c1 N1
    refine fun N1 c1 => ⟨_, rfl, _, rfl, d, a, _, rfl, D2, by decide, fun r2 H3 a2 b2 D3 _ => ⟨_, _, rfl, rfl, c1 _ _ ?_⟩⟩
    clear c1 N1
    refine fun N1 c1 => ⟨_, rfl, d, a, _, rfl, D3, by decide, fun r3 H4 a3 b3 D4 _ => ⟨_, _, rfl, rfl, c1 _ _ ?_⟩⟩
    clear c1 N1
    refine fun N1 c1 => ⟨_, rfl, _, rfl, d, a, _, rfl, D4, by decide, fun r4 H5 a4 b4 D5 _ => ⟨_, _, rfl, rfl, c1 _ _ ?_⟩⟩
    clear c1 N1
    refine fun N1 c1 => ⟨_, rfl, d, a, _, rfl, D5, by decide, fun r5 H6 a5 b5 D6 _ => ⟨_, _, rfl, rfl, c1 _ _ ?_⟩⟩
    clear c1 N1
    refine fun N1 c1 => ⟨_, rfl, d, a, _, rfl, D6, by decide, fun r6 H7 a6 b6 D7 _ => ⟨_, _, rfl, rfl, c1 _ _ ?_⟩⟩
    clear c1 N1
    refine fun N1 c1 => ⟨_, rfl, _, rfl, _, _, rfl, rfl, c1 _ _ ?_⟩
    clear c1 N1
    have e1 : ∃ s, s = 1 + r1 := ⟨_, rfl⟩
    obtain ⟨so, e1⟩ := e1
    have e2 : ∃ s, s = so + r2 := ⟨_, rfl⟩
    obtain ⟨lt, e2⟩ := e2
    have e3 : ∃ s, s = r3 - 12 := ⟨_, rfl⟩
    obtain ⟨p, e3⟩ := e3
    have e4 : ∃ s, s = p + r4 := ⟨_, rfl⟩
    obtain ⟨q, e4⟩ := e4
    have e5 : ∃ s, s = 1 + r5 := ⟨_, rfl⟩
    obtain ⟨L, e5⟩ := e5
    obtain ⟨en, e6⟩ : ∃ e : Nat, (e : Int) = 1 + r6 := ⟨(1 + r6).toNat, by omega⟩
    obtain ⟨x, e7⟩ : ∃ x : Nat, (x : Int) = 3 - en := ⟨(3 - (en : Int)).toNat, by omega⟩
    show (tSeqA _ _) _ [some (.ref a), some (.ref d), some (.int (1 + r1)), some (.int (1 + r1 + r2)), some (.int (r3 - 12)), some (.int (r3 - 12 + r4)), some (.int (1 + r5)), some (.int (1 + r6)), some (.bl (decide (1 + r1 + r2 ≤ 1 + r5))), none, none] H7
    rw [← e1, ← e2, ← e3, ← e4, ← e5, ← e6]
    have hK : MU.K8 en x so lt p q L := ⟨by omega, by omega, by omega, by omega, by omega, by omega, by omega, by omega⟩
    -- due
    refine fun N1 c1 => ⟨fun σ' H' => H' = H7 ∧ ∃ b : Bool, (b = true ↔ MU.Due so lt p q L) ∧ σ' = [some (.ref a), some (.ref d), some (.int so), some (.int lt), some (.int p), some (.int q), some (.int L), some (.int en), some (.bl b), none, none], ?_, fun σ' H' hR => c1 _ _ ?_⟩
    · clear c1
      refine ⟨_, rfl, _, _, rfl, rfl, _, rfl, ?_⟩
      by_cases q0 : q < 0
      · refine iteD q0 ⟨_, rfl, _, rfl, _, _, rfl, rfl, _, rfl, _, _, rfl, rfl, rfl, _, ?_, rfl⟩
        unfold MU.Due
        rw [if_pos q0, decide_eq_true_eq]
      · refine iteDN q0 ⟨_, rfl, _, _, rfl, rfl, _, rfl, ?_⟩
        by_cases p0 : 0 < p
        · refine iteD p0 ⟨_, rfl, _, rfl, ?_⟩
          by_cases l0 : lt ≤ L
          · refine iteD l0 ⟨_, rfl, _, rfl, _, _, rfl, rfl, _, _, rfl, _, rfl, _, rfl, _, _, rfl, rfl, _, _, rfl, rfl, rfl, _, ?_, rfl⟩
            unfold MU.Due
            rw [if_neg q0, if_pos p0, decide_eq_true_eq]
            have em : (if lt - q > 0 then lt - q else 0) = max 0 (lt - q) := by
              split <;> omega
            rw [em]
            exact ⟨fun z => ⟨l0, z⟩, fun z => z.2⟩
          · refine iteDN l0 ⟨rfl, _, ?_, rfl⟩
            unfold MU.Due
            rw [if_neg q0, if_pos p0]
            exact ⟨fun z => (nomatch z), fun z => absurd z.1 l0⟩
        · refine iteDN p0 ⟨rfl, _, ?_, rfl⟩
          unfold MU.Due
          rw [if_neg q0, if_neg p0, decide_eq_true_eq]
    · obtain ⟨rfl, due, hdue, rfl⟩ := hR
      clear c1 N1
      -- the web
      refine fun N1 c1 => ⟨_, rfl, _, rfl, _, _, rfl, rfl, _, rfl, _, rfl, _, rfl, by show 4 ≤ sizeLine; decide, fun t1 ht1 => ⟨by show 1 ≤ sizeLine; decide, fun l1 hl1 => ⟨_, rfl, _, rfl, _, rfl, by show 4 ≤ sizeLine; decide, fun t2 ht2 => ⟨by show 1 ≤ sizeLine; decide, fun l2 hl2 => fun wb dx hwb hdx hne => ?_⟩⟩⟩⟩
      have s2 := same_new (o := .lst [.ref t1]) hl1
      have s3 := same_new (o := .tup [.int 0, .int (en : Int), .int so, .int lt]) ht2
      have s4 := same_new (o := .lst [.ref t2]) hl2
      have s5 : Same _ (upd (upd _ dx (.own wb)) wb (.ins C dx [])) := fun b o e => by
        rw [upd_ne (ne_of_none e hwb), upd_ne (ne_of_none e hdx)]
        exact e
      have RT : RowsAt _ l1 [[3 - (en : Int), (en : Int), p, q]] := ⟨[t1], ((s3.trans s4).trans s5) _ _ upd_same, .cons ((((s2.trans s3).trans s4).trans s5) _ _ upd_same) .nil⟩
      rw [← e7] at RT
      have RF : RowsAt _ l2 [[0, (en : Int), so, lt]] := ⟨[t2], s5 _ _ upd_same, .cons ((s4.trans s5) _ _ upd_same) .nil⟩
      have hok := webOk8 hK (by omega) (by omega) (by omega)
      refine ⟨wb, dx, _, L, l1, l2, _, _, rfl, upd_same, RT, RF, hok, fun H8 W8 k8 => ⟨rfl, c1 _ _ ?_⟩⟩
      clear c1 N1 RT RF s2 s3 s4 s5
      obtain ⟨Te, hE, hbar⟩ := kept8 hK (by omega)
      refine fun N1 c1 => ⟨_, rfl, wb, 3, L, _, _, Te, rfl, W8, hok, hE, fun r H9 hr9 s9 => ⟨fun b hb hP => c1 _ _ ?_, fun hb hP => c1 _ _ ?_⟩⟩
      · clear c1 N1
        have hd : due = false := by
          cases due with
          | false => rfl
          | true =>
            have := hbar.mpr (hdue.mp rfl)
            rw [this] at hb
            cases hb
        subst hd
        obtain ⟨l, ns', ps, hr0, _⟩ := hP
        refine ⟨_, rfl, _, _, _, _, rfl, .tup hr0, kit_tt, _, rfl, iteT ?_⟩
        refine ⟨_, rfl, rdT hr0 rfl ⟨by show 2 ≤ sizeLine; decide, fun lp hlp => ⟨_, rfl, .inr ⟨_, rfl, lp, _, _, _, rfl, rfl, upd_same, rfl, rfl, ?_⟩⟩⟩⟩
        exact bl_of (k _) rfl
      · clear c1 N1
        have hd : due = true := hdue.mpr (hbar.mp hb)
        subst hd
        obtain ⟨l, lw, ps, qs, L', M', hr0, _⟩ := hP
        refine ⟨_, rfl, _, _, _, _, rfl, .tup hr0, kit_tt, _, rfl, iteT ?_⟩
        refine ⟨_, rfl, rdT hr0 rfl ⟨by show 2 ≤ sizeLine; decide, fun lp hlp => ⟨_, rfl, .inr ⟨_, rfl, lp, _, _, _, rfl, rfl, upd_same, rfl, rfl, ?_⟩⟩⟩⟩
        exact bl_of (k _) rfl
end
end
end W

set_option Elab.async false
set_option linter.all false
set_option maxRecDepth 100000
set_option maxHeartbeats 4000000
namespace W
open PySem L2
section
variable {K : PySem.W.Frag} {mg : Str → Option Value} {h : Heap}
theorem fn_mk {x : Str} {st : Stmt} {ps : List Str} {f : Addr} {oc : Value} {od an : Option Addr} {osl : Array (Option Value)} {kV doc pm cdv ct : Value} (X : K.In h) (G : h.Ns mainGlobals mg) (a : PySem.W.nsIn K mainGlobals x = some (some (.ref f)))
    (l : K.lookup f = some ⟨oc, od, .func (PySem.W.fnOf x x (defArgs st) (defBody st) (defScope st) .none kV doc pm an cdv ct), osl⟩) (c : PySem.W.codeIn K cdv x = true) (k : PySem.W.keepIn K (.ref f) = true)
    (hb : ∀ (kV doc pm : Value) (an : Option Addr) (cdv ct : Value) (us : List Value), us.length = ps.length → bindArgs (PySem.W.fnOf x x (defArgs st) (defBody st) (defScope st) .none kV doc pm an cdv ct) ⟨us, []⟩ = pure (ps.zip us)) :
    Fn K mg x st ps f (PySem.W.fnOf x x (defArgs st) (defBody st) (defScope st) .none kV doc pm an cdv ct) :=
  have F := fun_mk (st := st) l c k
  ⟨F, F.binds hb, PySem.W.mg_of X G a⟩
structure MtK (K : PySem.W.Frag) (C : Addr) (m q : Str) (st : Stmt) (ps : List Str) (f : Addr) (fd : FuncData) : Prop where
  F : Fun K m q st f fd
  b : Binds K fd ps []
  a : PySem.W.findIn K (.ref C) m = some (some (.ref f))
  i : PySem.W.isFn K (.ref f) = true
theorem MtK.meth {C f : Addr} {m q : Str} {st : Stmt} {ps : List Str} {fd : FuncData} (h : MtK K C m q st ps f fd) : Meth K C m f := ⟨h.a, h.i, h.F.kp⟩
theorem mt_mk {C : Addr} {x q : Str} {st : Stmt} {ps : List Str} {f : Addr} {oc : Value} {od an : Option Addr} {osl : Array (Option Value)} {kV doc pm cdv ct : Value} (a : PySem.W.findIn K (.ref C) x = some (some (.ref f))) (i : PySem.W.isFn K (.ref f) = true)
    (l : K.lookup f = some ⟨oc, od, .func (PySem.W.fnOf x q (defArgs st) (defBody st) (defScope st) .none kV doc pm an cdv ct), osl⟩) (c : PySem.W.codeIn K cdv q = true) (k : PySem.W.keepIn K (.ref f) = true)
    (hb : ∀ (kV doc pm : Value) (an : Option Addr) (cdv ct : Value) (us : List Value), us.length = ps.length → bindArgs (PySem.W.fnOf x q (defArgs st) (defBody st) (defScope st) .none kV doc pm an cdv ct) ⟨us, []⟩ = pure (ps.zip us)) :
    MtK K C x q st ps f (PySem.W.fnOf x q (defArgs st) (defBody st) (defScope st) .none kV doc pm an cdv ct) :=
  have F := fun_mk (st := st) l c k
  ⟨F, F.binds hb, a, i⟩
structure WebK (K : PySem.W.Frag) (mg : Str → Option Value) (C : Addr) : Prop where
  tc : TxtC K mg C
  mk_ : PySem.W.makesIn K C = true
  kc : PySem.W.keepIn K (.ref C) = true
theorem web_mk {C : Addr} (X : K.In h) (G : h.Ns mainGlobals mg) (aC : PySem.W.nsIn K mainGlobals "Web" = some (some (.ref C))) (pg : PySem.W.plainGet K C Str.empty = true) (hd : PySem.W.hasDictIn K C = true) (po : PySem.W.plainOver K C = true)
    (sa : PySem.W.findIn K (.ref C) "__setattr__" = some (some (.builtin "object.__setattr__"))) (mk : PySem.W.makesIn K C = true) (kc : PySem.W.keepIn K (.ref C) = true)
    (n1 : PySem.W.findIn K (.ref C) "many" = some none) (n2 : PySem.W.findIn K (.ref C) "last" = some none) (n3 : PySem.W.findIn K (.ref C) "told_ties" = some none) (n4 : PySem.W.findIn K (.ref C) "told_falls" = some none) : WebK K mg C :=
  ⟨⟨⟨pg, hd, po, sa⟩, n1, n2, n3, n4, PySem.W.mg_of X G aC⟩, mk, kc⟩
theorem txtW_mk {t1 t2 t3 t4 : Tok} (X : K.In h) (G : h.Ns mainGlobals mg) (m1 : PySem.W.nsIn K mainGlobals "MOST_MOMENTS" = some (some (.int 8 t1))) (m2 : PySem.W.nsIn K mainGlobals "LATEST_LAST" = some (some (.int 60 t2)))
    (m3 : PySem.W.nsIn K mainGlobals "WIDEST_SPAN" = some (some (.int 60 t3))) (m4 : PySem.W.nsIn K mainGlobals "LONGEST_FALL" = some (some (.int 60 t4))) (z : PySem.W.nsIn K mainGlobals "list" = some none) : TxtW mg :=
  ⟨⟨t1, PySem.W.mg_of X G m1⟩, ⟨t2, PySem.W.mg_of X G m2⟩, ⟨t3, PySem.W.mg_of X G m3⟩, ⟨t4, PySem.W.mg_of X G m4⟩, PySem.W.mg_none_of X G z⟩
structure CloK (K : PySem.W.Frag) (mg : Str → Option Value) (C : Addr) : Prop where
  tc : TxtCl K mg C
  mk_ : PySem.W.makesIn K C = true
  kc : PySem.W.keepIn K (.ref C) = true
  g : mg "Closing" = some (.ref C)
theorem clo_mk {C : Addr} (X : K.In h) (G : h.Ns mainGlobals mg) (aC : PySem.W.nsIn K mainGlobals "Closing" = some (some (.ref C))) (pg : PySem.W.plainGet K C Str.empty = true) (hd : PySem.W.hasDictIn K C = true) (po : PySem.W.plainOver K C = true)
    (sa : PySem.W.findIn K (.ref C) "__setattr__" = some (some (.builtin "object.__setattr__"))) (mk : PySem.W.makesIn K C = true) (kc : PySem.W.keepIn K (.ref C) = true)
    (n1 : PySem.W.findIn K (.ref C) "many" = some none) (n2 : PySem.W.findIn K (.ref C) "by_end" = some none) (n3 : PySem.W.findIn K (.ref C) "rows" = some none) (n4 : PySem.W.findIn K (.ref C) "best" = some none) (n5 : PySem.W.findIn K (.ref C) "bar" = some none)
    (z1 : PySem.W.nsIn K mainGlobals "len" = some none) (z2 : PySem.W.nsIn K mainGlobals "range" = some none) : CloK K mg C :=
  ⟨⟨⟨pg, hd, po, sa⟩, n1, n2, n3, n4, n5, PySem.W.mg_none_of X G z1, PySem.W.mg_none_of X G z2⟩, mk, kc, PySem.W.mg_of X G aC⟩
theorem txtU_mk {u : Addr} (X : K.In h) (G : h.Ns mainGlobals mg) (a : PySem.W.nsIn K mainGlobals "USED_KINDS" = some (some (.ref u))) (t : TabK K u usedD) (z : PySem.W.nsIn K mainGlobals "tuple" = some none) : TxtU K mg :=
  ⟨⟨u, PySem.W.mg_of X G a, t⟩, PySem.W.mg_none_of X G z⟩
end
end W

namespace L2
theorem lenS {α : Type} {n : Nat} : ∀ {us : List α}, us.length = n + 1 → ∃ a t, us = a :: t ∧ t.length = n
  | a :: t, h => ⟨a, t, rfl, Nat.succ.inj h⟩
theorem len1 {α : Type} (us : List α) (h : us.length = 1) : ∃ a, us = [a] := by
  obtain ⟨a, t0, rfl, h0⟩ := lenS h
  obtain rfl := List.eq_nil_of_length_eq_zero h0
  exact ⟨a, rfl⟩
theorem len2 {α : Type} (us : List α) (h : us.length = 2) : ∃ a b, us = [a, b] := by
  obtain ⟨a, t0, rfl, h0⟩ := lenS h
  obtain ⟨b, t1, rfl, h1⟩ := lenS h0
  obtain rfl := List.eq_nil_of_length_eq_zero h1
  exact ⟨a, b, rfl⟩
theorem len3 {α : Type} (us : List α) (h : us.length = 3) : ∃ a b c, us = [a, b, c] := by
  obtain ⟨a, t0, rfl, h0⟩ := lenS h
  obtain ⟨b, t1, rfl, h1⟩ := lenS h0
  obtain ⟨c, t2, rfl, h2⟩ := lenS h1
  obtain rfl := List.eq_nil_of_length_eq_zero h2
  exact ⟨a, b, c, rfl⟩
theorem len4 {α : Type} (us : List α) (h : us.length = 4) : ∃ a b c d, us = [a, b, c, d] := by
  obtain ⟨a, t0, rfl, h0⟩ := lenS h
  obtain ⟨b, t1, rfl, h1⟩ := lenS h0
  obtain ⟨c, t2, rfl, h2⟩ := lenS h1
  obtain ⟨d, t3, rfl, h3⟩ := lenS h2
  obtain rfl := List.eq_nil_of_length_eq_zero h3
  exact ⟨a, b, c, d, rfl⟩
theorem len5 {α : Type} (us : List α) (h : us.length = 5) : ∃ a b c d e, us = [a, b, c, d, e] := by
  obtain ⟨a, t0, rfl, h0⟩ := lenS h
  obtain ⟨b, t1, rfl, h1⟩ := lenS h0
  obtain ⟨c, t2, rfl, h2⟩ := lenS h1
  obtain ⟨d, t3, rfl, h3⟩ := lenS h2
  obtain ⟨e, t4, rfl, h4⟩ := lenS h3
  obtain rfl := List.eq_nil_of_length_eq_zero h4
  exact ⟨a, b, c, d, e, rfl⟩
end L2

/-- these names are taken so that the head lays no twins of its fragments: the proof does without them, and they are half of the compiled text -/
noncomputable def PySem.W.Fast.tw9330420050375004506 : Unit := ()
noncomputable def PySem.W.Fast.tw13497876352341460979 : Unit := ()
noncomputable def PySem.W.Fast.tw6487764342960378095 : Unit := ()
noncomputable def PySem.W.Fast.tw18394216669414698593 : Unit := ()
noncomputable def PySem.W.Fast.tw7133003220692517719 : Unit := ()
noncomputable def PySem.W.Fast.tw3662552141787745806 : Unit := ()
noncomputable def PySem.W.Fast.tw13957916091077110010 : Unit := ()
noncomputable def PySem.W.Fast.tw2730789729621119127 : Unit := ()
noncomputable def PySem.W.Fast.tw1985509336916783561 : Unit := ()
noncomputable def PySem.W.Fast.tw4103693657642402463 : Unit := ()
noncomputable def PySem.W.Fast.tw5001714457077476650 : Unit := ()
noncomputable def PySem.W.Fast.tw12190138676997193112 : Unit := ()
noncomputable def PySem.W.Fast.tw7054630300565772739 : Unit := ()
noncomputable def PySem.W.Fast.tw5182855499854963407 : Unit := ()
noncomputable def PySem.W.Fast.tw879568113355511763 : Unit := ()
noncomputable def PySem.W.Fast.tw10189038614439813346 : Unit := ()
noncomputable def PySem.W.Fast.tw18242749903372082690 : Unit := ()
noncomputable def PySem.W.Fast.tw1745794413763501817 : Unit := ()
noncomputable def PySem.W.Fast.tw15469949293671568570 : Unit := ()
noncomputable def PySem.W.Fast.tw7439958949492533469 : Unit := ()
noncomputable def PySem.W.Fast.tw4570790371629296200 : Unit := ()
noncomputable def PySem.W.Fast.tw14575561080251061694 : Unit := ()
noncomputable def PySem.W.Fast.tw10199191823257332464 : Unit := ()
noncomputable def PySem.W.Fast.tw14012017368926077567 : Unit := ()
noncomputable def PySem.W.Fast.tw6539696654809198008 : Unit := ()
noncomputable def PySem.W.Fast.tw7724695187304831 : Unit := ()
noncomputable def PySem.W.Fast.tw7022664222151957630 : Unit := ()
noncomputable def PySem.W.Fast.tw1665285264495959215 : Unit := ()
noncomputable def PySem.W.Fast.tw16291854052069562988 : Unit := ()
noncomputable def PySem.W.Fast.tw180920468897184040 : Unit := ()
noncomputable def PySem.W.Fast.tw2679471082910096970 : Unit := ()
noncomputable def PySem.W.Fast.tw7563449636378839389 : Unit := ()
noncomputable def PySem.W.Fast.tw6769904999463988531 : Unit := ()
noncomputable def PySem.W.Fast.tw7219586774525211302 : Unit := ()
noncomputable def PySem.W.Fast.tw10049895006899871838 : Unit := ()
noncomputable def PySem.W.Fast.tw12240137594755361282 : Unit := ()
noncomputable def PySem.W.Fast.tw17170736918998060979 : Unit := ()
noncomputable def PySem.W.Fast.tw442259057152689860 : Unit := ()
noncomputable def PySem.W.Fast.tw7783959754138274540 : Unit := ()
noncomputable def PySem.W.Fast.tw5336194704874309328 : Unit := ()
noncomputable def PySem.W.Fast.tw7632625947821431932 : Unit := ()
noncomputable def PySem.W.Fast.tw6879875183310321833 : Unit := ()
noncomputable def PySem.W.Fast.tw2660170624189324638 : Unit := ()
noncomputable def PySem.W.Fast.tw7390780938047459951 : Unit := ()
noncomputable def PySem.W.Fast.tw7364261319279530561 : Unit := ()
noncomputable def PySem.W.Fast.tw16625134891082751834 : Unit := ()
noncomputable def PySem.W.Fast.tw9963257147923102583 : Unit := ()
noncomputable def PySem.W.Fast.tw12376528240760361182 : Unit := ()
noncomputable def PySem.W.Fast.tw17065735571696181539 : Unit := ()
noncomputable def PySem.W.Fast.tw3239762693293461417 : Unit := ()
noncomputable def PySem.W.Fast.tw14638547545495737916 : Unit := ()
noncomputable def PySem.W.Fast.tw6827323249522488171 : Unit := ()
noncomputable def PySem.W.Fast.tw17435371417602640932 : Unit := ()
noncomputable def PySem.W.Fast.tw4063720596571953336 : Unit := ()
noncomputable def PySem.W.Fast.tw3019523380846702777 : Unit := ()
noncomputable def PySem.W.Fast.tw12934400196064454480 : Unit := ()
noncomputable def PySem.W.Fast.tw12007660182326292030 : Unit := ()
noncomputable def PySem.W.Fast.tw5771094887667669856 : Unit := ()
noncomputable def PySem.W.Fast.tw9715532782370196163 : Unit := ()
noncomputable def PySem.W.Fast.tw10909316437710269539 : Unit := ()
noncomputable def PySem.W.Fast.tw4157779297189083418 : Unit := ()
noncomputable def PySem.W.Fast.tw1639063155117155198 : Unit := ()
noncomputable def PySem.W.Fast.tw12589033949095303358 : Unit := ()
noncomputable def PySem.W.Fast.tw13278698765202011647 : Unit := ()
noncomputable def PySem.W.Fast.tw3282236842284405025 : Unit := ()
noncomputable def PySem.W.Fast.tw14856680488858989679 : Unit := ()
noncomputable def PySem.W.Fast.tw9528210401458100652 : Unit := ()
noncomputable def PySem.W.Fast.tw3736791512166159454 : Unit := ()
noncomputable def PySem.W.Fast.tw6665745342832777494 : Unit := ()
noncomputable def PySem.W.Fast.tw4448039364681840562 : Unit := ()
noncomputable def PySem.W.Fast.tw3750761519696221310 : Unit := ()
noncomputable def PySem.W.Fast.tw11290372008349061254 : Unit := ()
noncomputable def PySem.W.Fast.tw3366737915908710386 : Unit := ()
noncomputable def PySem.W.Fast.tw7767420221449677110 : Unit := ()
noncomputable def PySem.W.Fast.tw18279159131788225062 : Unit := ()
noncomputable def PySem.W.Fast.tw4976367466953917126 : Unit := ()
noncomputable def PySem.W.Fast.tw16814400455607809951 : Unit := ()
noncomputable def PySem.W.Fast.tw6121927765344162199 : Unit := ()
noncomputable def PySem.W.Fast.tw11711865358495569882 : Unit := ()
noncomputable def PySem.W.Fast.tw606094648401425216 : Unit := ()
noncomputable def PySem.W.Fast.tw13791619949819243509 : Unit := ()
noncomputable def PySem.W.Fast.tw5524740953851809572 : Unit := ()
noncomputable def PySem.W.Fast.tw10066349706187122522 : Unit := ()
noncomputable def PySem.W.Fast.tw589541356891571489 : Unit := ()
noncomputable def PySem.W.Fast.tw8407247046011942506 : Unit := ()
noncomputable def PySem.W.Fast.tw893140382671779925 : Unit := ()
noncomputable def PySem.W.Fast.tw6602853571536089802 : Unit := ()
noncomputable def PySem.W.Fast.tw3088938017864288066 : Unit := ()
noncomputable def PySem.W.Fast.tw11839665989383337783 : Unit := ()
noncomputable def PySem.W.Fast.tw5847241403835481476 : Unit := ()
noncomputable def PySem.W.Fast.tw7803508611648631604 : Unit := ()
set_option Elab.async false
open PySem PySem.W PyProof.Rows
set_option maxRecDepth 100000 in
set_option maxHeartbeats 0 in
theorem PySem.Challenge.cw_momentties_k08_one_fall_one_tie_holds : PySem.Challenge.rw_momentties_k08_one_fall_one_tie.Holds := by
  w_on; o_law; k_head; (case hw => w_witness2)
  k_fill
  refine L2.walk_ofK (l := PySem.Challenge.rw_momentties_k08_one_fall_one_tie) (n := 63) (k := 7) (x := "_law_script") (CX := L2.CX0) (sp := _root_.W.spLaw) rfl (by decide) rfl ⟨rfl, by decide, by decide⟩ (fun w h Y => PySem.W.kIn_of Y) ?F (fun K H a ns hl hO hS => ⟨a, ns, rfl, _root_.W.scr_of hO hS, fun _ => rfl⟩) (fun _ _ _ _ z => z)
  case F =>
    intro w mg fa h KX G hmg
    have F_room_bounds : ∃ f fd, _root_.W.Fn (L2.KOf KX) mg "room_bounds" _root_.W.sP_room_bounds ["web"] f fd := by
      dsimp only [L2.KOf]
      refine' ⟨_, _, _root_.W.fn_mk KX G ?a ?l ?c ?k ?b⟩
      (case a => k_is); (case l => k_is); (case c => k_is); (case k => k_is); (case b => exact fun _ _ _ _ _ _ us hl => by obtain ⟨a, rfl⟩ := L2.len1 us hl; rfl)
    obtain ⟨f_room_bounds, d_room_bounds, F_room_bounds⟩ := F_room_bounds
    have F_span_bounds : ∃ f fd, _root_.W.Fn (L2.KOf KX) mg "span_bounds" _root_.W.sP_span_bounds ["spans"] f fd := by
      dsimp only [L2.KOf]
      refine' ⟨_, _, _root_.W.fn_mk KX G ?a ?l ?c ?k ?b⟩
      (case a => k_is); (case l => k_is); (case c => k_is); (case k => k_is); (case b => exact fun _ _ _ _ _ _ us hl => by obtain ⟨a, rfl⟩ := L2.len1 us hl; rfl)
    obtain ⟨f_span_bounds, d_span_bounds, F_span_bounds⟩ := F_span_bounds
    have F_bounds_with : ∃ f fd, _root_.W.Fn (L2.KOf KX) mg "bounds_with" _root_.W.sP_bounds_with ["web", "ties"] f fd := by
      dsimp only [L2.KOf]
      refine' ⟨_, _, _root_.W.fn_mk KX G ?a ?l ?c ?k ?b⟩
      (case a => k_is); (case l => k_is); (case c => k_is); (case k => k_is); (case b => exact fun _ _ _ _ _ _ us hl => by obtain ⟨a, b, rfl⟩ := L2.len2 us hl; rfl)
    obtain ⟨f_bounds_with, d_bounds_with, F_bounds_with⟩ := F_bounds_with
    have F_told_bounds : ∃ f fd, _root_.W.Fn (L2.KOf KX) mg "told_bounds" _root_.W.sP_told_bounds ["web"] f fd := by
      dsimp only [L2.KOf]
      refine' ⟨_, _, _root_.W.fn_mk KX G ?a ?l ?c ?k ?b⟩
      (case a => k_is); (case l => k_is); (case c => k_is); (case k => k_is); (case b => exact fun _ _ _ _ _ _ us hl => by obtain ⟨a, rfl⟩ := L2.len1 us hl; rfl)
    obtain ⟨f_told_bounds, d_told_bounds, F_told_bounds⟩ := F_told_bounds
    have F_falls_by_end : ∃ f fd, _root_.W.Fn (L2.KOf KX) mg "falls_by_end" _root_.W.sP_falls_by_end ["web"] f fd := by
      dsimp only [L2.KOf]
      refine' ⟨_, _, _root_.W.fn_mk KX G ?a ?l ?c ?k ?b⟩
      (case a => k_is); (case l => k_is); (case c => k_is); (case k => k_is); (case b => exact fun _ _ _ _ _ _ us hl => by obtain ⟨a, rfl⟩ := L2.len1 us hl; rfl)
    obtain ⟨f_falls_by_end, d_falls_by_end, F_falls_by_end⟩ := F_falls_by_end
    have F_by_sum : ∃ f fd, _root_.W.Fn (L2.KOf KX) mg "by_sum" _root_.W.sP_by_sum ["first", "second"] f fd := by
      dsimp only [L2.KOf]
      refine' ⟨_, _, _root_.W.fn_mk KX G ?a ?l ?c ?k ?b⟩
      (case a => k_is); (case l => k_is); (case c => k_is); (case k => k_is); (case b => exact fun _ _ _ _ _ _ us hl => by obtain ⟨a, b, rfl⟩ := L2.len2 us hl; rfl)
    obtain ⟨f_by_sum, d_by_sum, F_by_sum⟩ := F_by_sum
    have F_by_late : ∃ f fd, _root_.W.Fn (L2.KOf KX) mg "by_late" _root_.W.sP_by_late ["falls", "tie"] f fd := by
      dsimp only [L2.KOf]
      refine' ⟨_, _, _root_.W.fn_mk KX G ?a ?l ?c ?k ?b⟩
      (case a => k_is); (case l => k_is); (case c => k_is); (case k => k_is); (case b => exact fun _ _ _ _ _ _ us hl => by obtain ⟨a, b, rfl⟩ := L2.len2 us hl; rfl)
    obtain ⟨f_by_late, d_by_late, F_by_late⟩ := F_by_late
    have F_by_soon : ∃ f fd, _root_.W.Fn (L2.KOf KX) mg "by_soon" _root_.W.sP_by_soon ["falls", "tie"] f fd := by
      dsimp only [L2.KOf]
      refine' ⟨_, _, _root_.W.fn_mk KX G ?a ?l ?c ?k ?b⟩
      (case a => k_is); (case l => k_is); (case c => k_is); (case k => k_is); (case b => exact fun _ _ _ _ _ _ us hl => by obtain ⟨a, b, rfl⟩ := L2.len2 us hl; rfl)
    obtain ⟨f_by_soon, d_by_soon, F_by_soon⟩ := F_by_soon
    have F_by_sure : ∃ f fd, _root_.W.Fn (L2.KOf KX) mg "by_sure" _root_.W.sP_by_sure ["falls", "wait"] f fd := by
      dsimp only [L2.KOf]
      refine' ⟨_, _, _root_.W.fn_mk KX G ?a ?l ?c ?k ?b⟩
      (case a => k_is); (case l => k_is); (case c => k_is); (case k => k_is); (case b => exact fun _ _ _ _ _ _ us hl => by obtain ⟨a, b, rfl⟩ := L2.len2 us hl; rfl)
    obtain ⟨f_by_sure, d_by_sure, F_by_sure⟩ := F_by_sure
    have F_by_back : ∃ f fd, _root_.W.Fn (L2.KOf KX) mg "by_back" _root_.W.sP_by_back ["falls", "wait", "tie"] f fd := by
      dsimp only [L2.KOf]
      refine' ⟨_, _, _root_.W.fn_mk KX G ?a ?l ?c ?k ?b⟩
      (case a => k_is); (case l => k_is); (case c => k_is); (case k => k_is); (case b => exact fun _ _ _ _ _ _ us hl => by obtain ⟨a, b, c, rfl⟩ := L2.len3 us hl; rfl)
    obtain ⟨f_by_back, d_by_back, F_by_back⟩ := F_by_back
    have F_by_cross : ∃ f fd, _root_.W.Fn (L2.KOf KX) mg "by_cross" _root_.W.sP_by_cross ["falls", "wait"] f fd := by
      dsimp only [L2.KOf]
      refine' ⟨_, _, _root_.W.fn_mk KX G ?a ?l ?c ?k ?b⟩
      (case a => k_is); (case l => k_is); (case c => k_is); (case k => k_is); (case b => exact fun _ _ _ _ _ _ us hl => by obtain ⟨a, b, rfl⟩ := L2.len2 us hl; rfl)
    obtain ⟨f_by_cross, d_by_cross, F_by_cross⟩ := F_by_cross
    have F_what_follows : ∃ f fd, _root_.W.Fn (L2.KOf KX) mg "what_follows" _root_.W.sP_what_follows ["falls", "word", "used"] f fd := by
      dsimp only [L2.KOf]
      refine' ⟨_, _, _root_.W.fn_mk KX G ?a ?l ?c ?k ?b⟩
      (case a => k_is); (case l => k_is); (case c => k_is); (case k => k_is); (case b => exact fun _ _ _ _ _ _ us hl => by obtain ⟨a, b, c, rfl⟩ := L2.len3 us hl; rfl)
    obtain ⟨f_what_follows, d_what_follows, F_what_follows⟩ := F_what_follows
    have F_bars_every_hand : ∃ f fd, _root_.W.Fn (L2.KOf KX) mg "bars_every_hand" _root_.W.sP_bars_every_hand ["what"] f fd := by
      dsimp only [L2.KOf]
      refine' ⟨_, _, _root_.W.fn_mk KX G ?a ?l ?c ?k ?b⟩
      (case a => k_is); (case l => k_is); (case c => k_is); (case k => k_is); (case b => exact fun _ _ _ _ _ _ us hl => by obtain ⟨a, rfl⟩ := L2.len1 us hl; rfl)
    obtain ⟨f_bars_every_hand, d_bars_every_hand, F_bars_every_hand⟩ := F_bars_every_hand
    have C_Closing : ∃ C, _root_.W.CloK (L2.KOf KX) mg C ∧ PySem.W.nsIn (L2.KOf KX) mainGlobals "Closing" = some (some (.ref C)) := by
      dsimp only [L2.KOf]
      refine' ⟨_, _root_.W.clo_mk KX G ?aC ?pg ?hd ?po ?sa ?mk ?kc ?n1 ?n2 ?n3 ?n4 ?n5 ?z1 ?z2, ?aD⟩
      (case aC => k_is); (case pg => k_is); (case hd => k_is); (case po => k_is); (case sa => k_is); (case mk => k_is); (case kc => k_is); (case n1 => k_is); (case n2 => k_is); (case n3 => k_is); (case n4 => k_is); (case n5 => k_is); (case z1 => k_is); (case z2 => k_is); (case aD => k_is)
    obtain ⟨c_Closing, C_Closing, a_Closing⟩ := C_Closing
    have N_init : ∃ f fd, _root_.W.MtK (L2.KOf KX) c_Closing "__init__" "Closing.__init__" _root_.W.sC_Closing_init ["self", "web"] f fd := by
      have e : ∃ C f fd, PySem.W.nsIn (L2.KOf KX) mainGlobals "Closing" = some (some (.ref C)) ∧ _root_.W.MtK (L2.KOf KX) C "__init__" "Closing.__init__" _root_.W.sC_Closing_init ["self", "web"] f fd := by
        dsimp only [L2.KOf]
        refine' ⟨_, _, _, ?aC, _root_.W.mt_mk ?a ?i ?l ?c ?k ?b⟩
        (case aC => k_is); (case a => k_is); (case i => k_is); (case l => k_is); (case c => k_is); (case k => k_is); (case b => exact fun _ _ _ _ _ _ us hl => by obtain ⟨a, b, rfl⟩ := L2.len2 us hl; rfl)
      obtain ⟨C, f, fd, e1, e2⟩ := e
      rw [a_Closing] at e1
      cases e1
      exact ⟨f, fd, e2⟩
    obtain ⟨n_init, o_init, N_init⟩ := N_init
    have N_is_news : ∃ f fd, _root_.W.MtK (L2.KOf KX) c_Closing "is_news" "Closing.is_news" _root_.W.sC_Closing_is_news ["self", "what"] f fd := by
      have e : ∃ C f fd, PySem.W.nsIn (L2.KOf KX) mainGlobals "Closing" = some (some (.ref C)) ∧ _root_.W.MtK (L2.KOf KX) C "is_news" "Closing.is_news" _root_.W.sC_Closing_is_news ["self", "what"] f fd := by
        dsimp only [L2.KOf]
        refine' ⟨_, _, _, ?aC, _root_.W.mt_mk ?a ?i ?l ?c ?k ?b⟩
        (case aC => k_is); (case a => k_is); (case i => k_is); (case l => k_is); (case c => k_is); (case k => k_is); (case b => exact fun _ _ _ _ _ _ us hl => by obtain ⟨a, b, rfl⟩ := L2.len2 us hl; rfl)
      obtain ⟨C, f, fd, e1, e2⟩ := e
      rw [a_Closing] at e1
      cases e1
      exact ⟨f, fd, e2⟩
    obtain ⟨n_is_news, o_is_news, N_is_news⟩ := N_is_news
    have N_take : ∃ f fd, _root_.W.MtK (L2.KOf KX) c_Closing "take" "Closing.take" _root_.W.sC_Closing_take ["self", "what", "word", "used"] f fd := by
      have e : ∃ C f fd, PySem.W.nsIn (L2.KOf KX) mainGlobals "Closing" = some (some (.ref C)) ∧ _root_.W.MtK (L2.KOf KX) C "take" "Closing.take" _root_.W.sC_Closing_take ["self", "what", "word", "used"] f fd := by
        dsimp only [L2.KOf]
        refine' ⟨_, _, _, ?aC, _root_.W.mt_mk ?a ?i ?l ?c ?k ?b⟩
        (case aC => k_is); (case a => k_is); (case i => k_is); (case l => k_is); (case c => k_is); (case k => k_is); (case b => exact fun _ _ _ _ _ _ us hl => by obtain ⟨a, b, c, d, rfl⟩ := L2.len4 us hl; rfl)
      obtain ⟨C, f, fd, e1, e2⟩ := e
      rw [a_Closing] at e1
      cases e1
      exact ⟨f, fd, e2⟩
    obtain ⟨n_take, o_take, N_take⟩ := N_take
    have N_draw : ∃ f fd, _root_.W.MtK (L2.KOf KX) c_Closing "draw" "Closing.draw" _root_.W.sC_Closing_draw ["self", "word", "used"] f fd := by
      have e : ∃ C f fd, PySem.W.nsIn (L2.KOf KX) mainGlobals "Closing" = some (some (.ref C)) ∧ _root_.W.MtK (L2.KOf KX) C "draw" "Closing.draw" _root_.W.sC_Closing_draw ["self", "word", "used"] f fd := by
        dsimp only [L2.KOf]
        refine' ⟨_, _, _, ?aC, _root_.W.mt_mk ?a ?i ?l ?c ?k ?b⟩
        (case aC => k_is); (case a => k_is); (case i => k_is); (case l => k_is); (case c => k_is); (case k => k_is); (case b => exact fun _ _ _ _ _ _ us hl => by obtain ⟨a, b, c, rfl⟩ := L2.len3 us hl; rfl)
      obtain ⟨C, f, fd, e1, e2⟩ := e
      rw [a_Closing] at e1
      cases e1
      exact ⟨f, fd, e2⟩
    obtain ⟨n_draw, o_draw, N_draw⟩ := N_draw
    have N_known_of : ∃ f fd, _root_.W.MtK (L2.KOf KX) c_Closing "known_of" "Closing.known_of" _root_.W.sC_Closing_known_of ["self", "kind", "a"] f fd := by
      have e : ∃ C f fd, PySem.W.nsIn (L2.KOf KX) mainGlobals "Closing" = some (some (.ref C)) ∧ _root_.W.MtK (L2.KOf KX) C "known_of" "Closing.known_of" _root_.W.sC_Closing_known_of ["self", "kind", "a"] f fd := by
        dsimp only [L2.KOf]
        refine' ⟨_, _, _, ?aC, _root_.W.mt_mk ?a ?i ?l ?c ?k ?b⟩
        (case aC => k_is); (case a => k_is); (case i => k_is); (case l => k_is); (case c => k_is); (case k => k_is); (case b => exact fun _ _ _ _ _ _ us hl => by obtain ⟨a, b, c, rfl⟩ := L2.len3 us hl; rfl)
      obtain ⟨C, f, fd, e1, e2⟩ := e
      rw [a_Closing] at e1
      cases e1
      exact ⟨f, fd, e2⟩
    obtain ⟨n_known_of, o_known_of, N_known_of⟩ := N_known_of
    have N_ties_to : ∃ f fd, _root_.W.MtK (L2.KOf KX) c_Closing "ties_to" "Closing.ties_to" _root_.W.sC_Closing_ties_to ["self", "b"] f fd := by
      have e : ∃ C f fd, PySem.W.nsIn (L2.KOf KX) mainGlobals "Closing" = some (some (.ref C)) ∧ _root_.W.MtK (L2.KOf KX) C "ties_to" "Closing.ties_to" _root_.W.sC_Closing_ties_to ["self", "b"] f fd := by
        dsimp only [L2.KOf]
        refine' ⟨_, _, _, ?aC, _root_.W.mt_mk ?a ?i ?l ?c ?k ?b⟩
        (case aC => k_is); (case a => k_is); (case i => k_is); (case l => k_is); (case c => k_is); (case k => k_is); (case b => exact fun _ _ _ _ _ _ us hl => by obtain ⟨a, b, rfl⟩ := L2.len2 us hl; rfl)
      obtain ⟨C, f, fd, e1, e2⟩ := e
      rw [a_Closing] at e1
      cases e1
      exact ⟨f, fd, e2⟩
    obtain ⟨n_ties_to, o_ties_to, N_ties_to⟩ := N_ties_to
    have N_draw_from_tie : ∃ f fd, _root_.W.MtK (L2.KOf KX) c_Closing "draw_from_tie" "Closing.draw_from_tie" _root_.W.sC_Closing_draw_from_tie ["self", "at", "a", "b"] f fd := by
      have e : ∃ C f fd, PySem.W.nsIn (L2.KOf KX) mainGlobals "Closing" = some (some (.ref C)) ∧ _root_.W.MtK (L2.KOf KX) C "draw_from_tie" "Closing.draw_from_tie" _root_.W.sC_Closing_draw_from_tie ["self", "at", "a", "b"] f fd := by
        dsimp only [L2.KOf]
        refine' ⟨_, _, _, ?aC, _root_.W.mt_mk ?a ?i ?l ?c ?k ?b⟩
        (case aC => k_is); (case a => k_is); (case i => k_is); (case l => k_is); (case c => k_is); (case k => k_is); (case b => exact fun _ _ _ _ _ _ us hl => by obtain ⟨a, b, c, d, rfl⟩ := L2.len4 us hl; rfl)
      obtain ⟨C, f, fd, e1, e2⟩ := e
      rw [a_Closing] at e1
      cases e1
      exact ⟨f, fd, e2⟩
    obtain ⟨n_draw_from_tie, o_draw_from_tie, N_draw_from_tie⟩ := N_draw_from_tie
    have N_draw_from_wait : ∃ f fd, _root_.W.MtK (L2.KOf KX) c_Closing "draw_from_wait" "Closing.draw_from_wait" _root_.W.sC_Closing_draw_from_wait ["self", "at", "a"] f fd := by
      have e : ∃ C f fd, PySem.W.nsIn (L2.KOf KX) mainGlobals "Closing" = some (some (.ref C)) ∧ _root_.W.MtK (L2.KOf KX) C "draw_from_wait" "Closing.draw_from_wait" _root_.W.sC_Closing_draw_from_wait ["self", "at", "a"] f fd := by
        dsimp only [L2.KOf]
        refine' ⟨_, _, _, ?aC, _root_.W.mt_mk ?a ?i ?l ?c ?k ?b⟩
        (case aC => k_is); (case a => k_is); (case i => k_is); (case l => k_is); (case c => k_is); (case k => k_is); (case b => exact fun _ _ _ _ _ _ us hl => by obtain ⟨a, b, c, rfl⟩ := L2.len3 us hl; rfl)
      obtain ⟨C, f, fd, e1, e2⟩ := e
      rw [a_Closing] at e1
      cases e1
      exact ⟨f, fd, e2⟩
    obtain ⟨n_draw_from_wait, o_draw_from_wait, N_draw_from_wait⟩ := N_draw_from_wait
    have N_draw_all : ∃ f fd, _root_.W.MtK (L2.KOf KX) c_Closing "draw_all" "Closing.draw_all" _root_.W.sC_Closing_draw_all ["self"] f fd := by
      have e : ∃ C f fd, PySem.W.nsIn (L2.KOf KX) mainGlobals "Closing" = some (some (.ref C)) ∧ _root_.W.MtK (L2.KOf KX) C "draw_all" "Closing.draw_all" _root_.W.sC_Closing_draw_all ["self"] f fd := by
        dsimp only [L2.KOf]
        refine' ⟨_, _, _, ?aC, _root_.W.mt_mk ?a ?i ?l ?c ?k ?b⟩
        (case aC => k_is); (case a => k_is); (case i => k_is); (case l => k_is); (case c => k_is); (case k => k_is); (case b => exact fun _ _ _ _ _ _ us hl => by obtain ⟨a, rfl⟩ := L2.len1 us hl; rfl)
      obtain ⟨C, f, fd, e1, e2⟩ := e
      rw [a_Closing] at e1
      cases e1
      exact ⟨f, fd, e2⟩
    obtain ⟨n_draw_all, o_draw_all, N_draw_all⟩ := N_draw_all
    have N_best_drawn : ∃ f fd, _root_.W.MtK (L2.KOf KX) c_Closing "best_drawn" "Closing.best_drawn" _root_.W.sC_Closing_best_drawn ["self", "kind"] f fd := by
      have e : ∃ C f fd, PySem.W.nsIn (L2.KOf KX) mainGlobals "Closing" = some (some (.ref C)) ∧ _root_.W.MtK (L2.KOf KX) C "best_drawn" "Closing.best_drawn" _root_.W.sC_Closing_best_drawn ["self", "kind"] f fd := by
        dsimp only [L2.KOf]
        refine' ⟨_, _, _, ?aC, _root_.W.mt_mk ?a ?i ?l ?c ?k ?b⟩
        (case aC => k_is); (case a => k_is); (case i => k_is); (case l => k_is); (case c => k_is); (case k => k_is); (case b => exact fun _ _ _ _ _ _ us hl => by obtain ⟨a, b, rfl⟩ := L2.len2 us hl; rfl)
      obtain ⟨C, f, fd, e1, e2⟩ := e
      rw [a_Closing] at e1
      cases e1
      exact ⟨f, fd, e2⟩
    obtain ⟨n_best_drawn, o_best_drawn, N_best_drawn⟩ := N_best_drawn
    have F_numbers_needed : ∃ f fd, _root_.W.Fn (L2.KOf KX) mg "numbers_needed" _root_.W.sP_numbers_needed ["rows", "last"] f fd := by
      dsimp only [L2.KOf]
      refine' ⟨_, _, _root_.W.fn_mk KX G ?a ?l ?c ?k ?b⟩
      (case a => k_is); (case l => k_is); (case c => k_is); (case k => k_is); (case b => exact fun _ _ _ _ _ _ us hl => by obtain ⟨a, b, rfl⟩ := L2.len2 us hl; rfl)
    obtain ⟨f_numbers_needed, d_numbers_needed, F_numbers_needed⟩ := F_numbers_needed
    have F_paper_up_to : ∃ f fd, _root_.W.Fn (L2.KOf KX) mg "paper_up_to" _root_.W.sP_paper_up_to ["rows", "last"] f fd := by
      dsimp only [L2.KOf]
      refine' ⟨_, _, _root_.W.fn_mk KX G ?a ?l ?c ?k ?b⟩
      (case a => k_is); (case l => k_is); (case c => k_is); (case k => k_is); (case b => exact fun _ _ _ _ _ _ us hl => by obtain ⟨a, b, rfl⟩ := L2.len2 us hl; rfl)
    obtain ⟨f_paper_up_to, d_paper_up_to, F_paper_up_to⟩ := F_paper_up_to
    have F_is_told : ∃ f fd, _root_.W.Fn (L2.KOf KX) mg "is_told" _root_.W.sP_is_told ["by_end", "wait"] f fd := by
      dsimp only [L2.KOf]
      refine' ⟨_, _, _root_.W.fn_mk KX G ?a ?l ?c ?k ?b⟩
      (case a => k_is); (case l => k_is); (case c => k_is); (case k => k_is); (case b => exact fun _ _ _ _ _ _ us hl => by obtain ⟨a, b, rfl⟩ := L2.len2 us hl; rfl)
    obtain ⟨f_is_told, d_is_told, F_is_told⟩ := F_is_told
    have F_kept : ∃ f fd, _root_.W.Fn (L2.KOf KX) mg "kept" _root_.W.sP_kept ["web"] f fd := by
      dsimp only [L2.KOf]
      refine' ⟨_, _, _root_.W.fn_mk KX G ?a ?l ?c ?k ?b⟩
      (case a => k_is); (case l => k_is); (case c => k_is); (case k => k_is); (case b => exact fun _ _ _ _ _ _ us hl => by obtain ⟨a, rfl⟩ := L2.len1 us hl; rfl)
    obtain ⟨f_kept, d_kept, F_kept⟩ := F_kept
    have F_are_two_moments : ∃ f fd, _root_.W.Fn (L2.KOf KX) mg "are_two_moments" _root_.W.sP_are_two_moments ["many", "one", "other"] f fd := by
      dsimp only [L2.KOf]
      refine' ⟨_, _, _root_.W.fn_mk KX G ?a ?l ?c ?k ?b⟩
      (case a => k_is); (case l => k_is); (case c => k_is); (case k => k_is); (case b => exact fun _ _ _ _ _ _ us hl => by obtain ⟨a, b, c, rfl⟩ := L2.len3 us hl; rfl)
    obtain ⟨f_are_two_moments, d_are_two_moments, F_are_two_moments⟩ := F_are_two_moments
    have F_look_over_size : ∃ f fd, _root_.W.Fn (L2.KOf KX) mg "look_over_size" _root_.W.sP_look_over_size ["many", "last"] f fd := by
      dsimp only [L2.KOf]
      refine' ⟨_, _, _root_.W.fn_mk KX G ?a ?l ?c ?k ?b⟩
      (case a => k_is); (case l => k_is); (case c => k_is); (case k => k_is); (case b => exact fun _ _ _ _ _ _ us hl => by obtain ⟨a, b, rfl⟩ := L2.len2 us hl; rfl)
    obtain ⟨f_look_over_size, d_look_over_size, F_look_over_size⟩ := F_look_over_size
    have F_look_over_ties : ∃ f fd, _root_.W.Fn (L2.KOf KX) mg "look_over_ties" _root_.W.sP_look_over_ties ["many", "ties"] f fd := by
      dsimp only [L2.KOf]
      refine' ⟨_, _, _root_.W.fn_mk KX G ?a ?l ?c ?k ?b⟩
      (case a => k_is); (case l => k_is); (case c => k_is); (case k => k_is); (case b => exact fun _ _ _ _ _ _ us hl => by obtain ⟨a, b, rfl⟩ := L2.len2 us hl; rfl)
    obtain ⟨f_look_over_ties, d_look_over_ties, F_look_over_ties⟩ := F_look_over_ties
    have F_look_over_falls : ∃ f fd, _root_.W.Fn (L2.KOf KX) mg "look_over_falls" _root_.W.sP_look_over_falls ["many", "falls"] f fd := by
      dsimp only [L2.KOf]
      refine' ⟨_, _, _root_.W.fn_mk KX G ?a ?l ?c ?k ?b⟩
      (case a => k_is); (case l => k_is); (case c => k_is); (case k => k_is); (case b => exact fun _ _ _ _ _ _ us hl => by obtain ⟨a, b, rfl⟩ := L2.len2 us hl; rfl)
    obtain ⟨f_look_over_falls, d_look_over_falls, F_look_over_falls⟩ := F_look_over_falls
    have C_Web : ∃ C, _root_.W.WebK (L2.KOf KX) mg C ∧ PySem.W.nsIn (L2.KOf KX) mainGlobals "Web" = some (some (.ref C)) := by
      dsimp only [L2.KOf]
      refine' ⟨_, _root_.W.web_mk KX G ?aC ?pg ?hd ?po ?sa ?mk ?kc ?n1 ?n2 ?n3 ?n4, ?aD⟩
      (case aC => k_is); (case pg => k_is); (case hd => k_is); (case po => k_is); (case sa => k_is); (case mk => k_is); (case kc => k_is); (case n1 => k_is); (case n2 => k_is); (case n3 => k_is); (case n4 => k_is); (case aD => k_is)
    obtain ⟨c_Web, C_Web, a_Web⟩ := C_Web
    have M_init : ∃ f fd, _root_.W.MtK (L2.KOf KX) c_Web "__init__" "Web.__init__" _root_.W.sC_Web_init ["self", "many", "last", "ties", "falls"] f fd := by
      have e : ∃ C f fd, PySem.W.nsIn (L2.KOf KX) mainGlobals "Web" = some (some (.ref C)) ∧ _root_.W.MtK (L2.KOf KX) C "__init__" "Web.__init__" _root_.W.sC_Web_init ["self", "many", "last", "ties", "falls"] f fd := by
        dsimp only [L2.KOf]
        refine' ⟨_, _, _, ?aC, _root_.W.mt_mk ?a ?i ?l ?c ?k ?b⟩
        (case aC => k_is); (case a => k_is); (case i => k_is); (case l => k_is); (case c => k_is); (case k => k_is); (case b => exact fun _ _ _ _ _ _ us hl => by obtain ⟨a, b, c, d, e, rfl⟩ := L2.len5 us hl; rfl)
      obtain ⟨C, f, fd, e1, e2⟩ := e
      rw [a_Web] at e1
      cases e1
      exact ⟨f, fd, e2⟩
    obtain ⟨m_init, e_init, M_init⟩ := M_init
    have M_ties : ∃ f fd, _root_.W.MtK (L2.KOf KX) c_Web "ties" "Web.ties" _root_.W.sC_Web_ties ["self"] f fd := by
      have e : ∃ C f fd, PySem.W.nsIn (L2.KOf KX) mainGlobals "Web" = some (some (.ref C)) ∧ _root_.W.MtK (L2.KOf KX) C "ties" "Web.ties" _root_.W.sC_Web_ties ["self"] f fd := by
        dsimp only [L2.KOf]
        refine' ⟨_, _, _, ?aC, _root_.W.mt_mk ?a ?i ?l ?c ?k ?b⟩
        (case aC => k_is); (case a => k_is); (case i => k_is); (case l => k_is); (case c => k_is); (case k => k_is); (case b => exact fun _ _ _ _ _ _ us hl => by obtain ⟨a, rfl⟩ := L2.len1 us hl; rfl)
      obtain ⟨C, f, fd, e1, e2⟩ := e
      rw [a_Web] at e1
      cases e1
      exact ⟨f, fd, e2⟩
    obtain ⟨m_ties, e_ties, M_ties⟩ := M_ties
    have M_falls : ∃ f fd, _root_.W.MtK (L2.KOf KX) c_Web "falls" "Web.falls" _root_.W.sC_Web_falls ["self"] f fd := by
      have e : ∃ C f fd, PySem.W.nsIn (L2.KOf KX) mainGlobals "Web" = some (some (.ref C)) ∧ _root_.W.MtK (L2.KOf KX) C "falls" "Web.falls" _root_.W.sC_Web_falls ["self"] f fd := by
        dsimp only [L2.KOf]
        refine' ⟨_, _, _, ?aC, _root_.W.mt_mk ?a ?i ?l ?c ?k ?b⟩
        (case aC => k_is); (case a => k_is); (case i => k_is); (case l => k_is); (case c => k_is); (case k => k_is); (case b => exact fun _ _ _ _ _ _ us hl => by obtain ⟨a, rfl⟩ := L2.len1 us hl; rfl)
      obtain ⟨C, f, fd, e1, e2⟩ := e
      rw [a_Web] at e1
      cases e1
      exact ⟨f, fd, e2⟩
    obtain ⟨m_falls, e_falls, M_falls⟩ := M_falls
    have F_law_next : ∃ f fd, _root_.W.Fn (L2.KOf KX) mg "_law_next" _root_.W.sNext ["_law_dice", "_law_many"] f fd := by
      dsimp only [L2.KOf]
      refine' ⟨_, _, _root_.W.fn_mk KX G ?a ?l ?c ?k ?b⟩
      (case a => k_is); (case l => k_is); (case c => k_is); (case k => k_is); (case b => exact fun _ _ _ _ _ _ us hl => by obtain ⟨a, b, rfl⟩ := L2.len2 us hl; rfl)
    obtain ⟨f_law_next, d_law_next, F_law_next⟩ := F_law_next
    have F_law : ∃ f fd, _root_.W.Fn (L2.KOf KX) mg "law" _root_.W.sLaw ["_law_script"] f fd ∧ ∀ (s : Shared) (u : Value), BindsTo s fd ⟨[u], []⟩ [("_law_script", u)] := by
      dsimp only [L2.KOf]
      refine' ⟨_, _, _root_.W.fn_mk KX G ?a ?l ?c ?k ?b, ?bb⟩
      (case a => k_is); (case l => k_is); (case c => k_is); (case k => k_is); (case b => exact fun _ _ _ _ _ _ us hl => by obtain ⟨a, rfl⟩ := L2.len1 us hl; rfl); (case bb => exact fun s u => .of_eq rfl)
    obtain ⟨f_law, d_law, F_law, b_law⟩ := F_law
    have TW : _root_.W.TxtW mg := by
      refine' _root_.W.txtW_mk KX G ?a ?b ?c ?d ?e
      (case a => k_is); (case b => k_is); (case c => k_is); (case d => k_is); (case e => k_is)
    have TU : _root_.W.TxtU (L2.KOf KX) mg := by
      dsimp only [L2.KOf]
      refine' _root_.W.txtU_mk KX G ?a ?t ?z
      (case a => k_is); (case t => with_unfolding_all rfl); (case z => k_is)
    have Z : PySem.W.nsIn (L2.KOf KX) mainGlobals "min" = some none ∧ PySem.W.nsIn (L2.KOf KX) mainGlobals "max" = some none ∧ PySem.W.nsIn (L2.KOf KX) mainGlobals "sorted" = some none ∧ PySem.W.nsIn (L2.KOf KX) mainGlobals "isinstance" = some none ∧ PySem.W.nsIn (L2.KOf KX) mainGlobals "int" = some none := by
      dsimp only [L2.KOf]
      refine' ⟨?a, ?b, ?c, ?d, ?e⟩
      (case a => k_is); (case b => k_is); (case c => k_is); (case d => k_is); (case e => k_is)
    have zl := C_Closing.tc.len
    have zr := C_Closing.tc.range
    have zt := TU.tuple
    have zm := PySem.W.mg_none_of KX G Z.1
    have zs := PySem.W.mg_none_of KX G Z.2.2.1
    have TE : _root_.W.TxtE (L2.KOf KX) mg := ⟨PySem.W.mg_none_of KX G Z.2.1, PySem.W.mg_none_of KX G Z.2.2.2.1, zt, PySem.W.mg_none_of KX G Z.2.2.2.2⟩
    have e0 := hmg.symm.trans F_law.g
    cases e0
    refine ⟨d_law, b_law, fun base kb nb => ?gg⟩
    case gg =>
      have GN := _root_.W.ok_next (P := PySem.Challenge.rw_momentties_k08_one_fall_one_tie.prog) (w := w) (base := base) F_law_next zl
      have G2 := _root_.W.ok_two (P := PySem.Challenge.rw_momentties_k08_one_fall_one_tie.prog) (w := w) (base := base) F_are_two_moments
      have GS := _root_.W.ok_size (P := PySem.Challenge.rw_momentties_k08_one_fall_one_tie.prog) (w := w) (base := base) F_look_over_size TW
      have GLT := _root_.W.ok_lties F_look_over_ties TW F_are_two_moments G2
      have GLF := _root_.W.ok_lfalls F_look_over_falls TW F_are_two_moments G2
      have GI := _root_.W.ok_init M_init.F TW C_Web.tc F_look_over_size GS F_look_over_ties GLT F_look_over_falls GLF
      have Gt := _root_.W.ok_tiesM (P := PySem.Challenge.rw_momentties_k08_one_fall_one_tie.prog) (w := w) (base := base) M_ties.F TW C_Web.tc
      have Gf := _root_.W.ok_fallsM (P := PySem.Challenge.rw_momentties_k08_one_fall_one_tie.prog) (w := w) (base := base) M_falls.F TW C_Web.tc
      have GRo := _root_.W.ok_room (P := PySem.Challenge.rw_momentties_k08_one_fall_one_tie.prog) (w := w) (base := base) F_room_bounds ⟨zr⟩ C_Web.tc
      have GSp := _root_.W.ok_span (P := PySem.Challenge.rw_momentties_k08_one_fall_one_tie.prog) (w := w) (base := base) F_span_bounds
      have GBw := _root_.W.ok_with F_bounds_with C_Web.tc F_room_bounds GRo F_span_bounds GSp M_falls.meth M_falls.b Gf
      have GTo := _root_.W.ok_told F_told_bounds C_Web.tc F_bounds_with GBw M_ties.meth M_ties.b Gt
      have GBE := _root_.W.ok_byEnd F_falls_by_end C_Web.tc M_falls.meth M_falls.b Gf
      have W1 := _root_.W.ok_sum (P := PySem.Challenge.rw_momentties_k08_one_fall_one_tie.prog) (w := w) (base := base) F_by_sum
      have W2 := _root_.W.ok_late (P := PySem.Challenge.rw_momentties_k08_one_fall_one_tie.prog) (w := w) (base := base) F_by_late
      have W3 := _root_.W.ok_soon (P := PySem.Challenge.rw_momentties_k08_one_fall_one_tie.prog) (w := w) (base := base) F_by_soon
      have W4 := _root_.W.ok_sure (P := PySem.Challenge.rw_momentties_k08_one_fall_one_tie.prog) (w := w) (base := base) F_by_sure ⟨zm⟩
      have W5 := _root_.W.ok_back (P := PySem.Challenge.rw_momentties_k08_one_fall_one_tie.prog) (w := w) (base := base) F_by_back ⟨zm⟩
      have W6 := _root_.W.ok_cross (P := PySem.Challenge.rw_momentties_k08_one_fall_one_tie.prog) (w := w) (base := base) F_by_cross ⟨zm⟩
      have GWf := _root_.W.ok_follows F_what_follows TU F_by_sum W1 F_by_late W2 F_by_soon W3 F_by_sure W4 F_by_back W5 F_by_cross W6
      have GBa := _root_.W.ok_bars (P := PySem.Challenge.rw_momentties_k08_one_fall_one_tie.prog) (w := w) (base := base) F_bars_every_hand
      have GNw := _root_.W.ok_news (P := PySem.Challenge.rw_momentties_k08_one_fall_one_tie.prog) (w := w) (base := base) N_is_news.F C_Closing.tc
      have GTk := _root_.W.ok_take N_take.F C_Closing.tc N_is_news.meth N_is_news.b GNw F_bars_every_hand GBa
      have GDr := _root_.W.ok_draw N_draw.F C_Closing.tc N_take.meth N_take.b GTk F_what_follows GWf
      have GKn := _root_.W.ok_known (P := PySem.Challenge.rw_momentties_k08_one_fall_one_tie.prog) (w := w) (base := base) N_known_of.F C_Closing.tc
      have GTt := _root_.W.ok_tiesTo (P := PySem.Challenge.rw_momentties_k08_one_fall_one_tie.prog) (w := w) (base := base) N_ties_to.F C_Closing.tc
      have GFw := _root_.W.ok_fromWait N_draw_from_wait.F C_Closing.tc N_draw.meth N_draw.b GDr N_ties_to.meth N_ties_to.b GTt
      have GFt := _root_.W.ok_fromTie N_draw_from_tie.F C_Closing.tc N_draw.meth N_draw.b GDr N_ties_to.meth N_ties_to.b GTt N_known_of.meth N_known_of.b GKn
      have GDa := _root_.W.ok_drawAll N_draw_all.F C_Closing.tc N_draw_from_tie.meth N_draw_from_tie.b GFt N_draw_from_wait.meth N_draw_from_wait.b GFw
      have GCi := _root_.W.ok_cinit N_init.F C_Closing.tc C_Web.tc N_take.meth N_take.b GTk F_falls_by_end GBE F_told_bounds GTo
      have GBd := _root_.W.ok_best (P := PySem.Challenge.rw_momentties_k08_one_fall_one_tie.prog) (w := w) (base := base) N_best_drawn.F C_Closing.tc zs
      have GNn := _root_.W.ok_needed (P := PySem.Challenge.rw_momentties_k08_one_fall_one_tie.prog) (w := w) (base := base) F_numbers_needed zr zs
      have GPu := _root_.W.ok_paperUp F_paper_up_to zl zt F_numbers_needed GNn
      have GIt := _root_.W.ok_isTold (P := PySem.Challenge.rw_momentties_k08_one_fall_one_tie.prog) (w := w) (base := base) F_is_told
      have GKe := _root_.W.ok_kept F_kept C_Closing.tc ⟨C_Closing.mk_, N_init.a, N_init.i, C_Closing.kc⟩ C_Closing.g N_init.b GCi N_draw_all.meth N_draw_all.b GDa N_best_drawn.meth N_best_drawn.b GBd F_paper_up_to GPu F_is_told GIt
      exact _root_.W.ok_law F_law TE C_Web.tc F_law_next GN ⟨C_Web.mk_, M_init.a, M_init.i, C_Web.kc⟩ M_init.b GI F_kept GKe
