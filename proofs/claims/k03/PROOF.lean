import PyProof.Rows.All
import Wide.All
import OpenK.AllK
import Wide.FinOn
import Lean
import PyProof.EqAt
import PyProof.EqKinds
import PyProof.TupleCall
import PySem.Challenge.RW_momentties_k03_times_kept

set_option Elab.async false
set_option linter.all false
set_option maxRecDepth 100000
/-! Loops while an own exception is being handled: the end of an iterator is raised with it as its context. -/
namespace L2
open PySem PySem.Spec PyProof.Rows
noncomputable abbrev excRec (C : Addr) (dx : Option Addr) (t tb : Value) : Obj := { cls := .ref C, dict := dx, data := .fields #[t, tb, .none, .none, .bool false, .none] }
noncomputable def Hd (A : Around) (h : Heap) : Prop := A.handled = none ∨ ∃ (a C : Addr) (dx : Option Addr) (t tb : Value), A.handled = some (.ref a) ∧ h.get? a = some (excRec C dx t tb)
theorem entry_unchain : entryFor table "proto.unchain" = some Builtin.«proto.unchain» := entryFor_of_tree (by kernel_rfl)
section
variable {prog : Program} {w : World} {A : Around} {E : Value → Shared → Prop} {s : Shared}
theorem Hd.keep {h h' : Heap} (q : Hd A h) (k : ∀ b C dx t tb, h.get? b = some (excRec C dx t tb) → h'.get? b = some (excRec C dx t tb)) : Hd A h' := by
  rcases q with q | ⟨a, C, dx, t, tb, q, e⟩
  · exact .inl q
  · exact .inr ⟨a, C, dx, t, tb, q, k a C dx t tb e⟩
theorem raise_hd {α : Type} {e : Addr} {oe : Obj} {vs : Array Value} {Q : α → Shared → Prop} (q : Hd A s.heap) (he : s.heap.get? e = some oe) (hc : ∃ n, oe.cls = .type n) (hd : oe.data = .fields vs) (hz : 2 < vs.size)
    (h : ∀ h', Heap.SameBut e s.heap h' → (∃ o, h'.get? e = some o ∧ o.cls = oe.cls) → E (.ref e) { s with heap := h' }) : wpAny (model prog w) A (raiseNew (.ref e) : Sem α) Q E s := by
  unfold raiseNew
  refine wpAny_bind (wpAny_handled ?_)
  rcases q with q | ⟨a, C, dx, t, tb, q, ea⟩
  · rw [q]
    exact wpAny_bind (wpAny_pure (wpAny_throw (h s.heap (Heap.SameBut.refl ..) ⟨oe, he, rfl⟩)))
  · rw [q]
    have ne : a ≠ e := fun z => by
      rw [z, he] at ea
      obtain ⟨n, hn⟩ := hc
      rw [Option.some.inj ea] at hn
      cases hn
    dsimp only
    rw [if_pos (show (Value.ref a != Value.ref e) = true by simp [ne])]
    refine wpAny_bind (wpAny_holding (wpAny_runValue (codeAny_builtin entry_unchain ?_)))
    show wpAny _ _ (field (.ref a) 2 >>= _) _ _ s
    refine wpAny_bind (wpAny_field ea rfl (x := .none) rfl ?_)
    rw [if_pos (by rfl)]
    refine wpAny_bind (wpAny_pure (wpAny_pure ?_))
    refine wpAny_bind (wpAny_setField (a := e) he hd hz ?_)
    exact wpAny_throw (h _ (Heap.SameBut.update ..) ⟨_, Heap.get?_update_self _ he (Obj.isFreed_of_fields (Obj.data_mapFields hd _)), Obj.cls_mapFields ..⟩)
theorem stop_hd {α : Type} {Q : α → Shared → Prop} (q : Hd A s.heap)
    (h : ∀ e h', (∀ b o, s.heap.get? b = some o → h'.get? b = some o) → (∃ o, h'.get? e = some o ∧ o.cls = .type "StopIteration") → E (.ref e) { s with heap := h' }) :
    wpAny (model prog w) A (newExc (.type "StopIteration") [] >>= fun x => (raiseNew x : Sem α)) Q E s := by
  refine wpAny_bind ?_
  unfold newExc newTuple
  refine wpAny_bind (wpAny_newObj_type ?_ (by size_fits))
  refine wpAny_bind (wpAny_of_eq (a := Value.none) (by first | rfl | (simp only [firstArgMember]; rfl)) ?_)
  refine wpAny_newObj_type ?_ (by size_fits)
  refine raise_hd (q.keep fun b C dx t tb e => Heap.get?_push_of_some _ (Heap.get?_push_of_some _ e)) (Heap.get?_push_size _ rfl) ⟨_, rfl⟩ rfl (by simp; omega) fun h' sb ⟨o, eo, ec⟩ => ?_
  refine h _ h' (fun b o' e => ?_) ⟨o, eo, ec⟩
  have e1 := Heap.get?_push_of_some (h := s.heap) { cls := .type "tuple", data := .seq ([] : List Value).toArray } e
  exact (sb.2 b (Nat.ne_of_lt (Heap.lt_size e1))).trans (Heap.get?_push_of_some _ e1)
theorem ends_hd {it : Addr} {s0 : Shared} {e : Addr} {h' : Heap} {Q : Option Value → Shared → Prop} (k : ∀ b o, b ≠ it → s0.heap.get? b = some o → h'.get? b = some o) (t : ∃ o, h'.get? e = some o ∧ o.cls = .type "StopIteration") (hQ : ∀ h', Heap.ExtBut it s0.heap h' → Q none { s0 with heap := h' }) :
    wpAny (model prog w) A (isInstance (.ref e) (.type "StopIteration")) (fun b s' => b = true ∧ Q none s') E { s0 with heap := h' } := by
  obtain ⟨o, e1, e2⟩ := t
  exact wpAny_isInstance (T := "StopIteration") (b := true) ⟨o, e1, e2⟩ isSubtype_stop ⟨rfl, hQ h' fun b u hb e => k b u hb e⟩
theorem list_end_hd {it l : Addr} {i : Nat} {items : Array Value} {Q : Option Value → Shared → Prop} (q : Hd A s.heap) (st : s.heap.IsListIter it l i) (hl : s.heap.IsList l items) (hx : items[i]? = none)
    (hQ : ∀ h', Heap.ExtBut it s.heap h' → Q none { s with heap := h' }) : wpAny (model prog w) A (pyNext (.ref it)) Q E s := by
  obtain ⟨u, hu, cu, du⟩ := id st
  obtain ⟨v, hv, _, nv, dv⟩ := hl
  unfold pyNext
  refine wpAny_bind (wpAny_attempt (wpAny_callSpecial?_slot (name := Str.ofString "__next__") st.typeIs slot_listiter_next (wpAny_call_entry slot_listiter_next st.typeIs entry_listiter_next ?_ (args_listiter_next _))))
  show wpAny _ _ (field (.ref it) 0 >>= _) _ _ s
  refine wpAny_bind (wpAny_field hu du (x := .ref l) rfl ?_)
  rw [if_neg (show ¬ ((Value.ref l == Value.none) = true) from Bool.false_ne_true)]
  refine wpAny_bind (wpAny_field hu du (x := .int i 0) rfl (wpAny_bind (wpAny_seqItems hv dv ?_)))
  simp only [Int.toNat_natCast, hx]
  refine wpAny_bind (wpAny_rule (wpAny_bind (wpAny_setField hu du (by simp) ?_)))
  have other : ∀ b o, b ≠ it → s.heap.get? b = some o → (s.heap.update it (Obj.mapFields (·.setIfInBounds 0 Value.none))).get? b = some o := fun b o hb e => (Heap.get?_update_other _ _ (Ne.symm hb)).trans e
  refine stop_hd (A := A.in1) (s := { s with heap := s.heap.update it (Obj.mapFields (·.setIfInBounds 0 Value.none)) }) (Hd.keep (A := A.in1) q fun b C dx t tb e => other b _ (fun z => ?_) e) fun e h' kk te => ?_
  · rw [z, hu] at e
    cases e
    cases cu
  · refine wpAny_bind (wpAny_mono (ends_hd (s0 := s) (fun b o hb z => kk b o (other b o hb z)) te hQ) (fun b s' z => ?_) fun _ _ z => z)
    obtain ⟨rfl, z⟩ := z
    exact wpAny_pure z
theorem range_end_hd {it : Addr} {x left step : Int} {Q : Option Value → Shared → Prop} (q : Hd A s.heap) (st : IsRangeIter s.heap it x left step) (hz : left ≤ 0)
    (hQ : ∀ h', Heap.ExtBut it s.heap h' → Q none { s with heap := h' }) : wpAny (model prog w) A (pyNext (.ref it)) Q E s := by
  have ty : s.TypeIs (.ref it) "range_iterator" := ⟨_, st, rfl⟩
  unfold pyNext
  refine wpAny_bind (wpAny_attempt (wpAny_callSpecial?_slot (name := Str.ofString "__next__") ty F.slot_range_iterator_next (wpAny_call_entry F.slot_range_iterator_next ty F.entry_range_iterator_next ?_ (F.args_range_iterator_next_1 _))))
  show wpAny _ _ (field (.ref it) 0 >>= _) _ _ s
  refine wpAny_bind (wpAny_field st rfl (x := rawInt x) rfl (wpAny_bind (wpAny_field st rfl (x := rawInt left) rfl (wpAny_bind (wpAny_field st rfl (x := rawInt step) rfl ?_)))))
  show wpAny _ _ (if left ≤ 0 then _ else _) _ _ s
  rw [if_pos hz]
  refine wpAny_bind (wpAny_rule ?_)
  refine wpAny_bind ?_
  refine stop_hd (A := A.in1) (s := s) q fun e h' kk te => ?_
  refine wpAny_bind (wpAny_mono (ends_hd (s0 := s) (fun b o _ z => kk b o z) te hQ) (fun b s' z => ?_) fun _ _ z => z)
  obtain ⟨rfl, z⟩ := z
  exact wpAny_pure z
theorem tup_end_hd {it t : Addr} {i : Nat} {items : Array Value} {Q : Option Value → Shared → Prop} (q : Hd A s.heap) (st : IsTupIter s.heap it t i) (hl : IsTup s.heap t items) (hx : items[i]? = none)
    (hQ : ∀ h', Heap.ExtBut it s.heap h' → Q none { s with heap := h' }) : wpAny (model prog w) A (pyNext (.ref it)) Q E s := by
  obtain ⟨u, hu, cu, du⟩ := id st
  obtain ⟨v, hv, _, nv, dv⟩ := hl
  unfold pyNext
  refine wpAny_bind (wpAny_attempt (wpAny_callSpecial?_slot (name := Str.ofString "__next__") st.typeIs slot_tupleiter_next (wpAny_call_entry slot_tupleiter_next st.typeIs entry_tupleiter_next ?_ (args_tupleiter_next _))))
  show wpAny _ _ (field (.ref it) 0 >>= _) _ _ s
  refine wpAny_bind (wpAny_field hu du (x := .ref t) rfl ?_)
  rw [if_neg (show ¬ ((Value.ref t == Value.none) = true) from Bool.false_ne_true)]
  refine wpAny_bind (wpAny_field hu du (x := .int i 0) rfl (wpAny_bind (wpAny_seqItems hv dv ?_)))
  simp only [Int.toNat_natCast, hx]
  refine wpAny_bind (wpAny_rule (wpAny_bind (wpAny_setField hu du (by simp) ?_)))
  have other : ∀ b o, b ≠ it → s.heap.get? b = some o → (s.heap.update it (Obj.mapFields (·.setIfInBounds 0 Value.none))).get? b = some o := fun b o hb e => (Heap.get?_update_other _ _ (Ne.symm hb)).trans e
  refine stop_hd (A := A.in1) (s := { s with heap := s.heap.update it (Obj.mapFields (·.setIfInBounds 0 Value.none)) }) (Hd.keep (A := A.in1) q fun b C dx tt tb e => other b _ (fun z => ?_) e) fun e h' kk te => ?_
  · rw [z, hu] at e
    cases e
    cases cu
  · refine wpAny_bind (wpAny_mono (ends_hd (s0 := s) (fun b o hb z => kk b o (other b o hb z)) te hQ) (fun b s' z => ?_) fun _ _ z => z)
    obtain ⟨rfl, z⟩ := z
    exact wpAny_pure z
theorem unpack_hd {t : Addr} {items : Array Value} {targets : List (Bool × (Value → Sem Unit))} {Q : Unit → Shared → Prop} (q : Hd A s.heap) (ht : IsTup s.heap t items) (hn : targets.length = items.size) (hst : targets.findIdx? (·.1) = none)
    (h : ∀ h', Heap.ExtBut s.heap.objs.size s.heap h' → wpAny (model prog w) A (assignInOrder (targets.map (·.2)) items.toList) Q E { s with heap := h' }) : wpAny (model prog w) A (unpack (.ref t) targets) Q E s := by
  have hlt : t ≠ s.heap.objs.size := by obtain ⟨o, ho, _⟩ := ht; exact Nat.ne_of_lt (Heap.lt_size ho)
  unfold unpack
  rw [hn, hst]
  refine wpAny_bind (wpAny_holding ?_)
  unfold unpackItems notIterableAtAll
  refine wpAny_bind (wpAny_bind (wpAny_specialOf ht.typeIs slot_tuple_iter.lookup (wpAny_pure ?_)))
  simp only [Bool.false_eq_true, if_false]
  refine wpAny_bind (wpAny_holding (iter_tuple ht ?_))
  refine wpAny_bind (wpAny_holding (draw_tuple hlt items.size 0 _ _ ⟨_, Heap.get?_push_size _ rfl, rfl, rfl⟩ (ht.push _) (by omega) fun h₁ st₁ sb₁ => ?_))
  have all : List.take items.size (List.drop 0 items.toList) = items.toList := by rw [List.drop_zero]; exact List.take_of_length_le (by simp)
  rw [all, if_neg (by simp)]
  have ht₁ : IsTup h₁ t items := (ht.push _).extBut sb₁.extBut hlt
  refine wpAny_bind (wpAny_holding (tup_end_hd (s := { s with heap := h₁ }) (Hd.keep q fun b C dx tt tb e => (sb₁.2 b (Nat.ne_of_lt (Heap.lt_size e))).trans (Heap.get?_push_of_some _ e)) st₁ ht₁ (by simp) fun h₂ k₂ => ?_))
  simp only [Option.isSome_none, Bool.false_eq_true, if_false]
  exact wpAny_pure (h h₂ fun b o hb e => k₂ b o hb (sb₁.extBut b o hb (Heap.get?_push_of_some _ e)))
theorem range_item_hd {it : Addr} {lo : Int} {i n : Nat} {Q : Option Value → Shared → Prop} (hi : i < n) (st : IsRangeIter s.heap it (lo + (i : Nat) * 1) ((n : Int) - (i : Nat)) 1)
    (hQ : ∀ (t : Tok) h' tk, IsRangeIter h' it (lo + ((i + 1 : Nat) : Int) * 1) ((n : Int) - ((i + 1 : Nat) : Int)) 1 → (∀ b o, b ∉ [it] → s.heap.get? b = some o → h'.get? b = some o) → Q (some (.int (lo + (i : Nat) * 1) t)) { s with heap := h', toks := tk }) :
    wpAny (model prog w) A (pyNext (.ref it)) Q E s := by
  refine wpAny_pyNext_range_item st (by omega) fun h' st' sb => ?_
  refine hQ _ h' _ ?_ fun b o hb e => sb.extBut b o (fun z => hb (by simp [z])) e
  have e1 : lo + ((i + 1 : Nat) : Int) * 1 = lo + (i : Int) * 1 + 1 := by omega
  have e2 : (n : Int) - ((i + 1 : Nat) : Int) = (n : Int) - (i : Int) - 1 := by omega
  rw [e1, e2]
  exact st'
end
end L2

set_option Elab.async false
set_option linter.all false
set_option maxRecDepth 100000
/-! THE HAND LAYER, for ints, bools, texts, own classes, LISTS and tuples (index, slices, in, append, pop ..), calls, loops. Paste it whole ahead of your own text; what your proof does not reach may be deleted. -/
namespace L2
open PySem PySem.Spec PyProof.Rows

noncomputable abbrev Key := Sum Int Str
noncomputable def keyIs : Key → Value → Bool
  | .inl k, v => Value.isInt k v
  | .inr x, v => Value.isStrOf x v
noncomputable def keyH (w : World) : Key → Int
  | .inl k => hashInt k
  | .inr x => hashStr w x
theorem keyIs_shape : ∀ {k : Key} {v : Value}, keyIs k v = true → (∃ i t, k = Sum.inl i ∧ v = Value.int i t) ∨ (∃ x t, k = Sum.inr x ∧ v = Value.str x t)
  | .inl i, v, h => by
    obtain ⟨t, e⟩ := Value.isInt_shape (k := i) (v := v) h
    exact .inl ⟨i, t, rfl, e⟩
  | .inr x, v, h => by
    obtain ⟨t, e⟩ := Value.isStrOf_shape (x := x) (v := v) h
    exact .inr ⟨x, t, rfl, e⟩
theorem key_ll (a b : Int) : decide ((Sum.inl a : Key) = Sum.inl b) = (a == b) := by
  by_cases e : a = b
  · subst e; simp
  · have h : ¬ (Sum.inl a : Key) = Sum.inl b := fun q => e (Sum.inl.inj q)
    rw [decide_eq_false h]
    exact (beq_eq_false_iff_ne.mpr e).symm
theorem key_rr (a b : Str) : decide ((Sum.inr a : Key) = Sum.inr b) = decide (a = b) := by
  by_cases e : a = b
  · subst e; simp
  · have h : ¬ (Sum.inr a : Key) = Sum.inr b := fun q => e (Sum.inr.inj q)
    rw [decide_eq_false h, decide_eq_false e]
theorem key_lr (a : Int) (b : Str) : decide ((Sum.inl a : Key) = Sum.inr b) = false := decide_eq_false (fun q => nomatch q)
theorem key_rl (a : Str) (b : Int) : decide ((Sum.inr a : Key) = Sum.inl b) = false := decide_eq_false (fun q => nomatch q)

noncomputable def mixKind (prog : Program) (w : World) : PySem.KeyKind prog w Key where
  is := keyIs
  hash := keyH w
  inj := fun v a b ha hb => by
    rcases keyIs_shape ha with ⟨i, t, rfl, rfl⟩ | ⟨x, t, rfl, rfl⟩
    · rcases keyIs_shape hb with ⟨j, u, rfl, e⟩ | ⟨y, u, rfl, e⟩
      · injection e with e1 _; rw [e1]
      · exact nomatch e
    · rcases keyIs_shape hb with ⟨j, u, rfl, e⟩ | ⟨y, u, rfl, e⟩
      · exact nomatch e
      · injection e with e1 _; rw [e1]
  byValue := fun k v h => by
    rcases keyIs_shape h with ⟨i, t, rfl, rfl⟩ | ⟨x, t, rfl, rfl⟩ <;> rfl
  pyHash := fun hv h => by
    rcases keyIs_shape hv with ⟨i, t, rfl, rfl⟩ | ⟨x, t, rfl, rfl⟩
    · exact wpAny_pyHash_int h
    · exact wpAny_pyHash_str h
  eqBool := fun hu hv h => by
    rcases keyIs_shape hu with ⟨i, t, rfl, rfl⟩ | ⟨x, t, rfl, rfl⟩
    · rcases keyIs_shape hv with ⟨j, u, rfl, rfl⟩ | ⟨y, u, rfl, rfl⟩
      · rw [key_ll] at h; exact wpAny_eqBool_int h
      · rw [key_lr] at h; exact SeqAt.EqAt.int_str i t y u _ _ _ _ h
    · rcases keyIs_shape hv with ⟨j, u, rfl, rfl⟩ | ⟨y, u, rfl, rfl⟩
      · rw [key_rl] at h; exact SeqAt.EqAt.str_int x t j u _ _ _ _ h
      · rw [key_rr] at h; exact wpAny_eqBool_str h
  «strs» := fun k x t v h => by
    rcases keyIs_shape h with ⟨i, u, rfl, e⟩ | ⟨y, u, rfl, e⟩
    · exact nomatch e
    · injection e with e1 _
      subst e1
      cases v <;> rfl

end L2

namespace L2
open PySem PySem.Spec PyProof.Rows

inductive V where
  | non | bl (b : Bool) | int (i : Int) | str (x : Str) | byt (b : Array UInt8) | flt (b : UInt64) | ref (a : Addr) | ty (n : String)
  deriving DecidableEq

noncomputable def RelV : V → Value → Prop
  | .non, u => u = Value.none
  | .bl b, u => u = Value.bool b
  | .int i, u => ∃ t, u = Value.int i t
  | .str x, u => ∃ t, u = Value.str x t
  | .byt b, u => ∃ t, u = Value.bytes b t
  | .flt b, u => ∃ t, u = Value.float b t
  | .ref a, u => u = Value.ref a
  | .ty n, u => u = Value.type n

noncomputable abbrev Vals : List V → List Value → Prop := Paired RelV
theorem Vals.length {xs : List V} {us : List Value} (r : Vals xs us) : xs.length = us.length := Paired.length r
theorem Vals.get : ∀ {xs : List V} {us : List Value} {i : Nat} {x : V}, Vals xs us → xs[i]? = some x → ∃ u, us[i]? = some u ∧ RelV x u
  | _, _, _, _, .nil, e => by simp at e
  | _, _, 0, _, .cons r _, e => by simp at e; subst e; exact ⟨_, rfl, r⟩
  | _, _, i + 1, x, .cons _ t, e => by
    obtain ⟨u, h1, h2⟩ := Vals.get (i := i) (x := x) t (by simpa using e)
    exact ⟨u, by simpa using h1, h2⟩
theorem Vals.set {x : V} {u : Value} (r : RelV x u) : ∀ {xs : List V} {us : List Value} (i : Nat), Vals xs us → Vals (xs.set i x) (us.set i u)
  | _, _, _, .nil => .nil
  | _, _, 0, .cons _ t => .cons r t
  | _, _, i + 1, .cons q t => .cons q (Vals.set r i t)
theorem Vals.append {xs ys : List V} {us ws : List Value} (h : Vals xs us) (s : Vals ys ws) : Vals (xs ++ ys) (us ++ ws) := by
  induction h with
  | nil => exact s
  | cons r t ih => exact .cons r ih
theorem Vals.take : ∀ {xs : List V} {us : List Value} (n : Nat), Vals xs us → Vals (xs.take n) (us.take n)
  | _, _, 0, _ => .nil
  | _, _, _ + 1, .nil => .nil
  | _, _, n + 1, .cons r t => .cons r (Vals.take n t)
theorem Vals.drop : ∀ {xs : List V} {us : List Value} (n : Nat), Vals xs us → Vals (xs.drop n) (us.drop n)
  | _, _, 0, r => r
  | _, _, _ + 1, .nil => .nil
  | _, _, n + 1, .cons _ t => Vals.drop n t

noncomputable def RelO : Option V → Option Value → Prop
  | some v, some u => RelV v u
  | none, none => True
  | _, _ => False
noncomputable def KV {κ : Type} : List (κ × V) → List (κ × Value) → Prop := Paired fun (p : κ × V) (q : κ × Value) => p.1 = q.1 ∧ RelV p.2 q.2

noncomputable def kV : Key → V
  | .inl i => .int i
  | .inr x => .str x

inductive HO where
  | lst (xs : List V)
  | tup (xs : List V)
  | dK (kvs : List (Key × V)) | dT (kvs : List (List Key × V))
  | set (S : Int → Bool) (n : Nat)
  | ins (C dx : Addr) (fs : List (Str × V))
  | own (x : Addr)
  | xd (fs : List (Str × V))
  | met (f x : Addr)
  | rng (lo hi : Int)
  | frz (o : Obj) (u : HO)
  | tbl (ps : Array Value)
  | ext (φ : Heap → Prop)

noncomputable abbrev Hp := Addr → Option HO
noncomputable def upd (H : Hp) (a : Addr) (o : HO) : Hp := fun b => if b = a then some o else H b
theorem upd_same {H : Hp} {a : Addr} {o : HO} : upd H a o a = some o := by unfold upd; rw [if_pos rfl]
theorem upd_ne {H : Hp} {a b : Addr} {o : HO} (h : b ≠ a) : upd H a o b = H b := by unfold upd; rw [if_neg h]
theorem upd_upd {H : Hp} {a : Addr} {o u : HO} : upd (upd H a o) a u = upd H a u := by
  funext b; unfold upd; split <;> rfl
theorem ne_of {H : Hp} {a b : Addr} {o u : HO} (h : H a = some o) (h' : H b = some u) (d : o ≠ u) : a ≠ b := by
  intro e; subst e; rw [h] at h'; exact d (Option.some.inj h')
theorem ne_of_none {H : Hp} {a b : Addr} {o : HO} (h : H a = some o) (h' : H b = none) : a ≠ b := by
  intro e; subst e; rw [h] at h'; cases h'

section
variable (P : Program) (w : World)
noncomputable def ObjOk (H : Hp) (h : Heap) (a : Addr) : HO → Prop
  | .lst xs => xs.length ≤ sizeLine ∧ ∃ (its : List Value) (n : Nat), Vals xs its ∧ h.get? a = some { cls := .type "list", data := .seq its.toArray n }
  | .tup xs => xs.length ≤ sizeLine ∧ ∃ its : List Value, Vals xs its ∧ IsTup h a its.toArray
  | .dK kvs => kvs.length ≤ sizeLine ∧ (a == sysModules) = false ∧ ∃ vs, KV kvs vs ∧ h.DictOf (mixKind P w) a vs
  | .dT kvs => kvs.length ≤ sizeLine ∧ (a == sysModules) = false ∧ ∃ xs : List (List Key × Addr × Value),
      Paired (fun (p : List Key × V) (q : List Key × Addr × Value) => p.1 = q.1 ∧ H q.2.1 = some (.tup (p.1.map kV)) ∧ RelV p.2 q.2.2) kvs xs ∧
      ∃ o es ep, h.get? a = some o ∧ o.ExactDict ∧ o.data = .dict es ep ∧ es.toList = xs.map (entryOfKey (tupleKind (mixKind P w))) ∧ (xs.map (·.1)).Nodup
  | .set S n => h.SetOf (intKind P w) a S n
  | .ins C dx fs => H dx = some (.own a) ∧ fs.length ≤ 1000 ∧ dx ≠ a ∧ h.get? a = some (PySem.W.instObj C dx) ∧
      ∃ mA, h.Ns1 dx mA ∧ (∀ f, RelO (fs.lookup f) (mA f)) ∧ PySem.Within mA (fs.map (·.1))
  | .own _ => ∃ o, h.get? a = some o
  | .xd fs => ∃ mA, h.Ns1 a mA ∧ ∀ f, RelO (fs.lookup f) (mA f)
  | .rng lo hi => ∃ t u v, h.get? a = some { cls := .type "range", data := .fields #[.int lo t, .int hi u, .int 1 v] }
  | .frz o u => h.get? a = some o ∧ ObjOk H h a u
  | .tbl ps => h.get? a = some { cls := .none, data := .fields ps }
  | .met f x => h.get? a = some (PySem.W.methodObj (.ref f) (.ref x))
  | .ext φ => φ h ∧ (∃ o, h.get? a = some o) ∧ ∀ h1 h2 : Heap, φ h1 → (∀ o, h1.get? a = some o → h2.get? a = some o) → φ h2
noncomputable def HOk (H : Hp) (h : Heap) : Prop := ∀ a o, H a = some o → ObjOk P w H h a o
end

section
variable {P : Program} {w : World} {H H' : Hp} {h h' : Heap} {a : Addr} {o : HO}
theorem ObjOk.lt (x : ObjOk P w H h a o) : a < h.objs.size := by
  cases o with
  | lst xs => obtain ⟨_, _, _, _, e⟩ := x; exact Heap.lt_size e
  | tup xs => obtain ⟨_, _, _, p⟩ := x; exact p.lt
  | dK kvs => obtain ⟨_, _, _, _, o, _, _, e, _⟩ := x; exact Heap.lt_size e
  | dT kvs => obtain ⟨_, _, _, _, o, _, _, e, _⟩ := x; exact Heap.lt_size e
  | set S n => obtain ⟨o, _, _, _, e, _⟩ := x; exact Heap.lt_size e
  | ins C dx fs => obtain ⟨_, _, _, e, _⟩ := x; exact Heap.lt_size e
  | own y => obtain ⟨_, e⟩ := x; exact Heap.lt_size e
  | xd fs => obtain ⟨_, ⟨_, _, _, e, _⟩, _⟩ := x; exact Heap.lt_size e
  | rng lo hi => obtain ⟨_, _, _, e⟩ := x; exact Heap.lt_size e
  | frz ob u => obtain ⟨e, _⟩ := x; exact Heap.lt_size e
  | tbl ps => exact Heap.lt_size (show h.get? a = some _ from x)
  | met f y => exact Heap.lt_size (show h.get? a = some _ from x)
  | ext φ => obtain ⟨_, ⟨_, e⟩, _⟩ := x; exact Heap.lt_size e
theorem Paired.mapP {α β : Type} {F G : α → β → Prop} {l₁ : List α} {l₂ : List β} (h : Paired F l₁ l₂) (f : ∀ a b, F a b → G a b) : Paired G l₁ l₂ := by
  induction h with
  | nil => exact .nil
  | cons r t ih => exact .cons (f _ _ r) ih
theorem ObjOk.stay (x : ObjOk P w H h a o) (k : ∀ b u, (b = a ∨ H b = some (.own a)) → h.get? b = some u → h'.get? b = some u)
    (ho : ∀ b, H b = some (.own a) → H' b = some (.own a)) (ht : ∀ b xs, H b = some (.tup xs) → H' b = some (.tup xs)) : ObjOk P w H' h' a o := by
  induction o with
  | lst xs => obtain ⟨z, its, n, r, e⟩ := x; exact ⟨z, its, n, r, k _ _ (.inl rfl) e⟩
  | tup xs => obtain ⟨z, its, r, ob, e, c⟩ := x; exact ⟨z, its, r, ob, k _ _ (.inl rfl) e, c⟩
  | dK kvs => obtain ⟨z, y, vs, r, ob, es, ep, e, c⟩ := x; exact ⟨z, y, vs, r, ob, es, ep, k _ _ (.inl rfl) e, c⟩
  | dT kvs =>
    obtain ⟨z, y, xs, r, ob, es, ep, e, c⟩ := x
    exact ⟨z, y, xs, Paired.mapP r fun p q z => ⟨z.1, ht _ _ z.2.1, z.2.2⟩, ob, es, ep, k _ _ (.inl rfl) e, c⟩
  | set S n => obtain ⟨ob, es, ep, t, e, c⟩ := x; exact ⟨ob, es, ep, t, k _ _ (.inl rfl) e, c⟩
  | ins C dx fs =>
    obtain ⟨d, z, ne, e, mA, ⟨od, es, ep, e2, c⟩, r⟩ := x
    exact ⟨ho _ d, z, ne, k _ _ (.inl rfl) e, mA, ⟨od, es, ep, k _ _ (.inr d) e2, c⟩, r⟩
  | own y => obtain ⟨ob, e⟩ := x; exact ⟨ob, k _ _ (.inl rfl) e⟩
  | xd fs => obtain ⟨mA, ⟨od, es, ep, e, c⟩, r⟩ := x; exact ⟨mA, ⟨od, es, ep, k _ _ (.inl rfl) e, c⟩, r⟩
  | rng lo hi => obtain ⟨t, u, v, e⟩ := x; exact ⟨t, u, v, k _ _ (.inl rfl) e⟩
  | frz ob u ih => obtain ⟨e, q⟩ := x; exact ⟨k _ _ (.inl rfl) e, ih q⟩
  | tbl ps =>
    have e : h.get? a = some { cls := .none, data := .fields ps } := x
    show h'.get? a = some { cls := .none, data := .fields ps }
    exact k a _ (.inl rfl) e
  | met f y =>
    have e : h.get? a = some (PySem.W.methodObj (.ref f) (.ref y)) := x
    show h'.get? a = some (PySem.W.methodObj (.ref f) (.ref y))
    exact k a _ (.inl rfl) e
  | ext φ => obtain ⟨p, ⟨o, e⟩, st⟩ := x; exact ⟨st _ _ p fun o q => k _ _ (.inl rfl) q, ⟨o, k _ _ (.inl rfl) e⟩, st⟩
theorem HOk.lt (x : HOk P w H h) (e : H a = some o) : a < h.objs.size := (x a o e).lt
theorem HOk.fresh (x : HOk P w H h) (e : h.objs.size ≤ a) : H a = none := by
  cases q : H a with
  | none => rfl
  | some u => exact absurd (Nat.lt_of_lt_of_le (x.lt q) e) (Nat.lt_irrefl _)
theorem HOk.kept (x : HOk P w H h) (k : ∀ b u, h.get? b = some u → h'.get? b = some u) : HOk P w H h' := fun a o e =>
  (x a o e).stay (fun b u _ q => k b u q) (fun _ q => q) fun _ _ q => q
theorem HOk.laid (x : HOk P w H h) (k : ∀ b u, h.get? b = some u → h'.get? b = some u) (hp : h.objs.size ≤ a) (new : ObjOk P w (upd H a o) h' a o) : HOk P w (upd H a o) h' := fun b u e => by
  have hn := x.fresh hp
  by_cases hb : b = a
  · subst hb; rw [upd_same] at e; cases e; exact new
  · rw [upd_ne hb] at e
    exact (x b u e).stay (fun c v _ q => k c v q) (fun c q => by rw [upd_ne (ne_of_none q hn)]; exact q) fun c xs q => by rw [upd_ne (ne_of_none q hn)]; exact q
end

noncomputable def Rd (H : Hp) (a : Addr) (u : HO) : Prop := H a = some u ∨ ∃ o, H a = some (.frz o u)
theorem Rd.ok {P : Program} {w : World} {H : Hp} {h : Heap} {a : Addr} {u : HO} (r : Rd H a u) (x : HOk P w H h) : ObjOk P w H h a u := by
  rcases r with r | ⟨o, r⟩
  · exact x a u r
  · obtain ⟨_, q⟩ := x a _ r
    exact q
noncomputable def Mut : Option HO → Prop
  | some (.lst _) => True
  | some (.dK _) => True
  | some (.dT _) => True
  | some (.set _ _) => True
  | some (.ins _ _ _) => True
  | some (.ext _) => True
  | _ => False
section
variable {P : Program} {w : World} {H : Hp} {h h' : Heap} {x e : Addr} {o' : HO}
theorem HOk.write (ok : HOk P w H h) (mu : Mut (H x)) (he : e = x ∨ H e = some (.own x)) (k : ∀ b u, b ≠ e → h.get? b = some u → h'.get? b = some u) (heo : ∃ u, h'.get? e = some u)
    (new : ObjOk P w (upd H x o') h' x o') : HOk P w (upd H x o') h' := fun b u q => by
  have nown : ∀ c y, H c = some (.own y) → c ≠ x := fun c y r z => by subst z; rw [r] at mu; exact mu
  have ntup : ∀ c xs, H c = some (.tup xs) → c ≠ x := fun c xs r z => by subst z; rw [r] at mu; exact mu
  by_cases hb : b = x
  · subst hb; rw [upd_same] at q; cases q; exact new
  · rw [upd_ne hb] at q
    by_cases hbe : b = e
    · have q' : H b = some (.own x) := by
        rcases he with z | z
        · exact absurd (hbe.trans z) hb
        · rw [hbe]; exact z
      rw [q] at q'; cases q'
      obtain ⟨v, hv⟩ := heo
      exact ⟨v, by rw [hbe]; exact hv⟩
    · refine (ok b u q).stay (fun c v hc r => k c v ?_ r) (fun c r => by rw [upd_ne (nown c b r)]; exact r) fun c xs r => by rw [upd_ne (ntup c xs r)]; exact r
      rcases hc with rfl | hc
      · exact hbe
      · rintro rfl
        rcases he with z | z
        · exact nown c b hc z
        · rw [hc] at z; cases z; exact hb rfl
end

/-! ### kept unless tracked; of the frames at fs (the callers') the slots may change (an exception that passes writes there); of the records at ex (iterators) nothing is said -/
structure Un (fs ex : List Addr) (H H' : Hp) (h h' : Heap) : Prop where
  keep : ∀ b o, h.get? b = some o → H b = none → b ∉ fs → b ∉ ex → h'.get? b = some o
  slot : ∀ b o, h.get? b = some o → H b = none → b ∈ fs → b ∉ ex → ∃ sl, h'.get? b = some { o with slots := sl }
  free : ∀ b o, h.get? b = some o → H b = none → b ∉ ex → H' b = none
  there : ∀ b o, h.get? b = some o → b ∉ ex → ∃ o', h'.get? b = some o'
  tups : ∀ b xs, H b = some (.tup xs) → H' b = some (.tup xs)
  frzs : ∀ b o u, H b = some (.frz o u) → H' b = some (.frz o u)
  tbls : ∀ b ps, H b = some (.tbl ps) → ∃ more, H' b = some (.tbl (ps ++ more))
section
variable {fs fs' ex ex' : List Addr} {H H1 H2 : Hp} {h h1 h2 h' : Heap} {a x e : Addr} {o : HO}
theorem Un.any (u : Un fs ex H H1 h h1) {b : Addr} {ob : Obj} (q : h.get? b = some ob) (n : H b = none) (hx : b ∉ ex) : ∃ sl, h1.get? b = some { ob with slots := sl } := by
  by_cases hb : b ∈ fs
  · exact u.slot b ob q n hb hx
  · exact ⟨ob.slots, u.keep b ob q n hb hx⟩
theorem Un.kept (k : ∀ b u, h.get? b = some u → h'.get? b = some u) : Un fs ex H H h h' :=
  ⟨fun b ob q _ _ _ => k b ob q, fun b ob q _ _ _ => ⟨ob.slots, k b ob q⟩, fun _ _ _ n _ => n, fun b ob q _ => ⟨ob, k b ob q⟩, fun _ _ q => q, fun _ _ _ q => q, fun _ ps q => ⟨#[], by rw [q]; simp⟩⟩
theorem Un.refl : Un fs ex H H h h := Un.kept fun _ _ q => q
theorem Un.laid (k : ∀ b u, h.get? b = some u → h'.get? b = some u) (hp : h.objs.size ≤ a) (hn : H a = none) : Un fs ex H (upd H a o) h h' where
  keep := fun b u q _ _ _ => k b u q
  slot := fun b u q _ _ _ => ⟨u.slots, k b u q⟩
  free := fun b u q n _ => by rw [upd_ne (Nat.ne_of_lt (Nat.lt_of_lt_of_le (Heap.lt_size q) hp))]; exact n
  there := fun b u q _ => ⟨u, k b u q⟩
  tups := fun b xs q => by rw [upd_ne (ne_of_none q hn)]; exact q
  frzs := fun b u xs q => by rw [upd_ne (ne_of_none q hn)]; exact q
  tbls := fun b ps q => ⟨#[], by rw [upd_ne (ne_of_none q hn), q]; simp⟩
theorem Un.write (mu : Mut (H x)) (he : e = x ∨ H e = some (.own x)) (k : ∀ b u, b ≠ e → h.get? b = some u → h'.get? b = some u) (heo : ∃ u, h'.get? e = some u) : Un fs ex H (upd H x o) h h' := by
  have hx : ∀ b, H b = none → b ≠ x := fun b n z => by subst z; rw [n] at mu; exact mu
  have hb : ∀ b, H b = none → b ≠ e := fun b n z => by
    subst z
    rcases he with r | r
    · exact hx b n r
    · rw [n] at r; cases r
  have hm : ∀ b u, H b = some u → ¬ Mut (some u) → b ≠ x := fun b u q nm z => by subst z; rw [q] at mu; exact nm mu
  refine ⟨fun b u q n _ _ => k b u (hb b n) q, fun b u q n _ _ => ⟨u.slots, k b u (hb b n) q⟩, fun b u q n _ => by rw [upd_ne (hx b n)]; exact n, fun b u q _ => ?_,
    fun b xs q => by rw [upd_ne (hm b _ q fun z => z)]; exact q, fun b u xs q => by rw [upd_ne (hm b _ q fun z => z)]; exact q, fun b ps q => ⟨#[], by rw [upd_ne (hm b _ q fun z => z), q]; simp⟩⟩
  by_cases hbe : b = e
  · subst hbe; exact heo
  · exact ⟨u, k b u hbe q⟩
end

/-! ### the heap without what is tracked -/
noncomputable def trk (h : Heap) (H : Hp) : List Addr := (List.range h.objs.size).filter fun a => (H a).isSome
noncomputable def hidT (h : Heap) (H : Hp) : Heap := PySem.W.hideAll h (trk h H)
theorem hidT_size (h : Heap) (H : Hp) : (hidT h H).objs.size = h.objs.size := PySem.W.hideAll_size _ _
theorem hidT_get {h : Heap} {H : Hp} {b : Addr} {o : Obj} (e : h.get? b = some o) (n : H b = none) : (hidT h H).get? b = some o :=
  PySem.W.hideAll_get _ e fun hm => by
    have q : (H b).isSome = true := (List.mem_filter.mp hm).2
    rw [n] at q; simp at q
theorem of_hidT {h : Heap} {H : Hp} {b : Addr} {o : Obj} (e : (hidT h H).get? b = some o) : h.get? b = some o ∧ H b = none := by
  have e' : h.get? b = some o := PySem.W.of_hideAll (trk h H) e
  refine ⟨e', ?_⟩
  cases q : H b with
  | none => rfl
  | some x =>
    have hm : b ∈ trk h H := List.mem_filter.mpr ⟨List.mem_range.mpr (Heap.lt_size e'), by simp [q]⟩
    have z : (hidT h H).get? b = none := PySem.W.hideAll_none (trk h H) hm
    rw [z] at e; cases e

/-! ### OpenK's ledger, filled with every new object but one -/
end L2

namespace L2
open PySem PySem.Spec PyProof.Rows

structure Mod (K : PySem.W.Frag) (mg : Str → Option Value) (base : Heap) : Prop where
  kin : K.In base
  glob : base.Ns mainGlobals mg
  blt : ∃ mb, base.Ns builtinsNs mb ∧ ∀ x : Str, x ≠ "__name__" → mb x = bootBuiltins x
  nolimit : base.NoLimit

structure Cx where
  prog : Program
  w : World
  K : PySem.W.Frag
  mg : Str → Option Value
  base : Heap
  A : Around
  N : List Str
  s₀ : Shared
  H₀ : Hp
  env : Env
  outer : List Env
  stack : List Env
  ex : List Addr
  fn : Str → Bool
  calm : Bool
  pn : List (Addr × Obj)
  xe : Value → Shared → Prop
noncomputable def frs (l : List Env) : List Addr := l.filterMap (·.frame)
noncomputable abbrev Cx.fs (X : Cx) : List Addr := frs X.outer

noncomputable def Vis (sc : Scope) (x : Str) : Prop := sc.names.lookup x = some .local ∨ sc.names.lookup x = some .cell ∨ sc.names.lookup x = some .free
noncomputable def Loc (sc : Scope) (x : Str) : Prop := sc.names.lookup x = some .local ∨ sc.names.lookup x = some .cell
noncomputable def Look (env : Env) (h : Heap) (m : Str → Option Value) (x : Str) (u : Value) : Prop :=
  (env.kindOf x = some .local ∧ m x = some u) ∨ ((env.kindOf x = some .cell ∨ env.kindOf x = some .free) ∧ ∃ c, env.cells.lookup x = some c ∧ h.IsCell c (some u))

structure Cx.Ok (X : Cx) : Prop where
  mod : Mod X.K X.mg X.base
  kind : X.env.scope.kind = .function
  glob : X.env.globals = mainGlobals
  blt : X.env.builtins = builtinsNs
  above : X.s₀.heap.objs.size ≤ X.env.locals
  inj : ∀ x y c, X.env.cells.lookup x = some c → X.env.cells.lookup y = some c → x = y
  has : ∀ x, (X.env.kindOf x = some .cell ∨ X.env.kindOf x = some .free) → ∃ c, X.env.cells.lookup x = some c
  cab : ∀ x c, X.fn x = true → X.env.cells.lookup x = some c → X.s₀.heap.objs.size ≤ c
  hd : X.calm = true → X.A.handled = none
  frames : X.A.frames = some X.stack
  stk : X.stack = X.outer ∨ (X.stack = X.env :: X.outer ∧ X.env.frame = some X.env.locals)
  exf : ∀ b ∈ X.ex, b ≠ X.env.locals ∧ ∀ x c, X.env.cells.lookup x = some c → c ≠ b
  bs : ∀ b o, X.base.get? b = some o → X.s₀.heap.get? b = some o ∧ X.H₀ b = none
  bsz : X.base.objs.size ≤ X.s₀.heap.objs.size
  noex : ∀ b o, X.base.get? b = some o → b ∉ X.ex
  exfs : ∀ b ∈ X.ex, b ∉ X.fs
  funs : X.s₀.heap.FunFrames X.base X.outer
  frf : ∀ b ∈ X.fs, X.H₀ b = none

structure Inv (X : Cx) (pins : List (Addr × Obj)) (σ : List (Option V)) (H : Hp) (s : Shared) : Prop where
  ok : X.Ok
  os : s.os = X.s₀.os
  bare : AllBare s.gens
  base : Un X.fs X.ex X.H₀ H X.s₀.heap s.heap
  loc : ∃ m, s.heap.Ns X.env.locals m ∧ ∀ (i : Nat) (x : Str) (v : V), X.N[i]? = some x → σ[i]? = some (some v) → Vis X.env.scope x → ∃ u, RelV v u ∧ Look X.env s.heap m x u
  cell : ∀ x c, X.env.cells.lookup x = some c → ∃ v, s.heap.IsCell c v
  free : H X.env.locals = none
  freeC : ∀ x c, X.env.cells.lookup x = some c → H c = none
  pin : ∀ p ∈ X.pn ++ pins, s.heap.get? p.1 = some p.2 ∧ H p.1 = none ∧ p.1 ≠ X.env.locals ∧ p.1 ∉ X.fs ∧ ∀ v, p.2.data ≠ .cell v
  hok : HOk X.prog X.w H s.heap
  len : σ.length = X.N.length

section
variable {X : Cx} {pins : List (Addr × Obj)} {σ : List (Option V)} {H H' : Hp} {s : Shared} {h' : Heap}

theorem Cx.Ok.nofr (ok : X.Ok) {b : Addr} {o : Obj} (e : X.base.get? b = some o) : b ∉ X.fs := fun hb => by
  have := (ok.funs.mem hb).1
  rw [e] at this; cases this
theorem Inv.bs (I : Inv X pins σ H s) : ∀ b o, X.base.get? b = some o → s.heap.get? b = some o ∧ H b = none := fun b o e =>
  ⟨I.base.keep b o (I.ok.bs b o e).1 (I.ok.bs b o e).2 (I.ok.nofr e) (I.ok.noex b o e), I.base.free b o (I.ok.bs b o e).1 (I.ok.bs b o e).2 (I.ok.noex b o e)⟩
theorem Inv.bk (I : Inv X pins σ H s) : ∀ b o, X.base.get? b = some o → s.heap.get? b = some o := fun b o e => (I.bs b o e).1
theorem Inv.mod (I : Inv X pins σ H s) : Mod X.K X.mg X.base := I.ok.mod
theorem Inv.kIn (I : Inv X pins σ H s) : X.K.In s.heap := I.ok.mod.kin.keeps I.bk
theorem Inv.lt (I : Inv X pins σ H s) : X.env.locals < s.heap.objs.size := let ⟨_, hn, _⟩ := I.loc; hn.lt
theorem Inv.sz (I : Inv X pins σ H s) : X.s₀.heap.objs.size ≤ s.heap.objs.size := Nat.le_trans I.ok.above (Nat.le_of_lt I.lt)
theorem Inv.nofs (I : Inv X pins σ H s) {a : Addr} (h : s.heap.objs.size ≤ a) : a ∉ X.fs := fun hb => by
  obtain ⟨_, o, ho, _⟩ := I.ok.funs.mem hb
  exact absurd (Nat.lt_of_lt_of_le (Heap.lt_size ho) (Nat.le_trans I.sz h)) (Nat.lt_irrefl _)
theorem Inv.cne (I : Inv X pins σ H s) : ∀ x c, X.env.cells.lookup x = some c → c ≠ X.env.locals := fun x c e z => by
  obtain ⟨v, o, ho, hd⟩ := I.cell x c e
  obtain ⟨m, ⟨o', es, ep, ho', hd', _⟩, _⟩ := I.loc
  rw [z, ho'] at ho; cases ho; rw [hd'] at hd; cases hd
theorem Inv.funs (I : Inv X pins σ H s) : s.heap.FunFrames X.base X.outer := by
  have all : ∀ (l : List Env), (∀ b ∈ frs l, b ∈ X.fs) → X.s₀.heap.FunFrames X.base l → s.heap.FunFrames X.base l := by
    intro l
    induction l with
    | nil => intro _ _; trivial
    | cons env r ih =>
      intro hs hl
      obtain ⟨hk, ⟨L, o, hf, hn, ho, hd⟩, hr⟩ := hl
      have hL : L ∈ X.fs := hs L (by unfold frs; rw [List.filterMap_cons, hf]; exact List.mem_cons_self)
      obtain ⟨sl, e⟩ := I.base.slot L o ho (I.ok.frf L hL) hL fun z => I.ok.exfs L z hL
      exact ⟨hk, ⟨L, _, hf, hn, e, hd⟩, ih (fun b hb => hs b (by unfold frs; rw [List.filterMap_cons, hf]; exact List.mem_cons_of_mem _ hb)) hr⟩
  exact all X.outer (fun _ hb => hb) I.ok.funs

theorem Inv.stack (I : Inv X pins σ H s) : s.heap.FunFrames X.base X.stack := by
  rcases I.ok.stk with e | ⟨e, hf⟩
  · rw [e]; exact I.funs
  · rw [e]
    obtain ⟨m, hn, _⟩ := I.loc
    refine .cons (by rw [I.ok.kind]; decide) hf hn ?_ I.funs
    exact Heap.get?_none_of_le (Nat.le_trans I.ok.bsz I.ok.above)
theorem Inv.stkSub (I : Inv X pins σ H s) : ∀ b ∈ frs X.stack, b ∈ X.env.locals :: X.fs := fun b hb => by
  rcases I.ok.stk with e | ⟨e, hf⟩
  · rw [e] at hb; exact List.mem_cons_of_mem _ hb
  · rw [e] at hb
    unfold frs at hb
    rw [List.filterMap_cons, hf] at hb
    exact hb
theorem Inv.stkFree (I : Inv X pins σ H s) : ∀ b ∈ frs X.stack, H b = none := fun b hb => by
  rcases List.mem_cons.mp (I.stkSub b hb) with e | hb
  · rw [e]; exact I.free
  · obtain ⟨_, o, ho, _⟩ := I.ok.funs.mem hb
    exact I.base.free b o ho (I.ok.frf b hb) fun z => I.ok.exfs b z hb

theorem Inv.step {g' : Array GenState} {t' : Nat} {d' : Drawn} {ch : List Addr} (I : Inv X pins σ H s)
    (hch : ∀ b ∈ ch, (b ∈ X.ex ∨ X.s₀.heap.objs.size ≤ b) ∧ b ≠ X.env.locals ∧ (∀ x c, X.env.cells.lookup x = some c → c ≠ b) ∧ ∀ p ∈ X.pn ++ pins, p.1 ≠ b)
    (keep : ∀ b o, b ≠ X.env.locals → b ∉ X.fs → b ∉ ch → s.heap.get? b = some o → H b = none → h'.get? b = some o)
    (slot : ∀ b o, b ≠ X.env.locals → b ∈ X.fs → b ∉ ch → s.heap.get? b = some o → H b = none → ∃ sl, h'.get? b = some { o with slots := sl }) (free : ∀ b o, b ∉ ch → s.heap.get? b = some o → H b = none → H' b = none)
    (there : ∀ b o, b ∉ ch → s.heap.get? b = some o → ∃ o', h'.get? b = some o')
    (tups : ∀ b xs, H b = some (.tup xs) → H' b = some (.tup xs)) (frzs : ∀ b o u, H b = some (.frz o u) → H' b = some (.frz o u)) (tbls : ∀ b ps, H b = some (.tbl ps) → ∃ more, H' b = some (.tbl (ps ++ more)))
    (ns : ∀ m, s.heap.Ns X.env.locals m → h'.Ns X.env.locals m) (hok : HOk X.prog X.w H' h') (hg : AllBare g') :
    Inv X pins σ H' { s with heap := h', gens := g', drawn := d', toks := t' } := by
  have neL : ∀ b o, X.s₀.heap.get? b = some o → b ≠ X.env.locals := fun b o e => Nat.ne_of_lt (Nat.lt_of_lt_of_le (Heap.lt_size e) I.ok.above)
  have neC : ∀ b o, X.s₀.heap.get? b = some o → b ∉ X.ex → b ∉ ch := fun b o e hx hb => by
    rcases (hch b hb).1 with z | z
    · exact hx z
    · exact absurd (Nat.lt_of_lt_of_le (Heap.lt_size e) z) (Nat.lt_irrefl _)
  have cellK : ∀ x c, X.env.cells.lookup x = some c → ∀ v, s.heap.IsCell c v → h'.IsCell c v := fun x c e v ⟨o, ho, hd⟩ => by
    have nch : c ∉ ch := fun z => (hch c z).2.2.1 x c e rfl
    by_cases hc : c ∈ X.fs
    · obtain ⟨sl, q⟩ := slot c o (I.cne x c e) hc nch ho (I.freeC x c e)
      exact ⟨_, q, hd⟩
    · exact ⟨o, keep c o (I.cne x c e) hc nch ho (I.freeC x c e), hd⟩
  refine ⟨I.ok, I.os, hg, ⟨fun b o e n hb hx => ?_, fun b o e n hb hx => ?_, fun b o e n hx => ?_, fun b o e hx => ?_, fun b xs e => tups b xs (I.base.tups b xs e), fun b o xs e => frzs b o xs (I.base.frzs b o xs e), fun b ps e => ?_⟩, ?_, fun x c e => ?_, ?_, fun x c e => ?_, fun p hp => ?_, hok, I.len⟩
  · exact keep b o (neL b o e) hb (neC b o e hx) (I.base.keep b o e n hb hx) (I.base.free b o e n hx)
  · obtain ⟨sl, e1⟩ := I.base.slot b o e n hb hx
    obtain ⟨sl', e2⟩ := slot b _ (neL b o e) hb (neC b o e hx) e1 (I.base.free b o e n hx)
    exact ⟨sl', e2⟩
  · obtain ⟨o', e1⟩ := I.base.there b o e hx
    exact free b o' (neC b o e hx) e1 (I.base.free b o e n hx)
  · obtain ⟨o', e1⟩ := I.base.there b o e hx
    exact there b o' (neC b o e hx) e1
  · obtain ⟨m1, e1⟩ := I.base.tbls b ps e
    obtain ⟨m2, e2⟩ := tbls b _ e1
    exact ⟨m1 ++ m2, by rw [e2, Array.append_assoc]⟩
  · obtain ⟨m, hn, hl⟩ := I.loc
    refine ⟨m, ns m hn, fun i x v e1 e2 e3 => ?_⟩
    obtain ⟨u, r, l⟩ := hl i x v e1 e2 e3
    refine ⟨u, r, ?_⟩
    rcases l with l | ⟨k, c, e, z⟩
    · exact .inl l
    · exact .inr ⟨k, c, e, cellK x c e _ z⟩
  · obtain ⟨v, z⟩ := I.cell x c e
    exact ⟨v, cellK x c e v z⟩
  · obtain ⟨m, ⟨o, _, _, ho, _⟩, _⟩ := I.loc
    exact free _ o (fun z => (hch _ z).2.1 rfl) ho I.free
  · obtain ⟨v, o, ho, hd⟩ := I.cell x c e
    exact free c o (fun z => (hch c z).2.2.1 x c e rfl) ho (I.freeC x c e)
  · obtain ⟨e, n, ne, nf, d⟩ := I.pin p hp
    have nch : p.1 ∉ ch := fun z => (hch p.1 z).2.2.2 p hp rfl
    exact ⟨keep p.1 p.2 ne nf nch e n, free p.1 p.2 nch e n, ne, nf, d⟩
theorem Inv.un {t' : Nat} (I : Inv X pins σ H s) (u : Un X.fs [] H H' s.heap h') (hok : HOk X.prog X.w H' h') : Inv X pins σ H' { s with heap := h', toks := t' } := by
  obtain ⟨m, ⟨o, es, ep, ho, r⟩, _⟩ := id I.loc
  obtain ⟨sl, hL⟩ := u.any ho I.free (by simp)
  exact I.step (g' := s.gens) (d' := s.drawn) (ch := []) (fun _ z => nomatch z) (fun b o _ hb _ e n => u.keep b o e n hb (by simp)) (fun b o _ hb _ e n => u.slot b o e n hb (by simp)) (fun b o _ e n => u.free b o e n (by simp)) (fun b o _ e => u.there b o e (by simp)) u.tups u.frzs u.tbls (fun m' hm => by
    obtain ⟨o', es', ep', ho', r'⟩ := hm
    rw [ho] at ho'; cases ho'
    exact ⟨_, es', ep', hL, r'⟩) hok I.bare
theorem Inv.call {g' : Array GenState} {t' : Nat} {d' : Drawn} {ch : List Addr} (I : Inv X pins σ H s) (u : Un (frs X.stack) ch H H' s.heap h') (hok : HOk X.prog X.w H' h') (hg : AllBare g')
    (hch : ∀ b ∈ ch, (b ∈ X.ex ∨ X.s₀.heap.objs.size ≤ b) ∧ b ≠ X.env.locals ∧ (∀ x c, X.env.cells.lookup x = some c → c ≠ b) ∧ ∀ p ∈ X.pn ++ pins, p.1 ≠ b) :
    Inv X pins σ H' { s with heap := h', gens := g', drawn := d', toks := t' } := by
  obtain ⟨m, ⟨o, es, ep, ho, r⟩, _⟩ := id I.loc
  obtain ⟨sl, hL⟩ := u.any ho I.free fun z => (hch _ z).2.1 rfl
  exact I.step (ch := ch) hch (fun b o hL hb hc e n => u.keep b o e n (fun z => (List.mem_cons.mp (I.stkSub b z)).elim hL hb) hc) (fun b o _ _ hc e n => u.any e n hc) (fun b o hc e n => u.free b o e n hc) (fun b o hc e => u.there b o e hc) u.tups u.frzs u.tbls (fun m' hm => by
    obtain ⟨o', es', ep', ho', r'⟩ := hm
    rw [ho] at ho'; cases ho'
    exact ⟨_, es', ep', hL, r'⟩) hok hg
theorem Inv.turned {t' : Nat} {it : Addr} (I : Inv X pins σ H s) (k : ∀ b o, b ≠ it → s.heap.get? b = some o → h'.get? b = some o) (hn : H it = none) (hL : it ≠ X.env.locals)
    (h1 : it ∈ X.ex ∨ X.s₀.heap.objs.size ≤ it) (h2 : ∀ x c, X.env.cells.lookup x = some c → c ≠ it) (h3 : ∀ p ∈ X.pn ++ pins, p.1 ≠ it) : Inv X pins σ H { s with heap := h', toks := t' } := by
  have nit : ∀ b u, H b = some u → b ≠ it := fun b u e z => by rw [z, hn] at e; cases e
  refine I.step (g' := s.gens) (d' := s.drawn) (ch := [it]) (fun b hb => ?_) (fun b o _ _ hc e _ => k b o (fun z => hc (by simp [z])) e) (fun b o _ _ hc e _ => ⟨o.slots, k b o (fun z => hc (by simp [z])) e⟩) (fun _ _ _ _ n => n)
    (fun b o hc e => ⟨o, k b o (fun z => hc (by simp [z])) e⟩) (fun _ _ e => e) (fun _ _ _ e => e) (fun b ps e => ⟨#[], by rw [e]; simp⟩) (fun m hm => ?_) (fun b u e => ?_) I.bare
  · have e : b = it := by simpa using hb
    subst e
    exact ⟨h1, hL, h2, h3⟩
  · obtain ⟨o, es, ep, ho, r⟩ := hm
    exact ⟨o, es, ep, k _ o (Ne.symm hL) ho, r⟩
  · refine (I.hok b u e).stay (fun c v hc q => k c v ?_ q) (fun _ q => q) fun _ _ q => q
    rcases hc with z | z
    · rw [z]; exact nit b u e
    · exact nit c _ z
theorem Inv.tok (I : Inv X pins σ H s) (t : Nat) : Inv X pins σ H { s with toks := t } := I.un (h' := s.heap) (t' := t) Un.refl I.hok
theorem Inv.kept {t' : Nat} (I : Inv X pins σ H s) (k : ∀ b u, s.heap.get? b = some u → h'.get? b = some u) : Inv X pins σ H { s with heap := h', toks := t' } := I.un (Un.kept k) (I.hok.kept k)
theorem Inv.laid {a : Addr} {o : HO} {t' : Nat} (I : Inv X pins σ H s) (k : ∀ b u, s.heap.get? b = some u → h'.get? b = some u) (hp : s.heap.objs.size ≤ a) (new : ObjOk X.prog X.w (upd H a o) h' a o) :
    Inv X pins σ (upd H a o) { s with heap := h', toks := t' } := I.un (Un.laid k hp (I.hok.fresh hp)) (I.hok.laid k hp new)
theorem Inv.write {x e : Addr} {o : HO} {t' : Nat} (I : Inv X pins σ H s) (mu : Mut (H x)) (he : e = x ∨ H e = some (.own x)) (k : ∀ b u, b ≠ e → s.heap.get? b = some u → h'.get? b = some u) (heo : ∃ u, h'.get? e = some u)
    (new : ObjOk X.prog X.w (upd H x o) h' x o) : Inv X pins σ (upd H x o) { s with heap := h', toks := t' } := I.un (Un.write mu he k heo) (I.hok.write mu he k heo new)
theorem Inv.pins_of {pins' : List (Addr × Obj)} (I : Inv X pins σ H s) (h : ∀ p ∈ pins', s.heap.get? p.1 = some p.2 ∧ H p.1 = none ∧ p.1 ≠ X.env.locals ∧ p.1 ∉ X.fs ∧ ∀ v, p.2.data ≠ .cell v) : Inv X pins' σ H s :=
  ⟨I.ok, I.os, I.bare, I.base, I.loc, I.cell, I.free, I.freeC, fun p hp => (List.mem_append.mp hp).elim (fun z => I.pin p (List.mem_append_left _ z)) (h p), I.hok, I.len⟩

theorem nodup_ix {N : List Str} (hN : N.Nodup) {i j : Nat} {x : Str} (a : N[i]? = some x) (b : N[j]? = some x) : i = j := by
  obtain ⟨h1, e1⟩ := List.getElem?_eq_some_iff.mp a
  obtain ⟨h2, e2⟩ := List.getElem?_eq_some_iff.mp b
  exact (List.getElem_inj hN).mp (e1.trans e2.symm)

theorem store_ok2 {M : Model} {A : Around} {E : Value → Shared → Prop} {i : Nat} {x : Str} {v : V} {u : Value} {Q : Unit → Shared → Prop} (I : Inv X pins σ H s) (hN : X.N.Nodup) (hi : X.N[i]? = some x) (hx : Loc X.env.scope x) (r : RelV v u)
    (h : ∀ s', Inv X pins (σ.set i (some v)) H s' → (∃ a, Heap.SameBut a s.heap s'.heap ∧ (a = X.env.locals ∨ X.env.cells.lookup x = some a)) → Q () s') (hf : X.fn x = true ∨ X.env.scope.names.lookup x = some .local := by first | exact .inl rfl | exact .inr rfl | assumption) : wpAny M A (storeName X.env x u) Q E s := by
  obtain ⟨m, hn, hl⟩ := id I.loc
  have hcls : (X.env.scope.kind == .class || (X.env.scope.kind == .module && X.env.locals != X.env.globals)) = false := by rw [I.ok.kind]; rfl
  have hiσ : i < σ.length := by rw [I.len]; exact (List.getElem?_eq_some_iff.mp hi).1
  have cne := I.cne
  have tracked : ∀ {a : Addr} {h' : Heap}, (∃ o, s.heap.get? a = some o ∧ H a = none) → Heap.SameBut a s.heap h' → HOk X.prog X.w H h' := fun {a h'} ha hs b ob e => by
    obtain ⟨_, _, hfree⟩ := ha
    refine (I.hok b ob e).stay (fun c w' hc q => (hs.2 c ?_).trans q) (fun _ q => q) fun _ _ q => q
    rintro rfl
    rcases hc with rfl | hc
    · rw [hfree] at e; cases e
    · rw [hfree] at hc; cases hc
  rcases hx with hk | hk
  · refine wpAny_storeName_local hk hn (fun h' hn' hs => ?_) hcls
    obtain ⟨oL, _, _, hoL, _⟩ := id hn
    refine h _ ⟨I.ok, I.os, I.bare, ⟨fun b o e n hb hx => ?_, fun b o e n hb hx => ?_, I.base.free, fun b o e hx => ?_, I.base.tups, I.base.frzs, I.base.tbls⟩, ⟨_, hn', fun j y v' e1 e2 e3 => ?_⟩, fun y c e => ?_, I.free, I.freeC, fun p hp => ?_, tracked ⟨oL, hoL, I.free⟩ hs, by simpa using I.len⟩ ⟨_, hs, .inl rfl⟩
    · exact (hs.2 b (Nat.ne_of_lt (Nat.lt_of_lt_of_le (Heap.lt_size e) I.ok.above))).trans (I.base.keep b o e n hb hx)
    · obtain ⟨sl, e1⟩ := I.base.slot b o e n hb hx
      exact ⟨sl, (hs.2 b (Nat.ne_of_lt (Nat.lt_of_lt_of_le (Heap.lt_size e) I.ok.above))).trans e1⟩
    · obtain ⟨o', e1⟩ := I.base.there b o e hx
      exact ⟨o', (hs.2 b (Nat.ne_of_lt (Nat.lt_of_lt_of_le (Heap.lt_size e) I.ok.above))).trans e1⟩
    · by_cases hj : j = i
      · subst hj
        rw [hi] at e1; cases e1
        rw [List.getElem?_set_self hiσ] at e2
        cases e2
        exact ⟨u, r, .inl ⟨hk, by simp⟩⟩
      · rw [List.getElem?_set_ne (Ne.symm hj)] at e2
        obtain ⟨u', r', q⟩ := hl j y v' e1 e2 e3
        refine ⟨u', r', ?_⟩
        rcases q with ⟨k, e⟩ | ⟨k, c, e, z⟩
        · refine .inl ⟨k, ?_⟩
          have : y ≠ x := fun e => hj (nodup_ix hN e1 (e ▸ hi))
          simp [this, e]
        · exact .inr ⟨k, c, e, z.sameBut hs (cne y c e)⟩
    · obtain ⟨w', z⟩ := I.cell y c e
      exact ⟨w', z.sameBut hs (cne y c e)⟩
    · obtain ⟨e, n, ne, nf, d⟩ := I.pin p hp
      exact ⟨(hs.2 p.1 ne).trans e, n, ne, nf, d⟩
  · have hfn : X.fn x = true := by
      rcases hf with z | z
      · exact z
      · rw [z] at hk; cases hk
    obtain ⟨c, hc⟩ := I.ok.has x (.inl hk)
    obtain ⟨w', z⟩ := I.cell x c hc
    refine wpAny_storeName_cell I.ok.kind hk hc z (fun h' hc' hs => ?_)
    obtain ⟨oc, hoc, hocd⟩ := id z
    refine h { s with heap := h' } ⟨I.ok, I.os, I.bare, ⟨fun b o e n hb hx => ?_, fun b o e n hb hx => ?_, I.base.free, fun b o e hx => ?_, I.base.tups, I.base.frzs, I.base.tbls⟩, ⟨m, hn.sameBut hs (Ne.symm (cne x c hc)), fun j y v' e1 e2 e3 => ?_⟩, fun y c' e => ?_, I.free, I.freeC, fun p hp => ?_, tracked ⟨oc, hoc, I.freeC x c hc⟩ hs, by simpa using I.len⟩ ⟨c, hs, .inr hc⟩
    · exact (hs.2 b (Nat.ne_of_lt (Nat.lt_of_lt_of_le (Heap.lt_size e) (I.ok.cab x c hfn hc)))).trans (I.base.keep b o e n hb hx)
    · obtain ⟨sl, e1⟩ := I.base.slot b o e n hb hx
      exact ⟨sl, (hs.2 b (Nat.ne_of_lt (Nat.lt_of_lt_of_le (Heap.lt_size e) (I.ok.cab x c hfn hc)))).trans e1⟩
    · obtain ⟨o', e1⟩ := I.base.there b o e hx
      exact ⟨o', (hs.2 b (Nat.ne_of_lt (Nat.lt_of_lt_of_le (Heap.lt_size e) (I.ok.cab x c hfn hc)))).trans e1⟩
    · by_cases hj : j = i
      · subst hj
        rw [hi] at e1; cases e1
        rw [List.getElem?_set_self hiσ] at e2
        cases e2
        exact ⟨u, r, .inr ⟨.inl hk, c, hc, hc'⟩⟩
      · rw [List.getElem?_set_ne (Ne.symm hj)] at e2
        obtain ⟨u', r', q⟩ := hl j y v' e1 e2 e3
        refine ⟨u', r', ?_⟩
        rcases q with q | ⟨k, c', e, z'⟩
        · exact .inl q
        · refine .inr ⟨k, c', e, z'.sameBut hs ?_⟩
          rintro rfl
          exact hj (nodup_ix hN e1 (I.ok.inj _ _ _ e hc ▸ hi))
    · by_cases hcc : c' = c
      · subst hcc; exact ⟨_, hc'⟩
      · obtain ⟨w2, z2⟩ := I.cell y c' e
        exact ⟨w2, z2.sameBut hs hcc⟩
    · obtain ⟨e, n, ne, nf, d⟩ := I.pin p hp
      refine ⟨(hs.2 p.1 ?_).trans e, n, ne, nf, d⟩
      intro q
      rw [q, hoc] at e
      have q' : oc = p.2 := Option.some.inj e
      exact d w' (by rw [← q']; exact hocd)
theorem store_ok {M : Model} {A : Around} {E : Value → Shared → Prop} {i : Nat} {x : Str} {v : V} {u : Value} {Q : Unit → Shared → Prop} (I : Inv X pins σ H s) (hN : X.N.Nodup) (hi : X.N[i]? = some x) (hx : Loc X.env.scope x) (r : RelV v u)
    (h : ∀ s', Inv X pins (σ.set i (some v)) H s' → Q () s') (hf : X.fn x = true ∨ X.env.scope.names.lookup x = some .local := by first | exact .inl rfl | exact .inr rfl | assumption) : wpAny M A (storeName X.env x u) Q E s :=
  store_ok2 I hN hi hx r (fun s' I' _ => h s' I') hf
theorem Inv.call' {s' : Shared} {ch : List Addr} (I : Inv X pins σ H s) (ho : s'.os = s.os) (u : Un (frs X.stack) ch H H' s.heap s'.heap) (hok : HOk X.prog X.w H' s'.heap) (hg : AllBare s'.gens)
    (hch : ∀ b ∈ ch, (b ∈ X.ex ∨ X.s₀.heap.objs.size ≤ b) ∧ b ≠ X.env.locals ∧ (∀ x c, X.env.cells.lookup x = some c → c ≠ b) ∧ ∀ p ∈ X.pn ++ pins, p.1 ≠ b) : Inv X pins σ H' s' := by
  obtain ⟨h', g', d', t', o'⟩ := s'
  have e : o' = s.os := ho
  subst e
  exact I.call (g' := g') (t' := t') (d' := d') u hok hg hch
end

/-! ### the judgements -/
noncomputable abbrev XK := Value → Option Addr → Hp → Prop
noncomputable abbrev St := List (Option V)
noncomputable abbrev VK := V → Hp → Prop
noncomputable abbrev TE := St → Hp → VK → Prop
noncomputable abbrev TT := St → Hp → (Bool → Hp → Prop) → Prop
noncomputable abbrev TA := St → Hp → (List V → Hp → Prop) → Prop
structure Ends where
  nx : St → Hp → Prop
  rt : VK
  bk : St → Hp → Prop := fun _ _ => False
  ct : St → Hp → Prop := fun _ _ => False
noncomputable abbrev TS := Ends → St → Hp → Prop

theorem el5 {α β : Type} {p q r : α → β → Prop} {P : Prop} (h : ∃ a b, p a b ∧ q a b ∧ r a b) (k : ∀ a b, p a b → q a b → r a b → P) : P := by
  obtain ⟨a, b, x, y, z⟩ := h
  exact k a b x y z
theorem el3 {α : Type} {p q : α → Prop} {P : Prop} (h : ∃ a, p a ∧ q a) (k : ∀ a, p a → q a → P) : P := by
  obtain ⟨a, x, y⟩ := h
  exact k a x y
noncomputable def EP (X : Cx) (pins : List (Addr × Obj)) (σ : St) (Q : VK) (u : Value) (s' : Shared) : Prop := ∃ v H', Inv X pins σ H' s' ∧ RelV v u ∧ Q v H'
noncomputable def TP (X : Cx) (pins : List (Addr × Obj)) (σ : St) (Q : Bool → Hp → Prop) (b : Bool) (s' : Shared) : Prop := ∃ H', Inv X pins σ H' s' ∧ Q b H'
noncomputable def AP (X : Cx) (pins : List (Addr × Obj)) (σ : St) (Q : List V → Hp → Prop) (us : List Value) (s' : Shared) : Prop := ∃ vs H', Inv X pins σ H' s' ∧ Vals vs us ∧ Q vs H'
noncomputable def SP (X : Cx) (pins : List (Addr × Obj)) (D : Ends) (f : Flow) (s' : Shared) : Prop :=
  match f with
  | .next => ∃ σ' H', Inv X pins σ' H' s' ∧ D.nx σ' H'
  | .brk => ∃ σ' H', Inv X pins σ' H' s' ∧ D.bk σ' H'
  | .cont => ∃ σ' H', Inv X pins σ' H' s' ∧ D.ct σ' H'
  | .ret u => ∃ v σ' H', Inv X pins σ' H' s' ∧ RelV v u ∧ D.rt v H'

noncomputable def PE (X : Cx) (e : Expr) (t : TE) : Prop :=
  ∀ (pins : List (Addr × Obj)) (s : Shared) (σ : St) (H : Hp) (Q : VK), Inv X pins σ H s → t σ H Q → wpAny (model X.prog X.w) X.A (eval e X.env) (EP X pins σ Q) X.xe s
noncomputable def PT (X : Cx) (e : Expr) (t : TT) : Prop :=
  ∀ (pins : List (Addr × Obj)) (s : Shared) (σ : St) (H : Hp) (Q : Bool → Hp → Prop), Inv X pins σ H s → t σ H Q → wpAny (model X.prog X.w) X.A (isTrue e X.env (eval e X.env)) (TP X pins σ Q) X.xe s
noncomputable def PW (X : Cx) (e : Expr) (t : TT) : Prop :=
  ∀ (whole : Sem Value) (pins : List (Addr × Obj)) (s : Shared) (σ : St) (H : Hp) (Q : Bool → Hp → Prop), Inv X pins σ H s → t σ H Q → wpAny (model X.prog X.w) X.A (isTrue e X.env whole) (TP X pins σ Q) X.xe s
theorem PW.pt {X : Cx} {e : Expr} {t : TT} (h : PW X e t) : PT X e t := h _
noncomputable def PA (X : Cx) (es : List Expr) (t : TA) : Prop :=
  ∀ (pos : Pos) (pins : List (Addr × Obj)) (s : Shared) (σ : St) (H : Hp) (Q : List V → Hp → Prop), Inv X pins σ H s → t σ H Q → wpAny (model X.prog X.w) X.A (spliced (backTo pos (starEach es X.env))) (AP X pins σ Q) X.xe s
noncomputable def PS (X : Cx) (st : Stmt) (t : TS) : Prop :=
  ∀ (pins : List (Addr × Obj)) (s : Shared) (σ : St) (H : Hp) (D : Ends), Inv X pins σ H s → t D σ H → wpAny (model X.prog X.w) X.A (exec st X.env) (SP X pins D) X.xe s
noncomputable def PSs (X : Cx) (st : List Stmt) (t : TS) : Prop :=
  ∀ (pins : List (Addr × Obj)) (s : Shared) (σ : St) (H : Hp) (D : Ends), Inv X pins σ H s → t D σ H → wpAny (model X.prog X.w) X.A (execs st X.env) (SP X pins D) X.xe s
theorem thn {α : Type} {t : Sem α} {Q Q' : α → Shared → Prop} {M : Model} {A : Around} {E : Value → Shared → Prop} {s : Shared} (h : wpAny M A t Q E s) (hQ : ∀ a s, Q a s → Q' a s) : wpAny M A t Q' E s := wpAny_mono h hQ fun _ _ x => x
end L2

namespace L2
open PySem PySem.Spec PyProof.Rows
section
variable {X : Cx}


/-! ### names and constants -/
noncomputable def tVar (i : Nat) : TE := fun σ H Q => ∃ v, σ[i]? = some (some v) ∧ Q v H
noncomputable def tC (v : V) : TE := fun _ H Q => Q v H
theorem pe_var {i : Nat} {x : Str} {pos : Pos} (hN : X.N[i]? = some x) (hv : Vis X.env.scope x) (hd : (x == ("__debug__" : Str)) = false := by decide) (hcd : (x == ("__classdict__" : Str)) = false := by decide) : PE X (.Name x pos) (tVar i) := by
  intro pins s σ H Q I h
  obtain ⟨v, e, h⟩ := h
  obtain ⟨m, hn, hl⟩ := I.loc
  obtain ⟨u, r, l⟩ := hl i x v hN e hv
  have fin : EP X pins σ Q u s := ⟨v, H, I, r, h⟩
  rcases l with ⟨hk, hm⟩ | ⟨hk, c, hc, hcell⟩
  · exact wpAny_Name (wpAny_loadName_local I.ok.kind hk hn hm fin) hd
  · rcases hk with hk | hk
    · exact wpAny_Name (wpAny_loadName_cell I.ok.kind hk hc hcell fin) hd
    · exact wpAny_Name (wpAny_loadName_free I.ok.kind hk hc hcell fin hcd) hd
theorem pe_int {i j pos} : PE X (.Constant (.int i) j pos) (tC (.int i)) := fun _ _ _ H _ I h => wpAny_Constant_int ⟨.int i, H, I.tok _, ⟨_, rfl⟩, h⟩
theorem pe_bl {b j pos} : PE X (.Constant (.bool b) j pos) (tC (.bl b)) := fun _ _ _ H _ I h => Constant_bool ⟨.bl b, H, I, rfl, h⟩
theorem pe_non {j pos} : PE X (.Constant .none j pos) (tC .non) := fun _ _ _ H _ I h => Constant_none ⟨.non, H, I, rfl, h⟩
theorem pe_str {x j pos} : PE X (.Constant (.str x) j pos) (tC (.str x)) := fun _ _ _ H _ I h => Calls.Constant_str ⟨.str x, H, I.tok _, ⟨_, rfl⟩, h⟩

noncomputable def Gl (X : Cx) (x : Str) : Prop := X.env.kindOf x = some .globalImplicit
theorem ld_glob {E : Value → Shared → Prop} {pins : List (Addr × Obj)} {s : Shared} {σ : St} {H : Hp} {x : Str} {u : Value} {pos : Pos} {Q : Value → Shared → Prop} (I : Inv X pins σ H s) (hg : Gl X x) (hm : X.mg x = some u) (h : Q u s)
    (hd : (x == ("__debug__" : Str)) = false := by decide) : wpAny (model X.prog X.w) X.A (eval (.Name x pos) X.env) Q E s :=
  Calls.Name_function_global I.ok.kind hg (Calls.loadGlobal_global (by rw [I.ok.glob]; exact I.mod.glob.keeps I.bk) hm h) hd
theorem ld_blt {E : Value → Shared → Prop} {pins : List (Addr × Obj)} {s : Shared} {σ : St} {H : Hp} {x : Str} {u : Value} {pos : Pos} {Q : Value → Shared → Prop} (I : Inv X pins σ H s) (hg : Gl X x) (hm : X.mg x = none) (hv : bootBuiltins x = some u) (h : Q u s)
    (hn : x ≠ "__name__" := by decide) (hd : (x == ("__debug__" : Str)) = false := by decide) : wpAny (model X.prog X.w) X.A (eval (.Name x pos) X.env) Q E s := by
  obtain ⟨mb, h1, h2⟩ := I.mod.blt
  exact Calls.Name_function_global I.ok.kind hg (Calls.loadGlobal_builtin (by rw [I.ok.glob]; exact I.mod.glob.keeps I.bk) hm (by rw [I.ok.blt]; exact h1.keeps I.bk) ((h2 x hn).trans hv) h) hd
theorem pe_glob {x : Str} {v : V} {u : Value} {pos : Pos} (hg : Gl X x) (hm : X.mg x = some u) (r : RelV v u) (hd : (x == ("__debug__" : Str)) = false := by decide) : PE X (.Name x pos) (tC v) :=
  fun _ _ _ H _ I h => ld_glob I hg hm ⟨v, H, I, r, h⟩ hd
theorem pe_bltn {x : Str} {v : V} {u : Value} {pos : Pos} (hg : Gl X x) (hm : X.mg x = none) (hv : bootBuiltins x = some u) (r : RelV v u) (hn : x ≠ "__name__" := by decide) (hd : (x == ("__debug__" : Str)) = false := by decide) : PE X (.Name x pos) (tC v) :=
  fun _ _ _ H _ I h => ld_blt I hg hm hv ⟨v, H, I, r, h⟩ hn hd

/-! ### arithmetic -/
variable {a b : Expr} {ta tb : TE} {pos : Pos}

/-! ### comparisons -/
noncomputable def tB (t : TE) : TT := fun σ H Q => t σ H fun x H1 => ∃ c, x = .bl c ∧ Q c H1
theorem pt_val {e : Expr} {t : TE} (h : PE X e t) (he : ∀ whole, isTrue e X.env whole = (do let v ← whole; standAt e.pos; holding [v] (truthy v)) := by intro _; rfl) : PT X e (tB t) := by
  intro pins s σ H Q I hw
  refine isTrue_plain (thn (h pins s σ H _ I hw) fun v s1 zz => ?_) (he _)
  obtain ⟨x, H1, I1, r1, q1⟩ := zz
  obtain ⟨d, rfl, q⟩ := q1
  cases r1
  exact wpAny_truthy_bool ⟨H1, I1, q⟩

/-! ### and, or, not -/
variable {tA tB' : TT} {rest : List Expr}
noncomputable def tAnd (t u : TT) : TT := fun σ H Q => t σ H fun c H1 => if c = true then u σ H1 Q else Q false H1
noncomputable def tOr (t u : TT) : TT := fun σ H Q => t σ H fun c H1 => if c = true then Q true H1 else u σ H1 Q
noncomputable def tNot (t : TT) : TT := fun σ H Q => t σ H fun c H1 => Q (!c) H1
theorem pw_and1 (ha : PT X a tA) : PW X (.BoolOp .And [a] pos) tA := by
  intro wh pins s σ H Q I h
  refine isTrue_and (thn (ha pins s σ H Q I h) fun c s1 e => ?_)
  cases c with
  | true => exact isTrue_and_nil e
  | false => exact e
theorem pw_or1 (ha : PT X a tA) : PW X (.BoolOp .Or [a] pos) tA := by
  intro wh pins s σ H Q I h
  refine isTrue_or (thn (ha pins s σ H Q I h) fun c s1 e => ?_)
  cases c with
  | false => exact isTrue_or_nil e
  | true => exact e
theorem pw_and (ha : PT X a tA) (hb : PW X (.BoolOp .And (b :: rest) pos) tB') : PW X (.BoolOp .And (a :: b :: rest) pos) (tAnd tA tB') := by
  intro wh pins s σ H Q I h
  refine isTrue_and (thn (ha pins s σ H _ I h) fun c s1 zz => ?_)
  obtain ⟨H1, I1, q1⟩ := zz
  cases c with
  | true => exact hb wh pins s1 σ H1 Q I1 q1
  | false => exact ⟨H1, I1, q1⟩
theorem pw_or (ha : PT X a tA) (hb : PW X (.BoolOp .Or (b :: rest) pos) tB') : PW X (.BoolOp .Or (a :: b :: rest) pos) (tOr tA tB') := by
  intro wh pins s σ H Q I h
  refine isTrue_or (thn (ha pins s σ H _ I h) fun c s1 zz => ?_)
  obtain ⟨H1, I1, q1⟩ := zz
  cases c with
  | true => exact ⟨H1, I1, q1⟩
  | false => exact hb wh pins s1 σ H1 Q I1 q1
theorem pt_not (ha : PT X a tA) : PT X (.UnaryOp .Not a pos) (tNot tA) := by
  intro pins s σ H Q I h
  exact isTrue_not (ha pins s σ H (fun c H1 => Q (!c) H1) I h)
noncomputable def tAndV (ta tb : TE) : TE := fun σ H Q => ta σ H fun x H1 => ∃ c, x = .bl c ∧ if c = true then tb σ H1 Q else Q (.bl false) H1
noncomputable def tNotV (ta : TE) : TE := fun σ H Q => ta σ H fun x H1 => ∃ c, x = .bl c ∧ Q (.bl (!c)) H1
theorem pe_one {op} {t : TE} (h : PE X a t) : PE X (.BoolOp op [a] pos) t := fun pins s σ H Q I hw => BoolOp_one (h pins s σ H Q I hw)
theorem pe_and (ha : PE X a ta) (hb : PE X (.BoolOp .And (b :: rest) pos) tb) : PE X (.BoolOp .And (a :: b :: rest) pos) (tAndV ta tb) := by
  intro pins s σ H Q I h
  refine BoolOp_and (thn (ha pins s σ H _ I h) fun v s1 zz => ?_)
  obtain ⟨x, H1, I1, r1, q1⟩ := zz
  obtain ⟨c, rfl, q1⟩ := q1
  cases r1
  refine wpAny_truthy_bool ?_
  cases c with
  | true => exact hb pins s1 σ H1 Q I1 q1
  | false => exact ⟨.bl false, H1, I1, rfl, q1⟩
theorem pe_not (ha : PE X a ta) : PE X (.UnaryOp .Not a pos) (tNotV ta) := by
  intro pins s σ H Q I h
  refine UnaryOp_ (thn (ha pins s σ H _ I h) fun v s1 zz => ?_)
  obtain ⟨x, H1, I1, r1, q1⟩ := zz
  obtain ⟨c, rfl, q1⟩ := q1
  cases r1
  exact not_of (wpAny_truthy_bool ⟨.bl (!c), H1, I1, rfl, q1⟩)
end
end L2

namespace L2
open PySem PySem.Spec PyProof.Rows

/-! ### a list, a tuple that is read: tracked, frozen, or an object of the module -/
noncomputable def SqL (K : PySem.W.Frag) (H : Hp) (a : Addr) (xs : List V) : Prop :=
  Rd H a (.lst xs) ∨
    ∃ (o : Obj) (its : Array Value) (n : Nat), K.lookup a = some o ∧ o.cls = .type "list" ∧ o.dict = none ∧ o.data = .seq its n ∧ its.size ≤ sizeLine ∧ Vals xs its.toList
noncomputable def SqT (K : PySem.W.Frag) (H : Hp) (a : Addr) (xs : List V) : Prop :=
  Rd H a (.tup xs) ∨
    ∃ (o : Obj) (its : Array Value) (n : Nat), K.lookup a = some o ∧ o.cls = .type "tuple" ∧ o.data = .seq its n ∧ its.size ≤ sizeLine ∧ Vals xs its.toList
noncomputable def absV : Value → Option V
  | .none => some .non
  | .bool b => some (.bl b)
  | .int i _ => some (.int i)
  | .str x _ => some (.str x)
  | .bytes b _ => some (.byt b)
  | .float b _ => some (.flt b)
  | .ref a => some (.ref a)
  | .type n => some (.ty n)
  | _ => none
theorem RelV.abs {x : V} {u : Value} (r : RelV x u) : absV u = some x := by
  cases x with
  | non => cases r; rfl
  | bl _ => cases r; rfl
  | int _ => obtain ⟨t, rfl⟩ := r; rfl
  | str _ => obtain ⟨t, rfl⟩ := r; rfl
  | byt _ => obtain ⟨t, rfl⟩ := r; rfl
  | flt _ => obtain ⟨t, rfl⟩ := r; rfl
  | ref _ => cases r; rfl
  | ty _ => cases r; rfl
theorem RelV.inj {x y : V} {u : Value} (r : RelV x u) (q : RelV y u) : x = y := Option.some.inj (r.abs.symm.trans q.abs)
theorem Vals.inj {xs ys : List V} {us : List Value} (h : Vals xs us) (h' : Vals ys us) : xs = ys := by
  induction h generalizing ys with
  | nil => cases h'; rfl
  | cons r t ih =>
    cases h' with
    | cons r' t' => rw [r.inj r', ih t']
section
variable {X : Cx} {pins : List (Addr × Obj)} {σ : St} {H : Hp} {s : Shared} {a : Addr} {xs ys : List V}
theorem SqL.of {K : PySem.W.Frag} (h : H a = some (.lst xs)) : SqL K H a xs := .inl (.inl h)
theorem SqT.of {K : PySem.W.Frag} (h : H a = some (.tup xs)) : SqT K H a xs := .inl (.inl h)
theorem Inv.list (I : Inv X pins σ H s) (h : SqL X.K H a xs) : ∃ its : List Value, Vals xs its ∧ PlainL s.heap a its.toArray ∧ xs.length ≤ sizeLine := by
  rcases h with h | ⟨o, its, n, hk, hc, hd, hs, hz, r⟩
  · obtain ⟨z, its, n, r, e⟩ := h.ok I.hok
    exact ⟨its, r, ⟨_, n, e, rfl, rfl, rfl⟩, z⟩
  · refine ⟨its.toList, r, ⟨o, n, I.kIn a o hk, hc, hd, by simpa using hs⟩, ?_⟩
    have e := r.length
    simp only [Array.length_toList] at e
    omega
theorem Inv.tuple (I : Inv X pins σ H s) (h : SqT X.K H a xs) : ∃ its : List Value, Vals xs its ∧ IsTup s.heap a its.toArray ∧ xs.length ≤ sizeLine := by
  rcases h with h | ⟨o, its, n, hk, hc, hs, hz, r⟩
  · obtain ⟨z, its, r, p⟩ := h.ok I.hok
    exact ⟨its, r, p, z⟩
  · refine ⟨its.toList, r, ⟨o, I.kIn a o hk, hc, n, by simpa using hs⟩, ?_⟩
    have e := r.length
    simp only [Array.length_toList] at e
    omega
theorem Inv.list_inj (I : Inv X pins σ H s) (h : SqL X.K H a xs) (h' : SqL X.K H a ys) : xs = ys := by
  obtain ⟨its, r, ⟨o, n, e, _, _, d⟩, _⟩ := I.list h
  obtain ⟨its', r', ⟨o', n', e', _, _, d'⟩, _⟩ := I.list h'
  rw [e] at e'; cases e'
  rw [d] at d'
  injection d' with d1 _
  have : its = its' := by simpa using congrArg Array.toList d1
  subst this
  exact r.inj r'
end

/-! ### another wish about exceptions -/
noncomputable abbrev Cx.wish (X : Cx) (E : Value → Shared → Prop) : Cx := { X with xe := E }
noncomputable abbrev Cx.nox (X : Cx) : Cx := X.wish fun _ _ => False
theorem Cx.Ok.wish {X : Cx} (ok : X.Ok) (E : Value → Shared → Prop) : (X.wish E).Ok :=
  ⟨ok.mod, ok.kind, ok.glob, ok.blt, ok.above, ok.inj, ok.has, ok.cab, ok.hd, ok.frames, ok.stk, ok.exf, ok.bs, ok.bsz, ok.noex, ok.exfs, ok.funs, ok.frf⟩
theorem Cx.Ok.unwish {X : Cx} {E : Value → Shared → Prop} (ok : (X.wish E).Ok) : X.Ok :=
  ⟨ok.mod, ok.kind, ok.glob, ok.blt, ok.above, ok.inj, ok.has, ok.cab, ok.hd, ok.frames, ok.stk, ok.exf, ok.bs, ok.bsz, ok.noex, ok.exfs, ok.funs, ok.frf⟩
section
variable {X : Cx} {pins : List (Addr × Obj)} {σ : St} {H : Hp} {s : Shared} {E : Value → Shared → Prop}
theorem Inv.wish (I : Inv X pins σ H s) (E : Value → Shared → Prop) : Inv (X.wish E) pins σ H s := ⟨I.ok.wish E, I.os, I.bare, I.base, I.loc, I.cell, I.free, I.freeC, I.pin, I.hok, I.len⟩
theorem Inv.unwish (I : Inv (X.wish E) pins σ H s) : Inv X pins σ H s := ⟨I.ok.unwish, I.os, I.bare, I.base, I.loc, I.cell, I.free, I.freeC, I.pin, I.hok, I.len⟩
theorem SP.unwish {D : Ends} {f : Flow} {s' : Shared} (h : SP (X.wish E) pins D f s') : SP X pins D f s' := by
  cases f with
  | next => obtain ⟨σ', H', I, q⟩ := h; exact ⟨σ', H', I.unwish, q⟩
  | brk => obtain ⟨σ', H', I, q⟩ := h; exact ⟨σ', H', I.unwish, q⟩
  | cont => obtain ⟨σ', H', I, q⟩ := h; exact ⟨σ', H', I.unwish, q⟩
  | ret u => obtain ⟨v, σ', H', I, r, q⟩ := h; exact ⟨v, σ', H', I.unwish, r, q⟩
theorem PSs.nox {st : List Stmt} {t : TS} (h : PSs X.nox st t) : PSs X st t := fun pins s σ H D I hw =>
  wpAny_mono (h pins s σ H D (I.wish _) hw) (fun _ _ q => q.unwish) fun _ _ z => False.elim z
end

/-! ### blocks and small statements -/
section
variable {X : Cx} {st : Stmt} {rest : List Stmt} {t u : TS} {e : Expr} {te : TE} {pos : Pos}
noncomputable def tNext : TS := fun D σ H => D.nx σ H
noncomputable def tSeq (t u : TS) : TS := fun D σ H => t { D with nx := u D } σ H
theorem pss_nil : PSs X [] tNext := fun _ _ σ H _ I h => wpAny_execs_nil ⟨σ, H, I, h⟩
theorem pss_cons (h1 : PS X st t) (h2 : PSs X rest u) : PSs X (st :: rest) (tSeq t u) := by
  intro pins s σ H D I h
  refine wpAny_execs_cons (thn (h1 pins s σ H { D with nx := u D } I h) fun f s1 q => ?_)
  cases f with
  | next =>
    obtain ⟨σ', H', I', q⟩ := q
    exact h2 pins s1 σ' H' D I' q
  | ret v => exact q
  | brk => exact q
  | cont => exact q
theorem pss_one (h1 : PS X st t) : PSs X [st] t := by
  intro pins s σ H D I h
  refine wpAny_execs_cons (thn (h1 pins s σ H D I h) fun f s1 q => ?_)
  cases f with
  | next => exact wpAny_execs_nil q
  | ret v => exact q
  | brk => exact q
  | cont => exact q
theorem Inv.quiet {pins : List (Addr × Obj)} {σ : St} {H : Hp} {s : Shared} (I : Inv X pins σ H s) : interactive X.env = false := by simp [interactive, I.ok.kind]
noncomputable def tDrop (te : TE) : TS := fun D σ H => te σ H fun _ H1 => D.nx σ H1
theorem ps_expr (he : PE X e te) (hs : swapsWith e none pos.line X.env = pure false := by rfl) : PS X (.Expr e pos) (tDrop te) := by
  intro pins s σ H D I h
  exact wpAny_Expr_any (thn (he pins s σ H _ I h) fun v s1 zz => L2.el5 zz fun x H1 I1 r1 q1 => ⟨σ, H1, I1, q1⟩) I.quiet hs
noncomputable def tRet (te : TE) : TS := fun D σ H => te σ H D.rt
theorem ps_ret (he : PE X e te) : PS X (.Return (some e) pos) (tRet te) := by
  intro pins s σ H D I h
  exact wpAny_Return_some (thn (he pins s σ H _ I h) fun v s1 zz => L2.el5 zz fun x H1 I1 r1 q1 => ⟨x, σ, H1, I1, r1, q1⟩)
noncomputable def tIfS (c : TT) (t u : TS) : TS := fun D σ H => c σ H fun b H1 => if b = true then t D σ H1 else u D σ H1
theorem ps_if {c : Expr} {a b : List Stmt} {tc : TT} (hc : PT X c tc) (ha : PSs X a t) (hb : PSs X b u) : PS X (.If c a b pos) (tIfS tc t u) := by
  intro pins s σ H D I h
  refine wpAny_If (thn (hc pins s σ H _ I h) fun d s1 zz => ?_)
  obtain ⟨H1, I1, q1⟩ := zz
  cases d with
  | true => exact ha pins s1 σ H1 D I1 q1
  | false => exact hb pins s1 σ H1 D I1 q1
noncomputable def tNever : TS := fun _ _ _ => False
theorem ps_never : PS X st tNever := fun _ _ _ _ _ _ h => h.elim
theorem pss_never {sts : List Stmt} : PSs X sts tNever := fun _ _ _ _ _ _ h => h.elim
end

/-! ### targets -/
noncomputable abbrev TG := V → St → Hp → (St → Hp → Prop) → Prop
noncomputable abbrev TGs := List V → St → Hp → (St → Hp → Prop) → Prop
noncomputable def PG (X : Cx) (target : Expr) (t : TG) : Prop :=
  ∀ (pins : List (Addr × Obj)) (s : Shared) (σ : St) (H : Hp) (v : V) (u : Value) (Q : St → Hp → Prop), Inv X pins σ H s → RelV v u → t v σ H Q →
    wpAny (model X.prog X.w) X.A (assign target X.env u) (fun _ s' => ∃ σ' H', Inv X pins σ' H' s' ∧ Q σ' H') X.xe s
noncomputable def PGs (X : Cx) (ts : List Expr) (t : TGs) : Prop :=
  ∀ (pins : List (Addr × Obj)) (s : Shared) (σ : St) (H : Hp) (vs : List V) (us : List Value) (Q : St → Hp → Prop), Inv X pins σ H s → Vals vs us → t vs σ H Q →
    wpAny (model X.prog X.w) X.A (assignInOrder ((assignEach ts X.env).map (·.2)) us) (fun _ s' => ∃ σ' H', Inv X pins σ' H' s' ∧ Q σ' H') X.xe s
noncomputable abbrev TSet := V → V → V → Hp → (Hp → Prop) → Prop
noncomputable def PSet (X : Cx) (t : TSet) : Prop :=
  ∀ (pins : List (Addr × Obj)) (s : Shared) (σ : St) (H : Hp) (o i v : V) (ov iv u : Value) (Q : Hp → Prop), Inv X pins σ H s → RelV o ov → RelV i iv → RelV v u → t o i v H Q →
    wpAny (model X.prog X.w) X.A (setItem ov iv u) (fun _ s' => ∃ H', Inv X pins σ H' s' ∧ Q H') X.xe s
noncomputable abbrev TIp := V → V → Hp → VK → Prop
noncomputable def PIp (X : Cx) (op : Operator) (t : TIp) : Prop :=
  ∀ (pins : List (Addr × Obj)) (s : Shared) (σ : St) (H : Hp) (x y : V) (v u : Value) (Q : VK), Inv X pins σ H s → RelV x v → RelV y u → t x y H Q →
    wpAny (model X.prog X.w) X.A (inplaceOp op v u) (EP X pins σ Q) X.xe s
section
variable {X : Cx} {pos : Pos}
noncomputable def gName (i : Nat) : TG := fun v σ H Q => Q (σ.set i (some v)) H
theorem pg_name {i : Nat} {x : Str} (hN : X.N.Nodup) (hi : X.N[i]? = some x) (hx : Loc X.env.scope x) (hf : X.fn x = true ∨ X.env.scope.names.lookup x = some .local := by first | exact .inl rfl | exact .inr rfl | assumption) : PG X (.Name x pos) (gName i) := by
  intro pins s σ H v u Q I r h
  exact wpAny_assign_Name (store_ok I hN hi hx r (fun s' I' => ⟨_, H, I', h⟩) hf)
noncomputable def gNil : TGs := fun vs σ H Q => vs = [] ∧ Q σ H
noncomputable def gCons (t : TG) (u : TGs) : TGs := fun vs σ H Q => ∃ v r, vs = v :: r ∧ t v σ H fun σ' H' => u r σ' H' Q
theorem pgs_nil : PGs X [] gNil := by
  intro pins s σ H vs us Q I r h
  obtain ⟨e, h⟩ := h
  subst e
  cases r
  exact assignInOrder_nil ⟨σ, H, I, h⟩
theorem pgs_cons {e : Expr} {es : List Expr} {t : TG} {u : TGs} (h1 : PG X e t) (h2 : PGs X es u)
    (hs : (assignEach (e :: es) X.env).map (·.2) = assign e X.env :: (assignEach es X.env).map (·.2) := by rfl) : PGs X (e :: es) (gCons t u) := by
  intro pins s σ H vs us Q I r h
  obtain ⟨v, vr, e1, h⟩ := h
  subst e1
  cases r with
  | cons r rr =>
    rw [hs]
    refine assignInOrder_cons (thn (h1 pins s σ H _ _ _ I r h) fun _ s1 zz => ?_)
    obtain ⟨σ1, H1, I1, q1⟩ := zz
    exact h2 pins s1 σ1 H1 _ _ Q I1 rr q1
noncomputable def gTup (K : PySem.W.Frag) (n : Nat) (t : TGs) : TG := fun v σ H Q => ∃ a xs, v = .ref a ∧ SqT K H a xs ∧ xs.length = n ∧ t xs σ H Q
theorem pg_tup {es : List Expr} {k : Nat} {t : TGs} {n : Nat} (hc : X.calm = true) (h : PGs X es t)
    (hn : (assignEach es X.env).length = n := by rfl) (hst : (assignEach es X.env).findIdx? (·.1) = none := by rfl) : PG X (.Tuple es k pos) (gTup X.K n t) := by
  intro pins s σ H v u Q I r hw
  obtain ⟨a, xs, e1, hq, hl, hw⟩ := hw
  subst e1
  cases r
  obtain ⟨its, rv, ht, hz⟩ := I.tuple hq
  refine assign_Tuple_tuple (I.ok.hd hc) ht (by simp [hn, ← hl, rv.length]) hst fun h' hx => ?_
  have I1 : Inv X pins σ H { s with heap := h' } := I.kept (t' := s.toks) fun b o e => hx b o (Nat.ne_of_lt (Heap.lt_size e)) e
  exact h pins _ σ H xs _ Q I1 (by simpa using rv) hw
noncomputable def gSub (to ti : TE) (t : TSet) : TG := fun v σ H Q => to σ H fun o H1 => ti σ H1 fun i H2 => t o i v H2 fun H3 => Q σ H3
theorem pg_sub {o i : Expr} {to ti : TE} {t : TSet} (ho : PE X o to) (hi : PE X i ti) (hs : PSet X t)
    (ha : ∀ v, assign (.Subscript o i pos) X.env v = (do
      let ov ← holding [v] (eval o X.env)
      let iv ← holding [v, ov] (eval i X.env)
      standAt pos
      holding [v, ov, iv] (setItem ov iv v)
      release [v, ov, iv] []) := by intro _; rfl) : PG X (.Subscript o i pos) (gSub to ti t) := by
  intro pins s σ H v u Q I r h
  rw [ha]
  refine wpAny_bind (wpAny_holding (thn (ho pins s σ H _ I h) fun ov s1 zz => ?_))
  obtain ⟨x, H1, I1, r1, q1⟩ := zz
  refine wpAny_bind (wpAny_holding (thn (hi pins s1 σ H1 _ I1 q1) fun iv s2 zz => ?_))
  obtain ⟨y, H2, I2, r2, q2⟩ := zz
  refine wpAny_bind (wpAny_standAt (wpAny_bind (wpAny_holding (thn (hs pins s2 σ H2 x y v ov iv u _ I2 r1 r2 r q2) fun _ s3 zz => ?_))))
  obtain ⟨H3, I3, q3⟩ := zz
  exact wpAny_release ⟨σ, H3, I3, q3⟩
noncomputable def tAsg (te : TE) (g : TG) : TS := fun D σ H => te σ H fun x H1 => g x σ H1 D.nx
theorem ps_asg {tg e : Expr} {te : TE} {g : TG} (he : PE X e te) (hg : PG X tg g) (hs : swapsWithSole [tg] e pos.line X.env = pure false := by rfl) (hw : swappedStores [tg] e X.env = pure none := by rfl)
    (h1 : (assignEach [tg] X.env).map (·.2) = [assign tg X.env] := by rfl) : PS X (.Assign [tg] e pos) (tAsg te g) := by
  intro pins s σ H D I h
  refine wpAny_Assign_stores (thn (he pins s σ H _ I h) fun v s1 zz => ?_) hs hw
  obtain ⟨x, H1, I1, r1, q1⟩ := zz
  rw [h1]
  exact thn (hg pins s1 σ H1 x v _ I1 r1 q1) fun _ s2 q => q
theorem ps_set {i : Nat} {x : Str} {e : Expr} {te : TE} {pos' : Pos} (hN : X.N.Nodup) (hi : X.N[i]? = some x) (hx : Loc X.env.scope x) (he : PE X e te) (hs : swapsWith e (some (.Name x pos')) pos.line X.env = pure false := by rfl) (hf : X.fn x = true ∨ X.env.scope.names.lookup x = some .local := by first | exact .inl rfl | exact .inr rfl | assumption) :
    PS X (.Assign [.Name x pos'] e pos) (tAsg te (gName i)) := by
  intro pins s σ H D I h
  refine wpAny_Assign_Name (thn (he pins s σ H _ I h) fun v s1 zz => ?_) hs
  obtain ⟨y, H1, I1, r1, q1⟩ := zz
  exact store_ok I1 hN hi hx r1 (fun s2 I2 => ⟨_, H1, I2, q1⟩) hf
noncomputable def tAug (i : Nat) (te : TE) (ti : TIp) : TS := fun D σ H => ∃ x, σ[i]? = some (some x) ∧ te σ H fun y H1 => ti x y H1 fun z H2 => D.nx (σ.set i (some z)) H2
theorem ps_aug {i : Nat} {x : Str} {e : Expr} {te : TE} {op : Operator} {ti : TIp} {pos' : Pos} (hN : X.N.Nodup) (hi : X.N[i]? = some x) (hx : Loc X.env.scope x) (he : PE X e te) (ho : PIp X op ti) (hf : X.fn x = true ∨ X.env.scope.names.lookup x = some .local := by first | exact .inl rfl | exact .inr rfl | assumption) :
    PS X (.AugAssign (.Name x pos') op e pos) (tAug i te ti) := by
  intro pins s σ H D I h
  obtain ⟨v, e1, h⟩ := h
  obtain ⟨m, hn, hl⟩ := I.loc
  have vis : Vis X.env.scope x := by rcases hx with k | k; exact .inl k; exact .inr (.inl k)
  obtain ⟨u, r, l⟩ := hl i x v hi e1 vis
  refine wpAny_AugAssign_Name ?_
  have go : wpAny (model X.prog X.w) X.A (eval e X.env) (fun w s₂ => wpAny (model X.prog X.w) X.A (inplaceOp op u w) (fun r s₃ => wpAny (model X.prog X.w) X.A (storeName X.env x r) (fun _ => SP X pins D .next) X.xe s₃) X.xe s₂) X.xe s := by
    refine thn (he pins s σ H _ I h) fun w s1 zz => ?_
    obtain ⟨y, H1, I1, r1, q1⟩ := zz
    refine thn (ho pins s1 σ H1 v y u w _ I1 r r1 q1) fun z s2 zz => ?_
    obtain ⟨zv, H2, I2, r2, q2⟩ := zz
    exact store_ok I2 hN hi hx r2 (fun s3 I3 => ⟨_, H2, I3, q2⟩) hf
  rcases l with ⟨hk, hm⟩ | ⟨hk, c, hc, hcell⟩
  · exact wpAny_loadName_local I.ok.kind hk hn hm go
  · rcases hk with hk | hk
    · exact wpAny_loadName_cell I.ok.kind hk hc hcell go
    · rcases hx with k | k
      · have : X.env.scope.names.lookup x = some .free := hk
        rw [k] at this; cases this
      · have : X.env.scope.names.lookup x = some .free := hk
        rw [k] at this; cases this
noncomputable def ipI (f : Int → Int → Int) : TIp := fun x y H Q => ∃ i j, x = .int i ∧ y = .int j ∧ Q (.int (f i j)) H
theorem ip_add : PIp X .Add (ipI fun i j => i + j) := by
  intro pins s σ H x y v u Q I r1 r2 h
  obtain ⟨i, j, e1, e2, q⟩ := h
  subst e1; subst e2
  obtain ⟨t, rfl⟩ := r1
  obtain ⟨t', rfl⟩ := r2
  exact iadd_int ⟨.int _, H, I.tok _, ⟨_, rfl⟩, q⟩
end

/-! ### while -/
section
variable {X : Cx} {pos : Pos}
noncomputable def tWhile (c : TT) (tb : TS) : TS := fun D σ H => ∃ W : Nat → St → Hp → Prop, (∃ m, W m σ H) ∧ ∀ m σ H, W m σ H →
  c σ H fun b H1 => if b = true then ∃ N : St → Hp → Prop, (∀ σ' H', N σ' H' → ∃ m', m' < m ∧ W m' σ' H') ∧ tb { D with nx := N, ct := N, bk := D.nx } σ H1 else D.nx σ H1
theorem ps_while {c : Expr} {body : List Stmt} {tc : TT} {tb : TS} (hp : PassesOwn (model X.prog X.w) X.A X.env X.xe) (hc : PT X c tc) (hb : PSs X body tb) : PS X (.While c body [] pos) (tWhile tc tb) := by
  intro pins s σ H D I h
  obtain ⟨W, ⟨m0, w0⟩, turn⟩ := h
  refine wpAny_While (codeAny_whileLoop (fun n s' => ∃ σ' H', Inv X pins σ' H' s' ∧ W n σ' H') ?_ m0 ⟨σ, H, I, w0⟩)
  rintro n s1 ⟨σ1, H1, I1, w1⟩
  refine wpAny_passesOwn hp (thn (hc pins s1 σ1 H1 _ I1 (turn n σ1 H1 w1)) fun b s2 zz => ?_)
  obtain ⟨H2, I2, q2⟩ := zz
  cases b with
  | true =>
    obtain ⟨N, hN, q2⟩ := q2
    rw [if_pos rfl]
    refine wpAny_passesOwn hp (thn (hb pins s2 σ1 H2 _ I2 q2) fun f s3 q3 => ?_)
    cases f with
    | next =>
      obtain ⟨σ3, H3, I3, n3⟩ := q3
      obtain ⟨m', hm, w3⟩ := hN σ3 H3 n3
      exact ⟨m', hm, σ3, H3, I3, w3⟩
    | cont =>
      obtain ⟨σ3, H3, I3, n3⟩ := q3
      obtain ⟨m', hm, w3⟩ := hN σ3 H3 n3
      exact ⟨m', hm, σ3, H3, I3, w3⟩
    | brk => exact q3
    | ret v => exact q3
  | false =>
    rw [if_neg Bool.false_ne_true]
    exact wpAny_execs_nil ⟨σ1, H2, I2, q2⟩
end

/-! ### what a loop or a comprehension walks -/
structure It where
  go : Nat → Hp → Prop
  yld : Nat → Hp → V → Hp → Prop
  stop : Nat → Hp → Prop
noncomputable def FpOk (X : Cx) (pins : List (Addr × Obj)) (H : Hp) (b : Addr) : Prop :=
  H b = none ∧ b ≠ X.env.locals ∧ b ∉ X.fs ∧ (b ∈ X.ex ∨ X.s₀.heap.objs.size ≤ b) ∧ (∀ x c, X.env.cells.lookup x = some c → c ≠ b) ∧ ∀ p ∈ X.pn ++ pins, p.1 ≠ b
theorem Inv.fpOk {X : Cx} {pins : List (Addr × Obj)} {σ : St} {H H' : Hp} {s : Shared} {b : Addr} (I : Inv X pins σ H s) (hb : s.heap.objs.size ≤ b) (hn : H' b = none) : FpOk X pins H' b := by
  refine ⟨hn, Nat.ne_of_gt (Nat.lt_of_lt_of_le I.lt hb), I.nofs hb, .inr (Nat.le_trans I.sz hb), fun x c e z => ?_, fun p hp z => ?_⟩
  · obtain ⟨v, q⟩ := I.cell x c e
    exact absurd (Nat.lt_of_lt_of_le q.lt (by rw [z]; exact hb)) (Nat.lt_irrefl _)
  · exact absurd (Nat.lt_of_lt_of_le (Heap.lt_size (I.pin p hp).1) (by rw [z]; exact hb)) (Nat.lt_irrefl _)
noncomputable def HandX (X : Cx) : Prop := X.A.handled = none ∨ ∃ (a C : Addr) (dx : Option Addr) (t tb : Value) (u : HO), X.A.handled = some (.ref a) ∧ X.H₀ a = some (.frz (excRec C dx t tb) u)
noncomputable def HandI (X : Cx) : Prop := X.calm = true ∨ HandX X
theorem hd_of {X : Cx} {pins : List (Addr × Obj)} {σ : St} {H : Hp} {s : Shared} (q : HandI X) (I : Inv X pins σ H s) : Hd X.A s.heap := by
  rcases q with q | q | ⟨a, C, dx, t, tb, u, q, e⟩
  · exact .inl (I.ok.hd q)
  · exact .inl q
  · exact .inr ⟨a, C, dx, t, tb, q, (I.hok a _ (I.base.frzs a _ _ e)).1⟩
theorem HandI.in_ {X : Cx} {pins : List (Addr × Obj)} {σ : St} {H : Hp} {s : Shared} (q : HandI X) (I : Inv X pins σ H s) {Y : Cx} (h1 : Y.calm = X.calm) (h2 : Y.A.handled = X.A.handled) (h3 : ∀ a o u, H a = some (.frz o u) → Y.H₀ a = some (.frz o u)) : HandI Y := by
  rcases q with q | q | ⟨a, C, dx, t, tb, u, q, e⟩
  · exact .inl (h1.trans q)
  · exact .inr (.inl (h2.trans q))
  · exact .inr (.inr ⟨a, C, dx, t, tb, u, h2.trans q, h3 _ _ _ (I.base.frzs a _ _ e)⟩)
structure Turn (P : Program) (w : World) (K : PySem.W.Frag) (tg : Expr) (J : It) (fp : List Addr) (it : Addr) (tn : Nat → Heap → Prop) : Prop where
  mem : it ∈ fp
  obj : ∀ i h, tn i h → ∀ b ∈ fp, ∃ o, h.get? b = some o ∧ ∀ v, o.data ≠ .cell v
  keep : ∀ i h h', tn i h → (∀ b ∈ fp, ∀ o, h.get? b = some o → h'.get? b = some o) → tn i h'
  item : ∀ (X : Cx), X.prog = P → X.w = w → X.K = K → HandI X → ∀ (i : Nat) (pins : List (Addr × Obj)) (s : Shared) (σ : St) (H : Hp) (E : Value → Shared → Prop), Inv X pins σ H s → (∀ b ∈ fp, FpOk X pins H b) → tn i s.heap → J.go i H →
    wpAny (model P w) X.A (pyNext (.ref it)) (fun r s1 => ∃ u, r = some u ∧
      wpAny (model P w) X.A (letOwnedTupleGo tg (.ref it) u) (fun _ s2 => ∃ x H', Inv X pins σ H' s2 ∧ RelV x u ∧ J.yld i H x H' ∧ tn (i + 1) s2.heap ∧ ∀ b ∈ fp, H' b = none) E s1) E s
  done : ∀ (X : Cx), X.prog = P → X.w = w → X.K = K → HandI X → ∀ (i : Nat) (pins : List (Addr × Obj)) (s : Shared) (σ : St) (H : Hp) (E : Value → Shared → Prop), Inv X pins σ H s → (∀ b ∈ fp, FpOk X pins H b) → tn i s.heap → J.stop i H →
    wpAny (model P w) X.A (pyNext (.ref it)) (fun r s1 => r = none ∧ Inv X pins σ H s1) E s
  self : ∀ (A : Around) (i : Nat) (s : Shared) (Q : Value → Shared → Prop) (E : Value → Shared → Prop), tn i s.heap → Q (.ref it) s → wpAny (model P w) A (pyIter (.ref it)) Q E s
noncomputable abbrev TI := St → Hp → (It → Hp → Prop) → Prop
noncomputable def PIE (X : Cx) (pins : List (Addr × Obj)) (σ : St) (tg : Expr) (R : It → Hp → Prop) (itv : Value) (s2 : Shared) : Prop :=
  ∃ (it : Addr) (fp : List Addr) (tn : Nat → Heap → Prop) (J : It) (H' : Hp), itv = .ref it ∧ Inv X pins σ H' s2 ∧ Turn X.prog X.w X.K tg J fp it tn ∧ tn 0 s2.heap ∧ (∀ b ∈ fp, FpOk X pins H' b) ∧ R J H'
noncomputable def PI (X : Cx) (tg iter : Expr) (wi : TI) : Prop :=
  ∀ (pins : List (Addr × Obj)) (s : Shared) (σ : St) (H : Hp) (R : It → Hp → Prop), Inv X pins σ H s → wi σ H R →
    wpAny (model X.prog X.w) X.A (eval iter X.env) (fun v s1 => wpAny (model X.prog X.w) X.A (pyIter v) (PIE X pins σ tg R) X.xe s1) X.xe s

theorem go_of {M : Model} {A : Around} {E : Value → Shared → Prop} {s : Shared} {tg : Expr} {it : Addr} {u : Value} {o : Obj} {n : String} {vs : Array Value} {Q : Unit → Shared → Prop} (ho : s.heap.get? it = some o) (hc : o.cls = .type n) (hd : o.data = .fields vs)
    (hn : ["enumerate", "zip", "dict_itemiterator", "dict_reverseitemiterator", "odict_iterator", "itertools.zip_longest", "itertools.pairwise"].contains n = false) (hQ : Q () s) : wpAny M A (letOwnedTupleGo tg (.ref it) u) Q E s := by
  unfold letOwnedTupleGo
  cases tg <;> first
    | exact wpAny_pure hQ
    | (cases u <;> first
        | exact wpAny_pure hQ
        | (refine wpAny_bind (wpAny_load ho ?_)
           rw [hc, hd]
           show wpAny M A (if (["enumerate", "zip", "dict_itemiterator", "dict_reverseitemiterator", "odict_iterator", "itertools.zip_longest", "itertools.pairwise"].contains n && vs[0]? == some (rawInt _)) = true then _ else _) Q E s
           rw [if_neg (by intro h; rw [hn, Bool.false_and] at h; cases h)]
           exact wpAny_pure hQ))

noncomputable def Itl (K : PySem.W.Frag) (a : Addr) : It :=
  ⟨fun i H => ∃ xs x, SqL K H a xs ∧ xs[i]? = some x, fun i H x H' => H' = H ∧ ∀ xs, SqL K H a xs → xs[i]? = some x, fun i H => ∃ xs, SqL K H a xs ∧ xs.length ≤ i⟩
noncomputable def Itr (lo : Int) (n : Nat) : It := ⟨fun i _ => i < n, fun i H x H' => H' = H ∧ x = .int (lo + i), fun i _ => n ≤ i⟩
theorem turn_list {P : Program} {w : World} {K : PySem.W.Frag} {tg : Expr} (a it : Addr) : Turn P w K tg (Itl K a) [it] it (fun i h => h.IsListIter it a i) where
  mem := by simp
  obj := fun i h st b hb => by
    have e : b = it := by simpa using hb
    subst e
    obtain ⟨o, e, c, d⟩ := st
    exact ⟨o, e, fun v z => by rw [d] at z; cases z⟩
  keep := fun i h h' st k => st.at fun o e => k it (by simp) o e
  item := by
    intro X hP hw hK hc i pins s σ H E I hf st hg
    subst hP hw hK
    obtain ⟨xs, x, hq, hx⟩ := hg
    obtain ⟨its, rv, p, hz⟩ := I.list hq
    obtain ⟨u, hu, ru⟩ := rv.get hx
    obtain ⟨f0, f1, f2, f3, f4, f5⟩ := hf it (by simp)
    refine wpAny_pyNext_list_item st p.isList (x := u) (by simpa using hu) fun h' st' sb => ?_
    have I1 : Inv X pins σ H { s with heap := h' } := I.turned (t' := s.toks) (fun b o hb e => (sb.2 b hb).trans e) f0 f1 f3 f4 f5
    obtain ⟨o, e, c, d⟩ := id st'
    exact ⟨u, rfl, go_of (s := { s with heap := h' }) e c d (by decide) ⟨x, H, I1, ru, ⟨rfl, fun ys hy => by rw [I.list_inj hy hq]; exact hx⟩, st', fun b hb => (hf b hb).1⟩⟩
  done := by
    intro X hP hw hK hc i pins s σ H E I hf st hg
    subst hP hw hK
    obtain ⟨xs, hq, hx⟩ := hg
    obtain ⟨its, rv, p, hz⟩ := I.list hq
    obtain ⟨f0, f1, f2, f3, f4, f5⟩ := hf it (by simp)
    have hl := rv.length
    exact list_end_hd (hd_of hc I) st p.isList (by simp; omega) fun h' eb => ⟨rfl, I.turned (t' := s.toks) (fun b o hb e => eb b o hb e) f0 f1 f3 f4 f5⟩
  self := fun _ _ _ _ _ st h => wpAny_pyIter_listiter st h
theorem turn_range {P : Program} {w : World} {K : PySem.W.Frag} {tg : Expr} (it : Addr) (lo : Int) (n : Nat) : Turn P w K tg (Itr lo n) [it] it (fun i h => IsRangeIter h it (lo + (i : Nat) * 1) ((n : Int) - (i : Nat)) 1) where
  mem := by simp
  obj := fun i h st b hb => by
    have e : b = it := by simpa using hb
    subst e
    exact ⟨_, st, fun v z => by
      have z' : Data.fields _ = Data.cell v := z
      cases z'⟩
  keep := fun i h h' st k => k it (by simp) _ st
  item := by
    intro X hP hw hK hc i pins s σ H E I hf st hg
    subst hP hw hK
    obtain ⟨f0, f1, f2, f3, f4, f5⟩ := hf it (by simp)
    refine range_item_hd hg st fun t h' tk st' kk => ?_
    have I1 : Inv X pins σ H { s with heap := h', toks := tk } := I.turned (fun b o hb e => kk b o (by simpa using hb) e) f0 f1 f3 f4 f5
    refine ⟨_, rfl, go_of (s := { s with heap := h', toks := tk }) (n := "range_iterator") st' rfl rfl (by decide) ⟨.int (lo + i), H, I1, ⟨t, ?_⟩, ⟨rfl, rfl⟩, st', fun b hb => (hf b hb).1⟩⟩
    rw [Int.mul_one]
  done := by
    intro X hP hw hK hc i pins s σ H E I hf st hg
    subst hP hw hK
    obtain ⟨f0, f1, f2, f3, f4, f5⟩ := hf it (by simp)
    exact range_end_hd (hd_of hc I) st (by have : n ≤ i := hg; omega) fun h' eb => ⟨rfl, I.turned (t' := s.toks) (fun b o hb e => eb b o hb e) f0 f1 f3 f4 f5⟩
  self := fun _ _ _ _ _ st h => wpAny_pyIter_rangeiter st h
end L2

namespace L2
open PySem PySem.Spec PyProof.Rows
section
variable {X : Cx} {tg : Expr}
noncomputable def iList (K : PySem.W.Frag) (tl : TE) : TI := fun σ H R => tl σ H fun x H1 => ∃ a, x = .ref a ∧ (∃ xs, SqL K H1 a xs) ∧ R (Itl K a) H1
theorem pi_list {l : Expr} {tl : TE} (hl : PE X l tl) : PI X tg l (iList X.K tl) := by
  intro pins s σ H R I h
  refine thn (hl pins s σ H _ I h) fun v s1 zz => ?_
  obtain ⟨x, H1, I1, r1, q1⟩ := zz
  obtain ⟨a, e, ⟨xs, hq⟩, q⟩ := q1
  subst e
  cases r1
  obtain ⟨its, rv, p, hz⟩ := I1.list hq
  refine wpAny_pyIter_list p.isList ?_
  refine ⟨s1.heap.objs.size, [s1.heap.objs.size], _, _, H1, rfl, I1.kept (t' := s1.toks) fun b o e => Heap.get?_push_of_some _ e, turn_list a _, ⟨_, Heap.get?_push_size _ rfl, rfl, rfl⟩, fun b hb => ?_, q⟩
  have e : b = s1.heap.objs.size := by simpa using hb
  subst e
  exact I1.fpOk (Nat.le_refl _) (I1.hok.fresh (Nat.le_refl _))
theorem range_it {pins : List (Addr × Obj)} {σ : St} {H : Hp} {s : Shared} {R : It → Hp → Prop} {E : Value → Shared → Prop} {lo hi : Int} {t u v : Tok} {tk : Nat} (I : Inv X pins σ H s) (h1 : -(2 ^ 62) ≤ lo) (h2 : lo < 2 ^ 62) (h3 : -(2 ^ 62) ≤ hi) (h4 : hi < 2 ^ 62)
    (q : R (Itr lo (hi - lo).toNat) H) : wpAny (model X.prog X.w) X.A (pyIter (.ref s.heap.objs.size)) (PIE X pins σ tg R) E { s with heap := s.heap.push { cls := .type "range", data := .fields #[.int lo t, .int hi u, .int 1 v] }, toks := tk } := by
  refine wpAny_pyIter_range (IsRange.new ..) (small_one h1 h2 h3 h4) ?_
  have I1 : Inv X pins σ H { s with heap := s.heap.push { cls := .type "range", data := .fields #[.int lo t, .int hi u, .int 1 v] }, toks := tk } := I.kept fun b o e => Heap.get?_push_of_some _ e
  refine ⟨(s.heap.push { cls := .type "range", data := .fields #[.int lo t, .int hi u, .int 1 v] }).objs.size, [(s.heap.push { cls := .type "range", data := .fields #[.int lo t, .int hi u, .int 1 v] }).objs.size], _, _, H, rfl,
    I1.kept (t' := tk) fun b o e => Heap.get?_push_of_some _ e, turn_range _ lo (hi - lo).toNat, ?_, fun b hb => ?_, q⟩
  · have e1 : lo + ((0 : Nat) : Int) * 1 = lo := by simp
    have e2 : (((hi - lo).toNat : Nat) : Int) - ((0 : Nat) : Int) = Builtin.Range.rangeSize lo hi 1 := by rw [rangeSize_one]; split <;> omega
    show IsRangeIter _ _ (lo + ((0 : Nat) : Int) * 1) ((((hi - lo).toNat : Nat) : Int) - ((0 : Nat) : Int)) 1
    rw [e1, e2]
    exact Heap.get?_push_size _ rfl
  · have e : b = (s.heap.push { cls := .type "range", data := .fields #[.int lo t, .int hi u, .int 1 v] }).objs.size := by simpa using hb
    subst e
    exact I1.fpOk (Nat.le_refl _) (I1.hok.fresh (Nat.le_refl _))
noncomputable def iRng1 (ta : TA) : TI := fun σ H R => ta σ H fun vs H1 => ∃ j : Int, vs = [.int j] ∧ -(2 ^ 62) ≤ j ∧ j < 2 ^ 62 ∧ R (Itr 0 j.toNat) H1
noncomputable def iRng2 (ta : TA) : TI := fun σ H R => ta σ H fun vs H1 => ∃ i j : Int, vs = [.int i, .int j] ∧ (-(2 ^ 62) ≤ i ∧ i < 2 ^ 62 ∧ -(2 ^ 62) ≤ j ∧ j < 2 ^ 62) ∧ R (Itr i (j - i).toNat) H1
theorem pi_range1 {a : Expr} {ta : TA} {p pos : Pos} (hg : Gl X "range") (hm : X.mg "range" = none) (ha : PA X [a] ta) (hs : starEach [a] X.env = [(false, eval a X.env)] := by rfl) : PI X tg (.Call (.Name "range" p) [a] [] pos) (iRng1 ta) := by
  intro pins s σ H R I h
  refine Call_ (ld_blt I hg hm boot_range (PyProof.Rows.callWith_type1 (thn (ha pos pins s σ H _ I h) fun us s1 zz => ?_) hs rfl))
  obtain ⟨vs, H1, I1, r1, q1⟩ := zz
  obtain ⟨j, e, q1, q2, q⟩ := q1
  subst e
  cases r1 with
  | cons r rr =>
    cases rr
    obtain ⟨t, rfl⟩ := r
    exact call_range_1 (range_it I1 (by omega) (by omega) q1 q2 (by simpa using q))
theorem pi_range2 {a b : Expr} {ta : TA} {p pos : Pos} (hg : Gl X "range") (hm : X.mg "range" = none) (ha : PA X [a, b] ta) (hs : starEach [a, b] X.env = [(false, eval a X.env), (false, eval b X.env)] := by rfl) (hs2 : starEach [b] X.env = [(false, eval b X.env)] := by rfl) :
    PI X tg (.Call (.Name "range" p) [a, b] [] pos) (iRng2 ta) := by
  intro pins s σ H R I h
  refine Call_ (ld_blt I hg hm boot_range (PyProof.Rows.callWith_type1 (thn (ha pos pins s σ H _ I h) fun us s1 zz => ?_) (by rw [hs, hs2]) (by rw [hs2]; rfl)))
  obtain ⟨vs, H1, I1, r1, q1⟩ := zz
  obtain ⟨i, j, e, ⟨q1, q2, q3, q4⟩, q⟩ := q1
  subst e
  cases r1 with
  | cons r rr =>
    cases rr with
    | cons r' rr =>
      cases rr
      obtain ⟨t, rfl⟩ := r
      obtain ⟨t', rfl⟩ := r'
      exact call_range_2 (range_it I1 q1 q2 q3 q4 q)

/-! ### for -/
noncomputable def tFor (wi : TI) (g : TG) (tb : TS) : TS := fun D σ H => wi σ H fun J H1 => ∃ W : Nat → Nat → St → Hp → Prop, (∃ m, W 0 m σ H1) ∧ ∀ i m σ H, W i m σ H →
  (J.stop i H ∧ D.nx σ H) ∨ (J.go i H ∧ ∃ N : St → Hp → Prop, (∀ σ' H', N σ' H' → ∃ m', m' < m ∧ W (i + 1) m' σ' H') ∧ ∀ x H', J.yld i H x H' → g x σ H' fun σ2 H2 => tb { D with nx := N, ct := N, bk := D.nx } σ2 H2)
noncomputable def pinsAt (fp : List Addr) (h : Heap) : List (Addr × Obj) := fp.filterMap fun b => (h.get? b).map fun o => (b, o)
theorem mem_pinsAt {fp : List Addr} {h : Heap} {b : Addr} {o : Obj} (hb : b ∈ fp) (e : h.get? b = some o) : (b, o) ∈ pinsAt fp h := List.mem_filterMap.mpr ⟨b, hb, by rw [e]; rfl⟩
theorem of_pinsAt {fp : List Addr} {h : Heap} {p : Addr × Obj} (hp : p ∈ pinsAt fp h) : p.1 ∈ fp ∧ h.get? p.1 = some p.2 := by
  obtain ⟨b, hb, e⟩ := List.mem_filterMap.mp hp
  cases q : h.get? b with
  | none => rw [q] at e; cases e
  | some o =>
    rw [q] at e
    have e' : (b, o) = p := Option.some.inj e
    subst e'
    exact ⟨hb, q⟩
theorem Inv.pinned {pins : List (Addr × Obj)} {σ : St} {H : Hp} {s : Shared} {fp : List Addr} (I : Inv X pins σ H s) (hf : ∀ b ∈ fp, FpOk X pins H b) (ho : ∀ b ∈ fp, ∃ o, s.heap.get? b = some o ∧ ∀ v, o.data ≠ .cell v) : Inv X (pins ++ pinsAt fp s.heap) σ H s :=
  I.pins_of fun p hp => (List.mem_append.mp hp).elim (fun z => I.pin p (List.mem_append_right _ z)) fun z => by
    obtain ⟨hb, e⟩ := of_pinsAt z
    obtain ⟨f0, f1, f2, _⟩ := hf p.1 hb
    obtain ⟨o, e', d⟩ := ho p.1 hb
    rw [e] at e'; cases e'
    exact ⟨e, f0, f1, f2, d⟩
theorem Inv.unpinned {pins pl : List (Addr × Obj)} {σ : St} {H : Hp} {s : Shared} (I : Inv X (pins ++ pl) σ H s) : Inv X pins σ H s := I.pins_of fun p hp => I.pin p (List.mem_append_right _ (List.mem_append_left _ hp))
theorem ps_forH {iter : Expr} {body : List Stmt} {wi : TI} {g : TG} {tb : TS} {pos : Pos} (hp : PassesOwn (model X.prog X.w) X.A X.env X.xe) (hc : HandI X) (hi : PI X tg iter wi) (hg : PG X tg g) (hb : PSs X body tb)
    (hs : ∀ x, foldedSetIterable iter X.env x = pure x := by intro _; rfl) : PS X (.For tg iter body [] pos) (tFor wi g tb) := by
  intro pins s σ H D I h
  refine wpAny_For (thn (hi pins s σ H _ I h) fun v s1 h1 => thn h1 fun itv s2 h2 => ?_) hs
  obtain ⟨it, fp, tn, J, H2, e, I2, T, st2, f2, W, ⟨m0, w0⟩, turn⟩ := h2
  subst e
  -- what stays true of the iterator's objects through the loop
  have stat : ∀ {H' : Hp}, (∀ b ∈ fp, H' b = none) → ∀ b ∈ fp, FpOk X pins H' b := fun hn b hb => ⟨hn b hb, (f2 b hb).2⟩
  refine codeAny_forLoop_any (fun n s' => ∃ i σ' H', Inv X pins σ' H' s' ∧ tn i s'.heap ∧ (∀ b ∈ fp, H' b = none) ∧ W i n σ' H') ?_ m0 ⟨0, σ, H2, I2, st2, fun b hb => (f2 b hb).1, w0⟩
  rintro n s3 ⟨i, σ3, H3, I3, st3, fr3, w3⟩
  rcases turn i n σ3 H3 w3 with ⟨stop, qn⟩ | ⟨go, N, hN, step⟩
  · refine wpAny_passesOwn hp (thn (T.done X rfl rfl rfl hc i pins s3 σ3 H3 X.xe I3 (stat fr3) st3 stop) fun r s4 ⟨hr, I4⟩ => ?_)
    subst hr
    exact wpAny_execs_nil ⟨σ3, H3, I4, qn⟩
  · refine wpAny_passesOwn hp (thn (T.item X rfl rfl rfl hc i pins s3 σ3 H3 X.xe I3 (stat fr3) st3 go) fun r s4 zz => L2.el3 zz fun u hr h4 => ?_)
    subst hr
    refine wpAny_passesOwn hp (thn h4 fun _ s5 zz => ?_)
    obtain ⟨x, H5, I5, r5, y5, st5, fr5⟩ := zz
    have I5' := I5.pinned (stat fr5) (T.obj _ _ st5)
    refine wpAny_passesOwn hp (thn (hg _ s5 σ3 H5 x u _ I5' r5 (step x H5 y5)) fun _ s6 zz => ?_)
    obtain ⟨σ6, H6, I6, q6⟩ := zz
    refine wpAny_passesOwn hp (thn (hb _ s6 σ6 H6 _ I6 q6) fun f s7 q7 => ?_)
    have again : ∀ {σ7 : St} {H7 : Hp}, Inv X (pins ++ pinsAt fp s5.heap) σ7 H7 s7 → N σ7 H7 → ∃ m, m < n ∧ ∃ i σ' H', Inv X pins σ' H' s7 ∧ tn i s7.heap ∧ (∀ b ∈ fp, H' b = none) ∧ W i m σ' H' := fun {σ7 H7} I7 n7 => by
      obtain ⟨m', hm, w7⟩ := hN σ7 H7 n7
      refine ⟨m', hm, i + 1, σ7, H7, I7.unpinned, T.keep _ _ _ st5 fun b hb o e => (I7.pin (b, o) (List.mem_append_right _ (List.mem_append_right _ (mem_pinsAt hb e)))).1, fun b hb => ?_, w7⟩
      obtain ⟨o, e, d⟩ := T.obj _ _ st5 b hb
      exact (I7.pin (b, o) (List.mem_append_right _ (List.mem_append_right _ (mem_pinsAt hb e)))).2.1
    cases f with
    | next => obtain ⟨σ7, H7, I7, n7⟩ := q7; exact again I7 n7
    | cont => obtain ⟨σ7, H7, I7, n7⟩ := q7; exact again I7 n7
    | brk => obtain ⟨σ7, H7, I7, q7⟩ := q7; exact ⟨σ7, H7, I7.unpinned, q7⟩
    | ret v => obtain ⟨x7, σ7, H7, I7, r7, q7⟩ := q7; exact ⟨x7, σ7, H7, I7.unpinned, r7, q7⟩
theorem ps_for {iter : Expr} {body : List Stmt} {wi : TI} {g : TG} {tb : TS} {pos : Pos} (hp : PassesOwn (model X.prog X.w) X.A X.env X.xe) (hc : X.calm = true) (hi : PI X tg iter wi) (hg : PG X tg g) (hb : PSs X body tb)
    (hs : ∀ x, foldedSetIterable iter X.env x = pure x := by intro _; rfl) : PS X (.For tg iter body [] pos) (tFor wi g tb) := ps_forH hp (.inl hc) hi hg hb hs
end

/-! ### the forms one uses -/
theorem for_list {K : PySem.W.Frag} {a : Addr} {xs : List V} {g : TG} {tb : TS} {D : Ends} {σ : St} {H : Hp} (Pv : Nat → St → Hp → Prop) (h0 : Pv 0 σ H) (hl : ∀ i σ H, i ≤ xs.length → Pv i σ H → SqL K H a xs)
    (hs : ∀ i x σ H, xs[i]? = some x → Pv i σ H → g x σ H fun σ2 H2 => tb { D with nx := Pv (i + 1), ct := Pv (i + 1), bk := D.nx } σ2 H2) (hd : ∀ σ H, Pv xs.length σ H → D.nx σ H) :
    ∃ W : Nat → Nat → St → Hp → Prop, (∃ m, W 0 m σ H) ∧ ∀ i m σ H, W i m σ H →
      ((Itl K a).stop i H ∧ D.nx σ H) ∨ ((Itl K a).go i H ∧ ∃ N : St → Hp → Prop, (∀ σ' H', N σ' H' → ∃ m', m' < m ∧ W (i + 1) m' σ' H') ∧ ∀ x H', (Itl K a).yld i H x H' → g x σ H' fun σ2 H2 => tb { D with nx := N, ct := N, bk := D.nx } σ2 H2) := by
  refine ⟨fun i m σ H => m = xs.length - i ∧ i ≤ xs.length ∧ Pv i σ H, ⟨xs.length, by simp, Nat.zero_le _, h0⟩, ?_⟩
  rintro i m σ H ⟨rfl, hi, p⟩
  have q := hl i σ H hi p
  by_cases hlt : i < xs.length
  · refine .inr ⟨⟨xs, xs[i], q, by simp [hlt]⟩, Pv (i + 1), fun σ' H' p' => ⟨xs.length - (i + 1), by omega, rfl, hlt, p'⟩, fun x H' y => ?_⟩
    obtain ⟨e, y⟩ := y
    subst e
    exact hs i x σ _ (y xs q) p
  · have e : i = xs.length := by omega
    subst e
    exact .inl ⟨⟨xs, q, Nat.le_refl _⟩, hd σ H p⟩
theorem for_range {lo : Int} {n : Nat} {g : TG} {tb : TS} {D : Ends} {σ : St} {H : Hp} (Pv : Nat → St → Hp → Prop) (h0 : Pv 0 σ H)
    (hs : ∀ i σ H, i < n → Pv i σ H → g (.int (lo + i)) σ H fun σ2 H2 => tb { D with nx := Pv (i + 1), ct := Pv (i + 1), bk := D.nx } σ2 H2) (hd : ∀ σ H, Pv n σ H → D.nx σ H) :
    ∃ W : Nat → Nat → St → Hp → Prop, (∃ m, W 0 m σ H) ∧ ∀ i m σ H, W i m σ H →
      ((Itr lo n).stop i H ∧ D.nx σ H) ∨ ((Itr lo n).go i H ∧ ∃ N : St → Hp → Prop, (∀ σ' H', N σ' H' → ∃ m', m' < m ∧ W (i + 1) m' σ' H') ∧ ∀ x H', (Itr lo n).yld i H x H' → g x σ H' fun σ2 H2 => tb { D with nx := N, ct := N, bk := D.nx } σ2 H2) := by
  refine ⟨fun i m σ H => m = n - i ∧ i ≤ n ∧ Pv i σ H, ⟨n, by simp, Nat.zero_le _, h0⟩, ?_⟩
  rintro i m σ H ⟨rfl, hi, p⟩
  by_cases hlt : i < n
  · refine .inr ⟨hlt, Pv (i + 1), fun σ' H' p' => ⟨n - (i + 1), by omega, rfl, hlt, p'⟩, fun x H' y => ?_⟩
    obtain ⟨e, y⟩ := y
    subst e y
    exact hs i σ _ hlt p
  · have e : i = n := by omega
    subst e
    exact .inl ⟨Nat.le_refl _, hd σ H p⟩
end L2

namespace L2
open PySem PySem.Spec PyProof.Rows

noncomputable abbrev R2 := V → V → Hp → VK → Prop
noncomputable def OpR (X : Cx) (f : Value → Value → Sem Value) (r : R2) : Prop :=
  ∀ (pins : List (Addr × Obj)) (s : Shared) (σ : St) (H : Hp) (x y : V) (v u : Value) (Q : VK), Inv X pins σ H s → RelV x v → RelV y u → r x y H Q →
    wpAny (model X.prog X.w) X.A (f v u) (EP X pins σ Q) X.xe s
noncomputable def UnR (X : Cx) (f : Value → Sem Value) (r : V → Hp → VK → Prop) : Prop :=
  ∀ (pins : List (Addr × Obj)) (s : Shared) (σ : St) (H : Hp) (x : V) (v : Value) (Q : VK), Inv X pins σ H s → RelV x v → r x H Q →
    wpAny (model X.prog X.w) X.A (f v) (EP X pins σ Q) X.xe s
noncomputable def CallR (X : Cx) (f : Value) (r : List V → Hp → VK → Prop) : Prop :=
  ∀ (pins : List (Addr × Obj)) (s : Shared) (σ : St) (H : Hp) (xs : List V) (us : List Value) (Q : VK), Inv X pins σ H s → Vals xs us → r xs H Q →
    wpAny (model X.prog X.w) X.A (call f us) (EP X pins σ Q) X.xe s

noncomputable def tOp (r : R2) (ta tb : TE) : TE := fun σ H Q => ta σ H fun x H1 => tb σ H1 fun y H2 => r x y H2 Q
noncomputable def tUn (r : V → Hp → VK → Prop) (ta : TE) : TE := fun σ H Q => ta σ H fun x H1 => r x H1 Q
noncomputable def rI (C : Int → Int → Prop) (g : Int → Int → V) : R2 := fun x y H Q => ∃ i j, x = .int i ∧ y = .int j ∧ C i j ∧ Q (g i j) H
noncomputable def rI0 (g : Int → Int → V) : R2 := fun x y H Q => ∃ i j, x = .int i ∧ y = .int j ∧ Q (g i j) H
noncomputable def rU (g : Int → V) : V → Hp → VK → Prop := fun x H Q => ∃ i, x = .int i ∧ Q (g i) H

section
variable {X : Cx} {a b c : Expr} {ta tb tc : TE} {pos : Pos}

theorem binT (ha : PE X a ta) (hb : PE X b tb) {pins : List (Addr × Obj)} {s : Shared} {σ : St} {H : Hp} {R : V → V → Hp → Prop} (I : Inv X pins σ H s)
    (h : ta σ H fun x H1 => tb σ H1 fun y H2 => R x y H2) {Q : Value → Shared → Prop} {f : Value → Value → Sem Value}
    (hf : ∀ v u s2 x y H2, Inv X pins σ H2 s2 → RelV x v → RelV y u → R x y H2 → wpAny (model X.prog X.w) X.A (f v u) Q X.xe s2) :
    wpAny (model X.prog X.w) X.A (eval a X.env) (fun v s₁ => wpAny (model X.prog X.w) X.A (eval b X.env) (fun u s₂ => wpAny (model X.prog X.w) X.A (f v u) Q X.xe s₂) X.xe s₁) X.xe s := by
  refine thn (ha pins s σ H _ I h) fun v s1 zz => ?_
  obtain ⟨x, H1, I1, r1, q1⟩ := zz
  refine thn (hb pins s1 σ H1 _ I1 q1) fun u s2 zz => ?_
  obtain ⟨y, H2, I2, r2, q2⟩ := zz
  exact hf v u s2 x y H2 I2 r1 r2 q2

theorem pe_op {op : Operator} {r : R2} (ho : OpR X (binaryOp op) r) (ha : PE X a ta) (hb : PE X b tb) : PE X (.BinOp a op b pos) (tOp r ta tb) := by
  intro pins s σ H Q I h
  exact wpAny_BinOp (binT ha hb I h fun v u s2 x y H2 I2 rx ry q => ho pins s2 σ H2 x y v u Q I2 rx ry q)
theorem pe_un {op : UnaryOp} {r : V → Hp → VK → Prop} (ho : UnR X (unaryOp op) r) (ha : PE X a ta) : PE X (.UnaryOp op a pos) (tUn r ta) := by
  intro pins s σ H Q I h
  exact UnaryOp_ (thn (ha pins s σ H _ I h) fun v s1 zz => L2.el5 zz fun x H1 I1 r1 q1 => ho pins s1 σ H1 x v Q I1 r1 q1)

/-! ### ints -/
theorem opI {f : Value → Value → Sem Value} {C : Int → Int → Prop} {g : Int → Int → Int}
    (rule : ∀ (i j : Int) (t u : Tok) (s : Shared) (Q : Value → Shared → Prop) (E : Value → Shared → Prop), C i j → Q (.int (g i j) s.toks) { s with toks := s.toks + 1 } → wpAny (model X.prog X.w) X.A (f (.int i t) (.int j u)) Q E s) :
    OpR X f (rI C fun i j => .int (g i j)) := by
  intro pins s σ H x y v u Q I rx ry h
  obtain ⟨i, j, rfl, rfl, hc, q⟩ := h
  obtain ⟨t, rfl⟩ := rx
  obtain ⟨t', rfl⟩ := ry
  exact rule i j t t' s _ _ hc ⟨.int (g i j), H, I.tok _, ⟨_, rfl⟩, q⟩
theorem opI0 {f : Value → Value → Sem Value} {g : Int → Int → Int}
    (rule : ∀ (i j : Int) (t u : Tok) (s : Shared) (Q : Value → Shared → Prop) (E : Value → Shared → Prop), Q (.int (g i j) s.toks) { s with toks := s.toks + 1 } → wpAny (model X.prog X.w) X.A (f (.int i t) (.int j u)) Q E s) :
    OpR X f (rI0 fun i j => .int (g i j)) := by
  intro pins s σ H x y v u Q I rx ry h
  obtain ⟨i, j, rfl, rfl, q⟩ := h
  obtain ⟨t, rfl⟩ := rx
  obtain ⟨t', rfl⟩ := ry
  exact rule i j t t' s _ _ ⟨.int (g i j), H, I.tok _, ⟨_, rfl⟩, q⟩
theorem opB0 {f : Value → Value → Sem Value} {g : Int → Int → Bool}
    (rule : ∀ (i j : Int) (t u : Tok) (s : Shared) (Q : Value → Shared → Prop) (E : Value → Shared → Prop), Q (.bool (g i j)) s → wpAny (model X.prog X.w) X.A (f (.int i t) (.int j u)) Q E s) :
    OpR X f (rI0 fun i j => .bl (g i j)) := by
  intro pins s σ H x y v u Q I rx ry h
  obtain ⟨i, j, rfl, rfl, q⟩ := h
  obtain ⟨t, rfl⟩ := rx
  obtain ⟨t', rfl⟩ := ry
  exact rule i j t t' s _ _ ⟨.bl (g i j), H, I, rfl, q⟩

noncomputable def CPow (i j : Int) : Prop := 0 ≤ j ∧ j ≤ 1000000 ∧ i.natAbs < 2 ^ 64
noncomputable def CMul (i j : Int) : Prop := (-(2 ^ 64) < i ∧ i < 2 ^ 64) ∨ (-(2 ^ 64) < j ∧ j < 2 ^ 64)
theorem CMul.ok {i j : Int} (h : CMul i j) : IntMulOk i j := by
  rcases h with ⟨h1, h2⟩ | ⟨h1, h2⟩
  · exact .of_left (intBits_le_64 h1 h2)
  · exact .of_right (intBits_le_64 h1 h2)

theorem op_add : OpR X (binaryOp .Add) (rI0 fun i j => .int (i + j)) := opI0 fun _ _ _ _ _ _ _ q => add_int q
theorem op_sub : OpR X (binaryOp .Sub) (rI0 fun i j => .int (i - j)) := opI0 fun _ _ _ _ _ _ _ q => sub_int q
theorem op_mul : OpR X (binaryOp .Mult) (rI CMul fun i j => .int (i * j)) := opI fun _ _ _ _ _ _ _ hc q => mul_int q hc.ok
theorem op_mod : OpR X (binaryOp .Mod) (rI (fun _ j => 0 < j) fun i j => .int (i % j)) := opI fun i j _ _ _ _ _ hc q => by
  have h1 : (0 : Int) < j := hc
  exact mod_int' (by omega) (by rw [Int.fmod_eq_emod_of_nonneg i (by omega)]; exact q)
theorem op_pow : OpR X (binaryOp .Pow) (rI CPow fun i j => .int (i ^ j.toNat)) := opI fun _ _ _ _ _ _ _ hc q => pow_int_small hc.1 hc.2.1 hc.2.2 q


theorem unI {f : Value → Sem Value} {g : Int → Int}
    (rule : ∀ (i : Int) (t : Tok) (s : Shared) (Q : Value → Shared → Prop) (E : Value → Shared → Prop), Q (.int (g i) s.toks) { s with toks := s.toks + 1 } → wpAny (model X.prog X.w) X.A (f (.int i t)) Q E s) :
    UnR X f (rU fun i => .int (g i)) := by
  intro pins s σ H x v Q I rx h
  obtain ⟨i, rfl, q⟩ := h
  obtain ⟨t, rfl⟩ := rx
  exact rule i t s _ _ ⟨.int (g i), H, I.tok _, ⟨_, rfl⟩, q⟩
theorem un_neg : UnR X (unaryOp .USub) (rU fun i => .int (-i)) := unI fun _ _ _ _ _ q => neg_int q

/-! ### bools among ints: n += (a < b) -/
end

/-! ### comparisons -/
noncomputable def scal : V → V → Bool
  | .non, .non => true | .non, .int _ => true | .int _, .non => true | .non, .bl _ => true | .bl _, .non => true | .non, .str _ => true | .str _, .non => true
  | .int _, .int _ => true | .bl _, .bl _ => true | .str _, .str _ => true | .byt _, .byt _ => true
  | .int _, .str _ => true | .str _, .int _ => true | .bl _, .str _ => true | .str _, .bl _ => true
  | _, _ => false
noncomputable def rEq : R2 := fun x y H Q => scal x y = true ∧ Q (.bl (decide (x = y))) H
noncomputable def rNe : R2 := fun x y H Q => scal x y = true ∧ Q (.bl (!decide (x = y))) H

theorem dec_int {i j : Int} : decide (V.int i = V.int j) = (i == j) := by
  rw [Bool.eq_iff_iff]
  simp
theorem dec_bl {i j : Bool} : decide (V.bl i = V.bl j) = (i == j) := by
  rw [Bool.eq_iff_iff]
  simp
theorem dec_str {i j : Str} : decide (V.str i = V.str j) = (i == j) := by
  rw [Bool.eq_iff_iff]
  simp
theorem dec_byt {i j : Array UInt8} : decide (V.byt i = V.byt j) = (i.toList == j.toList) := by
  rw [Bool.eq_iff_iff]
  cases i
  cases j
  simp

section
variable {X : Cx} {a b c : Expr} {ta tb tc : TE} {pos : Pos}
theorem fin_bl {pins : List (Addr × Obj)} {σ : St} {H : Hp} {s : Shared} {Q : VK} {k k' : Bool} (I : Inv X pins σ H s) (q : Q (.bl k) H) (e : k = k') : EP X pins σ Q (.bool k') s := by
  subst e
  exact ⟨.bl k, H, I, rfl, q⟩
theorem op_eq : OpR X (compareOp .Eq) rEq := by
  intro pins s σ H x y v u Q I rx ry h
  obtain ⟨hs, q⟩ := h
  cases x with
  | non =>
    cases rx
    cases y with
    | non => cases ry; exact PySem.EqNone.eq_none_none (fin_bl I q (by simp))
    | bl j => cases ry; exact PySem.EqNone.eq_none_bool (fin_bl I q (by simp))
    | int j => obtain ⟨t', rfl⟩ := ry; exact PySem.EqNone.eq_none_int (fin_bl I q (by simp))
    | str j => obtain ⟨t', rfl⟩ := ry; exact PySem.EqNone.eq_none_str (fin_bl I q (by simp))
    | _ => exact absurd (show false = true from hs) Bool.false_ne_true
  | bl i =>
    cases rx
    cases y with
    | non => cases ry; exact PySem.EqNone.eq_bool_none (fin_bl I q (by simp))
    | bl j => cases ry; exact eq_bool (fin_bl I q dec_bl)
    | str j => obtain ⟨t', rfl⟩ := ry; exact PySem.EqMixed.eq_bool_str (fin_bl I q (by simp))
    | _ => exact absurd (show false = true from hs) Bool.false_ne_true
  | int i =>
    obtain ⟨t, rfl⟩ := rx
    cases y with
    | non => cases ry; exact PySem.EqNone.eq_int_none (fin_bl I q (by simp))
    | int j => obtain ⟨t', rfl⟩ := ry; exact eq_int (fin_bl I q dec_int)
    | str j => obtain ⟨t', rfl⟩ := ry; exact PySem.EqMixed.eq_int_str (fin_bl I q (by simp))
    | _ => exact absurd (show false = true from hs) Bool.false_ne_true
  | str i =>
    obtain ⟨t, rfl⟩ := rx
    cases y with
    | non => cases ry; exact PySem.EqNone.eq_str_none (fin_bl I q (by simp))
    | bl j => cases ry; exact PySem.EqMixed.eq_str_bool (fin_bl I q (by simp))
    | int j => obtain ⟨t', rfl⟩ := ry; exact PySem.EqMixed.eq_str_int (fin_bl I q (by simp))
    | str j => obtain ⟨t', rfl⟩ := ry; exact eq_str (fin_bl I q dec_str)
    | _ => exact absurd (show false = true from hs) Bool.false_ne_true
  | byt i =>
    obtain ⟨t, rfl⟩ := rx
    cases y with
    | byt j => obtain ⟨t', rfl⟩ := ry; exact PySem.W.eq_bytes (fin_bl I q dec_byt)
    | _ => exact absurd (show false = true from hs) Bool.false_ne_true
  | _ => cases y <;> exact absurd (show false = true from hs) Bool.false_ne_true
theorem op_ne : OpR X (compareOp .NotEq) rNe := by
  intro pins s σ H x y v u Q I rx ry h
  obtain ⟨hs, q⟩ := h
  cases x with
  | non =>
    cases rx
    cases y with
    | non => cases ry; exact PySem.EqNone.ne_none_none (fin_bl I q (by simp))
    | bl j => cases ry; exact PySem.EqNone.ne_none_bool (fin_bl I q (by simp))
    | int j => obtain ⟨t', rfl⟩ := ry; exact PySem.EqNone.ne_none_int (fin_bl I q (by simp))
    | str j => obtain ⟨t', rfl⟩ := ry; exact PySem.EqNone.ne_none_str (fin_bl I q (by simp))
    | _ => exact absurd (show false = true from hs) Bool.false_ne_true
  | bl i =>
    cases rx
    cases y with
    | non => cases ry; exact PySem.EqNone.ne_bool_none (fin_bl I q (by simp))
    | bl j => cases ry; exact ne_bool (fin_bl I q (congrArg not dec_bl))
    | str j => obtain ⟨t', rfl⟩ := ry; exact PySem.EqMixed.ne_bool_str (fin_bl I q (by simp))
    | _ => exact absurd (show false = true from hs) Bool.false_ne_true
  | int i =>
    obtain ⟨t, rfl⟩ := rx
    cases y with
    | non => cases ry; exact PySem.EqNone.ne_int_none (fin_bl I q (by simp))
    | int j => obtain ⟨t', rfl⟩ := ry; exact ne_int (fin_bl I q (congrArg not dec_int))
    | str j => obtain ⟨t', rfl⟩ := ry; exact PySem.EqMixed.ne_int_str (fin_bl I q (by simp))
    | _ => exact absurd (show false = true from hs) Bool.false_ne_true
  | str i =>
    obtain ⟨t, rfl⟩ := rx
    cases y with
    | non => cases ry; exact PySem.EqNone.ne_str_none (fin_bl I q (by simp))
    | bl j => cases ry; exact PySem.EqMixed.ne_str_bool (fin_bl I q (by simp))
    | int j => obtain ⟨t', rfl⟩ := ry; exact PySem.EqMixed.ne_str_int (fin_bl I q (by simp))
    | str j => obtain ⟨t', rfl⟩ := ry; exact ne_str (fin_bl I q (congrArg not dec_str))
    | _ => exact absurd (show false = true from hs) Bool.false_ne_true
  | byt i =>
    obtain ⟨t, rfl⟩ := rx
    cases y with
    | byt j => obtain ⟨t', rfl⟩ := ry; exact PySem.W.ne_bytes (fin_bl I q (congrArg not dec_byt))
    | _ => exact absurd (show false = true from hs) Bool.false_ne_true
  | _ => cases y <;> exact absurd (show false = true from hs) Bool.false_ne_true

theorem op_lt : OpR X (compareOp .Lt) (rI0 fun i j => .bl (decide (i < j))) := opB0 fun _ _ _ _ _ _ _ q => lt_int q
theorem op_le : OpR X (compareOp .LtE) (rI0 fun i j => .bl (decide (i ≤ j))) := opB0 fun _ _ _ _ _ _ _ q => le_int q
theorem op_gt : OpR X (compareOp .Gt) (rI0 fun i j => .bl (decide (j < i))) := opB0 fun _ _ _ _ _ _ _ q => gt_int q

theorem op_isN : OpR X (compareOp .Is) (fun x y H Q => y = .non ∧ Q (.bl (decide (x = .non))) H) := by
  intro pins s σ H x y v u Q I rx ry h
  obtain ⟨rfl, q⟩ := h
  cases ry
  refine is_none_gen (fin_bl I q ?_)
  cases x <;> first
    | (cases rx; rfl)
    | (obtain ⟨t, rfl⟩ := rx; rfl)



theorem nomark (b : Expr) {op : CmpOp} (h : op ≠ .In := by decide) (h2 : op ≠ .NotIn := by decide) : behindInMarks op b = false := by
  have e1 : (op == CmpOp.In) = false := by cases op <;> first | rfl | exact absurd rfl h
  have e2 : (op == CmpOp.NotIn) = false := by cases op <;> first | rfl | exact absurd rfl h2
  cases b <;> simp [behindInMarks, e1, e2]
theorem pe_cmpR {op : CmpOp} {r : R2} (ho : OpR X (compareOp op) r) (ha : PE X a ta) (hb : PE X b tb) (hm : behindInMarks op b = false) : PE X (.Compare a [op] [b] pos) (tOp r ta tb) := by
  intro pins s σ H Q I h
  exact wpAny_Compare1 (binT ha hb I h fun v u s2 x y H2 I2 rx ry q => ho pins s2 σ H2 x y v u Q I2 rx ry q) hm
noncomputable def tTest (t : TE) : TT := fun σ H Q => t σ H fun x H' => ∃ k, x = .bl k ∧ Q k H'
theorem pt_cmpR {op : CmpOp} {r : R2} (ho : OpR X (compareOp op) r) (ha : PE X a ta) (hb : PE X b tb) (hm : behindInMarks op b = false) : PT X (.Compare a [op] [b] pos) (tTest (tOp r ta tb)) := by
  intro pins s σ H Q I h
  refine wpAny_isTrue_Compare1 (thn (ha pins s σ H _ I h) fun v s1 zz => L2.el5 zz fun x H1 I1 r1 q1 => thn (hb pins s1 σ H1 _ I1 q1) fun u s2 zz => L2.el5 zz fun y H2 I2 r2 q2 =>
    thn (ho pins s2 σ H2 x y v u _ I2 r1 r2 q2) fun c s3 zz => ?_) hm
  obtain ⟨z, H3, I3, r3, k, e, q3⟩ := zz
  subst e
  cases r3
  exact wpAny_truthy_bool ⟨H3, I3, q3⟩
noncomputable def tChain (r r' : R2) (ta tb tc : TE) : TE := fun σ H Q => ta σ H fun x H1 => tb σ H1 fun y H2 => r x y H2 fun z H3 => ∃ k, z = .bl k ∧
  (if k = true then tc σ H3 fun w' H4 => r' y w' H4 Q else Q (.bl false) H3)
theorem pe_chain {op op' : CmpOp} {r r' : R2} (ho : OpR X (compareOp op) r) (ho' : OpR X (compareOp op') r') (ha : PE X a ta) (hb : PE X b tb) (hc : PE X c tc)
    (hm : lastMarks [op, op'] [b, c] = false := by with_unfolding_all rfl) : PE X (.Compare a [op, op'] [b, c] pos) (tChain r r' ta tb tc) := by
  intro pins s σ H Q I h
  refine Compare_chain (thn (ha pins s σ H _ I h) fun v s1 zz => L2.el5 zz fun x H1 I1 r1 q1 => chain_link (thn (hb pins s1 σ H1 _ I1 q1) fun u s2 zz => L2.el5 zz fun y H2 I2 r2 q2 =>
    thn (ho pins s2 σ H2 x y v u _ I2 r1 r2 q2) fun d s3 zz => ?_)) hm
  obtain ⟨z, H3, I3, r3, k, e, q3⟩ := zz
  subst e
  cases r3
  refine wpAny_truthy_bool ?_
  cases k with
  | false => exact ite_ff ⟨.bl false, H3, I3, rfl, q3⟩
  | true => exact ite_tt (chain_last (thn (hc pins s3 σ H3 _ I3 q3) fun w' s4 zz => L2.el5 zz fun z' H4 I4 r4 q4 => ho' pins s4 σ H4 y z' u w' Q I4 r2 r4 q4))
theorem pt_chain {op op' : CmpOp} {r r' : R2} (ho : OpR X (compareOp op) r) (ho' : OpR X (compareOp op') r') (ha : PE X a ta) (hb : PE X b tb) (hc : PE X c tc)
    (hm : lastMarks [op, op'] [b, c] = false := by with_unfolding_all rfl) : PT X (.Compare a [op, op'] [b, c] pos) (tTest (tChain r r' ta tb tc)) := by
  intro pins s σ H Q I h
  refine isTrue_chain (thn (ha pins s σ H _ I h) fun v s1 zz => L2.el5 zz fun x H1 I1 r1 q1 => test_link (thn (hb pins s1 σ H1 _ I1 q1) fun u s2 zz => L2.el5 zz fun y H2 I2 r2 q2 =>
    thn (ho pins s2 σ H2 x y v u _ I2 r1 r2 q2) fun d s3 zz => ?_)) hm
  obtain ⟨z, H3, I3, r3, k, e, q3⟩ := zz
  subst e
  cases r3
  refine wpAny_truthy_bool ?_
  cases k with
  | false =>
    obtain ⟨k', e', q'⟩ := q3
    cases e'
    exact ite_ff ⟨H3, I3, q'⟩
  | true =>
    refine ite_tt (test_last (thn (hc pins s3 σ H3 _ I3 q3) fun w' s4 zz => L2.el5 zz fun z' H4 I4 r4 q4 => thn (ho' pins s4 σ H4 y z' u w' _ I4 r2 r4 q4) fun d' s5 zz => ?_))
    obtain ⟨z2, H5, I5, r5, k2, e2, q5⟩ := zz
    subst e2
    cases r5
    exact wpAny_truthy_bool ⟨H5, I5, q5⟩

/-! ### truth -/
theorem line63 : (sizeLine : Nat) < 2 ^ 63 := by rw [sizeLine_eq]; decide

/-! ### strs and bytes -/


/-! ### scalar builtins, by CallR -/
theorem vals1 {x : V} {us : List Value} (r : Vals [x] us) : ∃ u, us = [u] ∧ RelV x u := by
  cases r with
  | cons r1 r2 => cases r2; exact ⟨_, rfl, r1⟩
theorem vals2 {x y : V} {us : List Value} (r : Vals [x, y] us) : ∃ u w', us = [u, w'] ∧ RelV x u ∧ RelV y w' := by
  cases r with
  | cons r1 r2 =>
    cases r2 with
    | cons r3 r4 => cases r4; exact ⟨_, _, rfl, r1, r3⟩
theorem call_max2 (hc : X.calm = true) : CallR X (.builtin "max") (fun xs H Q => ∃ i j, xs = [.int i, .int j] ∧ Q (.int (if j > i then j else i)) H) := by
  intro pins s σ H xs us Q I r h
  obtain ⟨i, j, rfl, q⟩ := h
  obtain ⟨u, w', rfl, ⟨t, rfl⟩, ⟨t', rfl⟩⟩ := vals2 r
  refine max_two_ints (I.ok.hd hc) fun h' tk k => ⟨_, H, I.kept k, ?_, q⟩
  by_cases hj : j > i
  · rw [if_pos hj, if_pos hj]; exact ⟨_, rfl⟩
  · rw [if_neg hj, if_neg hj]; exact ⟨_, rfl⟩
theorem call_min2 (hc : X.calm = true) : CallR X (.builtin "min") (fun xs H Q => ∃ i j, xs = [.int i, .int j] ∧ Q (.int (if j < i then j else i)) H) := by
  intro pins s σ H xs us Q I r h
  obtain ⟨i, j, rfl, q⟩ := h
  obtain ⟨u, w', rfl, ⟨t, rfl⟩, ⟨t', rfl⟩⟩ := vals2 r
  refine min_two_ints (I.ok.hd hc) fun h' tk k => ⟨_, H, I.kept k, ?_, q⟩
  by_cases hj : j < i
  · rw [if_pos hj, if_pos hj]; exact ⟨_, rfl⟩
  · rw [if_neg hj, if_neg hj]; exact ⟨_, rfl⟩
theorem call_int1 : CallR X (.type "int") (fun xs H Q => (∃ i, xs = [.int i] ∧ Q (.int i) H) ∨ ∃ k, xs = [.bl k] ∧ Q (.int (if k then 1 else 0)) H) := by
  intro pins s σ H xs us Q I r h
  rcases h with ⟨i, rfl, q⟩ | ⟨k, rfl, q⟩
  · obtain ⟨u, rfl, t, rfl⟩ := vals1 r
    exact call_int_int ⟨.int i, H, I, ⟨_, rfl⟩, q⟩
  · obtain ⟨u, rfl, r1⟩ := vals1 r
    cases r1
    exact call_int_bool ⟨.int (if k then 1 else 0), H, I.tok _, ⟨_, rfl⟩, q⟩
end
end L2

namespace L2
open PySem PySem.Spec PyProof.Rows

/-! ### an instance, its attributes a map -/
structure ObjM (h : Heap) (x dx C : Addr) (mA : Str → Option Value) : Prop where
  obj : h.get? x = some (PySem.W.instObj C dx)
  ns : h.Ns1 dx mA
  ne : dx ≠ x

theorem lookIn_ns {h : Heap} {dx : Addr} {mA : Str → Option Value} (n : h.Ns1 dx mA) : ∃ od, h.get? dx = some od ∧ ∀ name, PySem.W.lookIn name od = some (mA name) := by
  obtain ⟨o, es, ep, ho, hd, hk, _, hm⟩ := n
  refine ⟨o, ho, fun name => ?_⟩
  have e := hm name
  unfold nsFind findBy at e
  rw [← Array.find?_toList] at e
  unfold PySem.W.lookIn
  rw [hd]
  dsimp only
  split
  · rename_i y q
    rw [q] at e
    exact congrArg some e
  · rename_i q
    rw [q] at e
    have a : es.toList.any (·.refKey) = false := by
      rw [List.any_eq_false]
      intro y hy
      obtain ⟨z, t, hkey⟩ := hk y (Array.mem_toList_iff.mp hy)
      simp [DictEntry.refKey, hkey]
    have a' : ¬ es.toList.any (·.refKey) = true := by rw [a]; exact Bool.false_ne_true
    rw [if_neg a']
    exact congrArg some e

theorem ObjM.look {h : Heap} {x dx C : Addr} {mA : Str → Option Value} (I : ObjM h x dx C mA) : ∃ od, PySem.W.InstAt h x (PySem.W.instObj C dx) C (some od) ∧ ∀ name, PySem.W.lookIn name od = some (mA name) :=
  let ⟨od, ho, hl⟩ := lookIn_ns I.ns
  ⟨od, ⟨I.obj, rfl, rfl, ho⟩, hl⟩

section
variable {prog : Program} {w : World} {A : Around} {E : Value → Shared → Prop} {s : Shared} {K : PySem.W.Frag} {x dx C f : Addr} {mA : Str → Option Value} {name : Str} {v : Value}

theorem get_map {expr : Bool} {Q : Value → Shared → Prop} (X : K.In s.heap) (I : ObjM s.heap x dx C mA) (hg : PySem.W.plainGet K C name = true) (hh : PySem.W.hasDictIn K C = true)
    (ha : PySem.W.findIn K (.ref C) name = some none) (hv : mA name = some v) (hv' : PySem.W.handedIn v = true) (h : Q v { s with toks := s.toks + 1 }) :
    wpAny (model prog w) A (getAttr (.ref x) name expr) Q E s := by
  obtain ⟨od, J, hl⟩ := I.look
  exact PySem.W.get_value X J (PySem.W.plainGet_of hg).1 (PySem.W.findObj_own hh ha rfl (by rw [hl, hv])) hv' h


theorem get_meth {pl : Sem Bool} {Q : Value × List Value → Shared → Prop} (X : K.In s.heap) (I : ObjM s.heap x dx C mA) (hg : PySem.W.plainGet K C name = true)
    (hf : PySem.W.findIn K (.ref C) name = some (some (.ref f))) (ht : PySem.W.isFn K (.ref f) = true) (hv : mA name = none) (h : Q (.ref f, [.ref x]) s) :
    wpAny (model prog w) A (getMethod (.ref x) name pl) Q E s := by
  obtain ⟨od, J, hl⟩ := I.look
  exact PySem.W.method_fn X J (PySem.W.plainGet_of hg).1 (PySem.W.plainGet_of hg).2 hf (beq_iff_eq.mp ht) (by show (PySem.W.lookIn name od).map (·.isSome) = some false; rw [hl, hv]; rfl) h

theorem set_map {ns : List Str} {Q : Unit → Shared → Prop} (X : K.In s.heap) (I : ObjM s.heap x dx C mA)
    (hs : PySem.W.findIn K (.ref C) "__setattr__" = some (some (.builtin "object.__setattr__"))) (hp : PySem.W.plainOver K C = true) (ht : PySem.W.takerIn K C name = some none) (hh : PySem.W.hasDictIn K C = true)
    (hw : PySem.Within mA ns) (hsz : ns.length ≤ sizeLine)
    (h : ∀ h', ObjM h' x dx C (fun y => if y = name then some v else mA y) → Heap.SameBut dx s.heap h' → Q () { s with heap := h', toks := s.toks + 2 }) :
    wpAny (model prog w) A (setAttr (.ref x) name v) Q E s := by
  obtain ⟨od, J, hl⟩ := I.look
  refine PySem.W.set_plain X J hs (PySem.W.osa_open (s := { s with toks := s.toks + 1 }) (r := none) X J hp ht fun b => ?_)
  obtain ⟨cd, hc, hd'⟩ := PySem.W.any_some hh
  have hx : s.heap.get? x = some ⟨.ref C, some dx, .plain, #[]⟩ := I.obj
  refine wpAny_bind (wpAny_pure (wpAny_bind (wpAny_bind (wpAny_loadPart hx (wpAny_bind (PySem.W.Looks.here (s := { s with toks := s.toks + 1 }) (PySem.W.looks_clsIn X hc) ?_))))))
  rw [hd']
  refine wpAny_pure (a := some dx) (wpAny_bind (wpAny_pure (wpAny_bind ?_)))
  refine wpAny_nsSet1 (s := { s with toks := s.toks + 1 }) I.ns fun h' hn2 hs2 => ?_
  obtain ⟨oD, esD, epD, hoD, hdD, hcD⟩ := hn2.count (PySem.Within.cons name v hw)
  refine wpAny_bind (wpAny_lookBehind hoD (by rw [hdD]; exact pastItsLine_dict (Nat.le_trans hcD (by rw [List.length_cons]; omega))) ?_)
  exact wpAny_pure (h _ ⟨(hs2.2 _ (Ne.symm I.ne)).trans I.obj, hn2, I.ne⟩ hs2)

theorem make_map {R : Result → Shared → Prop} {vs : List Value} {kw : List (Str × Value)} (X : K.In s.heap) (hm : PySem.W.makesIn K C = true)
    (hi : PySem.W.findIn K (.ref C) "__init__" = some (some (.ref f))) (hf : PySem.W.typeIn K (.ref f) = some (.type "function"))
    (h : codeAny (model prog w) (A.under (.builtin "type.__call__" ⟨.ref C :: vs, kw⟩)) (.call (.ref f) ⟨.ref (s.heap.objs.size + 1) :: vs, kw⟩) (PySem.W.InitBack (s.heap.objs.size + 1) R)
      { s with heap := (s.heap.push PySem.W.emptyDict).push (PySem.W.instObj C s.heap.objs.size) }) :
    codeAny (model prog w) A (.call (.ref C) ⟨vs, kw⟩) R s := by
  obtain ⟨hh, g, d, t, os⟩ := s
  exact PySem.W.make_core (PySem.W.makes_of X hm) (PySem.W.looks_findIn X hi) (fun self => PySem.W.bind_fn X self hf) (.inl rfl) h
end

/-! ### the attributes as a list of pairs -/
noncomputable def putF (f : Str) (v : V) : List (Str × V) → List (Str × V)
  | [] => [(f, v)]
  | (g, x) :: r => if g = f then (g, v) :: r else (g, x) :: putF f v r
theorem lookup_putF (f g : Str) (v : V) : ∀ fs : List (Str × V), (putF f v fs).lookup g = if g = f then some v else fs.lookup g
  | [] => by
    show List.lookup g [(f, v)] = _
    by_cases h : g = f
    · have hb : (g == f) = true := beq_iff_eq.mpr h
      simp only [List.lookup, hb, if_pos h]
    · have hb : (g == f) = false := beq_eq_false_iff_ne.mpr h
      simp only [List.lookup, hb, if_neg h]
  | (k, x) :: r => by
    have ih := lookup_putF f g v r
    rw [show putF f v ((k, x) :: r) = (if k = f then (k, v) :: r else (k, x) :: putF f v r) from rfl]
    by_cases hk : k = f
    · rw [if_pos hk]
      by_cases h : g = k
      · have hb : (g == k) = true := beq_iff_eq.mpr h
        simp only [List.lookup, hb, if_pos (h.trans hk)]
      · have hb : (g == k) = false := beq_eq_false_iff_ne.mpr h
        simp only [List.lookup, hb, if_neg (fun e : g = f => h (e.trans hk.symm))]
    · rw [if_neg hk]
      by_cases h : g = k
      · have hb : (g == k) = true := beq_iff_eq.mpr h
        simp only [List.lookup, hb, if_neg (fun e : g = f => hk (h.symm.trans e))]
      · have hb : (g == k) = false := beq_eq_false_iff_ne.mpr h
        simp only [List.lookup, hb]
        exact ih
theorem keys_putF (f : Str) (v : V) : ∀ fs : List (Str × V), f ∈ (putF f v fs).map (·.1) ∧ ∀ g, g ∈ fs.map (·.1) → g ∈ (putF f v fs).map (·.1)
  | [] => ⟨by simp [putF], fun g h => by simp at h⟩
  | (k, x) :: r => by
    obtain ⟨i1, i2⟩ := keys_putF f v r
    rw [show putF f v ((k, x) :: r) = (if k = f then (k, v) :: r else (k, x) :: putF f v r) from rfl]
    by_cases hk : k = f
    · rw [if_pos hk]
      subst hk
      exact ⟨by simp, fun g h => by simpa using h⟩
    · rw [if_neg hk]
      refine ⟨?_, fun g h => ?_⟩
      · rw [List.map_cons]
        exact List.mem_cons_of_mem _ i1
      · rw [List.map_cons] at h ⊢
        rcases List.mem_cons.mp h with e | e
        · exact List.mem_cons.mpr (.inl e)
        · exact List.mem_cons_of_mem _ (i2 g e)
theorem length_putF (f : Str) (v : V) : ∀ fs : List (Str × V), (putF f v fs).length ≤ fs.length + 1
  | [] => by simp [putF]
  | (k, x) :: r => by
    have ih := length_putF f v r
    rw [show putF f v ((k, x) :: r) = (if k = f then (k, v) :: r else (k, x) :: putF f v r) from rfl]
    by_cases hk : k = f
    · rw [if_pos hk, List.length_cons, List.length_cons]; omega
    · rw [if_neg hk, List.length_cons, List.length_cons]; omega

theorem RelO.some_of {v : V} {o : Option Value} (r : RelO (some v) o) : ∃ u, o = some u ∧ RelV v u := by
  cases o with
  | none => exact (show False from r).elim
  | some u => exact ⟨u, rfl, r⟩
theorem RelO.none_of {o : Option Value} (r : RelO none o) : o = none := by
  cases o with
  | none => rfl
  | some u => exact (show False from r).elim
theorem handed_of {v : V} {u : Value} (r : RelV v u) : PySem.W.handedIn u = true := by
  cases v with
  | non => cases (show u = Value.none from r); rfl
  | bl b => cases (show u = Value.bool b from r); rfl
  | int i => obtain ⟨t, e⟩ := (show ∃ t, u = Value.int i t from r); cases e; rfl
  | str x => obtain ⟨t, e⟩ := (show ∃ t, u = Value.str x t from r); cases e; rfl
  | byt b => obtain ⟨t, e⟩ := (show ∃ t, u = Value.bytes b t from r); cases e; rfl
  | flt b => obtain ⟨t, e⟩ := (show ∃ t, u = Value.float b t from r); cases e; rfl
  | ref a => cases (show u = Value.ref a from r); rfl
  | ty n => cases (show u = Value.type n from r); rfl

section
variable {P : Program} {w : World} {H H' : Hp} {h h' : Heap} {a C dx : Addr} {fs fs' : List (Str × V)}
theorem ins_get (hok : HOk P w H h) (e : H a = some (.ins C dx fs)) : ∃ mA, ObjM h a dx C mA ∧ (∀ f, RelO (fs.lookup f) (mA f)) ∧ PySem.Within mA (fs.map (·.1)) ∧ fs.length ≤ 1000 ∧ H dx = some (.own a) := by
  obtain ⟨d, z, ne, ob, mA, n, r, q⟩ := (show ObjOk P w H h a (.ins C dx fs) from hok a _ e)
  exact ⟨mA, ⟨ob, n, ne⟩, r, q, z, d⟩
end

/-! ### what of the text a class must have -/
structure Cls (K : PySem.W.Frag) (C : Addr) : Prop where
  pg : PySem.W.plainGet K C Str.empty = true
  hd : PySem.W.hasDictIn K C = true
  po : PySem.W.plainOver K C = true
  sa : PySem.W.findIn K (.ref C) "__setattr__" = some (some (.builtin "object.__setattr__"))
theorem Cls.get {K : PySem.W.Frag} {C : Addr} (c : Cls K C) (f : Str) : PySem.W.plainGet K C f = true := c.pg
noncomputable def NoAttr (K : PySem.W.Frag) (C : Addr) (f : Str) : Prop := PySem.W.findIn K (.ref C) f = some none
theorem NoAttr.taker {K : PySem.W.Frag} {C : Addr} {f : Str} (n : NoAttr K C f) : PySem.W.takerIn K C f = some none := by
  unfold PySem.W.takerIn
  rw [show PySem.W.findIn K (.ref C) f = some none from n]
  rfl
structure Meth (K : PySem.W.Frag) (C : Addr) (m : Str) (f : Addr) : Prop where
  at_ : PySem.W.findIn K (.ref C) m = some (some (.ref f))
  fn : PySem.W.isFn K (.ref f) = true
  kp : PySem.W.keepIn K (.ref f) = true

section
variable {X : Cx} {pins : List (Addr × Obj)} {σ : St} {H : Hp} {s : Shared} {a C dx : Addr} {fs : List (Str × V)} {f : Str} {v : V} {A : Around} {E : Value → Shared → Prop}

theorem getattr_ok {b : Bool} {Q : Value → Shared → Prop} (I : Inv X pins σ H s) (e : H a = some (.ins C dx fs)) (c : Cls X.K C) (n : NoAttr X.K C f) (l : fs.lookup f = some v)
    (h : ∀ u s', Inv X pins σ H s' → RelV v u → Q u s') : wpAny (model X.prog X.w) A (getAttr (.ref a) f b) Q E s := by
  obtain ⟨mA, O, r, _, _, _⟩ := ins_get I.hok e
  obtain ⟨u, hu, ru⟩ := RelO.some_of (v := v) (o := mA f) (by rw [← l]; exact r f)
  exact get_map I.kIn O (c.get f) c.hd n hu (handed_of ru) (h u _ (I.tok _) ru)


theorem getmeth_ok {m : Str} {g : Addr} {pl : Sem Bool} {Q : Value × List Value → Shared → Prop} (I : Inv X pins σ H s) (e : H a = some (.ins C dx fs)) (c : Cls X.K C) (k : Meth X.K C m g) (l : fs.lookup m = none)
    (h : Q (.ref g, [.ref a]) s) : wpAny (model X.prog X.w) A (getMethod (.ref a) m pl) Q E s := by
  obtain ⟨mA, O, r, _, _, _⟩ := ins_get I.hok e
  have hn : mA m = none := RelO.none_of (by rw [← l]; exact r m)
  exact get_meth I.kIn O (c.get m) k.at_ k.fn hn h

theorem setattr_ok {y : V} {u : Value} {Q : Unit → Shared → Prop} (I : Inv X pins σ H s) (e : H a = some (.ins C dx fs)) (c : Cls X.K C) (n : NoAttr X.K C f) (hl : fs.length < 1000) (ry : RelV y u)
    (h : ∀ s', Inv X pins σ (upd H a (.ins C dx (putF f y fs))) s' → Q () s') : wpAny (model X.prog X.w) A (setAttr (.ref a) f u) Q E s := by
  obtain ⟨mA, O, r, wi, _, ho⟩ := ins_get I.hok e
  have hz : (fs.map (·.1)).length ≤ sizeLine := by rw [List.length_map, sizeLine_eq]; omega
  refine set_map I.kIn O c.sa c.po n.taker c.hd wi hz fun h' O' sb => h _ ?_
  have hd : ∃ o, h'.get? dx = some o := let ⟨o, _, _, e', _⟩ := O'.ns; ⟨o, e'⟩
  refine I.write (x := a) (e := dx) (by rw [e]; exact True.intro) (.inr ho) (fun b q hb z => (sb.2 b hb).trans z) hd ?_
  refine ⟨by rw [upd_ne O.ne]; exact ho, ?_, O.ne, O'.obj, _, O'.ns, fun g => ?_, fun g hg => ?_⟩
  · have := length_putF f y fs; omega
  · show RelO ((putF f y fs).lookup g) (if g = f then some u else mA g)
    rw [lookup_putF]
    by_cases q : g = f
    · rw [if_pos q, if_pos q]; exact ry
    · rw [if_neg q, if_neg q]; exact r g
  · by_cases q : g = f
    · rw [q]; exact (keys_putF f y fs).1
    · refine (keys_putF f y fs).2 g (wi g fun z => hg ?_)
      show (if g = f then some u else mA g) = none
      rw [if_neg q]; exact z

theorem Inv.made (I : Inv X pins σ H s) : Inv X pins σ (upd (upd H s.heap.objs.size (.own (s.heap.objs.size + 1))) (s.heap.objs.size + 1) (.ins C s.heap.objs.size []))
    { s with heap := (s.heap.push PySem.W.emptyDict).push (PySem.W.instObj C s.heap.objs.size) } := by
  have e1 : (s.heap.push PySem.W.emptyDict).get? s.heap.objs.size = some PySem.W.emptyDict := Heap.get?_push_size s.heap rfl
  have e2 : ((s.heap.push PySem.W.emptyDict).push (PySem.W.instObj C s.heap.objs.size)).get? (s.heap.objs.size + 1) = some (PySem.W.instObj C s.heap.objs.size) := by
    have := Heap.get?_push_size (s.heap.push PySem.W.emptyDict) (o := PySem.W.instObj C s.heap.objs.size) rfl
    rwa [Heap.size_push] at this
  have e3 : (s.heap.push PySem.W.emptyDict).Ns s.heap.objs.size (fun _ => none) := ⟨PySem.W.emptyDict, #[], _, e1, rfl, (fun e he => absurd he (by simp)), fun _ => rfl⟩
  have I1 := I.laid (a := s.heap.objs.size) (o := .own (s.heap.objs.size + 1)) (h' := s.heap.push PySem.W.emptyDict) (t' := s.toks) (fun b u q => Heap.get?_push_of_some _ q) (Nat.le_refl _) ⟨_, e1⟩
  refine I1.laid (a := s.heap.objs.size + 1) (o := .ins C s.heap.objs.size []) (t' := s.toks) (fun b u q => Heap.get?_push_of_some _ q) (Nat.le_of_eq (Heap.size_push _ _)) ?_
  have ne : s.heap.objs.size ≠ s.heap.objs.size + 1 := Nat.ne_of_lt (Nat.lt_succ_self _)
  refine ⟨by rw [upd_ne ne, upd_same], Nat.zero_le _, ne, e2, fun _ => none, (Heap.Ns1.of_empty e3).at fun o q => Heap.get?_push_of_some _ q, fun _ => True.intro, fun y hy => absurd rfl hy⟩

theorem attr_of {prog : Program} {w : World} {env : Env} {e : Expr} {f : Str} {pos : Pos} {s : Shared} {Q : Value → Shared → Prop} (hb : attributeBase e f env (eval e env) = eval e env)
    (h : wpAny (model prog w) A (eval e env) (fun o s₁ => wpAny (model prog w) A (getAttr o f true) Q E s₁) E s) : wpAny (model prog w) A (eval (.Attribute e f pos) env) Q E s :=
  Attribute_any_ h (by rw [arm_eval_Attribute, hb])
end

/-! ### readings and rules -/
noncomputable def tFld (K : PySem.W.Frag) (ta : TE) (f : Str) : TE := fun σ H Q => ta σ H fun x H1 => ∃ a C dx fs v, x = .ref a ∧ H1 a = some (.ins C dx fs) ∧ Cls K C ∧ NoAttr K C f ∧ fs.lookup f = some v ∧ Q v H1
noncomputable def sFld (K : PySem.W.Frag) (ta tv : TE) (f : Str) : TS := fun D σ H => tv σ H fun y H1 => ta σ H1 fun x H2 => ∃ a C dx fs, x = .ref a ∧ H2 a = some (.ins C dx fs) ∧ Cls K C ∧ NoAttr K C f ∧ fs.length < 1000 ∧
  D.nx σ (upd H2 a (.ins C dx (putF f y fs)))

section
variable {X : Cx} {o e value : Expr} {f : Str} {pos pos' tpos : Pos} {ta tv : TE}
theorem pe_fld (he : PE X e ta) (hb : attributeBase e f X.env (eval e X.env) = eval e X.env) : PE X (.Attribute e f pos) (tFld X.K ta f) := by
  intro pins s σ H Q I h
  refine attr_of hb (thn (he pins s σ H _ I h) fun u s1 zz => ?_)
  obtain ⟨x, H1, I1, rx, a, C, dx, fs, v, ex, ea, c, n, l, q⟩ := zz
  subst ex
  obtain rfl : u = Value.ref a := rx
  exact getattr_ok I1 ea c n l fun u' s2 I2 ru => ⟨v, H1, I2, ru, q⟩
theorem ps_fld (ha : PE X o ta) (hv : PE X value tv) (hs : swapsWith value (some (.Attribute o f pos')) pos.line X.env = pure false) : PS X (.Assign [.Attribute o f pos'] value pos) (sFld X.K ta tv f) := by
  intro pins s σ H D I h
  refine plainObj_wpAny_Assign_Attribute (thn (hv pins s σ H _ I h) fun u s1 zz => L2.el5 zz fun y H1 I1 ry q => thn (ha pins s1 σ H1 _ I1 q) fun ov s2 zz => ?_) hs
  obtain ⟨x, H2, I2, rx, a, C, dx, fs, ex, ea, c, n, l, q2⟩ := zz
  subst ex
  obtain rfl : ov = Value.ref a := rx
  exact setattr_ok I2 ea c n l ry fun s3 I3 => ⟨σ, _, I3, q2⟩

end

/-! ### isinstance -/
section
variable {X : Cx} {pins : List (Addr × Obj)} {σ : St} {H : Hp} {s : Shared} {A : Around} {E : Value → Shared → Prop} {Q : Value → Shared → Prop} {c : Value} {b : Bool}
inductive TyOf (K : PySem.W.Frag) (H : Hp) : V → Value → Prop where
  | non : TyOf K H .non (.type "NoneType")
  | bl (x : Bool) : TyOf K H (.bl x) (.type "bool")
  | int (i : Int) : TyOf K H (.int i) (.type "int")
  | str (x : Str) : TyOf K H (.str x) (.type "str")
  | flt (x : UInt64) : TyOf K H (.flt x) (.type "float")
  | lst {a : Addr} {xs : List V} (e : H a = some (.lst xs)) : TyOf K H (.ref a) (.type "list")
  | frz {a : Addr} {o : Obj} {xs : List V} (e : H a = some (.frz o (.lst xs))) : TyOf K H (.ref a) (.type "list")
  | tup {a : Addr} {xs : List V} (e : H a = some (.tup xs)) : TyOf K H (.ref a) (.type "tuple")
  | dK {a : Addr} {kvs : List (Key × V)} (e : H a = some (.dK kvs)) : TyOf K H (.ref a) (.type "dict")
  | dT {a : Addr} {kvs : List (List Key × V)} (e : H a = some (.dT kvs)) : TyOf K H (.ref a) (.type "dict")
  | ins {a C dx : Addr} {fs : List (Str × V)} (e : H a = some (.ins C dx fs)) (cl : Cls K C) (ha : PySem.W.findIn K (.ref C) "__class__" = some (some (.builtin "object.__class__")))
      (hn : PySem.W.specialIn K (.builtin "object.__class__") "__get__" = some (some (.builtin "getset_descriptor.__get__"))) (htk : PySem.W.takesIn K (.builtin "object.__class__") = some true)
      (hm : PySem.W.mroIn K C (.type "object") = some true) : TyOf K H (.ref a) (.ref C)
theorem isinst_ok {x : V} {u t : Value} (I : Inv X pins σ H s) (rx : RelV x u) (ty : TyOf X.K H x t) (e : PySem.W.kitOne X.K t c = some b) (h : ∀ tk, Q (.bool b) { s with toks := tk }) :
    wpAny (model X.prog X.w) A (call (.builtin "isinstance") [u, c]) Q E s := by
  cases ty with
  | non => cases (show u = Value.none from rx); exact PySem.W.kia_one PySem.W.kitx_none I.kIn True.intro e (fun z => nomatch z) h
  | bl y => cases (show u = Value.bool y from rx); exact PySem.W.kia_one PySem.W.kitx_bool I.kIn True.intro e (fun z => nomatch z) h
  | int i => obtain ⟨t, q⟩ := (show ∃ t, u = Value.int i t from rx); cases q; exact PySem.W.kia_one PySem.W.kitx_int I.kIn True.intro e (fun z => nomatch z) h
  | str y => obtain ⟨t, q⟩ := (show ∃ t, u = Value.str y t from rx); cases q; exact PySem.W.kia_one PySem.W.kitx_str I.kIn True.intro e (fun z => nomatch z) h
  | flt y => obtain ⟨t, q⟩ := (show ∃ t, u = Value.float y t from rx); cases q; exact PySem.W.kia_one PySem.W.kitx_float I.kIn True.intro e (fun z => nomatch z) h
  | @lst a xs ea =>
    cases (show u = Value.ref a from rx)
    obtain ⟨_, _, n, _, h1⟩ := (show ObjOk X.prog X.w H s.heap a (.lst xs) from I.hok a _ ea)
    exact PySem.W.kia_one PySem.W.kitx_list I.kIn ⟨_, h1, rfl⟩ e (fun z => nomatch z) h
  | @frz a ob xs ea =>
    cases (show u = Value.ref a from rx)
    obtain ⟨_, _, _, n, _, h1⟩ := (show ObjOk X.prog X.w H s.heap a (.frz ob (.lst xs)) from I.hok a _ ea)
    exact PySem.W.kia_one PySem.W.kitx_list I.kIn ⟨_, h1, rfl⟩ e (fun z => nomatch z) h
  | @tup a xs ea =>
    cases (show u = Value.ref a from rx)
    obtain ⟨_, _, _, p⟩ := (show ObjOk X.prog X.w H s.heap a (.tup xs) from I.hok a _ ea)
    obtain ⟨o, h1, h2, _⟩ := p
    exact PySem.W.kia_one PySem.W.kitx_tuple I.kIn ⟨o, h1, h2⟩ e (fun z => nomatch z) h
  | @dK a kvs ea =>
    cases (show u = Value.ref a from rx)
    obtain ⟨_, _, vs, _, p⟩ := (show ObjOk X.prog X.w H s.heap a (.dK kvs) from I.hok a _ ea)
    obtain ⟨o, es, ep, h1, h2, _⟩ := p
    exact PySem.W.kia_one PySem.W.kitx_dict I.kIn ⟨o, h1, h2.1⟩ e (fun z => nomatch z) h
  | @dT a kvs ea =>
    cases (show u = Value.ref a from rx)
    obtain ⟨_, _, xs, _, o, es, ep, h1, h2, _⟩ := (show ObjOk X.prog X.w H s.heap a (.dT kvs) from I.hok a _ ea)
    exact PySem.W.kia_one PySem.W.kitx_dict I.kIn ⟨o, h1, h2.1⟩ e (fun z => nomatch z) h
  | @ins a C dx fs ea cl ha hn htk hm =>
    cases (show u = Value.ref a from rx)
    obtain ⟨mA, O, _⟩ := ins_get I.hok ea
    obtain ⟨od, J, _⟩ := O.look
    exact PySem.W.kia_one (PySem.W.kitx_own (cl.get _) cl.hd ha hn htk hm) I.kIn J e (fun z => nomatch z) h
end
end L2

namespace L2
open PySem PySem.Spec PyProof.Rows

/-! ### room -/
structure Room (k : Nat) (A : Around) : Prop where
  hd : A.handled = none
  dp : A.depth + 3 * k + 5 < recursionLimit
  un : A.units + 16 * k + 200 < cLine
theorem Room.mono {j k : Nat} {A : Around} (r : Room k A) (h : j ≤ k) : Room j A := ⟨r.hd, by have := r.dp; omega, by have := r.un; omega⟩
theorem Room.deeper {k : Nat} {A : Around} (r : Room (k + 1) A) (env : Env) : Room k (A.deeper env) :=
  ⟨r.hd, by have := r.dp; show A.depth + 1 + 3 * k + 5 < _; omega, by have := r.un; show A.units + 3 + 16 * k + 200 < _; omega⟩
theorem make_depth {A : Around} {C : Addr} {us : List Value} {kw : List (Str × Value)} : (A.under (.builtin "type.__call__" ⟨.ref C :: us, kw⟩)).depth = A.depth + 1 := by
  first | rfl | simp [Around.under, Code.weight, Code.isCreation, Code.isGuard, Code.isCaller, Code.frames, Code.isFrame, guardIds]
theorem make_units {A : Around} {C : Addr} {us : List Value} {kw : List (Str × Value)} : (A.under (.builtin "type.__call__" ⟨.ref C :: us, kw⟩)).units = A.units + 1 := by
  first | rfl | simp [Around.under, Code.cUnits, Code.frames, Code.isFrame]
theorem Room.make {k : Nat} {A : Around} (r : Room (k + 1) A) (C : Addr) (us : List Value) (kw : List (Str × Value)) : Room k (A.under (.builtin "type.__call__" ⟨.ref C :: us, kw⟩)) :=
  ⟨r.hd, by have := r.dp; rw [make_depth]; omega, by have := r.un; rw [make_units]; omega⟩
theorem Room.depth {k : Nat} {A : Around} (r : Room k A) : A.depth < recursionLimit := by have := r.dp; omega
theorem Room.units {k : Nat} {A : Around} (r : Room k A) : A.units + 64 < cLine := by have := r.un; omega

/-! ### argument lists and displays -/
noncomputable def tNil : TA := fun _ H Q => Q [] H
noncomputable def tCons (ta : TE) (tr : TA) : TA := fun σ H Q => ta σ H fun x H1 => tr σ H1 fun xs H2 => Q (x :: xs) H2
section
variable {X : Cx} {e : Expr} {es : List Expr} {te : TE} {t : TA} {pos : Pos}
theorem pa_nil : PA X [] tNil := fun _ _ _ _ H Q I h => Calls.spliced_nil ⟨[], H, I, .nil, h⟩
theorem pa_cons (ha : PE X e te) (hr : PA X es t) (hs : starEach (e :: es) X.env = (false, eval e X.env) :: starEach es X.env := by rfl) : PA X (e :: es) (tCons te t) := by
  intro pos pins s σ H Q I h
  rw [hs]
  show wpAny _ _ (spliced ((false, eval e X.env) :: backTo pos (starEach es X.env))) _ _ s
  refine Calls.spliced_cons (thn (ha pins s σ H _ I h) fun u s1 zz => ?_)
  obtain ⟨x, H1, I1, r1, q1⟩ := zz
  exact thn (hr pos pins s1 σ H1 _ I1 q1) fun us s2 zz => L2.el5 zz fun xs H2 I2 r2 q2 => ⟨x :: xs, H2, I2, .cons r1 r2, q2⟩

noncomputable def tTup (t : TA) : TE := fun σ H Q => t σ H fun xs H1 => xs.length ≤ sizeLine ∧ ∀ p, H1 p = none → Q (.ref p) (upd H1 p (.tup xs))
noncomputable def tLst (t : TA) : TE := fun σ H Q => t σ H fun xs H1 => xs.length ≤ sizeLine ∧ ∀ p, H1 p = none → Q (.ref p) (upd H1 p (.lst xs))
theorem pe_tup {x1} (h : PA X es t) : PE X (.Tuple es x1 pos) (tTup t) := by
  intro pins s σ H Q I hq
  refine wpAny_Tuple_spliced (thn (h pos pins s σ H _ I hq) fun us s1 zz => ?_)
  obtain ⟨xs, H1, I1, r, z, q⟩ := zz
  refine ⟨by rw [← r.length]; exact z, ?_⟩
  have hf : H1 s1.heap.objs.size = none := I1.hok.fresh (Nat.le_refl _)
  refine ⟨.ref s1.heap.objs.size, upd H1 s1.heap.objs.size (.tup xs), I1.laid (t' := s1.toks) (fun b u e => Heap.get?_push_of_some _ e) (Nat.le_refl _) ?_, rfl, q _ hf⟩
  exact ⟨z, us, r, ⟨_, Heap.get?_push_size _ rfl, rfl, _, rfl⟩⟩
theorem pe_lst (h : PA X es t) : PE X (.List es pos) (tLst t) := by
  intro pins s σ H Q I hq
  refine wpAny_List_spliced (thn (h pos pins s σ H _ I hq) fun us s1 zz => ?_)
  obtain ⟨xs, H1, I1, r, z, q⟩ := zz
  refine ⟨by rw [← r.length]; exact z, ?_⟩
  have hf : H1 s1.heap.objs.size = none := I1.hok.fresh (Nat.le_refl _)
  refine ⟨.ref s1.heap.objs.size, upd H1 s1.heap.objs.size (.lst xs), I1.laid (t' := s1.toks) (fun b u e => Heap.get?_push_of_some _ e) (Nat.le_refl _) ?_, rfl, q _ hf⟩
  exact ⟨z, us, 0, r, Heap.get?_push_size _ rfl⟩
end

/-! ### what a def promises -/
noncomputable abbrev Sp := List V → Hp → VK → XK → Prop
noncomputable abbrev CXT := List Env → Hp → Shared → XK → Value → Shared → Prop

structure Env0 (P : Program) (w : World) (K : PySem.W.Frag) (mg : Str → Option Value) (base : Heap) (A : Around) (outer : List Env) (s : Shared) (H : Hp) : Prop where
  frames : A.frames = some outer
  mod : Mod K mg base
  bs : ∀ b o, base.get? b = some o → s.heap.get? b = some o ∧ H b = none
  bsz : base.objs.size ≤ s.heap.objs.size
  funs : s.heap.FunFrames base outer
  frf : ∀ b ∈ frs outer, H b = none
  hok : HOk P w H s.heap
  bare : AllBare s.gens
noncomputable def CE (outer : List Env) (P : Program) (w : World) (H : Hp) (s : Shared) (Q : VK) (u : Value) (s' : Shared) : Prop :=
  ∃ v H', s'.os = s.os ∧ AllBare s'.gens ∧ Un (frs outer) [] H H' s.heap s'.heap ∧ HOk P w H' s'.heap ∧ RelV v u ∧ Q v H'
noncomputable def CR (CX : CXT) (outer : List Env) (P : Program) (w : World) (H : Hp) (s : Shared) (Q : VK) (E : XK) (r : Result) (s' : Shared) : Prop :=
  match r with
  | .ok (.ret u) => CE outer P w H s Q u s'
  | .ok _ => False
  | .error e => CX outer H s E e s'
structure FnOk (P : Program) (w : World) (K : PySem.W.Frag) (mg : Str → Option Value) (base : Heap) (CX : CXT) (k : Nat) (f : Addr) (fd : FuncData) (ps : List Str) (sp : Sp) : Prop where
  len : ∀ vs H Q E, sp vs H Q E → vs.length = ps.length
  run : ∀ (A : Around) (outer : List Env) (s : Shared) (H : Hp) (args : Args) (us : List Value) (vs : List V) (Q : VK) (E : XK), Room k A → Env0 P w K mg base A outer s H → BindsTo s fd args (ps.zip us) → Vals vs us → sp vs H Q E →
    codeAny (model P w) A (.call (.ref f) args) (CR CX outer P w H s Q E) s

theorem Env0.make {P : Program} {w : World} {K : PySem.W.Frag} {mg : Str → Option Value} {base : Heap} {A : Around} {outer : List Env} {s : Shared} {H : Hp} (e : Env0 P w K mg base A outer s H) (C : Addr) (us : List Value) (kw : List (Str × Value)) :
    Env0 P w K mg base (A.under (.builtin "type.__call__" ⟨.ref C :: us, kw⟩)) outer s H := ⟨by first | exact e.frames | (simpa [Around.under, Code.envs, Code.isFrame, pushEnvs] using e.frames), e.mod, e.bs, e.bsz, e.funs, e.frf, e.hok, e.bare⟩

section
variable {X : Cx} {pins : List (Addr × Obj)} {σ : St} {H : Hp} {s s' : Shared}
theorem Inv.env0 (I : Inv X pins σ H s) : Env0 X.prog X.w X.K X.mg X.base X.A X.stack s H :=
  ⟨I.ok.frames, I.ok.mod, I.bs, Nat.le_trans I.ok.bsz I.sz, I.stack, I.stkFree, I.hok, I.bare⟩
theorem Inv.after {Q : VK} {u : Value} (I : Inv X pins σ H s) (h : CE X.stack X.prog X.w H s Q u s') : EP X pins σ Q u s' := by
  obtain ⟨v, H', os, bare, un, hok, r, q⟩ := h
  obtain ⟨hh, g, d, t, os'⟩ := s'
  obtain rfl : os' = s.os := os
  exact ⟨v, H', I.call (h' := hh) (g' := g) (d' := d) (t' := t) (ch := []) un hok bare (fun b z => absurd z (by simp)), r, q⟩
end

/-! ### calls -/
noncomputable def tCall (sp : Sp) (dvs : List V) (E : XK) (t : TA) : TE := fun σ H Q => t σ H fun vs H1 => sp (vs ++ dvs) H1 Q E
noncomputable def tMeth (C : Addr) (m : Str) (sp : Sp) (dvs : List V) (E : XK) (ta : TE) (t : TA) : TE := fun σ H Q => ta σ H fun x H1 => ∃ a dx fs, x = .ref a ∧ H1 a = some (.ins C dx fs) ∧ fs.lookup m = none ∧
  t σ H1 fun vs H2 => sp (x :: (vs ++ dvs)) H2 Q E
noncomputable def tMake (C : Addr) (sp : Sp) (dvs : List V) (E : XK) (t : TA) : TE := fun σ H Q => t σ H fun vs H1 => ∀ x dx, H1 x = none → H1 dx = none → dx ≠ x →
  sp (.ref x :: (vs ++ dvs)) (upd (upd H1 dx (.own x)) x (.ins C dx [])) (fun v H2 => v = .non ∧ Q (.ref x) H2) E

noncomputable def Binds (K : PySem.W.Frag) (fd : FuncData) (ps : List Str) (ds : List Value) : Prop :=
  ∀ (s : Shared) (us : List Value), K.In s.heap → (us ++ ds).length = ps.length → BindsTo s fd ⟨us, []⟩ (ps.zip (us ++ ds))
theorem Binds.all {K : PySem.W.Frag} {fd : FuncData} {ps : List Str} (h : ∀ us : List Value, us.length = ps.length → bindArgs fd ⟨us, []⟩ = pure (ps.zip us)) : Binds K fd ps [] := fun s us _ hl => by
  rw [List.append_nil] at hl ⊢
  exact .of_eq (h us hl)

noncomputable def Passes (CX : CXT) (X : Cx) (E : XK) : Prop := ∀ (pins : List (Addr × Obj)) (σ : St) (H : Hp) (s : Shared) (e : Value) (s' : Shared), Inv X pins σ H s → CX X.stack H s E e s' → X.xe e s'

section
variable {X : Cx} {CX : CXT} {k : Nat} {f C : Addr} {fd : FuncData} {ps : List Str} {sp : Sp} {dvs : List V} {ds : List Value} {E : XK} {x m : Str} {p pos apos : Pos} {e o : Expr} {es : List Expr} {ta : TE} {t : TA}

theorem run_fn {pins : List (Addr × Obj)} {σ : St} {H : Hp} {s : Shared} {Q : VK} {us : List Value} {vs : List V} (F : FnOk X.prog X.w X.K X.mg X.base CX k f fd ps sp) (hr : Room k X.A) (hb : Binds X.K fd ps ds) (hd : Vals dvs ds) (hx : Passes CX X E)
    (I : Inv X pins σ H s) (r : Vals vs us) (h : sp (vs ++ dvs) H Q E) : wpAny (model X.prog X.w) X.A (call (.ref f) us) (EP X pins σ Q) X.xe s := by
  have r2 : Vals (vs ++ dvs) (us ++ ds) := r.append hd
  have hl : (us ++ ds).length = ps.length := by rw [← r2.length]; exact F.len _ _ _ _ h
  refine wpAny_call (codeAny_mono (F.run X.A X.stack s H ⟨us, []⟩ (us ++ ds) (vs ++ dvs) Q E hr I.env0 (hb s us I.kIn hl) r2 h) fun r s' hq => ?_)
  cases r with
  | error e => exact hx pins σ H s e s' I hq
  | ok fl =>
    cases fl with
    | ret u => exact I.after hq
    | next => exact False.elim hq
    | brk => exact False.elim hq
    | cont => exact False.elim hq

theorem pe_call (F : FnOk X.prog X.w X.K X.mg X.base CX k f fd ps sp) (hr : Room k X.A) (hg : Gl X x) (hm : X.mg x = some (.ref f)) (hk : PySem.W.keepIn X.K (.ref f) = true) (hb : Binds X.K fd ps ds) (hd : Vals dvs ds) (hx : Passes CX X E)
    (ha : PA X (e :: es) t) (hdb : (x == ("__debug__" : Str)) = false := by decide) (he : starEach (e :: es) X.env = (false, eval e X.env) :: starEach es X.env := by rfl) (hpl : (backTo pos (starEach es X.env)).any (·.1) = false := by rfl) :
    PE X (.Call (.Name x p) (e :: es) [] pos) (tCall sp dvs E t) := by
  intro pins s σ H Q I h
  refine wpAny_Call_Name_kw (ld_glob I hg hm ?_ hdb)
  refine PySem.W.callWith_K (h₀ := X.base) I.ok.mod.kin hk (thn (ha pos pins s σ H _ I h) fun us s1 zz => L2.el5 zz fun vs H1 I1 r q => ⟨I1.kIn, ?_⟩) he hpl
  exact run_fn F hr hb hd hx I1 r q

theorem pe_meth0 {pl : Sem Bool} (he : PE X o ta) (c : Cls X.K C) (hm : Meth X.K C m f) (F : FnOk X.prog X.w X.K X.mg X.base CX k f fd ps sp) (hr : Room k X.A) (hb : Binds X.K fd ps ds) (hd : Vals dvs ds) (hx : Passes CX X E)
    (ht : eval (.Call (.Attribute o m apos) [] [] pos) X.env = (do
      let ov ← eval o X.env
      standAt apos.atName
      let (f, first) ← holding [ov] (getMethod ov m pl)
      callWith pos f first (backTo pos (starEach [] X.env)) (backToKw pos (keywordEach [] X.env))) := by rfl) :
    PE X (.Call (.Attribute o m apos) [] [] pos) (tMeth C m sp dvs E ta tNil) := by
  intro pins s σ H Q I h
  refine PySem.W.methodCall_KW (pl := pl) (thn (he pins s σ H _ I h) fun u s1 zz => ?_) ht
  obtain ⟨x, H1, I1, rx, a, dx, fs, ex, ea, l, q⟩ := zz
  subst ex
  obtain rfl : u = Value.ref a := rx
  refine getmeth_ok I1 ea c hm l ?_
  exact PySem.W.callWith_K0 (first := [.ref a]) I1.kIn hm.kp (run_fn (us := [.ref a]) (vs := [.ref a]) F hr hb hd hx I1 (.cons rfl .nil) q)

structure Mk (K : PySem.W.Frag) (C f : Addr) : Prop where
  makes : PySem.W.makesIn K C = true
  init : PySem.W.findIn K (.ref C) "__init__" = some (some (.ref f))
  fn : PySem.W.isFn K (.ref f) = true
  kp : PySem.W.keepIn K (.ref C) = true

theorem run_make {pins : List (Addr × Obj)} {σ : St} {H : Hp} {s : Shared} {Q : VK} {us : List Value} {vs : List V} (M : Mk X.K C f) (F : FnOk X.prog X.w X.K X.mg X.base CX k f fd ps sp) (hr : Room (k + 1) X.A) (hb : Binds X.K fd ps ds) (hd : Vals dvs ds)
    (hx : Passes CX X E) (I : Inv X pins σ H s) (r : Vals vs us)
    (h : ∀ x dx, H x = none → H dx = none → dx ≠ x → sp (.ref x :: (vs ++ dvs)) (upd (upd H dx (.own x)) x (.ins C dx [])) (fun v H2 => v = .non ∧ Q (.ref x) H2) E) :
    wpAny (model X.prog X.w) X.A (call (.ref C) us) (EP X pins σ Q) X.xe s := by
  have hq := h (s.heap.objs.size + 1) s.heap.objs.size (I.hok.fresh (Nat.le_succ _)) (I.hok.fresh (Nat.le_refl _)) (Nat.ne_of_lt (Nat.lt_succ_self _))
  have I2 := Inv.made (C := C) I
  have r2 : Vals (V.ref (s.heap.objs.size + 1) :: (vs ++ dvs)) (Value.ref (s.heap.objs.size + 1) :: (us ++ ds)) := .cons rfl (r.append hd)
  have hl : (Value.ref (s.heap.objs.size + 1) :: us ++ ds).length = ps.length := by
    have e := r2.length
    rw [F.len _ _ _ _ hq] at e
    exact e.symm
  refine wpAny_call (make_map (f := f) I.kIn M.makes M.init (beq_iff_eq.mp M.fn) (codeAny_mono (F.run _ X.stack _ _ ⟨Value.ref (s.heap.objs.size + 1) :: us, []⟩ (Value.ref (s.heap.objs.size + 1) :: (us ++ ds)) _ _ E (hr.make C us [])
    (I2.env0.make C us []) (hb _ (Value.ref (s.heap.objs.size + 1) :: us) I2.kIn hl) r2 hq) fun r s' hq' => ?_))
  cases r with
  | error e => exact hx pins σ _ _ e s' I2 hq'
  | ok fl =>
    cases fl with
    | ret u =>
      obtain ⟨v, H', I3, rv, ev, q3⟩ := I2.after hq'
      subst ev
      exact ⟨rv, ⟨V.ref (s.heap.objs.size + 1), H', I3, rfl, q3⟩⟩
    | next => exact False.elim hq'
    | brk => exact False.elim hq'
    | cont => exact False.elim hq'
theorem pe_make (M : Mk X.K C f) (F : FnOk X.prog X.w X.K X.mg X.base CX k f fd ps sp) (hr : Room (k + 1) X.A) (hg : Gl X x) (hm : X.mg x = some (.ref C)) (hb : Binds X.K fd ps ds) (hd : Vals dvs ds) (hx : Passes CX X E)
    (ha : PA X (e :: es) t) (hdb : (x == ("__debug__" : Str)) = false := by decide) (he : starEach (e :: es) X.env = (false, eval e X.env) :: starEach es X.env := by rfl) (hpl : (backTo pos (starEach es X.env)).any (·.1) = false := by rfl) :
    PE X (.Call (.Name x p) (e :: es) [] pos) (tMake C sp dvs E t) := by
  intro pins s σ H Q I h
  refine wpAny_Call_Name_kw (ld_glob I hg hm ?_ hdb)
  refine PySem.W.callWith_K (h₀ := X.base) I.ok.mod.kin M.kp (thn (ha pos pins s σ H _ I h) fun us s1 zz => L2.el5 zz fun vs H1 I1 r q => ⟨I1.kIn, ?_⟩) he hpl
  exact run_make M F hr hb hd hx I1 r q
end

/-! ### keywords -/
section
variable {X : Cx} {CX : CXT} {k : Nat} {f C : Addr} {fd : FuncData} {ps ks : List Str} {sp : Sp} {E : XK} {x m : Str} {p pos apos kpos : Pos} {e o : Expr} {es : List Expr} {kws : List Keyword} {te ta : TE} {t tk : TA} {nm : Option Str}

variable {g : List Value → List Value → List Value} {gV : List V → List V → List V}
end

/-! ### a def's body keeps its promise -/
structure FnScope (N P : List Str) (sc : Scope) : Prop where
  kind : sc.kind = .function
  co : sc.isCoroutine = false
  gen : sc.isGenerator = false
  nd : N.Nodup
  pre : N.take P.length = P
  par : ∀ x ∈ P, sc.names.lookup x = some .local ∨ sc.names.lookup x = some .cell
  nofree : ∀ y ∈ sc.names, y.2 ≠ .free

theorem bindL_out {kindOf : Str → Option NameKind} {x : Str} : ∀ {binds : List (Str × Value)} {m : Str → Option Value}, (∀ v, (x, v) ∉ binds) → bindL kindOf binds m x = m x
  | [], _, _ => rfl
  | (n, v) :: r, m, h => by
    unfold bindL
    rw [bindL_out fun w hw => h w (List.mem_cons_of_mem _ hw)]
    split
    · have : x ≠ n := by rintro rfl; exact h v List.mem_cons_self
      simp [this]
    · rfl
theorem bindC_out {kindOf : Str → Option NameKind} {x : Str} : ∀ {binds : List (Str × Value)} {m : Str → Option Value}, (∀ v, (x, v) ∉ binds) → bindC kindOf binds m x = m x
  | [], _, _ => rfl
  | (n, v) :: r, m, h => by
    unfold bindC
    rw [bindC_out fun w hw => h w (List.mem_cons_of_mem _ hw)]
    split
    · rfl
    · have : x ≠ n := by rintro rfl; exact h v List.mem_cons_self
      simp [this]
theorem bindL_get {kindOf : Str → Option NameKind} {x : Str} {v : Value} : ∀ {P : List Str} {vs : List Value} {i : Nat} {m : Str → Option Value}, P.Nodup → P[i]? = some x → vs[i]? = some v → kindOf x = some .local →
    bindL kindOf (P.zip vs) m x = some v
  | [], _, _, _, _, h, _, _ => by simp at h
  | _ :: _, [], _, _, _, _, h, _ => by simp at h
  | p :: P, w :: vs, 0, m, nd, h1, h2, hk => by
    simp at h1 h2; subst h1; subst h2
    show bindL kindOf ((p, w) :: P.zip vs) m p = _
    unfold bindL
    rw [bindL_out fun v hv => (List.nodup_cons.mp nd).1 (List.of_mem_zip hv).1, if_pos hk]
    simp
  | p :: P, w :: vs, i + 1, m, nd, h1, h2, hk => by
    show bindL kindOf ((p, w) :: P.zip vs) m x = _
    unfold bindL
    exact bindL_get (i := i) (List.nodup_cons.mp nd).2 (by simpa using h1) (by simpa using h2) hk
theorem bindC_get {kindOf : Str → Option NameKind} {x : Str} {v : Value} : ∀ {P : List Str} {vs : List Value} {i : Nat} {m : Str → Option Value}, P.Nodup → P[i]? = some x → vs[i]? = some v → kindOf x ≠ some .local →
    bindC kindOf (P.zip vs) m x = some v
  | [], _, _, _, _, h, _, _ => by simp at h
  | _ :: _, [], _, _, _, _, h, _ => by simp at h
  | p :: P, w :: vs, 0, m, nd, h1, h2, hk => by
    simp at h1 h2; subst h1; subst h2
    show bindC kindOf ((p, w) :: P.zip vs) m p = _
    unfold bindC
    rw [bindC_out fun v hv => (List.nodup_cons.mp nd).1 (List.of_mem_zip hv).1, if_neg hk]
    simp
  | p :: P, w :: vs, i + 1, m, nd, h1, h2, hk => by
    show bindC kindOf ((p, w) :: P.zip vs) m x = _
    unfold bindC
    exact bindC_get (i := i) (List.nodup_cons.mp nd).2 (by simpa using h1) (by simpa using h2) hk

noncomputable def start (N : List Str) (vs : List V) : St := vs.map some ++ List.replicate (N.length - vs.length) none

noncomputable def cxOf (CX : CXT) (P : Program) (w : World) (K : PySem.W.Frag) (mg : Str → Option Value) (base : Heap) (N : List Str) (qual : Str) (scope : Scope) (f : Addr) (cd : Value) (A : Around) (outer : List Env) (s : Shared) (H : Hp) (E : XK) : Cx where
  prog := P
  w := w
  K := K
  mg := mg
  base := base
  A := A.deeper (envOfC qual scope s.heap.objs.size f cd)
  N := N
  s₀ := s
  H₀ := H
  env := envOfC qual scope s.heap.objs.size f cd
  outer := outer
  stack := envOfC qual scope s.heap.objs.size f cd :: outer
  ex := []
  calm := true
  fn := fun _ => true
  pn := []
  xe := fun e s' => wpAny (model P w) (A.deeper (envOfC qual scope s.heap.objs.size f cd)) (leaving (envOfC qual scope s.heap.objs.size f cd) e) (fun _ s'' => CX outer H s E e s'') (fun e' s'' => CX outer H s E e' s'') s'

theorem cell_has {sc : Scope} {n : Nat} {x : Str} (h : sc.names.lookup x = some .cell) : ∃ c, (cellsFrom n sc.names []).lookup x = some c := by
  have q := PySem.W.cellsFrom_some sc.names n [] (.inl h)
  exact Option.isSome_iff_exists.mp q

theorem inv_start {CX : CXT} {P : Program} {w : World} {K : PySem.W.Frag} {mg : Str → Option Value} {base : Heap} {N ps : List Str} {qual : Str} {scope : Scope} {f : Addr} {cd : Value} {A : Around} {outer : List Env} {s s1 : Shared} {H : Hp} {E : XK} {us : List Value} {vs : List V}
    (S : FnScope N ps scope) (hd : A.handled = none) (e0 : Env0 P w K mg base A outer s H) (hl : vs.length = ps.length) (r : Vals vs us)
    (x : InCallC s s.heap.objs.size (bindL (envOfC qual scope s.heap.objs.size f cd).kindOf (ps.zip us) fun _ => none) (cellsFrom (s.heap.objs.size + 1) scope.names []) (bindC (envOfC qual scope s.heap.objs.size f cd).kindOf (ps.zip us) fun _ => none) s1) :
    Inv (cxOf CX P w K mg base N qual scope f cd A outer s H E) [] (start N vs) H s1 := by
  have hpl : ps.length ≤ N.length := by have := congrArg List.length S.pre; rw [List.length_take] at this; omega
  obtain ⟨h1, tk, rfl, hk⟩ := x.done
  have noA : ∀ b : Addr, b ∉ (cxOf CX P w K mg base N qual scope f cd A outer s H E).ex := fun b z => absurd (show b ∈ ([] : List Addr) from z) (by simp)
  refine ⟨⟨e0.mod, S.kind, rfl, rfl, Nat.le_refl _, fun y z c h1 h2 => ?_, fun y hy => ?_, fun y c _ h => ?_, fun _ => hd, Around.frames_deeper e0.frames, .inr ⟨rfl, rfl⟩, fun b z => absurd z (noA b), e0.bs, e0.bsz, fun b _ _ => noA b, fun b z => absurd z (noA b), e0.funs, e0.frf⟩,
    rfl, e0.bare, Un.kept hk, ⟨_, x.toInCall.ns, fun i y v h1 h2 h3 => ?_⟩, fun y c h => ⟨_, x.cell y c h⟩, e0.hok.fresh (Nat.le_refl _), fun y c h => ?_, fun p hp => absurd (show p ∈ ([] : List (Addr × Obj)) from hp) (by simp), e0.hok.kept hk, ?_⟩
  · exact name_of_addr x.apart (PySem.mem_of_lookup h1) (PySem.mem_of_lookup h2)
  · have hy : scope.names.lookup y = some .cell ∨ scope.names.lookup y = some .free := hy
    rcases hy with hy | hy
    · exact cell_has hy
    · exact absurd rfl (S.nofree _ (PySem.mem_of_lookup hy))
  · exact Nat.le_of_lt (x.above y c (PySem.mem_of_lookup h))
  · have hi : i < vs.length := by
      unfold start at h2
      by_cases hi : i < vs.length
      · exact hi
      · rw [List.getElem?_append_right (by simpa using hi)] at h2
        rw [List.getElem?_replicate] at h2
        split at h2 <;> cases h2
    have ha : vs[i]? = some v := by
      unfold start at h2
      rw [List.getElem?_append_left (by simpa using hi), List.getElem?_map] at h2
      cases e : vs[i]? with
      | none => rw [e] at h2; cases h2
      | some a => rw [e] at h2; cases h2; rfl
    obtain ⟨u, hu, rv⟩ := r.get ha
    have hp : ps[i]? = some y := by
      rw [← S.pre, List.getElem?_take_of_lt (by omega)]; exact h1
    have ndP : ps.Nodup := by rw [← S.pre]; exact S.nd.sublist (List.take_sublist _ _)
    refine ⟨u, rv, ?_⟩
    rcases S.par y (List.mem_of_getElem? hp) with k | k
    · exact .inl ⟨k, bindL_get ndP hp hu k⟩
    · obtain ⟨c, e⟩ := cell_has (n := s.heap.objs.size + 1) k
      refine .inr ⟨.inl k, c, e, ?_⟩
      have q := x.cell y c e
      rw [bindC_get ndP hp hu (by show scope.names.lookup y ≠ _; rw [k]; decide)] at q
      exact q
  · exact e0.hok.fresh (Nat.le_of_lt (x.above y c (PySem.mem_of_lookup h)))
  · unfold start
    show _ = N.length
    rw [List.length_append, List.length_map, List.length_replicate]
    omega

theorem fn_of {CX : CXT} {P : Program} {w : World} {K : PySem.W.Frag} {mg : Str → Option Value} {base : Heap} {k : Nat} {f : Addr} {name qual : Str} {params : Arguments} {body : List Stmt} {scope : Scope} {dV kV doc pm cdv ct oc : Value} {an od : Option Addr}
    {osl : Array (Option Value)} {N ps : List Str} {sp : Sp} (lk : K.lookup f = some ⟨oc, od, .func (PySem.W.fnOf name qual params body scope dV kV doc pm an cdv ct), osl⟩) (hcd : PySem.W.codeIn K cdv qual = true) (S : FnScope N ps scope)
    (len : ∀ vs H Q E, sp vs H Q E → vs.length = ps.length)
    (hbody : ∀ (A : Around) (outer : List Env) (s : Shared) (H : Hp) (vs : List V) (Q : VK) (E : XK), Room k (A.deeper (envOfC qual scope s.heap.objs.size f cdv)) → sp vs H Q E →
      ∃ t, PSs (cxOf CX P w K mg base N qual scope f cdv A outer s H E) body t ∧ t { nx := fun _ H' => Q .non H', rt := Q } (start N vs) H) :
    FnOk P w K mg base CX (k + 1) f (PySem.W.fnOf name qual params body scope dV kV doc pm an cdv ct) ps sp := by
  refine ⟨len, fun A outer s H args us vs Q E hr e0 hb r hsp => ?_⟩
  have hl := len _ _ _ _ hsp
  have KX : K.In s.heap := e0.mod.kin.keeps fun b o e => (e0.bs b o e).1
  have lim : s.heap.NoLimit := e0.mod.nolimit.keeps fun b o e => (e0.bs b o e).1
  have hkind : ∀ y ∈ ps.zip us, scope.names.lookup y.1 = some .local ∨ (scope.names.lookup y.1 = some .cell ∧ ((cellsFrom (s.heap.objs.size + 1) scope.names []).lookup y.1).isSome = true) := fun ⟨n, v⟩ hy => by
    rcases S.par n (List.of_mem_zip hy).1 with q | q
    · exact .inl q
    · exact .inr ⟨q, PySem.W.cellsFrom_some _ _ _ (.inl q)⟩
  refine codeAny_call_function hr.depth (KX _ _ lk) rfl S.co S.gen rfl (PySem.W.codeRec_of KX hcd) (hb _ _ _ _ ?_)
  refine wpAny_newFunctionEnv_cells S.kind hkind fun env he s1 x => ?_
  subst he
  refine ⟨lim.keeps x.toInCall.keep, codeAny_func ?_⟩
  obtain ⟨t, ht, hq⟩ := hbody A outer s H vs Q E (hr.deeper _) hsp
  have I : Inv (cxOf CX P w K mg base N qual scope f cdv A outer s H E) [] (start N vs) H s1 := inv_start S hr.hd e0 hl r x
  refine wpAny_mono (ht [] s1 (start N vs) H _ I hq) (fun fl s' hs => ?_) fun e s' hs => hs
  have fin : ∀ {σ' : St} {H' : Hp} {v : V} {u : Value}, Inv (cxOf CX P w K mg base N qual scope f cdv A outer s H E) [] σ' H' s' → RelV v u → Q v H' → CE outer P w H s Q u s' :=
    fun {σ' H' v u} J rv q => ⟨v, H', J.os, J.bare, J.base, J.hok, rv, q⟩
  cases fl with
  | ret u =>
    obtain ⟨v, σ', H', J, rv, q⟩ := hs
    exact fin J rv q
  | next =>
    obtain ⟨σ', H', J, q⟩ := hs
    exact fin (v := V.non) (u := Value.none) J rfl q
  | brk =>
    obtain ⟨_, _, _, q⟩ := hs
    exact False.elim q
  | cont =>
    obtain ⟨_, _, _, q⟩ := hs
    exact False.elim q
end L2

namespace L2
open PySem PySem.Spec PyProof.Rows
section
variable {X : Cx} {x : Str} {p pos : Pos} {e : Expr} {es : List Expr} {t : TA} {id T : String} {r : List V → Hp → VK → Prop}

noncomputable def tCB (r : List V → Hp → VK → Prop) (t : TA) : TE := fun σ H Q => t σ H fun vs H1 => r vs H1 Q
theorem pe_callB (hc : CallR X (.builtin id) r) (hg : Gl X x) (hm : X.mg x = none) (hv : bootBuiltins x = some (.builtin id)) (ha : PA X (e :: es) t) (hn : x ≠ "__name__" := by decide) (hdb : (x == ("__debug__" : Str)) = false := by decide)
    (he : starEach (e :: es) X.env = (false, eval e X.env) :: starEach es X.env := by rfl) (hpl : (backTo pos (starEach es X.env)).any (·.1) = false := by rfl) : PE X (.Call (.Name x p) (e :: es) [] pos) (tCB r t) := by
  intro pins s σ H Q I h
  refine wpAny_Call_Name_kw (ld_blt I hg hm hv ?_ hn hdb)
  exact PyProof.Rows.callWith_builtin1 (thn (ha pos pins s σ H _ I h) fun us s1 zz => L2.el5 zz fun vs H1 I1 r1 q1 => hc pins s1 σ H1 vs us Q I1 r1 q1) he hpl
theorem pe_callTy (hc : CallR X (.type T) r) (hg : Gl X x) (hm : X.mg x = none) (hv : bootBuiltins x = some (.type T)) (ha : PA X (e :: es) t) (hn : x ≠ "__name__" := by decide) (hdb : (x == ("__debug__" : Str)) = false := by decide)
    (he : starEach (e :: es) X.env = (false, eval e X.env) :: starEach es X.env := by rfl) (hpl : (backTo pos (starEach es X.env)).any (·.1) = false := by rfl) : PE X (.Call (.Name x p) (e :: es) [] pos) (tCB r t) := by
  intro pins s σ H Q I h
  refine wpAny_Call_Name_kw (ld_blt I hg hm hv ?_ hn hdb)
  exact PyProof.Rows.callWith_type1 (thn (ha pos pins s σ H _ I h) fun us s1 zz => L2.el5 zz fun vs H1 I1 r1 q1 => hc pins s1 σ H1 vs us Q I1 r1 q1) he hpl
end
end L2

namespace HT
open PySem PyProof.Rows



section
open PySem.SeqAt
open PySem.AutoSeq1 (wpAny_loadPart')
open PySem.MeetsSeq PySem.MeetsSeq2 PySem.MeetsSeq3

end

section
variable {prog : Program} {w : World} {A : Around} {E : Value → Shared → Prop} {s : Shared}



/-! ### t[a:b], not the whole -/
noncomputable def sIx (n d : Nat) : Option Int → Nat
  | none => d
  | some v => if v < 0 then (v + (n : Int)).toNat else min v.toNat n
theorem sIx_none (n d : Nat) : sIx n d none = d := rfl
theorem sIx_nat (n d k : Nat) : sIx n d (some (k : Int)) = min k n := by
  show (if (k : Int) < 0 then ((k : Int) + (n : Int)).toNat else min (k : Int).toNat n) = min k n
  rw [if_neg (by omega), Int.toNat_natCast]

end
end HT

namespace L2
open PySem PySem.Spec PyProof.Rows

/-! ### the parts of a slice -/
noncomputable abbrev TO := St → Hp → (Option Int → Hp → Prop) → Prop
noncomputable def PO (X : Cx) (e : Option Expr) (t : TO) : Prop :=
  ∀ (pins : List (Addr × Obj)) (s : Shared) (σ : St) (H : Hp) (Q : Option Int → Hp → Prop), Inv X pins σ H s → t σ H Q →
    wpAny (model X.prog X.w) X.A (evalPart e X.env) (fun u s' => ∃ o H', Inv X pins σ H' s' ∧ IsPart u o ∧ Q o H') X.xe s
noncomputable def tNoPart : TO := fun _ H Q => Q none H
noncomputable def tPart (t : TE) : TO := fun σ H Q => t σ H fun x H1 => ∃ i, x = .int i ∧ Q (some i) H1


section
variable {X : Cx} {e : Expr} {te : TE} {lo hi : Option Expr} {tl th : TO} {pos p2 : Pos}

theorem po_none : PO X none tNoPart := by
  intro pins s σ H Q I h
  rw [evalPart_none]
  exact wpAny_pure ⟨none, H, I, .none, h⟩
theorem po_some (h : PE X e te) : PO X (some e) (tPart te) := by
  intro pins s σ H Q I hw
  rw [evalPart_some]
  refine thn (h pins s σ H _ I hw) fun u s1 zz => ?_
  obtain ⟨x, H1, I1, r1, q1⟩ := zz
  obtain ⟨i, rfl, q⟩ := q1
  obtain ⟨t, rfl⟩ := r1
  exact ⟨some i, H1, I1, .int i t, q⟩

noncomputable def SlR (X : Cx) (r : V → Option Int → Option Int → Hp → VK → Prop) : Prop :=
  ∀ (pins : List (Addr × Obj)) (s : Shared) (σ : St) (H : Hp) (x : V) (v vl vu : Value) (lo hi : Option Int) (sl : Addr) (Q : VK), Inv X pins σ H s → RelV x v → s.heap.IsSliceOf sl vl vu .none → IsPart vl lo → IsPart vu hi → r x lo hi H Q →
    ∃ T id, typeLookup (.type T) "__getitem__" = pure (some (.builtin id)) ∧ s.TypeIs v T ∧ wpAny (model X.prog X.w) X.A (getItem v (.ref sl)) (EP X pins σ Q) X.xe s
noncomputable def tSl (r : V → Option Int → Option Int → Hp → VK → Prop) (te : TE) (tl th : TO) : TE := fun σ H Q => te σ H fun x H1 => tl σ H1 fun l H2 => th σ H2 fun u H3 => r x l u H3 Q
theorem pe_slice {r : V → Option Int → Option Int → Hp → VK → Prop} (hr : SlR X r) (he : PE X e te) (hl : PO X lo tl) (hu : PO X hi th) : PE X (.Subscript e (.Slice lo hi none p2) pos) (tSl r te tl th) := by
  intro pins s σ H Q I h
  refine Subscript_ (thn (he pins s σ H _ I h) fun v s1 zz => ?_)
  obtain ⟨x, H1, I1, r1, q1⟩ := zz
  refine wpAny_Slice (thn (hl pins s1 σ H1 _ I1 q1) fun vl s2 zz => L2.el5 zz fun l H2 I2 pl q2 => thn (hu pins s2 σ H2 _ I2 q2) fun vu s3 zz => ?_)
  obtain ⟨u, H3, I3, pu, q3⟩ := zz
  rw [evalPart_none]
  refine wpAny_pure ?_
  have I4 : Inv X pins σ H3 { s3 with heap := s3.heap.push { cls := .type "slice", data := .fields #[vl, vu, .none] } } := I3.kept (t' := s3.toks) fun b ob q => Heap.get?_push_of_some _ q
  obtain ⟨T, id, hT, ht, hg⟩ := hr pins { s3 with heap := s3.heap.push { cls := .type "slice", data := .fields #[vl, vu, .none] } } σ H3 x v vl vu l u s3.heap.objs.size Q I4 r1 (Heap.IsSliceOf.new ..) pl pu q3
  show wpAny (model X.prog X.w) X.A (subscriptTail e (.Slice lo hi none p2) v (.ref s3.heap.objs.size)) (EP X pins σ Q) X.xe { s3 with heap := s3.heap.push { cls := .type "slice", data := .fields #[vl, vu, .none] } }
  exact tail_any (ops := [.ref s3.heap.objs.size, v]) ht hT hg (by with_unfolding_all rfl)

noncomputable def cutV (xs : List V) (lo hi : Option Int) : List V := (xs.drop (HT.sIx xs.length 0 lo)).take (HT.sIx xs.length xs.length hi - HT.sIx xs.length 0 lo)
theorem cutV_length (xs : List V) (lo hi : Option Int) : (cutV xs lo hi).length ≤ xs.length := by
  unfold cutV
  rw [List.length_take, List.length_drop]
  omega

/-! ### t < u, t + u -/
end
end L2

namespace L2
open PySem PySem.Spec PyProof.Rows

/-! ### places -/
noncomputable def ixN (n : Nat) (i : Int) : Option Nat := if 0 ≤ i then (if i < n then some i.toNat else none) else if -(n : Int) ≤ i then some (i + n).toNat else none
noncomputable def atI {α : Type} (xs : List α) (i : Int) : Option α := (ixN xs.length i).bind fun j => xs[j]?
theorem ixN_seq {n : Nat} {i : Int} {j : Nat} (h : ixN n i = some j) : seqIndex? i n = some j ∧ j < n ∧ -(n : Int) ≤ i ∧ i < n := by
  unfold ixN at h
  by_cases h0 : 0 ≤ i
  · rw [if_pos h0] at h
    by_cases h1 : i < n
    · rw [if_pos h1] at h
      have e : i.toNat = j := Option.some.inj h
      exact ⟨by rw [seqIndex_of h0 h1, e], by omega, by omega, h1⟩
    · rw [if_neg h1] at h; cases h
  · rw [if_neg h0] at h
    by_cases h1 : -(n : Int) ≤ i
    · rw [if_pos h1] at h
      have e : (i + n).toNat = j := Option.some.inj h
      exact ⟨by rw [seqIndex_neg (by omega) h1, e], by omega, h1, by omega⟩
    · rw [if_neg h1] at h; cases h
theorem atI_get {α : Type} {xs : List α} {i : Int} {v : α} (h : atI xs i = some v) : ∃ j, seqIndex? i xs.length = some j ∧ xs[j]? = some v ∧ j < xs.length ∧ -(xs.length : Int) ≤ i ∧ i < xs.length := by
  unfold atI at h
  cases e : ixN xs.length i with
  | none => rw [e] at h; cases h
  | some j =>
    rw [e] at h
    obtain ⟨h1, h2, h3, h4⟩ := ixN_seq e
    exact ⟨j, h1, h, h2, h3, h4⟩
theorem atI_nat {α : Type} {xs : List α} {j : Nat} {v : α} (h : xs[j]? = some v) : atI xs (j : Int) = some v := by
  have hj : j < xs.length := (List.getElem?_eq_some_iff.mp h).1
  have e : ixN xs.length (j : Int) = some j := by
    unfold ixN
    rw [if_pos (by omega), if_pos (by omega)]; simp
  unfold atI; rw [e]; exact h
theorem atI_last {α : Type} (xs : List α) (v : α) : atI (xs ++ [v]) (-1) = some v := by
  have hl : (xs ++ [v]).length = xs.length + 1 := by simp
  have e : ixN (xs ++ [v]).length (-1) = some xs.length := by
    unfold ixN
    rw [hl, if_neg (by decide), if_pos (by omega)]
    congr 1
    omega
  unfold atI
  rw [e]
  show (xs ++ [v])[xs.length]? = some v
  simp

/-! ### what may be subscripted -/
noncomputable def PlainIx (b : Expr) : Prop := ∀ o i, subscripted b false o i = operate [o, i] (getItem o i)
noncomputable def IxR (X : Cx) (r : R2) : Prop :=
  ∀ (value slice : Expr) (pins : List (Addr × Obj)) (s : Shared) (σ : St) (H : Hp) (x y : V) (v u : Value) (Q : VK), Inv X pins σ H s → RelV x v → RelV y u → r x y H Q →
    subscripted slice false v u = operate [v, u] (getItem v u) → wpAny (model X.prog X.w) X.A (subscriptTail value slice v u) (EP X pins σ Q) X.xe s
noncomputable def MtR (X : Cx) (id : String) (r : V → List V → Hp → VK → Prop) : Prop :=
  ∀ (pins : List (Addr × Obj)) (s : Shared) (σ : St) (H : Hp) (x : V) (xs : List V) (v : Value) (us : List Value) (Q : VK), Inv X pins σ H s → RelV x v → Vals xs us → r x xs H Q →
    wpAny (model X.prog X.w) X.A (call (.builtin id) (v :: us)) (EP X pins σ Q) X.xe s
section
variable {X : Cx} {a b : Expr} {ta tb : TE} {pos : Pos}
theorem IxR.or {r r' : R2} (h : IxR X r) (h' : IxR X r') : IxR X (fun x y H Q => r x y H Q ∨ r' x y H Q) := by
  intro value slice pins s σ H x y v u Q I rx ry q hs
  rcases q with q | q
  · exact h value slice pins s σ H x y v u Q I rx ry q hs
  · exact h' value slice pins s σ H x y v u Q I rx ry q hs
theorem pe_ix {r : R2} (hr : IxR X r) (ha : PE X a ta) (hb : PE X b tb) (hs : PlainIx b) : PE X (.Subscript a b pos) (tOp r ta tb) := by
  intro pins s σ H Q I h
  exact Subscript_ (binT ha hb I h fun v u s2 x y H2 I2 rx ry q => hr a b pins s2 σ H2 x y v u Q I2 rx ry q (hs _ _))

noncomputable def rIxL (K : PySem.W.Frag) : R2 := fun x y H Q => ∃ p xs i v, x = .ref p ∧ y = .int i ∧ SqL K H p xs ∧ atI xs i = some v ∧ Q v H
noncomputable def rIxT (K : PySem.W.Frag) : R2 := fun x y H Q => ∃ p xs i v, x = .ref p ∧ y = .int i ∧ SqT K H p xs ∧ atI xs i = some v ∧ Q v H
noncomputable def rIxS : R2 := fun x y H Q => ∃ z i c, x = .str z ∧ y = .int i ∧ z.length ≤ sizeLine ∧ atI z.cps.toList i = some c ∧ Q (.str ⟨#[c]⟩) H
theorem ix_list : IxR X (rIxL X.K) := by
  intro value slice pins s σ H x y v u Q I rx ry h hs
  obtain ⟨p, xs, i, z, rfl, rfl, hq, he, q⟩ := h
  cases rx
  obtain ⟨t, rfl⟩ := ry
  obtain ⟨its, r, pl, hz⟩ := I.list hq
  obtain ⟨j, h1, h2, h3, h4, h5⟩ := atI_get he
  obtain ⟨w, ew, rw'⟩ := r.get h2
  have hl := r.length
  have hn := line63
  have fin : EP X pins σ Q w s := ⟨z, H, I, rw', q⟩
  by_cases h0 : 0 ≤ i
  · have hj : i.toNat = j := by
      rw [seqIndex_of h0 h5] at h1
      exact Option.some.inj h1
    exact item_listR pl.isList h0 (by omega) (by rw [hj]; simpa using ew) fin hs
  · have hj : (i + (its.toArray.size : Int)).toNat = j := by
      rw [seqIndex_neg (by omega) h4] at h1
      rw [List.size_toArray, ← hl]
      exact Option.some.inj h1
    exact subscriptTail_builtinR (x := w) pl.isList.typeIs slot_list_getitem.lookup
      (wpAny_getItem_list_neg (Q := fun r s' => r = w ∧ EP X pins σ Q r s') pl.isList (by omega) (by rw [List.size_toArray] <;> omega) (by omega) (by rw [hj]; simpa using ew) ⟨rfl, fin⟩) hs
theorem ix_tup : IxR X (rIxT X.K) := by
  intro value slice pins s σ H x y v u Q I rx ry h hs
  obtain ⟨p, xs, i, z, rfl, rfl, hq, he, q⟩ := h
  cases rx
  obtain ⟨t, rfl⟩ := ry
  obtain ⟨its, r, pl, hz⟩ := I.tuple hq
  obtain ⟨j, h1, h2, h3, h4, h5⟩ := atI_get he
  obtain ⟨w, ew, rw'⟩ := r.get h2
  have hl := r.length
  have hn := line63
  have fin : EP X pins σ Q w s := ⟨z, H, I, rw', q⟩
  exact subscriptTail_builtinR (x := w) pl.typeIs slot_tuple_getitem.lookup
    (getItem_tuple (j := j) (Q := fun r s' => r = w ∧ EP X pins σ Q r s') pl (by omega) (by omega) (by rw [List.size_toArray, ← hl]; exact h1) (by simpa using ew) ⟨rfl, fin⟩) hs
theorem ix_str : IxR X rIxS := by
  intro value slice pins s σ H x y v u Q I rx ry h hs
  obtain ⟨z, i, c, rfl, rfl, hz, he, q⟩ := h
  obtain ⟨t, rfl⟩ := rx
  obtain ⟨t', rfl⟩ := ry
  obtain ⟨j, h1, h2, h3, h4, h5⟩ := atI_get he
  have hl : z.cps.toList.length = z.length := by simp [Str.length]
  rw [hl] at h1 h4 h5
  have hn := line63
  exact tail_any (typeIs_str s z t) slot_str_getitem.lookup (getItem_str (c := c) (by
    have e1 : decide (i < -(2 ^ 63 : Int)) = false := decide_eq_false (by omega)
    have e2 : decide (i ≥ 2 ^ 63) = false := decide_eq_false (by omega)
    rw [e1, e2, Bool.or_false]) (by rw [h1]; simpa using h2) ⟨.str ⟨#[c]⟩, H, I.tok _, ⟨_, rfl⟩, q⟩) hs
noncomputable def rIx (K : PySem.W.Frag) : R2 := fun x y H Q => rIxL K x y H Q ∨ rIxT K x y H Q ∨ rIxS x y H Q
theorem ix_seq : IxR X (rIx X.K) := ix_list.or (ix_tup.or ix_str)

/-! ### xs[i] = v, any sign -/
theorem mapSeq_set (its : List Value) (n j : Nat) (u : Value) : Obj.mapSeq (·.setIfInBounds j u) { cls := .type "list", data := .seq its.toArray n } = { cls := .type "list", data := .seq (its.set j u).toArray n } := by
  simp [Obj.mapSeq]
theorem Inv.lst {pins : List (Addr × Obj)} {σ : St} {H : Hp} {s : Shared} {p : Addr} {xs : List V} (I : Inv X pins σ H s) (h : H p = some (.lst xs)) :
    ∃ (its : List Value) (n : Nat), Vals xs its ∧ s.heap.get? p = some { cls := .type "list", data := .seq its.toArray n } ∧ xs.length ≤ sizeLine := by
  obtain ⟨z, its, n, r, e⟩ := I.hok p _ h
  exact ⟨its, n, r, e, z⟩
theorem Inv.lstUpd {pins : List (Addr × Obj)} {σ : St} {H : Hp} {s : Shared} {p : Addr} {xs ys : List V} {its its' : List Value} {n n' : Nat} {f : Obj → Obj} (I : Inv X pins σ H s) (h : H p = some (.lst xs))
    (ho : s.heap.get? p = some { cls := .type "list", data := .seq its.toArray n }) (hf : f { cls := .type "list", data := .seq its.toArray n } = { cls := .type "list", data := .seq its'.toArray n' }) (r : Vals ys its') (hz : ys.length ≤ sizeLine) (t : Nat) :
    Inv X pins σ (upd H p (.lst ys)) { s with heap := s.heap.update p f, toks := t } := by
  have e : (s.heap.update p f).get? p = some { cls := .type "list", data := .seq its'.toArray n' } := by
    rw [Heap.get?_update_self f ho (by rw [hf] <;> rfl), hf]
  refine I.write (x := p) (e := p) (by rw [h]; trivial) (.inl rfl) (fun b u hb q => (Heap.get?_update_other _ _ (Ne.symm hb)).trans q) ⟨_, e⟩ ?_
  exact ⟨hz, its', n', r, e⟩
noncomputable def rSetL : V → V → V → Hp → (Hp → Prop) → Prop := fun o i v H Q => ∃ p xs k j, o = .ref p ∧ i = .int k ∧ H p = some (.lst xs) ∧ ixN xs.length k = some j ∧ Q (upd H p (.lst (xs.set j v)))
theorem set_list : PSet X rSetL := by
  intro pins s σ H o i v ov iv u Q I ro ri rv h
  obtain ⟨p, xs, k, j, rfl, rfl, hp, hj, q⟩ := h
  cases ro
  obtain ⟨t, rfl⟩ := ri
  obtain ⟨its, n, r, ho, hz⟩ := I.lst hp
  obtain ⟨h1, h2, h3, h4⟩ := ixN_seq hj
  have hl := r.length
  have hn := line63
  have I' : Inv X pins σ (upd H p (.lst (xs.set j v))) { s with heap := s.heap.update p (Obj.mapSeq (·.setIfInBounds j u)) } :=
    I.lstUpd hp ho (mapSeq_set its n j u) (r.set rv j) (by rw [List.length_set]; exact hz) s.toks
  by_cases h0 : 0 ≤ k
  · have hk : k.toNat = j := by
      rw [seqIndex_of h0 h4] at h1
      exact Option.some.inj h1
    exact PySem.W.ki_setAt ho h0 (by omega) (by rw [List.size_toArray, ← hl]; exact h4) (by rw [hk]; exact ⟨_, I', q⟩)
  · have hk : (k + (its.toArray.size : Int)).toNat = j := by
      rw [seqIndex_neg (by omega) h3] at h1
      rw [List.size_toArray, ← hl]
      exact Option.some.inj h1
    exact PySem.W.ki_setBack ho (by omega) (by rw [List.size_toArray, ← hl]; exact h3) (by omega) (by rw [hk]; exact ⟨_, I', q⟩)

/-! ### slices -/
theorem slice_bounds (lo hi : Option Int) (n : Nat) : (sliceBounds lo hi none n).1 = ((HT.sIx n 0 lo : Nat) : Int) ∧ (sliceBounds lo hi none n).2.1 = ((HT.sIx n n hi : Nat) : Int) ∧ (sliceBounds lo hi none n).2.2 = 1 := by
  refine ⟨?_, ?_, rfl⟩
  · cases lo with
    | none => simp [sliceBounds, HT.sIx]
    | some i =>
      simp only [sliceBounds, HT.sIx, Option.getD_none, show (1 : Int) > 0 by decide, if_true]
      by_cases h : i < 0
      · simp only [h, if_true] <;> omega
      · simp only [h, if_false] <;> omega
  · cases hi with
    | none => simp [sliceBounds, HT.sIx]
    | some i =>
      simp only [sliceBounds, HT.sIx, Option.getD_none, show (1 : Int) > 0 by decide, if_true]
      by_cases h : i < 0
      · simp only [h, if_true] <;> omega
      · simp only [h, if_false] <;> omega
theorem slicePick_cut (its : List Value) (lo hi : Option Int) : slicePick its.toArray lo hi none = ((its.drop (HT.sIx its.length 0 lo)).take (HT.sIx its.length its.length hi - HT.sIx its.length 0 lo)).toArray := by
  obtain ⟨h1, h2, h3⟩ := slice_bounds lo hi its.toArray.size
  unfold slicePick
  rw [h1, h2, h3]
  simp only [sliceRange_one, pick_run, List.size_toArray] <;> rfl
noncomputable def rSlL (K : PySem.W.Frag) : V → Option Int → Option Int → Hp → VK → Prop := fun x lo hi H Q => ∃ a xs, x = .ref a ∧ SqL K H a xs ∧ ∀ p, H p = none → Q (.ref p) (upd H p (.lst (cutV xs lo hi)))
theorem sl_list : SlR X (rSlL X.K) := by
  intro pins s σ H x v vl vu lo hi sl Q I rx hs pl pu h
  obtain ⟨a, xs, rfl, hx, q⟩ := h
  cases rx
  obtain ⟨its, r, ht, hz⟩ := I.list hx
  have hlen := r.length
  refine ⟨"list", _, slot_list_getitem.lookup, ht.isList.typeIs, ?_⟩
  refine wpAny_getItem_list_slice ht.isList hs pl pu .none (by simp) ?_ (by rw [List.size_toArray] <;> omega)
  rw [slicePick_cut, ← hlen]
  refine ⟨.ref s.heap.objs.size, _, I.laid (t' := s.toks) (o := .lst (cutV xs lo hi)) (fun b ob q => Heap.get?_push_of_some _ q) (Nat.le_refl _) ?_, rfl, q _ (I.hok.fresh (Nat.le_refl _))⟩
  exact ⟨Nat.le_trans (cutV_length xs lo hi) hz, _, 0, (r.drop (HT.sIx xs.length 0 lo)).take (HT.sIx xs.length xs.length hi - HT.sIx xs.length 0 lo), Heap.get?_push_size _ rfl⟩

/-! ### in, not in: flat items -/
noncomputable def flatV : V → Bool
  | .non => true
  | .bl _ => true
  | .int _ => true
  | .str _ => true
  | _ => false
noncomputable def eqV : V → V → Bool
  | .non, .non => true
  | .bl a, .bl b => a == b
  | .bl a, .int b => (if a then 1 else 0) == b
  | .int a, .bl b => a == (if b then 1 else 0)
  | .int a, .int b => a == b
  | .str a, .str b => a == b
  | _, _ => false
theorem eqAt_V {A : Around} {s : Shared} {y x : V} {u v : Value} (ry : RelV y u) (rx : RelV x v) (fy : flatV y = true) (fx : flatV x = true) : SeqAt.EqAt A s u v (eqV y x) := by
  cases y with
  | non =>
    cases ry
    cases x with
    | non => cases rx; exact SeqAt.EqAt.same _
    | bl b => cases rx; exact SeqAt.EqAt.none_bool b
    | int b => obtain ⟨t, rfl⟩ := rx; exact SeqAt.EqAt.none_int b t
    | str b => obtain ⟨t, rfl⟩ := rx; exact SeqAt.EqAt.none_str b t
    | _ => exact absurd (show false = true from fx) Bool.false_ne_true
  | bl a =>
    cases ry
    cases x with
    | non => cases rx; exact SeqAt.EqAt.bool_none a
    | bl b => cases rx; exact SeqAt.EqAt.bool_bool a b
    | int b => obtain ⟨t, rfl⟩ := rx; exact SeqAt.EqAt.bool_int a b t
    | str b => obtain ⟨t, rfl⟩ := rx; exact SeqAt.EqAt.bool_str a b t
    | _ => exact absurd (show false = true from fx) Bool.false_ne_true
  | int a =>
    obtain ⟨t', rfl⟩ := ry
    cases x with
    | non => cases rx; exact SeqAt.EqAt.int_none a t'
    | bl b => cases rx; exact SeqAt.EqAt.int_bool a t' b
    | int b => obtain ⟨t, rfl⟩ := rx; exact SeqAt.EqAt.int_int a t' b t
    | str b => obtain ⟨t, rfl⟩ := rx; exact SeqAt.EqAt.int_str a t' b t
    | _ => exact absurd (show false = true from fx) Bool.false_ne_true
  | str a =>
    obtain ⟨t', rfl⟩ := ry
    cases x with
    | non => cases rx; exact SeqAt.EqAt.str_none a t'
    | bl b => cases rx; exact SeqAt.EqAt.str_bool a t' b
    | int b => obtain ⟨t, rfl⟩ := rx; exact SeqAt.EqAt.str_int a t' b t
    | str b => obtain ⟨t, rfl⟩ := rx; exact SeqAt.EqAt.str_str a t' b t
    | _ => exact absurd (show false = true from fx) Bool.false_ne_true
  | _ => exact absurd (show false = true from fy) Bool.false_ne_true
noncomputable def eqU (x : V) (u : Value) : Bool := match u with
  | .none => eqV .non x
  | .bool b => eqV (.bl b) x
  | .int i _ => eqV (.int i) x
  | .str z _ => eqV (.str z) x
  | _ => false
theorem eqU_of {x y : V} {u : Value} (r : RelV y u) (f : flatV y = true) : eqU x u = eqV y x := by
  cases y with
  | non => cases r; rfl
  | bl b => cases r; rfl
  | int i => obtain ⟨t, rfl⟩ := r; rfl
  | str z => obtain ⟨t, rfl⟩ := r; rfl
  | _ => exact absurd (show false = true from f) Bool.false_ne_true
theorem any_eqU {x : V} {xs : List V} {us : List Value} (h : Vals xs us) (f : xs.all flatV = true) : us.any (eqU x) = xs.any fun y => eqV y x := by
  induction h with
  | nil => rfl
  | cons r t ih =>
    rw [List.all_cons, Bool.and_eq_true] at f
    rw [List.any_cons, List.any_cons, eqU_of r f.1, ih f.2]
theorem mem_eqAt {A : Around} {s : Shared} {x : V} {v : Value} (rx : RelV x v) (fx : flatV x = true) {xs : List V} {us : List Value} (h : Vals xs us) (f : xs.all flatV = true) : ∀ u ∈ us, SeqAt.EqAt A s u v (eqU x u) := by
  induction h with
  | nil => intro u hu; cases hu
  | cons r t ih =>
    intro u' hu
    rw [List.all_cons, Bool.and_eq_true] at f
    rcases List.mem_cons.mp hu with rfl | hu
    · rw [eqU_of r f.1]; exact eqAt_V r rx f.1 fx
    · exact ih f.2 u' hu
noncomputable def inV (x : V) (xs : List V) : Bool := xs.any fun y => eqV y x
noncomputable def rIn (K : PySem.W.Frag) (neg : Bool) : R2 := fun x y H Q => ∃ p xs, y = .ref p ∧ (SqL K H p xs ∨ SqT K H p xs) ∧ flatV x = true ∧ xs.all flatV = true ∧ Q (.bl (if neg then !inV x xs else inV x xs)) H
theorem op_in_seq : OpR X (compareOp .In) (rIn X.K false) := by
  intro pins s σ H x y v u Q I rx ry h
  obtain ⟨p, xs, rfl, hq, fx, fs, q⟩ := h
  cases ry
  rcases hq with hq | hq
  · obtain ⟨its, r, pl, hz⟩ := I.list hq
    refine SeqAt.in_listAt (eqU x) pl.isList (fun w hw => mem_eqAt rx fx r fs w (by simpa using hw)) ⟨.bl _, H, I, rfl, ?_⟩
    rw [show its.toArray.any (eqU x) = its.any (eqU x) by simp, any_eqU r fs]
    exact q
  · obtain ⟨its, r, pl, hz⟩ := I.tuple hq
    refine SeqAt.in_tupleAt (eqU x) pl (fun w hw => mem_eqAt rx fx r fs w (by simpa using hw)) ⟨.bl _, H, I, rfl, ?_⟩
    rw [show its.toArray.any (eqU x) = its.any (eqU x) by simp, any_eqU r fs]
    exact q

/-! ### len, list(x), tuple(x) of any list or tuple that is read -/
theorem call_len_seq : CallR X (.builtin "len") (fun xs H Q => ∃ p ys, xs = [.ref p] ∧ (SqL X.K H p ys ∨ SqT X.K H p ys) ∧ Q (.int ys.length) H) := by
  intro pins s σ H xs us Q I r h
  obtain ⟨p, ys, rfl, hq, q⟩ := h
  obtain ⟨u, rfl, rx⟩ := vals1 r
  cases rx
  have hn := line63
  rcases hq with hq | hq
  · obtain ⟨its, r', pl, hz⟩ := I.list hq
    have hlen := r'.length
    exact Calls.call_len_list pl.isList (by simp only [List.size_toArray] <;> omega) ⟨.int ys.length, H, I.tok _, ⟨s.toks + 1, by rw [List.size_toArray, hlen]⟩, q⟩
  · obtain ⟨its, r', pl, hz⟩ := I.tuple hq
    have hlen := r'.length
    exact len_tuple pl (by simp only [List.size_toArray] <;> omega) ⟨.int ys.length, H, I.tok _, ⟨s.toks + 1, by rw [List.size_toArray, hlen]⟩, q⟩
theorem call_list_of : CallR X (.type "list") (fun xs H Q => ∃ p ys, xs = [.ref p] ∧ (SqL X.K H p ys ∨ SqT X.K H p ys) ∧ ∀ l, H l = none → Q (.ref l) (upd H l (.lst ys))) := by
  intro pins s σ H xs us Q I r h
  obtain ⟨p, ys, rfl, hq, q⟩ := h
  obtain ⟨u, rfl, rx⟩ := vals1 r
  cases rx
  have fin : ∀ (its : List Value), Vals ys its → ys.length ≤ sizeLine → ∀ (h' : Heap) (c' : Nat), (∀ b o', s.heap.get? b = some o' → h'.get? b = some o') →
      h'.get? s.heap.objs.size = some { cls := .type "list", dict := none, data := .seq its.toArray c', slots := #[] } → EP X pins σ Q (.ref s.heap.objs.size) { s with heap := h' } := fun its r' hz h' c' kp e =>
    ⟨.ref s.heap.objs.size, _, I.laid (t' := s.toks) kp (Nat.le_refl _) (show ObjOk X.prog X.w _ h' _ (.lst ys) from ⟨hz, its, c', r', e⟩), rfl, q _ (I.hok.fresh (Nat.le_refl _))⟩
  rcases hq with hq | hq
  · obtain ⟨its, r', pl, hz⟩ := I.list hq
    have hlen := r'.length
    obtain ⟨o, ho, hc, n, hd⟩ := pl.isList
    exact call_list_seq p (.inl rfl) ho hc hd (fun h' c' kp e => fin its r' hz h' c' kp e) (by simp only [List.size_toArray] <;> omega)
  · obtain ⟨its, r', pl, hz⟩ := I.tuple hq
    have hlen := r'.length
    obtain ⟨o, ho, hc, n, hd⟩ := pl
    exact call_list_seq p (.inr rfl) ho hc hd (fun h' c' kp e => fin its r' hz h' c' kp e) (by simp only [List.size_toArray] <;> omega)

/-! ### the call of a builtin's method: o.m(..) -/
noncomputable def tyV (K : PySem.W.Frag) (T : String) (x : V) (H : Hp) : Prop := match x with
  | .str _ => T = "str"
  | .int _ => T = "int"
  | .ref p => (T = "list" ∧ ∃ xs, SqL K H p xs) ∨ (T = "tuple" ∧ ∃ o, K.lookup p = some o ∧ o.cls = .type "tuple" ∧ o.dict = none) ∨
      (T = "dict" ∧ ((∃ kvs, H p = some (.dK kvs)) ∨ ∃ kvs, H p = some (.dT kvs))) ∨ (T = "set" ∧ ∃ S n, H p = some (.set S n))
  | _ => False
theorem tyV_is {pins : List (Addr × Obj)} {σ : St} {H : Hp} {s : Shared} {T : String} {x : V} {v : Value} (I : Inv X pins σ H s) (r : RelV x v) (ty : tyV X.K T x H) :
    s.TypeIs v T ∧ ∀ a, v = .ref a → ∃ ob, s.heap.get? a = some ob ∧ ob.dict = none := by
  cases x with
  | str z =>
    obtain ⟨t, rfl⟩ := r
    cases (show T = "str" from ty)
    exact ⟨typeIs_str s z t, fun _ e => nomatch e⟩
  | int i =>
    obtain ⟨t, rfl⟩ := r
    cases (show T = "int" from ty)
    exact ⟨typeIs_int s i t, fun _ e => nomatch e⟩
  | ref p =>
    cases r
    rcases ty with ⟨rfl, xs, hq⟩ | ⟨rfl, o, hk, hc, hd⟩ | ⟨rfl, hk⟩ | ⟨rfl, S, n, hk⟩
    · obtain ⟨its, _, pl, _⟩ := I.list hq
      refine ⟨pl.isList.typeIs, fun a e => ?_⟩
      cases e
      obtain ⟨o, n, e, c, hd, _⟩ := pl
      exact ⟨o, e, hd⟩
    · refine ⟨⟨o, I.kIn p o hk, hc⟩, fun a e => ?_⟩
      cases e
      exact ⟨o, I.kIn _ o hk, hd⟩
    · have z : ∃ o, s.heap.get? p = some o ∧ o.ExactDict := by
        rcases hk with ⟨kvs, hk⟩ | ⟨kvs, hk⟩
        · obtain ⟨_, _, _, _, o, _, _, e, ex, _⟩ := I.hok p _ hk
          exact ⟨o, e, ex⟩
        · obtain ⟨_, _, _, _, o, _, _, e, ex, _⟩ := I.hok p _ hk
          exact ⟨o, e, ex⟩
      obtain ⟨o, e, ex⟩ := z
      refine ⟨⟨o, e, ex.1⟩, fun a e2 => ?_⟩
      cases e2
      exact ⟨o, e, ex.2.1⟩
    · obtain ⟨o, _, _, _, e, ex, _⟩ := I.hok p _ hk
      refine ⟨⟨o, e, ex.1⟩, fun a e2 => ?_⟩
      cases e2
      exact ⟨o, e, ex.2.1⟩
  | _ => exact False.elim ty
noncomputable def tBM (K : PySem.W.Frag) (T : String) (r : V → List V → Hp → VK → Prop) (to : TE) (t : TA) : TE := fun σ H Q => to σ H fun x H1 => tyV K T x H1 ∧ t σ H1 fun xs H2 => r x xs H2 Q
variable {o e : Expr} {es : List Expr} {to : TE} {t : TA} {name : Str} {apos cpos : Pos} {T id : String} {r : V → List V → Hp → VK → Prop}
theorem pe_bm (pa : PlainAttrs T) (slot : Slot T name id) (hty : typeOf (.builtin id) = pure (.type "method_descriptor")) (hm : MtR X id r) (ho : PE X o to) (ha : PA X (e :: es) t)
    (hbase : attributeBase o name X.env (eval o X.env) = eval o X.env := by rfl)
    (hfew : ((backTo cpos (starEach (e :: es) X.env)).all (fun x => !x.1) && (backToKw cpos (keywordEach [] X.env)).all (fun x => x.1.isSome)
      && decide ((e :: es).length + ([] : List Keyword).length + (if ([] : List Keyword).isEmpty then 0 else 1) < 30)) = true := by rfl)
    (hline : (apos.endLine == cpos.line) = true := by rfl) (hs : starEach (e :: es) X.env = (false, eval e X.env) :: starEach es X.env := by rfl) (hplain : (backTo cpos (starEach es X.env)).any (·.1) = false := by rfl) :
    PE X (.Call (.Attribute o name apos) (e :: es) [] cpos) (tBM X.K T r to t) := by
  intro pins s σ H Q I h
  refine wpAny_Call_method_late hbase hfew hline rfl (thn (ho pins s σ H _ I h) fun v s1 zz => ?_)
  obtain ⟨x, H1, I1, r1, ty, q1⟩ := zz
  obtain ⟨h1, h2⟩ := tyV_is I1 r1 ty
  refine ⟨T, id, pa, slot, hty, h1, h2, ?_⟩
  have hA := ha cpos pins s1 σ H1 _ I1 q1
  rw [hs] at hA ⊢
  refine Calls.callWith_builtin (by show (false || (backTo cpos (starEach es X.env)).any (·.1)) = false; rw [hplain] <;> rfl) (Calls.evalArgs_plain ?_)
  exact thn hA fun us s2 zz => L2.el5 zz fun vs H2 I2 r2 q2 => hm pins s2 σ H2 x vs v us Q I2 r1 r2 q2
/- xs.append(e), list.index on a module's tuple .. are MtR facts of 06m -/
end
end L2

namespace L2
open PySem PySem.Spec PyProof.Rows

noncomputable def MtM (X : Cx) (id : String) (r : V → List V → Hp → VK → Prop) : Prop :=
  ∀ (pins : List (Addr × Obj)) (s : Shared) (σ : St) (H : Hp) (x : V) (xs : List V) (v : Value) (us : List Value) (Q : VK), Inv X pins σ H s → RelV x v → Vals xs us → r x xs H Q →
    wpAny (model X.prog X.w) X.A (call (.builtin id) (v :: us)) (EP X pins σ Q) X.xe s

/-! ### lists of values -/
theorem Vals.one {x : V} {us : List Value} (h : Vals [x] us) : ∃ u, us = [u] ∧ RelV x u := by
  cases h with
  | cons r t =>
    cases t
    exact ⟨_, rfl, r⟩
theorem Vals.rep {xs : List V} {us : List Value} (h : Vals xs us) : ∀ k : Nat, Vals (List.replicate k xs).flatten (List.replicate k us).flatten
  | 0 => .nil
  | k + 1 => by
    rw [List.replicate_succ, List.replicate_succ, List.flatten_cons, List.flatten_cons]
    exact Vals.append h (Vals.rep h k)
theorem foldl_rep (its : List Value) : ∀ (k : Nat) (acc : List Value),
    List.foldl (fun x1 x2 => x1 ++ x2) acc.toArray (List.replicate k its.toArray) = (acc ++ (List.replicate k its).flatten).toArray
  | 0, acc => by simp
  | k + 1, acc => by
    have e : acc.toArray ++ its.toArray = (acc ++ its).toArray := by simp
    have e2 : (acc ++ its) ++ (List.replicate k its).flatten = acc ++ (List.replicate (k + 1) its).flatten := by
      rw [List.replicate_succ, List.flatten_cons, List.append_assoc]
    rw [← e2, ← foldl_rep its k (acc ++ its), ← e, List.replicate_succ, List.foldl_cons]

section
variable {X : Cx} {pins : List (Addr × Obj)} {σ : St} {H : Hp} {s : Shared} {l b : Addr} {xs ys zs : List V}

/-! ### the two steps: a tracked list is rewritten, a new list is laid -/
theorem Inv.lset {its its' : List Value} {n : Nat} {f : Array Value → Array Value} {t' : Nat} (I : Inv X pins σ H s) (hH : H l = some (.lst xs))
    (e : s.heap.get? l = some { cls := .type "list", data := .seq its.toArray n }) (hf : f its.toArray = its'.toArray) (hv : Vals ys its') (hz : ys.length ≤ sizeLine) :
    Inv X pins σ (upd H l (.lst ys)) { s with heap := s.heap.update l (Obj.mapSeq f), toks := t' } := by
  have q := PySem.IsL.update e f
  rw [hf] at q
  refine I.write (x := l) (e := l) (by rw [hH]; exact trivial) (.inl rfl) (fun b' u hb hu => (Heap.get?_update_other s.heap (Obj.mapSeq f) (Ne.symm hb)).trans hu) ⟨_, q⟩ ?_
  exact ⟨hz, its', _, hv, q⟩
theorem Inv.lnew {its : List Value} {t' : Nat} (I : Inv X pins σ H s) (hv : Vals ys its) (hz : ys.length ≤ sizeLine) :
    Inv X pins σ (upd H s.heap.objs.size (.lst ys)) { s with heap := s.heap.push { cls := .type "list", data := .seq its.toArray }, toks := t' } :=
  I.laid (fun _ _ q => Heap.get?_push_of_some _ q) (Nat.le_refl _) ⟨hz, its, 0, hv, Heap.get?_push_size _ rfl⟩
theorem Inv.fresh (I : Inv X pins σ H s) : H s.heap.objs.size = none := I.hok.fresh (Nat.le_refl _)
theorem Inv.lstM (I : Inv X pins σ H s) (hH : H l = some (.lst xs)) : xs.length ≤ sizeLine ∧ ∃ (its : List Value) (n : Nat), Vals xs its ∧ xs.length = its.length ∧ s.heap.get? l = some { cls := .type "list", data := .seq its.toArray n } := by
  obtain ⟨z, its, n, r, e⟩ := I.hok l _ hH
  exact ⟨z, its, n, r, r.length, e⟩

theorem notLongL {n : Nat} (h : n ≤ sizeLine) : Builtin.List.listTooLong n = false := by
  unfold Builtin.List.listTooLong
  exact decide_eq_false (by omega)
end

section
variable {X : Cx}

/-! ### methods -/
noncomputable def rAppend : V → List V → Hp → VK → Prop := fun x vs H Q => ∃ l xs y, x = .ref l ∧ vs = [y] ∧ H l = some (.lst xs) ∧ xs.length < sizeLine ∧ Q .non (upd H l (.lst (xs ++ [y])))
theorem mt_append : MtM X "list.append" rAppend := by
  intro pins s σ H x vs v us Q I rx rv h
  obtain ⟨l, xs, y, rfl, rfl, hH, hz, q⟩ := h
  cases rx
  obtain ⟨u, rfl, ru⟩ := rv.one
  obtain ⟨z, its, n, r, hl, e⟩ := I.lstM hH
  refine call_meets F.slot_list_append ⟨_, e, rfl⟩ F.entry_list_append (F.args_list_append_2 _ _) (PySem.list_append l its.toArray n u (by rw [List.size_toArray]; omega)) ⟨e, ?_⟩
  refine ⟨.non, _, I.lset (its' := its ++ [u]) hH e (by simp) (r.append (.cons ru .nil)) ?_, rfl, q⟩
  rw [List.length_append, List.length_singleton]
  omega






/-! ### list + list, list += list, list * int -/
noncomputable def rCat : R2 := fun x y H Q => ∃ l b xs zs, x = .ref l ∧ y = .ref b ∧ H l = some (.lst xs) ∧ H b = some (.lst zs) ∧ xs.length + zs.length ≤ sizeLine ∧ ∀ p, H p = none → Q (.ref p) (upd H p (.lst (xs ++ zs)))
theorem op_cat : OpR X (binaryOp .Add) rCat := by
  intro pins s σ H x y v u Q I rx ry h
  obtain ⟨l, b, xs, zs, rfl, rfl, hH, hB, hz, q⟩ := h
  cases rx
  cases ry
  obtain ⟨z, its, n, r, hl, e⟩ := I.lstM hH
  obtain ⟨z2, its2, n2, r2, hl2, e2⟩ := I.lstM hB
  refine PySem.P.add_list e e2 ?_ (by rw [List.size_toArray, List.size_toArray]; omega)
  have ea : its.toArray ++ its2.toArray = (its ++ its2).toArray := by simp
  rw [ea]
  exact ⟨.ref _, _, I.lnew (t' := s.toks) (r.append r2) (by rw [List.length_append]; omega), rfl, q _ I.fresh⟩
noncomputable def rRep : R2 := fun x y H Q => ∃ l k xs, x = .ref l ∧ y = .int k ∧ H l = some (.lst xs) ∧ -(2 ^ 63) ≤ k ∧ k < 2 ^ 63 ∧ xs.length * k.toNat ≤ sizeLine ∧
  ∀ p, H p = none → Q (.ref p) (upd H p (.lst (List.replicate k.toNat xs).flatten))
theorem len_rep {α : Type} (xs : List α) (k : Nat) : (List.replicate k xs).flatten.length = k * xs.length := by
  induction k with
  | zero => simp
  | succ k ih => rw [List.replicate_succ, List.flatten_cons, List.length_append, ih, Nat.succ_mul, Nat.add_comm]
theorem op_rep : OpR X (binaryOp .Mult) rRep := by
  intro pins s σ H x y v u Q I rx ry h
  obtain ⟨l, k, xs, rfl, rfl, hH, h1, h2, hz, q⟩ := h
  cases rx
  obtain ⟨t, rfl⟩ := ry
  obtain ⟨z, its, n, r, hl, e⟩ := I.lstM hH
  have hlen : its.toArray.size * k.toNat ≤ sizeLine := by rw [List.size_toArray, ← hl]; exact hz
  have hcap : ¬ its.toArray.size * k.toNat > (2 ^ 63 - 1) / 8 := by
    have : (sizeLine : Nat) ≤ (2 ^ 63 - 1) / 8 := by decide
    omega
  have hfit : ¬ (!Builtin.List.listFitsIndex k) = true := by
    rw [fitsIndex_both h1 h2]
    exact Bool.false_ne_true
  have hlong : ¬ Builtin.List.listTooLong (its.toArray.size * k.toNat) = true := by
    rw [notLongL hlen]
    exact Bool.false_ne_true
  have hnew : List.foldl (fun x1 x2 => x1 ++ x2) #[] (List.replicate (if its.toArray.isEmpty = true then 0 else k.toNat) its.toArray) = (List.replicate k.toNat its).flatten.toArray := by
    have f0 : ∀ m : Nat, List.foldl (fun x1 x2 => x1 ++ x2) #[] (List.replicate m its.toArray) = (List.replicate m its).flatten.toArray := fun m => by
      have := foldl_rep its m []
      rw [List.nil_append] at this
      exact this
    rw [f0]
    cases its with
    | nil => simp
    | cons a r' => rw [if_neg (by simp)]
  refine wpAny_binaryOp_repeat_ref (T := "list") (U := "int") (by decide) ⟨_, e, rfl⟩ (fun s' => typeIs_int s' k t) noFill_list_mul F.fills_int_mul F.slot_int_rmul repeat_list F.slot_int_index.lookup
    (call_meets F.slot_int_rmul (typeIs_int s k t) F.entry_int_rmul (F.args_int_rmul_2 _ _) (int___rmul___int_list k t l its.toArray n)
      ⟨e, rfl, ⟨_, e, rfl⟩, call_meets F.slot_list_mul ⟨_, e, rfl⟩ F.entry_list_mul (F.args_list_mul_2 _ _) (AutoListH.list___mul___list_int_3 l its.toArray n k t hfit hcap hlong) ⟨e, ?_⟩⟩)
  rw [hnew]
  exact ⟨.ref _, _, I.lnew (t' := s.toks) (r.rep k.toNat) (by rw [len_rep, Nat.mul_comm]; exact hz), rfl, q _ I.fresh⟩

/-! ### del xs[i] -/
end

/-! ### xs[a:b] = ys -/
section
variable {prog : Program} {w : World} {A : Around} {E : Value → Shared → Prop} {s : Shared}
set_option maxRecDepth 100000 in
end

section
variable {X : Cx}
end
end L2

namespace Att
open PySem PySem.W PySem.Calls PyProof.Rows

/-! ### the script -/
theorem ints_of_wellAll {P : Params} {h : Heap} : ∀ (ns : List Int) (vs : List Value), WellAll P h vs (ns.map WData.int) → IntsAre vs ns := by
  intro ns
  induction ns with
  | nil =>
    intro vs w
    rw [List.map_nil] at w
    cases w
    exact .nil
  | cons n ns ih =>
    intro vs w
    rw [List.map_cons] at w
    cases w with
    | cons a b =>
      cases a
      exact .cons _ _ (ih _ b)

theorem script_of {l : OpenLaw} {n : Nat} (hn : l.most = some n) {P : Params} {h : Heap} {args : List WData} {vals : List Value}
    (hpre : l.row.toRowW.claim.pre args = true) (hwl : WellAll P h vals args) :
    ∃ a vs ns, vals = [Value.ref a] ∧ args = [WData.list (ns.map WData.int)] ∧ h.get? a = some { cls := .type "list", data := .seq vs.toArray } ∧ IntsAre vs ns ∧ ns.length ≤ n := by
  have hsh : WShape.hasAll [] args [.list .int] = true := (pre_splitW hpre).1
  have hc : l.pre.holds [] { args := args } = true := (pre_splitW hpre).2
  obtain ⟨d, r, rfl, h1, h2⟩ := hasAllW_cons hsh
  obtain rfl := hasAllW_nil h2
  obtain ⟨xs, rfl, h3⟩ := hasW_list h1
  obtain ⟨ns, rfl⟩ := items_int h3
  have hlen : ns.length ≤ n := by
    unfold OpenLaw.pre at hc
    have h4 : (WTm.not (.lt (.lit (.int (n : Int))) (.len (.arg 0)))).holds [] { args := [.list (ns.map .int)] } = true := by
      have h4 := (holds_andW hc).1
      rw [hn] at h4
      exact h4
    have h5 := condW_of h4 (w_not (w_lt w_lit (w_len_list (w_arg rfl))))
    rw [List.length_map] at h5
    refine Nat.le_of_not_lt fun q => ?_
    have q' : (n : Int) < ((ns.length : Nat) : Int) := by omega
    first
      | (rw [decide_eq_true q'] at h5; exact absurd h5 (by decide))
      | (simp at h5; omega)
  cases hwl with
  | cons w1 w2 =>
    cases w2
    cases w1 with
    | list ho hall => exact ⟨_, _, ns, rfl, rfl, ho, ints_of_wellAll ns _ hall, hlen⟩

theorem post_true (l : OpenLaw) (args : List WData) : l.row.toRowW.claim.post args (.bool true) args = true :=
  postW_of (r := l.row.toRowW) (X := (true == true))
    (show WShape.has [] (.bool true) .bool = true by first | rfl | decide | simp [WShape.has, WShape.arms, WShape.armsAll])
    (show (WTm.eq .res (.lit (.bool true))).value [] { args := args, res := some (.bool true), after := args } = some (.bool (true == true)) from w_eq_bool (w_res rfl) w_lit) rfl

/-! ### the attachment: holds_open's last premise (the goal 'hc' behind k_head) from a wpAny of the law's body -/

theorem attach_call {l : OpenLaw} {n : Nat} {q : Program} {loose : List Str} {XP : (Str → Option Value) → Heap → Prop} {YP : World → Heap → Prop} {d : DefRec}
    (hn : l.most = some n) (hdf : d.params.defaults = [])
    (call : ∀ (w : World) (s₀ s₁ : Shared) (mg mb : Str → Option Value) (fa : Addr) (o : Obj) (pm cd doc : Value) (a : Addr) (vs : List Value) (ns : List Int),
      Ground q loose [] XP w s₀ mg mb s₁.heap → YP w s₁.heap →
      s₁.heap.get? fa = some o → o.data = .func (docDef d.name d.params d.body d.scope pm cd doc) → s₁.heap.CodeRec cd d.name → mg d.name = some (.ref fa) →
      s₁.heap.get? a = some { cls := .type "list", data := .seq vs.toArray } → IntsAre vs ns → ns.length ≤ n → s₁.gens = #[] →
      codeAny (model l.prog w) callerA (.call (.ref fa) ⟨[.ref a], []⟩) (fun r s' => r = .ok (.ret (.bool true)) ∧ OldK s₁.heap s'.heap ∧ s'.os = s₁.os ∧ AllBare s'.gens) s₁) :
    WalkO q loose XP YP l.row.toRowW d [] (fun f vs => PySem.call f vs) := by
  intro w s₀ s₁ mg mb G Y fa o pm cd doc dV kV ho hd hcd hD hmg hg args vals as hpre hlay hrd hwl hlo
  obtain rfl : dV = .none := Dflts.none hD hdf
  obtain rfl : kV = .none := Dflts.noKw hD
  obtain ⟨a, vs, ns, rfl, rfl, hobj, hints, hlen⟩ := script_of hn hpre hwl
  refine enter_call (codeAny_mono (call w s₀ s₁ mg mb fa o pm cd doc a vs ns G Y ho (fd_plain hd) hcd hmg hobj hints hlen hg) fun r s' hq => ?_)
  obtain ⟨rfl, h2, h3, h4⟩ := hq
  exact ⟨.inl ⟨.bool true, .bool true, [], rfl, fun _ => rfl, .bool true, post_true l _, fun _ => ⟨List.Pairwise.nil, fun _ hm => (nomatch hm)⟩⟩, h2, h3, h4⟩


/-! ### rules over ANY heap (no ledger) from facts about the written part K: the library's own take a ledger (News) for what they write -/
section
variable {prog : Program} {w : World} {A : Around} {E : Value → Shared → Prop} {s : Shared} {K : Frag}





/-! the whole heap as the ledger: makes every rule that writes through a ledger a rule over any heap -/

end
end Att

namespace L2
open PySem PySem.Spec PyProof.Rows

theorem vals_ints : ∀ {vs : List Value} {ns : List Int}, IntsAre vs ns → Vals (ns.map V.int) vs
  | _, _, .nil => .nil
  | _, _, .cons n t h => .cons ⟨t, rfl⟩ (vals_ints h)


end L2

namespace L2
open PySem PySem.Spec PyProof.Rows

noncomputable abbrev KOf {K : PySem.W.Frag} {h : Heap} (_ : K.In h) : PySem.W.Frag := K

end L2

/- THE LAST THEOREM (shape; LID, My.* are yours):
   My.Adr: a structure of the addresses that your layer names (classes, functions); My.Txt K t: a structure (Prop) of the equations over K;
   My.txt_mk : {K} {implicit addresses ..} (e1 : nsIn K mainGlobals "law" = some (some (.ref f))) (e2 : K.lookup f = some ⟨oc, od, .func (fnOf "law" "law" params body scope dV kV doc pm an cdv ct), sl⟩) (e3 : codeIn K cdv "law" = true) .. : ∃ t, My.Txt K t

set_option maxRecDepth 100000 in
set_option maxHeartbeats 0 in
theorem PySem.Challenge.cw_LID_holds : PySem.Challenge.rw_LID.Holds := by
  w_on; o_law; k_head; (case hw => w_witness2)
  k_fill
  refine L2.walk_of (l := PySem.Challenge.rw_LID) (n := 63) (k := 40) (x := "script") (CX := fun w => ..) (sp := fun _ => My.sp_law) rfl (by decide) rfl ⟨rfl, by decide, by decide⟩ (fun w h Y => PySem.W.kIn_of Y) ?F ?S ?C
  case F =>
    intro w mg fa h KX G hmg
    have T : ∃ t, My.Txt (L2.KOf KX) t := by
      dsimp only [L2.KOf]                          -- K must stand as «<heap const> w.params» for k_is
      refine' My.txt_mk ?e1 ?e2 ?e3 ..
      (case e1 => PySem.W.k_is)                    -- in the order: a name -> its address -> its object -> its parts
      (case e2 => PySem.W.k_is)
      ..
    obtain ⟨t, T⟩ := T
    have e0 := hmg.symm.trans (PySem.W.mg_of KX G T.law)
    cases e0                                       -- fa is the law's own address
    exact ⟨_, fun s u => .of_eq rfl, fun base kb nb => My.law_fn T kb nb⟩     -- if «.of_eq rfl» comes too early: refine' ⟨_, ?b, fun base kb nb => My.law_fn T kb nb⟩; exact fun s u => .of_eq rfl
  case S => exact fun w H a ns hl hO hS => ..
  case C => exact ..
(the tactic k_is has no namespace: write k_is) -/

/-! SHORT WORDS over the layer: a def of the text, its body, what a loop and a test want. -/
namespace L2
open PySem PySem.Spec PyProof.Rows

/-! ### the text by places -/
noncomputable def inClass (s : Stmt) (j : Nat) : Stmt := match s with
  | .ClassDef _ _ _ body _ _ _ _ _ _ _ => body.getD j (.Pass ⟨0, 0, 0, 0⟩)
  | _ => .Pass ⟨0, 0, 0, 0⟩
noncomputable def defArgs (s : Stmt) : Arguments := match s with
  | .FunctionDef _ a _ _ _ _ _ _ _ _ => a
  | _ => { posonlyargs := [], args := [], vararg := none, kwonlyargs := [], kw_defaults := [], kwarg := none, defaults := [] }
noncomputable def defBody (s : Stmt) : List Stmt := match s with
  | .FunctionDef _ _ b _ _ _ _ _ _ _ => b
  | _ => []
noncomputable def defScope (s : Stmt) : Scope := match s with
  | .FunctionDef _ _ _ _ _ _ sc _ _ _ => sc
  | _ => { kind := .function, names := [], isGenerator := false, isCoroutine := false }

/-! ### no exception leaves a def -/
noncomputable abbrev CX0 : CXT := fun _ _ _ _ _ _ => False
noncomputable abbrev E0 : XK := fun _ _ _ => False
theorem pass0 {X : Cx} : Passes CX0 X E0 := fun _ _ _ _ _ _ _ h => h.elim

/-! ### a def (or method) of the text as it stands behind the top -/
structure Fun (K : PySem.W.Frag) (x qual : Str) (st : Stmt) (f : Addr) (fd : FuncData) : Prop where
  ex : ∃ (oc : Value) (od : Option Addr) (kV doc pm : Value) (an : Option Addr) (cdv ct : Value) (osl : Array (Option Value)),
    fd = PySem.W.fnOf x qual (defArgs st) (defBody st) (defScope st) .none kV doc pm an cdv ct ∧ K.lookup f = some ⟨oc, od, .func fd, osl⟩ ∧ PySem.W.codeIn K cdv qual = true
  kp : PySem.W.keepIn K (.ref f) = true
section
variable {P : Program} {w : World} {K : PySem.W.Frag} {mg : Str → Option Value} {base : Heap}
theorem Fun.ok {x qual : Str} {st : Stmt} {f : Addr} {fd : FuncData} {N ps : List Str} {k : Nat} {sp : Sp} (F : Fun K x qual st f fd) (S : FnScope N ps (defScope st)) (len : ∀ vs H Q E, sp vs H Q E → vs.length = ps.length)
    (hbody : ∀ (cdv : Value) (A : Around) (outer : List Env) (s : Shared) (H : Hp) (vs : List V) (Q : VK) (E : XK), Room k (A.deeper (envOfC qual (defScope st) s.heap.objs.size f cdv)) → sp vs H Q E →
      ∃ t, PSs (cxOf CX0 P w K mg base N qual (defScope st) f cdv A outer s H E).nox (defBody st) t ∧ t { nx := fun _ H' => Q .non H', rt := Q } (start N vs) H) : FnOk P w K mg base CX0 (k + 1) f fd ps sp := by
  obtain ⟨oc, od, kV, doc, pm, an, cdv, ct, osl, rfl, lk, hcd⟩ := F.ex
  refine fn_of lk hcd S len fun A outer s H vs Q E hr hsp => ?_
  obtain ⟨t, h, q⟩ := hbody cdv A outer s H vs Q E hr hsp
  exact ⟨t, h.nox, q⟩
theorem Fun.binds {x qual : Str} {st : Stmt} {f : Addr} {fd : FuncData} {ps : List Str} (F : Fun K x qual st f fd)
    (h : ∀ (kV doc pm : Value) (an : Option Addr) (cdv ct : Value) (us : List Value), us.length = ps.length → bindArgs (PySem.W.fnOf x qual (defArgs st) (defBody st) (defScope st) .none kV doc pm an cdv ct) ⟨us, []⟩ = pure (ps.zip us)) : Binds K fd ps [] := by
  obtain ⟨oc, od, kV, doc, pm, an, cdv, ct, osl, rfl, lk, hcd⟩ := F.ex
  exact .all (h kV doc pm an cdv ct)
theorem fun_mk {x qual : Str} {st : Stmt} {f : Addr} {oc : Value} {od an : Option Addr} {osl : Array (Option Value)} {kV doc pm cdv ct : Value} (l : K.lookup f = some ⟨oc, od, .func (PySem.W.fnOf x qual (defArgs st) (defBody st) (defScope st) .none kV doc pm an cdv ct), osl⟩)
    (c : PySem.W.codeIn K cdv qual = true) (k : PySem.W.keepIn K (.ref f) = true) : Fun K x qual st f (PySem.W.fnOf x qual (defArgs st) (defBody st) (defScope st) .none kV doc pm an cdv ct) := ⟨⟨oc, od, kV, doc, pm, an, cdv, ct, osl, rfl, l, c⟩, k⟩
end
theorem small1000 {n : Nat} (h : n ≤ 1000) : n < sizeLine := Nat.lt_of_le_of_lt h (by decide)

/-! ### expressions in short: the name that stands in the i-th slot -/
section
variable {X : Cx}
theorem pv (i : Nat) {x : Str} {pos : Pos} (hN : X.N[i]? = some x := by rfl) (hv : Vis X.env.scope x := by first | exact Or.inl rfl | exact Or.inr (Or.inl rfl) | exact Or.inr (Or.inr rfl)) (hd : (x == ("__debug__" : Str)) = false := by decide)
    (hcd : (x == ("__classdict__" : Str)) = false := by decide) : PE X (.Name x pos) (tVar i) := pe_var hN hv hd hcd
end

/-! ### tests -/
theorem iteF {A B : Prop} (h : B) : if false = true then A else B := by
  rw [if_neg Bool.false_ne_true]
  exact h
theorem iteT {A B : Prop} (h : A) : if true = true then A else B := by
  rw [if_pos rfl]
  exact h
theorem ite2 {c A B : Prop} [Decidable c] (h1 : c → A) (h2 : ¬ c → B) : if c then A else B := by
  by_cases h : c
  · rw [if_pos h]
    exact h1 h
  · rw [if_neg h]
    exact h2 h
theorem iteNS {c A B : Prop} [Decidable c] (hc : c) (h : B) : if (!decide c) = true then A else B := by
  rw [decide_eq_true hc]
  exact iteF h

/-! ### heaps -/
noncomputable def Same (H H' : Hp) : Prop := ∀ b o, H b = some o → H' b = some o
theorem Same.refl (H : Hp) : Same H H := fun _ _ h => h
theorem Same.trans {H H1 H2 : Hp} (a : Same H H1) (b : Same H1 H2) : Same H H2 := fun c o h => b c o (a c o h)
theorem Same.free {H H' : Hp} (e : Same H H') {l : Addr} (h : H' l = Option.none) : H l = Option.none := by
  cases q : H l with
  | none => rfl
  | some o =>
    rw [e l o q] at h
    cases h

end L2

set_option Elab.async false
set_option linter.all false
set_option maxRecDepth 100000
/-! A list comprehension with one clause, over the hand layer: its block never raises. -/
namespace L2
open PySem PySem.Spec PyProof.Rows

section
variable {prog : Program} {w : World} {A : Around} {R : Result → Shared → Prop} {s : Shared}
theorem loop_comp {elt target iter : Expr} {ifs : List Expr} {scope : Scope} {pos : Pos} {it acc : Value} {env : Env} (I : Nat → Shared → Prop)
    (turn : ∀ n s, I n s → wpAny (model prog w) A (pyNext it) (fun r s₁ => match r with
      | none => R (.ok .next) s₁
      | some v => wpAny (model prog w) A (letOwnedTupleGo target it v) (fun _ s₁' => wpAny (model prog w) A (assign target env v) (fun _ s₂ =>
          wpAny (model prog w) A (forIn ifs true fun c r => if r = true then do let ok ← isTrue c env (eval c env); pure (ForInStep.yield ok) else pure (ForInStep.yield r)) (fun ok s₃ =>
            if ok = true then wpAny (model prog w) A (eval elt env) (fun x s₄ =>
              wpAny (model prog w) A (call (.builtin "list.append") [acc, x]) (fun _ s₅ => ∃ m, m < n ∧ I m s₅) (fun _ _ => False) s₄) (fun _ _ => False) s₃
            else ∃ m, m < n ∧ I m s₃) (fun _ _ => False) s₂) (fun _ _ => False) s₁') (fun _ _ => False) s₁) (fun _ _ => False) s)
    (n : Nat) (h : I n s) : codeAny (model prog w) A (.compLoop (.ListComp elt [⟨target, iter, ifs, 0⟩] scope pos) 0 it acc env) R s := by
  refine codeAny_loop rfl I (fun n s hI => ?_) n h
  show wpAny _ A ((compTurn (.ListComp elt [⟨target, iter, ifs, 0⟩] scope pos) 0 it acc env).onRaise (fun x => do noteFrame x env; theTreesLotGoes x)) _ _ s
  refine wpAny_noted ?_
  rw [compTurn_list]
  refine wpAny_bind (wpAny_standAt (wpAny_bind (wpAny_mono (turn n s hI) (fun r s₁ h₁ => ?_) fun _ _ h' => h'.elim)))
  cases r with
  | none => exact wpAny_pure h₁
  | some v =>
    refine wpAny_bind (wpAny_mono h₁ (fun _ s₁' h₁' => ?_) fun _ _ h' => h'.elim)
    refine wpAny_bind (wpAny_mono h₁' (fun _ s₂ h₂ => wpAny_bind (wpAny_mono h₂ (fun ok s₃ h₃ => ?_) fun _ _ h' => h'.elim)) fun _ _ h' => h'.elim)
    cases ok with
    | false => exact wpAny_pure ⟨rfl, h₃⟩
    | true =>
      exact wpAny_bind (wpAny_bind (wpAny_mono h₃ (fun x s₄ h₄ => wpAny_bind (wpAny_mono h₄ (fun _ s₅ h₅ => wpAny_pure (wpAny_pure ⟨rfl, h₅⟩)) fun _ _ h' => h'.elim)) fun _ _ h' => h'.elim))
end

/-! ### the cells that a block takes along -/
theorem closure_go {env : Env} {f : (Str × NameKind) → List (Str × Addr) → Sem (ForInStep (List (Str × Addr)))}
    (h1 : ∀ n k cs, k ≠ NameKind.free → f (n, k) cs = pure (.yield cs)) (h2 : ∀ n a cs, env.cells.lookup n = some a → f (n, .free) cs = pure (.yield ((n, a) :: cs))) :
    ∀ (names : List (Str × NameKind)) (acc : List (Str × Addr)), (∀ x ∈ names, x.2 = .free → ∃ c, env.cells.lookup x.1 = some c) → (∀ x c, acc.lookup x = some c → env.cells.lookup x = some c) →
      ∃ cl, forIn names acc f = pure cl ∧ (∀ x c, cl.lookup x = some c → env.cells.lookup x = some c ∧ ((∃ c', acc.lookup x = some c') ∨ (x, NameKind.free) ∈ names)) ∧
        ∀ x, ((∃ c, acc.lookup x = some c) ∨ (x, NameKind.free) ∈ names) → ∃ c, cl.lookup x = some c := by
  intro names
  induction names with
  | nil => exact fun acc _ ha => ⟨acc, rfl, fun x c e => ⟨ha x c e, .inl ⟨c, e⟩⟩, fun x hx => hx.elim (fun z => z) fun z => nomatch z⟩
  | cons y r ih =>
    intro acc hn ha
    obtain ⟨n, k⟩ := y
    have hr : ∀ x ∈ r, x.2 = .free → ∃ c, env.cells.lookup x.1 = some c := fun x hx => hn x (List.mem_cons_of_mem _ hx)
    by_cases hk : k = .free
    · subst hk
      obtain ⟨a, e⟩ := hn (n, .free) List.mem_cons_self rfl
      have e : env.cells.lookup n = some a := e
      have ha' : ∀ x c, ((n, a) :: acc).lookup x = some c → env.cells.lookup x = some c := fun x c q => by
        rw [List.lookup_cons] at q
        cases hx : x == n with
        | true => rw [hx] at q; cases q; rw [beq_iff_eq.mp hx]; exact e
        | false => rw [hx] at q; exact ha x c q
      obtain ⟨cl, e1, e2, e3⟩ := ih ((n, a) :: acc) hr ha'
      refine ⟨cl, ?_, fun x c q => ?_, fun x hx => ?_⟩
      · rw [List.forIn_cons, h2 n a acc e, pure_bind]
        exact e1
      · obtain ⟨q1, q2⟩ := e2 x c q
        refine ⟨q1, ?_⟩
        rcases q2 with ⟨c', q2⟩ | q2
        · rw [List.lookup_cons] at q2
          cases hx : x == n with
          | true => rw [beq_iff_eq.mp hx]; exact .inr List.mem_cons_self
          | false => rw [hx] at q2; exact .inl ⟨c', q2⟩
        · exact .inr (List.mem_cons_of_mem _ q2)
      · refine e3 x ?_
        rcases hx with ⟨c, hx⟩ | hx
        · refine .inl ?_
          rw [List.lookup_cons]
          cases x == n with
          | true => exact ⟨a, rfl⟩
          | false => exact ⟨c, hx⟩
        · rcases List.mem_cons.mp hx with z | z
          · cases z
            exact .inl ⟨a, by rw [List.lookup_cons, beq_self_eq_true]⟩
          · exact .inr z
    · obtain ⟨cl, e1, e2, e3⟩ := ih acc hr ha
      refine ⟨cl, ?_, fun x c q => ?_, fun x hx => ?_⟩
      · rw [List.forIn_cons, h1 n k acc hk, pure_bind]
        exact e1
      · obtain ⟨q1, q2⟩ := e2 x c q
        exact ⟨q1, q2.elim .inl fun z => .inr (List.mem_cons_of_mem _ z)⟩
      · refine e3 x ?_
        rcases hx with hx | hx
        · exact .inl hx
        · rcases List.mem_cons.mp hx with z | z
          · cases z; exact absurd rfl hk
          · exact .inr z
theorem closure_ok {scope : Scope} {env : Env} (h : ∀ x ∈ scope.names, x.2 = .free → ∃ c, env.cells.lookup x.1 = some c) :
    ∃ cl, closureFor scope env = pure cl ∧ (∀ x c, cl.lookup x = some c → env.cells.lookup x = some c ∧ (x, NameKind.free) ∈ scope.names) ∧ ∀ x, (x, NameKind.free) ∈ scope.names → ∃ c, cl.lookup x = some c := by
  obtain ⟨cl, e1, e2, e3⟩ := closure_go (env := env) (f := fun x cs => if (x.2 == NameKind.free) = true then do let a ← cellOf env x.1; pure (ForInStep.yield ((x.1, a) :: cs)) else pure (ForInStep.yield cs))
    (fun n k cs hk => by
      have : (k == NameKind.free) = false := by simpa using hk
      simp only [this, Bool.false_eq_true, if_false])
    (fun n a cs e => by
      simp only [beq_self_eq_true, if_true, cellOf, e, pure_bind])
    scope.names [] h (fun x c q => nomatch q)
  refine ⟨cl, ?_, fun x c q => ?_, fun x hx => e3 x (.inr hx)⟩
  · unfold closureFor
    first
      | (rw [show (forIn scope.names ([] : List (Str × Addr)) _ : Sem (List (Str × Addr))) = pure cl from e1]; rfl)
      | (simp only [e1, pure_bind]; done)
      | exact (congrArg (fun z => z >>= fun cs => pure cs) e1).trans (pure_bind _ _)
  · obtain ⟨q1, q2⟩ := e2 x c q
    exact ⟨q1, q2.elim (fun ⟨_, z⟩ => nomatch z) fun z => z⟩

theorem lookup_relabel_free {env : Env} : ∀ {names : List (Str × NameKind)} {x : Str}, names.lookup x = some .free →
    (names.map fun (n, k) => if (k == NameKind.free && env.scope.kind == .function && env.kindOf n == some .cell) then (n, NameKind.cell) else (n, k)).lookup x = some .cell ∨
    (names.map fun (n, k) => if (k == NameKind.free && env.scope.kind == .function && env.kindOf n == some .cell) then (n, NameKind.cell) else (n, k)).lookup x = some .free
  | [], _, h => by simp at h
  | (n, k) :: r, x, h => by
    have ih := @lookup_relabel_free env r x
    show List.lookup x ((if (k == NameKind.free && env.scope.kind == .function && env.kindOf n == some .cell) = true then (n, NameKind.cell) else (n, k)) :: _) = _ ∨
      List.lookup x ((if (k == NameKind.free && env.scope.kind == .function && env.kindOf n == some .cell) = true then (n, NameKind.cell) else (n, k)) :: _) = _
    cases hx : x == n with
    | true =>
      simp only [List.lookup_cons, hx] at h
      cases h
      by_cases hc : (NameKind.free == NameKind.free && env.scope.kind == .function && env.kindOf n == some .cell) = true
      · rw [if_pos hc]; exact .inl (by simp [List.lookup_cons, hx])
      · rw [if_neg hc]; exact .inr (by simp [List.lookup_cons, hx])
    | false =>
      simp only [List.lookup_cons, hx] at h
      by_cases hc : (k == NameKind.free && env.scope.kind == .function && env.kindOf n == some .cell) = true
      · rw [if_pos hc]; simp only [List.lookup_cons, hx]; exact ih h
      · rw [if_neg hc]; simp only [List.lookup_cons, hx]; exact ih h

/-! ### the block's context -/
noncomputable def compCx (X : Cx) (scope : Scope) (cl : List (Str × Addr)) (N : List Str) (ex : List Addr) (s : Shared) (H : Hp) : Cx where
  prog := X.prog
  w := X.w
  K := X.K
  mg := X.mg
  base := X.base
  A := X.A
  N := N
  s₀ := s
  H₀ := H
  env := compEnvC scope cl s.heap.objs.size X.env
  outer := X.stack
  stack := X.stack
  ex := ex
  fn := fun x => scope.names.lookup x == some .local
  calm := X.calm
  pn := []
  xe := fun _ _ => False
noncomputable def startC (js : List (Option Nat)) (σ : St) : St := js.map fun j => match j with
  | none => none
  | some j => (σ[j]?).join
structure CompOk (sc : Scope) (NX : List Str) (scope : Scope) (N : List Str) (js : List (Option Nat)) : Prop where
  kind : scope.kind = .function
  cell : ∀ x ∈ scope.names, x.2 ≠ .cell
  loc : ∀ x ∈ scope.names, x.2 = .local → scope.names.lookup x.1 = some .local
  free : ∀ x ∈ scope.names, x.2 = .free → scope.names.lookup x.1 = some .free ∧ (sc.names.lookup x.1 = some .cell ∨ sc.names.lookup x.1 = some .free)
  len : js.length = N.length
  at_ : ∀ p ∈ js.zip N, p.1 = none ∨ ∃ j ∈ List.range NX.length, p.1 = some j ∧ NX[j]? = some p.2 ∧ (p.2, NameKind.free) ∈ scope.names


section
variable {X : Cx} {pins : List (Addr × Obj)} {σ : St} {H : Hp} {s : Shared} {scope : Scope} {N : List Str} {js : List (Option Nat)} {cl : List (Str × Addr)} {ex : List Addr}
theorem inv_comp {h1 : Heap} {tk : Nat} (I : Inv X pins σ H s) (C : CompOk X.env.scope X.N scope N js) (c2 : ∀ x c, cl.lookup x = some c → X.env.cells.lookup x = some c ∧ (x, NameKind.free) ∈ scope.names)
    (c3 : ∀ x, (x, NameKind.free) ∈ scope.names → ∃ c, cl.lookup x = some c) (hex : ∀ b ∈ ex, FpOk X pins H b ∧ b < s.heap.objs.size)
    (hns : h1.Ns s.heap.objs.size fun _ => none) (hk : ∀ b o, s.heap.get? b = some o → h1.get? b = some o) : Inv (compCx X scope cl N ex s H) [] (startC js σ) H { s with heap := h1, toks := tk } := by
  have fr : ∀ x, (x, NameKind.free) ∈ scope.names → (relabel scope X.env).names.lookup x = some .cell ∨ (relabel scope X.env).names.lookup x = some .free := fun x hx => lookup_relabel_free (C.free _ hx rfl).1
  refine ⟨⟨I.ok.mod, C.kind, I.ok.glob, I.ok.blt, Nat.le_refl _, fun x y c e1 e2 => I.ok.inj x y c (c2 x c e1).1 (c2 y c e2).1, fun x hx => ?_, fun x c hf e => ?_, I.ok.hd, I.ok.frames, .inl rfl, fun b hb => ⟨Nat.ne_of_lt (hex b hb).2, fun x c e => (hex b hb).1.2.2.2.2.1 x c (c2 x c e).1⟩, I.bs, Nat.le_trans I.ok.bsz I.sz, fun b o e hb => ?_, fun b hb hf => ?_, I.stack, I.stkFree⟩,
    rfl, I.bare, Un.kept hk, ⟨fun _ => none, hns, fun i x v e1 e2 e3 => ?_⟩, fun x c e => ?_, I.hok.fresh (Nat.le_refl _), fun x c e => I.freeC x c (c2 x c e).1, fun p hp => absurd (show p ∈ ([] : List (Addr × Obj)) from hp) (by simp), I.hok.kept hk, ?_⟩
  · -- every cell name has its cell
    have hx : (relabel scope X.env).names.lookup x = some .cell ∨ (relabel scope X.env).names.lookup x = some .free := hx
    have hm : (x, NameKind.free) ∈ scope.names := by
      have key : ∀ k, (relabel scope X.env).names.lookup x = some k → k = .cell ∨ k = .free → (x, NameKind.free) ∈ scope.names := fun k hl hk => by
        have m := PySem.mem_of_lookup hl
        obtain ⟨⟨n, k'⟩, hm, e⟩ := List.mem_map.mp m
        dsimp only at e
        by_cases hc : (k' == NameKind.free && X.env.scope.kind == .function && X.env.kindOf n == some .cell) = true
        · rw [if_pos hc] at e
          cases e
          have : k' = .free := by
            simp only [Bool.and_eq_true, beq_iff_eq] at hc
            exact hc.1.1
          subst this
          exact hm
        · rw [if_neg hc] at e
          cases e
          rcases hk with z | z
          · exact absurd z (C.cell _ hm)
          · subst z; exact hm
      rcases hx with z | z
      · exact key _ z (.inl rfl)
      · exact key _ z (.inr rfl)
    exact c3 x hm
  · have hf : (scope.names.lookup x == some .local) = true := hf
    have e' := (C.free _ (c2 x c e).2 rfl).1
    rw [e'] at hf
    exact absurd hf (by decide)
  · obtain ⟨⟨_, _, _, hz, _, _⟩, hlt⟩ := hex b hb
    rcases hz with z | z
    · exact I.ok.noex b o e z
    · exact absurd (Nat.lt_of_lt_of_le (Nat.lt_of_lt_of_le (Heap.lt_size e) I.ok.bsz) z) (Nat.lt_irrefl _)
  · obtain ⟨⟨_, hL, hfs, _⟩, _⟩ := hex b hb
    rcases List.mem_cons.mp (I.stkSub b hf) with z | z
    · exact hL z
    · exact hfs z
  · -- the names
    unfold startC at e2
    rw [List.getElem?_map] at e2
    cases ej : js[i]? with
    | none => rw [ej] at e2; cases e2
    | some oj =>
      rw [ej] at e2
      cases oj with
      | none => cases e2
      | some j =>
        have e2' : (σ[j]?).join = some v := Option.some.inj e2
        have e2'' : σ[j]? = some (some v) := by
          cases q : σ[j]? with
          | none => rw [q] at e2'; cases e2'
          | some z => rw [q] at e2'; exact congrArg some e2'
        have e1 : N[i]? = some x := e1
        have hz : (some j, x) ∈ js.zip N := List.mem_iff_getElem?.mpr ⟨i, by rw [List.getElem?_zip_eq_some]; exact ⟨ej, e1⟩⟩
        obtain ⟨a1, a2⟩ : X.N[j]? = some x ∧ (x, NameKind.free) ∈ scope.names := by
          rcases C.at_ _ hz with q | ⟨j', _, q, a1, a2⟩
          · cases q
          · cases q
            exact ⟨a1, a2⟩
        have a1 : X.N[j]? = some x := a1
        have a2 : (x, NameKind.free) ∈ scope.names := a2
        obtain ⟨b1, b2⟩ := C.free _ a2 rfl
        have b2 : X.env.scope.names.lookup x = some .cell ∨ X.env.scope.names.lookup x = some .free := b2
        obtain ⟨m, _, hl⟩ := I.loc
        obtain ⟨u, r, l⟩ := hl j x v a1 e2'' (.inr b2)
        refine ⟨u, r, ?_⟩
        rcases l with ⟨k, _⟩ | ⟨_, c, hc, z⟩
        · have k : X.env.scope.names.lookup x = some .local := k
          rcases b2 with b2 | b2 <;> (rw [b2] at k; cases k)
        · obtain ⟨c', hc'⟩ := c3 x a2
          have := (c2 x c' hc').1
          rw [hc] at this
          cases this
          obtain ⟨o, ho, hd⟩ := z
          exact .inr ⟨fr x a2, c, hc', ⟨o, hk _ _ ho, hd⟩⟩
  · obtain ⟨v, o, ho, hd⟩ := I.cell x c (c2 x c e).1
    exact ⟨v, o, hk _ _ ho, hd⟩
  · show (startC js σ).length = N.length
    unfold startC
    rw [List.length_map]
    exact C.len
end

/-! ### the rule -/
noncomputable def PIf (X : Cx) (ifs : List Expr) (t : TT) : Prop :=
  ∀ (pins : List (Addr × Obj)) (s : Shared) (σ : St) (H : Hp) (Q : Bool → Hp → Prop), Inv X pins σ H s → t σ H Q →
    wpAny (model X.prog X.w) X.A (forIn ifs true fun c r => if r = true then do let ok ← isTrue c X.env (eval c X.env); pure (ForInStep.yield ok) else pure (ForInStep.yield r)) (TP X pins σ Q) X.xe s
noncomputable def tAll : TT := fun _ H Q => Q true H
theorem pif_none {X : Cx} : PIf X [] tAll := fun _ _ _ H _ I h => wpAny_tests_nil ⟨H, I, h⟩
theorem pif_one {X : Cx} {c : Expr} {t : TT} (h : PT X c t) : PIf X [c] t := fun pins s σ H Q I hw => wpAny_tests_one (h pins s σ H Q I hw)

noncomputable def CompRun (js : List (Option Nat)) (g : TG) (tc : TT) (te : TE) (σ : St) (Q : VK) (J : It) (H1 : Hp) (D : Addr) : Prop := ∃ W : Nat → Nat → St → Hp → Prop, (∃ m, W 0 m (startC js σ) (upd H1 D (.lst []))) ∧
  ∀ i m σ' H', W i m σ' H' → (J.stop i H' ∧ Q (.ref D) H') ∨ (J.go i H' ∧ ∃ N : St → Hp → Prop, (∀ σ2 H2, N σ2 H2 → ∃ m', m' < m ∧ W (i + 1) m' σ2 H2) ∧
    ∀ x H2, J.yld i H' x H2 → g x σ' H2 fun σ3 H3 => tc σ3 H3 fun ok H4 => if ok = true then te σ3 H4 fun y H5 => ∃ ys, H5 D = some (.lst ys) ∧ ys.length < sizeLine ∧ N σ3 (upd H5 D (.lst (ys ++ [y]))) else N σ3 H4)
noncomputable def tComp (js : List (Option Nat)) (wi : TI) (g : TG) (tc : TT) (te : TE) : TE := fun σ H Q => wi σ H fun J H1 => ∀ D, H1 D = none → CompRun js g tc te σ Q J H1 D

noncomputable def fsc (l : List (Str × NameKind)) : Scope := { kind := .function, names := l, isGenerator := false, isCoroutine := false, more := [] }
section
variable {X : Cx} {tg iter elt : Expr} {ifs : List Expr} {scope : Scope} {pos : Pos} {N : List Str} {js : List (Option Nat)} {wi : TI} {g : TG} {tc : TT} {te : TE}
theorem comp_run {cl : List (Str × Addr)} {pins : List (Addr × Obj)} {σ : St} {H : Hp} {s : Shared} {E : Value → Shared → Prop} {Q : VK} {RR : Value → Addr → Result → Shared → Prop} (hc : HandI X) (C : CompOk X.env.scope X.N scope N js)
    (c2 : ∀ x c, cl.lookup x = some c → X.env.cells.lookup x = some c ∧ (x, NameKind.free) ∈ scope.names) (c3 : ∀ x, (x, NameKind.free) ∈ scope.names → ∃ c, cl.lookup x = some c)
    (hb : ∀ cl ex s H, HandI (compCx X scope cl N ex s H) → PG (compCx X scope cl N ex s H) tg g ∧ PIf (compCx X scope cl N ex s H) ifs tc ∧ PE (compCx X scope cl N ex s H) elt te)
    {it : Addr} {fp : List Addr} {tn : Nat → Heap → Prop} {J : It} (I : Inv X pins σ H s) (T : Turn X.prog X.w X.K tg J fp it tn) (st : tn 0 s.heap) (f2 : ∀ b ∈ fp, FpOk X pins H b)
    (q : ∀ D, H D = none → CompRun js g tc te σ Q J H D)
    (hRR : ∀ D C' H' s', Q (.ref D) H' → (∃ m, s'.heap.Ns C' m) → H' C' = none → X.s₀.heap.objs.size ≤ C' → C' ≠ X.env.locals → (∀ x c, X.env.cells.lookup x = some c → c ≠ C') → (∀ p ∈ X.pn ++ pins, p.1 ≠ C') → Inv X pins σ H' s' → RR (.ref D) C' (.ok .next) s') :
    wpAny (model X.prog X.w) X.A (newList []) (fun acc s₃ => wpAny (model X.prog X.w) X.A (newFunctionEnv scope X.env.globals cl [] X.env.qual none .none (some X.env)) (fun cenv s₄ =>
      codeAny (model X.prog X.w) X.A (.compStart (.ListComp elt [⟨tg, iter, ifs, 0⟩] scope pos) 0 (.ref it) acc { cenv with scope := relabel scope X.env }) (RR acc cenv.locals) s₄) E s₃) E s := by
  have hD : H s.heap.objs.size = none := I.fresh
  have I3 : Inv X pins σ (upd H s.heap.objs.size (.lst [])) { s with heap := s.heap.push { cls := .type "list", data := .seq ([] : List Value).toArray } } := I.lnew (its := []) (ys := []) (t' := s.toks) .nil (Nat.zero_le _)
  refine wpAny_newObj_type (wpAny_newFunctionEnv C.cell (by intro y hy; simp at hy) (fun h₁ hns₁ hsb₁ => ?_) C.kind)
  dsimp only at hns₁ hsb₁ ⊢
  generalize hs3 : ({ s with heap := s.heap.push { cls := .type "list", data := .seq ([] : List Value).toArray } } : Shared) = s3 at I3
  have hh3 : s.heap.push { cls := .type "list", dict := none, data := .seq ([] : List Value).toArray } = s3.heap := by rw [← hs3]
  rw [hh3] at hns₁ hsb₁ ⊢
  have kp : ∀ b o, s3.heap.get? b = some o → h₁.get? b = some o := fun b o e => hsb₁.extBut b o (Nat.ne_of_lt (Heap.lt_size e)) (Heap.get?_push_of_some _ e)
  have hlt : ∀ b ∈ fp, b < s.heap.objs.size := fun b hb => by
    obtain ⟨o, e, _⟩ := T.obj 0 s.heap st b hb
    exact Heap.lt_size e
  have sz3 : s3.heap.objs.size = s.heap.objs.size + 1 := by rw [← hh3, Heap.size_push]
  have f3 : ∀ b ∈ fp, FpOk X pins (upd H s.heap.objs.size (.lst [])) b := fun b hb => by
    obtain ⟨h1, h2⟩ := f2 b hb
    exact ⟨by rw [upd_ne (Nat.ne_of_lt (hlt b hb))]; exact h1, h2⟩
  have IY : ∀ tk, Inv (compCx X scope cl N fp s3 (upd H s.heap.objs.size (.lst []))) [] (startC js σ) (upd H s.heap.objs.size (.lst [])) { s3 with heap := h₁, toks := tk } := fun tk =>
    inv_comp I3 C c2 c3 (fun b hb => ⟨f3 b hb, by rw [sz3]; exact Nat.lt_succ_of_lt (hlt b hb)⟩) hns₁ kp
  have st1 : tn 0 h₁ := T.keep 0 s.heap h₁ st fun b hb o e => kp b o (by rw [← hh3]; exact Heap.get?_push_of_some _ e)
  obtain ⟨W, ⟨m0, w0⟩, turn⟩ := q s.heap.objs.size hD
  have hcY : HandI (compCx X scope cl N fp s3 (upd H s.heap.objs.size (.lst []))) := hc.in_ I3 rfl rfl fun _ _ _ z => z
  have hbY := hb cl fp s3 (upd H s.heap.objs.size (.lst [])) hcY
  obtain ⟨hg, hif, he⟩ := hbY
  have stat : ∀ {H' : Hp}, (∀ b ∈ fp, H' b = none) → ∀ b ∈ fp, FpOk (compCx X scope cl N fp s3 (upd H s.heap.objs.size (.lst []))) [] H' b := fun hn b hb => by
    obtain ⟨_, hL, hfs, _, hcl, _⟩ := f2 b hb
    refine ⟨hn b hb, Nat.ne_of_lt (by show b < s3.heap.objs.size; rw [sz3]; exact Nat.lt_succ_of_lt (hlt b hb)), fun z => ?_, .inl hb, fun x c e => hcl x c (c2 x c e).1, fun p hp => absurd (show p ∈ ([] : List (Addr × Obj)) from hp) (by simp)⟩
    rcases List.mem_cons.mp (I.stkSub b z) with z | z
    · exact hL z
    · exact hfs z
  have loop : ∀ s4 : Shared, s4 = { s3 with heap := h₁, toks := s.toks + ([] : List (Str × Value)).length } →
      codeAny (model X.prog X.w) X.A (.compLoop (.ListComp elt [⟨tg, iter, ifs, 0⟩] scope pos) 0 (.ref it) (.ref s.heap.objs.size) (compEnvC scope cl s3.heap.objs.size X.env)) (RR (.ref s.heap.objs.size) s3.heap.objs.size) s4 := by
    rintro s4 rfl
    refine loop_comp (fun n s' => ∃ i σ' H', Inv (compCx X scope cl N fp s3 (upd H s.heap.objs.size (.lst []))) [] σ' H' s' ∧ tn i s'.heap ∧ (∀ b ∈ fp, H' b = none) ∧ W i n σ' H') ?_ m0
      ⟨0, _, _, IY _, st1, fun b hb => (f3 b hb).1, w0⟩
    rintro n s5 ⟨i, σ5, H5, I5, st5, fr5, w5⟩
    rcases turn i n σ5 H5 w5 with ⟨stop, qn⟩ | ⟨go, Nx, hN, step⟩
    · refine thn (T.done (compCx X scope cl N fp s3 (upd H s.heap.objs.size (.lst []))) rfl rfl rfl hcY i [] s5 σ5 H5 _ I5 (stat fr5) st5 stop) fun r s6 ⟨hr, I6⟩ => ?_
      subst hr
      obtain ⟨m, hn, _⟩ := I6.loc
      refine hRR _ _ H5 s6 qn ⟨m, hn⟩ I6.free (Nat.le_trans I3.sz (Nat.le_refl _)) (Nat.ne_of_gt I3.lt) (fun x c e z => ?_) (fun p hp z => ?_) (I3.call' I6.os I6.base I6.hok I6.bare fun b hb => ?_)
      · obtain ⟨v, o, ho, _⟩ := I3.cell x c e
        exact absurd (Heap.lt_size ho) (by rw [z]; exact Nat.lt_irrefl _)
      · exact absurd (Heap.lt_size (I3.pin p hp).1) (by rw [z]; exact Nat.lt_irrefl _)
      · obtain ⟨_, hL, _, hx, hcl, hp⟩ := f2 b hb
        exact ⟨hx, hL, hcl, hp⟩
    · refine thn (T.item (compCx X scope cl N fp s3 (upd H s.heap.objs.size (.lst []))) rfl rfl rfl hcY i [] s5 σ5 H5 _ I5 (stat fr5) st5 go) fun r s6 zz => L2.el3 zz fun u hr h6 => ?_
      subst hr
      refine thn h6 fun _ s7 zz => ?_
      obtain ⟨x, H7, I7, r7, y7, st7, fr7⟩ := zz
      have I7' := I7.pinned (stat fr7) (T.obj _ _ st7)
      refine thn (hg _ s7 σ5 H7 x u _ I7' r7 (step x H7 y7)) fun _ s8 zz => ?_
      obtain ⟨σ8, H8, I8, q8⟩ := zz
      refine thn (hif _ s8 σ8 H8 _ I8 q8) fun ok s9 zz => ?_
      obtain ⟨H9, I9, q9⟩ := zz
      have again : ∀ {s' : Shared} {σ' : St} {H' : Hp}, Inv (compCx X scope cl N fp s3 (upd H s.heap.objs.size (.lst []))) ([] ++ pinsAt fp s7.heap) σ' H' s' → Nx σ' H' →
          ∃ m, m < n ∧ ∃ i σ'' H'', Inv (compCx X scope cl N fp s3 (upd H s.heap.objs.size (.lst []))) [] σ'' H'' s' ∧ tn i s'.heap ∧ (∀ b ∈ fp, H'' b = none) ∧ W i m σ'' H'' := fun {s' σ' H'} I' n' => by
        obtain ⟨m', hm, w'⟩ := hN σ' H' n'
        refine ⟨m', hm, i + 1, σ', H', I'.unpinned, T.keep _ _ _ st7 fun b hb o e => (I'.pin (b, o) (List.mem_append_right _ (List.mem_append_right _ (mem_pinsAt hb e)))).1, fun b hb => ?_, w'⟩
        obtain ⟨o, e, d⟩ := T.obj _ _ st7 b hb
        exact (I'.pin (b, o) (List.mem_append_right _ (List.mem_append_right _ (mem_pinsAt hb e)))).2.1
      cases ok with
      | false => exact again I9 q9
      | true =>
        refine thn (he _ s9 σ8 H9 _ I9 q9) fun yv s10 zz => ?_
        obtain ⟨y, H10, I10, r10, ys, hDD, hlt', n10⟩ := zz
        refine thn (mt_append _ s10 σ8 H10 (.ref s.heap.objs.size) [y] (.ref s.heap.objs.size) [yv] (fun _ H' => Nx σ8 H') I10 rfl (.cons r10 .nil) ⟨_, ys, y, rfl, rfl, hDD, hlt', n10⟩) fun _ s11 zz => ?_
        obtain ⟨_, H11, I11, _, n11⟩ := zz
        exact again I11 n11
  have e4 : ({ s with heap := h₁, toks := s.toks + ([] : List (Str × Value)).length } : Shared) = { s3 with heap := h₁, toks := s.toks + ([] : List (Str × Value)).length } := by rw [← hs3]
  exact codeAny_compStart_list (loop _ e4) (T.self _ 0 _ _ _ st1 (loop _ e4))

theorem pe_compH (hc : HandI X) (hi : PI X tg iter wi) (C : CompOk X.env.scope X.N scope N js)
    (hb : ∀ cl ex s H, HandI (compCx X scope cl N ex s H) → PG (compCx X scope cl N ex s H) tg g ∧ PIf (compCx X scope cl N ex s H) ifs tc ∧ PE (compCx X scope cl N ex s H) elt te)
    (hs : ∀ x, foldedSetIterable iter X.env x = pure x := by intro _; rfl) : PE X (.ListComp elt [⟨tg, iter, ifs, 0⟩] scope pos) (tComp js wi g tc te) := by
  intro pins s σ H Q I h
  obtain ⟨cl, hcl, c2, c3⟩ := closure_ok (scope := scope) (env := X.env) fun x hx hf => I.ok.has x.1 (C.free x hx hf).2
  rw [eval_ListComp]
  refine wpAny_comprehension_free (use := none) rfl hs hcl C.kind C.loc (thn (hi pins s σ H _ I h) fun xv s₁ h₁ => thn h₁ fun itv s₂ h₂ => ?_)
  obtain ⟨it, fp, tn, J, H2, rfl, I2, T, st2, f2, q⟩ := h₂
  refine comp_run (RR := fun acc C' => compPost (model X.prog X.w) X.A X.xe none (EP X pins σ Q) acc C') hc C c2 c3 hb I2 T st2 f2 q ?_
  intro D C' H' s' hq hns hfr hsz hL hcl' hpin I'
  obtain ⟨m, hn⟩ := hns
  refine ⟨m, hn, fun h' sb => ⟨.ref D, H', ?_, rfl, hq⟩⟩
  exact I'.turned (t' := s'.toks) (fun b o hb e => (sb.2 b hb).trans e) hfr (Ne.symm (Ne.symm hL)) (.inr hsz) hcl' hpin

theorem pe_comp (hc : X.calm = true) (hi : PI X tg iter wi) (C : CompOk X.env.scope X.N scope N js)
    (hb : ∀ cl ex s H, PG (compCx X scope cl N ex s H) tg g ∧ PIf (compCx X scope cl N ex s H) ifs tc ∧ PE (compCx X scope cl N ex s H) elt te)
    (hs : ∀ x, foldedSetIterable iter X.env x = pure x := by intro _; rfl) : PE X (.ListComp elt [⟨tg, iter, ifs, 0⟩] scope pos) (tComp js wi g tc te) := pe_compH (.inl hc) hi C (fun cl ex s H _ => hb cl ex s H) hs
theorem ps_setCH {i : Nat} {y : Str} {py spos : Pos} (hN : X.N.Nodup) (hi' : X.N[i]? = some y) (hy : X.env.scope.names.lookup y = some .local) (hc : HandI X) (hi : PI X tg iter wi) (C : CompOk X.env.scope X.N scope N js)
    (hb : ∀ cl ex s H, HandI (compCx X scope cl N ex s H) → PG (compCx X scope cl N ex s H) tg g ∧ PIf (compCx X scope cl N ex s H) ifs tc ∧ PE (compCx X scope cl N ex s H) elt te)
    (hsw : swapsWith (.ListComp elt [⟨tg, iter, ifs, 0⟩] scope pos) (some (.Name y py)) spos.line X.env = pure true := by rfl)
    (hs : ∀ x, foldedSetIterable iter X.env x = pure x := by intro _; rfl) : PS X (.Assign [.Name y py] (.ListComp elt [⟨tg, iter, ifs, 0⟩] scope pos) spos) (tAsg (tComp js wi g tc te) (gName i)) := by
  intro pins s σ H D I h
  obtain ⟨cl, hcl, c2, c3⟩ := closure_ok (scope := scope) (env := X.env) fun x hx hf => I.ok.has x.1 (C.free x hx hf).2
  rw [exec_Assign_Name_used _ _ _ _ hsw]
  refine wpAny_bind (wpAny_standAt (wpAny_bind ?_))
  show wpAny _ X.A (do let _ ← comprehension (.ListComp elt [⟨tg, iter, ifs, 0⟩] scope pos) scope X.env _ (newList []) false (eval iter X.env) (some (assign (.Name y py) X.env))) _ _ s
  refine wpAny_bind (wpAny_mono (wpAny_comprehension_free (use := some (assign (.Name y py) X.env)) (Q := fun _ s' => SP X pins D .next s') rfl hs hcl C.kind C.loc (thn (hi pins s σ H _ I h) fun xv s₁ h₁ => thn h₁ fun itv s₂ h₂ => ?_))
    (fun _ s' hq => wpAny_pure (wpAny_pure hq)) fun _ _ e => e)
  obtain ⟨it, fp, tn, J, H2, rfl, I2, T, st2, f2, q⟩ := h₂
  refine comp_run (Q := fun x H1 => gName i x σ H1 D.nx) (RR := fun acc C' => compPost (model X.prog X.w) X.A X.xe (some (assign (.Name y py) X.env)) (fun _ s' => SP X pins D .next s') acc C') hc C c2 c3 hb I2 T st2 f2 q ?_
  intro Da C' H' s' hq hns hfr hsz hL hcl' hpin I'
  obtain ⟨m, hn⟩ := hns
  show wpAny _ X.A (assign (.Name y py) X.env (.ref Da)) _ _ _
  refine wpAny_assign_Name (store_ok2 I' hN hi' (.inl hy) (v := .ref Da) rfl (fun s2 I2 hx => ?_) (.inr hy))
  obtain ⟨a, sba, ha⟩ := hx
  have hne : C' ≠ a := by
    rcases ha with z | z
    · rw [z]; exact hL
    · exact fun e => hcl' y a z e.symm
  refine ⟨m, hn.sameBut sba hne, fun h' sb => ⟨_, H', ?_, hq⟩⟩
  exact I2.turned (t' := s2.toks) (fun b o hb e => (sb.2 b hb).trans e) hfr hL (.inr hsz) hcl' hpin
theorem ps_setC {i : Nat} {y : Str} {py spos : Pos} (hN : X.N.Nodup) (hi' : X.N[i]? = some y) (hy : X.env.scope.names.lookup y = some .local) (hc : X.calm = true) (hi : PI X tg iter wi) (C : CompOk X.env.scope X.N scope N js)
    (hb : ∀ cl ex s H, PG (compCx X scope cl N ex s H) tg g ∧ PIf (compCx X scope cl N ex s H) ifs tc ∧ PE (compCx X scope cl N ex s H) elt te)
    (hsw : swapsWith (.ListComp elt [⟨tg, iter, ifs, 0⟩] scope pos) (some (.Name y py)) spos.line X.env = pure true := by rfl)
    (hs : ∀ x, foldedSetIterable iter X.env x = pure x := by intro _; rfl) : PS X (.Assign [.Name y py] (.ListComp elt [⟨tg, iter, ifs, 0⟩] scope pos) spos) (tAsg (tComp js wi g tc te) (gName i)) := ps_setCH hN hi' hy (.inl hc) hi C (fun cl ex s H _ => hb cl ex s H) hsw hs
end

/-! ### the forms one uses -/
section
variable {g : TG} {tc : TT} {te : TE} {js : List (Option Nat)} {σ : St} {H : Hp} {Q : VK} {D : Addr}
theorem comp_range {lo : Int} {n : Nat} (Pv : Nat → St → Hp → Prop) (h0 : Pv 0 (startC js σ) (upd H D (.lst [])))
    (hs : ∀ i σ' H', i < n → Pv i σ' H' → g (.int (lo + i)) σ' H' fun σ3 H3 => tc σ3 H3 fun ok H4 => if ok = true then te σ3 H4 fun y H5 => ∃ ys, H5 D = some (.lst ys) ∧ ys.length < sizeLine ∧ Pv (i + 1) σ3 (upd H5 D (.lst (ys ++ [y]))) else Pv (i + 1) σ3 H4)
    (hd : ∀ σ' H', Pv n σ' H' → Q (.ref D) H') :
    CompRun js g tc te σ Q (Itr lo n) H D := by
  refine ⟨fun i m σ H => m = n - i ∧ i ≤ n ∧ Pv i σ H, ⟨n, by simp, Nat.zero_le _, h0⟩, ?_⟩
  rintro i m σ' H' ⟨rfl, hi, p⟩
  by_cases hlt : i < n
  · refine .inr ⟨hlt, Pv (i + 1), fun σ2 H2 p' => ⟨n - (i + 1), by omega, rfl, hlt, p'⟩, fun x H2 y => ?_⟩
    obtain ⟨e, y⟩ := y
    subst e y
    exact hs i σ' _ hlt p
  · have e : i = n := by omega
    subst e
    exact .inl ⟨Nat.le_refl _, hd σ' H' p⟩
theorem comp_list {K : PySem.W.Frag} {a : Addr} {xs : List V} (Pv : Nat → St → Hp → Prop) (h0 : Pv 0 (startC js σ) (upd H D (.lst []))) (hl : ∀ i σ' H', i ≤ xs.length → Pv i σ' H' → SqL K H' a xs)
    (hs : ∀ i x σ' H', xs[i]? = some x → Pv i σ' H' → g x σ' H' fun σ3 H3 => tc σ3 H3 fun ok H4 => if ok = true then te σ3 H4 fun y H5 => ∃ ys, H5 D = some (.lst ys) ∧ ys.length < sizeLine ∧ Pv (i + 1) σ3 (upd H5 D (.lst (ys ++ [y]))) else Pv (i + 1) σ3 H4)
    (hd : ∀ σ' H', Pv xs.length σ' H' → Q (.ref D) H') :
    CompRun js g tc te σ Q (Itl K a) H D := by
  refine ⟨fun i m σ H => m = xs.length - i ∧ i ≤ xs.length ∧ Pv i σ H, ⟨xs.length, by simp, Nat.zero_le _, h0⟩, ?_⟩
  rintro i m σ' H' ⟨rfl, hi, p⟩
  have q := hl i σ' H' hi p
  by_cases hlt : i < xs.length
  · refine .inr ⟨⟨xs, xs[i], q, by simp [hlt]⟩, Pv (i + 1), fun σ2 H2 p' => ⟨xs.length - (i + 1), by omega, rfl, hlt, p'⟩, fun x H2 y => ?_⟩
    obtain ⟨e, y⟩ := y
    subst e
    exact hs i x σ' _ (y xs q) p
  · have e : i = xs.length := by omega
    subst e
    exact .inl ⟨⟨xs, q, Nat.le_refl _⟩, hd σ' H' p⟩
end
end L2

set_option Elab.async false
set_option linter.all false
set_option maxRecDepth 100000
set_option maxHeartbeats 1000000
/-! Own exceptions below ValueError, with an __init__ of their own: made, raised, passed on, caught. -/
namespace L2
open PySem PySem.Spec PyProof.Rows

noncomputable abbrev bmV : List Value := [.type "ValueError", .type "Exception", .type "BaseException", .type "object"]
noncomputable def excE (a C : Addr) (dx : Option Addr) : HO := .ext fun h => ∃ t : Addr, h.get? a = some (excRec C dx (.ref t) .none)
noncomputable def excD (d : Addr) (fs : List (Str × V)) : HO := .ext fun h => ∃ mA, h.Ns1 d mA ∧ (∀ f, RelO (fs.lookup f) (mA f)) ∧ PySem.Within mA (fs.map (·.1))
section
variable {P : Program} {w : World} {H : Hp} {h : Heap} {a d C : Addr} {dx : Option Addr} {t : Addr} {fs : List (Str × V)}
theorem excE_ok (e : h.get? a = some (excRec C dx (.ref t) .none)) : ObjOk P w H h a (excE a C dx) := ⟨⟨t, e⟩, ⟨_, e⟩, fun _ _ ⟨t', e'⟩ k => ⟨t', k _ e'⟩⟩
theorem excE_at (ok : HOk P w H h) (e : H a = some (excE a C dx)) : ∃ t : Addr, h.get? a = some (excRec C dx (.ref t) .none) := (ok a _ e).1
theorem excD_ok {mA : Str → Option Value} (n : h.Ns1 d mA) (r : ∀ f, RelO (fs.lookup f) (mA f)) (wi : PySem.Within mA (fs.map (·.1))) : ObjOk P w H h d (excD d fs) := by
  refine ⟨⟨mA, n, r, wi⟩, ?_, fun h1 h2 ⟨m, n1, r1, w1⟩ k => ⟨m, n1.at k, r1, w1⟩⟩
  obtain ⟨o, _, _, e, _⟩ := n
  exact ⟨o, e⟩
theorem excD_at (ok : HOk P w H h) (e : H d = some (excD d fs)) : ∃ mA, h.Ns1 d mA ∧ (∀ f, RelO (fs.lookup f) (mA f)) ∧ PySem.Within mA (fs.map (·.1)) := (ok d _ e).1
theorem upd_id {o : HO} (e : H a = some o) : upd H a o = H := by
  funext b
  by_cases hb : b = a
  · rw [hb, upd_same, e]
  · rw [upd_ne hb]
end

theorem Inv.tracked_new {X : Cx} {pins : List (Addr × Obj)} {σ : St} {H : Hp} {s : Shared} {h' : Heap} {a : Addr} {o : HO} {t' : Nat} (I : Inv X pins σ H s) (kp : ∀ b u, b ≠ a → s.heap.get? b = some u → h'.get? b = some u) (hf : H a = none)
    (hs : X.s₀.heap.objs.size ≤ a) (hL : a ≠ X.env.locals) (hc : ∀ x c, X.env.cells.lookup x = some c → c ≠ a) (hp : ∀ p ∈ X.pn ++ pins, p.1 ≠ a) (new : ObjOk X.prog X.w (upd H a o) h' a o) : Inv X pins σ (upd H a o) { s with heap := h', toks := t' } := by
  have na : ∀ b u, H b = some u → b ≠ a := fun b u e => ne_of_none e hf
  refine I.step (g' := s.gens) (d' := s.drawn) (ch := [a]) (fun b hb => ?_) (fun b u _ _ hb e _ => kp b u (fun z => hb (by simp [z])) e) (fun b u _ _ hb e _ => ⟨u.slots, kp b u (fun z => hb (by simp [z])) e⟩) (fun b u hb _ n => by rw [upd_ne fun z => hb (by simp [z])]; exact n)
    (fun b u hb e => ⟨u, kp b u (fun z => hb (by simp [z])) e⟩) (fun b xs e => by rw [upd_ne (na b _ e)]; exact e) (fun b u xs e => by rw [upd_ne (na b _ e)]; exact e) (fun b ps e => ⟨#[], by rw [upd_ne (na b _ e), e]; simp⟩) (fun m hm => ?_) (fun b u e => ?_) I.bare
  · have e : b = a := by simpa using hb
    subst e
    exact ⟨.inr hs, hL, hc, hp⟩
  · obtain ⟨ob, es, ep, ho, r⟩ := hm
    exact ⟨ob, es, ep, kp _ ob (Ne.symm hL) ho, r⟩
  · by_cases hb : b = a
    · subst hb
      rw [upd_same] at e
      cases e
      exact new
    · rw [upd_ne hb] at e
      refine (I.hok b u e).stay (fun c v hc' q => kp c v ?_ q) (fun c q => by rw [upd_ne (na c _ q)]; exact q) fun c xs q => by rw [upd_ne (na c _ q)]; exact q
      rcases hc' with z | z
      · rw [z]; exact hb
      · exact na c _ z

/-! ### what of the text such a class must have -/
structure ExcC (K : PySem.W.Frag) (C M fI : Addr) : Prop where
  obj : ∃ (nm q : Str) (N : Addr) (bs : List Value) (sn : List Str) (sub : List Value) (ab : Bool) (col : Option Bool) (dd : Option Addr) (k0 k1 k2 k3 k5 : Option Value),
    K.lookup C = some (excClassObj nm q C N bs (.ref M :: bmV) true sn sub ab col dd k0 k1 k2 k3 k5 "ValueError.__new__") ∧ PySem.W.nsOkIn K N = true ∧ PySem.W.nsIn K N "__init__" = some (some (.ref fI))
  tail : PySem.W.tailIn K bmV (.ref M :: bmV) = true
  fn : PySem.W.isFn K (.ref fI) = true
  kp : PySem.W.keepIn K (.ref C) = true
  sa : PySem.W.findIn K (.ref C) "__setattr__" = some (some (.builtin "object.__setattr__"))
theorem ns_some_in {K : PySem.W.Frag} {h : Heap} {N : Addr} {m : Str → Option Value} {n : Str} {v : Value} (X : K.In h) (G : h.Ns N m) (e : PySem.W.nsIn K N n = some (some v)) : m n = some v := by
  obtain ⟨o, es, ep, ho, hd, _, hf⟩ := G
  unfold PySem.W.nsIn at e
  split at e
  · rename_i c d es' n' sl q
    have z := X _ _ q
    rw [ho] at z
    cases z
    cases hd
    split at e
    · rename_i en he
      cases e
      rw [← hf]
      unfold nsFind findBy
      rw [← Array.find?_toList, he]
      rfl
    · split at e <;> cases e
  · cases e

/-! ### made -/
section
variable {prog : Program} {w : World} {A : Around} {E : Value → Shared → Prop} {h : Heap} {g : Array GenState} {d : Drawn} {t : Nat} {os : OsState}
variable {nm q : Str} {C N : Addr} {bs bm : List Value} {hdct : Bool} {sn : List Str} {sub : List Value} {ab : Bool} {col : Option Bool} {dd : Option Addr} {k0 k1 k2 k3 k5 : Option Value}
theorem type_call_own {mN : Str → Option Value} {args : List Value} {fI : Addr} {oI : Obj} {Q : Fin → Shared → Prop} (T : OwnTail h bmV bm)
    (hC : h.get? C = some (excClassObj nm q C N bs bm hdct sn sub ab col dd k0 k1 k2 k3 k5 "ValueError.__new__")) (hn : h.Ns N mN) (hi : mN "__init__" = some (.ref fI)) (hfI : h.get? fI = some oI) (hfc : oI.cls = .type "function")
    (hq : wpAny (model prog w) A (call (.ref fI) (.ref (h.objs.size + 1) :: args)) (fun r s' => r = .none ∧ Q (.done (.ret (.ref (h.objs.size + 1)))) s') E
      ⟨(h.push { cls := .type "tuple", data := .seq args.toArray }).push (excRec C none (.ref h.objs.size) .none), g, d, t, os⟩) (hz : args.length ≤ sizeLine) :
    wpAny (model prog w) A (Builtin.«type.__call__» ⟨.ref C :: args, []⟩) Q E ⟨h, g, d, t, os⟩ := by
  have F := PySem.F.excBase_ValueError
  repeat (first | with_reducible refine wpAny_loadPart_at hC ?_ | with_reducible refine wpAny_madeBy_exc hC ?_ | wp_step)
  refine codeAny_call_builtin_code (Code.quiet_builtin _ F.quiet) (wpAny_check_new_subT F T hC ?_)
  refine codeAny_exc_new_subT F T hC ?_ hz
  show wpAny _ _ _ _ _ _
  have kp : ∀ b o, h.get? b = some o → ((h.push { cls := .type "tuple", data := .seq args.toArray }).push (excRec C none (.ref h.objs.size) .none)).get? b = some o :=
    fun b o e => Heap.get?_push_of_some _ (Heap.get?_push_of_some _ e)
  have hC1 := kp _ _ hC
  have hfI1 := kp _ _ hfI
  have hn1 : ((h.push { cls := .type "tuple", data := .seq args.toArray }).push (excRec C none (.ref h.objs.size) .none)).Ns N mN := hn.keeps kp
  have hget : ((h.push { cls := .type "tuple", data := .seq args.toArray }).push (excRec C none (.ref h.objs.size) .none)).get? (h.objs.size + 1) = some (excRec C none (.ref h.objs.size) .none) := by heap_get
  have hcC : (Value.ref C :: bm).contains (.ref C) = true := by simp
  have T1 := T.keeps kp
  unfold isInstance
  repeat (first | with_reducible refine wpAny_loadPart_at hget ?_ | (with_reducible refine wpAny_isSubtype_exc hC1 ?_; rw [hcC]) | wp_step)
  show wpAny _ _ (typeLookup (.ref C) _) _ _ _
  refine wpAny_typeLookup_tail hC1 hn1 T1 F.mroIs F.init.lookup ?_
  rw [hi]
  refine wpAny_holding (wpAny_bind ?_)
  unfold bindSpecial
  refine wpAny_bind (wpAny_typeOf (T := "function") ⟨_, hfI1, hfc⟩ ?_)
  rw [if_pos (by decide)]
  refine wpAny_pure (wpAny_bind (wpAny_mono hq (fun r s' hr => ?_) fun _ _ x => x))
  obtain ⟨rfl, hQ⟩ := hr
  wp_walk
  exact hQ
theorem call_own {mN : Str → Option Value} {args : List Value} {fI : Addr} {oI : Obj} {Q : Value → Shared → Prop} (T : OwnTail h bmV bm)
    (hC : h.get? C = some (excClassObj nm q C N bs bm hdct sn sub ab col dd k0 k1 k2 k3 k5 "ValueError.__new__")) (hn : h.Ns N mN) (hi : mN "__init__" = some (.ref fI)) (hfI : h.get? fI = some oI) (hfc : oI.cls = .type "function")
    (hq : wpAny (model prog w) (A.under (.builtin "type.__call__" ⟨.ref C :: args, []⟩)) (call (.ref fI) (.ref (h.objs.size + 1) :: args)) (fun r s' => r = .none ∧ Q (.ref (h.objs.size + 1)) s') E
      ⟨(h.push { cls := .type "tuple", data := .seq args.toArray }).push (excRec C none (.ref h.objs.size) .none), g, d, t, os⟩) (hz : args.length ≤ sizeLine) :
    wpAny (model prog w) A (call (.ref C) args) Q E ⟨h, g, d, t, os⟩ := by
  have f1 := tc_lookup
  have f2 := tc_bind (.ref C)
  have hT : (⟨h, g, d, t, os⟩ : Shared).TypeIs (.ref C) "type" := ⟨_, hC, rfl⟩
  refine wpAny_call (codeAny_of_tree ?_)
  show wpAny _ _ (callAny (.ref C) _) _ _ _
  repeat (any_goals (first | assumption | with_reducible refine wpAny_loadPart_at hC ?_ | wp_step))
  refine ⟨rfl, ?_⟩
  refine codeAny_call_builtin_at (Code.quiet_builtin _ (by decide +kernel)) entry_typeCall (wpAny_check_type_call_sub hC (type_call_own T hC hn hi hfI hfc ?_ hz))
  exact hq
end

noncomputable def tMakeE (C : Addr) (sp : Sp) (E : XK) (t : TA) : TE := fun σ H Q => t σ H fun vs H1 => vs.length ≤ sizeLine ∧ ∀ x, H1 x = none → sp (.ref x :: vs) (upd H1 x (excE x C none)) (fun v H2 => v = .non ∧ Q (.ref x) H2) E
section
variable {X : Cx} {CX : CXT} {k : Nat} {f C Mo : Addr} {fd : FuncData} {ps : List Str} {sp : Sp} {E : XK} {x : Str} {p pos : Pos} {e : Expr} {es : List Expr} {t : TA}
theorem run_makeE {pins : List (Addr × Obj)} {σ : St} {H : Hp} {s : Shared} {Q : VK} {us : List Value} {vs : List V} (M : ExcC X.K C Mo f) (F : FnOk X.prog X.w X.K X.mg X.base CX k f fd ps sp) (hr : Room (k + 1) X.A) (hb : Binds X.K fd ps [])
    (hx : Passes CX X E) (I : Inv X pins σ H s) (r : Vals vs us) (hz : vs.length ≤ sizeLine)
    (hq : ∀ x, H x = none → sp (.ref x :: vs) (upd H x (excE x C none)) (fun v H2 => v = .non ∧ Q (.ref x) H2) E) : wpAny (model X.prog X.w) X.A (call (.ref C) us) (EP X pins σ Q) X.xe s := by
  obtain ⟨nm, q, N, bs, sn, sub, ab, col, dd, k0, k1, k2, k3, k5, lk, nok, ini⟩ := M.obj
  have hK := I.kIn
  have hC := hK _ _ lk
  have T := PySem.W.tail_of_in hK M.tail
  have hns : s.heap.Ns N (s.heap.nsMap N) := .of_isNs (PySem.W.isNs_of_in hK nok)
  have hin := ns_some_in hK hns ini
  have hlf : ∃ oI, s.heap.get? f = some oI ∧ oI.cls = .type "function" := by
    have ty : PySem.W.typeIn X.K (.ref f) = some (.type "function") := beq_iff_eq.mp M.fn
    unfold PySem.W.typeIn at ty
    cases hl : X.K.lookup f with
    | none => simp [hl] at ty
    | some o => exact ⟨o, hK _ _ hl, by simpa [hl] using ty⟩
  obtain ⟨oI, hfI, hfc⟩ := hlf
  have h1 := hq (s.heap.objs.size + 1) (I.hok.fresh (Nat.le_succ _))
  have kp : ∀ b o, s.heap.get? b = some o → ((s.heap.push { cls := .type "tuple", data := .seq us.toArray }).push (excRec C none (.ref s.heap.objs.size) .none)).get? b = some o :=
    fun b o e => Heap.get?_push_of_some _ (Heap.get?_push_of_some _ e)
  have hget : ((s.heap.push { cls := .type "tuple", data := .seq us.toArray }).push (excRec C none (.ref s.heap.objs.size) .none)).get? (s.heap.objs.size + 1) = some (excRec C none (.ref s.heap.objs.size) .none) := by
    have z := Heap.get?_push_size (s.heap.push { cls := .type "tuple", data := .seq us.toArray }) (o := excRec C none (.ref s.heap.objs.size) .none) rfl
    rwa [Heap.size_push] at z
  have I2 : Inv X pins σ (upd H (s.heap.objs.size + 1) (excE (s.heap.objs.size + 1) C none)) { s with heap := (s.heap.push { cls := .type "tuple", data := .seq us.toArray }).push (excRec C none (.ref s.heap.objs.size) .none) } :=
    I.laid (t' := s.toks) kp (Nat.le_succ _) (excE_ok hget)
  have r2 : Vals (V.ref (s.heap.objs.size + 1) :: vs) (Value.ref (s.heap.objs.size + 1) :: us) := .cons rfl r
  have hl : (Value.ref (s.heap.objs.size + 1) :: us).length = ps.length := by rw [← r2.length]; exact F.len _ _ _ _ h1
  have hb2 := hb { s with heap := (s.heap.push { cls := .type "tuple", data := .seq us.toArray }).push (excRec C none (.ref s.heap.objs.size) .none) } (Value.ref (s.heap.objs.size + 1) :: us) I2.kIn (by simpa using hl)
  rw [List.append_nil] at hb2
  obtain ⟨hh, gg, dd', tt, oo⟩ := s
  refine call_own T hC hns hin hfI hfc ?_ (by rw [← r.length]; exact hz)
  refine wpAny_call (codeAny_mono (F.run _ X.stack _ _ ⟨Value.ref (hh.objs.size + 1) :: us, []⟩ (Value.ref (hh.objs.size + 1) :: us) _ _ E (hr.make C us []) (I2.env0.make C us []) hb2 r2 h1) fun r s' hq' => ?_)
  cases r with
  | error e => exact hx pins σ _ _ e s' I2 hq'
  | ok fl =>
    cases fl with
    | ret u =>
      obtain ⟨v, H', I3, rv, ev, q3⟩ := I2.after hq'
      subst ev
      exact ⟨rv, ⟨V.ref (hh.objs.size + 1), H', I3, rfl, q3⟩⟩
    | next => exact False.elim hq'
    | brk => exact False.elim hq'
    | cont => exact False.elim hq'
theorem pe_makeE (M : ExcC X.K C Mo f) (F : FnOk X.prog X.w X.K X.mg X.base CX k f fd ps sp) (hr : Room (k + 1) X.A) (hg : Gl X x) (hm : X.mg x = some (.ref C)) (hb : Binds X.K fd ps []) (hx : Passes CX X E)
    (ha : PA X (e :: es) t) (hdb : (x == ("__debug__" : Str)) = false := by decide) (he : starEach (e :: es) X.env = (false, eval e X.env) :: starEach es X.env := by rfl) (hpl : (backTo pos (starEach es X.env)).any (·.1) = false := by rfl) :
    PE X (.Call (.Name x p) (e :: es) [] pos) (tMakeE C sp E t) := by
  intro pins s σ H Q I h
  refine wpAny_Call_Name_kw (ld_glob I hg hm ?_ hdb)
  refine PySem.W.callWith_K (h₀ := X.base) I.ok.mod.kin M.kp (thn (ha pos pins s σ H _ I h) fun us s1 zz => ?_) he hpl
  obtain ⟨vs, H1, I1, r, z, q⟩ := zz
  refine ⟨I1.kIn, ?_⟩
  exact run_makeE M F hr hb hx I1 r z q
end

/-! ### Base.__init__(self, ..) -/
theorem base_init {X : Cx} {A : Around} {E : Value → Shared → Prop} {C Mo f x : Addr} {dx : Option Addr} {pins : List (Addr × Obj)} {σ : St} {H : Hp} {s : Shared} {Q : Value → Shared → Prop} {us : List Value} (I : Inv X pins σ H s) (M : ExcC X.K C Mo f)
    (hH : H x = some (excE x C dx)) (hz : us.length ≤ sizeLine) (hq : ∀ s', Inv X pins σ H s' → Q .none s') : wpAny (model X.prog X.w) A (call (.builtin "ValueError.__init__") (.ref x :: us)) Q E s := by
  obtain ⟨nm, q, N, bs, sn, sub, ab, col, dd, k0, k1, k2, k3, k5, lk, nok, ini⟩ := M.obj
  have hK := I.kIn
  have hC := hK _ _ lk
  have T := PySem.W.tail_of_in hK M.tail
  have F := PySem.F.excBase_ValueError
  obtain ⟨t, hget⟩ := excE_at I.hok hH
  have fin : ∀ (v : Addr) (tk : Nat), Inv X pins σ H { s with heap := (s.heap.push { cls := .type "tuple", data := .seq us.toArray }).update x (Obj.mapFields (·.setIfInBounds 0 (.ref v))), toks := tk } := fun v tk => by
    have e1 : (s.heap.push { cls := .type "tuple", data := .seq us.toArray }).get? x = some (excRec C dx (.ref t) .none) := Heap.get?_push_of_some _ hget
    have e2 : ((s.heap.push { cls := .type "tuple", data := .seq us.toArray }).update x (Obj.mapFields (·.setIfInBounds 0 (.ref v)))).get? x = some (excRec C dx (.ref v) .none) := Heap.get?_update_self _ e1 rfl
    have z := I.write (x := x) (e := x) (o := excE x C dx) (h' := (s.heap.push { cls := .type "tuple", data := .seq us.toArray }).update x (Obj.mapFields (·.setIfInBounds 0 (.ref v)))) (t' := tk) (by rw [hH]; exact True.intro) (.inl rfl)
      (fun b u hb e => (Heap.get?_update_other _ _ (Ne.symm hb)).trans (Heap.get?_push_of_some _ e)) ⟨_, e2⟩ (excE_ok e2)
    rwa [upd_id hH] at z
  obtain ⟨hh, gg, dd', tt, oo⟩ := s
  refine wpAny_call (codeAny_call_builtin F.init.plain F.initEntry (wpAny_check_init_subT F T hC hget rfl ?_))
  wp_walk
  exact hq _ (fin _ _)
end L2

set_option Elab.async false
set_option linter.all false
set_option maxRecDepth 100000
set_option maxHeartbeats 1000000
namespace L2
open PySem PySem.Spec PyProof.Rows Builtin Builtin.ObjectAttr

/-! ### Base.__init__(self, ..) as an expression -/
structure BaseK (K : PySem.W.Frag) (Mo : Addr) : Prop where
  ty : PySem.W.typeIn K (.ref Mo) = some (.type "type")
  ga : PySem.W.specialIn K (.ref Mo) "__getattribute__" = some (some (.builtin "type.__getattribute__"))
  gt : PySem.W.findIn K (.type "type") "__getattribute__" = some (some (.builtin "type.__getattribute__"))
  op : PySem.W.nsIn K cStatics "thirdparty.any" = some none
  fc : PySem.W.findCls K (.ref Mo) (.type "type") "__init__" = some (.val (.builtin "ValueError.__init__"))
  si : PySem.W.subIn K (.type "type") (.type "type") = some true
noncomputable def tBase (K : PySem.W.Frag) (t : TA) : TE := fun σ H Q => t σ H fun vs H1 => ∃ x rest C Mo f dx, vs = .ref x :: rest ∧ H1 x = some (excE x C dx) ∧ ExcC K C Mo f ∧ rest.length ≤ sizeLine ∧ Q .non H1
theorem pe_base {X : Cx} {pl : Sem Bool} {x : Str} {p apos pos : Pos} {e : Expr} {es : List Expr} {t : TA} {Mo : Addr} (B : BaseK X.K Mo) (hg : Gl X x) (hm : X.mg x = some (.ref Mo)) (ha : PA X (e :: es) t) (hdb : (x == ("__debug__" : Str)) = false := by decide)
    (hst : starEach (e :: es) X.env = (false, eval e X.env) :: starEach es X.env := by rfl) (hpl : (backTo pos (starEach es X.env)).any (·.1) = false := by rfl)
    (ht : eval (.Call (.Attribute (.Name x p) "__init__" apos) (e :: es) [] pos) X.env = (do
      let ov ← eval (.Name x p) X.env
      standAt apos.atName
      let (f, first) ← holding [ov] (getMethod ov "__init__" pl)
      callWith pos f first (backTo pos (starEach (e :: es) X.env)) (backToKw pos (keywordEach [] X.env))) := by rfl) :
    PE X (.Call (.Attribute (.Name x p) "__init__" apos) (e :: es) [] pos) (tBase X.K t) := by
  intro pins s σ H Q I h
  refine PySem.W.methodCall_KW (pl := pl) (ld_glob I hg hm ?_ hdb) ht
  unfold getMethod
  refine wpAny_bind ((PySem.W.looks_specialIn I.kIn B.ga).here ?_)
  dsimp only
  rw [if_pos (by decide +kernel)]
  refine wpAny_bind (PySem.W.cls_open I.kIn (PySem.W.looks_opaque I.kIn B.op) (PySem.W.looks_typeIn I.kIn B.ty) B.gt (PySem.W.looks_hook I.kIn rfl) B.si B.fc ?_)
  refine wpAny_pure ?_
  show wpAny _ _ (handedOut (.builtin "ValueError.__init__")) _ _ _
  rw [PySem.W.handedOut_of (by decide +kernel)]
  refine wpAny_pure (wpAny_pure ?_)
  refine PyProof.Rows.callWith_builtin1 (thn (ha pos pins _ σ H _ (I.tok _) h) fun us s1 zz => ?_) hst hpl
  obtain ⟨vs, H1, I1, r1, y, rest, C, Mo', f, dx, e1, hH, M, hz, q⟩ := zz
  subst e1
  cases r1 with
  | cons ra rb =>
    cases ra
    exact base_init I1 M hH (by rw [← rb.length]; exact hz) fun s2 I2 => ⟨.non, H1, I2, rfl, q⟩

/-! ### e.f = value, e an exception -/
theorem setattr_exc {X : Cx} {A : Around} {E : Value → Shared → Prop} {C Mo f0 x : Addr} {dx : Option Addr} {pins : List (Addr × Obj)} {σ : St} {H : Hp} {s : Shared} {Q : Unit → Shared → Prop} {nm : Str} {y : V} {u : Value} (I : Inv X pins σ H s) (M : ExcC X.K C Mo f0)
    (na : PySem.W.findIn X.K (.ref C) nm = some none) (hH : H x = some (excE x C none)) (ru : RelV y u)
    (hq : ∀ d s', H d = none → d ≠ x → Inv X pins σ (upd (upd H x (excE x C (some d))) d (excD d [(nm, y)])) s' → Q () s') : wpAny (model X.prog X.w) A (setAttr (.ref x) nm u) Q E s := by
  obtain ⟨cnm, q, N, bs, sn, sub, ab, col, dd, k0, k1, k2, k3, k5, lk, nok, ini⟩ := M.obj
  have hK := I.kIn
  have hC := hK _ _ lk
  have SF := PySem.F.store_object
  obtain ⟨t, hget⟩ := excE_at I.hok hH
  have LT : PySem.W.Looks (model X.prog X.w) s.heap (typeOf (.ref x)) (.ref C) := (PySem.W.Looks.ld hget).andThen .now
  have hcl : PySem.W.clsIn X.K C = some { name := cnm, bases := bs, mro := .ref C :: .ref Mo :: bmV, ns := N, qualname := q, hasDict := true, slotNames := sn, subclasses := sub, abstract := ab, collection := col, hasDel := false } := by
    unfold PySem.W.clsIn
    rw [lk]
  have LM : PySem.W.Looks (model X.prog X.w) s.heap (mroOf (.ref C)) (.ref C :: .ref Mo :: bmV) := (PySem.W.looks_clsIn hK hcl).andThen .now
  have sub' : PySem.W.Looks (model X.prog X.w) s.heap (isInstance (.ref x) (.type "object")) true := LT.andThen (PySem.W.looks_mroIn hK (by unfold PySem.W.mroIn; rw [hcl]; rfl))
  have hxs : x ≠ s.heap.objs.size := Nat.ne_of_lt (Heap.lt_size hget)
  have fin : ∀ (h' : Heap) (tk : Nat), h'.Ns1 s.heap.objs.size (fun z => if z = nm then some u else none) →
      Heap.SameBut s.heap.objs.size ((s.heap.push { cls := .type "dict", data := .dict #[] }).update x fun o => { cls := o.cls, dict := some s.heap.objs.size, data := o.data, slots := o.slots }) h' → Q () { s with heap := h', toks := tk } := fun h' tk n1 sb => by
    refine hq s.heap.objs.size _ I.fresh (Ne.symm hxs) ?_
    have e1 : (s.heap.push { cls := .type "dict", data := .dict #[] }).get? x = some (excRec C none (.ref t) .none) := Heap.get?_push_of_some _ hget
    have e2 : ((s.heap.push { cls := .type "dict", data := .dict #[] }).update x fun o => { cls := o.cls, dict := some s.heap.objs.size, data := o.data, slots := o.slots }).get? x = some (excRec C (some s.heap.objs.size) (.ref t) .none) := Heap.get?_update_self _ e1 rfl
    have I1 := I.write (x := x) (e := x) (o := excE x C (some s.heap.objs.size)) (h' := (s.heap.push { cls := .type "dict", data := .dict #[] }).update x fun o => { cls := o.cls, dict := some s.heap.objs.size, data := o.data, slots := o.slots }) (t' := s.toks)
      (by rw [hH]; exact True.intro) (.inl rfl) (fun b v hb e => (Heap.get?_update_other _ _ (Ne.symm hb)).trans (Heap.get?_push_of_some _ e)) ⟨_, e2⟩ (excE_ok e2)
    have e3 : ((s.heap.push { cls := .type "dict", data := .dict #[] }).update x fun o => { cls := o.cls, dict := some s.heap.objs.size, data := o.data, slots := o.slots }).objs.size = s.heap.objs.size + 1 := by
      rw [Heap.size_after_update, Heap.size_push]
    -- the dict was laid with the exception's change: it is tracked now
    have hf : upd H x (excE x C (some s.heap.objs.size)) s.heap.objs.size = none := by rw [upd_ne (Ne.symm hxs)]; exact I.fresh
    have hd0 : X.s₀.heap.objs.size ≤ s.heap.objs.size := I.sz
    have kp : ∀ b o, b ≠ s.heap.objs.size → ((s.heap.push { cls := .type "dict", data := .dict #[] }).update x fun o => { cls := o.cls, dict := some s.heap.objs.size, data := o.data, slots := o.slots }).get? b = some o → h'.get? b = some o := fun b o hb e => (sb.2 b hb).trans e
    have new : ObjOk X.prog X.w (upd (upd H x (excE x C (some s.heap.objs.size))) s.heap.objs.size (excD s.heap.objs.size [(nm, y)])) h' s.heap.objs.size (excD s.heap.objs.size [(nm, y)]) := by
      refine excD_ok n1 (fun z => ?_) (fun z hz => ?_)
      · show RelO (List.lookup z [(nm, y)]) (if z = nm then some u else none)
        rw [List.lookup_cons]
        by_cases e : z = nm
        · subst e
          rw [beq_self_eq_true, if_pos rfl]
          exact ru
        · rw [show (z == nm) = false from beq_eq_false_iff_ne.mpr e, if_neg e]
          exact True.intro
      · by_cases e : z = nm
        · subst e; exact List.mem_cons_self
        · exact absurd (if_neg e) hz
    exact I1.tracked_new (t' := tk) kp hf hd0 (fun z => by
      have := I.lt
      rw [z] at this
      exact Nat.lt_irrefl _ this) (fun y' c e z => by
      obtain ⟨v, o, ho, _⟩ := I.cell y' c e
      have := Heap.lt_size ho
      rw [z] at this
      exact Nat.lt_irrefl _ this) (fun p hp z => by
      have := Heap.lt_size (I.pin p hp).1
      rw [z] at this
      exact Nat.lt_irrefl _ this) new
  obtain ⟨hh, gg, dd', tt, oo⟩ := s
  unfold setAttr
  refine wpAny_bind (wpAny_mkText (wpAny_bind ?_))
  unfold callSpecial? specialOf
  refine wpAny_bind (wpAny_bind (LT.at ((PySem.W.looks_findIn hK M.sa).at (wpAny_holding (wpAny_bind ?_)))))
  rw [SF.slot.bind]
  refine wpAny_pure (wpAny_bind (wpAny_call (codeAny_call_builtin SF.slot.plain SF.entry (@PySem.W.check_slot (model X.prog X.w) _ _ ⟨hh, gg, dd', tt + 1, oo⟩ "object.__setattr__" "object" "__setattr__" (.ref x) [.str nm tt, u] [] _ SF.kind SF.split sub' (SF.args (.ref x) (.str nm tt) u) ?_))))
  show wpAny _ A.in1 (Builtin.«object.__setattr__» ⟨[.ref x, .str nm tt, u], []⟩) _ _ _
  rw [PySem.W.osa_eq, refuse_eq]
  refine wpAny_bind (wpAny_bind (LT.at (wpAny_bind (LM.at ?_))))
  rw [refuseLoop_ref, refuseLoop_ref, PySem.F.store_ValueError.passes]
  refine wpAny_pure (wpAny_bind (LT.at (wpAny_bind ((PySem.W.looks_findIn hK na).at (wpAny_bind (wpAny_pure ?_))))))
  refine wpAny_bind (wpAny_pure (wpAny_bind (wpAny_bind (wpAny_loadPart (o := excRec C none (.ref t) .none) hget (wpAny_bind ((PySem.W.looks_clsIn hK hcl).at ?_))))))
  have hx₁ : (hh.push { cls := .type "dict", data := .dict #[] }).get? x = some (excRec C none (.ref t) .none) := Heap.get?_push_of_some _ hget
  refine wpAny_bind (wpAny_alloc' ?_)
  refine wpAny_bind (wpAny_update' hx₁ ?_)
  refine wpAny_pure ?_
  have hgd : ((hh.push { cls := .type "dict", data := .dict #[] }).update x fun o => { cls := o.cls, dict := some hh.objs.size, data := o.data, slots := o.slots }).get? hh.objs.size = some { cls := .type "dict", data := .dict #[] } :=
    (Heap.get?_update_ne _ _ _ _ hxs.symm).trans (Heap.get?_push_at rfl rfl)
  have hnd : ((hh.push { cls := .type "dict", data := .dict #[] }).update x fun o => { cls := o.cls, dict := some hh.objs.size, data := o.data, slots := o.slots }).Ns hh.objs.size (fun _ => none) :=
    ⟨_, #[], _, hgd, rfl, fun e he => absurd he (by simp), fun _ => rfl⟩
  show wpAny _ _ (storeInDict hh.objs.size (.str nm tt) nm u) _ _ _
  unfold storeInDict newKeyGuard
  refine wpAny_bind (wpAny_pure (wpAny_bind (wpAny_nsSet1 (Heap.Ns1.of_empty hnd) fun h' hn' hs => ?_)))
  obtain ⟨oD, esD, epD, hoD, hdD, hcD⟩ := hn'.count (Within.cons nm u Within.nil)
  refine wpAny_bind (wpAny_lookBehind hoD (by rw [hdD]; exact pastItsLine_dict (Nat.le_trans hcD (by rw [List.length_cons, List.length_nil, sizeLine_eq]; omega))) ?_)
  wp_walk
  exact fin _ _ hn' hs

noncomputable def sFldE (K : PySem.W.Frag) (ta tv : TE) (f : Str) : TS := fun D σ H => tv σ H fun y H1 => ta σ H1 fun x H2 => ∃ a C Mo f0, x = .ref a ∧ H2 a = some (excE a C none) ∧ ExcC K C Mo f0 ∧ PySem.W.findIn K (.ref C) f = some none ∧
  ∀ d, H2 d = none → d ≠ a → D.nx σ (upd (upd H2 a (excE a C (some d))) d (excD d [(f, y)]))
theorem ps_fldE {X : Cx} {o value : Expr} {f : Str} {pos pos' : Pos} {ta tv : TE} (ha : PE X o ta) (hv : PE X value tv) (hs : swapsWith value (some (.Attribute o f pos')) pos.line X.env = pure false) : PS X (.Assign [.Attribute o f pos'] value pos) (sFldE X.K ta tv f) := by
  intro pins s σ H D I h
  refine plainObj_wpAny_Assign_Attribute (thn (hv pins s σ H _ I h) fun u s1 zz => L2.el5 zz fun y H1 I1 ry q => thn (ha pins s1 σ H1 _ I1 q) fun ov s2 zz => ?_) hs
  obtain ⟨x, H2, I2, rx, a, C, Mo, f0, ex, ea, M, na, q2⟩ := zz
  subst ex
  obtain rfl : ov = Value.ref a := rx
  exact setattr_exc (dx := none) I2 M na ea ry fun d s3 hd hda I3 => ⟨σ, _, I3, q2 d hd hda⟩
end L2

set_option Elab.async false
set_option linter.all false
set_option maxRecDepth 100000
set_option maxHeartbeats 1000000
namespace L2
open PySem PySem.Spec PyProof.Rows

/-! ### in flight -/
noncomputable def Flies (h0 h : Heap) (H : Hp) (a C : Addr) (dx : Option Addr) : Prop :=
  h0.get? a = none ∧ H a = none ∧ ∃ t tb, h.get? a = some (excRec C dx t tb) ∧
    (tb = .none ∨ ∃ T oT ts, tb = .ref T ∧ T ≠ a ∧ h0.get? T = none ∧ H T = none ∧ h.get? T = some oT ∧ oT.data = .fields ts ∧ ts[3]? = some .none)
noncomputable def NotedAt (h0 h : Heap) (H : Hp) (a C : Addr) (dx : Option Addr) (L : Addr) : Prop :=
  h0.get? a = none ∧ H a = none ∧ ∃ t T oT ts, h.get? a = some (excRec C dx t (.ref T)) ∧ T ≠ a ∧ h0.get? T = none ∧ H T = none ∧ h.get? T = some oT ∧ oT.data = .fields ts ∧ ts[3]? = some (rawInt L)
noncomputable def KeptBut (fs : List Addr) (h0 h h' : Heap) (H : Hp) : Prop :=
  (∀ b o, (H b ≠ none ∨ h0.get? b ≠ none) → b ∉ fs → h.get? b = some o → h'.get? b = some o) ∧ ∀ b o, (H b ≠ none ∨ h0.get? b ≠ none) → h.get? b = some o → ∃ sl, h'.get? b = some { o with slots := sl }
theorem KeptBut.trans {fs : List Addr} {h0 h1 h2 h3 : Heap} {H : Hp} (x : KeptBut fs h0 h1 h2 H) (y : KeptBut fs h0 h2 h3 H) : KeptBut fs h0 h1 h3 H :=
  ⟨fun b o z hb e => y.1 b o z hb (x.1 b o z hb e), fun b o z e => by
    obtain ⟨_, e1⟩ := x.2 b o z e
    obtain ⟨sl, e2⟩ := y.2 b _ z e1
    exact ⟨sl, e2⟩⟩
theorem set1 (C : Addr) (dx : Option Addr) (t tb v : Value) : Obj.mapFields (·.setIfInBounds 1 v) (excRec C dx t tb) = excRec C dx t v := by simp [Obj.mapFields]

section
variable {M : Model} {A : Around} {E : Value → Shared → Prop} {s : Shared} {base h0 : Heap} {H : Hp} {env : Env} {outer : List Env} {L a C : Addr} {dx : Option Addr}
theorem entry_exc {t tb head : Value} {hadNext : Bool} {Q : Unit → Shared → Prop} (hfr : A.frames = some (env :: outer)) (hl : s.heap.FunFrames base (env :: outer)) (hf : env.frame = some L)
    (he : s.heap.get? a = some (excRec C dx t tb)) (h0a : h0.get? a = none) (hHa : H a = none) (hth : ∀ b o, h0.get? b = some o → ∃ o', s.heap.get? b = some o') (hfresh : ∀ b, s.heap.objs.size ≤ b → H b = none)
    (hq : ∀ h', NotedAt h0 h' H a C dx L → KeptBut (frs (env :: outer)) h0 s.heap h' H → Q () { s with heap := h' }) :
    wpAny M A (do let fr ← frameOf env; let pl ← entryPlaceOf L hadNext; let b ← EntryCells.newEntry head fr .none (rawInt L) .none pl; setField (.ref a) 1 b) Q E s := by
  have hna : a ∉ frs (env :: outer) := fun hm => by
    obtain ⟨_, o, ho, hnf⟩ := hl.mem hm
    rw [he] at ho
    cases ho
    exact hnf _ rfl
  refine wpAny_bind (wpAny_frameOf_fun hfr hl hf fun h₁ hs₁ => ?_)
  refine wpAny_bind (wpAny_entryPlaceOf fun pl hpl => ?_)
  unfold EntryCells.newEntry newFields
  refine wpAny_bind (wpAny_newObj_type ?_ (hpl.sizeOk5 _ _ _ _ _))
  have he1 : h₁.get? a = some (excRec C dx t tb) := (hs₁.2.1 a hna).trans he
  have he2 := Heap.get?_push_of_some (h := h₁) { cls := .type "traceback", dict := none, data := .fields ([head, .ref L, .none, rawInt L, .none] ++ (if pl.isEmpty then List.replicate 6 Value.none else pl)).toArray } he1
  refine wpAny_setField he2 rfl (by simp) ?_
  have hTa : h₁.objs.size ≠ a := Nat.ne_of_gt (Heap.lt_size he1)
  have he3 := (Heap.get?_update_self (Obj.mapFields (·.setIfInBounds 1 (Value.ref h₁.objs.size))) he2 rfl).trans (congrArg some (set1 C dx t tb (.ref h₁.objs.size)))
  have hT3 := (Heap.get?_update_other (h₁.push { cls := .type "traceback", dict := none, data := .fields ([head, .ref L, .none, rawInt L, .none] ++ (if pl.isEmpty then List.replicate 6 Value.none else pl)).toArray })
    (Obj.mapFields (·.setIfInBounds 1 (Value.ref h₁.objs.size))) (Ne.symm hTa)).trans (Heap.get?_push_size h₁ rfl)
  have kb : ∀ b o, b ≠ a → h₁.get? b = some o → ((h₁.push { cls := .type "traceback", dict := none, data := .fields ([head, .ref L, .none, rawInt L, .none] ++ (if pl.isEmpty then List.replicate 6 Value.none else pl)).toArray }).update a (Obj.mapFields (·.setIfInBounds 1 (Value.ref h₁.objs.size)))).get? b = some o :=
    fun b o hb e => (Heap.get?_update_other _ _ (Ne.symm hb)).trans (Heap.get?_push_of_some _ e)
  have ne : ∀ b, (H b ≠ none ∨ h0.get? b ≠ none) → b ≠ a := fun b z e => by
    subst e
    exact z.elim (fun q => q hHa) fun q => q h0a
  refine hq _ ⟨h0a, hHa, t, h₁.objs.size, _, _, he3, hTa, (by
    cases q : h0.get? h₁.objs.size with
    | none => rfl
    | some o =>
      obtain ⟨o', e'⟩ := hth _ o q
      exact absurd (Heap.lt_size e') (by rw [hs₁.1]; exact Nat.lt_irrefl _)), hfresh _ (by rw [hs₁.1]; exact Nat.le_refl _), hT3, rfl, by simp⟩ ⟨fun b o z hb e => ?_, fun b o z e => ?_⟩
  · exact kb b o (ne b z) ((hs₁.2.1 b hb).trans e)
  · obtain ⟨sl, e1⟩ := hs₁.2.2 b o e
    exact ⟨sl, kb b _ (ne b z) e1⟩
theorem note_exc {Q : Unit → Shared → Prop} (hfr : A.frames = some (env :: outer)) (hl : s.heap.FunFrames base (env :: outer)) (hf : env.frame = some L) (fl : Flies h0 s.heap H a C dx) (hth : ∀ b o, h0.get? b = some o → ∃ o', s.heap.get? b = some o') (hfresh : ∀ b, s.heap.objs.size ≤ b → H b = none)
    (hq : ∀ h', NotedAt h0 h' H a C dx L → KeptBut (frs (env :: outer)) h0 s.heap h' H → Q () { s with heap := h' }) : wpAny M A (noteFrame (.ref a) env) Q E s := by
  obtain ⟨f1, f2, t, tb, he, hb⟩ := fl
  unfold noteFrame
  simp only [hf]
  rcases hb with rfl | ⟨T, oT, ts, rfl, hTa, hT0, hTH, hT, hd, h3⟩
  · refine wpAny_bind (wpAny_field he rfl (x := .none) rfl ?_)
    rw [if_neg (by decide)]
    exact entry_exc hfr hl hf he f1 f2 hth hfresh hq
  · refine wpAny_bind (wpAny_field he rfl (x := .ref T) rfl ?_)
    rw [if_pos (show (Value.ref T != Value.none) = true from by simp)]
    refine wpAny_bind (wpAny_field hT hd h3 ?_)
    rw [if_neg (show ¬ ((Value.none == rawInt L) = true) from by simp [rawInt])]
    refine wpAny_bind (wpAny_setField hT hd (Array.getElem?_eq_some_iff.mp h3).1 ?_)
    have other : ∀ b, b ≠ T → (s.heap.update T (Obj.mapFields (·.setIfInBounds 3 Value.none))).get? b = s.heap.get? b := fun b hb => Heap.get?_update_other _ _ (Ne.symm hb)
    have noT : ∀ b o, s.heap.get? b = some o → (∀ vs, o.data ≠ .fields vs) → b ≠ T := fun b o e hn q => by
      rw [q, hT] at e
      cases e
      exact hn ts hd
    have neT : ∀ b, (H b ≠ none ∨ h0.get? b ≠ none) → b ≠ T := fun b z e => by
      subst e
      exact z.elim (fun q => q hTH) fun q => q hT0
    have sze : (s.heap.update T (Obj.mapFields (·.setIfInBounds 3 Value.none))).objs.size = s.heap.objs.size := Heap.size_after_update ..
    refine entry_exc (s := { s with heap := s.heap.update T (Obj.mapFields (·.setIfInBounds 3 Value.none)) }) hfr (hl.of_keeps fun b o e hn => ⟨o, (other b (noT b o e hn)).trans e, rfl⟩) hf ((other a (Ne.symm hTa)).trans he) f1 f2
      (fun b o e => by
        obtain ⟨o', e'⟩ := hth b o e
        exact ⟨o', (other b fun z => by rw [z, hT0] at e; cases e).trans e'⟩) (fun b hb => hfresh b (by rw [sze] at hb; exact hb)) fun h' n k => hq h' n ⟨fun b o z hb e => k.1 b o z hb ((other b (neT b z)).trans e), fun b o z e => k.2 b o z ((other b (neT b z)).trans e)⟩
theorem land_exc {Q : Unit → Shared → Prop} (n : NotedAt h0 s.heap H a C dx L) (hq : ∀ h', Flies h0 h' H a C dx → KeptBut [] h0 s.heap h' H → Q () { s with heap := h' }) : wpAny M A (setFlight (.ref a) none) Q E s := by
  obtain ⟨f1, f2, t, T, oT, ts, he, hTa, hT0, hTH, hT, hd, h3⟩ := n
  have neT : ∀ b, (H b ≠ none ∨ h0.get? b ≠ none) → b ≠ T := fun b z e => by
    subst e
    exact z.elim (fun q => q hTH) fun q => q hT0
  have hs3 : 3 < ts.size := (Array.getElem?_eq_some_iff.mp h3).1
  unfold setFlight
  refine wpAny_bind (wpAny_field he rfl (x := .ref T) rfl ?_)
  rw [if_pos (show (Value.ref T != Value.none) = true from by simp)]
  refine wpAny_setField hT hd hs3 (hq _ ⟨f1, f2, t, .ref T, (Heap.get?_update_other _ _ hTa).trans he, .inr ⟨T, _, _, rfl, hTa, hT0, hTH, Heap.get?_update_self _ hT (Obj.isFreed_of_fields (Obj.data_mapFields hd _)), Obj.data_mapFields hd _, by simp [hs3]⟩⟩ ⟨fun b o z _ e => ?_, fun b o z e => ⟨o.slots, ?_⟩⟩)
  · exact (Heap.get?_update_other _ _ (Ne.symm (neT b z))).trans e
  · exact (Heap.get?_update_other _ _ (Ne.symm (neT b z))).trans e
theorem rest_exc {Q : Unit → Shared → Prop} (fl : Flies h0 s.heap H a C dx) (hq : ∀ h', Flies h0 h' H a C dx → KeptBut [] h0 s.heap h' H → Q () { s with heap := h' }) : wpAny M A (setFlight (.ref a) none) Q E s := by
  obtain ⟨f1, f2, t, tb, he, hb⟩ := id fl
  rcases hb with rfl | ⟨T, oT, ts, rfl, hTa, hT0, hTH, hT, hd, h3⟩
  · unfold setFlight
    refine wpAny_bind (wpAny_field he rfl (x := .none) rfl ?_)
    rw [if_neg (by decide)]
    exact wpAny_pure (hq s.heap fl ⟨fun _ _ _ _ e => e, fun _ o _ e => ⟨o.slots, e⟩⟩)
  · have neT : ∀ b, (H b ≠ none ∨ h0.get? b ≠ none) → b ≠ T := fun b z e => by
      subst e
      exact z.elim (fun q => q hTH) fun q => q hT0
    have hs3 : 3 < ts.size := (Array.getElem?_eq_some_iff.mp h3).1
    unfold setFlight
    refine wpAny_bind (wpAny_field he rfl (x := .ref T) rfl ?_)
    rw [if_pos (show (Value.ref T != Value.none) = true from by simp)]
    refine wpAny_setField hT hd hs3 (hq _ ⟨f1, f2, t, .ref T, (Heap.get?_update_other _ _ hTa).trans he, .inr ⟨T, _, _, rfl, hTa, hT0, hTH, Heap.get?_update_self _ hT (Obj.isFreed_of_fields (Obj.data_mapFields hd _)), Obj.data_mapFields hd _, by simp [hs3]⟩⟩ ⟨fun b o z _ e => ?_, fun b o z e => ⟨o.slots, ?_⟩⟩)
    · exact (Heap.get?_update_other _ _ (Ne.symm (neT b z))).trans e
    · exact (Heap.get?_update_other _ _ (Ne.symm (neT b z))).trans e
theorem leave_exc {Q : Unit → Shared → Prop} (hfr : A.frames = some (env :: outer)) (hl : s.heap.FunFrames base (env :: outer)) (hf : env.frame = some L) (fl : Flies h0 s.heap H a C dx) (hth : ∀ b o, h0.get? b = some o → ∃ o', s.heap.get? b = some o') (hfresh : ∀ b, s.heap.objs.size ≤ b → H b = none)
    (hq : ∀ h', Flies h0 h' H a C dx → KeptBut (frs (env :: outer)) h0 s.heap h' H → Q () { s with heap := h' }) : wpAny M A (leaving env (.ref a)) Q E s := by
  unfold leaving
  refine wpAny_bind (note_exc hfr hl hf fl hth hfresh fun h1 n1 k1 => ?_)
  exact land_exc (s := { s with heap := h1 }) n1 fun h2 f2 k2 => hq h2 f2 (k1.trans ⟨fun b o z _ e => k2.1 b o z (by simp) e, k2.2⟩)
end

/-! ### an exception behind a call -/
noncomputable def CX1 (P : Program) (w : World) : CXT := fun outer H s E e s' => ∃ (a C : Addr) (dx : Option Addr) (H' : Hp), e = .ref a ∧ s'.os = s.os ∧ AllBare s'.gens ∧ Un (frs outer) [] H H' s.heap s'.heap ∧ HOk P w H' s'.heap ∧
  Flies s.heap s'.heap H' a C dx ∧ E (.ref C) dx H'
theorem HOk.keptBut {P : Program} {w : World} {H : Hp} {h0 h h' : Heap} {fs : List Addr} (ok : HOk P w H h) (k : KeptBut fs h0 h h' H) (hf : ∀ b ∈ fs, H b = none) : HOk P w H h' := fun b u e => by
  refine (ok b u e).stay (fun c v hc q => ?_) (fun _ q => q) fun _ _ q => q
  have hn : H c ≠ none := by
    rcases hc with rfl | hc
    · rw [e]; simp
    · rw [hc]; simp
  exact k.1 c v (.inl hn) (fun z => hn (hf c z)) q
theorem Un.keptBut {fs gs ex : List Addr} {H H' : Hp} {h0 h1 h2 : Heap} (u : Un fs ex H H' h0 h1) (k : KeptBut gs h0 h1 h2 H') (hg : ∀ b o, h0.get? b = some o → b ∈ gs → b ∈ fs) : Un fs ex H H' h0 h2 := by
  refine ⟨fun b o e n hb hx => k.1 b o (.inr (by rw [e]; simp)) (fun z => hb (hg b o e z)) (u.keep b o e n hb hx), fun b o e n hb hx => ?_, u.free, fun b o e hx => ?_, u.tups, u.frzs, u.tbls⟩
  · obtain ⟨sl, q⟩ := u.slot b o e n hb hx
    obtain ⟨sl', q'⟩ := k.2 b _ (.inr (by rw [e]; simp)) q
    exact ⟨sl', q'⟩
  · obtain ⟨o', q⟩ := u.there b o e hx
    obtain ⟨sl, q'⟩ := k.2 b _ (.inr (by rw [e]; simp)) q
    exact ⟨_, q'⟩

section
variable {P : Program} {w : World} {K : PySem.W.Frag} {mg : Str → Option Value} {base : Heap} {N : List Str} {qual : Str} {scope : Scope} {f : Addr} {cd : Value} {A : Around} {outer : List Env} {s : Shared} {H : Hp} {EX : XK}
theorem xe_of {pins : List (Addr × Obj)} {σ : St} {H' : Hp} {s' : Shared} {a C : Addr} {dx : Option Addr} (I : Inv (cxOf (CX1 P w) P w K mg base N qual scope f cd A outer s H EX) pins σ H' s') (fl : Flies s.heap s'.heap H' a C dx) (hE : EX (.ref C) dx H') :
    (cxOf (CX1 P w) P w K mg base N qual scope f cd A outer s H EX).xe (.ref a) s' := by
  show wpAny (model P w) (A.deeper (envOfC qual scope s.heap.objs.size f cd)) (leaving (envOfC qual scope s.heap.objs.size f cd) (.ref a)) (fun _ s'' => CX1 P w outer H s EX (.ref a) s'') _ s'
  refine leave_exc (L := s.heap.objs.size) I.ok.frames I.stack rfl fl (fun b o e => I.base.there b o e (by intro z; exact absurd (show b ∈ ([] : List Addr) from z) (by simp))) (fun b hb => I.hok.fresh hb) fun h' f' k => ?_
  refine ⟨a, C, dx, H', rfl, I.os, I.bare, I.base.keptBut k fun b o e hb => ?_, I.hok.keptBut k I.stkFree, f', hE⟩
  unfold frs at hb
  rw [List.filterMap_cons] at hb
  rcases List.mem_cons.mp hb with z | z
  · exact absurd (Heap.lt_size e) (by rw [z]; exact Nat.lt_irrefl _)
  · exact z
theorem Flies.back {h0 h1 h : Heap} {H : Hp} {a C : Addr} {dx : Option Addr} (fl : Flies h1 h H a C dx) (k : ∀ b o, h0.get? b = some o → ∃ o', h1.get? b = some o') : Flies h0 h H a C dx := by
  have no : ∀ b, h1.get? b = none → h0.get? b = none := fun b e => by
    cases q : h0.get? b with
    | none => rfl
    | some o =>
      obtain ⟨o', e'⟩ := k b o q
      rw [e] at e'
      cases e'
  obtain ⟨f1, f2, t, tb, he, hb⟩ := fl
  refine ⟨no a f1, f2, t, tb, he, ?_⟩
  rcases hb with z | ⟨T, oT, ts, e, hTa, hT0, r⟩
  · exact .inl z
  · exact .inr ⟨T, oT, ts, e, hTa, no T hT0, r⟩
theorem pass1 {E : XK} (h : ∀ C dx H', E C dx H' → EX C dx H') : Passes (CX1 P w) (cxOf (CX1 P w) P w K mg base N qual scope f cd A outer s H EX) E := by
  intro pins σ H1 s1 e s' I hx
  obtain ⟨a, C, dx, H', rfl, os, bare, un, hok, fl, hE⟩ := hx
  have I' := I.call' (s' := s') (ch := []) os un hok bare (fun b z => absurd z (by simp))
  exact xe_of I' (fl.back fun b o e => I.base.there b o e (by intro z; exact absurd (show b ∈ ([] : List Addr) from z) (by simp))) (h _ _ _ hE)
end

/-! ### raise -/
noncomputable def forget (H : Hp) (a : Addr) : Hp := fun b => if b = a then none else H b
theorem forget_ne {H : Hp} {a b : Addr} (h : b ≠ a) : forget H a b = H b := by unfold forget; rw [if_neg h]
theorem forget_same {H : Hp} {a : Addr} : forget H a a = none := by unfold forget; rw [if_pos rfl]
theorem forget_none {H : Hp} {a b : Addr} (h : H b = none) : forget H a b = none := by
  unfold forget
  split
  · rfl
  · exact h
theorem Inv.forget {X : Cx} {pins : List (Addr × Obj)} {σ : St} {H : Hp} {s : Shared} {a C : Addr} {dx : Option Addr} (I : Inv X pins σ H s) (hH : H a = some (excE a C dx)) : Inv X pins σ (L2.forget H a) s := by
  have ne : ∀ b u, H b = some u → (∀ φ, u ≠ .ext φ) → b ≠ a := fun b u e hu z => by
    subst z
    rw [hH] at e
    exact hu _ (Option.some.inj e).symm
  refine ⟨I.ok, I.os, I.bare, ⟨I.base.keep, I.base.slot, fun b o e n hx => forget_none (I.base.free b o e n hx), I.base.there, fun b xs e => ?_, fun b o u e => ?_, fun b ps e => ?_⟩, I.loc, I.cell, forget_none I.free, fun x c e => forget_none (I.freeC x c e), fun p hp => ?_, fun b u e => ?_, I.len⟩
  · have q := I.base.tups b xs e
    rw [forget_ne (ne b _ q (fun _ z => nomatch z))]
    exact q
  · have q := I.base.frzs b o u e
    rw [forget_ne (ne b _ q (fun _ z => nomatch z))]
    exact q
  · obtain ⟨more, q⟩ := I.base.tbls b ps e
    exact ⟨more, by rw [forget_ne (ne b _ q (fun _ z => nomatch z))]; exact q⟩
  · obtain ⟨e, n, r⟩ := I.pin p hp
    exact ⟨e, forget_none n, r⟩
  · by_cases hb : b = a
    · rw [hb, forget_same] at e; cases e
    · rw [forget_ne hb] at e
      exact (I.hok b u e).stay (fun c v _ q => q) (fun c q => by rw [forget_ne (ne c _ q (fun _ z => nomatch z))]; exact q) fun c xs q => by rw [forget_ne (ne c _ q (fun _ z => nomatch z))]; exact q
noncomputable def tRaise (K : PySem.W.Frag) (H0 : Hp) (EX : XK) (te : TE) : TS := fun _ σ H => te σ H fun x H1 => ∃ a C Mo f dx, x = .ref a ∧ H1 a = some (excE a C dx) ∧ ExcC K C Mo f ∧ H0 a = none ∧ EX (.ref C) dx (forget H1 a)
theorem raise_made {M : Model} {A : Around} {E : Value → Shared → Prop} {env : Env} {s : Shared} {x : Sem Value} {Q : Flow → Shared → Prop} (hh : A.handled = none)
    (h : wpAny M A x (fun v s₁ => ∃ e C dx t nm q N bs bm hdct sn sub ab col dd k0 k1 k2 k3 k5 nid, v = .ref e ∧ bm.contains (.type "BaseException") = true ∧ s₁.heap.get? C = some (excClassObj nm q C N bs bm hdct sn sub ab col dd k0 k1 k2 k3 k5 nid) ∧
      s₁.heap.get? e = some (excRec C dx t .none) ∧ E (.ref e) s₁) E s) : wpAny M A (raiseStmt env (some x) none) Q E s := by
  unfold raiseStmt
  refine wpAny_bind (wpAny_mono h (fun v s₁ h₁ => ?_) fun _ _ x => x)
  obtain ⟨e, C, dx, t, nm, q, N, bs, bm, hdct, sn, sub, ab, col, dd, k0, k1, k2, k3, k5, nid, rfl, hbase, hC, he, hE⟩ := h₁
  have hcB : (Value.ref C :: bm).contains (.type "BaseException") = true := by rw [List.contains_cons, hbase, Bool.or_true]
  obtain ⟨hp, g, d, tk, os⟩ := s₁
  repeat (first | with_reducible refine wpAny_loadPart_at he ?_ | with_reducible refine wpAny_loadPart_at hC ?_ | (with_reducible refine wpAny_isSubtype_exc hC ?_; rw [hcB]) | wp_step)
  exact wpAny_raiseNew_none hh hE
section
variable {P : Program} {w : World} {K : PySem.W.Frag} {mg : Str → Option Value} {base : Heap} {N : List Str} {qual : Str} {scope : Scope} {f : Addr} {cd : Value} {A : Around} {outer : List Env} {s : Shared} {H : Hp} {EX : XK}
theorem ps_raise {x : Expr} {te : TE} {pos : Pos} (he : PE (cxOf (CX1 P w) P w K mg base N qual scope f cd A outer s H EX) x te) : PS (cxOf (CX1 P w) P w K mg base N qual scope f cd A outer s H EX) (.Raise (some x) none pos) (tRaise K H EX te) := by
  intro pins s1 σ H1 D I h
  rw [arm_exec_Raise]
  refine wpAny_bind (wpAny_standAt (raise_made (I.ok.hd rfl) ?_))
  refine wpAny_bind (thn (he pins s1 σ H1 _ I h) fun v s2 zz => wpAny_bind (wpAny_standAt (wpAny_pure ?_)))
  obtain ⟨y, H2, I2, ry, a, C, Mo, f', dx, e1, hH, M, h0, hE⟩ := zz
  subst e1
  cases ry
  obtain ⟨nm, q, Nn, bs, sn, sub, ab, col, dd, k0, k1, k2, k3, k5, lk, _, _⟩ := M.obj
  obtain ⟨t, hget⟩ := excE_at I2.hok hH
  refine ⟨a, C, dx, .ref t, nm, q, Nn, bs, _, _, sn, sub, ab, col, dd, k0, k1, k2, k3, k5, _, rfl, rfl, I2.kIn _ _ lk, hget, ?_⟩
  refine xe_of (I2.forget hH) ⟨?_, forget_same, .ref t, .none, hget, .inl rfl⟩ hE
  cases q0 : s.heap.get? a with
  | none => rfl
  | some o =>
    have z := I2.base.free a o q0 h0 (by intro z; exact absurd (show a ∈ ([] : List Addr) from z) (by simp))
    rw [hH] at z
    cases z
end
end L2

set_option Elab.async false
set_option linter.all false
set_option maxRecDepth 100000
set_option maxHeartbeats 1000000
namespace L2
open PySem PySem.Spec PyProof.Rows

/-! ### try .. except C: .. -/
noncomputable def TryE (X : Cx) (pins : List (Addr × Obj)) (Ex : Addr → Option Addr → St → Hp → Prop) : Value → Shared → Prop := fun e s' => ∃ a C dx σ H σ1 H1 s1, e = .ref a ∧ Inv X pins σ1 H1 s1 ∧ Inv X pins σ H s' ∧
  (∀ b o, s1.heap.get? b = some o → ∃ o', s'.heap.get? b = some o') ∧ Flies s1.heap s'.heap H a C dx ∧ Ex C dx σ H
noncomputable def tryCx (X : Cx) (pins : List (Addr × Obj)) (Ex : Addr → Option Addr → St → Hp → Prop) : Cx where
  prog := X.prog
  w := X.w
  K := X.K
  mg := X.mg
  base := X.base
  A := X.A
  N := X.N
  s₀ := X.s₀
  H₀ := X.H₀
  env := X.env
  outer := X.outer
  stack := X.stack
  ex := X.ex
  fn := X.fn
  calm := X.calm
  pn := X.pn ++ pins
  xe := TryE X pins Ex
noncomputable def exceptCx (X : Cx) (e : Value) : Cx where
  prog := X.prog
  w := X.w
  K := X.K
  mg := X.mg
  base := X.base
  A := X.A.mark (some e)
  N := X.N
  s₀ := X.s₀
  H₀ := X.H₀
  env := X.env
  outer := X.outer
  stack := X.stack
  ex := X.ex
  fn := X.fn
  calm := false
  pn := X.pn
  xe := fun _ _ => False
section
variable {X : Cx} {pins pins' : List (Addr × Obj)} {Ex : Addr → Option Addr → St → Hp → Prop} {σ : St} {H : Hp} {s : Shared} {e : Value}
theorem Inv.totry (I : Inv X pins σ H s) : Inv (tryCx X pins Ex) [] σ H s :=
  ⟨⟨I.ok.mod, I.ok.kind, I.ok.glob, I.ok.blt, I.ok.above, I.ok.inj, I.ok.has, I.ok.cab, I.ok.hd, I.ok.frames, I.ok.stk, I.ok.exf, I.ok.bs, I.ok.bsz, I.ok.noex, I.ok.exfs, I.ok.funs, I.ok.frf⟩,
    I.os, I.bare, I.base, I.loc, I.cell, I.free, I.freeC, fun p hp => I.pin p (by have z : p ∈ (X.pn ++ pins) ++ [] := hp; simpa using z), I.hok, I.len⟩
theorem Inv.untry (I : Inv (tryCx X pins Ex) pins' σ H s) : Inv X pins σ H s :=
  ⟨⟨I.ok.mod, I.ok.kind, I.ok.glob, I.ok.blt, I.ok.above, I.ok.inj, I.ok.has, I.ok.cab, I.ok.hd, I.ok.frames, I.ok.stk, I.ok.exf, I.ok.bs, I.ok.bsz, I.ok.noex, I.ok.exfs, I.ok.funs, I.ok.frf⟩,
    I.os, I.bare, I.base, I.loc, I.cell, I.free, I.freeC, fun p hp => I.pin p (List.mem_append_left _ hp), I.hok, I.len⟩
theorem Inv.toexc (I : Inv X pins σ H s) : Inv (exceptCx X e) pins σ H s :=
  ⟨⟨I.ok.mod, I.ok.kind, I.ok.glob, I.ok.blt, I.ok.above, I.ok.inj, I.ok.has, I.ok.cab, (fun z => absurd (show false = true from z) Bool.false_ne_true), I.ok.frames, I.ok.stk, I.ok.exf, I.ok.bs, I.ok.bsz, I.ok.noex, I.ok.exfs, I.ok.funs, I.ok.frf⟩,
    I.os, I.bare, I.base, I.loc, I.cell, I.free, I.freeC, I.pin, I.hok, I.len⟩
theorem Inv.unexc (hd : X.calm = true → X.A.handled = none) (I : Inv (exceptCx X e) pins σ H s) : Inv X pins σ H s :=
  ⟨⟨I.ok.mod, I.ok.kind, I.ok.glob, I.ok.blt, I.ok.above, I.ok.inj, I.ok.has, I.ok.cab, hd, I.ok.frames, I.ok.stk, I.ok.exf, I.ok.bs, I.ok.bsz, I.ok.noex, I.ok.exfs, I.ok.funs, I.ok.frf⟩,
    I.os, I.bare, I.base, I.loc, I.cell, I.free, I.freeC, I.pin, I.hok, I.len⟩
theorem SP.untry {D : Ends} {f : Flow} (h : SP (tryCx X pins Ex) [] D f s) : SP X pins D f s := by
  cases f with
  | next => obtain ⟨σ', H', I, q⟩ := h; exact ⟨σ', H', I.untry, q⟩
  | brk => obtain ⟨σ', H', I, q⟩ := h; exact ⟨σ', H', I.untry, q⟩
  | cont => obtain ⟨σ', H', I, q⟩ := h; exact ⟨σ', H', I.untry, q⟩
  | ret u => obtain ⟨v, σ', H', I, r, q⟩ := h; exact ⟨v, σ', H', I.untry, r, q⟩
theorem Inv.flown {h0 h' : Heap} (I : Inv X pins σ H s) (k : KeptBut (X.env.locals :: X.fs) h0 s.heap h' H) (h1 : ∀ b o, X.s₀.heap.get? b = some o → h0.get? b ≠ none) (hL : h0.get? X.env.locals ≠ none) (hC : ∀ x c, X.env.cells.lookup x = some c → h0.get? c ≠ none) (hP : ∀ p ∈ X.pn ++ pins, h0.get? p.1 ≠ none) :
    Inv X pins σ H { s with heap := h' } := by
  obtain ⟨m, ⟨oL, es, ep, hoL, r⟩, hl⟩ := id I.loc
  obtain ⟨sl, hL'⟩ := k.2 _ oL (.inr hL) hoL
  have cellK : ∀ x c, X.env.cells.lookup x = some c → ∀ v, s.heap.IsCell c v → h'.IsCell c v := fun x c e v ⟨o, ho, hd⟩ => by
    obtain ⟨sl, q⟩ := k.2 c o (.inr (hC x c e)) ho
    exact ⟨_, q, hd⟩
  refine ⟨I.ok, I.os, I.bare, ⟨fun b o e n hb hx => ?_, fun b o e n hb hx => ?_, I.base.free, fun b o e hx => ?_, I.base.tups, I.base.frzs, I.base.tbls⟩, ⟨m, ⟨_, es, ep, hL', r⟩, fun i x v e1 e2 e3 => ?_⟩, fun x c e => ?_, I.free, I.freeC, fun p hp => ?_, ?_, I.len⟩
  · refine k.1 b o (.inr (h1 b o e)) (fun z => ?_) (I.base.keep b o e n hb hx)
    rcases List.mem_cons.mp z with z | z
    · exact absurd (Nat.lt_of_lt_of_le (Heap.lt_size e) I.ok.above) (by rw [z]; exact Nat.lt_irrefl _)
    · exact hb z
  · obtain ⟨sl, q⟩ := I.base.slot b o e n hb hx
    obtain ⟨sl', q'⟩ := k.2 b _ (.inr (h1 b o e)) q
    exact ⟨sl', q'⟩
  · obtain ⟨o', q⟩ := I.base.there b o e hx
    obtain ⟨sl', q'⟩ := k.2 b _ (.inr (h1 b o e)) q
    exact ⟨_, q'⟩
  · obtain ⟨u, rv, l⟩ := hl i x v e1 e2 e3
    refine ⟨u, rv, ?_⟩
    rcases l with l | ⟨kd, c, e, z⟩
    · exact .inl l
    · exact .inr ⟨kd, c, e, cellK x c e _ z⟩
  · obtain ⟨v, z⟩ := I.cell x c e
    exact ⟨v, cellK x c e v z⟩
  · obtain ⟨e, n, ne, nf, d⟩ := I.pin p hp
    refine ⟨k.1 p.1 p.2 (.inr (hP p hp)) (fun z => ?_) e, n, ne, nf, d⟩
    rcases List.mem_cons.mp z with z | z
    · exact ne z
    · exact nf z
  · refine I.hok.keptBut k fun b hb => ?_
    rcases List.mem_cons.mp hb with z | z
    · rw [z]; exact I.free
    · obtain ⟨_, o, ho, _⟩ := I.ok.funs.mem z
      exact I.base.free b o ho (I.ok.frf b z) fun q => I.ok.exfs b q z
end
end L2

set_option Elab.async false
set_option linter.all false
set_option maxRecDepth 100000
set_option maxHeartbeats 1000000
namespace L2
open PySem PySem.Spec PyProof.Rows

section
variable {X : Cx} {a b c d : Expr} {ta tb tc td : TE} {pos : Pos}
/-! ### a op b op c op d -/
noncomputable def tChain3 (r r' r'' : R2) (ta tb tc td : TE) : TE := fun σ H Q => ta σ H fun x H1 => tb σ H1 fun y H2 => r x y H2 fun z H3 => ∃ k, z = .bl k ∧
  (if k = true then tc σ H3 fun x2 H4 => r' y x2 H4 fun z2 H5 => ∃ k2, z2 = .bl k2 ∧ (if k2 = true then td σ H5 fun x3 H6 => r'' x2 x3 H6 Q else Q (.bl false) H5) else Q (.bl false) H3)
theorem pt_chain3 {op op' op'' : CmpOp} {r r' r'' : R2} (ho : OpR X (compareOp op) r) (ho' : OpR X (compareOp op') r') (ho'' : OpR X (compareOp op'') r'') (ha : PE X a ta) (hb : PE X b tb) (hc : PE X c tc) (hd : PE X d td)
    (hm : lastMarks [op, op', op''] [b, c, d] = false := by with_unfolding_all rfl) : PT X (.Compare a [op, op', op''] [b, c, d] pos) (tTest (tChain3 r r' r'' ta tb tc td)) := by
  intro pins s σ H Q I h
  refine isTrue_chain (thn (ha pins s σ H _ I h) fun v s1 zz => L2.el5 zz fun x H1 I1 r1 q1 => test_link (thn (hb pins s1 σ H1 _ I1 q1) fun u s2 zz => L2.el5 zz fun y H2 I2 r2 q2 =>
    thn (ho pins s2 σ H2 x y v u _ I2 r1 r2 q2) fun z s3 zz => ?_)) hm
  obtain ⟨z', H3, I3, r3, k, e, q3⟩ := zz
  subst e
  cases r3
  refine wpAny_truthy_bool ?_
  cases k with
  | false =>
    obtain ⟨k', e', q'⟩ := q3
    cases e'
    exact ite_ff ⟨H3, I3, q'⟩
  | true =>
    refine ite_tt (test_link (thn (hc pins s3 σ H3 _ I3 q3) fun x2 s4 zz => L2.el5 zz fun y4 H4 I4 r4 q4 => thn (ho' pins s4 σ H4 y y4 u x2 _ I4 r2 r4 q4) fun z2 s5 zz => ?_))
    obtain ⟨z5, H5, I5, r5, k2, e2, q5⟩ := zz
    subst e2
    cases r5
    refine wpAny_truthy_bool ?_
    cases k2 with
    | false =>
      obtain ⟨k', e', q'⟩ := q5
      cases e'
      exact ite_ff ⟨H5, I5, q'⟩
    | true =>
      refine ite_tt (test_last (thn (hd pins s5 σ H5 _ I5 q5) fun x3 s6 zz => L2.el5 zz fun y6 H6 I6 r6 q6 => thn (ho'' pins s6 σ H6 y4 y6 x2 x3 _ I6 r4 r6 q6) fun z3 s7 zz => ?_))
      obtain ⟨z7, H7, I7, r7, k3, e3, q7⟩ := zz
      subst e3
      cases r7
      exact wpAny_truthy_bool ⟨H7, I7, q7⟩

/-! ### two lists of ints -/
theorem ints_of {ns : List Int} : ∀ {us : List Value}, Vals (ns.map V.int) us → IntsAre us ns := by
  induction ns with
  | nil => intro us h; cases h; exact .nil
  | cons n r ih =>
    intro us h
    cases h with
    | cons q t =>
      obtain ⟨tk, rfl⟩ := q
      exact .cons n tk (ih t)
noncomputable def rEqI (K : PySem.W.Frag) (neg : Bool) : R2 := fun x y H Q => ∃ (p q : Addr) (ns ms : List Int), x = .ref p ∧ y = .ref q ∧ SqL K H p (ns.map V.int) ∧ SqL K H q (ms.map V.int) ∧ Q (.bl (if neg then !decide (ns = ms) else decide (ns = ms))) H
theorem op_eqI (hu : X.A.units + 64 < cLine) : OpR X (compareOp .Eq) (rEqI X.K false) := by
  intro pins s σ H x y v u Q I rx ry h
  obtain ⟨p, q, ns, ms, rfl, rfl, h1, h2, hq⟩ := h
  cases rx
  cases ry
  obtain ⟨its, r1, p1, _⟩ := I.list h1
  obtain ⟨its2, r2, p2, _⟩ := I.list h2
  exact PySem.W.ke_eq_ints p1.isList p2.isList (ints_of r1) (ints_of r2) hu ⟨.bl _, H, I, rfl, hq⟩

/-! ### isinstance(x, T), T a built-in type -/
theorem call_isinst : CallR X (.builtin "isinstance") (fun xs H Q => ∃ x n t b, xs = [x, .ty n] ∧ TyOf X.K H x t ∧ PySem.W.kitOne X.K t (.type n) = some b ∧ Q (.bl b) H) := by
  intro pins s σ H xs us Q I r h
  obtain ⟨x, n, t, b, rfl, ty, e, q⟩ := h
  obtain ⟨u, v, rfl, r1, r2⟩ := vals2 r
  cases r2
  exact isinst_ok I r1 ty e fun tk => ⟨.bl b, H, I.tok _, rfl, q⟩

/-! ### list(range(n)) -/
theorem vals_mk : ∀ {xs : List V} {us : List Value}, xs.length = us.length → (∀ (i : Nat) x u, xs[i]? = some x → us[i]? = some u → RelV x u) → Vals xs us
  | [], [], _, _ => .nil
  | [], _ :: _, h, _ => by simp at h
  | _ :: _, [], h, _ => by simp at h
  | x :: xs, u :: us, h, r => .cons (r 0 x u rfl rfl) (vals_mk (by simpa using h) fun i y v e1 e2 => r (i + 1) y v (by simpa using e1) (by simpa using e2))
theorem vals_of_items {acc : Array Value} {j : Nat} (h : ItemsOf (fun i v => ∃ t, v = .int (0 + (i : Int) * 1) t) acc j) : Vals ((List.range j).map fun (i : Nat) => V.int (i : Int)) acc.toList := by
  refine vals_mk (by simp [h.1]) fun i x u e1 e2 => ?_
  rw [List.getElem?_map] at e1
  have hi : i < j := by
    have := (List.getElem?_eq_some_iff.mp e2).1
    rw [Array.length_toList, h.1] at this
    exact this
  rw [List.getElem?_range hi] at e1
  cases e1
  obtain ⟨t, e⟩ := h.2 i u (by simpa using e2)
  exact ⟨t, by rw [e]; congr 1; omega⟩
noncomputable def tListRange (ta : TA) : TE := fun σ H Q => ta σ H fun vs H1 => ∃ j : Nat, vs = [.int j] ∧ j ≤ 1000000 ∧ ∀ l, H1 l = none → Q (.ref l) (upd H1 l (.lst ((List.range j).map fun (i : Nat) => V.int (i : Int))))
theorem pe_listRange {ta : TA} {p p2 pos2 : Pos} (hc : X.calm = true) (hg : Gl X "list") (hm : X.mg "list" = none) (hg2 : Gl X "range") (hm2 : X.mg "range" = none) (ha : PA X [a] ta)
    (hs : starEach [.Call (.Name "range" p2) [a] [] pos2] X.env = [(false, eval (.Call (.Name "range" p2) [a] [] pos2) X.env)] := by rfl) (hs2 : starEach [a] X.env = [(false, eval a X.env)] := by rfl) :
    PE X (.Call (.Name "list" p) [.Call (.Name "range" p2) [a] [] pos2] [] pos) (tListRange ta) := by
  intro pins s σ H Q I h
  refine Call_ (ld_blt I hg hm boot_list (PyProof.Rows.callWith_type1 ?_ hs rfl))
  rw [hs]
  show wpAny _ _ (spliced ((false, eval (.Call (.Name "range" p2) [a] [] pos2) X.env) :: backTo pos [])) _ _ s
  refine Calls.spliced_cons (Call_ (ld_blt I hg2 hm2 boot_range (PyProof.Rows.callWith_type1 (thn (ha pos2 pins s σ H _ I h) fun us s1 zz => ?_) hs2 rfl)))
  obtain ⟨vs, H1, I1, r1, q1⟩ := zz
  obtain ⟨j, e, hj, q⟩ := q1
  subst e
  obtain ⟨u, rfl, t, rfl⟩ := vals1 r1
  refine call_range_1 ?_
  refine Calls.spliced_nil ?_
  have I2 : ∀ (t u v : Tok) (tk : Nat), Inv X pins σ H1 { s1 with heap := s1.heap.push { cls := .type "range", data := .fields #[.int 0 t, .int (j : Int) u, .int 1 v] }, toks := tk } := fun t u v tk => I1.kept fun b o e => Heap.get?_push_of_some _ e
  refine call_list_range (n := j) (I.ok.hd hc) (IsRange.new ..) (small_one (by omega) (by omega) (by omega) (by omega)) (by rw [rangeSize_one]; split <;> omega) (by omega) fun h' tk acc c' kp hl hi => ?_
  have I3 := I2 s1.toks t (s1.toks + 1) (s1.toks + 2)
  refine ⟨.ref _, _, I3.laid (t' := tk) (o := .lst ((List.range j).map fun (i : Nat) => V.int (i : Int))) kp (Nat.le_refl _) ?_, rfl, q _ I3.fresh⟩
  refine ⟨by rw [List.length_map, List.length_range, sizeLine_eq]; omega, acc.toList, c', ?_, by simpa using hl⟩
  exact vals_of_items hi
end

/-! ### within a block: the readings by the enclosing body's own part -/
section
variable {Y : Cx} {K : PySem.W.Frag} {tg : Expr}
theorem pg_tupK {es : List Expr} {k : Nat} {t : TGs} {n : Nat} {pos : Pos} (hK : Y.K = K) (hc : Y.calm = true) (h : PGs Y es t) (hn : (assignEach es Y.env).length = n := by rfl) (hst : (assignEach es Y.env).findIdx? (·.1) = none := by rfl) : PG Y (.Tuple es k pos) (gTup K n t) := by
  subst hK; exact pg_tup hc h hn hst
end
end L2

set_option Elab.async false
set_option linter.all false
set_option maxRecDepth 100000
set_option maxHeartbeats 1000000
namespace L2
open PySem PySem.Spec PyProof.Rows

/-! ### try .. except C as e: .. return .. -/
noncomputable def excX (a C : Addr) (dx : Option Addr) : HO := .ext fun h => ∃ t tb, h.get? a = some (excRec C dx t tb)
noncomputable abbrev excZ (a C : Addr) (dx : Option Addr) (t tb : Value) : HO := .frz (excRec C dx t tb) (excX a C dx)
section
variable {P : Program} {w : World} {H : Hp} {h : Heap} {a C : Addr} {dx : Option Addr} {t tb : Value}
theorem excZ_ok (e : h.get? a = some (excRec C dx t tb)) : ObjOk P w H h a (excZ a C dx t tb) := ⟨e, ⟨t, tb, e⟩, ⟨_, e⟩, fun _ _ ⟨t', tb', e'⟩ k => ⟨t', tb', k _ e'⟩⟩
end
section
variable {X : Cx} {pins : List (Addr × Obj)} {σ : St} {H : Hp} {s : Shared} {a C : Addr} {dx : Option Addr} {t tb : Value}
theorem Inv.track (I : Inv X pins σ H s) (e : s.heap.get? a = some (excRec C dx t tb)) (hH : H a = none) (h0 : X.s₀.heap.get? a = none) (hL : a ≠ X.env.locals) (hc : ∀ x c, X.env.cells.lookup x = some c → c ≠ a) (hp : ∀ p ∈ X.pn ++ pins, p.1 ≠ a) : Inv X pins σ (upd H a (excZ a C dx t tb)) s := by
  have na : ∀ b u, H b = some u → b ≠ a := fun b u q => ne_of_none q hH
  refine ⟨I.ok, I.os, I.bare, ⟨I.base.keep, I.base.slot, fun b o q n hx => ?_, I.base.there, fun b xs q => ?_, fun b o u q => ?_, fun b ps q => ?_⟩, I.loc, I.cell, by rw [upd_ne (Ne.symm hL)]; exact I.free, fun x c q => by rw [upd_ne (hc x c q)]; exact I.freeC x c q, fun p hp' => ?_, fun b u q => ?_, I.len⟩
  · have : b ≠ a := fun z => by rw [z, h0] at q; cases q
    rw [upd_ne this]
    exact I.base.free b o q n hx
  · have z := I.base.tups b xs q
    rw [upd_ne (na b _ z)]
    exact z
  · have z := I.base.frzs b o u q
    rw [upd_ne (na b _ z)]
    exact z
  · obtain ⟨more, z⟩ := I.base.tbls b ps q
    exact ⟨more, by rw [upd_ne (na b _ z)]; exact z⟩
  · obtain ⟨z1, z2, z3⟩ := I.pin p hp'
    exact ⟨z1, by rw [upd_ne (hp p hp')]; exact z2, z3⟩
  · by_cases hb : b = a
    · subst hb
      rw [upd_same] at q
      cases q
      exact excZ_ok e
    · rw [upd_ne hb] at q
      exact (I.hok b u q).stay (fun c v _ z => z) (fun c z => by rw [upd_ne (na c _ z)]; exact z) fun c xs z => by rw [upd_ne (na c _ z)]; exact z
theorem Inv.blank {h' : Heap} {m : Str → Option Value} {tk : Nat} (I : Inv X pins σ H s) (hn : h'.Ns X.env.locals m) (hs : Heap.SameBut X.env.locals s.heap h') : Inv X pins (List.replicate X.N.length none) H { s with heap := h', toks := tk } := by
  have below : ∀ b o, X.s₀.heap.get? b = some o → b ≠ X.env.locals := fun b o e => Nat.ne_of_lt (Nat.lt_of_lt_of_le (Heap.lt_size e) I.ok.above)
  have cne : ∀ x c, X.env.cells.lookup x = some c → c ≠ X.env.locals := fun x c e => I.cne x c e
  refine ⟨I.ok, I.os, I.bare, ⟨fun b o e n hb hx => ?_, fun b o e n hb hx => ?_, I.base.free, fun b o e hx => ?_, I.base.tups, I.base.frzs, I.base.tbls⟩, ⟨m, hn, fun i x v _ e2 _ => ?_⟩, fun y c e => ?_, I.free, I.freeC, fun p hp => ?_, fun b u e => ?_, by simp⟩
  · exact (hs.2 b (below b o e)).trans (I.base.keep b o e n hb hx)
  · obtain ⟨sl, e1⟩ := I.base.slot b o e n hb hx
    exact ⟨sl, (hs.2 b (below b o e)).trans e1⟩
  · obtain ⟨o', e1⟩ := I.base.there b o e hx
    exact ⟨o', (hs.2 b (below b o e)).trans e1⟩
  · rw [List.getElem?_replicate] at e2
    split at e2 <;> cases e2
  · obtain ⟨w', z⟩ := I.cell y c e
    exact ⟨w', z.sameBut hs (cne y c e)⟩
  · obtain ⟨e, n, ne, nf, d⟩ := I.pin p hp
    exact ⟨(hs.2 p.1 ne).trans e, n, ne, nf, d⟩
  · refine (I.hok b u e).stay (fun c v hc q => (hs.2 c ?_).trans q) (fun _ q => q) fun _ _ q => q
    rintro rfl
    rcases hc with rfl | hc
    · rw [I.free] at e; cases e
    · rw [I.free] at hc; cases hc
end
noncomputable def tTryA (K : PySem.W.Frag) (Cn : Addr) (i : Nat) (Ex : Addr → Option Addr → St → Hp → Prop) (tb : TS) (ts : Addr → TS) : TS := fun D σ H => tb D σ H ∧
  ∀ C dx σ' H', Ex C dx σ' H' → PySem.W.exmOne K (.ref C) (.ref Cn) = some true ∧ ∀ a t tb, H' a = none → ts a { nx := fun _ _ => False, rt := D.rt } (σ'.set i (some (.ref a))) (upd H' a (excZ a C dx t tb))
theorem ps_tryA {X : Cx} {body suite : List Stmt} {b0 : Stmt} {cn n : Str} {i : Nat} {np hpos pos : Pos} {Cn : Addr} {Ex : Addr → Option Addr → St → Hp → Prop} {tb : TS} {ts : Addr → TS} (hstk : X.stack = X.env :: X.outer) (hfr : X.env.frame = some X.env.locals) (hN : X.N.Nodup) (hi : X.N[i]? = some n) (hl : X.env.scope.names.lookup n = some .local) (hg : Gl X cn) (hm : X.mg cn = some (.ref Cn))
    (hb : ∀ pins, PSs (tryCx X pins Ex) body tb) (hs : ∀ a, PSs (exceptCx X (.ref a)) (b0 :: suite) (ts a)) (hex : X.ex = [] := by rfl) (hdb : (cn == ("__debug__" : Str)) = false := by decide) :
    PS X (.Try body [.ExceptHandler (some (.Name cn np)) (some n) (b0 :: suite) hpos] [] [] pos) (tTryA X.K Cn i Ex tb ts) := by
  intro pins s σ H D I h
  obtain ⟨h1, h2⟩ := h
  refine wpAny_Try_except (wpAny_mono (hb pins [] s σ H D I.totry h1) (fun f s1 q => ?_) fun e s1 he => ?_)
  · have q' := SP.untry q
    cases f with
    | next => exact wpAny_execs_nil q'
    | ret v => exact q'
    | brk => exact q'
    | cont => exact q'
  · obtain ⟨a, C, dx, σ', H', σ1, H1, s0, rfl, I0, I1, th, fl, hx⟩ := he
    obtain ⟨hmat, hq⟩ := h2 C dx σ' H' hx
    have hfs : frs (X.env :: X.outer) = X.env.locals :: X.fs := by
      unfold Cx.fs frs
      rw [List.filterMap_cons, hfr]
    have k1 : ∀ b o, X.s₀.heap.get? b = some o → s0.heap.get? b ≠ none := fun b o e => by
      obtain ⟨o', q⟩ := I0.base.there b o e (by rw [hex]; simp)
      rw [q]; simp
    have kL : s0.heap.get? X.env.locals ≠ none := by
      obtain ⟨m, ⟨o, _, _, ho, _⟩, _⟩ := I0.loc
      rw [ho]; simp
    have kC : ∀ x c, X.env.cells.lookup x = some c → s0.heap.get? c ≠ none := fun x c e => by
      obtain ⟨v, o, ho, _⟩ := I0.cell x c e
      rw [ho]; simp
    have kP : ∀ p ∈ X.pn ++ pins, s0.heap.get? p.1 ≠ none := fun p hp => by
      rw [(I0.pin p hp).1]; simp
    have hfr1 : X.A.frames = some (X.env :: X.outer) := by rw [← hstk]; exact I.ok.frames
    refine note_exc (L := X.env.locals) hfr1 (by rw [← hstk]; exact I1.stack) hfr fl th (fun b hb => I1.hok.fresh hb) fun h2' n2 kk2 => ?_
    rw [hfs] at kk2
    have I2 := I1.flown kk2 k1 kL kC kP
    refine land_exc (s := { s1 with heap := h2' }) n2 fun h3 f3 kk3 => ?_
    have kk3' : KeptBut (X.env.locals :: X.fs) s0.heap h2' h3 H' := ⟨fun b o z _ e => kk3.1 b o z (by simp) e, kk3.2⟩
    have I3 := I2.flown kk3' k1 kL kC kP
    have I3' : Inv (exceptCx X (.ref a)) pins σ' H' { s1 with heap := h3 } := I3.toexc
    refine wpAny_handleBy_cons (codeAny_handlers_test (ld_glob I3' hg hm ?_ hdb)) (by intro z; cases z)
    obtain ⟨_, _, t, tb', hget, _⟩ := id f3
    have LT : PySem.W.Looks (model X.prog X.w) h3 (typeOf (.ref a)) (.ref C) := (PySem.W.Looks.ld hget).andThen .now
    refine (PySem.W.exm_one I3.kIn LT hmat).here (s := { s1 with heap := h3 }) ?_
    refine codeAny_handlers_suite_as ?_
    refine rest_exc (s := { s1 with heap := h3 }) f3 fun h4 f4 kk4 => ?_
    have kk4' : KeptBut (X.env.locals :: X.fs) s0.heap h3 h4 H' := ⟨fun b o z _ e => kk4.1 b o z (by simp) e, kk4.2⟩
    have I4 := I3.flown kk4' k1 kL kC kP
    obtain ⟨f4a, f4b, t4, tb4, hget4, _⟩ := id f4
    have I5 := I4.track hget4 f4b (by
      cases q : X.s₀.heap.get? a with
      | none => rfl
      | some o => exact absurd f4a (k1 a o q)) (fun z => kL (z ▸ f4a)) (fun x c e z => kC x c e (z ▸ f4a)) (fun p hp z => kP p hp (z ▸ f4a))
    have I5' : Inv (exceptCx X (.ref a)) pins σ' (upd H' a (excZ a C dx t4 tb4)) { s1 with heap := h4 } := I5.toexc
    refine store_ok (X := exceptCx X (.ref a)) (v := .ref a) (u := .ref a) I5' hN hi (.inl hl) rfl (fun s6 I6 => ?_) (.inr hl)
    refine wpAny_mono (hs a pins s6 _ _ _ I6 (hq a t4 tb4 f4b)) (fun f s7 q7 => ?_) fun _ _ z => z.elim
    have fin : ∀ {σ7 : St} {H7 : Hp}, Inv (exceptCx X (.ref a)) pins σ7 H7 s7 → (∀ s8, Inv X pins (List.replicate X.N.length none) H7 s8 → SP X pins D f s8) → wpAny (model X.prog X.w) X.A (do bindName X.env n .none; unbindBehindTheSuite X.env n hpos) (fun _ s₅ => SP X pins D f s₅) X.xe s7 := fun {σ7 H7} I7 k => by
      obtain ⟨m7, hn7, _⟩ := I7.loc
      refine wpAny_nameGoes hl hn7 (by rw [I.ok.kind]; rfl) fun h' m' hn' hs' => k _ ?_
      exact (I7.unexc I.ok.hd).blank hn' hs'
    cases f with
    | next => obtain ⟨_, _, _, z⟩ := q7; exact z.elim
    | brk => obtain ⟨_, _, _, z⟩ := q7; exact z.elim
    | cont => obtain ⟨_, _, _, z⟩ := q7; exact z.elim
    | ret v =>
      obtain ⟨y, σ7, H7, I7, r7, q7⟩ := q7
      exact fin I7 fun s8 I8 => ⟨y, _, H7, I8, r7, q7⟩
end L2

set_option Elab.async false
set_option linter.all false
set_option maxRecDepth 100000
set_option maxHeartbeats 1000000
/-! What is asked of an exception that was caught: its kind, its values. -/
namespace L2
open PySem PySem.Spec PyProof.Rows Builtin
structure ExcG (K : PySem.W.Frag) (C : Addr) : Prop where
  ga : PySem.W.findIn K (.ref C) "__getattribute__" = some (some (.builtin "BaseException.__getattribute__"))
  gt : PySem.W.findIn K (.ref C) "__getattr__" = some none
  be : PySem.W.mroIn K C (.type "BaseException") = some true
  ob : PySem.W.mroIn K C (.type "object") = some true
  hd : PySem.W.hasDictIn K C = true
  cl : PySem.W.findIn K (.ref C) "__class__" = some (some (.builtin "object.__class__"))
  gs : PySem.W.specialIn K (.builtin "object.__class__") "__get__" = some (some (.builtin "getset_descriptor.__get__"))
  tk : PySem.W.takesIn K (.builtin "object.__class__") = some true
section
variable {prog : Program} {w : World} {A : Around} {E : Value → Shared → Prop} {s : Shared} {K : PySem.W.Frag} {x C : Addr} {ox od : Obj} {name : Str}
theorem ga_kind : builtinKind "BaseException.__getattribute__" = some .slot := by decide +kernel
theorem ga_split : splitId "BaseException.__getattribute__" = some ("BaseException", "__getattribute__") := by decide +kernel
theorem hx2 : (Value.builtin "BaseException.__getattribute__" == Value.builtin "object.__getattribute__") = false := by decide +kernel
theorem exc_call {tk : Tok} {R : Result → Shared → Prop} (X : K.In s.heap) (I : PySem.W.InstAt s.heap x ox C (some od)) (G : ExcG K C)
    (h : wpAny (model prog w) A.in1 (Builtin.«object.__getattribute__» ⟨[.ref x, .str name tk], []⟩) (fun fin s' => match fin with | .done f => R (.ok f) s' | .again c' => c'.quiet = true ∧ codeAny (model prog w) A c' R s') (fun e s' => R (.error e) s') s) :
    codeAny (model prog w) A (.call (.builtin "BaseException.__getattribute__") ⟨[.ref x, .str name tk], []⟩) R s := by
  have LT : PySem.W.Looks (model prog w) s.heap (typeOf (.ref x)) (.ref C) := I.type
  have sub' : PySem.W.Looks (model prog w) s.heap (isInstance (.ref x) (.type "BaseException")) true := LT.andThen (PySem.W.looks_mroIn X G.be)
  obtain ⟨hh, g, d, t, os⟩ := s
  exact codeAny_call_builtin F.attrBase_ValueError.ga.plain F.entry_bexc_ga (@PySem.W.check_slot (model prog w) _ _ ⟨hh, g, d, t, os⟩ "BaseException.__getattribute__" "BaseException" "__getattribute__" (.ref x) [.str name tk] [] _ ga_kind ga_split sub' (F.args_bexc_ga (.ref x) (.str name tk)) h)
theorem exc_class {Q : Option Value → Shared → Prop} (X : K.In s.heap) (I : PySem.W.InstAt s.heap x ox C (some od)) (G : ExcG K C) (h : Q (some (.ref C)) { s with toks := s.toks + 1 }) : wpAny (model prog w) A (getAttr? (.ref x) "__class__") Q E s := by
  have hf : PySem.W.findObj K C (some od) "__class__" = some (.bind (.builtin "getset_descriptor.__get__") (.builtin "object.__class__")) := PySem.W.findObj_data (by obtain ⟨cd, hc, _⟩ := PySem.W.any_some G.hd; rw [hc]; rfl) G.cl G.gs G.tk
  have L0 := I.type (M := model prog w)
  have L1 := PySem.W.looks_findIn (M := model prog w) X G.ga
  have L2 := PySem.W.looks_findIn (M := model prog w) X G.gt
  have L3 := PySem.W.looks_find (M := model prog w) X I hf
  obtain ⟨hp, g, d, t, os⟩ := s
  unfold getAttr? getAttrBy? getAttrBy
  refine wpAny_bind (wpAny_mkText (wpAny_bind (wpAny_attempt (wpAny_holding (wpAny_bind (L0.at (wpAny_bind (L1.at ?_))))))))
  dsimp only
  rw [hx2, Bool.and_false, if_neg Bool.false_ne_true]
  unfold getAttrByItsOwn hookBefore
  rw [if_pos (by rfl)]
  refine wpAny_bind (L2.at (wpAny_bind (wpAny_attempt (wpAny_holding ?_))))
  unfold callGetattribute
  rw [if_neg (by decide)]
  unfold boundAndCalled
  rw [F.attrBase_ValueError.ga.bind]
  refine wpAny_bind (wpAny_pure (wpAny_call (exc_call (s := ⟨hp, g, d, t + 1, os⟩) X I G ?_)))
  unfold Builtin.«object.__getattribute__»
  refine wpAny_bind (wpAny_pure (wpAny_bind (wpAny_pure (wpAny_bind (L0.at (wpAny_bind (L3.at ?_)))))))
  show wpAny _ _ (holding [.builtin "object.__class__"] (call (.builtin "getset_descriptor.__get__") [.builtin "object.__class__", .ref x, .ref C]) >>= ret) _ _ _
  refine wpAny_bind (wpAny_holding (wpAny_call (PySem.W.class_get (s := ⟨hp, g, d, t + 1, os⟩) (ox := ox) (od := some od) X I G.ob (wpAny_pure ?_))))
  show wpAny _ _ (handedOut (.ref C)) _ _ _
  rw [PySem.W.handedOut_of rfl]
  exact wpAny_pure (wpAny_pure h)
theorem kitx_exc (G : ExcG K C) : PySem.W.KitX K (.ref x) (.ref C) (fun h => PySem.W.InstAt h x ox C (some od)) where
  ty := fun _ _ _ I => I.type
  it := fun _ _ X _ => by
    obtain ⟨cdD, hcD, _⟩ := PySem.W.any_some G.hd
    unfold PySem.W.clsIn at hcD
    split at hcD
    · rename_i ho
      intro A' Q' E' s' k q
      unfold isType loadHead
      exact wpAny_bind (wpAny_loadPart (k _ _ (X _ _ ho)) (wpAny_pure q))
    · cases hcD
  ne := fun h tp dd its n sl X htp => by
    obtain ⟨cdD, hcD, _⟩ := PySem.W.any_some G.hd
    refine Bool.eq_false_iff.mpr fun q => ?_
    have e : C = tp := Value.ref.inj (beq_iff_eq.mp q)
    subst e
    unfold PySem.W.clsIn at hcD
    split at hcD
    · rename_i ho
      have z := (X _ _ ho).symm.trans htp
      cases z
    · cases hcD
  ca := fun X I k => exc_class X I G k
end

section
variable {X : Cx} {K : PySem.W.Frag} {e : Expr} {f : Str} {pos : Pos} {ta : TE}
theorem exc_inst {P : Program} {w : World} {H : Hp} {h : Heap} {a C d : Addr} {t tb : Value} {u : HO} {fs : List (Str × V)} (ok : HOk P w H h) (ea : H a = some (.frz (excRec C (some d) t tb) u)) (ed : H d = some (excD d fs)) :
    ∃ (od : Obj) (mA : Str → Option Value), PySem.W.InstAt h a (excRec C (some d) t tb) C (some od) ∧ (∀ name, PySem.W.lookIn name od = some (mA name)) ∧ ∀ f, RelO (fs.lookup f) (mA f) := by
  obtain ⟨mA, ns, r, _⟩ := excD_at ok ed
  obtain ⟨od, ho, hl⟩ := lookIn_ns ns
  exact ⟨od, mA, ⟨(ok a _ ea).1, rfl, rfl, ho⟩, hl, r⟩
theorem call_isinstE (hK : X.K = K) : CallR X (.builtin "isinstance") (fun xs H Q => ∃ a C d t tb u fs c cv b, xs = [.ref a, c] ∧ H a = some (.frz (excRec C (some d) t tb) u) ∧ H d = some (excD d fs) ∧ ExcG K C ∧ RelV c cv ∧ (∀ cv', RelV c cv' → cv' = cv) ∧ PySem.W.kitOne K (.ref C) cv = some b ∧ Q (.bl b) H) := by
  subst hK
  intro pins s σ H xs us Q I r h
  obtain ⟨a, C, d, t, tb, u, fs, c, cv, b, rfl, ea, ed, G, rc, one, ek, q⟩ := h
  obtain ⟨u1, u2, rfl, r1, r2⟩ := vals2 r
  cases r1
  rw [one _ r2]
  obtain ⟨od, mA, J, _, _⟩ := exc_inst I.hok ea ed
  exact PySem.W.kia_one (kitx_exc G) I.kIn J ek (fun z => nomatch z) fun tk => ⟨.bl b, H, I.tok _, rfl, q⟩
end
end L2

set_option Elab.async false
set_option linter.all false
set_option maxRecDepth 100000
set_option maxHeartbeats 1000000
/-! Defs that may be called while an exception is being handled. -/
namespace L2
open PySem PySem.Spec PyProof.Rows
structure RoomH (k : Nat) (A : Around) : Prop where
  dp : A.depth + 3 * k + 5 < recursionLimit
  un : A.units + 16 * k + 200 < cLine
theorem Room.h {k : Nat} {A : Around} (r : Room k A) : RoomH k A := ⟨r.dp, r.un⟩
theorem RoomH.deeper {k : Nat} {A : Around} (r : RoomH (k + 1) A) (env : Env) : RoomH k (A.deeper env) := ⟨by have := r.dp; show A.depth + 1 + 3 * k + 5 < _; omega, by have := r.un; show A.units + 3 + 16 * k + 200 < _; omega⟩
theorem RoomH.units {k : Nat} {A : Around} (r : RoomH k A) : A.units + 64 < cLine := by have := r.un; omega
noncomputable def HandE (A : Around) (H : Hp) : Prop := A.handled = none ∨ ∃ (a C : Addr) (dx : Option Addr) (t tb : Value) (u : HO), A.handled = some (.ref a) ∧ H a = some (.frz (excRec C dx t tb) u)
structure FnOkH (P : Program) (w : World) (K : PySem.W.Frag) (mg : Str → Option Value) (base : Heap) (CX : CXT) (k : Nat) (f : Addr) (fd : FuncData) (ps : List Str) (sp : Sp) : Prop where
  len : ∀ vs H Q E, sp vs H Q E → vs.length = ps.length
  run : ∀ (A : Around) (outer : List Env) (s : Shared) (H : Hp) (args : Args) (us : List Value) (vs : List V) (Q : VK) (E : XK), RoomH k A → HandE A H → Env0 P w K mg base A outer s H → BindsTo s fd args (ps.zip us) → Vals vs us → sp vs H Q E →
    codeAny (model P w) A (.call (.ref f) args) (CR CX outer P w H s Q E) s
theorem FnOkH.fn {P : Program} {w : World} {K : PySem.W.Frag} {mg : Str → Option Value} {base : Heap} {CX : CXT} {k : Nat} {f : Addr} {fd : FuncData} {ps : List Str} {sp : Sp} (F : FnOkH P w K mg base CX k f fd ps sp) : FnOk P w K mg base CX k f fd ps sp :=
  ⟨F.len, fun A outer s H args us vs Q E hr he hb hv hs => F.run A outer s H args us vs Q E hr.h (.inl hr.hd) he hb hv hs⟩

noncomputable def cxH (CX : CXT) (P : Program) (w : World) (K : PySem.W.Frag) (mg : Str → Option Value) (base : Heap) (N : List Str) (qual : Str) (scope : Scope) (f : Addr) (cd : Value) (A : Around) (outer : List Env) (s : Shared) (H : Hp) (E : XK) : Cx where
  prog := P
  w := w
  K := K
  mg := mg
  base := base
  A := A.deeper (envOfC qual scope s.heap.objs.size f cd)
  N := N
  s₀ := s
  H₀ := H
  env := envOfC qual scope s.heap.objs.size f cd
  outer := outer
  stack := envOfC qual scope s.heap.objs.size f cd :: outer
  ex := []
  calm := false
  fn := fun _ => true
  pn := []
  xe := fun e s' => wpAny (model P w) (A.deeper (envOfC qual scope s.heap.objs.size f cd)) (leaving (envOfC qual scope s.heap.objs.size f cd) e) (fun _ s'' => CX outer H s E e s'') (fun e' s'' => CX outer H s E e' s'') s'


theorem inv_startH {CX : CXT} {P : Program} {w : World} {K : PySem.W.Frag} {mg : Str → Option Value} {base : Heap} {N ps : List Str} {qual : Str} {scope : Scope} {f : Addr} {cd : Value} {A : Around} {outer : List Env} {s s1 : Shared} {H : Hp} {E : XK} {us : List Value} {vs : List V}
    (S : FnScope N ps scope) (e0 : Env0 P w K mg base A outer s H) (hl : vs.length = ps.length) (r : Vals vs us)
    (x : InCallC s s.heap.objs.size (bindL (envOfC qual scope s.heap.objs.size f cd).kindOf (ps.zip us) fun _ => none) (cellsFrom (s.heap.objs.size + 1) scope.names []) (bindC (envOfC qual scope s.heap.objs.size f cd).kindOf (ps.zip us) fun _ => none) s1) :
    Inv (cxH CX P w K mg base N qual scope f cd A outer s H E) [] (start N vs) H s1 := by
  have hpl : ps.length ≤ N.length := by have := congrArg List.length S.pre; rw [List.length_take] at this; omega
  obtain ⟨h1, tk, rfl, hk⟩ := x.done
  have noA : ∀ b : Addr, b ∉ (cxH CX P w K mg base N qual scope f cd A outer s H E).ex := fun b z => absurd (show b ∈ ([] : List Addr) from z) (by simp)
  refine ⟨⟨e0.mod, S.kind, rfl, rfl, Nat.le_refl _, fun y z c h1 h2 => ?_, fun y hy => ?_, fun y c _ h => ?_, (fun z => absurd (show false = true from z) Bool.false_ne_true), Around.frames_deeper e0.frames, .inr ⟨rfl, rfl⟩, fun b z => absurd z (noA b), e0.bs, e0.bsz, fun b _ _ => noA b, fun b z => absurd z (noA b), e0.funs, e0.frf⟩,
    rfl, e0.bare, Un.kept hk, ⟨_, x.toInCall.ns, fun i y v h1 h2 h3 => ?_⟩, fun y c h => ⟨_, x.cell y c h⟩, e0.hok.fresh (Nat.le_refl _), fun y c h => ?_, fun p hp => absurd (show p ∈ ([] : List (Addr × Obj)) from hp) (by simp), e0.hok.kept hk, ?_⟩
  · exact name_of_addr x.apart (PySem.mem_of_lookup h1) (PySem.mem_of_lookup h2)
  · have hy : scope.names.lookup y = some .cell ∨ scope.names.lookup y = some .free := hy
    rcases hy with hy | hy
    · exact cell_has hy
    · exact absurd rfl (S.nofree _ (PySem.mem_of_lookup hy))
  · exact Nat.le_of_lt (x.above y c (PySem.mem_of_lookup h))
  · have hi : i < vs.length := by
      unfold start at h2
      by_cases hi : i < vs.length
      · exact hi
      · rw [List.getElem?_append_right (by simpa using hi)] at h2
        rw [List.getElem?_replicate] at h2
        split at h2 <;> cases h2
    have ha : vs[i]? = some v := by
      unfold start at h2
      rw [List.getElem?_append_left (by simpa using hi), List.getElem?_map] at h2
      cases e : vs[i]? with
      | none => rw [e] at h2; cases h2
      | some a => rw [e] at h2; cases h2; rfl
    obtain ⟨u, hu, rv⟩ := r.get ha
    have hp : ps[i]? = some y := by
      rw [← S.pre, List.getElem?_take_of_lt (by omega)]; exact h1
    have ndP : ps.Nodup := by rw [← S.pre]; exact S.nd.sublist (List.take_sublist _ _)
    refine ⟨u, rv, ?_⟩
    rcases S.par y (List.mem_of_getElem? hp) with k | k
    · exact .inl ⟨k, bindL_get ndP hp hu k⟩
    · obtain ⟨c, e⟩ := cell_has (n := s.heap.objs.size + 1) k
      refine .inr ⟨.inl k, c, e, ?_⟩
      have q := x.cell y c e
      rw [bindC_get ndP hp hu (by show scope.names.lookup y ≠ _; rw [k]; decide)] at q
      exact q
  · exact e0.hok.fresh (Nat.le_of_lt (x.above y c (PySem.mem_of_lookup h)))
  · unfold start
    show _ = N.length
    rw [List.length_append, List.length_map, List.length_replicate]
    omega


theorem fn_ofH {CX : CXT} {P : Program} {w : World} {K : PySem.W.Frag} {mg : Str → Option Value} {base : Heap} {k : Nat} {f : Addr} {name qual : Str} {params : Arguments} {body : List Stmt} {scope : Scope} {dV kV doc pm cdv ct oc : Value} {an od : Option Addr}
    {osl : Array (Option Value)} {N ps : List Str} {sp : Sp} (lk : K.lookup f = some ⟨oc, od, .func (PySem.W.fnOf name qual params body scope dV kV doc pm an cdv ct), osl⟩) (hcd : PySem.W.codeIn K cdv qual = true) (S : FnScope N ps scope)
    (len : ∀ vs H Q E, sp vs H Q E → vs.length = ps.length)
    (hbody : ∀ (A : Around) (outer : List Env) (s : Shared) (H : Hp) (vs : List V) (Q : VK) (E : XK), RoomH k (A.deeper (envOfC qual scope s.heap.objs.size f cdv)) → HandE A H → sp vs H Q E →
      ∃ t, PSs (cxH CX P w K mg base N qual scope f cdv A outer s H E) body t ∧ t { nx := fun _ H' => Q .non H', rt := Q } (start N vs) H) :
    FnOkH P w K mg base CX (k + 1) f (PySem.W.fnOf name qual params body scope dV kV doc pm an cdv ct) ps sp := by
  refine ⟨len, fun A outer s H args us vs Q E hr hh e0 hb r hsp => ?_⟩
  have hl := len _ _ _ _ hsp
  have KX : K.In s.heap := e0.mod.kin.keeps fun b o e => (e0.bs b o e).1
  have lim : s.heap.NoLimit := e0.mod.nolimit.keeps fun b o e => (e0.bs b o e).1
  have hkind : ∀ y ∈ ps.zip us, scope.names.lookup y.1 = some .local ∨ (scope.names.lookup y.1 = some .cell ∧ ((cellsFrom (s.heap.objs.size + 1) scope.names []).lookup y.1).isSome = true) := fun ⟨n, v⟩ hy => by
    rcases S.par n (List.of_mem_zip hy).1 with q | q
    · exact .inl q
    · exact .inr ⟨q, PySem.W.cellsFrom_some _ _ _ (.inl q)⟩
  refine codeAny_call_function (show A.depth < recursionLimit from by have := hr.dp; omega) (KX _ _ lk) rfl S.co S.gen rfl (PySem.W.codeRec_of KX hcd) (hb _ _ _ _ ?_)
  refine wpAny_newFunctionEnv_cells S.kind hkind fun env he s1 x => ?_
  subst he
  refine ⟨lim.keeps x.toInCall.keep, codeAny_func ?_⟩
  obtain ⟨t, ht, hq⟩ := hbody A outer s H vs Q E (hr.deeper _) hh hsp
  have I : Inv (cxH CX P w K mg base N qual scope f cdv A outer s H E) [] (start N vs) H s1 := inv_startH S e0 hl r x
  refine wpAny_mono (ht [] s1 (start N vs) H _ I hq) (fun fl s' hs => ?_) fun e s' hs => hs
  have fin : ∀ {σ' : St} {H' : Hp} {v : V} {u : Value}, Inv (cxH CX P w K mg base N qual scope f cdv A outer s H E) [] σ' H' s' → RelV v u → Q v H' → CE outer P w H s Q u s' :=
    fun {σ' H' v u} J rv q => ⟨v, H', J.os, J.bare, J.base, J.hok, rv, q⟩
  cases fl with
  | ret u =>
    obtain ⟨v, σ', H', J, rv, q⟩ := hs
    exact fin J rv q
  | next =>
    obtain ⟨σ', H', J, q⟩ := hs
    exact fin (v := V.non) (u := Value.none) J rfl q
  | brk =>
    obtain ⟨_, _, _, q⟩ := hs
    exact False.elim q
  | cont =>
    obtain ⟨_, _, _, q⟩ := hs
    exact False.elim q

section
variable {P : Program} {w : World} {K : PySem.W.Frag} {mg : Str → Option Value} {base : Heap}
theorem Fun.okH {x qual : Str} {st : Stmt} {f : Addr} {fd : FuncData} {N ps : List Str} {k : Nat} {sp : Sp} (F : Fun K x qual st f fd) (S : FnScope N ps (defScope st)) (len : ∀ vs H Q E, sp vs H Q E → vs.length = ps.length)
    (hbody : ∀ (cdv : Value) (A : Around) (outer : List Env) (s : Shared) (H : Hp) (vs : List V) (Q : VK) (E : XK), RoomH k (A.deeper (envOfC qual (defScope st) s.heap.objs.size f cdv)) → HandX (cxH CX0 P w K mg base N qual (defScope st) f cdv A outer s H E).nox → sp vs H Q E →
      ∃ t, PSs (cxH CX0 P w K mg base N qual (defScope st) f cdv A outer s H E).nox (defBody st) t ∧ t { nx := fun _ H' => Q .non H', rt := Q } (start N vs) H) : FnOkH P w K mg base CX0 (k + 1) f fd ps sp := by
  obtain ⟨oc, od, kV, doc, pm, an, cdv, ct, osl, rfl, lk, hcd⟩ := F.ex
  refine fn_ofH lk hcd S len fun A outer s H vs Q E hr hh hsp => ?_
  obtain ⟨t, h, q⟩ := hbody cdv A outer s H vs Q E hr hh hsp
  exact ⟨t, h.nox, q⟩
end
section
variable {X : Cx} {CX : CXT} {k : Nat} {f : Addr} {fd : FuncData} {ps : List Str} {sp : Sp} {dvs : List V} {ds : List Value} {E : XK} {x : Str} {p pos : Pos} {e : Expr} {es : List Expr} {t : TA}
theorem run_fnH {pins : List (Addr × Obj)} {σ : St} {H : Hp} {s : Shared} {Q : VK} {us : List Value} {vs : List V} (F : FnOkH X.prog X.w X.K X.mg X.base CX k f fd ps sp) (hr : RoomH k X.A) (hh : HandE X.A H) (hb : Binds X.K fd ps ds) (hd : Vals dvs ds) (hx : Passes CX X E)
    (I : Inv X pins σ H s) (r : Vals vs us) (h : sp (vs ++ dvs) H Q E) : wpAny (model X.prog X.w) X.A (call (.ref f) us) (EP X pins σ Q) X.xe s := by
  have r2 : Vals (vs ++ dvs) (us ++ ds) := r.append hd
  have hl : (us ++ ds).length = ps.length := by rw [← r2.length]; exact F.len _ _ _ _ h
  refine wpAny_call (codeAny_mono (F.run X.A X.stack s H ⟨us, []⟩ (us ++ ds) (vs ++ dvs) Q E hr hh I.env0 (hb s us I.kIn hl) r2 h) fun r s' hq => ?_)
  cases r with
  | error e => exact hx pins σ H s e s' I hq
  | ok fl =>
    cases fl with
    | ret u => exact I.after hq
    | next => exact False.elim hq
    | brk => exact False.elim hq
    | cont => exact False.elim hq
noncomputable def tCallX (a : Addr) (sp : Sp) (dvs : List V) (E : XK) (t : TA) : TE := fun σ H Q => t σ H fun vs H1 => (∃ C dx tt tb u, H1 a = some (.frz (excRec C dx tt tb) u)) ∧ sp (vs ++ dvs) H1 Q E
theorem pe_callX {a : Addr} (hA : X.A.handled = some (.ref a)) (F : FnOkH X.prog X.w X.K X.mg X.base CX k f fd ps sp) (hr : RoomH k X.A) (hg : Gl X x) (hm : X.mg x = some (.ref f)) (hk : PySem.W.keepIn X.K (.ref f) = true) (hb : Binds X.K fd ps ds) (hd : Vals dvs ds) (hx : Passes CX X E)
    (ha : PA X (e :: es) t) (hdb : (x == ("__debug__" : Str)) = false := by decide) (he : starEach (e :: es) X.env = (false, eval e X.env) :: starEach es X.env := by rfl) (hpl : (backTo pos (starEach es X.env)).any (·.1) = false := by rfl) :
    PE X (.Call (.Name x p) (e :: es) [] pos) (tCallX a sp dvs E t) := by
  intro pins s σ H Q I h
  refine wpAny_Call_Name_kw (ld_glob I hg hm ?_ hdb)
  refine PySem.W.callWith_K (h₀ := X.base) I.ok.mod.kin hk (thn (ha pos pins s σ H _ I h) fun us s1 zz => ?_) he hpl
  obtain ⟨vs, H1, I1, r, ⟨C, dx, tt, tb, u, hz⟩, q⟩ := zz
  refine ⟨I1.kIn, ?_⟩
  exact run_fnH F hr (.inr ⟨a, C, dx, tt, tb, u, hA, hz⟩) hb hd hx I1 r q
end
/-! ### targets -/
theorem pg_tupH {X : Cx} {es : List Expr} {k : Nat} {t : TGs} {n : Nat} {K : PySem.W.Frag} {pos : Pos} (hK : X.K = K) (hq : HandI X) (h : PGs X es t) (hn : (assignEach es X.env).length = n := by rfl) (hst : (assignEach es X.env).findIdx? (·.1) = none := by rfl) : PG X (.Tuple es k pos) (gTup K n t) := by
  subst hK
  intro pins s σ H v u Q I r hw
  obtain ⟨a, xs, e1, hs, hl, hw⟩ := hw
  subst e1
  cases r
  obtain ⟨its, rv, ht, hz⟩ := I.tuple hs
  rw [assign_Tuple]
  refine wpAny_bind (wpAny_standAt (unpack_hd (hd_of hq I) ht (by simp [hn, ← hl, rv.length]) hst fun h' hx => ?_))
  have I1 : Inv X pins σ H { s with heap := h' } := I.kept (t' := s.toks) fun b o e => hx b o (Nat.ne_of_lt (Heap.lt_size e)) e
  exact h pins _ σ H xs _ Q I1 (by simpa using rv) hw
end L2

set_option Elab.async false
set_option linter.all false
set_option maxRecDepth 100000
set_option maxHeartbeats 1000000
namespace L2
open PySem PySem.Spec PyProof.Rows
/-! ### two lists, two tuples of flat values -/
noncomputable def allEq (xs ys : List V) : Bool := (List.range xs.length).all fun j => eqV (xs.getD j .non) (ys.getD j .non)
theorem flat_get : ∀ {xs : List V} {j : Nat} {x : V}, xs.all flatV = true → xs[j]? = some x → flatV x = true
  | [], _, _, _, e => by simp at e
  | y :: xs, j, x, h, e => by
    rw [List.all_cons, Bool.and_eq_true] at h
    cases j with
    | zero => simp at e; subst e; exact h.1
    | succ j => exact flat_get h.2 (by simpa using e)
theorem eqAt_of {A : Around} {s : Shared} {xs ys : List V} {us vs : List Value} (r1 : Vals xs us) (r2 : Vals ys vs) (f1 : xs.all flatV = true) (f2 : ys.all flatV = true) (j : Nat) (h1 : j < us.toArray.size) (h2 : j < vs.toArray.size) :
    SeqAt.EqAt A s us.toArray[j] vs.toArray[j] (eqV (xs.getD j .non) (ys.getD j .non)) := by
  have l1 := r1.length
  have l2 := r2.length
  rw [List.size_toArray] at h1 h2
  have g1 : xs[j]? = some (xs.getD j .non) := by rw [List.getD_eq_getElem?_getD, List.getElem?_eq_getElem (by omega)]; rfl
  have g2 : ys[j]? = some (ys.getD j .non) := by rw [List.getD_eq_getElem?_getD, List.getElem?_eq_getElem (by omega)]; rfl
  obtain ⟨u, hu, ru⟩ := r1.get g1
  obtain ⟨v, hv, rv⟩ := r2.get g2
  have e1 : us.toArray[j] = u := by
    have := (List.getElem?_eq_some_iff.mp hu).2
    simpa using this
  have e2 : vs.toArray[j] = v := by
    have := (List.getElem?_eq_some_iff.mp hv).2
    simpa using this
  rw [e1, e2]
  exact eqAt_V ru rv (flat_get f1 g1) (flat_get f2 g2)
section
variable {X : Cx} {K : PySem.W.Frag}
noncomputable def rEqF (K : PySem.W.Frag) : R2 := fun x y H Q => ∃ p q xs ys, x = .ref p ∧ y = .ref q ∧ SqL K H p xs ∧ SqL K H q ys ∧ xs.all flatV = true ∧ ys.all flatV = true ∧ xs.length = ys.length ∧ Q (.bl (allEq xs ys)) H
theorem op_eqF (hK : X.K = K) (hu : X.A.units + 64 < cLine) : OpR X (compareOp .Eq) (rEqF K) := by
  subst hK
  intro pins s σ H x y v u Q I rx ry h
  obtain ⟨p, q, xs, ys, rfl, rfl, h1, h2, f1, f2, hl, hq⟩ := h
  cases rx
  cases ry
  obtain ⟨us, r1, p1, _⟩ := I.list h1
  obtain ⟨vs, r2, p2, _⟩ := I.list h2
  have l1 := r1.length
  have l2 := r2.length
  refine SeqAt.eq_listAt p1.isList p2.isList (by rw [List.size_toArray, List.size_toArray]; omega) (by omega) (eqAt_of r1 r2 f1 f2) ⟨.bl _, H, I, rfl, ?_⟩
  rw [List.size_toArray, ← l1]
  exact hq
end
end L2

set_option Elab.async false
set_option linter.all false
set_option maxRecDepth 100000
set_option maxHeartbeats 1000000
namespace L2
open PySem PySem.Spec PyProof.Rows
/-! ### min of a list of ints -/
section
variable {X : Cx} {K : PySem.W.Frag}
end
end L2

set_option Elab.async false
set_option linter.all false
set_option maxRecDepth 100000
set_option maxHeartbeats 1000000
namespace L2
open PySem PySem.Spec PyProof.Rows
/-! ### calls in a try's body, the exception's way told with the names' values -/
section
variable {X : Cx} {pins0 : List (Addr × Obj)} {Ex : Addr → Option Addr → St → Hp → Prop} {k : Nat} {f : Addr} {fd : FuncData} {ps : List Str} {sp : Sp} {dvs : List V} {ds : List Value} {x : Str} {p pos : Pos} {e : Expr} {es : List Expr} {t : TA}
theorem passN {P : Program} {w : World} {X : Cx} : Passes (CX1 P w) X E0 := fun _ _ _ _ _ _ _ h => by
  obtain ⟨_, _, _, _, _, _, _, _, _, _, z⟩ := h
  exact z.elim
end
/-! ### x is not None -/
end L2

set_option Elab.async false
set_option linter.all false
namespace L2
open PySem PySem.Spec PyProof.Rows
noncomputable def tSeqA (t u : TS) : TS := fun D σ H => ∀ N : St → Hp → Prop, (∀ σ' H', u D σ' H' → N σ' H') → t { D with nx := N } σ H
theorem pss_consA {X : Cx} {st : Stmt} {rest : List Stmt} {t u : TS} (h1 : PS X st t) (h2 : PSs X rest u) : PSs X (st :: rest) (tSeqA t u) := fun pins s σ H D I h => pss_cons h1 h2 pins s σ H D I (h (u D) fun _ _ z => z)
end L2

set_option Elab.async false
set_option linter.all false
namespace L2
open PySem PySem.Spec PyProof.Rows
noncomputable def rIxL0 : R2 := fun x y H Q => ∃ p xs i v, x = .ref p ∧ y = .int i ∧ H p = some (.lst xs) ∧ atI xs i = some v ∧ Q v H
noncomputable def rIxT0 : R2 := fun x y H Q => ∃ p xs i v, x = .ref p ∧ y = .int i ∧ H p = some (.tup xs) ∧ atI xs i = some v ∧ Q v H
theorem ix_list0 {X : Cx} : IxR X rIxL0 := by
  intro value slice pins s σ H x y v u Q I rx ry zz hs
  obtain ⟨p, xs, i, v', e1, e2, h, e, q⟩ := zz
  exact ix_list value slice pins s σ H x y v u Q I rx ry ⟨p, xs, i, v', e1, e2, SqL.of h, e, q⟩ hs
theorem ix_tup0 {X : Cx} : IxR X rIxT0 := by
  intro value slice pins s σ H x y v u Q I rx ry zz hs
  obtain ⟨p, xs, i, v', e1, e2, h, e, q⟩ := zz
  exact ix_tup value slice pins s σ H x y v u Q I rx ry ⟨p, xs, i, v', e1, e2, SqT.of h, e, q⟩ hs
theorem rdT {σ : St} {H : Hp} {p : Addr} {xs : List V} {i : Int} {v : V} {Q : VK} (h : H p = some (.tup xs)) (e : atI xs i = some v) (q : Q v H) : tC (.int i) σ H fun y H2 => rIxT0 (.ref p) y H2 Q := ⟨p, xs, i, v, rfl, rfl, h, e, q⟩
theorem rdL {σ : St} {H : Hp} {p : Addr} {xs : List V} {i : Int} {v : V} {Q : VK} (h : H p = some (.lst xs)) (e : atI xs i = some v) (q : Q v H) : tC (.int i) σ H fun y H2 => rIxL0 (.ref p) y H2 Q := ⟨p, xs, i, v, rfl, rfl, h, e, q⟩
theorem rdLv {σ : St} {H : Hp} {p : Addr} {xs : List V} {j : Nat} {i : Int} {v : V} {Q : VK} (h0 : σ[j]? = some (some (.int i))) (h : H p = some (.lst xs)) (e : atI xs i = some v) (q : Q v H) : tVar j σ H fun y H2 => rIxL0 (.ref p) y H2 Q := ⟨.int i, h0, p, xs, i, v, rfl, rfl, h, e, q⟩
end L2

/-! The mathematics of bounds: potentials, the table, functional rings. -/
namespace MA

noncomputable def pass (k : Nat) (T : Nat → Nat → Int) : Nat → Nat → Int := fun i j => min (T i j) (T i k + T k j)
noncomputable def mix (k a b : Nat) (T : Nat → Nat → Int) : Nat → Nat → Int := fun i j => if i < a ∨ (i = a ∧ j < b) then pass k T i j else T i j
theorem mix_zero (k : Nat) (T : Nat → Nat → Int) : mix k 0 0 T = T := by
  funext i j; unfold mix; rw [if_neg (by omega)]
theorem pass_row {k : Nat} {T : Nat → Nat → Int} (h : T k k = 0) (i : Nat) : pass k T i k = T i k := by unfold pass; omega
theorem pass_col {k : Nat} {T : Nat → Nat → Int} (h : T k k = 0) (j : Nat) : pass k T k j = T k j := by unfold pass; omega
theorem mix_row {k a b : Nat} {T : Nat → Nat → Int} (h : T k k = 0) (i : Nat) : mix k a b T i k = T i k := by
  unfold mix; split
  · exact pass_row h i
  · rfl
theorem mix_col {k a b : Nat} {T : Nat → Nat → Int} (h : T k k = 0) (j : Nat) : mix k a b T k j = T k j := by
  unfold mix; split
  · exact pass_col h j
  · rfl
theorem mix_here {k a b : Nat} {T : Nat → Nat → Int} : mix k a b T a b = T a b := by unfold mix; rw [if_neg (by omega)]
theorem mix_step {k a b : Nat} {T : Nat → Nat → Int} (i j : Nat) :
    (if i = a ∧ j = b then min (T a b) (T a k + T k b) else mix k a b T i j) = mix k a (b + 1) T i j := by
  by_cases e : i = a ∧ j = b
  · rw [if_pos e]
    obtain ⟨rfl, rfl⟩ := e
    unfold mix pass
    rw [if_pos (by omega)]
  · rw [if_neg e]
    unfold mix
    by_cases h : i < a ∨ (i = a ∧ j < b)
    · rw [if_pos h, if_pos (by omega)]
    · rw [if_neg h, if_neg (by omega)]
theorem mix_next {k a n : Nat} {T : Nat → Nat → Int} {i j : Nat} (hj : j < n) : mix k a n T i j = mix k (a + 1) 0 T i j := by
  unfold mix
  by_cases h : i < a ∨ (i = a ∧ j < n)
  · rw [if_pos h, if_pos (by omega)]
  · rw [if_neg h, if_neg (by omega)]
theorem mix_all {k n : Nat} {T : Nat → Nat → Int} {i j : Nat} (hi : i < n) : mix k n 0 T i j = pass k T i j := by
  unfold mix; rw [if_pos (by omega)]

structure Tab (n k : Nat) (p : Nat → Int) (T : Nat → Nat → Int) : Prop where
  low : ∀ i j, i < n → j < n → p j - p i ≤ T i j
  dia : ∀ i, i < n → T i i = 0
  tri : ∀ v, v < k → ∀ i j, i < n → j < n → T i j ≤ T i v + T v j
theorem Tab.pass {n k : Nat} {p : Nat → Int} {T : Nat → Nat → Int} (t : Tab n k p T) (hk : k < n) : Tab n (k + 1) p (pass k T) := by
  have d := t.dia k hk
  refine ⟨fun i j hi hj => ?_, fun i hi => ?_, fun v hv i j hi hj => ?_⟩
  · have h1 := t.low i j hi hj
    have h2 := t.low i k hi hk
    have h3 := t.low k j hk hj
    unfold MA.pass; omega
  · have h1 := t.low i k hi hk
    have h2 := t.low k i hk hi
    have h3 := t.dia i hi
    unfold MA.pass; omega
  · by_cases e : v = k
    · subst e
      rw [pass_row d, pass_col d]
      unfold MA.pass; omega
    · have hv' : v < k := by omega
      have hvn : v < n := by omega
      have a1 := t.tri v hv' i j hi hj
      have a2 := t.tri v hv' k j hk hj
      have a3 := t.tri v hv' i k hi hk
      have b1 := t.low k v hk hvn
      have b2 := t.low v k hvn hk
      unfold MA.pass; omega

/-! ### a function's ring -/
noncomputable def it (f : Nat → Nat) : Nat → Nat → Nat
  | 0, x => x
  | k + 1, x => f (it f k x)
theorem it_add (f : Nat → Nat) (a : Nat) : ∀ (b : Nat) (x : Nat), it f (a + b) x = it f a (it f b x) := by
  intro b x
  induction a with
  | zero => rw [Nat.zero_add]; rfl
  | succ a ih => rw [Nat.succ_add]; show f (it f (a + b) x) = f (it f a (it f b x)); rw [ih]
theorem it_lt {f : Nat → Nat} {n : Nat} (h : ∀ x, x < n → f x < n) {x : Nat} (hx : x < n) : ∀ k, it f k x < n
  | 0 => hx
  | k + 1 => h _ (it_lt h hx k)
theorem ring_of {f : Nat → Nat} {n : Nat} (h : ∀ x, x < n → f x < n) {x : Nat} (hx : x < n) : ∃ p, 1 ≤ p ∧ p ≤ n ∧ it f p (it f n x) = it f n x := by
  have nn : ¬ ((List.range (n + 1)).map fun k => it f k x).Nodup := fun nd => by
    have := List.Nodup.length_le_of_subset nd (l₂ := List.range n) (fun y hy => by
      obtain ⟨k, _, rfl⟩ := List.mem_map.mp hy
      exact List.mem_range.mpr (it_lt h hx k))
    simp at this
    omega
  have ex : ∃ i j, i < j ∧ j ≤ n ∧ it f i x = it f j x := by
    apply Classical.byContradiction
    intro no
    apply nn
    rw [List.nodup_iff_pairwise_ne, List.pairwise_map]
    refine List.Pairwise.imp_of_mem (R := (· < ·)) (fun {a b} ha hb hab e => no ⟨a, b, hab, ?_, e⟩) List.pairwise_lt_range
    have := List.mem_range.mp hb
    omega
  obtain ⟨i, j, hij, hj, e⟩ := ex
  refine ⟨j - i, by omega, by omega, ?_⟩
  have e1 : it f n x = it f (n - i) (it f i x) := by rw [← it_add]; congr 1; omega
  have e2 : it f (j - i) (it f n x) = it f (n - i) (it f j x) := by rw [← it_add, ← it_add]; congr 1; omega
  rw [e2, e1, e]
end MA

/-! Rounds of pushes, as the program does them. -/
namespace MB
open MA
noncomputable abbrev B3 := Nat × Nat × Int
structure Rx where
  t : Nat → Int
  p : Nat → Nat
  q : Option Nat
noncomputable def put (f : Nat → α) (i : Nat) (v : α) : Nat → α := fun j => if j = i then v else f j
noncomputable def relax (s : Rx) (x : B3) : Rx := if s.t x.1 < s.t x.2.1 - x.2.2 then ⟨put s.t x.1 (s.t x.2.1 - x.2.2), put s.p x.1 x.2.1, some x.1⟩ else s
noncomputable def begin (s : Rx) : Rx := ⟨s.t, s.p, none⟩
noncomputable def round (B : List B3) (s : Rx) : Rx := B.foldl relax (begin s)
noncomputable def rounds (B : List B3) : Nat → Rx
  | 0 => ⟨fun _ => 0, fun _ => 0, none⟩
  | k + 1 => round B (rounds B k)
noncomputable def InB (n : Nat) (B : List B3) : Prop := ∀ x ∈ B, x.1 < n ∧ x.2.1 < n
structure Rx.In (s : Rx) (n : Nat) : Prop where
  p : ∀ i, s.p i < n
  q : ∀ i, s.q = some i → i < n
theorem relax_in {s : Rx} {x : B3} {n : Nat} (h : s.In n) (h1 : x.1 < n) (h2 : x.2.1 < n) : (relax s x).In n := by
  unfold relax
  split
  · refine ⟨fun i => ?_, fun i e => ?_⟩
    · show put s.p x.1 x.2.1 i < n
      unfold put
      split
      · exact h2
      · exact h.p i
    · have : x.1 = i := Option.some.inj e
      omega
  · exact h
theorem fold_in {n : Nat} : ∀ {B : List B3} {s : Rx}, s.In n → InB n B → (B.foldl relax s).In n
  | [], _, h, _ => h
  | x :: B, s, h, hb => by
    rw [List.foldl_cons]
    exact fold_in (relax_in h (hb x List.mem_cons_self).1 (hb x List.mem_cons_self).2) fun y hy => hb y (List.mem_cons_of_mem _ hy)
theorem begin_in {s : Rx} {n : Nat} (h : s.In n) : (begin s).In n := ⟨h.p, fun _ e => nomatch e⟩
theorem rounds_in {n : Nat} {B : List B3} (hn : 0 < n) (hb : InB n B) : ∀ k, (rounds B k).In n
  | 0 => ⟨fun _ => hn, fun _ e => nomatch e⟩
  | k + 1 => fold_in (begin_in (rounds_in hn hb k)) hb
noncomputable def RingOf (f : Nat → Nat) (n x : Nat) (ring : List Nat) : Prop := ∃ L, 1 ≤ L ∧ L ≤ n ∧ ring = (List.range L).map (fun j => it f j (it f n x)) ∧ it f L (it f n x) = it f n x ∧ ∀ j, 0 < j → j < L → it f j (it f n x) ≠ it f n x
end MB

/-! The table of the tightest spans, as the program makes it. -/
namespace MB
open MA
noncomputable def T0 (la : Int) : Nat → Nat → Int := fun i j => if i = j then 0 else la
noncomputable def lower (T : Nat → Nat → Int) (x : B3) : Nat → Nat → Int := fun i j => if i = x.1 ∧ j = x.2.1 then min (T x.1 x.2.1) x.2.2 else T i j
noncomputable def tabB (B : List B3) (T : Nat → Nat → Int) : Nat → Nat → Int := B.foldl lower T
noncomputable def passN (T : Nat → Nat → Int) : Nat → Nat → Nat → Int
  | 0 => T
  | k + 1 => pass k (passN T k)
noncomputable def tightF (n : Nat) (la : Int) (B : List B3) : Nat → Nat → Int := passN (tabB B (T0 la)) n
structure Pot (n : Nat) (la : Int) (B : List B3) (p : Nat → Int) : Prop where
  la : ∀ i j, i < n → j < n → i ≠ j → p j - p i ≤ la
  b : ∀ x ∈ B, p x.2.1 - p x.1 ≤ x.2.2
theorem tab_lower {n : Nat} {p : Nat → Int} {T : Nat → Nat → Int} {x : B3} (t : Tab n 0 p T) (hx : p x.2.1 - p x.1 ≤ x.2.2) : Tab n 0 p (lower T x) := by
  refine ⟨fun i j hi hj => ?_, fun i hi => ?_, fun v hv => absurd hv (Nat.not_lt_zero _)⟩
  · unfold lower
    split
    · rename_i h
      obtain ⟨rfl, rfl⟩ := h
      have := t.low _ _ hi hj
      omega
    · exact t.low i j hi hj
  · unfold lower
    split
    · rename_i h
      obtain ⟨h1, h2⟩ := h
      have := t.dia i hi
      rw [← h1, ← h2] at hx ⊢
      omega
    · exact t.dia i hi
theorem tab_tabB {n : Nat} {p : Nat → Int} : ∀ {B : List B3} {T : Nat → Nat → Int}, Tab n 0 p T → (∀ x ∈ B, p x.2.1 - p x.1 ≤ x.2.2) → Tab n 0 p (tabB B T)
  | [], _, t, _ => t
  | x :: B, T, t, h => tab_tabB (B := B) (tab_lower t (h x List.mem_cons_self)) fun y hy => h y (List.mem_cons_of_mem _ hy)
theorem tab_start {n : Nat} {la : Int} {B : List B3} {p : Nat → Int} (h : Pot n la B p) : Tab n 0 p (tabB B (T0 la)) := by
  refine tab_tabB ⟨fun i j hi hj => ?_, fun i hi => ?_, fun v hv => absurd hv (Nat.not_lt_zero _)⟩ h.b
  · unfold T0
    split
    · rename_i e
      rw [e]
      omega
    · rename_i e
      exact h.la i j hi hj e
  · unfold T0
    rw [if_pos rfl]
theorem tab_pass {n : Nat} {la : Int} {B : List B3} {p : Nat → Int} (h : Pot n la B p) : ∀ k, k ≤ n → Tab n k p (passN (tabB B (T0 la)) k)
  | 0, _ => tab_start h
  | k + 1, hk => (tab_pass h k (by omega)).pass (by omega)
theorem tight_tab {n : Nat} {la : Int} {B : List B3} {p : Nat → Int} (h : Pot n la B p) : Tab n n p (tightF n la B) := tab_pass h n (Nat.le_refl _)
/-! it goes down -/
theorem lower_le {T : Nat → Nat → Int} {x : B3} (i j : Nat) : lower T x i j ≤ T i j := by
  unfold lower
  split
  · rename_i h
    obtain ⟨rfl, rfl⟩ := h
    omega
  · omega
theorem tabB_le : ∀ {B : List B3} {T : Nat → Nat → Int} (i j : Nat), tabB B T i j ≤ T i j
  | [], _, _, _ => Int.le_refl _
  | x :: B, T, i, j => Int.le_trans (tabB_le (B := B) (T := lower T x) i j) (lower_le i j)
theorem tabB_b : ∀ {B : List B3} {T : Nat → Nat → Int} {x : B3}, x ∈ B → tabB B T x.1 x.2.1 ≤ x.2.2
  | y :: B, T, x, h => by
    rcases List.mem_cons.mp h with e | e
    · subst e
      refine Int.le_trans (tabB_le (B := B) (T := lower T x) _ _) ?_
      unfold lower
      rw [if_pos ⟨rfl, rfl⟩]
      omega
    · exact tabB_b (B := B) (T := lower T y) e
theorem pass_le {k : Nat} {T : Nat → Nat → Int} (i j : Nat) : pass k T i j ≤ T i j := by unfold pass; omega
theorem passN_le {T : Nat → Nat → Int} (i j : Nat) : ∀ k, passN T k i j ≤ T i j
  | 0 => Int.le_refl _
  | k + 1 => Int.le_trans (pass_le i j) (passN_le i j k)
theorem tight_b {n : Nat} {la : Int} {B : List B3} {x : B3} (h : x ∈ B) : tightF n la B x.1 x.2.1 ≤ x.2.2 := Int.le_trans (passN_le _ _ _) (tabB_b h)
end MB

/-! A round of pushes too many shows a ring that comes to less than nought; else there are times. -/
namespace MB
open MA
structure Gh where
  s : Rx
  m : Nat → Int
  τ : Nat → Nat
  r : Nat → Nat
  c : Nat
noncomputable def relaxG (k : Nat) (g : Gh) (x : B3) : Gh := if g.s.t x.1 < g.s.t x.2.1 - x.2.2 then ⟨relax g.s x, put g.m x.1 x.2.2, put g.τ x.1 (g.c + 1), put g.r x.1 k, g.c + 1⟩ else g
noncomputable def roundG (B : List B3) (k : Nat) (g : Gh) : Gh := B.foldl (relaxG k) { g with s := begin g.s }
noncomputable def roundsG (B : List B3) : Nat → Gh
  | 0 => ⟨⟨fun _ => 0, fun _ => 0, none⟩, fun _ => 0, fun _ => 0, fun _ => 0, 0⟩
  | k + 1 => roundG B (k + 1) (roundsG B k)
theorem relaxG_s {k : Nat} {g : Gh} {x : B3} : (relaxG k g x).s = relax g.s x := by
  unfold relaxG
  split
  · rfl
  · rename_i h
    unfold relax
    rw [if_neg h]
theorem foldG_s {k : Nat} : ∀ {B : List B3} {g : Gh}, (B.foldl (relaxG k) g).s = B.foldl relax g.s
  | [], _ => rfl
  | x :: B, g => by rw [List.foldl_cons, List.foldl_cons, foldG_s, relaxG_s]
theorem roundsG_s {B : List B3} : ∀ k, (roundsG B k).s = rounds B k
  | 0 => rfl
  | k + 1 => by
    show (B.foldl (relaxG (k + 1)) { roundsG B k with s := begin (roundsG B k).s }).s = B.foldl relax (begin (rounds B k))
    rw [foldG_s, roundsG_s k]
structure Inv (B : List B3) (k : Nat) (g : Gh) : Prop where
  mem : ∀ v, 1 ≤ g.r v → (v, g.s.p v, g.m v) ∈ B
  le : ∀ v, 1 ≤ g.r v → g.s.t v ≤ g.s.t (g.s.p v) - g.m v
  st : ∀ v, 1 ≤ g.r v → g.s.p v ≠ v → g.s.t v < g.s.t (g.s.p v) - g.m v ∨ g.τ (g.s.p v) < g.τ v
  lo : ∀ v, 1 ≤ g.r v → g.s.p v = v → g.m v < 0
  cl : ∀ v, g.τ v ≤ g.c
  rr : ∀ v, g.r v ≤ k
  ch : ∀ v, 1 ≤ g.r v → g.r v ≤ g.r (g.s.p v) + 1
  bd : ∀ x ∈ B, g.s.t x.2.1 - x.2.2 ≤ g.s.t x.1 ∨ k ≤ g.r x.2.1 + 1
  q : ∀ v, g.s.q = some v → g.r v = k
theorem inv_relax {B : List B3} {k : Nat} {g : Gh} {x : B3} (h : Inv B k g) (hk : 1 ≤ k) (hx : x ∈ B) : Inv B k (relaxG k g x) := by
  obtain ⟨a, b, m⟩ := x
  by_cases hc : g.s.t a < g.s.t b - m
  · have e : relaxG k g (a, b, m) = ⟨⟨put g.s.t a (g.s.t b - m), put g.s.p a b, some a⟩, put g.m a m, put g.τ a (g.c + 1), put g.r a k, g.c + 1⟩ := by
      unfold relaxG
      rw [if_pos hc]
      unfold relax
      rw [if_pos hc]
    rw [e]
    have hb1 := (h.bd (a, b, m) hx).resolve_left (by show ¬ g.s.t b - m ≤ g.s.t a; omega)
    have hb2 : k ≤ g.r b + 1 := hb1
    have up : ∀ v, g.s.t v ≤ put g.s.t a (g.s.t b - m) v := fun v => by
      unfold put
      split
      · rename_i z; rw [z]; omega
      · omega
    have upr : ∀ v, g.r v ≤ put g.r a k v := fun v => by
      unfold put
      split
      · rename_i z; rw [z]; exact h.rr a
      · omega
    refine ⟨fun v hv => ?_, fun v hv => ?_, fun v hv hp => ?_, fun v hv hp => ?_, fun v => ?_, fun v => ?_, fun v hv => ?_, fun y hy => ?_, fun v hv => ?_⟩
    · by_cases e : v = a
      · subst e; simp [put]; exact hx
      · simp only [put, if_neg e] at hv ⊢
        exact h.mem v hv
    · by_cases e : v = a
      · subst e
        have := up b
        simp only [put, if_pos] at this ⊢
        omega
      · simp only [put, if_neg e] at hv ⊢
        have h1 := h.le v hv
        have h2 := up (g.s.p v)
        simp only [put] at h2
        omega
    · by_cases e : v = a
      · subst e
        have hp' : b ≠ v := by simpa [put] using hp
        right
        have h1 := h.cl b
        simp only [put, if_pos, if_neg hp']
        omega
      · simp only [put, if_neg e] at hv hp ⊢
        by_cases e2 : g.s.p v = a
        · left
          have h1 := h.le v hv
          rw [e2] at h1 ⊢
          simp only [if_pos]
          omega
        · rw [if_neg e2, if_neg e2]
          exact h.st v hv hp
    · by_cases e : v = a
      · subst e
        have hp' : b = v := by simpa [put] using hp
        subst hp'
        simp only [put, if_pos]
        omega
      · simp only [put, if_neg e] at hv hp ⊢
        exact h.lo v hv hp
    · have h1 := h.cl v
      show put g.τ a (g.c + 1) v ≤ g.c + 1
      unfold put
      split <;> omega
    · have h1 := h.rr v
      show put g.r a k v ≤ k
      unfold put
      split <;> omega
    · by_cases e : v = a
      · subst e
        have h2 := upr b
        show put g.r v k v ≤ put g.r v k (put g.s.p v b v) + 1
        have e1 : put g.r v k v = k := by simp [put]
        have e2 : put g.s.p v b v = b := by simp [put]
        rw [e1, e2]
        omega
      · have e1 : put g.r a k v = g.r v := by simp [put, e]
        have e2 : put g.s.p a b v = g.s.p v := by simp [put, e]
        show put g.r a k v ≤ put g.r a k (put g.s.p a b v) + 1
        have hv' : 1 ≤ g.r v := by rw [← e1]; exact hv
        have h1 := h.ch v hv'
        have h2 := upr (g.s.p v)
        rw [e1, e2]
        omega
    · obtain ⟨a', b', m'⟩ := y
      show put g.s.t a (g.s.t b - m) b' - m' ≤ put g.s.t a (g.s.t b - m) a' ∨ k ≤ put g.r a k b' + 1
      by_cases e : b' = a
      · right
        have : put g.r a k b' = k := by simp [put, e]
        omega
      · have e1 : put g.s.t a (g.s.t b - m) b' = g.s.t b' := by simp [put, e]
        rcases h.bd (a', b', m') hy with z | z
        · left
          have z : g.s.t b' - m' ≤ g.s.t a' := z
          have h2 := up a'
          rw [e1]
          omega
        · right
          have z : k ≤ g.r b' + 1 := z
          have h2 := upr b'
          omega
    · have : a = v := Option.some.inj hv
      subst this
      simp [put]
  · have e : relaxG k g (a, b, m) = g := by
      unfold relaxG
      rw [if_neg hc]
    rw [e]
    exact h
noncomputable def Done (k : Nat) (g : Gh) (x : B3) : Prop := g.s.t x.2.1 - x.2.2 ≤ g.s.t x.1 ∨ k ≤ g.r x.2.1
theorem done_relax {k : Nat} {g : Gh} {x y : B3} (hr : ∀ v, g.r v ≤ k) (h : Done k g y) : Done k (relaxG k g x) y := by
  obtain ⟨a, b, m⟩ := x
  obtain ⟨a', b', m'⟩ := y
  by_cases hc : g.s.t a < g.s.t b - m
  · have e : relaxG k g (a, b, m) = ⟨⟨put g.s.t a (g.s.t b - m), put g.s.p a b, some a⟩, put g.m a m, put g.τ a (g.c + 1), put g.r a k, g.c + 1⟩ := by
      unfold relaxG
      rw [if_pos hc]
      unfold relax
      rw [if_pos hc]
    rw [e]
    show put g.s.t a (g.s.t b - m) b' - m' ≤ put g.s.t a (g.s.t b - m) a' ∨ k ≤ put g.r a k b'
    by_cases e : b' = a
    · right; simp [put, e]
    · have e1 : put g.s.t a (g.s.t b - m) b' = g.s.t b' := by simp [put, e]
      have e2 : put g.r a k b' = g.r b' := by simp [put, e]
      have up : g.s.t a' ≤ put g.s.t a (g.s.t b - m) a' := by
        unfold put
        split
        · rename_i z; rw [z]; omega
        · omega
      rcases h with z | z
      · left
        have z : g.s.t b' - m' ≤ g.s.t a' := z
        rw [e1]; omega
      · right; rw [e2]; exact z
  · have e : relaxG k g (a, b, m) = g := by
      unfold relaxG
      rw [if_neg hc]
    rw [e]
    exact h
theorem done_self {k : Nat} {g : Gh} {x : B3} : Done k (relaxG k g x) x := by
  obtain ⟨a, b, m⟩ := x
  by_cases hc : g.s.t a < g.s.t b - m
  · have e : relaxG k g (a, b, m) = ⟨⟨put g.s.t a (g.s.t b - m), put g.s.p a b, some a⟩, put g.m a m, put g.τ a (g.c + 1), put g.r a k, g.c + 1⟩ := by
      unfold relaxG
      rw [if_pos hc]
      unfold relax
      rw [if_pos hc]
    rw [e]
    show put g.s.t a (g.s.t b - m) b - m ≤ put g.s.t a (g.s.t b - m) a ∨ k ≤ put g.r a k b
    by_cases e : b = a
    · right; simp [put, e]
    · left; simp [put, e]
  · have e : relaxG k g (a, b, m) = g := by
      unfold relaxG
      rw [if_neg hc]
    rw [e]
    left
    show g.s.t b - m ≤ g.s.t a
    omega
theorem fold_inv {B : List B3} {k : Nat} (hk : 1 ≤ k) : ∀ (C : List B3) (g : Gh), (∀ x ∈ C, x ∈ B) → Inv B k g → Inv B k (C.foldl (relaxG k) g)
  | [], _, _, h => h
  | x :: C, g, hc, h => fold_inv hk C _ (fun y hy => hc y (List.mem_cons_of_mem _ hy)) (inv_relax h hk (hc x List.mem_cons_self))
theorem fold_keep {B : List B3} {k : Nat} (hk : 1 ≤ k) {y : B3} : ∀ (C : List B3) (g : Gh), (∀ x ∈ C, x ∈ B) → Inv B k g → Done k g y → Done k (C.foldl (relaxG k) g) y
  | [], _, _, _, h => h
  | x :: C, g, hc, hi, h => fold_keep hk C _ (fun y hy => hc y (List.mem_cons_of_mem _ hy)) (inv_relax hi hk (hc x List.mem_cons_self)) (done_relax hi.rr h)
theorem fold_done {B : List B3} {k : Nat} (hk : 1 ≤ k) : ∀ (C : List B3) (g : Gh), (∀ x ∈ C, x ∈ B) → Inv B k g → ∀ y ∈ C, Done k (C.foldl (relaxG k) g) y
  | x :: C, g, hc, hi, y, hy => by
    have hi' := inv_relax hi hk (hc x List.mem_cons_self)
    have hc' : ∀ z ∈ C, z ∈ B := fun z hz => hc z (List.mem_cons_of_mem _ hz)
    rcases List.mem_cons.mp hy with e | e
    · subst e
      exact fold_keep hk C _ hc' hi' done_self
    · exact fold_done hk C _ hc' hi' y e
theorem rounds_inv {B : List B3} : ∀ k, Inv B (k + 1) { roundsG B k with s := begin (roundsG B k).s }
  | 0 => ⟨fun v hv => absurd hv (by show ¬ 1 ≤ 0; omega), fun v hv => absurd hv (by show ¬ 1 ≤ 0; omega), fun v hv => absurd hv (by show ¬ 1 ≤ 0; omega), fun v hv => absurd hv (by show ¬ 1 ≤ 0; omega), fun v => Nat.le_refl _, fun v => Nat.zero_le _, fun v hv => absurd hv (by show ¬ 1 ≤ 0; omega),
      fun x hx => .inr (by show 0 + 1 ≤ 0 + 1; omega), fun v hv => by cases hv⟩
  | k + 1 => by
    have h0 := rounds_inv (B := B) k
    have h1 := fold_inv (B := B) (by omega) B _ (fun x hx => hx) h0
    have hd := fold_done (B := B) (by omega) B _ (fun x hx => hx) h0
    exact ⟨h1.mem, h1.le, h1.st, h1.lo, h1.cl, fun v => Nat.le_succ_of_le (h1.rr v), h1.ch, fun x hx => (hd x hx).elim .inl fun z => .inr (Nat.succ_le_succ z), fun v hv => by cases hv⟩
theorem rounds_end {B : List B3} (k : Nat) : Inv B (k + 1) (roundsG B (k + 1)) := fold_inv (B := B) (by omega) B _ (fun x hx => hx) (rounds_inv k)
noncomputable def along (p : Nat → Nat) (f : Nat → Int) : Nat → Nat → Int
  | 0, _ => 0
  | j + 1, s => along p f j s + f (it p j s)
theorem ring_neg {B : List B3} {n x : Nat} {ring : List Nat} (hn : 1 ≤ n) (hb : InB n B) (hq : (rounds B n).q = some x) (hr : RingOf (rounds B n).p n x ring) :
    ∃ (L s : Nat) (m : Nat → Int), 1 ≤ L ∧ L ≤ n ∧ ring = (List.range L).map (fun j => it (rounds B n).p j s) ∧ it (rounds B n).p L s = s ∧ (∀ j, j < L → (it (rounds B n).p j s, it (rounds B n).p (j + 1) s, m (it (rounds B n).p j s)) ∈ B) ∧ along (rounds B n).p m L s < 0 := by
  obtain ⟨k, rfl⟩ : ∃ k, n = k + 1 := ⟨n - 1, by omega⟩
  have I := rounds_end (B := B) k
  have es := roundsG_s (B := B) (k + 1)
  rw [← es] at hq hr ⊢
  generalize roundsG B (k + 1) = g at *
  have hin : g.s.In (k + 1) := by rw [es]; exact rounds_in (by omega) hb _
  have hx : x < k + 1 := hin.q x hq
  have hrx : g.r x = k + 1 := I.q x hq
  -- the first n steps lead through moments that were pushed
  have step : ∀ j, j ≤ k → k + 1 ≤ g.r (it g.s.p j x) + j := fun j => by
    induction j with
    | zero => intro _; show k + 1 ≤ g.r x + 0; omega
    | succ j ih =>
      intro hj
      have h1 := ih (by omega)
      have h2 := I.ch (it g.s.p j x) (by omega)
      show k + 1 ≤ g.r (g.s.p (it g.s.p j x)) + (j + 1)
      omega
  have lt : ∀ j, it g.s.p j x < k + 1 := fun j => it_lt (fun y _ => hin.p y) hx j
  -- all that follow are among the first n
  have among : ∀ j, ∃ i, i ≤ k ∧ it g.s.p j x = it g.s.p i x := by
    have ex : ∃ i j, i < j ∧ j ≤ k + 1 ∧ it g.s.p i x = it g.s.p j x := by
      apply Classical.byContradiction
      intro no
      have nd : ((List.range (k + 1 + 1)).map fun j => it g.s.p j x).Nodup := by
        rw [List.nodup_iff_pairwise_ne, List.pairwise_map]
        refine List.Pairwise.imp_of_mem (R := (· < ·)) (fun {a b} ha hb hab e => no ⟨a, b, hab, ?_, e⟩) List.pairwise_lt_range
        have := List.mem_range.mp hb
        omega
      have := List.Nodup.length_le_of_subset nd (l₂ := List.range (k + 1)) (fun y hy => by
        obtain ⟨j, _, rfl⟩ := List.mem_map.mp hy
        exact List.mem_range.mpr (lt j))
      simp at this
      omega
    obtain ⟨i, j, hij, hj, e⟩ := ex
    intro d
    induction d with
    | zero => exact ⟨0, Nat.zero_le _, rfl⟩
    | succ d ih =>
      obtain ⟨c, hc, ec⟩ := ih
      by_cases h : c + 1 ≤ k
      · exact ⟨c + 1, h, congrArg g.s.p ec⟩
      · -- c = k: step k + 1, at most j
        have hck : c = k := by omega
        subst hck
        have e2 : it g.s.p (c + 1) x = it g.s.p (i + (c + 1 - j)) x := by
          have a1 : it g.s.p (c + 1) x = it g.s.p (c + 1 - j) (it g.s.p j x) := by rw [← it_add]; congr 1; omega
          have a2 : it g.s.p (i + (c + 1 - j)) x = it g.s.p (c + 1 - j) (it g.s.p i x) := by rw [← it_add]; congr 1; omega
          rw [a1, a2, e]
        exact ⟨i + (c + 1 - j), by omega, (congrArg g.s.p ec).trans e2⟩
  have pushed : ∀ j, 1 ≤ g.r (it g.s.p j x) := fun j => by
    obtain ⟨i, hi, e⟩ := among j
    rw [e]
    have := step i hi
    omega
  obtain ⟨L, L1, Ln, er, eL, hne⟩ := hr
  have pS : ∀ j, 1 ≤ g.r (it g.s.p j (it g.s.p (k + 1) x)) := fun j => by rw [← it_add]; exact pushed _
  generalize it g.s.p (k + 1) x = s at *
  refine ⟨L, s, g.m, L1, Ln, er, eL, fun j hj => I.mem _ (pS j), ?_⟩
  -- the sum
  have tele : ∀ j, along g.s.p g.m j s ≤ g.s.t (it g.s.p j s) - g.s.t s := fun j => by
    induction j with
    | zero => show (0 : Int) ≤ g.s.t s - g.s.t s; omega
    | succ j ih =>
      have h1 := I.le _ (pS j)
      show along g.s.p g.m j s + g.m (it g.s.p j s) ≤ g.s.t (g.s.p (it g.s.p j s)) - g.s.t s
      omega
  by_cases hL : L = 1
  · subst hL
    have h1 := I.lo s (pS 0) eL
    show (0 : Int) + g.m s < 0
    omega
  · -- somewhere it is strict, else the stamps fall all the way round
    have alt : ∀ j, j ≤ L → along g.s.p g.m j s < g.s.t (it g.s.p j s) - g.s.t s ∨ g.τ (it g.s.p j s) + j ≤ g.τ s := fun j => by
      induction j with
      | zero => intro _; right; show g.τ s + 0 ≤ g.τ s; omega
      | succ j ih =>
        intro hj
        have hnj : g.s.p (it g.s.p j s) ≠ it g.s.p j s := fun z => by
          -- then it stays there, and s is reached at L
          have stay : ∀ d, it g.s.p (j + d) s = it g.s.p j s := fun d => by
            induction d with
            | zero => rfl
            | succ d ih2 => show g.s.p (it g.s.p (j + d) s) = _; rw [ih2]; exact z
          have e1 := stay (L - j)
          rw [show j + (L - j) = L by omega, eL] at e1
          -- s itself is fixed: then L = 1
          have e2 : it g.s.p 1 s = s := by
            show g.s.p s = s
            have z' := z
            rw [← e1] at z'
            exact z'
          exact hne 1 (by omega) (by omega) e2
        have h1 := I.le _ (pS j)
        rcases ih (by omega) with h2 | h2
        · left
          show along g.s.p g.m j s + g.m (it g.s.p j s) < g.s.t (g.s.p (it g.s.p j s)) - g.s.t s
          omega
        · rcases I.st _ (pS j) hnj with h3 | h3
          · left
            have h4 := tele j
            show along g.s.p g.m j s + g.m (it g.s.p j s) < g.s.t (g.s.p (it g.s.p j s)) - g.s.t s
            omega
          · right
            show g.τ (g.s.p (it g.s.p j s)) + (j + 1) ≤ g.τ s
            omega
    rcases alt L (Nat.le_refl _) with h | h
    · rw [eL] at h
      omega
    · rw [eL] at h
      omega
end MB

/-! The law's own table, in place; both tables are one. -/
namespace MB
open MA
noncomputable abbrev Tb := Nat → Nat → Int
noncomputable def cell (k a b : Nat) (T : Tb) : Tb := fun i j => if i = a ∧ j = b then min (T a b) (T a k + T k b) else T i j
noncomputable def rowI (k a : Nat) : Nat → Tb → Tb
  | 0, T => T
  | b + 1, T => cell k a b (rowI k a b T)
noncomputable def passI (k n : Nat) : Nat → Tb → Tb
  | 0, T => T
  | a + 1, T => rowI k a n (passI k n a T)
noncomputable def allI (n : Nat) : Nat → Tb → Tb
  | 0, T => T
  | k + 1, T => passI k n n (allI n k T)
noncomputable def EqOn (n : Nat) (T U : Tb) : Prop := ∀ i j, i < n → j < n → T i j = U i j
theorem EqOn.refl {n : Nat} (T : Tb) : EqOn n T T := fun _ _ _ _ => rfl
theorem EqOn.trans {n : Nat} {T U V : Tb} (a : EqOn n T U) (b : EqOn n U V) : EqOn n T V := fun i j hi hj => (a i j hi hj).trans (b i j hi hj)
theorem EqOn.symm {n : Nat} {T U : Tb} (a : EqOn n T U) : EqOn n U T := fun i j hi hj => (a i j hi hj).symm
theorem cell_on {n k a b : Nat} {T U : Tb} (hk : k < n) (ha : a < n) (hb : b < n) (h : EqOn n T U) : EqOn n (cell k a b T) (cell k a b U) := fun i j hi hj => by
  unfold cell
  rw [h a b ha hb, h a k ha hk, h k b hk hb, h i j hi hj]
theorem row_on {n k a : Nat} {T U : Tb} (hk : k < n) (ha : a < n) (h : EqOn n T U) : ∀ b, b ≤ n → EqOn n (rowI k a b T) (rowI k a b U)
  | 0, _ => h
  | b + 1, hb => cell_on hk ha (by omega) (row_on hk ha h b (by omega))
theorem pass_on {n k : Nat} {T U : Tb} (hk : k < n) (h : EqOn n T U) : ∀ a, a ≤ n → EqOn n (passI k n a T) (passI k n a U)
  | 0, _ => h
  | a + 1, ha => row_on hk (by omega) (pass_on hk h a (by omega)) n (Nat.le_refl _)
theorem row_mix {k a : Nat} {T : Tb} (d : T k k = 0) : ∀ b, rowI k a b (mix k a 0 T) = mix k a b T
  | 0 => rfl
  | b + 1 => by
    show cell k a b (rowI k a b (mix k a 0 T)) = _
    rw [row_mix d b]
    funext i j
    show (if i = a ∧ j = b then min (mix k a b T a b) (mix k a b T a k + mix k a b T k b) else mix k a b T i j) = _
    rw [mix_here, mix_row d, mix_col d]
    exact mix_step i j
theorem pass_mix {k n : Nat} {T : Tb} (hk : k < n) (d : T k k = 0) : ∀ a, a ≤ n → EqOn n (passI k n a T) (mix k a 0 T)
  | 0, _ => by rw [mix_zero]; exact EqOn.refl T
  | a + 1, ha => by
    refine (row_on hk (by omega) (pass_mix hk d a (by omega)) n (Nat.le_refl _)).trans ?_
    rw [row_mix d]
    exact fun i j _ hj => mix_next hj
theorem pass_is {k n : Nat} {T : Tb} (hk : k < n) (d : T k k = 0) : EqOn n (passI k n n T) (pass k T) := (pass_mix hk d n (Nat.le_refl _)).trans fun _ _ hi _ => mix_all hi
theorem all_pot {n : Nat} {la : Int} {B : List B3} {p : Nat → Int} (h : Pot n la B p) : ∀ k, k ≤ n → EqOn n (allI n k (tabB B (T0 la))) (passN (tabB B (T0 la)) k)
  | 0, _ => EqOn.refl _
  | k + 1, hk => by
    have d := (tab_pass h k (by omega)).dia k (by omega)
    exact (pass_on (by omega) (all_pot h k (by omega)) n (Nat.le_refl _)).trans (pass_is (by omega) d)
theorem law_tab {n : Nat} {la : Int} {B : List B3} {p : Nat → Int} (h : Pot n la B p) : EqOn n (allI n n (tabB B (T0 la))) (tightF n la B) := all_pot h n (Nat.le_refl _)
/-! it goes down -/
theorem cell_le {k a b : Nat} {T : Tb} (i j : Nat) : cell k a b T i j ≤ T i j := by
  unfold cell
  split
  · rename_i h
    obtain ⟨rfl, rfl⟩ := h
    omega
  · omega
theorem row_le {k a : Nat} {T : Tb} (i j : Nat) : ∀ b, rowI k a b T i j ≤ T i j
  | 0 => Int.le_refl _
  | b + 1 => Int.le_trans (cell_le i j) (row_le i j b)
theorem passI_le {k n : Nat} {T : Tb} (i j : Nat) : ∀ a, passI k n a T i j ≤ T i j
  | 0 => Int.le_refl _
  | a + 1 => Int.le_trans (row_le i j n) (passI_le i j a)
theorem allI_le {n : Nat} {T : Tb} (i j : Nat) : ∀ k, allI n k T i j ≤ T i j
  | 0 => Int.le_refl _
  | k + 1 => Int.le_trans (passI_le i j n) (allI_le i j k)
theorem allI_le2 {n : Nat} {T : Tb} (i j : Nat) : ∀ d k, allI n (k + d) T i j ≤ allI n k T i j
  | 0, k => Int.le_refl _
  | d + 1, k => Int.le_trans (passI_le i j n) (allI_le2 i j d k)
structure Fine (n k : Nat) (T : Tb) : Prop where
  dia : ∀ i, i < n → T i i = 0
  tri : ∀ v, v < k → ∀ i j, i < n → j < n → T i j ≤ T i v + T v j
theorem fine_pass {n k : Nat} {T : Tb} (t : Fine n k T) (hk : k < n) (h : ∀ i, i < n → 0 ≤ pass k T i i) : Fine n (k + 1) (pass k T) := by
  have d := t.dia k hk
  refine ⟨fun i hi => ?_, fun v hv i j hi hj => ?_⟩
  · have h1 := h i hi
    have h2 := t.dia i hi
    have h3 := pass_le (k := k) (T := T) i i
    omega
  · by_cases e : v = k
    · subst e
      rw [pass_row d, pass_col d]
      unfold MA.pass; omega
    · have hv' : v < k := by omega
      have a1 := t.tri v hv' i j hi hj
      have a2 := t.tri v hv' k j hk hj
      have a3 := t.tri v hv' i k hi hk
      have a4 := t.tri v hv' k k hk hk
      unfold MA.pass; omega
theorem Fine.on {n k : Nat} {T U : Tb} (t : Fine n k T) (e : EqOn n T U) (hk : k ≤ n) : Fine n k U :=
  ⟨fun i hi => by rw [← e i i hi hi]; exact t.dia i hi, fun v hv i j hi hj => by rw [← e i j hi hj, ← e i v hi (by omega), ← e v j (by omega) hj]; exact t.tri v hv i j hi hj⟩
theorem all_fine {n : Nat} {T : Tb} (h0 : ∀ i, i < n → T i i ≤ 0) (h : ∀ i, i < n → 0 ≤ allI n n T i i) : ∀ k, k ≤ n → Fine n k (allI n k T)
  | 0, _ => ⟨fun i hi => by
      have h1 := h i hi
      have h2 := allI_le (n := n) (T := T) i i n
      have h3 := h0 i hi
      show T i i = 0
      omega, fun v hv => absurd hv (Nat.not_lt_zero _)⟩
  | k + 1, hk => by
    have f := all_fine h0 h k (by omega)
    have e := pass_is (n := n) (by omega) (f.dia k (by omega))
    have g : ∀ i, i < n → 0 ≤ pass k (allI n k T) i i := fun i hi => by
      rw [← e i i hi hi]
      have h2 := allI_le2 (n := n) (T := T) i i (n - (k + 1)) (k + 1)
      rw [show k + 1 + (n - (k + 1)) = n by omega] at h2
      have h1 := h i hi
      have h3 : allI n (k + 1) T i i = passI k n n (allI n k T) i i := rfl
      omega
    exact (fine_pass f (by omega) g).on e.symm hk
theorem dia0 {la : Int} {B : List B3} (i : Nat) : tabB B (T0 la) i i ≤ 0 := by
  have := tabB_le (B := B) (T := T0 la) i i
  have e : T0 la i i = 0 := by unfold T0; rw [if_pos rfl]
  omega
theorem times_of {n : Nat} {la : Int} {B : List B3} (hn : 0 < n) (hb : InB n B) (h : ∀ i, i < n → 0 ≤ allI n n (tabB B (T0 la)) i i) : ∃ p : Nat → Int, ∀ x ∈ B, p x.2.1 - p x.1 ≤ x.2.2 := by
  have f : Fine n n (allI n n (tabB B (T0 la))) := all_fine (T := tabB B (T0 la)) (fun i _ => dia0 i) h n (Nat.le_refl _)
  refine ⟨fun j => allI n n (tabB B (T0 la)) 0 j, fun x hx => ?_⟩
  obtain ⟨h1, h2⟩ := hb x hx
  have a := f.tri x.1 h1 0 x.2.1 hn h2
  have b := Int.le_trans (allI_le (n := n) (T := tabB B (T0 la)) x.1 x.2.1 n) (tabB_b hx)
  show allI n n (tabB B (T0 la)) 0 x.2.1 - allI n n (tabB B (T0 la)) 0 x.1 ≤ x.2.2
  omega
theorem no_times {B : List B3} {p : Nat → Nat} {L s : Nat} {m : Nat → Int} (eL : it p L s = s) (hm : ∀ j, j < L → (it p j s, it p (j + 1) s, m (it p j s)) ∈ B) (hs : along p m L s < 0) (t : Nat → Int) (ht : ∀ x ∈ B, t x.2.1 - t x.1 ≤ x.2.2) : False := by
  have : ∀ j, j ≤ L → t (it p j s) - t s ≤ along p m j s := fun j => by
    induction j with
    | zero => intro _; show t s - t s ≤ 0; omega
    | succ j ih =>
      intro hj
      have h1 := ih (by omega)
      have h2 : t (it p (j + 1) s) - t (it p j s) ≤ m (it p j s) := ht _ (hm j (by omega))
      show t (it p (j + 1) s) - t s ≤ along p m j s + m (it p j s)
      omega
  have h := this L (Nat.le_refl _)
  rw [eL] at h
  omega
theorem two_ways {B : List B3} {n : Nat} (hn : 1 ≤ n) (hb : InB n B) : (∃ k, k < n ∧ (rounds B (k + 1)).q = none) ∨ ((∀ k, k < n → (rounds B (k + 1)).q ≠ none) ∧ ¬ ∃ p : Nat → Int, ∀ x ∈ B, p x.2.1 - p x.1 ≤ x.2.2) := by
  by_cases h : ∃ k, k < n ∧ (rounds B (k + 1)).q = none
  · exact .inl h
  · have hno : ∀ k, k < n → (rounds B (k + 1)).q ≠ none := fun k hk e => h ⟨k, hk, e⟩
    refine .inr ⟨hno, ?_⟩
    rintro ⟨p, hp⟩
    have hq := hno (n - 1) (by omega)
    rw [show n - 1 + 1 = n by omega] at hq
    cases hx : (rounds B n).q with
    | none => exact hq hx
    | some x =>
      have hin := rounds_in (n := n) (by omega) hb n
      obtain ⟨per, h1, h2, h3⟩ := ring_of (fun y _ => hin.p y) (hin.q x hx)
      -- the least such
      have least : ∃ L, 1 ≤ L ∧ L ≤ n ∧ it (rounds B n).p L (it (rounds B n).p n x) = it (rounds B n).p n x ∧ ∀ j, 0 < j → j < L → it (rounds B n).p j (it (rounds B n).p n x) ≠ it (rounds B n).p n x := by
        have : ∀ d L, 1 ≤ L → L ≤ n → L ≤ d → it (rounds B n).p L (it (rounds B n).p n x) = it (rounds B n).p n x → ∃ L, 1 ≤ L ∧ L ≤ n ∧ it (rounds B n).p L (it (rounds B n).p n x) = it (rounds B n).p n x ∧ ∀ j, 0 < j → j < L → it (rounds B n).p j (it (rounds B n).p n x) ≠ it (rounds B n).p n x := by
          intro d
          induction d with
          | zero => intro L a _ b; omega
          | succ d ih =>
            intro L a1 a2 a3 a4
            by_cases z : ∀ j, 0 < j → j < L → it (rounds B n).p j (it (rounds B n).p n x) ≠ it (rounds B n).p n x
            · exact ⟨L, a1, a2, a4, z⟩
            · have : ∃ j, 0 < j ∧ j < L ∧ it (rounds B n).p j (it (rounds B n).p n x) = it (rounds B n).p n x := by
                apply Classical.byContradiction
                intro no
                exact z fun j b1 b2 b3 => no ⟨j, b1, b2, b3⟩
              obtain ⟨j, b1, b2, b3⟩ := this
              exact ih j b1 (by omega) (by omega) b3
        exact this n per h1 h2 h2 h3
      obtain ⟨L, l1, l2, l3, l4⟩ := least
      obtain ⟨L', s, m, _, _, _, e1, e2, e3⟩ := ring_neg (n := n) (x := x) hn hb hx ⟨L, l1, l2, rfl, l3, l4⟩
      exact no_times e1 e2 e3 p hp
theorem tight_same {n : Nat} {la lb : Int} {B : List B3} {p q : Nat → Int} (h1 : Pot n la B p) (h2 : Pot n lb B q) (g1 : ∀ i j, i < n → j < n → tightF n la B i j ≤ lb) (g2 : ∀ i j, i < n → j < n → tightF n lb B i j ≤ la) (hb : InB n B) : EqOn n (tightF n la B) (tightF n lb B) := by
  have t1 := tight_tab h1
  have t2 := tight_tab h2
  have side : ∀ {la lb : Int} {p q : Nat → Int}, Pot n la B p → Pot n lb B q → Tab n n p (tightF n la B) → (∀ i j, i < n → j < n → tightF n la B i j ≤ lb) → ∀ i j, i < n → j < n → tightF n la B i j ≤ tightF n lb B i j := by
    intro la lb p q h1 h2 t1 g i j hi hj
    have P : Pot n lb B (fun y => tightF n la B i y) := ⟨fun a b ha hb' hne => by
      have := t1.tri a ha i b hi hb'
      have := g a b ha hb'
      show tightF n la B i b - tightF n la B i a ≤ lb
      omega, fun x hx => by
      obtain ⟨b1, b2⟩ := hb x hx
      have := t1.tri x.1 b1 i x.2.1 hi b2
      have := tight_b (n := n) (la := la) hx
      show tightF n la B i x.2.1 - tightF n la B i x.1 ≤ x.2.2
      omega⟩
    have l := (tight_tab P).low i j hi hj
    have d := t1.dia i hi
    have l : tightF n la B i j - tightF n la B i i ≤ tightF n lb B i j := l
    omega
  intro i j hi hj
  have a := side h1 h2 t1 g1 i j hi hj
  have b := side h2 h1 t2 g2 i j hi hj
  omega
end MB

/-! The program's table and the law's. -/
namespace MB
open MA
structure Room0 (n : Nat) (la : Int) (B : List B3) : Prop where
  up : ∀ i, 1 ≤ i → i < n → (0, i, la) ∈ B
  dn : ∀ i, 1 ≤ i → i < n → (i, 0, 0) ∈ B
theorem T0_le {la : Int} (h : 0 ≤ la) (i j : Nat) : T0 la i j ≤ la := by
  unfold T0
  split <;> omega
theorem tight_la {n : Nat} {la : Int} {B : List B3} (h : 0 ≤ la) (i j : Nat) : tightF n la B i j ≤ la := Int.le_trans (passN_le _ _ _) (Int.le_trans (tabB_le _ _) (T0_le h i j))
theorem tight_room {n : Nat} {la lb : Int} {B : List B3} {p : Nat → Int} (hla : 0 ≤ la) (r : Room0 n la B) (h : Pot n lb B p) (i j : Nat) (hi : i < n) (hj : j < n) : tightF n lb B i j ≤ la := by
  have t := tight_tab h
  by_cases e : i = j
  · rw [e, t.dia j hj]; exact hla
  · have n0 : 0 < n := by omega
    by_cases i0 : i = 0
    · subst i0
      exact tight_b (r.up j (by omega) hj)
    · have a : tightF n lb B i 0 ≤ 0 := tight_b (r.dn i (by omega) hi)
      by_cases j0 : j = 0
      · subst j0; omega
      · have b : tightF n lb B 0 j ≤ la := tight_b (r.up j (by omega) hj)
        have c := t.tri 0 n0 i j hi hj
        omega
theorem Pot.wider {n : Nat} {la lb : Int} {B : List B3} {p : Nat → Int} (h : Pot n la B p) (hl : la ≤ lb) : Pot n lb B p := ⟨fun i j hi hj e => Int.le_trans (h.la i j hi hj e) hl, h.b⟩
theorem law_is {n : Nat} {la lb : Int} {B : List B3} {p : Nat → Int} (hla : 0 ≤ la) (hl : la ≤ lb) (r : Room0 n la B) (hb : InB n B) (h : Pot n la B p) : EqOn n (allI n n (tabB B (T0 lb))) (tightF n la B) :=
  (law_tab (h.wider hl)).trans ((tight_same h (h.wider hl) (fun i j _ _ => Int.le_trans (tight_la hla i j) hl) (fun i j hi hj => tight_room hla r (h.wider hl) i j hi hj) hb).symm)
end MB

set_option Elab.async false
set_option linter.all false
namespace W
open PySem L2
noncomputable def top (i : Nat) : Stmt := PySem.Challenge.pw_momentties_k03_times_kept.main.body.getD i (.Pass ⟨0, 0, 0, 0⟩)
noncomputable abbrev sC_NoTimes_init : Stmt := inClass (top 4) 0
noncomputable abbrev sP_room_bounds : Stmt := top 9
noncomputable abbrev sP_span_bounds : Stmt := top 10
noncomputable abbrev sP_bounds_with : Stmt := top 11
noncomputable abbrev sP_told_bounds : Stmt := top 12
noncomputable abbrev sP_ring_behind : Stmt := top 13
noncomputable abbrev sP_earliest_times : Stmt := top 14
noncomputable abbrev sP_tight_table : Stmt := top 16
noncomputable abbrev sP_tight : Stmt := top 17
noncomputable abbrev sP_earliest : Stmt := top 18
noncomputable abbrev sP_latest : Stmt := top 19
noncomputable abbrev sP_keeps : Stmt := top 20
noncomputable abbrev sP_are_two_moments : Stmt := top 26
noncomputable abbrev sP_look_over_size : Stmt := top 27
noncomputable abbrev sP_look_over_ties : Stmt := top 28
noncomputable abbrev sP_look_over_falls : Stmt := top 29
noncomputable abbrev sC_Web_init : Stmt := inClass (top 30) 0
noncomputable abbrev sC_Web_ties : Stmt := inClass (top 30) 1
noncomputable abbrev sC_Web_falls : Stmt := inClass (top 30) 2
noncomputable abbrev sNext : Stmt := top 32
noncomputable abbrev sL_like : Stmt := top 34
noncomputable abbrev sNamed : Stmt := top 35
noncomputable abbrev sFalls : Stmt := top 36
noncomputable abbrev sTies : Stmt := top 37
noncomputable abbrev sWeb : Stmt := top 38
noncomputable abbrev sL_bounds : Stmt := top 39
noncomputable abbrev sL_table : Stmt := top 40
noncomputable abbrev sL_is : Stmt := top 41
noncomputable abbrev sL_keeps : Stmt := top 42
noncomputable abbrev sL_none : Stmt := top 43
noncomputable abbrev sLaw : Stmt := top 44
end W

set_option Elab.async false
set_option linter.all false
set_option maxRecDepth 100000
set_option maxHeartbeats 4000000
namespace W
open PySem L2

structure Fn (K : PySem.W.Frag) (mg : Str → Option Value) (x : Str) (st : Stmt) (ps : List Str) (f : Addr) (fd : FuncData) : Prop where
  F : Fun K x x st f fd
  b : Binds K fd ps []
  g : mg x = some (.ref f)

end W
namespace L2
open PySem
/-! ### heaps -/
noncomputable def Keep (d : Addr) (H H' : Hp) : Prop := ∀ b o, H b = some o → b ≠ d → H' b = some o
theorem Keep.refl (d : Addr) (H : Hp) : Keep d H H := fun _ _ e _ => e
theorem Keep.trans {d : Addr} {H H1 H2 : Hp} (x : Keep d H H1) (y : Keep d H1 H2) : Keep d H H2 := fun b o e n => y b o (x b o e n) n
theorem same_new {H : Hp} {p : Addr} {o : HO} (h : H p = none) : Same H (upd H p o) := fun b u e => by rw [upd_ne (ne_of_none e h)]; exact e

end L2
namespace W
open PySem L2
noncomputable def ScrAt (K : PySem.W.Frag) (H : Hp) (sa : Addr) (ns : List Int) : Prop := (∃ o, H sa = some (.frz o (.lst (ns.map V.int)))) ∨
  ∃ (o : Obj) (its : Array Value) (n : Nat), K.lookup sa = some o ∧ o.cls = .type "list" ∧ o.dict = none ∧ o.data = .seq its n ∧ its.size ≤ sizeLine ∧ Vals (ns.map V.int) its.toList
theorem ScrAt.sq {K : PySem.W.Frag} {H : Hp} {sa : Addr} {ns : List Int} (h : ScrAt K H sa ns) : SqL K H sa (ns.map V.int) := by
  rcases h with ⟨o, h⟩ | h
  · exact .inl (.inr ⟨o, h⟩)
  · exact .inr h
theorem ScrAt.same {K : PySem.W.Frag} {H H1 : Hp} {sa : Addr} {ns : List Int} (h : ScrAt K H sa ns) (k : Same H H1) : ScrAt K H1 sa ns := by
  rcases h with ⟨o, h⟩ | h
  · exact .inl ⟨o, k _ _ h⟩
  · exact .inr h
theorem ScrAt.keep {K : PySem.W.Frag} {H H1 : Hp} {sa l : Addr} {ns : List Int} {xs : List V} (h : ScrAt K H sa ns) (k : Keep l H H1) (hl : H l = some (.lst xs)) : ScrAt K H1 sa ns := by
  rcases h with ⟨o, h⟩ | h
  · exact .inl ⟨o, k _ _ h (ne_of h hl (fun z => nomatch z))⟩
  · exact .inr h
structure Dice (K : PySem.W.Frag) (sa : Addr) (H : Hp) (d : Addr) : Prop where
  at_ : ∃ p : Nat, H d = some (.lst [.ref sa, .int p])
  scr : ∃ ns : List Int, ScrAt K H sa ns
theorem Dice.same {K : PySem.W.Frag} {sa d : Addr} {H H1 : Hp} (x : Dice K sa H d) (k : Same H H1) : Dice K sa H1 d := by
  obtain ⟨⟨p, h⟩, ⟨ns, r⟩⟩ := x
  exact ⟨⟨p, k _ _ h⟩, ⟨ns, r.same k⟩⟩

noncomputable def spNext (K : PySem.W.Frag) : Sp := fun vs H Q _ => ∃ d sa m, vs = [.ref d, .int m] ∧ Dice K sa H d ∧ 1 ≤ m ∧ ∀ r H', 0 ≤ r → r < m → Dice K sa H' d → Keep d H H' → Q (.int r) H'

section
variable {P : Program} {w : World} {K : PySem.W.Frag} {mg : Str → Option Value} {base : Heap}
theorem scN : FnScope ["_law_dice", "_law_many"] ["_law_dice", "_law_many"] (defScope sNext) := ⟨rfl, rfl, rfl, by decide +kernel, rfl, by decide +kernel, by decide +kernel⟩
theorem ok_next {f : Addr} {fd : FuncData} (F : Fn K mg "_law_next" sNext ["_law_dice", "_law_many"] f fd) (len : mg "len" = none) : FnOk P w K mg base CX0 1 f fd ["_law_dice", "_law_many"] (spNext K) := by
  refine F.F.ok scN (fun vs H Q E h => ?_) (fun cdv A outer s H vs Q E hr h => ?_)
  · obtain ⟨d, sa, m, rfl, _⟩ := h
    rfl
  · obtain ⟨d, sa, m, rfl, D, hm, k⟩ := h
    obtain ⟨⟨p, hd⟩, ⟨ns, hs0⟩⟩ := id D
    refine ⟨_, pss_cons (ps_asg (pe_op op_add (pe_ix ix_list0 (pv 0) pe_int (fun _ _ => rfl)) pe_int) (pg_sub (pv 0) pe_int set_list))
      (pss_cons (ps_if (pt_cmpR op_gt (pe_ix ix_list0 (pv 0) pe_int (fun _ _ => rfl)) (pe_callB call_len_seq (by rfl) len PySem.boot_len (pa_cons (pe_ix ix_list0 (pv 0) pe_int (fun _ _ => rfl)) pa_nil)) (nomark _)) (pss_one (ps_ret pe_int)) pss_nil)
      (pss_one (ps_ret (pe_op op_mod (pe_ix ix_list (pe_ix ix_list0 (pv 0) pe_int (fun _ _ => rfl)) (pe_op op_sub (pe_ix ix_list0 (pv 0) pe_int (fun _ _ => rfl)) pe_int) (fun _ _ => rfl)) (pv 1))))), ?_⟩
    -- dice[1] = dice[1] + 1
    refine ⟨_, rfl, rdL hd rfl ⟨_, _, rfl, rfl, _, rfl, _, _, _, _, rfl, rfl, hd, rfl, ?_⟩⟩
    have hd1 : upd H d (.lst ([V.ref sa, V.int p].set 1 (.int ((p : Int) + 1)))) d = some (.lst [.ref sa, .int ((p : Int) + 1)]) := upd_same
    have kp : Keep d H (upd H d (.lst ([V.ref sa, V.int p].set 1 (.int ((p : Int) + 1))))) := fun b o e n => by rw [upd_ne n]; exact e
    have hs2 := hs0.keep kp hd
    have hs1 := hs2.sq
    have D1 : Dice K sa (upd H d (.lst ([V.ref sa, V.int p].set 1 (.int ((p : Int) + 1))))) d := ⟨⟨p + 1, hd1⟩, ⟨ns, hs2⟩⟩
    -- if dice[1] > len(dice[0])
    refine ⟨_, rfl, rdL hd1 rfl ⟨_, rfl, rdL hd1 rfl ⟨_, _, rfl, .inl hs1, _, _, rfl, rfl, _, rfl, ?_⟩⟩⟩
    refine ite2 (fun _ => ?_) (fun hc => ?_)
    · exact k 0 _ (Int.le_refl _) (by omega) D1 kp
    · have hlt : p < ns.length := by
        rw [List.length_map] at hc
        simp only [decide_eq_true_eq] at hc
        omega
      have ha : atI (ns.map V.int) ((p : Int) + 1 - 1) = some (.int ns[p]) := by
        rw [show (p : Int) + 1 - 1 = ((p : Nat) : Int) by omega]
        exact atI_nat (by rw [List.getElem?_map, List.getElem?_eq_getElem hlt]; rfl)
      refine ⟨_, rfl, rdL hd1 rfl ⟨_, rfl, rdL hd1 rfl ⟨_, _, rfl, rfl, _, _, _, _, rfl, rfl, hs1, ha, _, rfl, _, _, rfl, rfl, (by show (0 : Int) < m; omega), ?_⟩⟩⟩
      exact k _ _ (Int.emod_nonneg _ (by omega)) (Int.emod_lt_of_pos _ (by omega)) D1 kp
end
end W

set_option Elab.async false
set_option linter.all false
set_option maxRecDepth 100000
set_option maxHeartbeats 4000000
namespace L2
open PySem
/-! ### ways that meet -/
noncomputable def tCut (t : TS) : TS := fun D σ H => ∃ R : St → Hp → Prop, t { D with nx := R } σ H ∧ ∀ σ' H', R σ' H' → D.nx σ' H'
theorem ps_cut {X : Cx} {st : Stmt} {t : TS} (h : PS X st t) : PS X st (tCut t) := by
  intro pins s σ H D I hw
  obtain ⟨R, h1, h2⟩ := hw
  refine thn (h pins s σ H _ I h1) fun f s1 q => ?_
  cases f with
  | next => obtain ⟨σ', H', I', r⟩ := q; exact ⟨σ', H', I', h2 σ' H' r⟩
  | brk => exact q
  | cont => exact q
  | ret v => exact q
theorem ps_nox {X : Cx} {st : Stmt} {t : TS} (h : PS X.nox st t) : PS X st t := fun pins s σ H D I hw =>
  wpAny_mono (h pins s σ H D (I.wish _) hw) (fun _ _ q => q.unwish) fun _ _ z => False.elim z
noncomputable def RowsP (H : Hp) (a : Addr) (ps : List Addr) (rows : List (List Int)) : Prop := H a = some (.lst (ps.map V.ref)) ∧ Paired (fun p r => H p = some (.tup (r.map V.int))) ps rows
noncomputable def RowsAt (H : Hp) (a : Addr) (rows : List (List Int)) : Prop := ∃ ps, RowsP H a ps rows
theorem paired_imp {α β : Type} {F G : α → β → Prop} {l : List α} {m : List β} (h : Paired F l m) (i : ∀ a b, F a b → G a b) : Paired G l m := Paired.mapP h i
theorem RowsP.same {H H' : Hp} {a : Addr} {ps : List Addr} {rows : List (List Int)} (h : RowsP H a ps rows) (k : Same H H') : RowsP H' a ps rows := ⟨k _ _ h.1, paired_imp h.2 fun _ _ e => k _ _ e⟩
theorem RowsP.keep {H H' : Hp} {a d : Addr} {ps : List Addr} {rows : List (List Int)} {xs : List V} (h : RowsP H a ps rows) (k : Keep d H H') (hd : H d = some (.lst xs)) (ne : a ≠ d) : RowsP H' a ps rows :=
  ⟨k _ _ h.1 ne, paired_imp h.2 fun _ _ e => k _ _ e (ne_of e hd (fun z => nomatch z))⟩
theorem RowsAt.same {H H' : Hp} {a : Addr} {rows : List (List Int)} (h : RowsAt H a rows) (k : Same H H') : RowsAt H' a rows := let ⟨ps, r⟩ := h; ⟨ps, r.same k⟩
theorem RowsAt.keep {H H' : Hp} {a d : Addr} {rows : List (List Int)} {xs : List V} (h : RowsAt H a rows) (k : Keep d H H') (hd : H d = some (.lst xs)) (ne : a ≠ d) : RowsAt H' a rows := let ⟨ps, r⟩ := h; ⟨ps, r.keep k hd ne⟩
theorem RowsP.len {H : Hp} {a : Addr} {ps : List Addr} {rows : List (List Int)} (h : RowsP H a ps rows) : ps.length = rows.length := h.2.length
theorem RowsP.push {H : Hp} {a p : Addr} {ps : List Addr} {rows : List (List Int)} {r : List Int} (h : RowsP H a ps rows) (hp : H p = some (.tup (r.map V.int))) : RowsP (upd H a (.lst (ps.map V.ref ++ [.ref p]))) a (ps ++ [p]) (rows ++ [r]) := by
  have na : ∀ q xs, H q = some (.tup xs) → q ≠ a := fun q xs e => ne_of e h.1 (fun z => nomatch z)
  refine ⟨by rw [upd_same, List.map_append]; rfl, Paired.snoc (paired_imp h.2 fun q r e => ?_) ?_⟩
  · rw [upd_ne (na q _ e)]; exact e
  · rw [upd_ne (na p _ hp)]; exact hp
theorem keep_upd {d l : Addr} {H0 H : Hp} {o : HO} (k : Keep d H0 H) (h : H0 l = none) : Keep d H0 (upd H l o) := fun b u e n => by
  rw [upd_ne (ne_of_none e h)]
  exact k b u e n
theorem Keep.free {d l : Addr} {H0 H : Hp} (k : Keep d H0 H) (h : H l = none) (hd : ∃ o, H d = some o) : H0 l = none := by
  cases q : H0 l with
  | none => rfl
  | some o =>
    by_cases e : l = d
    · subst e
      obtain ⟨o', e'⟩ := hd
      rw [h] at e'
      cases e'
    · rw [k l o q e] at h
      cases h
end L2
namespace W
open PySem L2
theorem Dice.there {K : PySem.W.Frag} {sa d : Addr} {H : Hp} (x : Dice K sa H d) : ∃ o, H d = some o := let ⟨p, e⟩ := x.at_; ⟨_, e⟩
theorem Dice.upd {K : PySem.W.Frag} {sa d l : Addr} {H : Hp} {o : HO} {xs : List V} (x : Dice K sa H d) (hl : H l = some (.lst xs)) (hd : l ≠ d) : Dice K sa (upd H l o) d := by
  obtain ⟨⟨p, h⟩, ⟨ns, r⟩⟩ := x
  exact ⟨⟨p, by rw [upd_ne (Ne.symm hd)]; exact h⟩, ⟨ns, r.keep (fun b u e n => by rw [upd_ne n]; exact e) hl⟩⟩
theorem Dice.new {K : PySem.W.Frag} {sa d l : Addr} {H : Hp} {o : HO} (x : Dice K sa H d) (hl : H l = none) : Dice K sa (L2.upd H l o) d := x.same (same_new hl)
noncomputable def namedF (m n t : Int) : Int := if m = 0 then 0 else 1 + (m - 1 + t) % (n - 1)
noncomputable def spNamed : Sp := fun vs H Q _ => ∃ m n t, vs = [.int m, .int n, .int t] ∧ 2 ≤ n ∧ Q (.int (namedF m n t)) H
section
variable {P : Program} {w : World} {K : PySem.W.Frag} {mg : Str → Option Value} {base : Heap}
theorem scNm : FnScope ["_law_moment", "_law_many", "_law_turn"] ["_law_moment", "_law_many", "_law_turn"] (defScope sNamed) := ⟨rfl, rfl, rfl, by decide +kernel, rfl, by decide +kernel, by decide +kernel⟩
theorem ok_named {f : Addr} {fd : FuncData} (F : Fn K mg "_law_named" sNamed ["_law_moment", "_law_many", "_law_turn"] f fd) : FnOk P w K mg base CX0 1 f fd ["_law_moment", "_law_many", "_law_turn"] spNamed := by
  refine F.F.ok scNm (fun vs H Q E h => ?_) (fun cdv A outer s H vs Q E hr h => ?_)
  · obtain ⟨m, n, t, rfl, _⟩ := h
    rfl
  · obtain ⟨m, n, t, rfl, hn, k⟩ := h
    refine ⟨_, pss_cons (ps_if (pt_cmpR op_eq (pv 0) pe_int (nomark _)) (pss_one (ps_ret pe_int)) pss_nil)
      (pss_one (ps_ret (pe_op op_add pe_int (pe_op op_mod (pe_op op_add (pe_op op_sub (pv 0) pe_int) (pv 2)) (pe_op op_sub (pv 1) pe_int))))), ?_⟩
    refine ⟨_, rfl, rfl, _, rfl, ?_⟩
    refine ite2 (fun hc => ?_) (fun hc => ?_)
    · have e : m = 0 := by simpa using hc
      have q : namedF m n t = 0 := by unfold namedF; rw [if_pos e]
      rw [q] at k
      exact k
    · have e : ¬ m = 0 := by simpa using hc
      have q : namedF m n t = 1 + (m - 1 + t) % (n - 1) := by unfold namedF; rw [if_neg e]
      rw [q] at k
      exact ⟨_, rfl, _, _, rfl, rfl, _, rfl, _, _, rfl, rfl, _, rfl, _, _, rfl, rfl, _, _, rfl, rfl, (by show (0 : Int) < n - 1; omega), _, _, rfl, rfl, k⟩
end
end W

set_option Elab.async false
set_option linter.all false
set_option maxRecDepth 100000
set_option maxHeartbeats 4000000
namespace W
open PySem L2
noncomputable def FallsRaw (n : Int) (c : Nat) (rows : List (List Int)) : Prop := ∀ (k : Nat) r, rows[k]? = some r → ∃ a l m : Int, r = [a, n - 1 - k, l, m] ∧ 0 ≤ a ∧ a < n - c ∧ 1 ≤ l ∧ l ≤ m ∧ m ≤ 60
theorem FallsRaw.snoc {n : Int} {c : Nat} {rows : List (List Int)} {a l m : Int} (h : FallsRaw n c rows) (h1 : 0 ≤ a) (h2 : a < n - c) (h3 : 1 ≤ l) (h4 : l ≤ m) (h5 : m ≤ 60) : FallsRaw n c (rows ++ [[a, n - 1 - rows.length, l, m]]) := by
  intro k r e
  by_cases hk : k < rows.length
  · rw [List.getElem?_append_left hk] at e
    exact h k r e
  · rw [List.getElem?_append_right (by omega)] at e
    have hk' : k - rows.length = 0 := by
      cases q : k - rows.length with
      | zero => rfl
      | succ z => rw [q] at e; simp at e
    rw [hk'] at e
    cases e
    have : k = rows.length := by omega
    subst this
    exact ⟨a, l, m, rfl, h1, h2, h3, h4, h5⟩
noncomputable def Few (wd : Int) (rows : List (List Int)) : Prop := wd ≠ 8 → rows.length ≤ 3 ∧ ∀ r ∈ rows, r.getD 3 0 - r.getD 2 0 < wd
noncomputable def spFalls (K : PySem.W.Frag) : Sp := fun vs H Q _ => ∃ d sa n wd, vs = [.ref d, .int n, .int wd] ∧ Dice K sa H d ∧ 2 ≤ n ∧ n ≤ 8 ∧ 1 ≤ wd ∧ wd ≤ 8 ∧
  ∀ (l : Addr) (c : Nat) rows H', (c : Int) ≤ n - 1 → rows.length = c → FallsRaw n c rows → RowsAt H' l rows → H l = none → Dice K sa H' d → Keep d H H' → Few wd rows → Q (.ref l) H'
section
variable {P : Program} {w : World} {K : PySem.W.Frag} {mg : Str → Option Value} {base : Heap}
noncomputable abbrev nF : List Str := ["_law_d", "_law_many", "_law_wide", "_law_count", "_law_falls_here", "_law_k", "_law_least", "_law_most"]
theorem scF : FnScope nF ["_law_d", "_law_many", "_law_wide"] (defScope sFalls) := ⟨rfl, rfl, rfl, by decide +kernel, rfl, by decide +kernel, by decide +kernel⟩
theorem ok_falls {f fN : Addr} {fd fdN : FuncData} (F : Fn K mg "_law_falls" sFalls ["_law_d", "_law_many", "_law_wide"] f fd) (FN : Fn K mg "_law_next" sNext ["_law_dice", "_law_many"] fN fdN)
    (GN : FnOk P w K mg base CX0 1 fN fdN ["_law_dice", "_law_many"] (spNext K)) (min : mg "min" = none) (range : mg "range" = none) : FnOk P w K mg base CX0 2 f fd ["_law_d", "_law_many", "_law_wide"] (spFalls K) := by
  refine F.F.ok scF (fun vs H Q E h => ?_) (fun cdv A outer s H vs Q E hr h => ?_)
  · obtain ⟨d, sa, n, wd, rfl, _⟩ := h
    rfl
  · obtain ⟨d, sa, n, wd, rfl, D, hn1, hn2, hw1, hw2, k⟩ := h
    refine ⟨_, pss_cons (ps_set (i := 3) scF.nd rfl (Or.inl rfl) (pe_call GN hr rfl FN.g FN.F.kp FN.b .nil pass0 (pa_cons (pv 0) (pa_cons (pe_op op_add (pe_callB (call_min2 rfl) (by rfl) min (by decide +kernel) (pa_cons pe_int (pa_cons (pe_op op_sub (pv 1) pe_int) pa_nil))) pe_int) pa_nil))))
      (pss_cons (ps_cut (ps_if (PW.pt (pw_and (pt_cmpR op_eq (pv 2) pe_int (nomark _)) (pw_and1 (pt_cmpR op_eq (pe_call GN hr rfl FN.g FN.F.kp FN.b .nil pass0 (pa_cons (pv 0) (pa_cons pe_int pa_nil))) pe_int (nomark _)))))
        (pss_one (ps_set (i := 3) scF.nd rfl (Or.inl rfl) (pe_call GN hr rfl FN.g FN.F.kp FN.b .nil pass0 (pa_cons (pv 0) (pa_cons (pv 1) pa_nil))))) pss_nil))
      (pss_cons (ps_set (i := 4) scF.nd rfl (Or.inl rfl) (pe_lst pa_nil))
      (pss_cons (ps_for PassesOwn.never rfl (pi_range1 rfl range (pa_cons (pv 3) pa_nil)) (pg_name (i := 5) scF.nd rfl (Or.inl rfl))
        (pss_cons (ps_set (i := 6) scF.nd rfl (Or.inl rfl) (pe_op op_add pe_int (pe_call GN hr rfl FN.g FN.F.kp FN.b .nil pass0 (pa_cons (pv 0) (pa_cons (pv 2) pa_nil)))))
        (pss_cons (ps_set (i := 7) scF.nd rfl (Or.inl rfl) (pe_op op_add (pv 6) (pe_call GN hr rfl FN.g FN.F.kp FN.b .nil pass0 (pa_cons (pv 0) (pa_cons (pv 2) pa_nil)))))
        (pss_cons (ps_cut (ps_if (PW.pt (pw_and (pt_cmpR op_eq (pv 2) pe_int (nomark _)) (pw_and1 (pt_cmpR op_eq (pe_call GN hr rfl FN.g FN.F.kp FN.b .nil pass0 (pa_cons (pv 0) (pa_cons pe_int pa_nil))) pe_int (nomark _)))))
          (pss_cons (ps_set (i := 6) scF.nd rfl (Or.inl rfl) (pe_op op_add pe_int (pe_call GN hr rfl FN.g FN.F.kp FN.b .nil pass0 (pa_cons (pv 0) (pa_cons pe_int pa_nil)))))
          (pss_one (ps_set (i := 7) scF.nd rfl (Or.inl rfl) (pe_op op_add (pv 6) (pe_call GN hr rfl FN.g FN.F.kp FN.b .nil pass0 (pa_cons (pv 0) (pa_cons (pe_op op_sub pe_int (pv 6)) pa_nil))))))) pss_nil))
        (pss_one (ps_expr (pe_bm PySem.F.plainAttrs_list PySem.F.slot_list_append PySem.F.type_list_append mt_append (pv 4)
          (pa_cons (pe_tup (pa_cons (pe_call GN hr rfl FN.g FN.F.kp FN.b .nil pass0 (pa_cons (pv 0) (pa_cons (pe_op op_sub (pv 1) (pv 3)) pa_nil))) (pa_cons (pe_op op_sub (pe_op op_sub (pv 1) pe_int) (pv 5)) (pa_cons (pv 6) (pa_cons (pv 7) pa_nil))))) pa_nil))))))))
      (pss_one (ps_ret (pv 4)))))), ?_⟩
    -- count
    refine ⟨_, rfl, _, rfl, _, _, rfl, rfl, _, _, rfl, _, _, rfl, rfl, d, sa, _, rfl, D, (by split <;> omega), fun c0 H1 hc0 hc1 D1 k1 => ?_⟩
    have hc2 : c0 ≤ n - 1 := by
      revert hc1
      split <;> intro hc1 <;> omega
    have hc3 : c0 ≤ 3 := by
      revert hc1
      split <;> intro hc1 <;> omega
    refine ⟨fun σ' H' => ∃ c : Nat, (c : Int) ≤ n - 1 ∧ (wd ≠ 8 → c ≤ 3) ∧ σ' = [some (.ref d), some (.int n), some (.int wd), some (.int (c : Int)), none, none, none, none] ∧ Dice K sa H' d ∧ Keep d H H', ?_, ?_⟩
    · -- a wide web may have more of them
      refine ⟨_, rfl, rfl, _, rfl, ?_⟩
      refine ite2 (fun h8 => ?_) (fun _ => ?_)
      · have h8 : wd = 8 := by simpa using h8
        refine ⟨_, rfl, d, sa, _, rfl, D1, by decide, fun r H2 _ _ D2 k2 => ⟨rfl, _, rfl, ?_⟩⟩
        refine ite2 (fun _ => ?_) (fun _ => ?_)
        · refine ⟨_, rfl, _, rfl, d, sa, _, rfl, D2, by omega, fun c H3 h0 h1 D3 k3 => ⟨c.toNat, by omega, fun z => absurd h8 z, ?_, D3, (k1.trans k2).trans k3⟩⟩
          rw [Int.toNat_of_nonneg h0]
          rfl
        · exact ⟨c0.toNat, by omega, fun z => absurd h8 z, by rw [Int.toNat_of_nonneg hc0]; rfl, D2, k1.trans k2⟩
      · refine iteF ?_
        exact ⟨c0.toNat, by omega, fun _ => by omega, by rw [Int.toNat_of_nonneg hc0]; rfl, D1, k1⟩
    · rintro σ' H2 ⟨c, hc, hcw, rfl, D2, k2⟩
      -- falls_here = []
      refine ⟨Nat.zero_le _, fun l hl => ?_⟩
      have hl0 : H l = none := k2.free hl D2.there
      have ld : l ≠ d := fun e => by
        subst e
        obtain ⟨o, q⟩ := D2.there
        rw [hl] at q
        cases q
      refine ⟨_, rfl, _, rfl, by omega, by omega, for_range (n := c) (fun i σ' H' => ∃ v1 v2 v3 ps rows, σ' = [some (.ref d), some (.int n), some (.int wd), some (.int (c : Int)), some (.ref l), v1, v2, v3] ∧ RowsP H' l ps rows ∧ rows.length = i ∧ FallsRaw n c rows ∧ Dice K sa H' d ∧ Keep d H H' ∧ (wd ≠ 8 → ∀ r ∈ rows, r.getD 3 0 - r.getD 2 0 < wd))
        ⟨none, none, none, [], [], rfl, ⟨upd_same, .nil⟩, rfl, (fun k r e => by simp at e), D2.new hl, keep_upd k2 hl0, fun _ r hr => nomatch hr⟩ ?_ ?_⟩
      · rintro i σ' H3 hi ⟨v1, v2, v3, ps, rows, rfl, R3, hlen, hF, D3, k3, few⟩
        have kl : ∀ {H4 : Hp}, Keep d H3 H4 → RowsP H4 l ps rows := fun k4 => by
          obtain ⟨p, e⟩ := D3.at_
          exact R3.keep k4 e ld
        -- least, most
        refine ⟨_, rfl, _, rfl, d, sa, _, rfl, D3, hw1, fun r1 H4 h1a h1b D4 k4 => ⟨_, _, rfl, rfl, ?_⟩⟩
        refine ⟨_, rfl, _, rfl, _, rfl, d, sa, _, rfl, D4, hw1, fun r2 H5 h2a h2b D5 k5 => ⟨_, _, rfl, rfl, ?_⟩⟩
        refine ⟨fun σ' H' => ∃ a b : Int, 1 ≤ a ∧ a ≤ b ∧ b ≤ 60 ∧ (wd ≠ 8 → b - a < wd) ∧ σ' = [some (.ref d), some (.int n), some (.int wd), some (.int (c : Int)), some (.ref l), some (.int (0 + (i : Int))), some (.int a), some (.int b)] ∧ Dice K sa H' d ∧ Keep d H3 H', ?_, ?_⟩
        · refine ⟨_, rfl, rfl, _, rfl, ?_⟩
          refine ite2 (fun h8 => ?_) (fun _ => ?_)
          · have h8 : wd = 8 := by simpa using h8
            refine ⟨_, rfl, d, sa, _, rfl, D5, by decide, fun r H6 _ _ D6 k6 => ⟨rfl, _, rfl, ?_⟩⟩
            refine ite2 (fun _ => ?_) (fun _ => ?_)
            · refine ⟨_, rfl, d, sa, _, rfl, D6, by decide, fun r3 H7 h3a h3b D7 k7 => ⟨_, _, rfl, rfl, ?_⟩⟩
              refine ⟨_, rfl, _, rfl, _, rfl, _, _, rfl, rfl, d, sa, _, rfl, D7, by omega, fun r4 H8 h4a h4b D8 k8 => ⟨_, _, rfl, rfl, ?_⟩⟩
              exact ⟨1 + r3, 1 + r3 + r4, by omega, by omega, by omega, fun z => absurd h8 z, rfl, D8, (((k4.trans k5).trans k6).trans k7).trans k8⟩
            · exact ⟨1 + r1, 1 + r1 + r2, by omega, by omega, by omega, fun z => absurd h8 z, rfl, D6, (k4.trans k5).trans k6⟩
          · refine iteF ?_
            exact ⟨1 + r1, 1 + r1 + r2, by omega, by omega, by omega, fun _ => by omega, rfl, D5, k4.trans k5⟩
        · rintro σ' H6 ⟨a, b, ha, hab, hb, hba, rfl, D6, k6⟩
          -- falls_here.append((.., .., least, most))
          have R6 := kl k6
          refine ⟨_, rfl, .inl ⟨rfl, _, SqL.of R6.1⟩, ?_⟩
          refine ⟨_, rfl, _, rfl, _, rfl, _, _, rfl, rfl, d, sa, _, rfl, D6, by omega, fun r5 H7 h5a h5b D7 k7 => ?_⟩
          have R7 := kl (k6.trans k7)
          refine ⟨_, rfl, _, _, rfl, rfl, _, rfl, _, _, rfl, rfl, _, rfl, _, rfl, by show 4 ≤ sizeLine; decide, fun p hp => ?_⟩
          have R8 := R7.same (same_new (o := .tup [.int r5, .int (n - 1 - (0 + (i : Int))), .int a, .int b]) hp)
          refine ⟨l, _, _, rfl, rfl, R8.1, ?_, ?_⟩
          · rw [List.length_map, R8.len]
            exact small1000 (by omega)
          · have e0 : (0 : Int) + (i : Int) = (rows.length : Int) := by rw [hlen]; omega
            refine ⟨_, _, _, ps ++ [p], rows ++ [[r5, n - 1 - (0 + (i : Int)), a, b]], rfl, R8.push upd_same, by rw [List.length_append, hlen]; rfl, ?_, ?_, ?_, fun z r hr => ?_⟩
            · rw [e0]
              exact hF.snoc h5a h5b ha hab hb
            · exact (D7.new hp).upd R8.1 ld
            · exact keep_upd (keep_upd ((k3.trans k6).trans k7) (((k3.trans k6).trans k7).free hp D7.there)) hl0
            · rcases List.mem_append.mp hr with y | y
              · exact few z r y
              · rw [List.mem_singleton.mp y]
                exact hba z
      · rintro σ' H3 ⟨v1, v2, v3, ps, rows, rfl, R3, hlen, hF, D3, k3, few⟩
        exact ⟨_, rfl, k l c rows H3 hc hlen hF ⟨ps, R3⟩ hl0 D3 k3 fun z => ⟨by rw [hlen]; exact hcw z, few z⟩⟩
end
end W

set_option Elab.async false
set_option linter.all false
set_option maxRecDepth 100000
set_option maxHeartbeats 4000000
namespace W
open PySem L2
theorem mod_wrap {x n : Int} (h0 : 0 ≤ x) (h1 : x < 2 * n) (hn : 0 < n) : x % n = if x < n then x else x - n := by
  by_cases h : x < n
  · rw [if_pos h, Int.emod_eq_of_lt h0 h]
  · rw [if_neg h]
    have e : x % n = (x - n) % n := by
      first
        | exact (Int.sub_emod_right x n).symm
        | (have := Int.add_emod_self (a := x - n) (b := n); rw [Int.sub_add_cancel] at this; exact this)
    rw [e, Int.emod_eq_of_lt (by omega) (by omega)]
theorem atI_int {xs : List Int} {i : Int} (h0 : 0 ≤ i) (h1 : i < xs.length) : ∃ v, v ∈ xs ∧ atI (xs.map V.int) i = some (.int v) := by
  obtain ⟨j, rfl⟩ : ∃ j : Nat, i = j := ⟨i.toNat, by omega⟩
  have hi : j < xs.length := by omega
  exact ⟨xs[j], List.getElem_mem hi, atI_nat (by rw [List.getElem?_map, List.getElem?_eq_getElem hi]; rfl)⟩
noncomputable def TieOk (n : Int) (r : List Int) : Prop := ∃ a b l m : Int, r = [a, b, l, m] ∧ 0 ≤ a ∧ a < n ∧ 0 ≤ b ∧ b < n ∧ a ≠ b ∧ -60 ≤ l ∧ l ≤ m ∧ m ≤ 60
noncomputable def spTies (K : PySem.W.Frag) : Sp := fun vs H Q _ => ∃ d sa n la wd, vs = [.ref d, .int n, .int la, .int wd] ∧ Dice K sa H d ∧ 2 ≤ n ∧ n ≤ 8 ∧ 1 ≤ la ∧ la ≤ 60 ∧ 1 ≤ wd ∧ wd ≤ 8 ∧
  ∀ (l : Addr) rows H', rows.length ≤ 12 → (∀ r ∈ rows, TieOk n r) → RowsAt H' l rows → H l = none → Dice K sa H' d → Keep d H H' → Q (.ref l) H'
section
variable {P : Program} {w : World} {K : PySem.W.Frag} {mg : Str → Option Value} {base : Heap}
noncomputable abbrev nT : List Str := ["_law_d", "_law_many", "_law_last", "_law_wide", "_law_ties_here", "_law_k", "_law_times", "_law_count", "_law_one", "_law_other", "_law_near", "_law_least"]
theorem scT : FnScope nT ["_law_d", "_law_many", "_law_last", "_law_wide"] (defScope sTies) := ⟨rfl, rfl, rfl, by decide +kernel, rfl, by decide +kernel, by decide +kernel⟩
theorem coT : CompOk (defScope sTies) nT (fsc [(".0", .local), ("_law_k", .local), ("_law_next", .globalImplicit), ("_law_d", .free), ("_law_last", .free)]) ["_law_k", "_law_d", "_law_last"] [none, some 0, some 2] :=
  ⟨rfl, by decide +kernel, by decide +kernel, by decide +kernel, rfl, by decide +kernel⟩
theorem ndT : (["_law_k", "_law_d", "_law_last"] : List Str).Nodup := by decide +kernel
theorem ok_ties {f fN : Addr} {fd fdN : FuncData} (F : Fn K mg "_law_ties" sTies ["_law_d", "_law_many", "_law_last", "_law_wide"] f fd) (FN : Fn K mg "_law_next" sNext ["_law_dice", "_law_many"] fN fdN)
    (GN : FnOk P w K mg base CX0 1 fN fdN ["_law_dice", "_law_many"] (spNext K)) (min : mg "min" = none) (max : mg "max" = none) (range : mg "range" = none) : FnOk P w K mg base CX0 2 f fd ["_law_d", "_law_many", "_law_last", "_law_wide"] (spTies K) := by
  refine F.F.ok scT (fun vs H Q E h => ?_) (fun cdv A outer s H vs Q E hr h => ?_)
  · obtain ⟨d, sa, n, la, wd, rfl, _⟩ := h
    rfl
  · obtain ⟨d, sa, n, la, wd, rfl, D, hn1, hn2, hl1, hl2, hw1, hw2, k⟩ := h
    refine ⟨_, pss_cons (ps_set (i := 4) scT.nd rfl (Or.inl rfl) (pe_lst pa_nil))
      (pss_cons (ps_set (i := 6) scT.nd rfl (Or.inl rfl) (pe_op op_cat (pe_lst (pa_cons pe_int pa_nil)) (pe_comp rfl (pi_range1 rfl range (pa_cons (pe_op op_sub (pv 1) pe_int) pa_nil)) coT
        (fun cl ex s0 H0 => ⟨pg_name (i := 0) ndT rfl (Or.inl rfl), pif_none, pe_call GN hr rfl FN.g FN.F.kp FN.b .nil pass0 (pa_cons (pv 1) (pa_cons (pe_op op_add (pv 2) pe_int) pa_nil))⟩))))
      (pss_cons (ps_set (i := 7) scT.nd rfl (Or.inl rfl) (pe_call GN hr rfl FN.g FN.F.kp FN.b .nil pass0 (pa_cons (pv 0) (pa_cons pe_int pa_nil))))
      (pss_cons (ps_cut (ps_if (PW.pt (pw_and (pt_cmpR op_eq (pv 3) pe_int (nomark _)) (pw_and1 (pt_cmpR op_eq (pe_call GN hr rfl FN.g FN.F.kp FN.b .nil pass0 (pa_cons (pv 0) (pa_cons pe_int pa_nil))) pe_int (nomark _)))))
        (pss_one (ps_set (i := 7) scT.nd rfl (Or.inl rfl) (pe_call GN hr rfl FN.g FN.F.kp FN.b .nil pass0 (pa_cons (pv 0) (pa_cons pe_int pa_nil))))) pss_nil))
      (pss_cons (ps_for PassesOwn.never rfl (pi_range1 rfl range (pa_cons (pv 7) pa_nil)) (pg_name (i := 5) scT.nd rfl (Or.inl rfl))
        (pss_cons (ps_set (i := 8) scT.nd rfl (Or.inl rfl) (pe_call GN hr rfl FN.g FN.F.kp FN.b .nil pass0 (pa_cons (pv 0) (pa_cons (pv 1) pa_nil))))
        (pss_cons (ps_set (i := 9) scT.nd rfl (Or.inl rfl) (pe_op op_mod (pe_op op_add (pe_op op_add (pv 8) pe_int) (pe_call GN hr rfl FN.g FN.F.kp FN.b .nil pass0 (pa_cons (pv 0) (pa_cons (pe_op op_sub (pv 1) pe_int) pa_nil)))) (pv 1)))
        (pss_cons (ps_set (i := 10) scT.nd rfl (Or.inl rfl) (pe_op op_sub (pe_ix ix_list0 (pv 6) (pv 9) (fun _ _ => rfl)) (pe_ix ix_list0 (pv 6) (pv 8) (fun _ _ => rfl))))
        (pss_cons (ps_cut (ps_if (pt_cmpR op_eq (pe_call GN hr rfl FN.g FN.F.kp FN.b .nil pass0 (pa_cons (pv 0) (pa_cons pe_int pa_nil))) pe_int (nomark _))
          (pss_one (ps_set (i := 10) scT.nd rfl (Or.inl rfl) (pe_op op_sub (pe_call GN hr rfl FN.g FN.F.kp FN.b .nil pass0 (pa_cons (pv 0) (pa_cons (pe_op op_add (pe_op op_mul pe_int (pv 2)) pe_int) pa_nil))) (pv 2)))) pss_nil))
        (pss_cons (ps_set (i := 11) scT.nd rfl (Or.inl rfl) (pe_callB (call_max2 rfl) (by rfl) max (by decide +kernel) (pa_cons (pe_un un_neg pe_int) (pa_cons (pe_op op_sub (pv 10) (pe_call GN hr rfl FN.g FN.F.kp FN.b .nil pass0 (pa_cons (pv 0) (pa_cons (pe_op op_add (pv 3) pe_int) pa_nil)))) pa_nil))))
        (pss_one (ps_expr (pe_bm PySem.F.plainAttrs_list PySem.F.slot_list_append PySem.F.type_list_append mt_append (pv 4)
          (pa_cons (pe_tup (pa_cons (pv 8) (pa_cons (pv 9) (pa_cons (pv 11) (pa_cons (pe_callB (call_min2 rfl) (by rfl) min (by decide +kernel) (pa_cons pe_int (pa_cons (pe_callB (call_max2 rfl) (by rfl) max (by decide +kernel)
            (pa_cons (pv 11) (pa_cons (pe_op op_add (pv 10) (pe_call GN hr rfl FN.g FN.F.kp FN.b .nil pass0 (pa_cons (pv 0) (pa_cons (pe_op op_add (pv 3) pe_int) pa_nil)))) pa_nil))) pa_nil))) pa_nil))))) pa_nil))))))))))
      (pss_one (ps_ret (pv 4))))))), ?_⟩
    -- ties_here = []
    refine ⟨Nat.zero_le _, fun l hl => ?_⟩
    have ld : l ≠ d := fun e => by
      subst e
      obtain ⟨o, q⟩ := D.there
      rw [hl] at q
      cases q
    -- times = [0] + [..]
    refine ⟨by show 1 ≤ sizeLine; decide, fun z hz => ?_⟩
    refine ⟨_, rfl, _, _, rfl, rfl, _, rfl, by omega, by omega, fun Da hDa => ?_⟩
    have zl : z ≠ l := Ne.symm (ne_of_none (upd_same (H := H) (a := l) (o := .lst [])) hz)
    have hz0 : H z = none := by rw [upd_ne zl] at hz; exact hz
    have Dal : Da ≠ l := Ne.symm (ne_of_none (show upd (upd H l (.lst [])) z (.lst [.int 0]) l = some (.lst []) by rw [upd_ne (Ne.symm zl), upd_same]) hDa)
    have Daz : Da ≠ z := Ne.symm (ne_of_none (upd_same (H := upd H l (.lst [])) (a := z) (o := .lst [.int 0])) hDa)
    have hDa0 : H Da = none := by rw [upd_ne Daz, upd_ne Dal] at hDa; exact hDa
    have nd : ∀ {a : Addr}, H a = none → a ≠ d := fun {a} e q => by
      subst q
      obtain ⟨o, q⟩ := D.there
      rw [e] at q
      cases q
    refine comp_range (n := (n - 1).toNat) (fun i σ' H' => ∃ v, ∃ ts : List Int, σ' = [v, some (.ref d), some (.int la)] ∧ ts.length = i ∧ (∀ t ∈ ts, 0 ≤ t ∧ t ≤ la) ∧ H' Da = some (.lst (ts.map V.int)) ∧ H' l = some (.lst []) ∧ H' z = some (.lst [.int 0]) ∧ Dice K sa H' d ∧ Keep d H H') ?_ ?_ ?_
    · exact ⟨none, [], rfl, rfl, (fun t ht => nomatch ht), upd_same, by rw [upd_ne (Ne.symm Dal), upd_ne (Ne.symm zl), upd_same], by rw [upd_ne (Ne.symm Daz), upd_same], ((D.new hl).new hz).new hDa, keep_upd (keep_upd (keep_upd (Keep.refl d H) hl) hz0) hDa0⟩
    · rintro i σ' H3 hi ⟨v, ts, rfl, hlen, hts, e1, e2, e3, D3, k3⟩
      refine ⟨_, rfl, _, rfl, _, _, rfl, rfl, d, sa, _, rfl, D3, by omega, fun r H4 h0 h1 D4 k4 => ?_⟩
      have f1 := k4 _ _ e1 (nd hDa0)
      refine ⟨_, f1, ?_, _, ts ++ [r], rfl, by rw [List.length_append, hlen]; rfl, fun t ht => ?_, ?_, ?_, ?_, D4.upd f1 (nd hDa0), keep_upd (k3.trans k4) hDa0⟩
      · rw [List.length_map]
        exact small1000 (by omega)
      · rcases List.mem_append.mp ht with q | q
        · exact hts t q
        · rw [List.mem_singleton.mp q]
          omega
      · rw [upd_same, List.map_append]
        rfl
      · rw [upd_ne (Ne.symm Dal)]
        exact k4 _ _ e2 ld
      · rw [upd_ne (Ne.symm Daz)]
        exact k4 _ _ e3 (nd hz0)
    · rintro σ' H3 ⟨v, ts, rfl, hlen, hts, e1, e2, e3, D3, k3⟩
      refine ⟨z, Da, _, _, rfl, rfl, e3, e1, ?_, fun tl htl => ?_⟩
      · rw [List.length_map]
        exact Nat.le_of_lt (small1000 (by simp; omega))
      have htl0 : H tl = none := k3.free htl D3.there
      have tll : tl ≠ l := Ne.symm (ne_of_none e2 htl)
      obtain ⟨tt, htt, hlt, hin⟩ : ∃ tt : List Int, [V.int 0] ++ ts.map V.int = tt.map V.int ∧ (tt.length : Int) = n ∧ ∀ t ∈ tt, 0 ≤ t ∧ t ≤ la := by
        refine ⟨0 :: ts, rfl, by rw [List.length_cons, hlen]; omega, fun t ht => ?_⟩
        rcases List.mem_cons.mp ht with q | q
        · rw [q]; omega
        · exact hts t q
      rw [htt]
      have g1 : upd H3 tl (.lst (tt.map V.int)) tl = some (.lst (tt.map V.int)) := upd_same
      have g2 : upd H3 tl (.lst (tt.map V.int)) l = some (.lst []) := by rw [upd_ne (Ne.symm tll)]; exact e2
      have D4 : Dice K sa (upd H3 tl (.lst (tt.map V.int))) d := D3.new htl
      have k4 : Keep d H (upd H3 tl (.lst (tt.map V.int))) := keep_upd k3 htl0
      -- count
      refine ⟨_, rfl, d, sa, _, rfl, D4, by decide, fun c0 H5 hc0 hc1 D5 k5 => ?_⟩
      have l5 := k5 _ _ g2 ld
      have t5 := k5 _ _ g1 (nd htl0)
      refine ⟨fun σ' H' => ∃ c : Nat, c ≤ 12 ∧ σ' = [some (.ref d), some (.int n), some (.int la), some (.int wd), some (.ref l), none, some (.ref tl), some (.int (c : Int)), none, none, none, none] ∧ Dice K sa H' d ∧ Keep d H H' ∧ H' l = some (.lst []) ∧ H' tl = some (.lst (tt.map V.int)), ?_, ?_⟩
      · refine ⟨_, rfl, rfl, _, rfl, ?_⟩
        refine ite2 (fun _ => ?_) (fun _ => ?_)
        · refine ⟨_, rfl, d, sa, _, rfl, D5, by decide, fun r H6 _ _ D6 k6 => ⟨rfl, _, rfl, ?_⟩⟩
          refine ite2 (fun _ => ?_) (fun _ => ?_)
          · refine ⟨_, rfl, d, sa, _, rfl, D6, by decide, fun c H7 h0 h1 D7 k7 => ⟨c.toNat, by omega, ?_, D7, ((k4.trans k5).trans k6).trans k7, (k6.trans k7) _ _ l5 ld, (k6.trans k7) _ _ t5 (nd htl0)⟩⟩
            rw [Int.toNat_of_nonneg h0]
            rfl
          · exact ⟨c0.toNat, by omega, by rw [Int.toNat_of_nonneg hc0]; rfl, D6, (k4.trans k5).trans k6, k6 _ _ l5 ld, k6 _ _ t5 (nd htl0)⟩
        · refine iteF ?_
          exact ⟨c0.toNat, by omega, by rw [Int.toNat_of_nonneg hc0]; rfl, D5, k4.trans k5, l5, t5⟩
      · rintro σ' H6 ⟨c, hc, rfl, D6, k6, l6, t6⟩
        refine ⟨_, rfl, _, rfl, by omega, by omega, for_range (n := c) (fun i σ' H' => ∃ v1 v2 v3 v4 v5 ps rows, σ' = [some (.ref d), some (.int n), some (.int la), some (.int wd), some (.ref l), v1, some (.ref tl), some (.int (c : Int)), v2, v3, v4, v5] ∧ RowsP H' l ps rows ∧ rows.length = i ∧ (∀ r ∈ rows, TieOk n r) ∧
          H' tl = some (.lst (tt.map V.int)) ∧ Dice K sa H' d ∧ Keep d H H') ⟨none, none, none, none, none, [], [], rfl, ⟨l6, .nil⟩, rfl, (fun r hr => nomatch hr), t6, D6, k6⟩ ?_ ?_⟩
        · rintro i σ' H7 hi ⟨v1, v2, v3, v4, v5, ps, rows, rfl, R7, hlen7, hok, t7, D7, k7⟩
          have kl : ∀ {H8 : Hp}, Keep d H7 H8 → RowsP H8 l ps rows := fun k8 => by
            obtain ⟨p, e⟩ := D7.at_
            exact R7.keep k8 e ld
          -- one, other
          refine ⟨_, rfl, _, rfl, d, sa, _, rfl, D7, by omega, fun o1 H8 h1a h1b D8 k8 => ?_⟩
          refine ⟨_, rfl, _, _, rfl, rfl, _, rfl, _, rfl, _, _, rfl, rfl, d, sa, _, rfl, D8, by omega, fun o2 H9 h2a h2b D9 k9 => ⟨_, _, rfl, rfl, _, rfl, _, _, rfl, rfl, (by show (0 : Int) < n; omega), ?_⟩⟩
          have hw := mod_wrap (x := o1 + 1 + o2) (n := n) (by omega) (by omega) (by omega)
          have ho : 0 ≤ (o1 + 1 + o2) % n ∧ (o1 + 1 + o2) % n < n ∧ o1 ≠ (o1 + 1 + o2) % n := by
            rw [hw]
            split <;> omega
          obtain ⟨ho1, ho2, ho3⟩ := ho
          have t9 := (k8.trans k9) _ _ t7 (nd htl0)
          obtain ⟨w1, hw1m, ha1⟩ := atI_int (xs := tt) ho1 (by omega)
          obtain ⟨w2, hw2m, ha2⟩ := atI_int (xs := tt) h1a (by omega)
          have b1 := hin w1 hw1m
          have b2 := hin w2 hw2m
          -- near
          refine ⟨_, rfl, rdLv rfl t9 ha1 ⟨_, rfl, rdLv rfl t9 ha2 ⟨_, _, rfl, rfl, ?_⟩⟩⟩
          refine ⟨fun σ' H' => ∃ nr : Int, -60 ≤ nr ∧ nr ≤ 60 ∧ σ' = [some (.ref d), some (.int n), some (.int la), some (.int wd), some (.ref l), some (.int (0 + (i : Int))), some (.ref tl), some (.int (c : Int)), some (.int o1), some (.int ((o1 + 1 + o2) % n)), some (.int nr), v5] ∧ Dice K sa H' d ∧ Keep d H7 H', ?_, ?_⟩
          · refine ⟨_, rfl, d, sa, _, rfl, D9, by decide, fun r H10 _ _ D10 k10 => ⟨rfl, _, rfl, ?_⟩⟩
            refine ite2 (fun _ => ?_) (fun _ => ?_)
            · refine ⟨_, rfl, _, rfl, _, _, rfl, rfl, .inl ⟨by decide, by decide⟩, _, _, rfl, rfl, d, sa, _, rfl, D10, by omega, fun r' H11 g0 g1' D11 k11 => ⟨_, rfl, _, _, rfl, rfl, r' - la, by omega, by omega, rfl, D11, ((k8.trans k9).trans k10).trans k11⟩⟩
            · exact ⟨w1 - w2, by omega, by omega, rfl, D10, (k8.trans k9).trans k10⟩
          · rintro σ' H10 ⟨nr, hnr1, hnr2, rfl, D10, k10⟩
            -- least
            refine ⟨_, rfl, _, rfl, _, rfl, _, rfl, _, _, rfl, rfl, d, sa, _, rfl, D10, by omega, fun r1 H11 h3a h3b D11 k11 => ⟨_, _, rfl, rfl, _, _, rfl, ?_⟩⟩
            have R11 := kl (k10.trans k11)
            -- ties_here.append((one, other, least, ..))
            refine ⟨_, rfl, .inl ⟨rfl, _, SqL.of R11.1⟩, ?_⟩
            refine ⟨_, rfl, _, rfl, _, rfl, _, rfl, _, rfl, _, rfl, _, rfl, _, _, rfl, rfl, d, sa, _, rfl, D11, by omega, fun r2 H12 h4a h4b D12 k12 => ⟨_, _, rfl, rfl, _, _, rfl, _, _, rfl, by show 4 ≤ sizeLine; decide, fun p hp => ?_⟩⟩
            have R12 := kl ((k10.trans k11).trans k12)
            have R13 := R12.same (same_new (o := .tup [.int o1, .int ((o1 + 1 + o2) % n), .int (if nr - r1 > -60 then nr - r1 else -60), .int (if (if nr + r2 > (if nr - r1 > -60 then nr - r1 else -60) then nr + r2 else (if nr - r1 > -60 then nr - r1 else -60)) < 60 then (if nr + r2 > (if nr - r1 > -60 then nr - r1 else -60) then nr + r2 else (if nr - r1 > -60 then nr - r1 else -60)) else 60)]) hp)
            have kA := ((k7.trans k10).trans k11).trans k12
            refine ⟨l, _, _, rfl, rfl, R13.1, ?_, ?_⟩
            · rw [List.length_map, R13.len]
              exact small1000 (by omega)
            · refine ⟨_, _, _, _, _, ps ++ [p], rows ++ [[o1, (o1 + 1 + o2) % n, (if nr - r1 > -60 then nr - r1 else -60), (if (if nr + r2 > (if nr - r1 > -60 then nr - r1 else -60) then nr + r2 else (if nr - r1 > -60 then nr - r1 else -60)) < 60 then (if nr + r2 > (if nr - r1 > -60 then nr - r1 else -60) then nr + r2 else (if nr - r1 > -60 then nr - r1 else -60)) else 60)]], rfl, R13.push upd_same, by rw [List.length_append, hlen7]; rfl, fun r hr => ?_, ?_, ?_, ?_⟩
              · rcases List.mem_append.mp hr with q | q
                · exact hok r q
                · rw [List.mem_singleton.mp q]
                  exact ⟨_, _, _, _, rfl, h1a, h1b, ho1, ho2, ho3, by split <;> omega, by repeat' split <;> omega, by split <;> omega⟩
              · rw [upd_ne tll, upd_ne (Ne.symm (ne_of_none ((((k10.trans k11).trans k12)) _ _ t7 (nd htl0)) hp).symm)]
                exact ((k10.trans k11).trans k12) _ _ t7 (nd htl0)
              · exact (D12.new hp).upd R13.1 ld
              · exact keep_upd (keep_upd kA (kA.free hp D12.there)) hl
        · rintro σ' H7 ⟨v1, v2, v3, v4, v5, ps, rows, rfl, R7, hlen7, hok, t7, D7, k7⟩
          exact ⟨_, rfl, k l rows H7 (by omega) hok ⟨ps, R7⟩ hl D7 k7⟩
end
end W

set_option Elab.async false
set_option linter.all false
set_option maxRecDepth 100000
set_option maxHeartbeats 4000000
namespace W
open PySem L2
theorem paired_get {α β : Type} {F : α → β → Prop} {l : List α} {m : List β} {i : Nat} {a : α} (h : Paired F l m) (e : l[i]? = some a) : ∃ b, m[i]? = some b ∧ F a b := by
  induction h generalizing i with
  | nil => simp at e
  | cons r t ih =>
    cases i with
    | zero => simp at e; subst e; exact ⟨_, rfl, r⟩
    | succ i =>
      obtain ⟨b, h1, h2⟩ := ih (i := i) (by simpa using e)
      exact ⟨b, by simpa using h1, h2⟩
theorem Dice.keepL {K : PySem.W.Frag} {sa d l : Addr} {H H1 : Hp} {xs : List V} (x : Dice K sa H d) (k : Keep l H H1) (hl : H l = some (.lst xs)) (hd : l ≠ d) : Dice K sa H1 d := by
  obtain ⟨⟨p, h⟩, ⟨ns, r⟩⟩ := x
  exact ⟨⟨p, k _ _ h (Ne.symm hd)⟩, ⟨ns, r.keep k hl⟩⟩
theorem keep_via {d l : Addr} {H H1 H2 : Hp} (a : Keep d H H1) (b : Keep l H1 H2) (hl : H l = none) : Keep d H H2 := fun c o e n => b c o (a c o e n) (ne_of_none e hl)
/-! ### a drawn web can be -/
theorem namedF_lt {m n t : Int} (hn : 2 ≤ n) (h0 : 0 ≤ m) : 0 ≤ namedF m n t ∧ namedF m n t < n := by
  unfold namedF
  split
  · omega
  · have h1 := Int.emod_nonneg (m - 1 + t) (show n - 1 ≠ 0 by omega)
    have h2 := Int.emod_lt_of_pos (m - 1 + t) (show 0 < n - 1 by omega)
    omega
theorem namedF_pos {m n t : Int} (hn : 2 ≤ n) (h0 : m ≠ 0) : 0 < namedF m n t := by
  unfold namedF
  rw [if_neg h0]
  have h1 := Int.emod_nonneg (m - 1 + t) (show n - 1 ≠ 0 by omega)
  omega
theorem namedF_inj {a b n t : Int} (hn : 2 ≤ n) (ha : 0 ≤ a) (ha' : a < n) (hb : 0 ≤ b) (hb' : b < n) (ht : 0 ≤ t) (ht' : t < n) (e : namedF a n t = namedF b n t) : a = b := by
  by_cases a0 : a = 0
  · by_cases b0 : b = 0
    · omega
    · have := namedF_pos (t := t) hn b0
      have z : namedF a n t = 0 := by unfold namedF; rw [if_pos a0]
      omega
  · by_cases b0 : b = 0
    · have := namedF_pos (t := t) hn a0
      have z : namedF b n t = 0 := by unfold namedF; rw [if_pos b0]
      omega
    · unfold namedF at e
      rw [if_neg a0, if_neg b0, mod_wrap (x := a - 1 + t) (n := n - 1) (by omega) (by omega) (by omega), mod_wrap (x := b - 1 + t) (n := n - 1) (by omega) (by omega) (by omega)] at e
      revert e
      split <;> split <;> intro e <;> omega
noncomputable def renR (n t : Int) : List Int → List Int
  | [a, b, l, m] => [namedF a n t, namedF b n t, l, m]
  | r => r
noncomputable def FallOk (n : Int) (r : List Int) : Prop := ∃ a b l m : Int, r = [a, b, l, m] ∧ 0 ≤ a ∧ a < n ∧ 0 < b ∧ b < n ∧ a ≠ b ∧ 1 ≤ l ∧ l ≤ m ∧ m ≤ 60
structure WebOk (n la : Int) (T F : List (List Int)) : Prop where
  n1 : 1 ≤ n
  n2 : n ≤ 8
  l1 : 1 ≤ la
  l2 : la ≤ 60
  tl : T.length ≤ 24
  fl : F.length ≤ 7
  t : ∀ r ∈ T, TieOk n r
  f : ∀ r ∈ F, FallOk n r
  one : ∀ (i j : Nat) r r', F[i]? = some r → F[j]? = some r' → r[1]? = r'[1]? → i = j
  own : ∀ r ∈ F, ∀ r' ∈ F, r[0]? ≠ r'[1]?
theorem TieOk.ren {n t : Int} {r : List Int} (hn : 2 ≤ n) (ht : 0 ≤ t) (ht' : t < n) (h : TieOk n r) : TieOk n (renR n t r) := by
  obtain ⟨a, b, l, m, rfl, h1, h2, h3, h4, h5, h6, h7, h8⟩ := h
  have ha := namedF_lt (t := t) hn h1
  have hb := namedF_lt (t := t) hn h3
  exact ⟨_, _, l, m, rfl, ha.1, ha.2, hb.1, hb.2, fun e => h5 (namedF_inj hn h1 h2 h3 h4 ht ht' e), h6, h7, h8⟩
theorem webOk_of {n la t : Int} {c : Nat} {T F : List (List Int)} (hn : 2 ≤ n) (hn2 : n ≤ 8) (hl1 : 1 ≤ la) (hl2 : la ≤ 60) (ht : 0 ≤ t) (ht' : t < n) (hT : ∀ r ∈ T, TieOk n r) (hTl : T.length ≤ 12) (hc : (c : Int) ≤ n - 1) (hlen : F.length = c) (hF : FallsRaw n c F) :
    WebOk n la (T.map (renR n t)) (F.map (renR n t)) := by
  have at_ : ∀ (i : Nat) r, (F.map (renR n t))[i]? = some r → ∃ a l m : Int, r = [namedF a n t, namedF (n - 1 - i) n t, l, m] ∧ i < c ∧ 0 ≤ a ∧ a < n - c ∧ 1 ≤ l ∧ l ≤ m ∧ m ≤ 60 := fun i r e => by
    rw [List.getElem?_map] at e
    cases q : F[i]? with
    | none => rw [q] at e; cases e
    | some r0 =>
      rw [q] at e
      have hi : i < c := by rw [← hlen]; exact (List.getElem?_eq_some_iff.mp q).1
      obtain ⟨a, l, m, rfl, r1⟩ := hF i r0 q
      cases e
      exact ⟨a, l, m, rfl, hi, r1⟩
  have mem : ∀ r, r ∈ F.map (renR n t) → ∃ i : Nat, (F.map (renR n t))[i]? = some r := fun r hr => List.mem_iff_getElem?.mp hr
  refine ⟨by omega, hn2, hl1, hl2, by rw [List.length_map]; omega, by rw [List.length_map]; omega, fun r hr => ?_, fun r hr => ?_, fun i j r r' e e' q => ?_, fun r hr r' hr' => ?_⟩
  · obtain ⟨r0, h0, rfl⟩ := List.mem_map.mp hr
    exact (hT r0 h0).ren hn ht ht'
  · obtain ⟨i, e⟩ := mem r hr
    obtain ⟨a, l, m, rfl, hi, h1, h2, h3, h4, h5⟩ := at_ i r e
    have ha := namedF_lt (t := t) hn h1
    have hb := namedF_lt (m := n - 1 - i) (t := t) hn (by omega)
    exact ⟨_, _, l, m, rfl, ha.1, ha.2, namedF_pos hn (by omega), hb.2, fun z => by
      have := namedF_inj hn h1 (by omega) (by omega) (by omega) ht ht' z
      omega, h3, h4, h5⟩
  · obtain ⟨a, l, m, rfl, hi, _⟩ := at_ i r e
    obtain ⟨a', l', m', rfl, hj, _⟩ := at_ j r' e'
    have z : namedF (n - 1 - i) n t = namedF (n - 1 - j) n t := by simpa using q
    have := namedF_inj hn (by omega) (by omega) (by omega) (by omega) ht ht' z
    omega
  · obtain ⟨i, e⟩ := mem r hr
    obtain ⟨j, e'⟩ := mem r' hr'
    obtain ⟨a, l, m, rfl, hi, h1, h2, _⟩ := at_ i r e
    obtain ⟨a', l', m', rfl, hj, _⟩ := at_ j r' e'
    intro q
    have z : namedF a n t = namedF (n - 1 - j) n t := by simpa using q
    have := namedF_inj hn h1 (by omega) (by omega) (by omega) ht ht' z
    omega
theorem Few.ren {wd n t : Int} {n0 : Int} {c : Nat} {rows : List (List Int)} (h : Few wd rows) (hF : FallsRaw n0 c rows) : Few wd (rows.map (renR n t)) := fun z => by
  obtain ⟨h1, h2⟩ := h z
  refine ⟨by rw [List.length_map]; exact h1, fun r hr => ?_⟩
  obtain ⟨r0, h0, rfl⟩ := List.mem_map.mp hr
  obtain ⟨i, e⟩ := List.mem_iff_getElem?.mp h0
  obtain ⟨a, l, m, e', _⟩ := hF i r0 e
  have := h2 r0 h0
  subst e'
  exact this
noncomputable def spWeb (K : PySem.W.Frag) : Sp := fun vs H Q _ => ∃ d sa mo la wd, vs = [.ref d, .int mo, .int la, .int wd] ∧ Dice K sa H d ∧ 2 ≤ mo ∧ mo ≤ 8 ∧ 1 ≤ la ∧ la ≤ 60 ∧ 1 ≤ wd ∧ wd ≤ 8 ∧
  ∀ (p ta fa : Addr) n l T F H', H' p = some (.tup [.int n, .int l, .ref ta, .ref fa]) → RowsAt H' ta T → RowsAt H' fa F → WebOk n l T F → 2 ≤ n → n ≤ mo → l ≤ la → Dice K sa H' d → Keep d H H' → ta ≠ d → fa ≠ d → Few wd F ∧ T.length ≤ 12 → Q (.ref p) H'
section
variable {P : Program} {w : World} {K : PySem.W.Frag} {mg : Str → Option Value} {base : Heap}
noncomputable abbrev nW : List Str := ["_law_d", "_law_most", "_law_last", "_law_wide", "_law_many", "_law_falls_here", "_law_ties_here", "_law_turn", "_law_found", "_law_rows"]
theorem scW : FnScope nW ["_law_d", "_law_most", "_law_last", "_law_wide"] (defScope sWeb) := ⟨rfl, rfl, rfl, by decide +kernel, rfl, by decide +kernel, by decide +kernel⟩
noncomputable abbrev nWc : List Str := ["_law_r", "_law_many", "_law_turn"]
theorem coW : CompOk (defScope sWeb) nW (fsc [(".0", .local), ("_law_r", .local), ("_law_named", .globalImplicit), ("_law_many", .free), ("_law_turn", .free)]) nWc [none, some 4, some 7] :=
  ⟨rfl, by decide +kernel, by decide +kernel, by decide +kernel, rfl, by decide +kernel⟩
theorem ndWc : nWc.Nodup := by decide +kernel
theorem ok_web {f fN fM fF fT : Addr} {fd fdN fdM fdF fdT : FuncData} (F : Fn K mg "_law_web" sWeb ["_law_d", "_law_most", "_law_last", "_law_wide"] f fd)
    (FN : Fn K mg "_law_next" sNext ["_law_dice", "_law_many"] fN fdN) (GN : FnOk P w K mg base CX0 1 fN fdN ["_law_dice", "_law_many"] (spNext K))
    (FM : Fn K mg "_law_named" sNamed ["_law_moment", "_law_many", "_law_turn"] fM fdM) (GM : FnOk P w K mg base CX0 1 fM fdM ["_law_moment", "_law_many", "_law_turn"] spNamed)
    (FF : Fn K mg "_law_falls" sFalls ["_law_d", "_law_many", "_law_wide"] fF fdF) (GF : FnOk P w K mg base CX0 2 fF fdF ["_law_d", "_law_many", "_law_wide"] (spFalls K))
    (FT : Fn K mg "_law_ties" sTies ["_law_d", "_law_many", "_law_last", "_law_wide"] fT fdT) (GT : FnOk P w K mg base CX0 2 fT fdT ["_law_d", "_law_many", "_law_last", "_law_wide"] (spTies K)) :
    FnOk P w K mg base CX0 3 f fd ["_law_d", "_law_most", "_law_last", "_law_wide"] (spWeb K) := by
  refine F.F.ok scW (fun vs H Q E h => ?_) (fun cdv A outer s H vs Q E hr h => ?_)
  · obtain ⟨d, sa, mo, la, wd, rfl, _⟩ := h
    rfl
  · obtain ⟨d, sa, mo, la, wd, rfl, D, hm1, hm2, hl1, hl2, hw1, hw2, k⟩ := h
    have hr1 : Room 1 _ := hr.mono (by decide)
    refine ⟨_, pss_cons (ps_set (i := 4) scW.nd rfl (Or.inr rfl) (pe_op op_add pe_int (pe_call GN hr1 rfl FN.g FN.F.kp FN.b .nil pass0 (pa_cons (pv 0) (pa_cons (pe_op op_sub (pv 1) pe_int) pa_nil)))))
      (pss_cons (ps_set (i := 2) scW.nd rfl (Or.inl rfl) (pe_op op_add pe_int (pe_call GN hr1 rfl FN.g FN.F.kp FN.b .nil pass0 (pa_cons (pv 0) (pa_cons (pv 2) pa_nil)))))
      (pss_cons (ps_set (i := 5) scW.nd rfl (Or.inl rfl) (pe_call GF hr rfl FF.g FF.F.kp FF.b .nil pass0 (pa_cons (pv 0) (pa_cons (pv 4) (pa_cons (pv 3) pa_nil)))))
      (pss_cons (ps_set (i := 6) scW.nd rfl (Or.inl rfl) (pe_call GT hr rfl FT.g FT.F.kp FT.b .nil pass0 (pa_cons (pv 0) (pa_cons (pv 4) (pa_cons (pv 2) (pa_cons (pv 3) pa_nil))))))
      (pss_cons (ps_set (i := 7) scW.nd rfl (Or.inr rfl) (pe_call GN hr1 rfl FN.g FN.F.kp FN.b .nil pass0 (pa_cons (pv 0) (pa_cons (pv 4) pa_nil))))
      (pss_cons (ps_set (i := 8) scW.nd rfl (Or.inl rfl) (pe_lst pa_nil))
      (pss_cons (ps_for PassesOwn.never rfl (pi_list (pe_lst (pa_cons (pv 6) (pa_cons (pv 5) pa_nil)))) (pg_name (i := 9) scW.nd rfl (Or.inl rfl))
        (pss_one (ps_expr (pe_bm PySem.F.plainAttrs_list PySem.F.slot_list_append PySem.F.type_list_append mt_append (pv 8)
          (pa_cons (pe_comp rfl (pi_list (pv 9)) coW (fun cl ex s0 H0 => ⟨pg_name (i := 0) ndWc rfl (Or.inl rfl), pif_none,
            pe_tup (pa_cons (pe_call GM hr1 rfl FM.g FM.F.kp FM.b .nil pass0 (pa_cons (pe_ix ix_tup0 (pv 0) pe_int (fun _ _ => rfl)) (pa_cons (pv 1) (pa_cons (pv 2) pa_nil))))
              (pa_cons (pe_call GM hr1 rfl FM.g FM.F.kp FM.b .nil pass0 (pa_cons (pe_ix ix_tup0 (pv 0) pe_int (fun _ _ => rfl)) (pa_cons (pv 1) (pa_cons (pv 2) pa_nil))))
              (pa_cons (pe_ix ix_tup0 (pv 0) pe_int (fun _ _ => rfl)) (pa_cons (pe_ix ix_tup0 (pv 0) pe_int (fun _ _ => rfl)) pa_nil))))⟩)) pa_nil)))))
      (pss_one (ps_ret (pe_tup (pa_cons (pv 4) (pa_cons (pv 2) (pa_cons (pe_ix ix_list0 (pv 8) pe_int (fun _ _ => rfl)) (pa_cons (pe_ix ix_list0 (pv 8) pe_int (fun _ _ => rfl)) pa_nil))))))))))))), ?_⟩
    refine ⟨_, rfl, _, rfl, _, _, rfl, rfl, d, sa, _, rfl, D, by omega, fun r1 H1 h1a h1b D1 k1 => ⟨_, _, rfl, rfl, ?_⟩⟩
    refine ⟨_, rfl, _, rfl, d, sa, _, rfl, D1, by omega, fun r2 H2 h2a h2b D2 k2 => ⟨_, _, rfl, rfl, ?_⟩⟩
    refine ⟨_, rfl, _, rfl, _, rfl, d, sa, _, _, rfl, D2, by omega, by omega, hw1, hw2, fun fl c F0 H3 hc hcl hF0 RF hfl D3 k3 few => ?_⟩
    refine ⟨_, rfl, _, rfl, _, rfl, _, rfl, d, sa, _, _, _, rfl, D3, by omega, by omega, by omega, by omega, hw1, hw2, fun tl T0 H4 hTl hT0 RT htl D4 k4 => ?_⟩
    refine ⟨_, rfl, _, rfl, d, sa, _, rfl, D4, by omega, fun t H5 hta htb D5 k5 => ?_⟩
    have fld : fl ≠ d := fun e => by
      subst e
      obtain ⟨o, q⟩ := D2.there
      rw [hfl] at q
      cases q
    have tld : tl ≠ d := fun e => by
      subst e
      obtain ⟨o, q⟩ := D3.there
      rw [htl] at q
      cases q
    have RF5 : RowsAt H5 fl F0 := by
      obtain ⟨p, e⟩ := D3.at_
      exact RF.keep (k4.trans k5) e fld
    have RT5 : RowsAt H5 tl T0 := by
      obtain ⟨p, e⟩ := D4.at_
      exact RT.keep k5 e tld
    have kA : Keep d H H5 := (((k1.trans k2).trans k3).trans k4).trans k5
    -- found = []
    refine ⟨Nat.zero_le _, fun fo hfo => ?_⟩
    have fod : fo ≠ d := fun e => by
      subst e
      obtain ⟨o, q⟩ := D5.there
      rw [hfo] at q
      cases q
    have hfo0 : H fo = none := kA.free hfo D5.there
    have RF6 := RF5.same (same_new (o := .lst []) hfo)
    have RT6 := RT5.same (same_new (o := .lst []) hfo)
    have tlfo : tl ≠ fo := by
      obtain ⟨ps, e, _⟩ := RT5
      exact ne_of_none e hfo
    have flfo : fl ≠ fo := by
      obtain ⟨ps, e, _⟩ := RF5
      exact ne_of_none e hfo
    -- for rows in [ties, falls]
    refine ⟨_, rfl, _, rfl, by show 2 ≤ sizeLine; decide, fun ll hll => ⟨ll, rfl, ⟨_, SqL.of upd_same⟩, ?_⟩⟩
    have llfo : ll ≠ fo := Ne.symm (ne_of_none (upd_same (H := H5) (a := fo) (o := .lst [])) hll)
    have hll5 : H5 ll = none := by rw [upd_ne llfo] at hll; exact hll
    have hll0 : H ll = none := kA.free hll5 D5.there
    generalize hH7 : upd (upd H5 fo (.lst [])) ll (.lst [V.ref tl, V.ref fl]) = H7
    have e7 : H7 fo = some (.lst []) := by rw [← hH7, upd_ne (Ne.symm llfo), upd_same]
    have e7l : H7 ll = some (.lst [V.ref tl, V.ref fl]) := by rw [← hH7, upd_same]
    have RF7 : RowsAt H7 fl F0 := by rw [← hH7]; exact RF6.same (same_new hll)
    have RT7 : RowsAt H7 tl T0 := by rw [← hH7]; exact RT6.same (same_new hll)
    have D7 : Dice K sa H7 d := by rw [← hH7]; exact (D5.new hfo).new hll
    have k7 : Keep d H H7 := by rw [← hH7]; exact keep_upd (keep_upd kA hfo0) hll0
    refine for_list (K := K) (a := ll) (xs := [V.ref tl, V.ref fl]) (fun i σ' H' => ∃ v ls, σ' = [some (.ref d), some (.int mo), some (.int (1 + r2)), some (.int wd), some (.int (2 + r1)), some (.ref fl), some (.ref tl), some (.int t), some (.ref fo), v] ∧
      H' fo = some (.lst (ls.map V.ref)) ∧ Paired (fun a rs => RowsAt H' a rs ∧ a ≠ fo ∧ a ≠ d) ls (([T0, F0].take i).map fun R => R.map (renR (2 + r1) t)) ∧ Keep fo H7 H') ⟨none, [], rfl, e7, .nil, Keep.refl fo H7⟩ ?_ ?_ ?_
    · rintro i σ' H8 _ ⟨v, ls, rfl, _, _, k8⟩
      exact SqL.of (k8 _ _ e7l llfo)
    · rintro i x σ' H8 hx ⟨v, ls, rfl, e8, pl8, k8⟩
      obtain ⟨a0, R0, rfl, RA, a0fo, htk, hsh, hln⟩ : ∃ a0 R0, x = .ref a0 ∧ RowsAt H8 a0 R0 ∧ a0 ≠ fo ∧ (([T0, F0].take (i + 1)).map fun R => R.map (renR (2 + r1) t)) = (([T0, F0].take i).map fun R => R.map (renR (2 + r1) t)) ++ [R0.map (renR (2 + r1) t)] ∧
          (∀ r ∈ R0, ∃ a b l m : Int, r = [a, b, l, m]) ∧ R0.length ≤ 12 := by
        match i, hx with
        | 0, hx =>
          cases hx
          exact ⟨tl, T0, rfl, RT7.keep k8 e7 tlfo, tlfo, rfl, fun r hr => by
            obtain ⟨a, b, l, m, e, _⟩ := hT0 r hr
            exact ⟨a, b, l, m, e⟩, hTl⟩
        | 1, hx =>
          cases hx
          exact ⟨fl, F0, rfl, RF7.keep k8 e7 flfo, flfo, rfl, fun r hr => by
            obtain ⟨i, e⟩ := List.mem_iff_getElem?.mp hr
            obtain ⟨a, l, m, e, _⟩ := hF0 i r e
            exact ⟨a, _, l, m, e⟩, by omega⟩
        | i + 2, hx => cases hx
      obtain ⟨ps0, RP⟩ := RA
      refine ⟨_, rfl, .inl ⟨rfl, _, SqL.of e8⟩, ?_⟩
      refine ⟨_, rfl, a0, rfl, ⟨_, SqL.of RP.1⟩, fun Da hDa => ?_⟩
      refine comp_list (xs := ps0.map V.ref) (fun j σ' H' => ∃ v ps, σ' = [v, some (.int (2 + r1)), some (.int t)] ∧ RowsP H' Da ps ((R0.take j).map (renR (2 + r1) t)) ∧ Same H8 H') ?_ ?_ ?_ ?_
      · exact ⟨none, [], rfl, ⟨upd_same, .nil⟩, same_new hDa⟩
      · rintro j σ' H9 _ ⟨v, ps, rfl, _, s9⟩
        exact SqL.of (s9 _ _ RP.1)
      · rintro j x σ' H9 hxj ⟨v, ps, rfl, R9, s9⟩
        rw [List.getElem?_map] at hxj
        cases hq : ps0[j]? with
        | none => rw [hq] at hxj; cases hxj
        | some q =>
          rw [hq] at hxj
          cases hxj
          obtain ⟨r, hr, hqt⟩ := paired_get RP.2 hq
          obtain ⟨a, b, l, m, rfl⟩ := hsh r (List.mem_of_getElem? hr)
          have hqt9 := s9 _ _ hqt
          refine ⟨_, rfl, rdT hqt9 rfl ⟨_, rfl, _, rfl, _, _, _, rfl, by omega, ?_⟩⟩
          refine ⟨_, rfl, rdT hqt9 rfl ⟨_, rfl, _, rfl, _, _, _, rfl, by omega, ?_⟩⟩
          refine ⟨_, rfl, rdT hqt9 rfl ⟨_, rfl, rdT hqt9 rfl ⟨by show 4 ≤ sizeLine; decide, fun p hp => ?_⟩⟩⟩
          have R10 := R9.same (same_new (o := .tup [.int (namedF a (2 + r1) t), .int (namedF b (2 + r1) t), .int l, .int m]) hp)
          have hDa8 : H8 Da = none := hDa
          refine ⟨_, R10.1, ?_, _, ps ++ [p], rfl, ?_, fun b o e => ?_⟩
          · rw [List.length_map, R10.len, List.length_map, List.length_take]
            exact small1000 (by omega)
          · have hj : (R0.take (j + 1)).map (renR (2 + r1) t) = (R0.take j).map (renR (2 + r1) t) ++ [[namedF a (2 + r1) t, namedF b (2 + r1) t, l, m]] := by
              rw [List.take_succ, hr, List.map_append]
              rfl
            rw [hj]
            exact R10.push upd_same
          · rw [upd_ne (ne_of_none e hDa8), upd_ne (ne_of_none (s9 _ _ e) hp)]
            exact s9 _ _ e
      · rintro σ' H9 ⟨v, ps, rfl, R9, s9⟩
        have e9 := s9 _ _ e8
        refine ⟨fo, _, .ref Da, rfl, rfl, e9, ?_, ?_⟩
        · rw [List.length_map, pl8.length, List.length_map, List.length_take]
          exact small1000 (by simp; omega)
        · have hDafo : Da ≠ fo := Ne.symm (ne_of_none e8 hDa)
          have hDad : Da ≠ d := fun e => by
            subst e
            obtain ⟨p, q⟩ := (D7.keepL k8 e7 fod).at_
            rw [hDa] at q
            cases q
          have ku : Keep fo H9 (upd H9 fo (.lst (ls.map V.ref ++ [.ref Da]))) := fun b o e n => by rw [upd_ne n]; exact e
          refine ⟨_, ls ++ [Da], rfl, by rw [upd_same, List.map_append]; rfl, ?_, fun b o e n => by rw [upd_ne n]; exact s9 _ _ (k8 b o e n)⟩
          rw [htk]
          refine Paired.snoc (paired_imp pl8 fun a rs z => ⟨(z.1.same s9).keep ku e9 z.2.1, z.2⟩) ⟨?_, hDafo, hDad⟩
          have hl : R0.take (ps0.map V.ref).length = R0 := by
            rw [List.length_map, RP.len]
            exact List.take_length
          rw [hl] at R9
          exact RowsAt.keep ⟨ps, R9⟩ ku e9 hDafo
    · rintro σ' H8 ⟨v, ls, rfl, e8, pl8, k8⟩
      have pl8 : Paired (fun a rs => RowsAt H8 a rs ∧ a ≠ fo ∧ a ≠ d) ls [T0.map (renR (2 + r1) t), F0.map (renR (2 + r1) t)] := pl8
      cases pl8 with
      | @cons lt _ ls1 _ q1 pl9 =>
        cases pl9 with
        | @cons lf _ ls2 _ q2 pl10 =>
          cases pl10
          refine ⟨_, rfl, _, rfl, _, rfl, rdL e8 rfl ⟨_, rfl, rdL e8 rfl ⟨by show 4 ≤ sizeLine; decide, fun p hp => ?_⟩⟩⟩
          have sm := same_new (o := .tup [.int (2 + r1), .int (1 + r2), .ref lt, .ref lf]) hp
          exact k p lt lf _ _ _ _ _ upd_same (q1.1.same sm) (q2.1.same sm) (webOk_of (by omega) (by omega) (by omega) (by omega) hta htb hT0 hTl hc hcl hF0) (by omega) (by omega) (by omega) ((D7.keepL k8 e7 fod).same sm) (keep_upd (keep_via k7 k8 hfo0) ((keep_via k7 k8 hfo0).free hp (D7.keepL k8 e7 fod).there)) q1.2.2 q2.2.2 ⟨few.ren hF0, by rw [List.length_map]; exact hTl⟩
end
end W

set_option Elab.async false
set_option linter.all false
set_option maxRecDepth 100000
set_option maxHeartbeats 4000000
namespace L2
open PySem PySem.Spec PyProof.Rows
section
variable {P : Program} {w : World} {K : PySem.W.Frag} {mg : Str → Option Value} {base : Heap}
theorem Fun.ok1 {x qual : Str} {st : Stmt} {f : Addr} {fd : FuncData} {N ps : List Str} {k : Nat} {sp : Sp} (F : Fun K x qual st f fd) (S : FnScope N ps (defScope st)) (len : ∀ vs H Q E, sp vs H Q E → vs.length = ps.length)
    (hbody : ∀ (cdv : Value) (A : Around) (outer : List Env) (s : Shared) (H : Hp) (vs : List V) (Q : VK) (E : XK), Room k (A.deeper (envOfC qual (defScope st) s.heap.objs.size f cdv)) → sp vs H Q E →
      ∃ t, PSs (cxOf (CX1 P w) P w K mg base N qual (defScope st) f cdv A outer s H E) (defBody st) t ∧ t { nx := fun _ H' => Q .non H', rt := Q } (start N vs) H) : FnOk P w K mg base (CX1 P w) (k + 1) f fd ps sp := by
  obtain ⟨oc, od, kV, doc, pm, an, cdv, ct, osl, rfl, lk, hcd⟩ := F.ex
  exact fn_of lk hcd S len fun A outer s H vs Q E hr hsp => hbody cdv A outer s H vs Q E hr hsp
end
theorem iteD {c A B : Prop} [Decidable c] (hc : c) (h : A) : if decide c = true then A else B := by
  rw [decide_eq_true hc]
  exact iteT h
theorem iteDN {c A B : Prop} [Decidable c] (hc : ¬ c) (h : B) : if decide c = true then A else B := by
  rw [decide_eq_false hc]
  exact iteF h
theorem bl_of {Q : VK} {H : Hp} {b b' : Bool} (k : Q (.bl b) H) (e : b = b') : Q (.bl b') H := e ▸ k
theorem inV_ints {a : Int} : ∀ {ns : List Int}, inV (.int a) (ns.map V.int) = decide (a ∈ ns)
  | [] => by simp [inV]
  | n :: r => by
    have ih := inV_ints (a := a) (ns := r)
    unfold inV at ih ⊢
    rw [List.map_cons, List.any_cons, ih]
    show ((n == a) || decide (a ∈ r)) = decide (a ∈ n :: r)
    by_cases e : n = a
    · subst e; simp
    · have : ¬ a = n := fun z => e z.symm
      simp [e, this]
theorem flat_ints : ∀ {ns : List Int}, (ns.map V.int).all flatV = true
  | [] => rfl
  | n :: r => by
    rw [List.map_cons, List.all_cons, flat_ints (ns := r)]
    rfl
theorem cut_take {α : Type} {xs : List α} {i : Nat} (h : i ≤ xs.length) : (xs.drop (HT.sIx xs.length 0 none)).take (HT.sIx xs.length xs.length (some (i : Int)) - HT.sIx xs.length 0 none) = xs.take i := by
  rw [HT.sIx_none, HT.sIx_nat, List.drop_zero, Nat.sub_zero, Nat.min_eq_left h]
end L2
namespace W
open PySem L2
structure TxtW (mg : Str → Option Value) : Prop where
  mm : ∃ t, mg "MOST_MOMENTS" = some (.int 8 t)
  ll : ∃ t, mg "LATEST_LAST" = some (.int 60 t)
  ws : ∃ t, mg "WIDEST_SPAN" = some (.int 60 t)
  lf : ∃ t, mg "LONGEST_FALL" = some (.int 60 t)
  list : mg "list" = none
noncomputable def spTwo : Sp := fun vs H Q _ => ∃ n a b, vs = [.int n, .int a, .int b] ∧ Q (.bl (decide (0 ≤ a ∧ a < n ∧ 0 ≤ b ∧ b < n ∧ a ≠ b))) H
noncomputable def spSize : Sp := fun vs H Q _ => ∃ n la, vs = [.int n, .int la] ∧ 1 ≤ n ∧ n ≤ 8 ∧ 1 ≤ la ∧ la ≤ 60 ∧ Q .non H
noncomputable def spLTies : Sp := fun vs H Q _ => ∃ n a T, vs = [.int n, .ref a] ∧ RowsAt H a T ∧ (∀ r ∈ T, TieOk n r) ∧ Q .non H
noncomputable def spLFalls : Sp := fun vs H Q _ => ∃ n a la T F, vs = [.int n, .ref a] ∧ RowsAt H a F ∧ WebOk n la T F ∧ ∀ H', Same H H' → Q .non H'
section
variable {P : Program} {w : World} {K : PySem.W.Frag} {mg : Str → Option Value} {base : Heap}
theorem sc2 : FnScope ["many", "one", "other"] ["many", "one", "other"] (defScope sP_are_two_moments) := ⟨rfl, rfl, rfl, by decide +kernel, rfl, by decide +kernel, by decide +kernel⟩
theorem ok_two {f : Addr} {fd : FuncData} (F : Fn K mg "are_two_moments" sP_are_two_moments ["many", "one", "other"] f fd) : FnOk P w K mg base CX0 1 f fd ["many", "one", "other"] spTwo := by
  refine F.F.ok sc2 (fun vs H Q E h => ?_) (fun cdv A outer s H vs Q E hr h => ?_)
  · obtain ⟨n, a, b, rfl, _⟩ := h
    rfl
  · obtain ⟨n, a, b, rfl, k⟩ := h
    refine ⟨_, pss_one (ps_ret (pe_and (pe_chain op_le op_lt pe_int (pv 1) (pv 0)) (pe_and (pe_chain op_le op_lt pe_int (pv 2) (pv 0)) (pe_one (pe_cmpR op_ne (pv 1) (pv 2) (nomark _)))))), ?_⟩
    refine ⟨_, rfl, _, _, rfl, rfl, _, rfl, ite2 (fun h1 => ⟨_, rfl, _, _, rfl, rfl, _, rfl, ite2 (fun h2 => ⟨_, rfl, _, _, rfl, rfl, _, rfl, ite2 (fun h3 => ⟨_, rfl, _, _, rfl, rfl, _, rfl, ite2 (fun h4 => ⟨_, rfl, _, rfl, rfl, ?_⟩) (fun h4 => ?_)⟩) (fun h3 => ⟨false, rfl, iteF ?_⟩)⟩) (fun h2 => ?_)⟩) (fun h1 => ⟨false, rfl, iteF ?_⟩)⟩
    all_goals simp only [decide_eq_true_eq] at *
    · refine bl_of (Q := Q) k ?_
      by_cases e : a = b
      · subst e; simp
      · simp [e]; omega
    all_goals (refine bl_of (Q := Q) k (decide_eq_false fun z => ?_); omega)
theorem scS : FnScope ["many", "last"] ["many", "last"] (defScope sP_look_over_size) := ⟨rfl, rfl, rfl, by decide +kernel, rfl, by decide +kernel, by decide +kernel⟩
theorem ok_size {f : Addr} {fd : FuncData} (F : Fn K mg "look_over_size" sP_look_over_size ["many", "last"] f fd) (T : TxtW mg) : FnOk P w K mg base CX0 1 f fd ["many", "last"] spSize := by
  obtain ⟨t1, m1⟩ := T.mm
  obtain ⟨t2, m2⟩ := T.ll
  refine F.F.ok scS (fun vs H Q E h => ?_) (fun cdv A outer s H vs Q E hr h => ?_)
  · obtain ⟨n, a, rfl, _⟩ := h
    rfl
  · obtain ⟨n, la, rfl, n1, n2, l1, l2, k⟩ := h
    refine ⟨_, pss_cons (ps_if (pt_not (pt_chain op_le op_le pe_int (pv 0) (pe_glob (v := .int 8) rfl m1 ⟨_, rfl⟩))) pss_never pss_nil) (pss_one (ps_if (pt_not (pt_chain op_le op_le pe_int (pv 1) (pe_glob (v := .int 60) rfl m2 ⟨_, rfl⟩))) pss_never pss_nil)), ?_⟩
    refine ⟨_, rfl, _, _, rfl, rfl, _, rfl, iteD n1 ⟨_, _, rfl, rfl, _, rfl, iteNS n2 ?_⟩⟩
    exact ⟨_, rfl, _, _, rfl, rfl, _, rfl, iteD l1 ⟨_, _, rfl, rfl, _, rfl, iteNS l2 k⟩⟩
noncomputable abbrev nLT : List Str := ["many", "ties", "at", "one", "other", "least", "most"]
theorem scLT : FnScope nLT ["many", "ties"] (defScope sP_look_over_ties) := ⟨rfl, rfl, rfl, by decide +kernel, rfl, by decide +kernel, by decide +kernel⟩
theorem ok_lties {f f2 : Addr} {fd fd2 : FuncData} (F : Fn K mg "look_over_ties" sP_look_over_ties ["many", "ties"] f fd) (T : TxtW mg) (F2 : Fn K mg "are_two_moments" sP_are_two_moments ["many", "one", "other"] f2 fd2)
    (G2 : FnOk P w K mg base CX0 1 f2 fd2 ["many", "one", "other"] spTwo) : FnOk P w K mg base CX0 2 f fd ["many", "ties"] spLTies := by
  obtain ⟨t1, m1⟩ := T.ws
  refine F.F.ok scLT (fun vs H Q E h => ?_) (fun cdv A outer s H vs Q E hr h => ?_)
  · obtain ⟨n, a, _, rfl, _⟩ := h
    rfl
  · obtain ⟨n, a, rows, rfl, ⟨ps, R⟩, hok, k⟩ := h
    refine ⟨_, pss_cons (ps_set (i := 2) scLT.nd rfl (Or.inl rfl) pe_int) (pss_one (ps_for PassesOwn.never rfl (pi_list (pv 1))
      (pg_tup rfl (pgs_cons (pg_name (i := 3) scLT.nd rfl (Or.inl rfl)) (pgs_cons (pg_name (i := 4) scLT.nd rfl (Or.inl rfl)) (pgs_cons (pg_name (i := 5) scLT.nd rfl (Or.inl rfl)) (pgs_cons (pg_name (i := 6) scLT.nd rfl (Or.inl rfl)) pgs_nil)))))
      (pss_cons (ps_if (pt_not (pt_val (pe_call G2 hr rfl F2.g F2.F.kp F2.b .nil pass0 (pa_cons (pv 0) (pa_cons (pv 3) (pa_cons (pv 4) pa_nil)))))) pss_never pss_nil)
      (pss_cons (ps_if (pt_not (pt_chain3 op_le op_le op_le (pe_un un_neg (pe_glob (v := .int 60) rfl m1 ⟨_, rfl⟩)) (pv 5) (pv 6) (pe_glob (v := .int 60) rfl m1 ⟨_, rfl⟩))) pss_never pss_nil)
      (pss_one (ps_aug (i := 2) scLT.nd rfl (Or.inl rfl) pe_int ip_add)))))), ?_⟩
    refine ⟨_, rfl, a, rfl, ⟨_, SqL.of R.1⟩, for_list (K := K) (a := a) (xs := ps.map V.ref) (fun i σ' H' => ∃ z v1 v2 v3 v4, σ' = [some (.int n), some (.ref a), some (.int z), v1, v2, v3, v4] ∧ H' = H) ⟨0, none, none, none, none, rfl, rfl⟩ ?_ ?_ ?_⟩
    · rintro i σ' H' _ ⟨z, v1, v2, v3, v4, rfl, rfl⟩
      exact SqL.of R.1
    · rintro i x σ' H' hx ⟨z, v1, v2, v3, v4, rfl, rfl⟩
      rw [List.getElem?_map] at hx
      cases hq : ps[i]? with
      | none => rw [hq] at hx; cases hx
      | some q =>
        rw [hq] at hx
        cases hx
        obtain ⟨r, hr', hqt⟩ := paired_get R.2 hq
        obtain ⟨a', b', l, m, rfl, h1, h2, h3, h4, h5, h6, h7, h8⟩ := hok r (List.mem_of_getElem? hr')
        refine ⟨q, _, rfl, SqT.of hqt, rfl, _, _, rfl, _, _, rfl, _, _, rfl, _, _, rfl, rfl, ?_⟩
        refine ⟨_, rfl, _, rfl, _, rfl, n, a', b', rfl, _, rfl, iteNS ⟨h1, h2, h3, h4, h5⟩ ?_⟩
        refine ⟨_, rfl, _, rfl, _, _, rfl, rfl, _, rfl, iteD (by omega) ⟨_, rfl, _, _, rfl, rfl, _, rfl, iteD h7 ⟨_, _, rfl, rfl, _, rfl, iteNS h8 ?_⟩⟩⟩
        exact ⟨_, rfl, _, _, rfl, rfl, _, _, _, _, _, rfl, rfl⟩
    · rintro σ' H' ⟨z, v1, v2, v3, v4, rfl, rfl⟩
      exact k
end
end W

set_option Elab.async false
set_option linter.all false
set_option maxRecDepth 100000
set_option maxHeartbeats 4000000
namespace L2
open PySem PySem.Spec PyProof.Rows
theorem iteB {b : Bool} {A B : Prop} (e : b = false) (h : B) : if b = true then A else B := by
  rw [e]
  exact iteF h
theorem iteBT {b : Bool} {A B : Prop} (e : b = true) (h : A) : if b = true then A else B := by
  rw [e]
  exact iteT h
theorem putF_len (f : Str) (v : V) : ∀ fs : List (Str × V), (putF f v fs).length ≤ fs.length + 1
  | [] => Nat.le_refl _
  | (g, x) :: r => by
    unfold putF
    split
    · exact Nat.le_succ _
    · exact Nat.succ_le_succ (putF_len f v r)
theorem RowsP.get {H : Hp} {a : Addr} {ps : List Addr} {rows : List (List Int)} (R : RowsP H a ps rows) {i : Nat} {x : V} (hx : (ps.map V.ref)[i]? = some x) : ∃ q r, x = .ref q ∧ ps[i]? = some q ∧ rows[i]? = some r ∧ H q = some (.tup (r.map V.int)) := by
  rw [List.getElem?_map] at hx
  cases hq : ps[i]? with
  | none => rw [hq] at hx; cases hx
  | some q =>
    rw [hq] at hx
    cases hx
    obtain ⟨r, hr', hqt⟩ := W.paired_get R.2 hq
    exact ⟨q, r, rfl, rfl, hr', hqt⟩
end L2
namespace W
open PySem L2
noncomputable def endI (r : List Int) : Int := r.getD 1 0
structure TxtC (K : PySem.W.Frag) (mg : Str → Option Value) (C : Addr) : Prop where
  cl : Cls K C
  nM : NoAttr K C "many"
  nL : NoAttr K C "last"
  nT : NoAttr K C "told_ties"
  nF : NoAttr K C "told_falls"
  mgC : mg "Web" = some (.ref C)
noncomputable def wflds (n la : Int) (ta fa : Addr) : List (Str × V) := putF "told_falls" (.ref fa) (putF "told_ties" (.ref ta) (putF "last" (.int la) (putF "many" (.int n) [])))
theorem k1 : ¬ (("many" : Str) = "told_falls") := by decide +kernel
theorem k2 : ¬ (("many" : Str) = "told_ties") := by decide +kernel
theorem k3 : ¬ (("many" : Str) = "last") := by decide +kernel
theorem k4 : ¬ (("last" : Str) = "told_falls") := by decide +kernel
theorem k5 : ¬ (("last" : Str) = "told_ties") := by decide +kernel
theorem k6 : ¬ (("told_ties" : Str) = "told_falls") := by decide +kernel
theorem w_many (n la : Int) (ta fa : Addr) : (wflds n la ta fa).lookup ("many" : Str) = some (.int n) := by
  unfold wflds
  rw [lookup_putF, if_neg k1, lookup_putF, if_neg k2, lookup_putF, if_neg k3, lookup_putF, if_pos rfl]
theorem w_last (n la : Int) (ta fa : Addr) : (wflds n la ta fa).lookup ("last" : Str) = some (.int la) := by
  unfold wflds
  rw [lookup_putF, if_neg k4, lookup_putF, if_neg k5, lookup_putF, if_pos rfl]
theorem w_ties (n la : Int) (ta fa : Addr) : (wflds n la ta fa).lookup ("told_ties" : Str) = some (.ref ta) := by
  unfold wflds
  rw [lookup_putF, if_neg k6, lookup_putF, if_pos rfl]
theorem w_falls (n la : Int) (ta fa : Addr) : (wflds n la ta fa).lookup ("told_falls" : Str) = some (.ref fa) := by
  unfold wflds
  rw [lookup_putF, if_pos rfl]
theorem w_no (n la : Int) (ta fa : Addr) {m : Str} (h1 : ¬ m = "told_falls") (h2 : ¬ m = "told_ties") (h3 : ¬ m = "last") (h4 : ¬ m = "many") : (wflds n la ta fa).lookup m = none := by
  unfold wflds
  rw [lookup_putF, if_neg h1, lookup_putF, if_neg h2, lookup_putF, if_neg h3, lookup_putF, if_neg h4]
  all_goals rfl
noncomputable def WebAt (C : Addr) (H : Hp) (p : Addr) (n la : Int) (T F : List (List Int)) : Prop := ∃ dx ta fa, H p = some (.ins C dx (wflds n la ta fa)) ∧ RowsAt H ta T ∧ RowsAt H fa F
theorem WebAt.same {C p : Addr} {H H' : Hp} {n la : Int} {T F : List (List Int)} (h : WebAt C H p n la T F) (k : Same H H') : WebAt C H' p n la T F := by
  obtain ⟨dx, ta, fa, e, r1, r2⟩ := h
  exact ⟨dx, ta, fa, k _ _ e, r1.same k, r2.same k⟩
noncomputable def spInit (C : Addr) : Sp := fun vs H Q _ => ∃ p dx n la a b T F, vs = [.ref p, .int n, .int la, .ref a, .ref b] ∧ H p = some (.ins C dx []) ∧ RowsAt H a T ∧ RowsAt H b F ∧ WebOk n la T F ∧
  ∀ H', WebAt C H' p n la T F → Keep p H H' → Q .non H'
noncomputable def spGet (C : Addr) (g : List (List Int) → List (List Int) → List (List Int)) : Sp := fun vs H Q _ => ∃ p n la T F, vs = [.ref p] ∧ WebAt C H p n la T F ∧ ∀ l H', H l = none → Same H H' → RowsAt H' l (g T F) → Q (.ref l) H'
section
variable {P : Program} {w : World} {K : PySem.W.Frag} {mg : Str → Option Value} {base : Heap}
noncomputable abbrev nLF : List Str := ["many", "falls", "ends", "at", "one", "other", "least", "most"]
theorem scLF : FnScope nLF ["many", "falls"] (defScope sP_look_over_falls) := ⟨rfl, rfl, rfl, by decide +kernel, rfl, by decide +kernel, by decide +kernel⟩
theorem coLF : CompOk (defScope sP_look_over_falls) nLF (fsc [(".0", .local), ("fall", .local)]) ["fall"] [none] := ⟨rfl, by decide +kernel, by decide +kernel, by decide +kernel, rfl, by decide +kernel⟩
theorem nd1 {x : Str} : ([x] : List Str).Nodup := by simp
theorem ok_lfalls {f f2 : Addr} {fd fd2 : FuncData} (F : Fn K mg "look_over_falls" sP_look_over_falls ["many", "falls"] f fd) (T : TxtW mg) (F2 : Fn K mg "are_two_moments" sP_are_two_moments ["many", "one", "other"] f2 fd2)
    (G2 : FnOk P w K mg base CX0 1 f2 fd2 ["many", "one", "other"] spTwo) : FnOk P w K mg base CX0 2 f fd ["many", "falls"] spLFalls := by
  obtain ⟨t1, m1⟩ := T.lf
  refine F.F.ok scLF (fun vs H Q E h => ?_) (fun cdv A outer s H vs Q E hr h => ?_)
  · obtain ⟨n, a, _, _, _, rfl, _⟩ := h
    rfl
  · obtain ⟨n, a, la, TT, rows, rfl, ⟨ps, R⟩, hok, k⟩ := h
    refine ⟨_, pss_cons (ps_setC (i := 2) scLF.nd rfl rfl rfl (pi_list (pv 1)) coLF (fun cl ex s0 H0 => ⟨pg_name (i := 0) nd1 rfl (Or.inl rfl), pif_none, pe_ix ix_tup0 (pv 0) pe_int (fun _ _ => rfl)⟩))
      (pss_cons (ps_set (i := 3) scLF.nd rfl (Or.inl rfl) pe_int) (pss_one (ps_for PassesOwn.never rfl (pi_list (pv 1))
      (pg_tup rfl (pgs_cons (pg_name (i := 4) scLF.nd rfl (Or.inl rfl)) (pgs_cons (pg_name (i := 5) scLF.nd rfl (Or.inl rfl)) (pgs_cons (pg_name (i := 6) scLF.nd rfl (Or.inl rfl)) (pgs_cons (pg_name (i := 7) scLF.nd rfl (Or.inl rfl)) pgs_nil)))))
      (pss_cons (ps_if (PW.pt (pw_or (pt_not (pt_val (pe_call G2 hr rfl F2.g F2.F.kp F2.b .nil pass0 (pa_cons (pv 0) (pa_cons (pv 4) (pa_cons (pv 5) pa_nil)))))) (pw_or1 (pt_cmpR op_in_seq (pv 4) (pv 2) (by with_unfolding_all rfl))))) pss_never pss_nil)
      (pss_cons (ps_if (PW.pt (pw_or (pt_cmpR op_eq (pv 5) pe_int (nomark _)) (pw_or1 (pt_cmpR op_in_seq (pv 5) (pe_slice sl_list (pv 2) po_none (po_some (pv 3))) (by with_unfolding_all rfl))))) pss_never pss_nil)
      (pss_cons (ps_if (pt_not (pt_chain3 op_le op_le op_le pe_int (pv 6) (pv 7) (pe_glob (v := .int 60) rfl m1 ⟨_, rfl⟩))) pss_never pss_nil)
      (pss_one (ps_aug (i := 3) scLF.nd rfl (Or.inl rfl) pe_int ip_add)))))))), ?_⟩
    -- ends = [fall[1] for fall in falls]
    refine ⟨_, rfl, a, rfl, ⟨_, SqL.of R.1⟩, fun Da hDa => ?_⟩
    refine comp_list (xs := ps.map V.ref) (fun j σ' H' => ∃ v, σ' = [v] ∧ H' Da = some (.lst (((rows.take j).map endI).map V.int)) ∧ Same H H') ?_ ?_ ?_ ?_
    · exact ⟨none, rfl, upd_same, same_new hDa⟩
    · rintro j σ' H1 _ ⟨v, rfl, _, s1⟩
      exact SqL.of (s1 _ _ R.1)
    · rintro j x σ' H1 hx ⟨v, rfl, e1, s1⟩
      obtain ⟨q, r, rfl, hq, hr', hqt⟩ := R.get hx
      obtain ⟨a', b', l, m, rfl, _⟩ := hok.f r (List.mem_of_getElem? hr')
      refine ⟨_, rfl, rdT (s1 _ _ hqt) rfl ⟨_, e1, ?_, _, rfl, ?_, fun b o e => ?_⟩⟩
      · rw [List.length_map, List.length_map, List.length_take]
        have := hok.fl
        exact small1000 (by omega)
      · rw [upd_same, List.take_succ, hr', List.map_append, List.map_append]
        rfl
      · rw [upd_ne (ne_of_none e hDa)]
        exact s1 _ _ e
    · rintro σ' H1 ⟨v, rfl, e1, s1⟩
      have hl : rows.take (ps.map V.ref).length = rows := by
        rw [List.length_map, R.len]
        exact List.take_length
      rw [hl] at e1
      have R1 := R.same s1
      -- the rows
      refine ⟨_, rfl, a, rfl, ⟨_, SqL.of R1.1⟩, for_list (K := K) (a := a) (xs := ps.map V.ref) (fun i σ' H' => ∃ z v1 v2 v3 v4, z = (i : Int) ∧ σ' = [some (.int n), some (.ref a), some (.ref Da), some (.int z), v1, v2, v3, v4] ∧ Same H1 H') ⟨0, none, none, none, none, rfl, rfl, Same.refl _⟩ ?_ ?_ ?_⟩
      · rintro i σ' H' _ ⟨z, v1, v2, v3, v4, _, rfl, s2⟩
        exact SqL.of (s2 _ _ R1.1)
      · rintro i x σ' H2 hx ⟨z, v1, v2, v3, v4, rfl, rfl, s2⟩
        have R2 := R1.same s2
        obtain ⟨q, r, rfl, hq, hr', hqt⟩ := R2.get hx
        have hmem := List.mem_of_getElem? hr'
        obtain ⟨a', b', l, m, e4, h1, h2, h3, h4, h5, h6, h7, h8⟩ := hok.f r hmem
        subst e4
        have e2 := s2 _ _ e1
        refine ⟨q, _, rfl, SqT.of hqt, rfl, _, _, rfl, _, _, rfl, _, _, rfl, _, _, rfl, rfl, ?_⟩
        refine ⟨_, rfl, _, rfl, _, rfl, n, a', b', rfl, _, rfl, iteNS ⟨h1, h2, by omega, h4, h5⟩ ?_⟩
        refine ⟨_, rfl, _, rfl, Da, _, rfl, .inl (SqL.of e2), rfl, flat_ints, _, rfl, iteB ?_ ?_⟩
        · show inV _ _ = false
          rw [inV_ints]
          refine decide_eq_false fun z => ?_
          obtain ⟨r', hr2, e⟩ := List.mem_map.mp z
          obtain ⟨a2, b2, l2, m2, e5, _⟩ := hok.f r' hr2
          subst e5
          refine hok.own _ hmem _ hr2 ?_
          have e6 : b2 = a' := e
          show some a' = some b2
          rw [e6]
        · refine ⟨_, rfl, rfl, _, rfl, iteDN (by intro z; have := V.int.inj z; omega) ?_⟩
          refine ⟨_, rfl, _, rfl, _, rfl, _, rfl, Da, _, rfl, SqL.of e2, fun p hp => ⟨p, _, rfl, .inl (SqL.of upd_same), rfl, ?_, _, rfl, iteB ?_ ?_⟩⟩
          · unfold cutV
            rw [cut_take (by rw [List.length_map, List.length_map]; exact Nat.le_of_lt (List.getElem?_eq_some_iff.mp hr').1), ← List.map_take]
            exact flat_ints
          · show inV _ _ = false
            unfold cutV
            rw [cut_take (by rw [List.length_map, List.length_map]; exact Nat.le_of_lt (List.getElem?_eq_some_iff.mp hr').1), ← List.map_take, inV_ints]
            refine decide_eq_false fun z => ?_
            obtain ⟨j, hj⟩ := List.mem_iff_getElem?.mp z
            have hji : j < i := by
              have := (List.getElem?_eq_some_iff.mp hj).1
              rw [List.length_take] at this
              omega
            rw [List.getElem?_take_of_lt hji, List.getElem?_map] at hj
            cases hr2 : rows[j]? with
            | none => rw [hr2] at hj; cases hj
            | some r' =>
              rw [hr2] at hj
              have e : endI r' = b' := Option.some.inj hj
              obtain ⟨a2, b2, l2, m2, e5, _⟩ := hok.f r' (List.mem_of_getElem? hr2)
              subst e5
              have e6 : b2 = b' := e
              have := hok.one j i _ _ hr2 hr' (by show some b2 = some b'; rw [e6])
              omega
          · refine ⟨_, rfl, _, _, rfl, rfl, _, rfl, iteD h6 ⟨_, rfl, _, _, rfl, rfl, _, rfl, iteD h7 ⟨_, _, rfl, rfl, _, rfl, iteNS h8 ?_⟩⟩⟩
            exact ⟨_, rfl, _, _, rfl, rfl, _, _, _, _, _, (by show (i : Int) + 1 = _; omega), rfl, s2.trans (same_new hp)⟩
      · rintro σ' H' ⟨z, v1, v2, v3, v4, _, rfl, s2⟩
        exact k _ (s1.trans s2)
theorem scI : FnScope ["self", "many", "last", "ties", "falls"] ["self", "many", "last", "ties", "falls"] (defScope sC_Web_init) := ⟨rfl, rfl, rfl, by decide +kernel, rfl, by decide +kernel, by decide +kernel⟩
theorem ok_init {f C fS fT fF : Addr} {fd fdS fdT fdF : FuncData} (F : Fun K "__init__" "Web.__init__" sC_Web_init f fd) (T : TxtW mg) (TC : TxtC K mg C)
    (FS : Fn K mg "look_over_size" sP_look_over_size ["many", "last"] fS fdS) (GS : FnOk P w K mg base CX0 1 fS fdS ["many", "last"] spSize)
    (FT : Fn K mg "look_over_ties" sP_look_over_ties ["many", "ties"] fT fdT) (GT : FnOk P w K mg base CX0 2 fT fdT ["many", "ties"] spLTies)
    (FF : Fn K mg "look_over_falls" sP_look_over_falls ["many", "falls"] fF fdF) (GF : FnOk P w K mg base CX0 2 fF fdF ["many", "falls"] spLFalls) :
    FnOk P w K mg base CX0 3 f fd ["self", "many", "last", "ties", "falls"] (spInit C) := by
  refine F.ok scI (fun vs H Q E h => ?_) (fun cdv A outer s H vs Q E hr h => ?_)
  · obtain ⟨p, dx, n, la, a, b, _, _, rfl, _⟩ := h
    rfl
  · obtain ⟨p, dx, n, la, a, b, rT, rF, rfl, hp, RT, RF, hok, k⟩ := h
    have hr1 : Room 1 _ := hr.mono (by decide)
    refine ⟨_, pss_cons (ps_expr (pe_call GS hr1 rfl FS.g FS.F.kp FS.b .nil pass0 (pa_cons (pv 1) (pa_cons (pv 2) pa_nil))))
      (pss_cons (ps_expr (pe_call GT hr rfl FT.g FT.F.kp FT.b .nil pass0 (pa_cons (pv 1) (pa_cons (pv 3) pa_nil))))
      (pss_cons (ps_expr (pe_call GF hr rfl FF.g FF.F.kp FF.b .nil pass0 (pa_cons (pv 1) (pa_cons (pv 4) pa_nil))))
      (pss_cons (ps_fld (pv 0) (pv 1) rfl) (pss_cons (ps_fld (pv 0) (pv 2) rfl)
      (pss_cons (ps_fld (pv 0) (pe_callTy call_list_of (by rfl) T.list (by decide +kernel) (pa_cons (pv 3) pa_nil)) rfl)
      (pss_one (ps_fld (pv 0) (pe_callTy call_list_of (by rfl) T.list (by decide +kernel) (pa_cons (pv 4) pa_nil)) rfl))))))), ?_⟩
    refine ⟨_, rfl, _, rfl, n, la, rfl, hok.n1, hok.n2, hok.l1, hok.l2, ?_⟩
    refine ⟨_, rfl, _, rfl, n, a, rT, rfl, RT, hok.t, ?_⟩
    refine ⟨_, rfl, _, rfl, n, b, la, rT, rF, rfl, RF, hok, fun H1 s1 => ?_⟩
    have hp1 := s1 _ _ hp
    have RT1 := RT.same s1
    have RF1 := RF.same s1
    obtain ⟨ps1, Q1⟩ := RT1
    obtain ⟨ps2, Q2⟩ := RF1
    refine ⟨_, rfl, _, rfl, p, C, dx, _, rfl, hp1, TC.cl, TC.nM, (by show 0 < 1000; decide), ?_⟩
    refine ⟨_, rfl, _, rfl, p, C, dx, _, rfl, upd_same, TC.cl, TC.nL, (by show 1 < 1000; decide), ?_⟩
    rw [upd_upd]
    have kp : ∀ {o : HO}, Keep p H1 (upd H1 p o) := fun {o} b u e ne => by rw [upd_ne ne]; exact e
    have np : ∀ {x : Addr} {xs : List V}, H1 x = some (.lst xs) → x ≠ p := fun {x xs} e => ne_of e hp1 (fun z => nomatch z)
    refine ⟨_, rfl, a, _, rfl, .inl (SqL.of (by rw [upd_ne (np Q1.1)]; exact Q1.1)), fun l1 hl1 => ?_⟩
    have l1p : l1 ≠ p := Ne.symm (ne_of_none upd_same hl1)
    have hl1' : H1 l1 = none := by rw [upd_ne l1p] at hl1; exact hl1
    refine ⟨_, rfl, p, C, dx, _, rfl, (by rw [upd_ne (Ne.symm l1p), upd_same]), TC.cl, TC.nT, Nat.lt_of_le_of_lt (putF_len _ _ _) (by show 2 < 1000; decide), ?_⟩
    generalize hH2 : upd (upd (upd H1 p (.ins C dx (putF "last" (.int la) (putF "many" (.int n) [])))) l1 (.lst (ps1.map V.ref))) p (.ins C dx (putF "told_ties" (.ref l1) (putF "last" (.int la) (putF "many" (.int n) [])))) = H2
    have k2' : Keep p H1 H2 := fun x o e ne => by rw [← hH2, upd_ne ne, upd_ne (ne_of_none e hl1'), upd_ne ne]; exact e
    have p2 : H2 p = some (.ins C dx (putF "told_ties" (.ref l1) (putF "last" (.int la) (putF "many" (.int n) [])))) := by rw [← hH2, upd_same]
    have l2 : H2 l1 = some (.lst (ps1.map V.ref)) := by rw [← hH2, upd_ne l1p, upd_same]
    refine ⟨_, rfl, b, _, rfl, .inl (SqL.of (k2' _ _ Q2.1 (np Q2.1))), fun l3 hl3 => ?_⟩
    have l3p : l3 ≠ p := Ne.symm (ne_of_none p2 hl3)
    have l31 : l3 ≠ l1 := Ne.symm (ne_of_none l2 hl3)
    have hl3' : H1 l3 = none := by
      cases q : H1 l3 with
      | none => rfl
      | some o => rw [k2' _ _ q l3p] at hl3; cases hl3
    refine ⟨_, rfl, p, C, dx, _, rfl, (by rw [upd_ne (Ne.symm l3p)]; exact p2), TC.cl, TC.nF, Nat.lt_of_le_of_lt (putF_len _ _ _) (Nat.lt_of_le_of_lt (Nat.succ_le_succ (putF_len _ _ _)) (by show 3 < 1000; decide)), ?_⟩
    generalize hH4 : upd (upd H2 l3 (.lst (ps2.map V.ref))) p (.ins C dx (putF "told_falls" (.ref l3) (putF "told_ties" (.ref l1) (putF "last" (.int la) (putF "many" (.int n) []))))) = H4
    have k4' : Keep p H1 H4 := fun x o e ne => by rw [← hH4, upd_ne ne, upd_ne (ne_of_none e hl3')]; exact k2' _ _ e ne
    have tp : ∀ {x : Addr} {xs : List V}, H1 x = some (.tup xs) → x ≠ p := fun {x xs} e => ne_of e hp1 (fun z => nomatch z)
    refine k H4 ⟨dx, l1, l3, by rw [← hH4, upd_same]; rfl, ⟨ps1, ?_, paired_imp Q1.2 fun x r e => k4' _ _ e (tp e)⟩, ⟨ps2, ?_, paired_imp Q2.2 fun x r e => k4' _ _ e (tp e)⟩⟩ (fun x o e ne => k4' _ _ (s1 _ _ e) ne)
    · rw [← hH4, upd_ne l1p, upd_ne (Ne.symm l31)]; exact l2
    · rw [← hH4, upd_ne l3p, upd_same]
theorem scG1 : FnScope ["self"] ["self"] (defScope sC_Web_ties) := ⟨rfl, rfl, rfl, by decide +kernel, rfl, by decide +kernel, by decide +kernel⟩
theorem scG2 : FnScope ["self"] ["self"] (defScope sC_Web_falls) := ⟨rfl, rfl, rfl, by decide +kernel, rfl, by decide +kernel, by decide +kernel⟩
theorem ok_tiesM {f C : Addr} {fd : FuncData} (F : Fun K "ties" "Web.ties" sC_Web_ties f fd) (T : TxtW mg) (TC : TxtC K mg C) : FnOk P w K mg base CX0 1 f fd ["self"] (spGet C fun T _ => T) := by
  refine F.ok scG1 (fun vs H Q E h => ?_) (fun cdv A outer s H vs Q E hr h => ?_)
  · obtain ⟨p, _, _, _, _, rfl, _⟩ := h
    rfl
  · obtain ⟨p, n, la, rT, rF, rfl, ⟨dx, ta, fa, hp, ⟨ps, R⟩, _⟩, k⟩ := h
    refine ⟨_, pss_one (ps_ret (pe_callTy call_list_of (by rfl) T.list (by decide +kernel) (pa_cons (pe_fld (pv 0) rfl) pa_nil))), ?_⟩
    refine ⟨_, rfl, p, C, dx, _, _, rfl, hp, TC.cl, TC.nT, w_ties _ _ _ _, ta, _, rfl, .inl (SqL.of R.1), fun l hl => ?_⟩
    exact k l _ hl (same_new hl) ⟨ps, upd_same, (R.same (same_new hl)).2⟩
theorem ok_fallsM {f C : Addr} {fd : FuncData} (F : Fun K "falls" "Web.falls" sC_Web_falls f fd) (T : TxtW mg) (TC : TxtC K mg C) : FnOk P w K mg base CX0 1 f fd ["self"] (spGet C fun _ F => F) := by
  refine F.ok scG2 (fun vs H Q E h => ?_) (fun cdv A outer s H vs Q E hr h => ?_)
  · obtain ⟨p, _, _, _, _, rfl, _⟩ := h
    rfl
  · obtain ⟨p, n, la, rT, rF, rfl, ⟨dx, ta, fa, hp, _, ⟨ps, R⟩⟩, k⟩ := h
    refine ⟨_, pss_one (ps_ret (pe_callTy call_list_of (by rfl) T.list (by decide +kernel) (pa_cons (pe_fld (pv 0) rfl) pa_nil))), ?_⟩
    refine ⟨_, rfl, p, C, dx, _, _, rfl, hp, TC.cl, TC.nF, w_falls _ _ _ _, fa, _, rfl, .inl (SqL.of R.1), fun l hl => ?_⟩
    exact k l _ hl (same_new hl) ⟨ps, upd_same, (R.same (same_new hl)).2⟩
end
end W

set_option Elab.async false
set_option linter.all false
set_option maxRecDepth 100000
set_option maxHeartbeats 4000000
namespace L2
open PySem PySem.Spec PyProof.Rows
theorem paired_append {α β : Type} {F : α → β → Prop} {l l' : List α} {m m' : List β} (h : Paired F l m) (h' : Paired F l' m') : Paired F (l ++ l') (m ++ m') := by
  induction h with
  | nil => exact h'
  | cons r t ih => exact .cons r ih
theorem RowsP.cat {H : Hp} {a b p : Addr} {ps qs : List Addr} {r s : List (List Int)} (h1 : RowsP H a ps r) (h2 : RowsP H b qs s) (hp : H p = none) : RowsP (upd H p (.lst (ps.map V.ref ++ qs.map V.ref))) p (ps ++ qs) (r ++ s) :=
  ⟨by rw [upd_same, List.map_append], paired_append (h1.same (same_new hp)).2 (h2.same (same_new hp)).2⟩
theorem RowsP.more {H0 H : Hp} {l p : Addr} {ps : List Addr} {rows : List (List Int)} {r : List Int} (h : RowsP H l ps rows) (s : Same H0 H) (hl : H0 l = none) (hp : H p = none) :
    RowsP (upd (upd H p (.tup (r.map V.int))) l (.lst (ps.map V.ref ++ [.ref p]))) l (ps ++ [p]) (rows ++ [r]) ∧ Same H0 (upd (upd H p (.tup (r.map V.int))) l (.lst (ps.map V.ref ++ [.ref p]))) ∧ upd H p (.tup (r.map V.int)) l = some (.lst (ps.map V.ref)) := by
  have R := h.same (same_new (o := .tup (r.map V.int)) hp)
  refine ⟨R.push upd_same, fun b o e => ?_, R.1⟩
  rw [upd_ne (ne_of_none e hl), upd_ne (ne_of_none (s _ _ e) hp)]
  exact s _ _ e
end L2
namespace W
open PySem L2
noncomputable def roomB (la : Int) : Nat → List (List Int)
  | 0 => []
  | k + 1 => roomB la k ++ [[0, (k : Int) + 1, la], [(k : Int) + 1, 0, 0]]
theorem roomB_len (la : Int) : ∀ k, (roomB la k).length = 2 * k
  | 0 => rfl
  | k + 1 => by unfold roomB; rw [List.length_append, roomB_len la k]; rfl
noncomputable def spanR : List Int → List (List Int)
  | [a, b, l, m] => [[a, b, m], [b, a, -l]]
  | _ => []
noncomputable def spanB (rows : List (List Int)) : List (List Int) := (rows.map spanR).flatten
noncomputable def Four (rows : List (List Int)) : Prop := ∀ r ∈ rows, ∃ a b l m : Int, r = [a, b, l, m]
theorem spanB_len : ∀ {rows : List (List Int)}, Four rows → (spanB rows).length = 2 * rows.length
  | [], _ => rfl
  | r :: t, h => by
    obtain ⟨a, b, l, m, rfl⟩ := h _ List.mem_cons_self
    have ih := spanB_len (rows := t) fun r hr => h r (List.mem_cons_of_mem _ hr)
    unfold spanB at ih ⊢
    rw [List.map_cons, List.flatten_cons, List.length_append, ih, List.length_cons]
    show 2 + 2 * t.length = 2 * (t.length + 1)
    omega
theorem WebOk.fourT {n la : Int} {T F : List (List Int)} (h : WebOk n la T F) : Four T := fun r hr => by
  obtain ⟨a, b, l, m, e, _⟩ := h.t r hr
  exact ⟨a, b, l, m, e⟩
theorem WebOk.fourF {n la : Int} {T F : List (List Int)} (h : WebOk n la T F) : Four F := fun r hr => by
  obtain ⟨a, b, l, m, e, _⟩ := h.f r hr
  exact ⟨a, b, l, m, e⟩
noncomputable def allB (n la : Int) (T F : List (List Int)) : List (List Int) := roomB la (n - 1).toNat ++ spanB T ++ spanB F
structure TxtB (mg : Str → Option Value) : Prop where
  range : mg "range" = none
noncomputable def spRoom (C : Addr) : Sp := fun vs H Q _ => ∃ p n la T F, vs = [.ref p] ∧ WebAt C H p n la T F ∧ 1 ≤ n ∧ n ≤ 8 ∧ ∀ l H', H l = none → Same H H' → RowsAt H' l (roomB la (n - 1).toNat) → Q (.ref l) H'
noncomputable def spSpan : Sp := fun vs H Q _ => ∃ a rows, vs = [.ref a] ∧ RowsAt H a rows ∧ Four rows ∧ rows.length ≤ 100 ∧ ∀ l H', H l = none → Same H H' → RowsAt H' l (spanB rows) → Q (.ref l) H'
noncomputable def spWith (C : Addr) : Sp := fun vs H Q _ => ∃ p a n la T F T', vs = [.ref p, .ref a] ∧ WebAt C H p n la T F ∧ WebOk n la T F ∧ RowsAt H a T' ∧ Four T' ∧ T'.length ≤ 100 ∧ ∀ l H', H l = none → Same H H' → RowsAt H' l (allB n la T' F) → Q (.ref l) H'
noncomputable def spTold (C : Addr) : Sp := fun vs H Q _ => ∃ p n la T F, vs = [.ref p] ∧ WebAt C H p n la T F ∧ WebOk n la T F ∧ ∀ l H', H l = none → Same H H' → RowsAt H' l (allB n la T F) → Q (.ref l) H'
section
variable {P : Program} {w : World} {K : PySem.W.Frag} {mg : Str → Option Value} {base : Heap}
theorem scRb : FnScope ["web", "bounds", "moment"] ["web"] (defScope sP_room_bounds) := ⟨rfl, rfl, rfl, by decide +kernel, rfl, by decide +kernel, by decide +kernel⟩
theorem ok_room {f C : Addr} {fd : FuncData} (F : Fn K mg "room_bounds" sP_room_bounds ["web"] f fd) (T : TxtB mg) (TC : TxtC K mg C) : FnOk P w K mg base CX0 1 f fd ["web"] (spRoom C) := by
  refine F.F.ok scRb (fun vs H Q E h => ?_) (fun cdv A outer s H vs Q E hr h => ?_)
  · obtain ⟨p, _, _, _, _, rfl, _⟩ := h
    rfl
  · obtain ⟨p, n, la, rT, rF, rfl, ⟨dx, ta, fa, hp, _, _⟩, n1, n2, k⟩ := h
    refine ⟨_, pss_cons (ps_set (i := 1) scRb.nd rfl (Or.inl rfl) (pe_lst pa_nil))
      (pss_cons (ps_for PassesOwn.never rfl (pi_range2 rfl T.range (pa_cons pe_int (pa_cons (pe_fld (pv 0) rfl) pa_nil))) (pg_name (i := 2) scRb.nd rfl (Or.inl rfl))
        (pss_cons (ps_expr (pe_bm PySem.F.plainAttrs_list PySem.F.slot_list_append PySem.F.type_list_append mt_append (pv 1) (pa_cons (pe_tup (pa_cons pe_int (pa_cons (pv 2) (pa_cons (pe_fld (pv 0) rfl) pa_nil)))) pa_nil)))
        (pss_one (ps_expr (pe_bm PySem.F.plainAttrs_list PySem.F.slot_list_append PySem.F.type_list_append mt_append (pv 1) (pa_cons (pe_tup (pa_cons (pv 2) (pa_cons pe_int (pa_cons pe_int pa_nil)))) pa_nil))))))
      (pss_one (ps_ret (pv 1)))), ?_⟩
    refine ⟨Nat.zero_le _, fun l hl => ?_⟩
    have s0 := same_new (o := .lst []) hl
    refine ⟨_, rfl, p, C, dx, _, _, rfl, s0 _ _ hp, TC.cl, TC.nM, w_many _ _ _ _, 1, n, rfl, ⟨by decide, by decide, by omega, by omega⟩, ?_⟩
    refine for_range (n := (n - 1).toNat) (fun i σ' H' => ∃ v ps, σ' = [some (.ref p), some (.ref l), v] ∧ RowsP H' l ps (roomB la i) ∧ Same H H') ⟨none, [], rfl, ⟨upd_same, .nil⟩, s0⟩ ?_ ?_
    · rintro i σ' H1 hi ⟨v, ps, rfl, R1, s1⟩
      have small : ∀ j : Nat, j ≤ 20 → j < sizeLine := fun j hj => small1000 (by omega)
      refine ⟨_, rfl, .inl ⟨rfl, _, SqL.of R1.1⟩, _, rfl, _, rfl, p, C, dx, _, _, rfl, s1 _ _ hp, TC.cl, TC.nL, w_last _ _ _ _, by show 3 ≤ sizeLine; decide, fun p1 hp1 => ?_⟩
      obtain ⟨R2, s2, e2⟩ := R1.more (r := [0, 1 + (i : Int), la]) s1 hl hp1
      refine ⟨l, _, _, rfl, rfl, e2, ?_, ?_⟩
      · rw [List.length_map, R1.len, roomB_len]; exact small _ (by omega)
      refine ⟨_, rfl, .inl ⟨rfl, _, SqL.of R2.1⟩, _, rfl, by show 3 ≤ sizeLine; decide, fun p2 hp2 => ?_⟩
      obtain ⟨R3, s3, e3⟩ := R2.more (r := [1 + (i : Int), 0, 0]) s2 hl hp2
      refine ⟨l, _, _, rfl, rfl, e3, ?_, ?_⟩
      · rw [List.length_map, R2.len, List.length_append, roomB_len]; exact small _ (by simp; omega)
      refine ⟨_, ps ++ [p1] ++ [p2], rfl, ?_, s3⟩
      have e : roomB la (i + 1) = roomB la i ++ [[0, 1 + (i : Int), la]] ++ [[1 + (i : Int), 0, 0]] := by
        rw [List.append_assoc, Int.add_comm 1 (i : Int)]
        rfl
      rw [e]
      exact R3
    · rintro σ' H1 ⟨v, ps, rfl, R1, s1⟩
      exact ⟨_, rfl, k l _ hl s1 ⟨ps, R1⟩⟩
noncomputable abbrev nSb : List Str := ["spans", "bounds", "one", "other", "least", "most"]
theorem scSb : FnScope nSb ["spans"] (defScope sP_span_bounds) := ⟨rfl, rfl, rfl, by decide +kernel, rfl, by decide +kernel, by decide +kernel⟩
theorem ok_span {f : Addr} {fd : FuncData} (F : Fn K mg "span_bounds" sP_span_bounds ["spans"] f fd) : FnOk P w K mg base CX0 1 f fd ["spans"] spSpan := by
  refine F.F.ok scSb (fun vs H Q E h => ?_) (fun cdv A outer s H vs Q E hr h => ?_)
  · obtain ⟨a, _, rfl, _⟩ := h
    rfl
  · obtain ⟨a, rows, rfl, ⟨qs, R⟩, h4, hlen, k⟩ := h
    refine ⟨_, pss_cons (ps_set (i := 1) scSb.nd rfl (Or.inl rfl) (pe_lst pa_nil))
      (pss_cons (ps_for PassesOwn.never rfl (pi_list (pv 0))
        (pg_tup rfl (pgs_cons (pg_name (i := 2) scSb.nd rfl (Or.inl rfl)) (pgs_cons (pg_name (i := 3) scSb.nd rfl (Or.inl rfl)) (pgs_cons (pg_name (i := 4) scSb.nd rfl (Or.inl rfl)) (pgs_cons (pg_name (i := 5) scSb.nd rfl (Or.inl rfl)) pgs_nil)))))
        (pss_cons (ps_expr (pe_bm PySem.F.plainAttrs_list PySem.F.slot_list_append PySem.F.type_list_append mt_append (pv 1) (pa_cons (pe_tup (pa_cons (pv 2) (pa_cons (pv 3) (pa_cons (pv 5) pa_nil)))) pa_nil)))
        (pss_one (ps_expr (pe_bm PySem.F.plainAttrs_list PySem.F.slot_list_append PySem.F.type_list_append mt_append (pv 1) (pa_cons (pe_tup (pa_cons (pv 3) (pa_cons (pv 2) (pa_cons (pe_un un_neg (pv 4)) pa_nil)))) pa_nil))))))
      (pss_one (ps_ret (pv 1)))), ?_⟩
    refine ⟨Nat.zero_le _, fun l hl => ?_⟩
    have s0 := same_new (o := .lst []) hl
    refine ⟨_, rfl, a, rfl, ⟨_, SqL.of (s0 _ _ R.1)⟩, for_list (K := K) (a := a) (xs := qs.map V.ref) (fun i σ' H' => ∃ v1 v2 v3 v4 ps, σ' = [some (.ref a), some (.ref l), v1, v2, v3, v4] ∧ RowsP H' l ps (spanB (rows.take i)) ∧ Same H H') ⟨none, none, none, none, [], rfl, ⟨upd_same, .nil⟩, s0⟩ ?_ ?_ ?_⟩
    · rintro i σ' H1 _ ⟨v1, v2, v3, v4, ps, rfl, R1, s1⟩
      exact SqL.of (s1 _ _ R.1)
    · rintro i x σ' H1 hx ⟨v1, v2, v3, v4, ps, rfl, R1, s1⟩
      obtain ⟨q, r, rfl, hq, hr', hqt⟩ := R.get hx
      obtain ⟨a', b', le, mo, e4⟩ := h4 r (List.mem_of_getElem? hr')
      subst e4
      have hi : i < rows.length := (List.getElem?_eq_some_iff.mp hr').1
      have h4' : Four (rows.take i) := fun r hr => h4 r (List.mem_of_mem_take hr)
      have hl1 : (spanB (rows.take i)).length ≤ 200 := by rw [spanB_len h4', List.length_take]; omega
      refine ⟨q, _, rfl, SqT.of (s1 _ _ hqt), rfl, _, _, rfl, _, _, rfl, _, _, rfl, _, _, rfl, rfl, ?_⟩
      refine ⟨_, rfl, .inl ⟨rfl, _, SqL.of R1.1⟩, _, rfl, _, rfl, _, rfl, by show 3 ≤ sizeLine; decide, fun p1 hp1 => ?_⟩
      obtain ⟨R2, s2, e2⟩ := R1.more (r := [a', b', mo]) s1 hl hp1
      refine ⟨l, _, _, rfl, rfl, e2, ?_, ?_⟩
      · rw [List.length_map, R1.len]; exact small1000 (by omega)
      refine ⟨_, rfl, .inl ⟨rfl, _, SqL.of R2.1⟩, _, rfl, _, rfl, _, rfl, _, rfl, by show 3 ≤ sizeLine; decide, fun p2 hp2 => ?_⟩
      obtain ⟨R3, s3, e3⟩ := R2.more (r := [b', a', -le]) s2 hl hp2
      refine ⟨l, _, _, rfl, rfl, e3, ?_, ?_⟩
      · rw [List.length_map, R2.len, List.length_append]; exact small1000 (by simp; omega)
      refine ⟨_, _, _, _, ps ++ [p1] ++ [p2], rfl, ?_, s3⟩
      have e : spanB (rows.take (i + 1)) = spanB (rows.take i) ++ [[a', b', mo]] ++ [[b', a', -le]] := by
        unfold spanB
        rw [List.take_succ, hr', List.map_append, List.flatten_append, List.append_assoc]
        rfl
      rw [e]
      exact R3
    · rintro σ' H1 ⟨v1, v2, v3, v4, ps, rfl, R1, s1⟩
      have hle : rows.take (qs.map V.ref).length = rows := by
        rw [List.length_map, R.len]
        exact List.take_length
      rw [hle] at R1
      exact ⟨_, rfl, k l _ hl s1 ⟨ps, R1⟩⟩
theorem scBw : FnScope ["web", "ties"] ["web", "ties"] (defScope sP_bounds_with) := ⟨rfl, rfl, rfl, by decide +kernel, rfl, by decide +kernel, by decide +kernel⟩
theorem ok_with {f C fR fS fM : Addr} {fd fdR fdS fdM : FuncData} (F : Fn K mg "bounds_with" sP_bounds_with ["web", "ties"] f fd) (TC : TxtC K mg C)
    (FR : Fn K mg "room_bounds" sP_room_bounds ["web"] fR fdR) (GR : FnOk P w K mg base CX0 1 fR fdR ["web"] (spRoom C))
    (FS : Fn K mg "span_bounds" sP_span_bounds ["spans"] fS fdS) (GS : FnOk P w K mg base CX0 1 fS fdS ["spans"] spSpan)
    (mF : Meth K C "falls" fM) (bF : Binds K fdM ["self"] []) (GF : FnOk P w K mg base CX0 1 fM fdM ["self"] (spGet C fun _ F => F)) : FnOk P w K mg base CX0 2 f fd ["web", "ties"] (spWith C) := by
  refine F.F.ok scBw (fun vs H Q E h => ?_) (fun cdv A outer s H vs Q E hr h => ?_)
  · obtain ⟨p, a, _, _, _, _, _, rfl, _⟩ := h
    rfl
  · obtain ⟨p, a, n, la, rT, rF, T', rfl, W0, hok, RT, hT4, hTl, k⟩ := h
    refine ⟨_, pss_one (ps_ret (pe_op op_cat (pe_op op_cat (pe_call GR hr rfl FR.g FR.F.kp FR.b .nil pass0 (pa_cons (pv 0) pa_nil)) (pe_call GS hr rfl FS.g FS.F.kp FS.b .nil pass0 (pa_cons (pv 1) pa_nil)))
      (pe_call GS hr rfl FS.g FS.F.kp FS.b .nil pass0 (pa_cons (pe_meth0 (pv 0) TC.cl mF GF hr bF .nil pass0) pa_nil)))), ?_⟩
    refine ⟨_, rfl, p, n, la, rT, rF, rfl, W0, hok.n1, hok.n2, fun l1 H1 hl1 s1 R1 => ?_⟩
    refine ⟨_, rfl, a, T', rfl, RT.same s1, hT4, hTl, fun l2 H2 hl2 s2 R2 => ?_⟩
    obtain ⟨ps1, R1'⟩ := R1.same s2
    obtain ⟨ps2, R2⟩ := R2
    have e1 := R1'.len
    have e2 := R2.len
    rw [roomB_len] at e1
    rw [spanB_len hT4] at e2
    have n2 := hok.n2
    refine ⟨l1, l2, _, _, rfl, rfl, R1'.1, R2.1, ?_, fun l3 hl3 => ?_⟩
    · rw [List.length_map, List.length_map]; exact Nat.le_of_lt (small1000 (by omega))
    have R3 := R1'.cat R2 hl3
    have s3 := same_new (o := .lst (ps1.map V.ref ++ ps2.map V.ref)) hl3
    have s13 := (s1.trans s2).trans s3
    obtain ⟨dx, ta, fa, hp, _, _⟩ := id (W0.same s13)
    refine ⟨_, rfl, p, dx, _, rfl, hp, w_no _ _ _ _ (by decide +kernel) (by decide +kernel) (by decide +kernel) (by decide +kernel), p, n, la, rT, rF, rfl, W0.same s13, fun l4 H4 hl4 s4 R4 => ?_⟩
    refine ⟨l4, rF, rfl, R4, hok.fourF, by have := hok.fl; omega, fun l5 H5 hl5 s5 R5 => ?_⟩
    have R3' := (R3.same s4).same s5
    obtain ⟨ps5, R5⟩ := R5
    have e5 := R5.len
    rw [spanB_len hok.fourF] at e5
    have fl := hok.fl
    refine ⟨l3, l5, _, _, rfl, rfl, R3'.1, R5.1, ?_, fun l6 hl6 => ?_⟩
    · rw [List.length_map, List.length_map, List.length_append]; exact Nat.le_of_lt (small1000 (by omega))
    have s5' := (s13.trans s4).trans s5
    exact k l6 _ (s5'.free hl6) (s5'.trans (same_new hl6)) ⟨_, R3'.cat R5 hl6⟩
theorem scTo : FnScope ["web"] ["web"] (defScope sP_told_bounds) := ⟨rfl, rfl, rfl, by decide +kernel, rfl, by decide +kernel, by decide +kernel⟩
theorem ok_told {f C fB fM : Addr} {fd fdB fdM : FuncData} (F : Fn K mg "told_bounds" sP_told_bounds ["web"] f fd) (TC : TxtC K mg C)
    (FB : Fn K mg "bounds_with" sP_bounds_with ["web", "ties"] fB fdB) (GB : FnOk P w K mg base CX0 2 fB fdB ["web", "ties"] (spWith C))
    (mT : Meth K C "ties" fM) (bT : Binds K fdM ["self"] []) (GT : FnOk P w K mg base CX0 1 fM fdM ["self"] (spGet C fun T _ => T)) : FnOk P w K mg base CX0 3 f fd ["web"] (spTold C) := by
  refine F.F.ok scTo (fun vs H Q E h => ?_) (fun cdv A outer s H vs Q E hr h => ?_)
  · obtain ⟨p, _, _, _, _, rfl, _⟩ := h
    rfl
  · obtain ⟨p, n, la, rT, rF, rfl, W0, hok, k⟩ := h
    have hr1 : Room 1 _ := hr.mono (by decide)
    refine ⟨_, pss_one (ps_ret (pe_call GB hr rfl FB.g FB.F.kp FB.b .nil pass0 (pa_cons (pv 0) (pa_cons (pe_meth0 (pv 0) TC.cl mT GT hr1 bT .nil pass0) pa_nil)))), ?_⟩
    obtain ⟨dx, ta, fa, hp, _, _⟩ := id W0
    refine ⟨_, rfl, _, rfl, p, dx, _, rfl, hp, w_no _ _ _ _ (by decide +kernel) (by decide +kernel) (by decide +kernel) (by decide +kernel), p, n, la, rT, rF, rfl, W0, fun l1 H1 hl1 s1 R1 => ?_⟩
    exact ⟨p, l1, n, la, rT, rF, rT, rfl, W0.same s1, hok, R1, hok.fourT, by have := hok.tl; omega, fun l H' hl s' R => k l H' (s1.free hl) (s1.trans s') R⟩
end
end W


set_option Elab.async false
set_option linter.all false
set_option maxRecDepth 100000
set_option maxHeartbeats 4000000
namespace L2
open PySem PySem.Spec PyProof.Rows
noncomputable def lsI (n : Nat) (t : Nat → Int) : List V := (List.range n).map fun i => V.int (t i)
theorem lsI_len {n : Nat} {t : Nat → Int} : (lsI n t).length = n := by unfold lsI; rw [List.length_map, List.length_range]
theorem lsI_get {n i : Nat} {t : Nat → Int} (h : i < n) : (lsI n t)[i]? = some (.int (t i)) := by
  unfold lsI
  rw [List.getElem?_map, List.getElem?_range h]
  rfl
theorem lsI_at {n i : Nat} {t : Nat → Int} (h : i < n) : atI (lsI n t) (i : Int) = some (.int (t i)) := atI_nat (lsI_get h)
theorem ixN_nat {n i : Nat} (h : i < n) : ixN n (i : Int) = some i := by
  unfold ixN
  rw [if_pos (by omega), if_pos (by omega)]; simp
theorem lsI_ix {n i : Nat} {t : Nat → Int} (h : i < n) : ixN (lsI n t).length (i : Int) = some i := by rw [lsI_len]; exact ixN_nat h
theorem lsI_set {n i : Nat} {t : Nat → Int} {v : Int} : (lsI n t).set i (.int v) = lsI n (MB.put t i v) := by
  apply List.ext_getElem?
  intro j
  rw [List.getElem?_set, lsI_len]
  by_cases hj : j < n
  · rw [lsI_get hj, lsI_get hj]
    unfold MB.put
    by_cases e : i = j
    · subst e
      simp [hj]
    · rw [if_neg e, if_neg fun z => e z.symm]
  · have h1 : ∀ t' : Nat → Int, (lsI n t')[j]? = none := fun t' => List.getElem?_eq_none_iff.mpr (by rw [lsI_len]; omega)
    rw [h1, h1]
    split
    · split
      · omega
      · rfl
    · rfl
theorem lsI_rep {n : Nat} {v : Int} : (List.replicate n [V.int v]).flatten = lsI n (fun _ => v) := by
  induction n with
  | zero => rfl
  | succ n ih =>
    rw [List.replicate_succ', List.flatten_append, ih]
    unfold lsI
    rw [List.range_succ, List.map_append]
    rfl
theorem lsI_congr {n : Nat} {t u : Nat → Int} (h : ∀ i, i < n → t i = u i) : lsI n t = lsI n u := by
  unfold lsI
  refine List.map_congr_left fun i hi => ?_
  rw [h i (List.mem_range.mp hi)]
theorem lsI_succ {n : Nat} {t : Nat → Int} : lsI (n + 1) t = lsI n t ++ [.int (t n)] := by
  unfold lsI
  rw [List.range_succ, List.map_append]
  rfl
theorem lsI_map {n : Nat} {t : Nat → Int} : lsI n t = ((List.range n).map t).map V.int := by
  unfold lsI
  rw [List.map_map]
  rfl
theorem same_upd {H0 H : Hp} {a : Addr} {o : HO} (s : Same H0 H) (h : H0 a = none) : Same H0 (upd H a o) := fun b u e => by
  rw [upd_ne (ne_of_none e h)]
  exact s b u e
end L2
namespace W
open PySem L2
noncomputable def natsV (ring : List Nat) : List V := ring.map fun (i : Nat) => V.int (i : Int)
noncomputable def spRing : Sp := fun vs H Q _ => ∃ (a : Addr) (x N : Nat) (p : Nat → Nat), vs = [.ref a, .int (x : Int)] ∧ H a = some (.lst (lsI N fun i => (p i : Int))) ∧ 1 ≤ N ∧ N ≤ 8 ∧ (∀ i, p i < N) ∧ x < N ∧
  ∀ ring l H', MB.RingOf p N x ring → H l = none → Same H H' → H' l = some (.lst (natsV ring)) → Q (.ref l) H'
structure TxtE (K : PySem.W.Frag) (mg : Str → Option Value) (C Mo fI : Addr) : Prop where
  range : mg "range" = none
  len : mg "len" = none
  list : mg "list" = none
  ex : ExcC K C Mo fI
  ba : BaseK K Mo
  mo : mg "MomentError" = some (.ref Mo)
  nR : PySem.W.findIn K (.ref C) "ring" = some none
  mgC : mg "NoTimes" = some (.ref C)
noncomputable def spNoT (C : Addr) : Sp := fun vs H Q _ => ∃ x r xs, vs = [.ref x, .ref r] ∧ H x = some (excE x C none) ∧ H r = some (.lst xs) ∧ xs.length ≤ 1000 ∧
  ∀ d l H', H d = none → H l = none → H' x = some (excE x C (some d)) → H' d = some (excD d [("ring", .ref l)]) → H' l = some (.lst xs) → Keep x H H' → Q .non H'
section
variable {P : Program} {w : World} {K : PySem.W.Frag} {mg : Str → Option Value} {base : Heap}
theorem scNT : FnScope ["self", "ring"] ["self", "ring"] (defScope sC_NoTimes_init) := ⟨rfl, rfl, rfl, by decide +kernel, rfl, by decide +kernel, by decide +kernel⟩
theorem ok_noT {C Mo fI : Addr} {fd : FuncData} (F : Fun K "__init__" "NoTimes.__init__" sC_NoTimes_init fI fd) (T : TxtE K mg C Mo fI) : FnOk P w K mg base CX0 1 fI fd ["self", "ring"] (spNoT C) := by
  refine F.ok scNT (fun vs H Q E h => ?_) (fun cdv A outer s H vs Q E hr h => ?_)
  · obtain ⟨x, r, _, rfl, _⟩ := h
    rfl
  · obtain ⟨x, r, xs, rfl, hx, hr', hl, k⟩ := h
    refine ⟨_, pss_cons (ps_expr (pe_base T.ba rfl T.mo (pa_cons (pv 0) (pa_cons (pe_callTy call_list_of (by rfl) T.list (by decide +kernel) (pa_cons (pv 1) pa_nil)) pa_nil))))
      (pss_one (ps_fldE (pv 0) (pe_callTy call_list_of (by rfl) T.list (by decide +kernel) (pa_cons (pv 1) pa_nil)) rfl)), ?_⟩
    refine ⟨_, rfl, _, rfl, r, _, rfl, .inl (SqL.of hr'), fun l1 hl1 => ?_⟩
    have s1 := same_new (o := .lst xs) hl1
    refine ⟨x, _, C, Mo, fI, none, rfl, s1 _ _ hx, T.ex, by show 1 ≤ sizeLine; decide, ?_⟩
    refine ⟨_, rfl, r, _, rfl, .inl (SqL.of (s1 _ _ hr')), fun l2 hl2 => ?_⟩
    have s2 := s1.trans (same_new (o := .lst xs) hl2)
    refine ⟨_, rfl, x, C, Mo, fI, rfl, s2 _ _ hx, T.ex, T.nR, fun d hd hdx => ?_⟩
    have l2x : l2 ≠ x := Ne.symm (ne_of_none hx (s1.free hl2))
    have l2d : l2 ≠ d := ne_of_none (H := upd (upd H l1 (.lst xs)) l2 (.lst xs)) upd_same hd
    refine k d l2 _ (s2.free hd) (s1.free hl2) ?_ upd_same ?_ fun b o e ne => ?_
    · rw [upd_ne (Ne.symm hdx), upd_same]
    · rw [upd_ne l2d, upd_ne l2x, upd_same]
    · rw [upd_ne (ne_of_none (s2 _ _ e) hd), upd_ne ne]
      exact s2 _ _ e
noncomputable abbrev nRb : List Str := ["pushers", "moment", "start", "step", "ring"]
theorem scRg : FnScope nRb ["pushers", "moment"] (defScope sP_ring_behind) := ⟨rfl, rfl, rfl, by decide +kernel, rfl, by decide +kernel, by decide +kernel⟩
theorem natsV_snoc (r : List Nat) (x : Nat) : natsV (r ++ [x]) = natsV r ++ [V.int (x : Int)] := by unfold natsV; rw [List.map_append]; rfl
theorem ok_ring {f C Mo fI : Addr} {fd : FuncData} (F : Fn K mg "ring_behind" sP_ring_behind ["pushers", "moment"] f fd) (T : TxtE K mg C Mo fI) : FnOk P w K mg base CX0 1 f fd ["pushers", "moment"] spRing := by
  refine F.F.ok scRg (fun vs H Q E h => ?_) (fun cdv A outer s H vs Q E hr h => ?_)
  · obtain ⟨a, x, N, p, rfl, _⟩ := h
    rfl
  · obtain ⟨a, x, N, p, rfl, ha, N1, N8, hp, hx, k⟩ := h
    refine ⟨_, pss_cons (ps_set (i := 2) scRg.nd rfl (Or.inl rfl) (pv 1))
      (pss_cons (ps_for PassesOwn.never rfl (pi_range1 rfl T.range (pa_cons (pe_callB call_len_seq (by rfl) T.len PySem.boot_len (pa_cons (pv 0) pa_nil)) pa_nil)) (pg_name (i := 3) scRg.nd rfl (Or.inl rfl))
        (pss_one (ps_set (i := 2) scRg.nd rfl (Or.inl rfl) (pe_ix ix_list0 (pv 0) (pv 2) (fun _ _ => rfl)))))
      (pss_cons (ps_set (i := 4) scRg.nd rfl (Or.inl rfl) (pe_lst (pa_cons (pv 2) pa_nil)))
      (pss_cons (ps_while PassesOwn.never (pt_cmpR op_ne (pe_ix ix_list0 (pv 0) (pe_ix ix_list0 (pv 4) (pe_un un_neg pe_int) (fun _ _ => rfl)) (fun _ _ => rfl)) (pv 2) (nomark _))
        (pss_one (ps_expr (pe_bm PySem.F.plainAttrs_list PySem.F.slot_list_append PySem.F.type_list_append mt_append (pv 4) (pa_cons (pe_ix ix_list0 (pv 0) (pe_ix ix_list0 (pv 4) (pe_un un_neg pe_int) (fun _ _ => rfl)) (fun _ _ => rfl)) pa_nil)))))
      (pss_one (ps_ret (pv 4)))))), ?_⟩
    have lt : ∀ j, MA.it p j x < N := fun j => MA.it_lt (fun y _ => hp y) hx j
    have lt2 : ∀ j, MA.it p j (MA.it p N x) < N := fun j => MA.it_lt (fun y _ => hp y) (lt N) j
    refine ⟨_, rfl, _, rfl, a, _, rfl, .inl (SqL.of ha), (N : Int), (by rw [lsI_len]), by omega, by omega, ?_⟩
    refine for_range (n := ((N : Int)).toNat) (fun i σ' H' => ∃ v, σ' = [some (.ref a), some (.int (x : Int)), some (.int (MA.it p i x : Int)), v, none] ∧ H' = H) ⟨none, rfl, rfl⟩ ?_ ?_
    · rintro i σ' H' hi ⟨v, rfl, rfl⟩
      exact ⟨_, rfl, rdLv rfl ha (lsI_at (lt i)) ⟨_, rfl, rfl⟩⟩
    · rintro σ' H' ⟨v, rfl, rfl⟩
      rw [Int.toNat_natCast]
      obtain ⟨per, hp1, hp2, hper⟩ := MA.ring_of (fun y _ => hp y) hx (n := N)
      refine ⟨_, rfl, by show 1 ≤ sizeLine; decide, fun l hl => ?_⟩
      have s0 := same_new (o := .lst [V.int (MA.it p N x : Int)]) hl
      refine ⟨fun m σ' H1 => ∃ L, 1 ≤ L ∧ L + m = per ∧ (∀ j, 0 < j → j < L → MA.it p j (MA.it p N x) ≠ MA.it p N x) ∧ σ' = [some (.ref a), some (.int (x : Int)), some (.int (MA.it p N x : Int)), v, some (.ref l)] ∧ Same H' H1 ∧
        H1 l = some (.lst (natsV ((List.range L).map fun j => MA.it p j (MA.it p N x)))), ⟨per - 1, 1, Nat.le_refl _, by omega, (fun j h1 h2 => by omega), rfl, s0, upd_same⟩, ?_⟩
      rintro m σ' H1 ⟨L, L1, Lm, hne, rfl, s1, e1⟩
      have el : (List.range L).map (fun j => MA.it p j (MA.it p N x)) = (List.range (L - 1)).map (fun j => MA.it p j (MA.it p N x)) ++ [MA.it p (L - 1) (MA.it p N x)] := by
        have : L = (L - 1) + 1 := by omega
        rw [this, List.range_succ, List.map_append]
        rfl
      have hlast : atI (natsV ((List.range L).map fun j => MA.it p j (MA.it p N x))) (-1) = some (.int (MA.it p (L - 1) (MA.it p N x) : Int)) := by
        rw [el, natsV_snoc]
        exact atI_last _ _
      have eL : p (MA.it p (L - 1) (MA.it p N x)) = MA.it p L (MA.it p N x) := by
        have : L = (L - 1) + 1 := by omega
        rw [this]
        rfl
      refine ⟨_, rfl, _, rfl, _, rfl, _, _, _, _, rfl, rfl, e1, hlast, _, _, _, _, rfl, rfl, (s1 _ _ ha), lsI_at (lt2 _), _, rfl, rfl, _, rfl, ?_⟩
      refine ite2 (fun hc => ?_) (fun hc => ?_)
      · have hne2 : MA.it p L (MA.it p N x) ≠ MA.it p N x := fun z => by
          rw [eL, z] at hc
          simp at hc
        have hLp : L ≠ per := fun z => hne2 (z ▸ hper)
        refine ⟨fun σ' H2 => ∃ m', m' < m ∧ ∃ L, 1 ≤ L ∧ L + m' = per ∧ (∀ j, 0 < j → j < L → MA.it p j (MA.it p N x) ≠ MA.it p N x) ∧ σ' = [some (.ref a), some (.int (x : Int)), some (.int (MA.it p N x : Int)), v, some (.ref l)] ∧ Same H' H2 ∧
          H2 l = some (.lst (natsV ((List.range L).map fun j => MA.it p j (MA.it p N x)))), fun σ' H' z => z, ?_⟩
        refine ⟨_, rfl, .inl ⟨rfl, _, SqL.of e1⟩, _, rfl, _, rfl, _, rfl, _, _, _, _, rfl, rfl, e1, hlast, _, _, _, _, rfl, rfl, (s1 _ _ ha), lsI_at (lt2 _), l, _, _, rfl, rfl, e1, ?_, ?_⟩
        · unfold natsV
          rw [List.length_map, List.length_map, List.length_range]
          exact small1000 (by omega)
        · refine ⟨m - 1, by omega, L + 1, by omega, by omega, fun j h1 h2 => ?_, rfl, same_upd s1 hl, ?_⟩
          · by_cases e : j = L
            · rw [e]; exact hne2
            · exact hne j h1 (by omega)
          · rw [upd_same, List.range_succ, List.map_append, eL]
            exact congrArg (fun z => some (HO.lst z)) (natsV_snoc _ _).symm
      · have he : MA.it p L (MA.it p N x) = MA.it p N x := by
          rw [eL] at hc
          simp at hc
          omega
        exact ⟨_, rfl, k _ l H1 ⟨L, L1, by omega, rfl, he, hne⟩ hl s1 e1⟩
end
end W

set_option Elab.async false
set_option linter.all false
set_option maxRecDepth 100000
set_option maxHeartbeats 4000000
namespace W
open PySem L2
noncomputable def ofRow : List Int → MB.B3
  | [a, b, m] => (a.toNat, b.toNat, m)
  | _ => (0, 0, 0)
noncomputable def Idx (N : Nat) (rows : List (List Int)) : Prop := ∀ r ∈ rows, ∃ (a b : Nat) (m : Int), r = [(a : Int), (b : Int), m] ∧ a < N ∧ b < N
theorem Idx.inB {N : Nat} {rows : List (List Int)} (h : Idx N rows) : MB.InB N (rows.map ofRow) := fun x hx => by
  obtain ⟨r, hr, rfl⟩ := List.mem_map.mp hx
  obtain ⟨a, b, m, rfl, ha, hb⟩ := h r hr
  show (a : Int).toNat < N ∧ (b : Int).toNat < N
  omega
noncomputable def qV : Option Nat → V
  | none => .non
  | some x => .int (x : Int)
theorem qV_non {q : Option Nat} : (qV q = .non) ↔ q = none := by cases q <;> simp [qV]
noncomputable def spEarly (CN : Addr) : Sp := fun vs H Q E => ∃ (N : Nat) (a : Addr) (rows : List (List Int)), vs = [.int (N : Int), .ref a] ∧ 1 ≤ N ∧ N ≤ 8 ∧ RowsAt H a rows ∧ Idx N rows ∧
  (∀ k l H', k < N → (MB.rounds (rows.map ofRow) (k + 1)).q = none → H l = none → Same H H' → H' l = some (.lst (lsI N (MB.rounds (rows.map ofRow) (k + 1)).t)) → Q (.ref l) H') ∧
  ((∀ k, k < N → (MB.rounds (rows.map ofRow) (k + 1)).q ≠ none) → ∀ x d l ring H', (MB.rounds (rows.map ofRow) N).q = some x → MB.RingOf (MB.rounds (rows.map ofRow) N).p N x ring → H d = none → H l = none → Same H H' →
    H' d = some (excD d [("ring", .ref l)]) → H' l = some (.lst (natsV ring)) → E (.ref CN) (some d) H')
section
variable {P : Program} {w : World} {K : PySem.W.Frag} {mg : Str → Option Value} {base : Heap}
noncomputable abbrev nEt : List Str := ["many", "bounds", "times", "pushers", "turn", "pushed", "a", "b", "most"]
theorem scEt : FnScope nEt ["many", "bounds"] (defScope sP_earliest_times) := ⟨rfl, rfl, rfl, by decide +kernel, rfl, by decide +kernel, by decide +kernel⟩
theorem ok_early {f C Mo fI fR : Addr} {fd fdI fdR : FuncData} (F : Fn K mg "earliest_times" sP_earliest_times ["many", "bounds"] f fd) (T : TxtE K mg C Mo fI) (bI : Binds K fdI ["self", "ring"] [])
    (GI : FnOk P w K mg base CX0 1 fI fdI ["self", "ring"] (spNoT C)) (FR : Fn K mg "ring_behind" sP_ring_behind ["pushers", "moment"] fR fdR) (GR : FnOk P w K mg base CX0 1 fR fdR ["pushers", "moment"] spRing) :
    FnOk P w K mg base (CX1 P w) 3 f fd ["many", "bounds"] (spEarly C) := by
  refine F.F.ok1 scEt (fun vs H Q E h => ?_) (fun cdv A outer s H vs Q E hr h => ?_)
  · obtain ⟨N, a, rows, rfl, _⟩ := h
    rfl
  · obtain ⟨N, a, rows, rfl, N1, N8, ⟨ps, R⟩, hix, kq, ke⟩ := h
    have hr1 : Room 1 _ := hr.mono (by decide)
    have hB := hix.inB
    generalize hBd : rows.map ofRow = B at *
    refine ⟨_, pss_cons (ps_set (i := 2) scEt.nd rfl (Or.inl rfl) (pe_op op_rep (pe_lst (pa_cons pe_int pa_nil)) (pv 0)))
      (pss_cons (ps_set (i := 3) scEt.nd rfl (Or.inl rfl) (pe_op op_rep (pe_lst (pa_cons pe_int pa_nil)) (pv 0)))
      (pss_cons (ps_nox (ps_for PassesOwn.never rfl (pi_range1 rfl T.range (pa_cons (pv 0) pa_nil)) (pg_name (i := 4) scEt.nd rfl (Or.inl rfl))
        (pss_cons (ps_set (i := 5) scEt.nd rfl (Or.inl rfl) pe_non)
        (pss_cons (ps_for PassesOwn.never rfl (pi_list (pv 1)) (pg_tup rfl (pgs_cons (pg_name (i := 6) scEt.nd rfl (Or.inl rfl)) (pgs_cons (pg_name (i := 7) scEt.nd rfl (Or.inl rfl)) (pgs_cons (pg_name (i := 8) scEt.nd rfl (Or.inl rfl)) pgs_nil))))
          (pss_one (ps_if (pt_cmpR op_lt (pe_ix ix_list0 (pv 2) (pv 6) (fun _ _ => rfl)) (pe_op op_sub (pe_ix ix_list0 (pv 2) (pv 7) (fun _ _ => rfl)) (pv 8)) (nomark _))
            (pss_cons (ps_asg (pe_op op_sub (pe_ix ix_list0 (pv 2) (pv 7) (fun _ _ => rfl)) (pv 8)) (pg_sub (pv 2) (pv 6) set_list))
            (pss_cons (ps_asg (pv 7) (pg_sub (pv 3) (pv 6) set_list))
            (pss_one (ps_set (i := 5) scEt.nd rfl (Or.inl rfl) (pv 6))))) pss_nil)))
        (pss_one (ps_if (pt_cmpR op_isN (pv 5) pe_non (nomark _)) (pss_one (ps_ret (pv 2))) pss_nil))))))
      (pss_one (ps_raise (pe_makeE T.ex GI hr rfl T.mgC bI pass0 (pa_cons (pe_call GR hr1 rfl FR.g FR.F.kp FR.b .nil pass0 (pa_cons (pv 3) (pa_cons (pv 5) pa_nil))) pa_nil)))))), ?_⟩
    -- times, pushers
    refine ⟨by show 1 ≤ sizeLine; decide, fun z1 hz1 => ⟨_, rfl, z1, _, _, rfl, rfl, upd_same, by omega, by omega, ?_, fun ta hta => ?_⟩⟩
    · show 1 * ((N : Int)).toNat ≤ sizeLine
      exact Nat.le_of_lt (small1000 (by omega))
    rw [Int.toNat_natCast, lsI_rep]
    have s1 := same_new (o := .lst [V.int 0]) hz1
    have s2 := s1.trans (same_new (o := .lst (lsI N fun _ => 0)) hta)
    have hta0 : H ta = none := s1.free hta
    have et : upd (upd H z1 (.lst [V.int 0])) ta (.lst (lsI N fun _ => 0)) ta = some (.lst (lsI N fun _ => 0)) := upd_same
    generalize upd (upd H z1 (.lst [V.int 0])) ta (.lst (lsI N fun _ => 0)) = H2 at *
    refine ⟨by show 1 ≤ sizeLine; decide, fun z2 hz2 => ⟨_, rfl, z2, _, _, rfl, rfl, upd_same, by omega, by omega, ?_, fun pa hpa => ?_⟩⟩
    · show 1 * ((N : Int)).toNat ≤ sizeLine
      exact Nat.le_of_lt (small1000 (by omega))
    rw [Int.toNat_natCast, lsI_rep]
    have s3 := same_new (o := .lst [V.int 0]) hz2
    have s4 := s3.trans (same_new (o := .lst (lsI N fun _ => 0)) hpa)
    have hpa0 : H pa = none := s2.free (s3.free hpa)
    have ep : upd (upd H2 z2 (.lst [V.int 0])) pa (.lst (lsI N fun _ => 0)) pa = some (.lst (lsI N fun _ => 0)) := upd_same
    have tp : ta ≠ pa := ne_of_none et (s3.free hpa)
    have et4 := s4 _ _ et
    have sH := s2.trans s4
    clear s1 s2 s3 s4 hz1 hz2 hta hpa
    generalize upd (upd H2 z2 (.lst [V.int 0])) pa (.lst (lsI N fun _ => 0)) = H4 at *
    -- the rounds
    refine ⟨_, rfl, (N : Int), rfl, by omega, by omega, ?_⟩
    refine for_range (n := ((N : Int)).toNat) (fun i σ' H' => ∃ v4 v5 v6 v7 v8, σ' = [some (.int (N : Int)), some (.ref a), some (.ref ta), some (.ref pa), v4, v5, v6, v7, v8] ∧ H' ta = some (.lst (lsI N (MB.rounds B i).t)) ∧
      H' pa = some (.lst (lsI N fun j => ((MB.rounds B i).p j : Int))) ∧ Same H H' ∧ (∀ j, j < i → (MB.rounds B (j + 1)).q ≠ none) ∧ (i = 0 ∨ v5 = some (qV (MB.rounds B i).q))) ⟨none, none, none, none, none, rfl, et4, ep, sH, (fun j hj => absurd hj (Nat.not_lt_zero _)), .inl rfl⟩ ?_ ?_
    · rintro i σ' H5 hi ⟨v4, v5, v6, v7, v8, rfl, t5, p5, s5, hno, _⟩
      rw [Int.toNat_natCast] at hi
      have R5 := R.same s5
      refine ⟨_, rfl, a, rfl, ⟨_, SqL.of R5.1⟩, for_list (K := K) (a := a) (xs := ps.map V.ref) (fun j σ' H' => ∃ w6 w7 w8, σ' = [some (.int (N : Int)), some (.ref a), some (.ref ta), some (.ref pa), some (.int (0 + (i : Int))), some (qV ((B.take j).foldl MB.relax (MB.begin (MB.rounds B i))).q), w6, w7, w8] ∧
        H' ta = some (.lst (lsI N ((B.take j).foldl MB.relax (MB.begin (MB.rounds B i))).t)) ∧ H' pa = some (.lst (lsI N fun x => (((B.take j).foldl MB.relax (MB.begin (MB.rounds B i))).p x : Int))) ∧ Same H H') ⟨v6, v7, v8, rfl, t5, p5, s5⟩ ?_ ?_ ?_⟩
      · rintro j σ' H6 _ ⟨w6, w7, w8, rfl, _, _, s6⟩
        exact SqL.of (s6 _ _ R.1)
      · rintro j x σ' H6 hx ⟨w6, w7, w8, rfl, t6, p6, s6⟩
        obtain ⟨q, r, rfl, hq, hr', hqt⟩ := R.get hx
        obtain ⟨a', b', m, e4, ha', hb'⟩ := hix r (List.mem_of_getElem? hr')
        subst e4
        have hBj : B[j]? = some (a', b', m) := by
          rw [← hBd, List.getElem?_map, hr']
          show some ((a' : Int).toNat, (b' : Int).toNat, m) = _
          rw [Int.toNat_natCast, Int.toNat_natCast]
        have estep : (B.take (j + 1)).foldl MB.relax (MB.begin (MB.rounds B i)) = MB.relax ((B.take j).foldl MB.relax (MB.begin (MB.rounds B i))) (a', b', m) := by
          rw [List.take_succ, hBj, List.foldl_append]
          rfl
        generalize (B.take j).foldl MB.relax (MB.begin (MB.rounds B i)) = S at *
        rw [estep]
        refine ⟨q, _, rfl, SqT.of (s6 _ _ hqt), rfl, _, _, rfl, _, _, rfl, _, _, rfl, rfl, ?_⟩
        refine ⟨_, rfl, rdLv rfl t6 (lsI_at ha') ⟨_, rfl, rdLv rfl t6 (lsI_at hb') ⟨_, rfl, _, _, rfl, rfl, _, _, rfl, rfl, _, rfl, ?_⟩⟩⟩
        refine ite2 (fun hc => ?_) (fun hc => ?_)
        · have hc' : S.t a' < S.t b' - m := by simpa using hc
          have er : MB.relax S (a', b', m) = ⟨MB.put S.t a' (S.t b' - m), MB.put S.p a' b', some a'⟩ := by
            unfold MB.relax
            exact if_pos hc'
          rw [er]
          refine ⟨_, rfl, rdLv rfl t6 (lsI_at hb') ⟨_, rfl, _, _, rfl, rfl, _, rfl, _, rfl, ta, _, _, _, rfl, rfl, t6, lsI_ix ha', ?_⟩⟩
          have p7 : upd H6 ta (.lst ((lsI N S.t).set a' (.int (S.t b' - m)))) pa = some (.lst (lsI N fun x => (S.p x : Int))) := by rw [upd_ne (Ne.symm tp)]; exact p6
          refine ⟨_, rfl, _, rfl, _, rfl, pa, _, _, _, rfl, rfl, p7, lsI_ix ha', ?_⟩
          refine ⟨_, rfl, _, _, _, rfl, ?_, ?_, same_upd (same_upd s6 hta0) hpa0⟩
          · rw [upd_ne tp, upd_same, lsI_set]
          · rw [upd_same, lsI_set]
            refine congrArg (fun z => some (HO.lst z)) (lsI_congr fun x _ => ?_)
            show (if x = a' then (b' : Int) else (S.p x : Int)) = ((if x = a' then b' else S.p x : Nat) : Int)
            split <;> rfl
        · have hc' : ¬ S.t a' < S.t b' - m := by simpa using hc
          have er : MB.relax S (a', b', m) = S := by
            unfold MB.relax
            exact if_neg hc'
          rw [er]
          exact ⟨_, _, _, rfl, t6, p6, s6⟩
      · rintro σ' H6 ⟨w6, w7, w8, rfl, t6, p6, s6⟩
        have hBl : B.take (ps.map V.ref).length = B := by
          rw [List.length_map, R.len, ← hBd, ← List.length_map (f := ofRow)]
          exact List.take_length
        rw [hBl] at t6 p6 ⊢
        have er : B.foldl MB.relax (MB.begin (MB.rounds B i)) = MB.rounds B (i + 1) := rfl
        rw [er] at t6 p6 ⊢
        refine ⟨_, rfl, rfl, _, rfl, ?_⟩
        refine ite2 (fun hc => ?_) (fun hc => ?_)
        · have hq : (MB.rounds B (i + 1)).q = none := qV_non.mp (by simpa using hc)
          exact ⟨_, rfl, kq i ta H6 hi hq hta0 s6 t6⟩
        · have hq : (MB.rounds B (i + 1)).q ≠ none := fun z => hc (by simpa using qV_non.mpr z)
          refine ⟨_, _, _, _, _, rfl, t6, p6, s6, fun j hj => ?_, .inr rfl⟩
          by_cases e : j = i
          · rw [e]; exact hq
          · exact hno j (by omega)
    · rintro σ' H5 ⟨v4, v5, v6, v7, v8, rfl, t5, p5, s5, hno, hv⟩
      rw [Int.toNat_natCast] at *
      have hv : v5 = some (qV (MB.rounds B N).q) := hv.resolve_left (by omega)
      have hq : (MB.rounds B N).q ≠ none := by
        have := hno (N - 1) (by omega)
        rwa [show N - 1 + 1 = N by omega] at this
      cases hx : (MB.rounds B N).q with
      | none => exact absurd hx hq
      | some x =>
        rw [hx] at hv
        subst hv
        have hin := MB.rounds_in (n := N) (by omega) hB N
        refine ⟨_, rfl, _, rfl, pa, x, N, _, rfl, p5, N1, N8, hin.p, hin.q x hx, fun ring l H6 hring hl s6 e6 => ?_⟩
        refine ⟨by show 1 ≤ sizeLine; decide, fun ea hea => ?_⟩
        have s7 := same_new (o := excE ea C none) hea
        refine ⟨ea, l, _, rfl, upd_same, s7 _ _ e6, ?_, fun d l2 H7 hd hl2 ex ed el kp => ⟨rfl, ea, C, Mo, fI, some d, rfl, ex, T.ex, s5.free (s6.free hea), ?_⟩⟩
        · unfold natsV
          obtain ⟨L, _, hL, e, _⟩ := hring
          rw [e, List.length_map, List.length_map, List.length_range]
          omega
        have dea : d ≠ ea := Ne.symm (ne_of_none upd_same hd)
        have lea : l2 ≠ ea := Ne.symm (ne_of_none upd_same hl2)
        have sA := (s5.trans s6).trans s7
        refine ke (fun k hk => hno k hk) x d l2 ring _ hx hring (sA.free hd) (sA.free hl2) (fun b o e => ?_) ?_ ?_
        · have bea : b ≠ ea := ne_of_none ((s5.trans s6) _ _ e) hea
          rw [forget_ne bea]
          exact kp _ _ (sA _ _ e) bea
        · rw [forget_ne dea]; exact ed
        · rw [forget_ne lea]; exact el
end
end W


set_option Elab.async false
set_option linter.all false
set_option maxRecDepth 100000
set_option maxHeartbeats 4000000
namespace L2
open PySem PySem.Spec PyProof.Rows
theorem pe_fldK {Y : Cx} {K : PySem.W.Frag} {e : Expr} {f : Str} {pos : Pos} {ta : TE} (h : Y.K = K) (he : PE Y e ta) (hb : attributeBase e f Y.env (eval e Y.env) = eval e Y.env) : PE Y (.Attribute e f pos) (tFld K ta f) := by
  subst h; exact pe_fld he hb
structure GridAt (H : Hp) (l : Addr) (rs : List Addr) (N : Nat) (T : Nat → Nat → Int) : Prop where
  top : H l = some (.lst (rs.map V.ref))
  len : rs.length = N
  row : ∀ (i : Nat) r, rs[i]? = some r → H r = some (.lst (lsI N (T i)))
  inj : ∀ (i j : Nat) r, rs[i]? = some r → rs[j]? = some r → i = j
  ne : ∀ (i : Nat) r, rs[i]? = some r → r ≠ l
theorem GridAt.same {H H' : Hp} {l : Addr} {rs : List Addr} {N : Nat} {T : Nat → Nat → Int} (h : GridAt H l rs N T) (k : Same H H') : GridAt H' l rs N T := ⟨k _ _ h.top, h.len, fun i r e => k _ _ (h.row i r e), h.inj, h.ne⟩
theorem GridAt.has {H : Hp} {l : Addr} {rs : List Addr} {N : Nat} {T : Nat → Nat → Int} (h : GridAt H l rs N T) {i : Nat} (hi : i < N) : ∃ r, rs[i]? = some r := ⟨rs[i]'(by rw [h.len]; exact hi), by simp [h.len, hi]⟩
theorem GridAt.at_ {H : Hp} {l : Addr} {rs : List Addr} {N : Nat} {T : Nat → Nat → Int} (h : GridAt H l rs N T) {i : Nat} {r : Addr} (hi : rs[i]? = some r) : atI (rs.map V.ref) (i : Int) = some (.ref r) := atI_nat (by rw [List.getElem?_map, hi]; rfl)
theorem GridAt.set {H : Hp} {l : Addr} {rs : List Addr} {N : Nat} {T : Nat → Nat → Int} (h : GridAt H l rs N T) {a b : Nat} {r : Addr} {v : Int} (ha : rs[a]? = some r) :
    GridAt (upd H r (.lst ((lsI N (T a)).set b (.int v)))) l rs N (fun i j => if i = a ∧ j = b then v else T i j) := by
  refine ⟨by rw [upd_ne (Ne.symm (h.ne a r ha))]; exact h.top, h.len, fun i q e => ?_, h.inj, h.ne⟩
  by_cases e1 : q = r
  · subst e1
    have : i = a := h.inj i a q e ha
    subst this
    rw [upd_same, lsI_set]
    refine congrArg (fun z => some (HO.lst z)) (lsI_congr fun j _ => ?_)
    unfold MB.put
    by_cases e2 : j = b
    · rw [if_pos e2, if_pos ⟨rfl, e2⟩]
    · rw [if_neg e2, if_neg fun z => e2 z.2]
  · have : i ≠ a := fun z => e1 (by rw [z, ha] at e; exact (Option.some.inj e).symm)
    rw [upd_ne e1, h.row i q e]
    refine congrArg (fun z => some (HO.lst z)) (lsI_congr fun j _ => ?_)
    rw [if_neg fun z => this z.1]
theorem GridAt.congr {H : Hp} {l : Addr} {rs : List Addr} {N : Nat} {T T' : Nat → Nat → Int} (h : GridAt H l rs N T) (e : ∀ i j, i < N → j < N → T i j = T' i j) : GridAt H l rs N T' := by
  refine ⟨h.top, h.len, fun i r hr => ?_, h.inj, h.ne⟩
  have hi : i < N := by rw [← h.len]; exact (List.getElem?_eq_some_iff.mp hr).1
  rw [h.row i r hr, lsI_congr fun j hj => e i j hi hj]
theorem min_if {i j : Int} : (if j < i then j else i) = min i j := by
  split <;> omega
end L2
namespace W
open PySem L2
structure TxtT (mg : Str → Option Value) : Prop where
  range : mg "range" = none
  list : mg "list" = none
  min : mg "min" = none
end W
namespace MB
theorem relax_q {s : Rx} {x : B3} (h : s.q ≠ none) : (relax s x).q ≠ none := by
  unfold relax
  split
  · simp
  · exact h
theorem fold_q : ∀ {B : List B3} {s : Rx}, s.q ≠ none → (B.foldl relax s).q ≠ none
  | [], _, h => h
  | x :: B, s, h => fold_q (B := B) (relax_q h)
theorem fold_quiet : ∀ {B : List B3} {s : Rx}, s.q = none → (B.foldl relax s).q = none → B.foldl relax s = s ∧ ∀ x ∈ B, s.t x.2.1 - s.t x.1 ≤ x.2.2
  | [], _, _, _ => ⟨rfl, fun x h => nomatch h⟩
  | x :: B, s, h0, h => by
    rw [List.foldl_cons] at h ⊢
    by_cases hc : s.t x.1 < s.t x.2.1 - x.2.2
    · exact absurd h (fold_q (by unfold relax; rw [if_pos hc]; simp))
    · have e : relax s x = s := by unfold relax; rw [if_neg hc]
      rw [e] at h ⊢
      obtain ⟨h1, h2⟩ := fold_quiet (B := B) h0 h
      refine ⟨h1, fun y hy => ?_⟩
      rcases List.mem_cons.mp hy with q | q
      · subst q; omega
      · exact h2 y q
theorem quiet {B : List B3} {k : Nat} (h : (rounds B (k + 1)).q = none) : (rounds B (k + 1)).t = (rounds B k).t ∧ ∀ x ∈ B, (rounds B (k + 1)).t x.2.1 - (rounds B (k + 1)).t x.1 ≤ x.2.2 := by
  obtain ⟨h1, h2⟩ := fold_quiet (B := B) (s := begin (rounds B k)) rfl h
  have e : rounds B (k + 1) = begin (rounds B k) := h1
  rw [e]
  exact ⟨rfl, h2⟩
end MB
namespace W
open PySem L2
theorem room_mem {la : Int} : ∀ {k i : Nat}, 1 ≤ i → i ≤ k → [0, (i : Int), la] ∈ roomB la k ∧ [(i : Int), 0, 0] ∈ roomB la k
  | 0, i, h1, h2 => by omega
  | k + 1, i, h1, h2 => by
    unfold roomB
    by_cases e : i = k + 1
    · subst e
      have : ((k + 1 : Nat) : Int) = (k : Int) + 1 := by omega
      rw [this]
      exact ⟨List.mem_append_right _ List.mem_cons_self, List.mem_append_right _ (List.mem_cons_of_mem _ List.mem_cons_self)⟩
    · obtain ⟨a, b⟩ := room_mem (la := la) (k := k) h1 (by omega)
      exact ⟨List.mem_append_left _ a, List.mem_append_left _ b⟩
theorem room_idx {la : Int} {N : Nat} : ∀ {k : Nat}, k < N → Idx N (roomB la k)
  | 0, _ => fun r hr => nomatch hr
  | k + 1, hk => fun r hr => by
    unfold roomB at hr
    rcases List.mem_append.mp hr with h | h
    · exact room_idx (k := k) (by omega) r h
    · have e : (k : Int) + 1 = ((k + 1 : Nat) : Int) := by omega
      rcases List.mem_cons.mp h with h | h
      · exact ⟨0, k + 1, la, by rw [h, e]; rfl, by omega, hk⟩
      · rw [List.mem_singleton.mp h]
        exact ⟨k + 1, 0, 0, by rw [e]; rfl, hk, by omega⟩
theorem span_idx {N : Nat} : ∀ {rows : List (List Int)}, (∀ r ∈ rows, ∃ a b l m : Int, r = [a, b, l, m] ∧ 0 ≤ a ∧ a < N ∧ 0 ≤ b ∧ b < N) → Idx N (spanB rows)
  | [], _ => fun r hr => nomatch hr
  | r :: t, h => fun x hx => by
    unfold spanB at hx
    rw [List.map_cons, List.flatten_cons] at hx
    rcases List.mem_append.mp hx with z | z
    · obtain ⟨a, b, l, m, rfl, h1, h2, h3, h4⟩ := h r List.mem_cons_self
      rcases List.mem_cons.mp z with z | z
      · exact ⟨a.toNat, b.toNat, m, by rw [z, Int.toNat_of_nonneg h1, Int.toNat_of_nonneg h3], by omega, by omega⟩
      · rw [List.mem_singleton.mp z]
        exact ⟨b.toNat, a.toNat, -l, by rw [Int.toNat_of_nonneg h1, Int.toNat_of_nonneg h3], by omega, by omega⟩
    · exact span_idx (rows := t) (fun r hr => h r (List.mem_cons_of_mem _ hr)) x z
theorem Idx.append {N : Nat} {a b : List (List Int)} (h1 : Idx N a) (h2 : Idx N b) : Idx N (a ++ b) := fun r hr => (List.mem_append.mp hr).elim (h1 r) (h2 r)
theorem WebOk.idx {N : Nat} {la : Int} {T F : List (List Int)} (h : WebOk (N : Int) la T F) : Idx N (allB (N : Int) la T F) := by
  unfold allB
  have := h.n1
  refine ((room_idx (by omega)).append (span_idx fun r hr => ?_)).append (span_idx fun r hr => ?_)
  · obtain ⟨a, b, l, m, e, h1, h2, h3, h4, _⟩ := h.t r hr
    exact ⟨a, b, l, m, e, h1, h2, h3, h4⟩
  · obtain ⟨a, b, l, m, e, h1, h2, h3, h4, _⟩ := h.f r hr
    exact ⟨a, b, l, m, e, h1, h2, by omega, h4⟩
theorem pot_of {N : Nat} {la : Int} {T F : List (List Int)} {k : Nat} (l1 : 1 ≤ la) (h : (MB.rounds ((allB (N : Int) la T F).map ofRow) (k + 1)).q = none) : MB.Pot N la ((allB (N : Int) la T F).map ofRow) (MB.rounds ((allB (N : Int) la T F).map ofRow) (k + 1)).t := by
  obtain ⟨_, hb⟩ := MB.quiet h
  have lo : ∀ i, 1 ≤ i → i < N → (MB.rounds ((allB (N : Int) la T F).map ofRow) (k + 1)).t i - (MB.rounds ((allB (N : Int) la T F).map ofRow) (k + 1)).t 0 ≤ la ∧ (MB.rounds ((allB (N : Int) la T F).map ofRow) (k + 1)).t 0 - (MB.rounds ((allB (N : Int) la T F).map ofRow) (k + 1)).t i ≤ 0 := fun i h1 h2 => by
    obtain ⟨m1, m2⟩ := room_mem (la := la) (k := ((N : Int) - 1).toNat) h1 (by omega)
    have q1 := hb (0, i, la) (List.mem_map.mpr ⟨[0, (i : Int), la], List.mem_append_left _ (List.mem_append_left _ m1), rfl⟩)
    have q2 := hb (i, 0, 0) (List.mem_map.mpr ⟨[(i : Int), 0, 0], List.mem_append_left _ (List.mem_append_left _ m2), rfl⟩)
    exact ⟨q1, q2⟩
  refine ⟨fun i j hi hj hne => ?_, hb⟩
  by_cases i0 : i = 0
  · subst i0
    exact (lo j (by omega) hj).1
  · by_cases j0 : j = 0
    · subst j0
      have := (lo i (by omega) hi).2
      omega
    · have h1 := lo i (by omega) hi
      have h2 := lo j (by omega) hj
      omega
end W


set_option Elab.async false
set_option linter.all false
set_option maxRecDepth 100000
set_option maxHeartbeats 4000000
namespace W
open PySem L2
noncomputable def spTable (C : Addr) : Sp := fun vs H Q _ => ∃ (p ba : Addr) (N : Nat) (la : Int) (T F rows : List (List Int)) (pt : Nat → Int), vs = [.ref p, .ref ba] ∧ WebAt C H p (N : Int) la T F ∧ 1 ≤ N ∧ N ≤ 8 ∧ RowsAt H ba rows ∧ Idx N rows ∧ MB.Pot N la (rows.map ofRow) pt ∧
  ∀ l rs H', H l = none → (∀ r ∈ rs, H r = none) → Same H H' → GridAt H' l rs N (MB.tightF N la (rows.map ofRow)) → Q (.ref l) H'
section
variable {P : Program} {w : World} {K : PySem.W.Frag} {mg : Str → Option Value} {base : Heap}
noncomputable abbrev nTt : List Str := ["web", "bounds", "moments", "table", "moment", "a", "b", "most", "via"]
theorem scTt : FnScope nTt ["web", "bounds"] (defScope sP_tight_table) := ⟨rfl, rfl, rfl, by decide +kernel, rfl, by decide +kernel, by decide +kernel⟩
theorem coTt : CompOk (defScope sP_tight_table) nTt (fsc [(".0", .local), ("moment", .local), ("web", .free)]) ["moment", "web"] [none, some 0] := ⟨rfl, by decide +kernel, by decide +kernel, by decide +kernel, rfl, by decide +kernel⟩
theorem ndTt : (["moment", "web"] : List Str).Nodup := by decide +kernel
theorem ok_table {f C : Addr} {fd : FuncData} (F : Fn K mg "tight_table" sP_tight_table ["web", "bounds"] f fd) (T : TxtT mg) (TC : TxtC K mg C) : FnOk P w K mg base CX0 1 f fd ["web", "bounds"] (spTable C) := by
  refine F.F.ok scTt (fun vs H Q E h => ?_) (fun cdv A outer s H vs Q E hr h => ?_)
  · obtain ⟨p, ba, _, _, _, _, _, _, rfl, _⟩ := h
    rfl
  · obtain ⟨p, ba, N, la, rT, rF, rows, pt, rfl, W0, N1, N8, ⟨bs, R⟩, hix, pot, k⟩ := h
    refine ⟨_, pss_cons (ps_set (i := 2) scTt.nd rfl (Or.inl rfl) (pe_listRange rfl rfl T.list rfl T.range (pa_cons (pe_fld (pv 0) rfl) pa_nil)))
      (pss_cons (ps_setC (i := 3) scTt.nd rfl rfl rfl (pi_list (pv 2)) coTt (fun cl ex s0 H0 => ⟨pg_name (i := 0) ndTt rfl (Or.inl rfl), pif_none, pe_op op_rep (pe_lst (pa_cons (pe_fldK (K := K) rfl (pv 1) rfl) pa_nil)) (pe_fldK (K := K) rfl (pv 1) rfl)⟩))
      (pss_cons (ps_for PassesOwn.never rfl (pi_list (pv 2)) (pg_name (i := 4) scTt.nd rfl (Or.inl rfl)) (pss_one (ps_asg pe_int (pg_sub (pe_ix ix_list0 (pv 3) (pv 4) (fun _ _ => rfl)) (pv 4) set_list))))
      (pss_cons (ps_for PassesOwn.never rfl (pi_list (pv 1)) (pg_tup rfl (pgs_cons (pg_name (i := 5) scTt.nd rfl (Or.inl rfl)) (pgs_cons (pg_name (i := 6) scTt.nd rfl (Or.inl rfl)) (pgs_cons (pg_name (i := 7) scTt.nd rfl (Or.inl rfl)) pgs_nil))))
        (pss_one (ps_asg (pe_callB (call_min2 rfl) (by rfl) T.min (by decide +kernel) (pa_cons (pe_ix ix_list0 (pe_ix ix_list0 (pv 3) (pv 5) (fun _ _ => rfl)) (pv 6) (fun _ _ => rfl)) (pa_cons (pv 7) pa_nil))) (pg_sub (pe_ix ix_list0 (pv 3) (pv 5) (fun _ _ => rfl)) (pv 6) set_list))))
      (pss_cons (ps_for PassesOwn.never rfl (pi_list (pv 2)) (pg_name (i := 8) scTt.nd rfl (Or.inl rfl))
        (pss_one (ps_for PassesOwn.never rfl (pi_list (pv 2)) (pg_name (i := 5) scTt.nd rfl (Or.inl rfl))
          (pss_one (ps_for PassesOwn.never rfl (pi_list (pv 2)) (pg_name (i := 6) scTt.nd rfl (Or.inl rfl))
            (pss_one (ps_asg (pe_callB (call_min2 rfl) (by rfl) T.min (by decide +kernel) (pa_cons (pe_ix ix_list0 (pe_ix ix_list0 (pv 3) (pv 5) (fun _ _ => rfl)) (pv 6) (fun _ _ => rfl))
              (pa_cons (pe_op op_add (pe_ix ix_list0 (pe_ix ix_list0 (pv 3) (pv 5) (fun _ _ => rfl)) (pv 8) (fun _ _ => rfl)) (pe_ix ix_list0 (pe_ix ix_list0 (pv 3) (pv 8) (fun _ _ => rfl)) (pv 6) (fun _ _ => rfl))) pa_nil)))
              (pg_sub (pe_ix ix_list0 (pv 3) (pv 5) (fun _ _ => rfl)) (pv 6) set_list))))))))
      (pss_one (ps_ret (pv 3))))))), ?_⟩
    obtain ⟨dx, ta, fa, hp, _, _⟩ := id W0
    -- moments
    refine ⟨_, rfl, p, C, dx, _, _, rfl, hp, TC.cl, TC.nM, w_many _ _ _ _, N, rfl, by omega, fun mo hmo => ?_⟩
    have s1 := same_new (o := .lst ((List.range N).map fun (i : Nat) => V.int (i : Int))) hmo
    have e1 : upd H mo (.lst ((List.range N).map fun (i : Nat) => V.int (i : Int))) mo = some (.lst (lsI N fun i => (i : Int))) := upd_same
    generalize upd H mo (.lst ((List.range N).map fun (i : Nat) => V.int (i : Int))) = H1 at *
    have at1 : ∀ {i : Nat} {x : V}, (lsI N fun i => (i : Int))[i]? = some x → i < N ∧ x = .int (i : Int) := fun {i x} e => by
      have hi : i < N := by
        have := (List.getElem?_eq_some_iff.mp e).1
        rwa [lsI_len] at this
      rw [lsI_get hi] at e
      exact ⟨hi, (Option.some.inj e).symm⟩
    -- table
    refine ⟨_, rfl, mo, rfl, ⟨_, SqL.of e1⟩, fun l hl => ?_⟩
    have hl0 : H l = none := s1.free hl
    refine comp_list (xs := lsI N fun i => (i : Int)) (fun j σ' H' => ∃ v, ∃ rs : List Addr, σ' = [v, some (.ref p)] ∧ H' l = some (.lst (rs.map V.ref)) ∧ rs.length = j ∧ (∀ (i : Nat) r, rs[i]? = some r → H' r = some (.lst (lsI N fun _ => la))) ∧
      (∀ (i j : Nat) r, rs[i]? = some r → rs[j]? = some r → i = j) ∧ (∀ (i : Nat) r, rs[i]? = some r → r ≠ l) ∧ (∀ (i : Nat) r, rs[i]? = some r → H1 r = none) ∧ Same H1 H') ?_ ?_ ?_ ?_
    · exact ⟨none, [], rfl, upd_same, rfl, (fun i r e => by simp at e), (fun i j r e => by simp at e), (fun i r e => by simp at e), (fun i r e => by simp at e), same_new hl⟩
    · rintro j σ' H2 _ ⟨v, rs, rfl, _, _, _, _, _, _, s2⟩
      exact SqL.of (s2 _ _ e1)
    · rintro j x σ' H2 hx ⟨v, rs, rfl, el, hlen, hrow, hinj, hne, hnew, s2⟩
      obtain ⟨hj, rfl⟩ := at1 hx
      have hp2 := s2 _ _ (s1 _ _ hp)
      refine ⟨_, rfl, p, C, dx, _, _, rfl, hp2, TC.cl, TC.nL, w_last _ _ _ _, by show 1 ≤ sizeLine; decide, fun q hq => ?_⟩
      have s3 := same_new (o := .lst [V.int la]) hq
      refine ⟨_, rfl, p, C, dx, _, _, rfl, s3 _ _ hp2, TC.cl, TC.nM, w_many _ _ _ _, q, _, _, rfl, rfl, upd_same, by omega, by omega, ?_, fun r hr' => ?_⟩
      · show 1 * ((N : Int)).toNat ≤ sizeLine
        exact Nat.le_of_lt (small1000 (by omega))
      rw [Int.toNat_natCast, lsI_rep]
      have s4 := s3.trans (same_new (o := .lst (lsI N fun _ => la)) hr')
      have er : upd (upd H2 q (.lst [V.int la])) r (.lst (lsI N fun _ => la)) r = some (.lst (lsI N fun _ => la)) := upd_same
      have hr2 : H2 r = none := s3.free hr'
      generalize upd (upd H2 q (.lst [V.int la])) r (.lst (lsI N fun _ => la)) = H4 at *
      have el4 := s4 _ _ el
      have rl : r ≠ l := Ne.symm (ne_of_none el hr2)
      refine ⟨_, el4, ?_, _, rs ++ [r], rfl, by rw [upd_same, List.map_append]; rfl, by rw [List.length_append, hlen]; rfl, ?_, ?_, ?_, ?_, ?_⟩
      · rw [List.length_map, hlen]; exact small1000 (by omega)
      · intro i r' e
        by_cases hi : i < rs.length
        · rw [List.getElem?_append_left hi] at e
          rw [upd_ne (hne i r' e)]
          exact s4 _ _ (hrow i r' e)
        · rw [List.getElem?_append_right (by omega)] at e
          have e' : r = r' := by
            cases q : i - rs.length with
            | zero => rw [q] at e; exact Option.some.inj e
            | succ z => rw [q] at e; cases e
          rw [← e', upd_ne rl]
          exact er
      · have out : ∀ i, rs[i]? = some r → False := fun i e => by
          rw [hrow i r e] at hr2
          cases hr2
        have last : ∀ i r', rs.length ≤ i → (rs ++ [r])[i]? = some r' → i = rs.length ∧ r' = r := fun i r' hi e => by
          rw [List.getElem?_append_right hi] at e
          cases q : i - rs.length with
          | zero => rw [q] at e; exact ⟨by omega, (Option.some.inj e).symm⟩
          | succ z => rw [q] at e; cases e
        intro i i' r' e e'
        by_cases hi : i < rs.length
        · rw [List.getElem?_append_left hi] at e
          by_cases hi' : i' < rs.length
          · rw [List.getElem?_append_left hi'] at e'
            exact hinj i i' r' e e'
          · obtain ⟨_, rfl⟩ := last i' r' (by omega) e'
            exact (out i e).elim
        · obtain ⟨h1, rfl⟩ := last i r' (by omega) e
          by_cases hi' : i' < rs.length
          · rw [List.getElem?_append_left hi'] at e'
            exact (out i' e').elim
          · obtain ⟨h2, _⟩ := last i' r' (by omega) e'
            omega
      · intro i r' e
        by_cases hi : i < rs.length
        · rw [List.getElem?_append_left hi] at e
          exact hne i r' e
        · rw [List.getElem?_append_right (by omega)] at e
          cases q : i - rs.length with
          | zero => rw [q] at e; rw [← Option.some.inj e]; exact rl
          | succ z => rw [q] at e; cases e
      · intro i r' e
        by_cases hi : i < rs.length
        · rw [List.getElem?_append_left hi] at e
          exact hnew i r' e
        · rw [List.getElem?_append_right (by omega)] at e
          cases q : i - rs.length with
          | zero => rw [q] at e; rw [← Option.some.inj e]; exact s2.free hr2
          | succ z => rw [q] at e; cases e
      · intro b o e
        rw [upd_ne (ne_of_none e hl)]
        exact s4 _ _ (s2 _ _ e)
    · rintro σ' H2 ⟨v, rs, rfl, el, hlen, hrow, hinj, hne, hnew, s2⟩
      rw [lsI_len] at hlen
      have TA : GridAt H2 l rs N (fun _ _ => la) := ⟨el, hlen, hrow, hinj, hne⟩
      have sH : Same H H2 := s1.trans s2
      have em := s2 _ _ e1
      have rnew : ∀ {i : Nat} {r : Addr}, rs[i]? = some r → H r = none := fun {i r} e => s1.free (hnew i r e)
      have rmo : ∀ {i : Nat} {r : Addr}, rs[i]? = some r → mo ≠ r := fun {i r} e => ne_of_none e1 (hnew i r e)
      have keepR : ∀ {H' : Hp} {i : Nat} {r : Addr} {o : HO}, rs[i]? = some r → Same H H' → H' mo = some (.lst (lsI N fun i => (i : Int))) → Same H (upd H' r o) ∧ upd H' r o mo = some (.lst (lsI N fun i => (i : Int))) := fun {H' i r o} e s' em' =>
        ⟨same_upd s' (rnew e), by rw [upd_ne (rmo e)]; exact em'⟩
      -- the diagonal
      refine ⟨_, rfl, mo, rfl, ⟨_, SqL.of em⟩, for_list (K := K) (a := mo) (xs := lsI N fun i => (i : Int)) (fun i σ' H' => ∃ v, σ' = [some (.ref p), some (.ref ba), some (.ref mo), some (.ref l), v, none, none, none, none] ∧ GridAt H' l rs N (fun x y => if x = y ∧ x < i then 0 else la) ∧ Same H H' ∧ H' mo = some (.lst (lsI N fun i => (i : Int))))
        ⟨none, rfl, TA.congr (fun i j _ _ => by rw [if_neg (by omega)]), sH, em⟩ ?_ ?_ ?_⟩
      · rintro i σ' H3 _ ⟨v, rfl, _, _, em3⟩
        exact SqL.of em3
      · rintro i x σ' H3 hx ⟨v, rfl, G3, s3, em3⟩
        obtain ⟨hi, rfl⟩ := at1 hx
        obtain ⟨r, hr'⟩ := G3.has hi
        refine ⟨_, rfl, rdLv rfl G3.top (G3.at_ hr') ⟨_, rfl, r, _, _, _, rfl, rfl, G3.row i r hr', lsI_ix hi, ?_⟩⟩
        obtain ⟨s4, em4⟩ := keepR (o := .lst ((lsI N fun y => if i = y ∧ i < i then (0 : Int) else la).set i (.int 0))) hr' s3 em3
        refine ⟨_, rfl, (G3.set hr').congr (fun x y _ _ => ?_), s4, em4⟩
        by_cases h1 : x = i ∧ y = i
        · rw [if_pos h1, if_pos (by omega)]
        · rw [if_neg h1]
          by_cases h2 : x = y ∧ x < i
          · rw [if_pos h2, if_pos (by omega)]
          · rw [if_neg h2, if_neg (by omega)]
      · rintro σ' H3 ⟨v, rfl, G3, s3, em3⟩
        rw [lsI_len] at G3
        have G3 : GridAt H3 l rs N (MB.T0 la) := G3.congr fun x y hx hy => by
          unfold MB.T0
          by_cases e : x = y
          · rw [if_pos ⟨e, hx⟩, if_pos e]
          · rw [if_neg fun z => e z.1, if_neg e]
        -- the bounds
        have R3 := R.same s3
        refine ⟨_, rfl, ba, rfl, ⟨_, SqL.of R3.1⟩, for_list (K := K) (a := ba) (xs := bs.map V.ref) (fun i σ' H' => ∃ v5 v6 v7, σ' = [some (.ref p), some (.ref ba), some (.ref mo), some (.ref l), v, v5, v6, v7, none] ∧ GridAt H' l rs N (MB.tabB ((rows.map ofRow).take i) (MB.T0 la)) ∧ Same H H' ∧ H' mo = some (.lst (lsI N fun i => (i : Int))))
          ⟨none, none, none, rfl, G3, s3, em3⟩ ?_ ?_ ?_⟩
        · rintro i σ' H4 _ ⟨v5, v6, v7, rfl, _, s4, _⟩
          exact SqL.of (s4 _ _ R.1)
        · rintro i x σ' H4 hx ⟨v5, v6, v7, rfl, G4, s4, em4⟩
          obtain ⟨q, r0, rfl, hq, hr0, hqt⟩ := R.get hx
          obtain ⟨a', b', m, e4, ha', hb'⟩ := hix r0 (List.mem_of_getElem? hr0)
          subst e4
          have hBj : (rows.map ofRow)[i]? = some (a', b', m) := by
            rw [List.getElem?_map, hr0]
            show some ((a' : Int).toNat, (b' : Int).toNat, m) = _
            rw [Int.toNat_natCast, Int.toNat_natCast]
          have est : MB.tabB ((rows.map ofRow).take (i + 1)) (MB.T0 la) = MB.lower (MB.tabB ((rows.map ofRow).take i) (MB.T0 la)) (a', b', m) := by
            unfold MB.tabB
            rw [List.take_succ, hBj, List.foldl_append]
            rfl
          rw [est]
          generalize MB.tabB ((rows.map ofRow).take i) (MB.T0 la) = TT at *
          obtain ⟨r, hr'⟩ := G4.has ha'
          refine ⟨q, _, rfl, SqT.of (s4 _ _ hqt), rfl, _, _, rfl, _, _, rfl, _, _, rfl, rfl, ?_⟩
          refine ⟨_, rfl, rdLv rfl G4.top (G4.at_ hr') (rdLv rfl (G4.row _ _ hr') (lsI_at hb') ⟨_, rfl, _, _, rfl, ?_⟩)⟩
          refine ⟨_, rfl, rdLv rfl G4.top (G4.at_ hr') ⟨_, rfl, r, _, _, _, rfl, rfl, G4.row _ _ hr', lsI_ix hb', ?_⟩⟩
          obtain ⟨s5, em5⟩ := keepR (o := .lst ((lsI N (TT a')).set b' (.int (if m < TT a' b' then m else TT a' b')))) hr' s4 em4
          refine ⟨_, _, _, rfl, (G4.set hr').congr (fun x y _ _ => ?_), s5, em5⟩
          rw [min_if]
          rfl
        · rintro σ' H4 ⟨v5, v6, v7, rfl, G4, s4, em4⟩
          have hBl : (rows.map ofRow).take (bs.map V.ref).length = rows.map ofRow := by
            rw [List.length_map, R.len, ← List.length_map (f := ofRow)]
            exact List.take_length
          rw [hBl] at G4
          -- the middles
          refine ⟨_, rfl, mo, rfl, ⟨_, SqL.of em4⟩, for_list (K := K) (a := mo) (xs := lsI N fun i => (i : Int)) (fun i σ' H' => ∃ u5 u6 u8, σ' = [some (.ref p), some (.ref ba), some (.ref mo), some (.ref l), v, u5, u6, v7, u8] ∧ GridAt H' l rs N (MB.passN (MB.tabB (rows.map ofRow) (MB.T0 la)) i) ∧ Same H H' ∧ H' mo = some (.lst (lsI N fun i => (i : Int))))
            ⟨v5, v6, none, rfl, G4, s4, em4⟩ ?_ ?_ ?_⟩
          · rintro i σ' H5 _ ⟨u5, u6, u8, rfl, _, _, em5⟩
            exact SqL.of em5
          · rintro kk x σ' H5 hx ⟨u5, u6, u8, rfl, G5, s5, em5⟩
            obtain ⟨hkk, rfl⟩ := at1 hx
            have tab := MB.tab_pass pot kk (by omega)
            have dk := tab.dia kk hkk
            show ∃ a, _
            have enx : MB.passN (MB.tabB (rows.map ofRow) (MB.T0 la)) (kk + 1) = MA.pass kk (MB.passN (MB.tabB (rows.map ofRow) (MB.T0 la)) kk) := rfl
            rw [enx]
            generalize MB.passN (MB.tabB (rows.map ofRow) (MB.T0 la)) kk = TT at *
            refine ⟨_, rfl, mo, rfl, ⟨_, SqL.of em5⟩, for_list (K := K) (a := mo) (xs := lsI N fun i => (i : Int)) (fun i σ' H' => ∃ u5 u6, σ' = [some (.ref p), some (.ref ba), some (.ref mo), some (.ref l), v, u5, u6, v7, some (.int (kk : Int))] ∧ GridAt H' l rs N (MA.mix kk i 0 TT) ∧ Same H H' ∧ H' mo = some (.lst (lsI N fun i => (i : Int))))
              ⟨u5, u6, rfl, G5.congr (fun x y _ _ => by rw [MA.mix_zero]), s5, em5⟩ ?_ ?_ ?_⟩
            · rintro i σ' H6 _ ⟨u5, u6, rfl, _, _, em6⟩
              exact SqL.of em6
            · rintro aa x σ' H6 hx ⟨u5, u6, rfl, G6, s6, em6⟩
              obtain ⟨haa, rfl⟩ := at1 hx
              refine ⟨_, rfl, mo, rfl, ⟨_, SqL.of em6⟩, for_list (K := K) (a := mo) (xs := lsI N fun i => (i : Int)) (fun i σ' H' => ∃ u6, σ' = [some (.ref p), some (.ref ba), some (.ref mo), some (.ref l), v, some (.int (aa : Int)), u6, v7, some (.int (kk : Int))] ∧ GridAt H' l rs N (MA.mix kk aa i TT) ∧ Same H H' ∧ H' mo = some (.lst (lsI N fun i => (i : Int))))
                ⟨u6, rfl, G6, s6, em6⟩ ?_ ?_ ?_⟩
              · rintro i σ' H7 _ ⟨u6, rfl, _, _, em7⟩
                exact SqL.of em7
              · rintro bb x σ' H7 hx ⟨u6, rfl, G7, s7, em7⟩
                obtain ⟨hbb, rfl⟩ := at1 hx
                obtain ⟨r, hr'⟩ := G7.has haa
                obtain ⟨r2, hr2⟩ := G7.has hkk
                refine ⟨_, rfl, rdLv rfl G7.top (G7.at_ hr') (rdLv rfl (G7.row _ _ hr') (lsI_at hbb) ?_)⟩
                refine ⟨_, rfl, rdLv rfl G7.top (G7.at_ hr') (rdLv rfl (G7.row _ _ hr') (lsI_at hkk) ?_)⟩
                refine ⟨_, rfl, rdLv rfl G7.top (G7.at_ hr2) (rdLv rfl (G7.row _ _ hr2) (lsI_at hbb) ⟨_, _, rfl, rfl, _, _, rfl, ?_⟩)⟩
                refine ⟨_, rfl, rdLv rfl G7.top (G7.at_ hr') ⟨_, rfl, r, _, _, _, rfl, rfl, G7.row _ _ hr', lsI_ix hbb, ?_⟩⟩
                rw [min_if, MA.mix_here, MA.mix_row dk, MA.mix_col dk]
                obtain ⟨s8, em8⟩ := keepR (o := .lst ((lsI N (MA.mix kk aa bb TT aa)).set bb (.int (min (TT aa bb) (TT aa kk + TT kk bb))))) hr' s7 em7
                exact ⟨_, rfl, (G7.set hr').congr (fun x y _ _ => MA.mix_step x y), s8, em8⟩
              · rintro σ' H7 ⟨u6, rfl, G7, s7, em7⟩
                rw [lsI_len] at G7
                exact ⟨_, _, rfl, G7.congr (fun x y hx hy => MA.mix_next hy), s7, em7⟩
            · rintro σ' H6 ⟨u5, u6, rfl, G6, s6, em6⟩
              rw [lsI_len] at G6
              exact ⟨_, _, _, rfl, G6.congr (fun x y hx hy => MA.mix_all hx), s6, em6⟩
          · rintro σ' H5 ⟨u5, u6, u8, rfl, G5, s5, em5⟩
            rw [lsI_len] at G5
            exact ⟨_, rfl, k l rs H5 hl0 (fun r hr => by obtain ⟨i, e⟩ := List.mem_iff_getElem?.mp hr; exact rnew e) s5 G5⟩
end
end W


set_option Elab.async false
set_option linter.all false
set_option maxRecDepth 100000
set_option maxHeartbeats 4000000
namespace W
open PySem L2
noncomputable def spTight (C CN : Addr) : Sp := fun vs H Q E => ∃ (p : Addr) (N : Nat) (la : Int) (T F : List (List Int)), vs = [.ref p] ∧ WebAt C H p (N : Int) la T F ∧ WebOk (N : Int) la T F ∧
  (∀ k l rs H', k < N → (MB.rounds ((allB (N : Int) la T F).map ofRow) (k + 1)).q = none → H l = none → (∀ r ∈ rs, H r = none) → Same H H' → GridAt H' l rs N (MB.tightF N la ((allB (N : Int) la T F).map ofRow)) → Q (.ref l) H') ∧
  ((∀ k, k < N → (MB.rounds ((allB (N : Int) la T F).map ofRow) (k + 1)).q ≠ none) → ∀ x d l ring H', (MB.rounds ((allB (N : Int) la T F).map ofRow) N).q = some x → MB.RingOf (MB.rounds ((allB (N : Int) la T F).map ofRow) N).p N x ring → H d = none → H l = none → Same H H' →
    H' d = some (excD d [("ring", .ref l)]) → H' l = some (.lst (natsV ring)) → E (.ref CN) (some d) H')
section
variable {P : Program} {w : World} {K : PySem.W.Frag} {mg : Str → Option Value} {base : Heap}
theorem scTi : FnScope ["web", "bounds"] ["web"] (defScope sP_tight) := ⟨rfl, rfl, rfl, by decide +kernel, rfl, by decide +kernel, by decide +kernel⟩
theorem ok_tight {f C CN fB fE fT : Addr} {fd fdB fdE fdT : FuncData} (F : Fn K mg "tight" sP_tight ["web"] f fd) (TC : TxtC K mg C)
    (FB : Fn K mg "told_bounds" sP_told_bounds ["web"] fB fdB) (GB : FnOk P w K mg base CX0 3 fB fdB ["web"] (spTold C))
    (FE : Fn K mg "earliest_times" sP_earliest_times ["many", "bounds"] fE fdE) (GE : FnOk P w K mg base (CX1 P w) 3 fE fdE ["many", "bounds"] (spEarly CN))
    (FT : Fn K mg "tight_table" sP_tight_table ["web", "bounds"] fT fdT) (GT : FnOk P w K mg base CX0 1 fT fdT ["web", "bounds"] (spTable C)) :
    FnOk P w K mg base (CX1 P w) 4 f fd ["web"] (spTight C CN) := by
  refine F.F.ok1 scTi (fun vs H Q E h => ?_) (fun cdv A outer s H vs Q E hr h => ?_)
  · obtain ⟨p, _, _, _, _, rfl, _⟩ := h
    rfl
  · obtain ⟨p, N, la, rT, rF, rfl, W0, hok, kq, ke⟩ := h
    have hr1 : Room 1 _ := hr.mono (by decide)
    have n1 := hok.n1
    have n2 := hok.n2
    refine ⟨_, pss_cons (ps_set (i := 1) scTi.nd rfl (Or.inl rfl) (pe_call GB hr rfl FB.g FB.F.kp FB.b .nil pass0 (pa_cons (pv 0) pa_nil)))
      (pss_cons (ps_expr (pe_call GE hr rfl FE.g FE.F.kp FE.b .nil (pass1 (E := E) fun _ _ _ z => z) (pa_cons (pe_fld (pv 0) rfl) (pa_cons (pv 1) pa_nil))))
      (pss_one (ps_ret (pe_call GT hr1 rfl FT.g FT.F.kp FT.b .nil pass0 (pa_cons (pv 0) (pa_cons (pv 1) pa_nil)))))), ?_⟩
    refine ⟨_, rfl, p, _, la, rT, rF, rfl, W0, hok, fun bl H1 hbl s1 R1 => ?_⟩
    obtain ⟨dx, ta, fa, hp, _, _⟩ := id (W0.same s1)
    refine ⟨_, rfl, p, C, dx, _, _, rfl, hp, TC.cl, TC.nM, w_many _ _ _ _, _, rfl, N, bl, _, rfl, by omega, by omega, R1, hok.idx, fun k tl H2 hk hq htl s2 e2 => ?_, fun hno x d l ring H2 hx hring hd hl s2 ed el => ?_⟩
    · refine ⟨_, rfl, _, rfl, p, bl, N, la, rT, rF, _, _, rfl, (W0.same s1).same s2, by omega, by omega, R1.same s2, hok.idx, pot_of hok.l1 hq, fun l rs H3 hl hrs s3 G => ?_⟩
      exact kq k l rs H3 hk hq (s1.free (s2.free hl)) (fun r hr => s1.free (s2.free (hrs r hr))) ((s1.trans s2).trans s3) G
    · exact ke hno x d l ring H2 hx hring (s1.free hd) (s1.free hl) (s1.trans s2) ed el
end
end W

set_option Elab.async false
set_option linter.all false
set_option maxRecDepth 100000
set_option maxHeartbeats 4000000
namespace L2
open PySem
theorem RowsP.two {H1 : Hp} {l p1 p2 q : Addr} {ps : List Addr} {rows : List (List Int)} (r1 r2 : List Int) (R : RowsP H1 l ps rows) (hp1 : H1 p1 = none) (hp2 : upd H1 p1 (.tup (r1.map V.int)) p2 = none) (hq : upd (upd H1 p1 (.tup (r1.map V.int))) p2 (.tup (r2.map V.int)) q = none) :
    upd (upd (upd H1 p1 (.tup (r1.map V.int))) p2 (.tup (r2.map V.int))) q (.lst [V.ref p1, V.ref p2]) l = some (.lst (ps.map V.ref)) ∧ Same H1 (upd (upd (upd H1 p1 (.tup (r1.map V.int))) p2 (.tup (r2.map V.int))) q (.lst [V.ref p1, V.ref p2])) ∧
    ∀ p, upd (upd (upd H1 p1 (.tup (r1.map V.int))) p2 (.tup (r2.map V.int))) q (.lst [V.ref p1, V.ref p2]) p = none → RowsP (upd (upd (upd (upd H1 p1 (.tup (r1.map V.int))) p2 (.tup (r2.map V.int))) q (.lst [V.ref p1, V.ref p2])) p (.lst (ps.map V.ref ++ [V.ref p1, V.ref p2]))) p (ps ++ [p1, p2]) (rows ++ [r1, r2]) := by
  have sA := same_new (o := .tup (r1.map V.int)) hp1
  have sB := same_new (o := .tup (r2.map V.int)) hp2
  have sC := same_new (o := .lst [V.ref p1, V.ref p2]) hq
  have e1 := sC _ _ (sB _ _ (upd_same (H := H1) (a := p1) (o := .tup (r1.map V.int))))
  have e2 := sC _ _ (upd_same (H := upd H1 p1 (.tup (r1.map V.int))) (a := p2) (o := .tup (r2.map V.int)))
  have R' := ((R.same sA).same sB).same sC
  have R2 : RowsP (upd (upd (upd H1 p1 (.tup (r1.map V.int))) p2 (.tup (r2.map V.int))) q (.lst [V.ref p1, V.ref p2])) q [p1, p2] [r1, r2] := ⟨upd_same, .cons e1 (.cons e2 .nil)⟩
  exact ⟨R'.1, (sA.trans sB).trans sC, fun p hp => R'.cat R2 hp⟩
end L2
namespace W
open PySem L2
structure TxtL (K : PySem.W.Frag) (mg : Str → Option Value) : Prop where
  range : mg "range" = none
  isi : mg "isinstance" = none
  int : mg "int" = none
  bool : mg "bool" = none
  ib : PySem.W.kitOne K (.type "int") (.type "bool") = some false
theorem kit_ii {K : PySem.W.Frag} : PySem.W.kitOne K (.type "int") (.type "int") = some true := by
  unfold PySem.W.kitOne
  rw [if_pos (by decide +kernel)]
structure DrawnAt (H : Hp) (wp ta fa : Addr) (n la : Int) (T F : List (List Int)) : Prop where
  tup : H wp = some (.tup [.int n, .int la, .ref ta, .ref fa])
  t : RowsAt H ta T
  f : RowsAt H fa F
theorem DrawnAt.same {H H' : Hp} {wp ta fa : Addr} {n la : Int} {T F : List (List Int)} (h : DrawnAt H wp ta fa n la T F) (k : Same H H') : DrawnAt H' wp ta fa n la T F := ⟨k _ _ h.tup, h.t.same k, h.f.same k⟩
noncomputable def spLBounds : Sp := fun vs H Q _ => ∃ wp ta fa n la T F, vs = [.ref wp] ∧ DrawnAt H wp ta fa n la T F ∧ WebOk n la T F ∧ ∀ l H', H l = none → Same H H' → RowsAt H' l (allB n la T F) → Q (.ref l) H'
noncomputable def spLKeeps : Sp := fun vs H Q _ => ∃ (wp ta fa tl : Addr) (N : Nat) (la : Int) (T F : List (List Int)) (t : Nat → Int), vs = [.ref wp, .ref tl] ∧ DrawnAt H wp ta fa (N : Int) la T F ∧ WebOk (N : Int) la T F ∧ H tl = some (.lst (lsI N t)) ∧
  ∀ (b : Bool) H', Same H H' → (b = true ↔ (t 0 = 0 ∧ ∀ x ∈ (allB (N : Int) la T F).map ofRow, t x.2.1 - t x.1 ≤ x.2.2)) → Q (.bl b) H'
theorem spanB_append (a b : List (List Int)) : spanB (a ++ b) = spanB a ++ spanB b := by unfold spanB; rw [List.map_append, List.flatten_append]
section
variable {P : Program} {w : World} {K : PySem.W.Frag} {mg : Str → Option Value} {base : Heap}
noncomputable abbrev nLb : List Str := ["_law_w", "_law_bounds_here", "_law_moment", "_law_one", "_law_other", "_law_least", "_law_most"]
theorem scLb : FnScope nLb ["_law_w"] (defScope sL_bounds) := ⟨rfl, rfl, rfl, by decide +kernel, rfl, by decide +kernel, by decide +kernel⟩
theorem ok_lbounds {f : Addr} {fd : FuncData} (F : Fn K mg "_law_bounds" sL_bounds ["_law_w"] f fd) (T : TxtL K mg) : FnOkH P w K mg base CX0 1 f fd ["_law_w"] spLBounds := by
  refine F.F.okH scLb (fun vs H Q E h => ?_) (fun cdv A outer s H vs Q E hr hh h => ?_)
  · obtain ⟨wp, _, _, _, _, _, _, rfl, _⟩ := h
    rfl
  · obtain ⟨wp, ta, fa, n, la, rT, rF, rfl, D0, hok, k⟩ := h
    refine ⟨_, pss_cons (ps_set (i := 1) scLb.nd rfl (Or.inl rfl) (pe_lst pa_nil))
      (pss_cons (ps_forH PassesOwn.never (.inr hh) (pi_range2 rfl T.range (pa_cons pe_int (pa_cons (pe_ix ix_tup0 (pv 0) pe_int (fun _ _ => rfl)) pa_nil))) (pg_name (i := 2) scLb.nd rfl (Or.inl rfl))
        (pss_one (ps_set (i := 1) scLb.nd rfl (Or.inl rfl) (pe_op op_cat (pv 1) (pe_lst (pa_cons (pe_tup (pa_cons pe_int (pa_cons (pv 2) (pa_cons (pe_ix ix_tup0 (pv 0) pe_int (fun _ _ => rfl)) pa_nil)))) (pa_cons (pe_tup (pa_cons (pv 2) (pa_cons pe_int (pa_cons pe_int pa_nil)))) pa_nil)))))))
      (pss_cons (ps_forH PassesOwn.never (.inr hh) (pi_list (pe_op op_cat (pe_ix ix_tup0 (pv 0) pe_int (fun _ _ => rfl)) (pe_ix ix_tup0 (pv 0) pe_int (fun _ _ => rfl))))
        (pg_tupH (K := K) (n := 4) rfl (.inr hh) (pgs_cons (pg_name (i := 3) scLb.nd rfl (Or.inl rfl)) (pgs_cons (pg_name (i := 4) scLb.nd rfl (Or.inl rfl)) (pgs_cons (pg_name (i := 5) scLb.nd rfl (Or.inl rfl)) (pgs_cons (pg_name (i := 6) scLb.nd rfl (Or.inl rfl)) pgs_nil)))))
        (pss_one (ps_set (i := 1) scLb.nd rfl (Or.inl rfl) (pe_op op_cat (pv 1) (pe_lst (pa_cons (pe_tup (pa_cons (pv 3) (pa_cons (pv 4) (pa_cons (pv 6) pa_nil)))) (pa_cons (pe_tup (pa_cons (pv 4) (pa_cons (pv 3) (pa_cons (pe_op op_sub pe_int (pv 5)) pa_nil)))) pa_nil)))))))
      (pss_one (ps_ret (pv 1))))), ?_⟩
    have n1 := hok.n1
    have n2 := hok.n2
    refine ⟨Nat.zero_le _, fun l0 hl0 => ?_⟩
    have s0 := same_new (o := .lst []) hl0
    refine ⟨_, rfl, rdT (s0 _ _ D0.tup) rfl ⟨1, n, rfl, ⟨by decide, by decide, by omega, by omega⟩, ?_⟩⟩
    refine for_range (n := (n - 1).toNat) (fun i σ' H' => ∃ v l ps, σ' = [some (.ref wp), some (.ref l), v, none, none, none, none] ∧ RowsP H' l ps (roomB la i) ∧ Same H H' ∧ H l = none) ⟨none, l0, [], rfl, ⟨upd_same, .nil⟩, s0, hl0⟩ ?_ ?_
    · rintro i σ' H1 hi ⟨v, l, ps, rfl, R1, s1, hl⟩
      have e : roomB la (i + 1) = roomB la i ++ [[0, 1 + (i : Int), la], [1 + (i : Int), 0, 0]] := by
        rw [Int.add_comm 1 (i : Int)]
        rfl
      rw [e]
      refine ⟨_, rfl, _, rfl, _, rfl, rdT (s1 _ _ D0.tup) rfl ⟨by show 3 ≤ sizeLine; decide, fun p1 hp1 => ?_⟩⟩
      refine ⟨_, rfl, by show 3 ≤ sizeLine; decide, fun p2 hp2 => ?_⟩
      refine ⟨by show 2 ≤ sizeLine; decide, fun q hq => ?_⟩
      obtain ⟨f1, f2, f3⟩ := R1.two [0, 1 + (i : Int), la] [1 + (i : Int), 0, 0] hp1 hp2 hq
      refine ⟨l, q, _, _, rfl, rfl, f1, upd_same, ?_, fun p hp => ?_⟩
      · rw [List.length_map, R1.len, roomB_len]
        exact Nat.le_of_lt (small1000 (by show 2 * i + 2 ≤ 1000; omega))
      · have s2 := s1.trans f2
        exact ⟨_, p, _, rfl, f3 p hp, s2.trans (same_new hp), s2.free hp⟩
    · rintro σ' H1 ⟨v, l, ps, rfl, R1, s1, hl⟩
      -- w[2] + w[3]
      have D1 := D0.same s1
      obtain ⟨pt, Rt⟩ := D1.t
      obtain ⟨pf, Rf⟩ := D1.f
      have tl := hok.tl
      have fl := hok.fl
      refine ⟨_, rfl, rdT D1.tup rfl ⟨_, rfl, rdT D1.tup rfl ⟨ta, fa, _, _, rfl, rfl, Rt.1, Rf.1, ?_, fun sl hsl => ⟨sl, rfl, ⟨_, SqL.of upd_same⟩, ?_⟩⟩⟩⟩
      · rw [List.length_map, List.length_map, Rt.len, Rf.len]
        exact Nat.le_of_lt (small1000 (by omega))
      have RS := Rt.cat Rf hsl
      have s2 := same_new (o := .lst (pt.map V.ref ++ pf.map V.ref)) hsl
      have R2 := R1.same s2
      have s12 := s1.trans s2
      generalize upd H1 sl (.lst (pt.map V.ref ++ pf.map V.ref)) = H2 at *
      have four : Four (rT ++ rF) := fun r hr => (List.mem_append.mp hr).elim (hok.fourT r) (hok.fourF r)
      refine for_list (K := K) (a := sl) (xs := (pt ++ pf).map V.ref) (fun i σ' H' => ∃ v3 v4 v5 v6 l ps, σ' = [some (.ref wp), some (.ref l), v, v3, v4, v5, v6] ∧ RowsP H' l ps (roomB la (n - 1).toNat ++ spanB ((rT ++ rF).take i)) ∧ Same H2 H' ∧ H l = none)
        ⟨none, none, none, none, l, ps, rfl, by rw [List.take_zero]; show RowsP _ _ _ (_ ++ []); rw [List.append_nil]; exact R2, Same.refl _, hl⟩ ?_ ?_ ?_
      · rintro i σ' H3 _ ⟨v3, v4, v5, v6, l, ps, rfl, _, s3, _⟩
        exact SqL.of (s3 _ _ RS.1)
      · rintro i x σ' H3 hx ⟨v3, v4, v5, v6, l, ps, rfl, R3, s3, hl3⟩
        obtain ⟨q, r, rfl, hq, hr', hqt⟩ := RS.get hx
        obtain ⟨a', b', le, mo, e4⟩ := four r (List.mem_of_getElem? hr')
        subst e4
        have hi : i < (rT ++ rF).length := (List.getElem?_eq_some_iff.mp hr').1
        have h4' : Four ((rT ++ rF).take i) := fun r hr => four r (List.mem_of_mem_take hr)
        have e : roomB la (n - 1).toNat ++ spanB ((rT ++ rF).take (i + 1)) = roomB la (n - 1).toNat ++ spanB ((rT ++ rF).take i) ++ [[a', b', mo], [b', a', 0 - le]] := by
          rw [List.take_succ, hr', spanB_append, List.append_assoc, Int.zero_sub]
          rfl
        rw [e]
        refine ⟨q, _, rfl, SqT.of (s3 _ _ hqt), rfl, _, _, rfl, _, _, rfl, _, _, rfl, _, _, rfl, rfl, ?_⟩
        refine ⟨_, rfl, _, rfl, _, rfl, _, rfl, by show 3 ≤ sizeLine; decide, fun p1 hp1 => ?_⟩
        refine ⟨_, rfl, _, rfl, _, rfl, _, _, rfl, rfl, by show 3 ≤ sizeLine; decide, fun p2 hp2 => ?_⟩
        refine ⟨by show 2 ≤ sizeLine; decide, fun q' hq' => ?_⟩
        obtain ⟨f1, f2, f3⟩ := R3.two [a', b', mo] [b', a', 0 - le] hp1 hp2 hq'
        refine ⟨l, q', _, _, rfl, rfl, f1, upd_same, ?_, fun p hp => ?_⟩
        · rw [List.length_map, R3.len, List.length_append, roomB_len, spanB_len h4', List.length_take]
          refine Nat.le_of_lt (small1000 ?_)
          rw [List.length_append] at *
          show 2 * (n - 1).toNat + 2 * min i (rT.length + rF.length) + 2 ≤ 1000
          omega
        · have s4 := s3.trans f2
          exact ⟨_, _, _, _, p, _, rfl, f3 p hp, s4.trans (same_new hp), s12.free (s4.free hp)⟩
      · rintro σ' H3 ⟨v3, v4, v5, v6, l, ps, rfl, R3, s3, hl3⟩
        have hle : (rT ++ rF).take ((pt ++ pf).map V.ref).length = rT ++ rF := by
          rw [List.length_map, RS.len]
          exact List.take_length
        rw [hle, spanB_append, ← List.append_assoc] at R3
        exact ⟨_, rfl, k l _ hl3 (s12.trans s3) ⟨ps, R3⟩⟩
end
end W

set_option Elab.async false
set_option linter.all false
set_option maxRecDepth 100000
set_option maxHeartbeats 4000000
namespace W
open PySem L2
noncomputable def LikeD : Nat → Hp → V → V → Prop
  | 0, _, x, y => (∃ i, x = .int i ∧ y = .int i) ∨ (x = .non ∧ y = .non)
  | d + 1, H, x, y => (∃ i, x = .int i ∧ y = .int i) ∨ (x = .non ∧ y = .non) ∨ ∃ p q xs ys, x = .ref p ∧ y = .ref q ∧ ((H p = some (.lst xs) ∧ H q = some (.lst ys)) ∨ (H p = some (.tup xs) ∧ H q = some (.tup ys))) ∧ xs.length = ys.length ∧ xs.length ≤ 1000 ∧
      ∀ (i : Nat) a b, xs[i]? = some a → ys[i]? = some b → LikeD d H a b
noncomputable def spLike (d : Nat) : Sp := fun vs H Q _ => ∃ x y, vs = [x, y] ∧ LikeD d H x y ∧ Q (.bl true) H
structure TxtK (K : PySem.W.Frag) (mg : Str → Option Value) : Prop where
  range : mg "range" = none
  isi : mg "isinstance" = none
  int : mg "int" = none
  bool : mg "bool" = none
  str : mg "str" = none
  tuple : mg "tuple" = none
  list : mg "list" = none
  len : mg "len" = none
  is_ : PySem.W.kitOne K (.type "int") (.type "str") = some false
  ib : PySem.W.kitOne K (.type "int") (.type "bool") = some false
  ns : PySem.W.kitOne K (.type "NoneType") (.type "str") = some false
  ni : PySem.W.kitOne K (.type "NoneType") (.type "int") = some false
  ls : PySem.W.kitOne K (.type "list") (.type "str") = some false
  li : PySem.W.kitOne K (.type "list") (.type "int") = some false
  lt : PySem.W.kitOne K (.type "list") (.type "tuple") = some false
  ts : PySem.W.kitOne K (.type "tuple") (.type "str") = some false
  ti : PySem.W.kitOne K (.type "tuple") (.type "int") = some false
  tl : PySem.W.kitOne K (.type "tuple") (.type "list") = some false
theorem kit_ll {K : PySem.W.Frag} : PySem.W.kitOne K (.type "list") (.type "list") = some true := by
  unfold PySem.W.kitOne
  rw [if_pos (by decide +kernel)]
theorem kit_tt {K : PySem.W.Frag} : PySem.W.kitOne K (.type "tuple") (.type "tuple") = some true := by
  unfold PySem.W.kitOne
  rw [if_pos (by decide +kernel)]
section
variable {P : Program} {w : World} {K : PySem.W.Frag} {mg : Str → Option Value} {base : Heap}
noncomputable abbrev nLk : List Str := ["_law_found", "_law_due", "_law_k"]
theorem scLke : FnScope nLk ["_law_found", "_law_due"] (defScope sL_like) := ⟨rfl, rfl, rfl, by decide +kernel, rfl, by decide +kernel, by decide +kernel⟩
theorem like_core {k0 : Nat} {f : Addr} {fd : FuncData} (F : Fn K mg "_law_like" sL_like ["_law_found", "_law_due"] f fd) (T : TxtK K mg) {sp : Sp} (GL : FnOk P w K mg base CX0 k0 f fd ["_law_found", "_law_due"] sp) (L : Hp → V → V → Prop)
    (hL0 : ∀ H x y, L H x y → (∃ i, x = .int i ∧ y = .int i) ∨ (x = .non ∧ y = .non) ∨ ∃ p q xs ys, x = .ref p ∧ y = .ref q ∧ ((H p = some (.lst xs) ∧ H q = some (.lst ys)) ∨ (H p = some (.tup xs) ∧ H q = some (.tup ys))) ∧ xs.length = ys.length ∧ xs.length ≤ 1000 ∧
      ∀ (i : Nat) a b, xs[i]? = some a → ys[i]? = some b → ∀ Q : VK, Q (.bl true) H → sp [a, b] H Q E0) : FnOk P w K mg base CX0 (k0 + 1) f fd ["_law_found", "_law_due"] (fun vs H Q _ => ∃ x y, vs = [x, y] ∧ L H x y ∧ Q (.bl true) H) := by
  refine F.F.ok scLke (fun vs H Q E h => ?_) (fun cdv A outer s H vs Q E hr h => ?_)
  · obtain ⟨x, y, rfl, _⟩ := h
    rfl
  · obtain ⟨x, y, rfl, hL, k⟩ := h
    refine ⟨_, pss_cons (ps_if (pt_val (pe_callB call_isinst (by rfl) T.isi (by decide +kernel) (pa_cons (pv 1) (pa_cons (pe_bltn (v := .ty "str") rfl T.str (by decide +kernel) rfl) pa_nil)))) pss_never pss_nil)
      (pss_cons (ps_if (pt_val (pe_callB call_isinst (by rfl) T.isi (by decide +kernel) (pa_cons (pv 1) (pa_cons (pe_bltn (v := .ty "int") rfl T.int (by decide +kernel) rfl) pa_nil))))
        (pss_one (ps_ret (pe_and (pe_callB call_isinst (by rfl) T.isi (by decide +kernel) (pa_cons (pv 0) (pa_cons (pe_bltn (v := .ty "int") rfl T.int (by decide +kernel) rfl) pa_nil)))
          (pe_and (pe_not (pe_callB call_isinst (by rfl) T.isi (by decide +kernel) (pa_cons (pv 0) (pa_cons (pe_bltn (v := .ty "bool") rfl T.bool (by decide +kernel) rfl) pa_nil)))) (pe_one (pe_cmpR op_eq (pv 0) (pv 1) (nomark _))))))) pss_nil)
      (pss_cons (ps_if (pt_cmpR op_isN (pv 1) pe_non (nomark _)) (pss_one (ps_ret (pe_cmpR op_isN (pv 0) pe_non (nomark _)))) pss_nil)
      (pss_cons (ps_if (PW.pt (pw_or (pt_cmpR op_ne (pe_callB call_isinst (by rfl) T.isi (by decide +kernel) (pa_cons (pv 1) (pa_cons (pe_bltn (v := .ty "tuple") rfl T.tuple (by decide +kernel) rfl) pa_nil))) (pe_callB call_isinst (by rfl) T.isi (by decide +kernel) (pa_cons (pv 0) (pa_cons (pe_bltn (v := .ty "tuple") rfl T.tuple (by decide +kernel) rfl) pa_nil))) (nomark _))
        (pw_or1 (pt_cmpR op_ne (pe_callB call_isinst (by rfl) T.isi (by decide +kernel) (pa_cons (pv 1) (pa_cons (pe_bltn (v := .ty "list") rfl T.list (by decide +kernel) rfl) pa_nil))) (pe_callB call_isinst (by rfl) T.isi (by decide +kernel) (pa_cons (pv 0) (pa_cons (pe_bltn (v := .ty "list") rfl T.list (by decide +kernel) rfl) pa_nil))) (nomark _))))) pss_never pss_nil)
      (pss_cons (ps_if (pt_cmpR op_ne (pe_callB call_len_seq (by rfl) T.len PySem.boot_len (pa_cons (pv 0) pa_nil)) (pe_callB call_len_seq (by rfl) T.len PySem.boot_len (pa_cons (pv 1) pa_nil)) (nomark _)) pss_never pss_nil)
      (pss_cons (ps_for PassesOwn.never rfl (pi_range1 rfl T.range (pa_cons (pe_callB call_len_seq (by rfl) T.len PySem.boot_len (pa_cons (pv 1) pa_nil)) pa_nil)) (pg_name (i := 2) scLke.nd rfl (Or.inl rfl))
        (pss_one (ps_if (pt_not (pt_val (pe_call GL hr rfl F.g F.F.kp F.b .nil pass0 (pa_cons (pe_ix ix_seq (pv 0) (pv 2) (fun _ _ => rfl)) (pa_cons (pe_ix ix_seq (pv 1) (pv 2) (fun _ _ => rfl)) pa_nil))))) pss_never pss_nil)))
      (pss_one (ps_ret pe_bl))))))), ?_⟩
    rcases hL0 H x y hL with ⟨i, rfl, rfl⟩ | ⟨rfl, rfl⟩ | ⟨p, q, xs, ys, rfl, rfl, hpq, hlen, hsm, hall⟩
    · refine ⟨_, rfl, _, _, _, false, rfl, .int i, T.is_, _, rfl, iteF ?_⟩
      refine ⟨_, rfl, _, _, _, true, rfl, .int i, kit_ii, _, rfl, iteT ?_⟩
      refine ⟨_, rfl, _, _, _, true, rfl, .int i, kit_ii, _, rfl, iteT ?_⟩
      refine ⟨_, rfl, _, _, _, false, rfl, .int i, T.ib, _, rfl, _, rfl, iteT ?_⟩
      exact ⟨_, rfl, _, rfl, rfl, bl_of k (by simp)⟩
    · refine ⟨_, rfl, _, _, _, false, rfl, .non, T.ns, _, rfl, iteF ?_⟩
      refine ⟨_, rfl, _, _, _, false, rfl, .non, T.ni, _, rfl, iteF ?_⟩
      refine ⟨_, rfl, rfl, _, rfl, iteD rfl ?_⟩
      exact ⟨_, rfl, rfl, bl_of k (by simp)⟩
    · have sq : (SqL K H p xs ∨ SqT K H p xs) ∧ (SqL K H q ys ∨ SqT K H q ys) := by
        rcases hpq with ⟨a, b⟩ | ⟨a, b⟩
        · exact ⟨.inl (SqL.of a), .inl (SqL.of b)⟩
        · exact ⟨.inr (SqT.of a), .inr (SqT.of b)⟩
      obtain ⟨t, tp, tq, e1, e2, b1, b2, e3, e4⟩ : ∃ t, TyOf K H (.ref p) t ∧ TyOf K H (.ref q) t ∧ PySem.W.kitOne K t (.type "str") = some false ∧ PySem.W.kitOne K t (.type "int") = some false ∧ ∃ b1 b2, PySem.W.kitOne K t (.type "tuple") = some b1 ∧ PySem.W.kitOne K t (.type "list") = some b2 := by
        rcases hpq with ⟨a, b⟩ | ⟨a, b⟩
        · exact ⟨_, .lst a, .lst b, T.ls, T.li, _, _, T.lt, kit_ll⟩
        · exact ⟨_, .tup a, .tup b, T.ts, T.ti, _, _, kit_tt, T.tl⟩
      refine ⟨_, rfl, _, _, _, _, rfl, tq, e1, _, rfl, iteF ?_⟩
      refine ⟨_, rfl, _, _, _, _, rfl, tq, e2, _, rfl, iteF ?_⟩
      refine ⟨_, rfl, rfl, _, rfl, iteDN (fun z => nomatch z) ?_⟩
      refine ⟨_, rfl, _, _, _, _, rfl, tq, e3, _, rfl, _, _, _, _, rfl, tp, e3, by cases b1 <;> rfl, _, rfl, iteB (by simp) ?_⟩
      refine ⟨_, rfl, _, _, _, _, rfl, tq, e4, _, rfl, _, _, _, _, rfl, tp, e4, by cases b2 <;> rfl, _, rfl, iteB (by simp) ?_⟩
      refine ⟨_, rfl, p, xs, rfl, sq.1, _, rfl, q, ys, rfl, sq.2, rfl, _, rfl, iteB (by simp [hlen]) ?_⟩
      refine ⟨_, rfl, q, ys, rfl, sq.2, (ys.length : Int), rfl, by omega, by omega, ?_⟩
      refine for_range (n := ((ys.length : Nat) : Int).toNat) (fun i σ' H' => ∃ v, σ' = [some (.ref p), some (.ref q), v] ∧ H' = H) ⟨none, rfl, rfl⟩ ?_ ?_
      · rintro i σ' H' hi ⟨v, rfl, rfl⟩
        rw [Int.toNat_natCast] at hi
        have ei : (0 : Int) + (i : Int) = (i : Int) := by omega
        rw [ei]
        have ha : xs[i]? = some xs[i] := List.getElem?_eq_getElem (by omega)
        have hb : ys[i]? = some ys[i] := List.getElem?_eq_getElem hi
        refine ⟨_, rfl, _, rfl, ?_⟩
        have r1 : ∀ {Q' : VK}, Q' xs[i] H' → rIx K (.ref p) (.int (i : Int)) H' Q' := fun {Q'} kk => by
          rcases sq.1 with z | z
          · exact .inl ⟨p, xs, _, _, rfl, rfl, z, atI_nat ha, kk⟩
          · exact .inr (.inl ⟨p, xs, _, _, rfl, rfl, z, atI_nat ha, kk⟩)
        have r2 : ∀ {Q' : VK}, Q' ys[i] H' → rIx K (.ref q) (.int (i : Int)) H' Q' := fun {Q'} kk => by
          rcases sq.2 with z | z
          · exact .inl ⟨q, ys, _, _, rfl, rfl, z, atI_nat hb, kk⟩
          · exact .inr (.inl ⟨q, ys, _, _, rfl, rfl, z, atI_nat hb, kk⟩)
        refine r1 ?_
        refine ⟨_, rfl, _, rfl, r2 ?_⟩
        refine hall i _ _ ha hb _ ?_
        exact ⟨_, rfl, iteB rfl ⟨_, rfl, rfl⟩⟩
      · rintro σ' H' ⟨v, rfl, rfl⟩
        exact k
theorem ok_like {f : Addr} {fd : FuncData} (F : Fn K mg "_law_like" sL_like ["_law_found", "_law_due"] f fd) (T : TxtK K mg) : ∀ d, FnOk P w K mg base CX0 (d + 1) f fd ["_law_found", "_law_due"] (spLike d)
  | 0 => like_core (sp := fun _ _ _ _ => False) F T ⟨fun _ _ _ _ z => z.elim, fun _ _ _ _ _ _ _ _ _ _ _ _ _ z => z.elim⟩ (LikeD 0) (fun H x y h => h.elim .inl fun z => .inr (.inl z))
  | d + 1 => like_core F T (ok_like F T d) (LikeD (d + 1)) (fun H x y h => by
      rcases h with h | h | ⟨p, q, xs, ys, h1, h2, h3, h4, h5, h6⟩
      · exact .inl h
      · exact .inr (.inl h)
      · exact .inr (.inr ⟨p, q, xs, ys, h1, h2, h3, h4, h5, fun i a b ha hb Q k => ⟨a, b, rfl, h6 i a b ha hb, k⟩⟩))
end
end W

set_option Elab.async false
set_option linter.all false
set_option maxRecDepth 100000
set_option maxHeartbeats 4000000
namespace L2
open PySem
structure RowsIn (H : Hp) (l : Addr) (rs : List Addr) (N i : Nat) (T : Nat → Nat → Int) : Prop where
  top : H l = some (.lst (rs.map V.ref))
  len : rs.length = i
  row : ∀ (j : Nat) r, rs[j]? = some r → H r = some (.lst (lsI N (T j)))
  inj : ∀ (j k : Nat) r, rs[j]? = some r → rs[k]? = some r → j = k
  ne : ∀ (j : Nat) r, rs[j]? = some r → r ≠ l
theorem snoc_get {α : Type} {rs : List α} {r x : α} {j : Nat} (e : (rs ++ [r])[j]? = some x) : (j < rs.length ∧ rs[j]? = some x) ∨ (j = rs.length ∧ x = r) := by
  by_cases h : j < rs.length
  · rw [List.getElem?_append_left h] at e
    exact .inl ⟨h, e⟩
  · rw [List.getElem?_append_right (by omega)] at e
    cases q : j - rs.length with
    | zero => rw [q] at e; exact .inr ⟨by omega, (Option.some.inj e).symm⟩
    | succ z => rw [q] at e; cases e
theorem RowsIn.push {H H2 : Hp} {l r : Addr} {rs : List Addr} {N i : Nat} {T : Nat → Nat → Int} (g : RowsIn H l rs N i T) (s : Same H H2) (hr : H r = none) (er : H2 r = some (.lst (lsI N (T i)))) : RowsIn (upd H2 l (.lst (rs.map V.ref ++ [.ref r]))) l (rs ++ [r]) N (i + 1) T := by
  have rl : r ≠ l := Ne.symm (ne_of_none g.top hr)
  have out : ∀ j, rs[j]? = some r → False := fun j e => by
    rw [g.row j r e] at hr
    cases hr
  refine ⟨by rw [upd_same, List.map_append]; rfl, by rw [List.length_append, g.len]; rfl, fun j x e => ?_, fun j k x e e' => ?_, fun j x e => ?_⟩
  · rcases snoc_get e with ⟨_, h⟩ | ⟨h1, h2⟩
    · rw [upd_ne (g.ne j x h)]
      exact s _ _ (g.row j x h)
    · rw [h2, upd_ne rl, h1, g.len]
      exact er
  · rcases snoc_get e with ⟨_, h⟩ | ⟨h1, h2⟩
    · rcases snoc_get e' with ⟨_, h'⟩ | ⟨h1', h2'⟩
      · exact g.inj j k x h h'
      · subst h2'
        exact (out j h).elim
    · subst h2
      rcases snoc_get e' with ⟨_, h'⟩ | ⟨h1', h2'⟩
      · exact (out k h').elim
      · omega
  · rcases snoc_get e with ⟨_, h⟩ | ⟨h1, h2⟩
    · exact g.ne j x h
    · rw [h2]; exact rl
end L2
namespace W
open PySem L2
noncomputable abbrev big : Int := 10 ^ 6
noncomputable def lawT (N : Nat) (rows : List (List Int)) : Nat → Nat → Int := MB.allI N N (MB.tabB (rows.map ofRow) (MB.T0 big))
noncomputable def spLTable : Sp := fun vs H Q _ => ∃ (N : Nat) (ba : Addr) (rows : List (List Int)), vs = [.int (N : Int), .ref ba] ∧ 1 ≤ N ∧ N ≤ 8 ∧ RowsAt H ba rows ∧ Idx N rows ∧
  ((∃ i, i < N ∧ lawT N rows i i < 0) → ∀ H', Same H H' → Q .non H') ∧
  ((∀ i, i < N → 0 ≤ lawT N rows i i) → ∀ l rs H', H l = none → (∀ r ∈ rs, H r = none) → Same H H' → GridAt H' l rs N (lawT N rows) → Q (.ref l) H')
section
variable {P : Program} {w : World} {K : PySem.W.Frag} {mg : Str → Option Value} {base : Heap}
noncomputable abbrev nLt : List Str := ["_law_many", "_law_bounds_here", "_law_table_here", "_law_one", "_law_other", "_law_most", "_law_middle"]
theorem scLt : FnScope nLt ["_law_many", "_law_bounds_here"] (defScope sL_table) := ⟨rfl, rfl, rfl, by decide +kernel, rfl, by decide +kernel, by decide +kernel⟩
theorem coLt : CompOk (defScope sL_table) nLt (fsc [(".0", .local), ("_law_other", .local), ("int", .globalImplicit), ("_law_one", .free)]) ["_law_other", "_law_one"] [none, some 3] := ⟨rfl, by decide +kernel, by decide +kernel, by decide +kernel, rfl, by decide +kernel⟩
theorem ndLt : (["_law_other", "_law_one"] : List Str).Nodup := by decide +kernel
theorem ok_ltable {f : Addr} {fd : FuncData} (F : Fn K mg "_law_table" sL_table ["_law_many", "_law_bounds_here"] f fd) (T : TxtT mg) (int : mg "int" = none) : FnOk P w K mg base CX0 1 f fd ["_law_many", "_law_bounds_here"] spLTable := by
  refine F.F.ok scLt (fun vs H Q E h => ?_) (fun cdv A outer s H vs Q E hr h => ?_)
  · obtain ⟨N, ba, _, rfl, _⟩ := h
    rfl
  · obtain ⟨N, ba, rows, rfl, N1, N8, ⟨bs, R⟩, hix, kN, kT⟩ := h
    refine ⟨_, pss_cons (ps_set (i := 2) scLt.nd rfl (Or.inl rfl) (pe_lst pa_nil))
      (pss_cons (ps_for PassesOwn.never rfl (pi_range1 rfl T.range (pa_cons (pv 0) pa_nil)) (pg_name (i := 3) scLt.nd rfl (Or.inr rfl))
        (pss_one (ps_expr (pe_bm PySem.F.plainAttrs_list PySem.F.slot_list_append PySem.F.type_list_append mt_append (pv 2) (pa_cons (pe_comp rfl (pi_range1 rfl T.range (pa_cons (pv 0) pa_nil)) coLt
          (fun cl ex s0 H0 => ⟨pg_name (i := 0) ndLt rfl (Or.inl rfl), pif_none, pe_ix ix_list0 (pe_lst (pa_cons (pe_op op_pow pe_int pe_int) (pa_cons pe_int pa_nil))) (pe_callTy call_int1 (by rfl) int (by decide +kernel) (pa_cons (pe_cmpR op_eq (pv 1) (pv 0) (nomark _)) pa_nil)) (fun _ _ => rfl)⟩)) pa_nil)))))
      (pss_cons (ps_for PassesOwn.never rfl (pi_list (pv 1)) (pg_tup rfl (pgs_cons (pg_name (i := 3) scLt.nd rfl (Or.inr rfl)) (pgs_cons (pg_name (i := 4) scLt.nd rfl (Or.inl rfl)) (pgs_cons (pg_name (i := 5) scLt.nd rfl (Or.inl rfl)) pgs_nil))))
        (pss_one (ps_asg (pe_callB (call_min2 rfl) (by rfl) T.min (by decide +kernel) (pa_cons (pe_ix ix_list0 (pe_ix ix_list0 (pv 2) (pv 3) (fun _ _ => rfl)) (pv 4) (fun _ _ => rfl)) (pa_cons (pv 5) pa_nil))) (pg_sub (pe_ix ix_list0 (pv 2) (pv 3) (fun _ _ => rfl)) (pv 4) set_list))))
      (pss_cons (ps_for PassesOwn.never rfl (pi_range1 rfl T.range (pa_cons (pv 0) pa_nil)) (pg_name (i := 6) scLt.nd rfl (Or.inl rfl))
        (pss_one (ps_for PassesOwn.never rfl (pi_range1 rfl T.range (pa_cons (pv 0) pa_nil)) (pg_name (i := 3) scLt.nd rfl (Or.inr rfl))
          (pss_one (ps_for PassesOwn.never rfl (pi_range1 rfl T.range (pa_cons (pv 0) pa_nil)) (pg_name (i := 4) scLt.nd rfl (Or.inl rfl))
            (pss_one (ps_asg (pe_callB (call_min2 rfl) (by rfl) T.min (by decide +kernel) (pa_cons (pe_ix ix_list0 (pe_ix ix_list0 (pv 2) (pv 3) (fun _ _ => rfl)) (pv 4) (fun _ _ => rfl))
              (pa_cons (pe_op op_add (pe_ix ix_list0 (pe_ix ix_list0 (pv 2) (pv 3) (fun _ _ => rfl)) (pv 6) (fun _ _ => rfl)) (pe_ix ix_list0 (pe_ix ix_list0 (pv 2) (pv 6) (fun _ _ => rfl)) (pv 4) (fun _ _ => rfl))) pa_nil)))
              (pg_sub (pe_ix ix_list0 (pv 2) (pv 3) (fun _ _ => rfl)) (pv 4) set_list))))))))
      (pss_cons (ps_for PassesOwn.never rfl (pi_range1 rfl T.range (pa_cons (pv 0) pa_nil)) (pg_name (i := 3) scLt.nd rfl (Or.inr rfl))
        (pss_one (ps_if (pt_cmpR op_lt (pe_ix ix_list0 (pe_ix ix_list0 (pv 2) (pv 3) (fun _ _ => rfl)) (pv 3) (fun _ _ => rfl)) pe_int (nomark _)) (pss_one (ps_ret pe_non)) pss_nil)))
      (pss_one (ps_ret (pv 2))))))), ?_⟩
    have rng : ∀ {j : Nat}, j < (((N : Nat) : Int)).toNat → j < N := fun {j} h => by rw [Int.toNat_natCast] at h; exact h
    have z0 : ∀ j : Nat, (0 : Int) + (j : Int) = (j : Int) := fun j => by omega
    -- table = []
    refine ⟨Nat.zero_le _, fun l hl => ?_⟩
    have s0 := same_new (o := .lst []) hl
    -- the first rows
    refine ⟨_, rfl, (N : Int), rfl, by omega, by omega, ?_⟩
    refine for_range (n := (((N : Nat) : Int)).toNat) (fun i σ' H' => ∃ v rs, σ' = [some (.int (N : Int)), some (.ref ba), some (.ref l), v, none, none, none] ∧ RowsIn H' l rs N i (MB.T0 big) ∧ Same H H' ∧ ∀ r ∈ rs, H r = none)
      ⟨none, [], rfl, ⟨upd_same, rfl, (fun j r e => by simp at e), (fun j k r e => by simp at e), (fun j r e => by simp at e)⟩, s0, (fun r hr => nomatch hr)⟩ ?_ ?_
    · rintro i σ' H1 hi ⟨v, rs, rfl, g1, s1, n1⟩
      have hi := rng hi
      rw [z0]
      refine ⟨_, rfl, .inl ⟨rfl, _, SqL.of g1.top⟩, ?_⟩
      refine ⟨_, rfl, (N : Int), rfl, by omega, by omega, fun r hr' => ?_⟩
      refine comp_range (n := (((N : Nat) : Int)).toNat) (fun j σ' H' => ∃ v, σ' = [v, some (.int (i : Int))] ∧ H' r = some (.lst (lsI j (MB.T0 big i))) ∧ Same H1 H') ⟨none, rfl, upd_same, same_new hr'⟩ ?_ ?_
      · rintro j σ' H2 hj ⟨v, rfl, e2, s2⟩
        have hj := rng hj
        rw [z0]
        refine ⟨_, _, rfl, rfl, ⟨by decide, by decide, by decide⟩, by show 2 ≤ sizeLine; decide, fun q hq => ?_⟩
        have s3 := same_new (o := .lst [V.int (10 ^ (6 : Int).toNat), V.int 0]) hq
        refine ⟨_, rfl, _, rfl, rfl, .inr ⟨_, rfl, q, _, _, .int (MB.T0 big i j), rfl, rfl, upd_same, ?_, ?_⟩⟩
        · by_cases e : i = j
          · subst e
            have : MB.T0 big i i = 0 := by unfold MB.T0; rw [if_pos rfl]
            rw [this]
            simp
            rfl
          · have : MB.T0 big i j = big := by unfold MB.T0; rw [if_neg e]
            rw [this]
            have : ¬ ((i : Int) = (j : Int)) := by omega
            simp [this]
            rfl
        · refine ⟨_, s3 _ _ e2, ?_, _, rfl, ?_, fun b o e => ?_⟩
          · rw [lsI_len]; exact small1000 (by omega)
          · rw [upd_same, lsI_succ]
          · rw [upd_ne (ne_of_none e hr')]; exact s3 _ _ (s2 _ _ e)
      · rintro σ' H2 ⟨v, rfl, e2, s2⟩
        rw [Int.toNat_natCast] at e2
        have hr1 : H1 r = none := hr'
        refine ⟨l, _, .ref r, rfl, rfl, s2 _ _ g1.top, ?_, ?_⟩
        · rw [List.length_map, g1.len]; exact small1000 (by omega)
        · refine ⟨_, rs ++ [r], rfl, g1.push s2 hr1 e2, same_upd (s1.trans s2) hl, fun x hx => ?_⟩
          rcases List.mem_append.mp hx with z | z
          · exact n1 x z
          · rw [List.mem_singleton.mp z]; exact s1.free hr1
    · rintro σ' H1 ⟨v, rs, rfl, g1, s1, n1⟩
      rw [Int.toNat_natCast] at g1
      have G1 : GridAt H1 l rs N (MB.T0 big) := ⟨g1.top, g1.len, g1.row, g1.inj, g1.ne⟩
      have rnew : ∀ {i : Nat} {r : Addr}, rs[i]? = some r → H r = none := fun {i r} e => n1 r (List.mem_of_getElem? e)
      -- the bounds
      have R1 := R.same s1
      refine ⟨_, rfl, ba, rfl, ⟨_, SqL.of R1.1⟩, for_list (K := K) (a := ba) (xs := bs.map V.ref) (fun i σ' H' => ∃ v3 v4 v5, σ' = [some (.int (N : Int)), some (.ref ba), some (.ref l), v3, v4, v5, none] ∧ GridAt H' l rs N (MB.tabB ((rows.map ofRow).take i) (MB.T0 big)) ∧ Same H H')
        ⟨_, none, none, rfl, G1, s1⟩ ?_ ?_ ?_⟩
      · rintro i σ' H2 _ ⟨v3, v4, v5, rfl, _, s2⟩
        exact SqL.of (s2 _ _ R.1)
      · rintro i x σ' H2 hx ⟨v3, v4, v5, rfl, G2, s2⟩
        obtain ⟨q, r0, rfl, hq, hr0, hqt⟩ := R.get hx
        obtain ⟨a', b', m, e4, ha', hb'⟩ := hix r0 (List.mem_of_getElem? hr0)
        subst e4
        have hBj : (rows.map ofRow)[i]? = some (a', b', m) := by
          rw [List.getElem?_map, hr0]
          show some ((a' : Int).toNat, (b' : Int).toNat, m) = _
          rw [Int.toNat_natCast, Int.toNat_natCast]
        have est : MB.tabB ((rows.map ofRow).take (i + 1)) (MB.T0 big) = MB.lower (MB.tabB ((rows.map ofRow).take i) (MB.T0 big)) (a', b', m) := by
          unfold MB.tabB
          rw [List.take_succ, hBj, List.foldl_append]
          rfl
        rw [est]
        generalize MB.tabB ((rows.map ofRow).take i) (MB.T0 big) = TT at *
        obtain ⟨r, hr'⟩ := G2.has ha'
        refine ⟨q, _, rfl, SqT.of (s2 _ _ hqt), rfl, _, _, rfl, _, _, rfl, _, _, rfl, rfl, ?_⟩
        refine ⟨_, rfl, rdLv rfl G2.top (G2.at_ hr') (rdLv rfl (G2.row _ _ hr') (lsI_at hb') ⟨_, rfl, _, _, rfl, ?_⟩)⟩
        refine ⟨_, rfl, rdLv rfl G2.top (G2.at_ hr') ⟨_, rfl, r, _, _, _, rfl, rfl, G2.row _ _ hr', lsI_ix hb', ?_⟩⟩
        refine ⟨_, _, _, rfl, (G2.set hr').congr (fun x y _ _ => ?_), same_upd s2 (rnew hr')⟩
        rw [min_if]
        rfl
      · rintro σ' H2 ⟨v3, v4, v5, rfl, G2, s2⟩
        have hBl : (rows.map ofRow).take (bs.map V.ref).length = rows.map ofRow := by
          rw [List.length_map, R.len, ← List.length_map (f := ofRow)]
          exact List.take_length
        rw [hBl] at G2
        -- the middles
        refine ⟨_, rfl, (N : Int), rfl, by omega, by omega, ?_⟩
        refine for_range (n := (((N : Nat) : Int)).toNat) (fun i σ' H' => ∃ u3 u4 u6, σ' = [some (.int (N : Int)), some (.ref ba), some (.ref l), u3, u4, v5, u6] ∧ GridAt H' l rs N (MB.allI N i (MB.tabB (rows.map ofRow) (MB.T0 big))) ∧ Same H H') ⟨_, _, none, rfl, G2, s2⟩ ?_ ?_
        · rintro kk σ' H3 hk ⟨u3, u4, u6, rfl, G3, s3⟩
          have hk := rng hk
          rw [z0]
          have enx : MB.allI N (kk + 1) (MB.tabB (rows.map ofRow) (MB.T0 big)) = MB.passI kk N N (MB.allI N kk (MB.tabB (rows.map ofRow) (MB.T0 big))) := rfl
          rw [enx]
          generalize MB.allI N kk (MB.tabB (rows.map ofRow) (MB.T0 big)) = TT at *
          refine ⟨_, rfl, (N : Int), rfl, by omega, by omega, ?_⟩
          refine for_range (n := (((N : Nat) : Int)).toNat) (fun i σ' H' => ∃ u3 u4, σ' = [some (.int (N : Int)), some (.ref ba), some (.ref l), u3, u4, v5, some (.int (kk : Int))] ∧ GridAt H' l rs N (MB.passI kk N i TT) ∧ Same H H') ⟨_, _, rfl, G3, s3⟩ ?_ ?_
          · rintro aa σ' H4 ha ⟨u3, u4, rfl, G4, s4⟩
            have ha := rng ha
            rw [z0]
            have enx2 : MB.passI kk N (aa + 1) TT = MB.rowI kk aa N (MB.passI kk N aa TT) := rfl
            rw [enx2]
            generalize MB.passI kk N aa TT = TU at *
            refine ⟨_, rfl, (N : Int), rfl, by omega, by omega, ?_⟩
            refine for_range (n := (((N : Nat) : Int)).toNat) (fun i σ' H' => ∃ u4, σ' = [some (.int (N : Int)), some (.ref ba), some (.ref l), some (.int (aa : Int)), u4, v5, some (.int (kk : Int))] ∧ GridAt H' l rs N (MB.rowI kk aa i TU) ∧ Same H H') ⟨_, rfl, G4, s4⟩ ?_ ?_
            · rintro bb σ' H5 hb ⟨u4, rfl, G5, s5⟩
              have hb := rng hb
              rw [z0]
              obtain ⟨r, hr'⟩ := G5.has ha
              obtain ⟨r2, hr2⟩ := G5.has hk
              refine ⟨_, rfl, rdLv rfl G5.top (G5.at_ hr') (rdLv rfl (G5.row _ _ hr') (lsI_at hb) ?_)⟩
              refine ⟨_, rfl, rdLv rfl G5.top (G5.at_ hr') (rdLv rfl (G5.row _ _ hr') (lsI_at hk) ?_)⟩
              refine ⟨_, rfl, rdLv rfl G5.top (G5.at_ hr2) (rdLv rfl (G5.row _ _ hr2) (lsI_at hb) ⟨_, _, rfl, rfl, _, _, rfl, ?_⟩)⟩
              refine ⟨_, rfl, rdLv rfl G5.top (G5.at_ hr') ⟨_, rfl, r, _, _, _, rfl, rfl, G5.row _ _ hr', lsI_ix hb, ?_⟩⟩
              rw [min_if]
              exact ⟨_, rfl, (G5.set hr').congr (fun x y _ _ => rfl), same_upd s5 (rnew hr')⟩
            · rintro σ' H5 ⟨u4, rfl, G5, s5⟩
              rw [Int.toNat_natCast] at G5
              exact ⟨_, _, rfl, G5, s5⟩
          · rintro σ' H4 ⟨u3, u4, rfl, G4, s4⟩
            rw [Int.toNat_natCast] at G4
            exact ⟨_, _, _, rfl, G4, s4⟩
        · rintro σ' H3 ⟨u3, u4, u6, rfl, G3, s3⟩
          rw [Int.toNat_natCast] at G3
          have G3 : GridAt H3 l rs N (lawT N rows) := G3
          generalize lawT N rows = TT at *
          -- the diagonal
          refine ⟨_, rfl, (N : Int), rfl, by omega, by omega, ?_⟩
          refine for_range (n := (((N : Nat) : Int)).toNat) (fun i σ' H' => ∃ u3, σ' = [some (.int (N : Int)), some (.ref ba), some (.ref l), u3, u4, v5, u6] ∧ H' = H3 ∧ ∀ j, j < i → 0 ≤ TT j j) ⟨_, rfl, rfl, (fun j hj => absurd hj (Nat.not_lt_zero _))⟩ ?_ ?_
          · rintro i σ' H4 hi ⟨u3, rfl, rfl, hall⟩
            have hi := rng hi
            rw [z0]
            obtain ⟨r, hr'⟩ := G3.has hi
            refine ⟨_, rfl, rdLv rfl G3.top (G3.at_ hr') (rdLv rfl (G3.row _ _ hr') (lsI_at hi) ⟨_, _, rfl, rfl, _, rfl, ?_⟩)⟩
            refine ite2 (fun hc => ?_) (fun hc => ?_)
            · exact kN ⟨i, hi, by simpa using hc⟩ _ s3
            · refine ⟨_, rfl, rfl, fun j hj => ?_⟩
              have : ¬ TT i i < 0 := by simpa using hc
              by_cases e : j = i
              · rw [e]; omega
              · exact hall j (by omega)
          · rintro σ' H4 ⟨u3, rfl, rfl, hall⟩
            rw [Int.toNat_natCast] at hall
            exact ⟨_, rfl, kT hall l rs _ hl n1 s3 G3⟩
end
end W

set_option Elab.async false
set_option linter.all false
set_option maxRecDepth 100000
set_option maxHeartbeats 4000000
namespace L2
open PySem
theorem eqV_self : ∀ {x : V}, flatV x = true → eqV x x = true
  | .non, _ => rfl
  | .bl b, _ => (beq_self_eq_true b : (b == b) = true)
  | .int i, _ => (beq_self_eq_true i : (i == i) = true)
  | .str s, _ => (beq_self_eq_true s : (s == s) = true)
  | .byt _, h => by cases h
  | .flt _, h => by cases h
  | .ref _, h => by cases h
  | .ty _, h => by cases h
theorem allEq_self {xs : List V} (h : xs.all flatV = true) : allEq xs xs = true := by
  unfold allEq
  rw [List.all_eq_true]
  intro j hj
  have hj := List.mem_range.mp hj
  refine eqV_self (flat_get h (j := j) ?_)
  rw [List.getD_eq_getElem?_getD, List.getElem?_eq_getElem hj]
  rfl
theorem flat_bls : ∀ {bs : List Bool}, (bs.map V.bl).all flatV = true
  | [] => rfl
  | b :: r => by
    rw [List.map_cons, List.all_cons, flat_bls (bs := r)]
    rfl
end L2
namespace W
open PySem L2
structure TxtI (K : PySem.W.Frag) (mg : Str → Option Value) (C : Addr) (b1 b2 b3 b4 b5 : Bool) : Prop where
  isi : mg "isinstance" = none
  ve : mg "ValueError" = none
  g : ExcG K C
  k1 : ∃ c, mg "BadWeb" = some (.ref c) ∧ PySem.W.kitOne K (.ref C) (.ref c) = some b1
  k2 : ∃ c, mg "NoTimes" = some (.ref c) ∧ PySem.W.kitOne K (.ref C) (.ref c) = some b2
  k3 : ∃ c, mg "NoHand" = some (.ref c) ∧ PySem.W.kitOne K (.ref C) (.ref c) = some b3
  k4 : ∃ c, mg "BadFall" = some (.ref c) ∧ PySem.W.kitOne K (.ref C) (.ref c) = some b4
  k5 : ∃ c, mg "BadText" = some (.ref c) ∧ PySem.W.kitOne K (.ref C) (.ref c) = some b5
  kv : PySem.W.kitOne K (.ref C) (.type "ValueError") = some true
noncomputable abbrev wordsL : List Str := ["web", "times", "hand", "fall", "text"]
noncomputable def spIs (C : Addr) (wd : Str) : Sp := fun vs H Q _ => ∃ a d t tb u fs, vs = [.ref a, .str wd] ∧ H a = some (.frz (excRec C (some d) t tb) u) ∧ H d = some (excD d fs) ∧ ∀ H', Same H H' → Q (.bl true) H'
section
variable {P : Program} {w : World} {K : PySem.W.Frag} {mg : Str → Option Value} {base : Heap}
noncomputable abbrev nIs : List Str := ["_law_e", "_law_word", "_law_kinds", "_law_words"]
theorem scIs : FnScope nIs ["_law_e", "_law_word"] (defScope sL_is) := ⟨rfl, rfl, rfl, by decide +kernel, rfl, by decide +kernel, by decide +kernel⟩
theorem coIs : CompOk (defScope sL_is) nIs (fsc [(".0", .local), ("_law_one", .local), ("_law_word", .free)]) ["_law_one", "_law_word"] [none, some 1] := ⟨rfl, by decide +kernel, by decide +kernel, by decide +kernel, rfl, by decide +kernel⟩
theorem ndIs : (["_law_one", "_law_word"] : List Str).Nodup := by decide +kernel
theorem ok_is {f C : Addr} {fd : FuncData} {b1 b2 b3 b4 b5 : Bool} {wd : Str} (F : Fn K mg "_law_is" sL_is ["_law_e", "_law_word"] f fd) (T : TxtI K mg C b1 b2 b3 b4 b5) (hw : [b1, b2, b3, b4, b5] = wordsL.map fun o => decide (V.str wd = V.str o)) :
    FnOkH P w K mg base CX0 1 f fd ["_law_e", "_law_word"] (spIs C wd) := by
  obtain ⟨c1, m1, q1⟩ := T.k1
  obtain ⟨c2, m2, q2⟩ := T.k2
  obtain ⟨c3, m3, q3⟩ := T.k3
  obtain ⟨c4, m4, q4⟩ := T.k4
  obtain ⟨c5, m5, q5⟩ := T.k5
  refine F.F.okH scIs (fun vs H Q E h => ?_) (fun cdv A outer s H vs Q E hr hh h => ?_)
  · obtain ⟨a, _, _, _, _, _, rfl, _⟩ := h
    rfl
  · obtain ⟨a, d, t, tb, u, fs, rfl, ea, ed, k⟩ := h
    refine ⟨_, pss_cons (ps_set (i := 2) scIs.nd rfl (Or.inl rfl) (pe_lst
        (pa_cons (pe_callB (call_isinstE (K := K) rfl) (by rfl) T.isi (by decide +kernel) (pa_cons (pv 0) (pa_cons (pe_glob (v := .ref c1) rfl m1 rfl) pa_nil)))
        (pa_cons (pe_callB (call_isinstE (K := K) rfl) (by rfl) T.isi (by decide +kernel) (pa_cons (pv 0) (pa_cons (pe_glob (v := .ref c2) rfl m2 rfl) pa_nil)))
        (pa_cons (pe_callB (call_isinstE (K := K) rfl) (by rfl) T.isi (by decide +kernel) (pa_cons (pv 0) (pa_cons (pe_glob (v := .ref c3) rfl m3 rfl) pa_nil)))
        (pa_cons (pe_callB (call_isinstE (K := K) rfl) (by rfl) T.isi (by decide +kernel) (pa_cons (pv 0) (pa_cons (pe_glob (v := .ref c4) rfl m4 rfl) pa_nil))) pa_nil))))))
      (pss_cons (ps_expr (pe_bm PySem.F.plainAttrs_list PySem.F.slot_list_append PySem.F.type_list_append mt_append (pv 2) (pa_cons (pe_callB (call_isinstE (K := K) rfl) (by rfl) T.isi (by decide +kernel) (pa_cons (pv 0) (pa_cons (pe_glob (v := .ref c5) rfl m5 rfl) pa_nil))) pa_nil)))
      (pss_cons (ps_set (i := 3) scIs.nd rfl (Or.inl rfl) (pe_lst (pa_cons pe_str (pa_cons pe_str (pa_cons pe_str (pa_cons pe_str (pa_cons pe_str pa_nil)))))))
      (pss_one (ps_ret (pe_and (pe_callB (call_isinstE (K := K) rfl) (by rfl) T.isi (by decide +kernel) (pa_cons (pv 0) (pa_cons (pe_bltn (v := .ty "ValueError") rfl T.ve (by decide +kernel) rfl) pa_nil)))
        (pe_one (pe_cmpR (op_eqF (K := K) rfl hr.units) (pv 2) (pe_compH (.inr hh) (pi_list (pv 3)) coIs (fun cl ex s0 H0 _ => ⟨pg_name (i := 0) ndIs rfl (Or.inl rfl), pif_none, pe_cmpR op_eq (pv 1) (pv 0) (nomark _)⟩)) (nomark _)))))))), ?_⟩
    refine ⟨_, rfl, a, C, d, t, tb, u, fs, _, _, _, rfl, ea, ed, T.g, rfl, (fun _ z => z), q1, ?_⟩
    refine ⟨_, rfl, a, C, d, t, tb, u, fs, _, _, _, rfl, ea, ed, T.g, rfl, (fun _ z => z), q2, ?_⟩
    refine ⟨_, rfl, a, C, d, t, tb, u, fs, _, _, _, rfl, ea, ed, T.g, rfl, (fun _ z => z), q3, ?_⟩
    refine ⟨_, rfl, a, C, d, t, tb, u, fs, _, _, _, rfl, ea, ed, T.g, rfl, (fun _ z => z), q4, by show 4 ≤ sizeLine; decide, fun kl hkl => ?_⟩
    have s1 := same_new (o := .lst [V.bl b1, V.bl b2, V.bl b3, V.bl b4]) hkl
    refine ⟨_, rfl, .inl ⟨rfl, _, SqL.of upd_same⟩, _, rfl, a, C, d, t, tb, u, fs, _, _, _, rfl, s1 _ _ ea, s1 _ _ ed, T.g, rfl, (fun _ z => z), q5, kl, _, _, rfl, rfl, upd_same, by show 4 < sizeLine; decide, ?_⟩
    have s2 := same_upd (o := .lst ([V.bl b1, V.bl b2, V.bl b3, V.bl b4] ++ [V.bl b5])) s1 hkl
    have e2 : upd (upd H kl (.lst [V.bl b1, V.bl b2, V.bl b3, V.bl b4])) kl (.lst ([V.bl b1, V.bl b2, V.bl b3, V.bl b4] ++ [V.bl b5])) kl = some (.lst ([b1, b2, b3, b4, b5].map V.bl)) := upd_same
    generalize upd (upd H kl (.lst [V.bl b1, V.bl b2, V.bl b3, V.bl b4])) kl (.lst ([V.bl b1, V.bl b2, V.bl b3, V.bl b4] ++ [V.bl b5])) = H2 at *
    refine ⟨by show 5 ≤ sizeLine; decide, fun wl hwl => ?_⟩
    have s3 : Same H (upd H2 wl (.lst [V.str "web", V.str "times", V.str "hand", V.str "fall", V.str "text"])) := s2.trans (same_new hwl)
    have e3 := same_new (o := .lst [V.str "web", V.str "times", V.str "hand", V.str "fall", V.str "text"]) hwl _ _ e2
    have w3 : upd H2 wl (.lst [V.str "web", V.str "times", V.str "hand", V.str "fall", V.str "text"]) wl = some (.lst (wordsL.map V.str)) := upd_same
    generalize upd H2 wl (.lst [V.str "web", V.str "times", V.str "hand", V.str "fall", V.str "text"]) = H3 at *
    refine ⟨_, rfl, a, C, d, t, tb, u, fs, _, _, _, rfl, s3 _ _ ea, s3 _ _ ed, T.g, rfl, (fun _ z => z), T.kv, _, rfl, iteT ?_⟩
    refine ⟨_, rfl, _, rfl, wl, rfl, ⟨_, SqL.of w3⟩, fun Da hDa => ?_⟩
    refine comp_list (xs := wordsL.map V.str) (fun j σ' H' => ∃ v, σ' = [v, some (.str wd)] ∧ H' Da = some (.lst (((wordsL.take j).map fun o => decide (V.str wd = V.str o)).map V.bl)) ∧ Same H3 H') ⟨none, rfl, upd_same, same_new hDa⟩ ?_ ?_ ?_
    · rintro j σ' H4 _ ⟨v, rfl, _, s4⟩
      exact SqL.of (s4 _ _ w3)
    · rintro j x σ' H4 hx ⟨v, rfl, e4, s4⟩
      rw [List.getElem?_map] at hx
      cases hq : wordsL[j]? with
      | none => rw [hq] at hx; cases hx
      | some o =>
        rw [hq] at hx
        cases hx
        refine ⟨_, rfl, _, rfl, rfl, _, e4, ?_, _, rfl, ?_, fun b o' e => ?_⟩
        · rw [List.length_map, List.length_map, List.length_take]
          exact small1000 (by have : wordsL.length = 5 := rfl; omega)
        · rw [upd_same, List.take_succ, hq, List.map_append, List.map_append]
          rfl
        · rw [upd_ne (ne_of_none e hDa)]; exact s4 _ _ e
    · rintro σ' H4 ⟨v, rfl, e4, s4⟩
      have et : wordsL.take (wordsL.map V.str).length = wordsL := by rw [List.length_map]; exact List.take_length
      rw [et, ← hw] at e4
      exact ⟨kl, Da, _, _, rfl, rfl, SqL.of (s4 _ _ e3), SqL.of e4, flat_bls, flat_bls, rfl, bl_of (k _ (s3.trans s4)) (allEq_self flat_bls).symm⟩
/-! ### is it a ring -/
end
end W

set_option Elab.async false
set_option linter.all false
set_option maxRecDepth 100000
set_option maxHeartbeats 4000000
namespace L2
open PySem
theorem GridAt.keep {H H' : Hp} {l d : Addr} {rs : List Addr} {N : Nat} {T : Nat → Nat → Int} (h : GridAt H l rs N T) (k : Keep d H H') (h1 : l ≠ d) (h2 : ∀ r ∈ rs, r ≠ d) : GridAt H' l rs N T :=
  ⟨k _ _ h.top h1, h.len, fun i r e => k _ _ (h.row i r e) (h2 r (List.mem_of_getElem? e)), h.inj, h.ne⟩
end L2
namespace W
open PySem L2
theorem DrawnAt.keep {H H' : Hp} {wp ta fa d : Addr} {n la : Int} {T F : List (List Int)} {xs : List V} (h : DrawnAt H wp ta fa n la T F) (k : Keep d H H') (hd : H d = some (.lst xs)) (h1 : ta ≠ d) (h2 : fa ≠ d) : DrawnAt H' wp ta fa n la T F :=
  ⟨k _ _ h.tup (ne_of h.tup hd (fun z => nomatch z)), h.t.keep k hd h1, h.f.keep k hd h2⟩
end W

set_option Elab.async false
set_option linter.all false
set_option maxRecDepth 100000
set_option maxHeartbeats 4000000
namespace W
open PySem L2
theorem ints_like {H : Hp} {N : Nat} {t u : Nat → Int} (e : ∀ i, i < N → t i = u i) (i : Nat) (a b : V) (ha : (lsI N t)[i]? = some a) (hb : (lsI N u)[i]? = some b) : LikeD 0 H a b := by
  have hi : i < N := by
    have := (List.getElem?_eq_some_iff.mp ha).1
    rwa [lsI_len] at this
  rw [lsI_get hi] at ha hb
  cases ha
  cases hb
  exact .inl ⟨t i, rfl, by rw [e i hi]⟩
theorem room0_of {N : Nat} {la : Int} {T F : List (List Int)} : MB.Room0 N la ((allB (N : Int) la T F).map ofRow) := by
  refine ⟨fun i h1 h2 => ?_, fun i h1 h2 => ?_⟩
  · obtain ⟨m1, _⟩ := room_mem (la := la) (k := ((N : Int) - 1).toNat) h1 (by omega)
    exact List.mem_map.mpr ⟨[0, (i : Int), la], List.mem_append_left _ (List.mem_append_left _ m1), rfl⟩
  · obtain ⟨_, m2⟩ := room_mem (la := la) (k := ((N : Int) - 1).toNat) h1 (by omega)
    exact List.mem_map.mpr ⟨[(i : Int), 0, 0], List.mem_append_left _ (List.mem_append_left _ m2), rfl⟩
end W

set_option Elab.async false
set_option linter.all false
set_option maxRecDepth 100000
set_option maxHeartbeats 1000000
namespace L2
open PySem PySem.Spec PyProof.Rows
theorem bls_get : ∀ {bs : List Bool} {us : List Value} {i : Nat} {v : Value}, Vals (bs.map V.bl) us → us[i]? = some v → ∃ b, bs[i]? = some b ∧ v = .bool b
  | [], _, i, v, h, e => by cases h; simp at e
  | b :: r, _, 0, v, h, e => by
    cases h with
    | cons q tl => simp at e; subst e; exact ⟨b, rfl, q⟩
  | b :: r, _, i + 1, v, h, e => by
    cases h with
    | cons q tl => simp at e; simpa using bls_get tl e
section
variable {X : Cx}
theorem call_allL (hc : X.calm = true) : CallR X (.builtin "all") (fun xs H Q => ∃ (p : Addr) (bs : List Bool), xs = [.ref p] ∧ H p = some (.lst (bs.map V.bl)) ∧ Q (.bl (bs.all id)) H) := by
  intro pins s σ H xs us Q I r h
  obtain ⟨p, bs, rfl, hp, q⟩ := h
  obtain ⟨u, rfl, ru⟩ := vals1 r
  obtain rfl : u = Value.ref p := ru
  obtain ⟨hz, its, n, rv, e⟩ := I.hok p _ hp
  have hl : s.heap.IsList p its.toArray := ⟨_, e, rfl, n, rfl⟩
  have hlt : p < s.heap.objs.size := Heap.lt_size e
  have hh := I.ok.hd hc
  have hlen : its.length = bs.length := by rw [← rv.length, List.length_map]
  refine call_all_walk (wpAny_pyIter_list hl ?_)
  refine ⟨s.heap.objs.size, [s.heap.objs.size, p], [s.heap.objs.size], its.toArray.size, _, _, fun i => (bs[i]?).getD true, rfl, Walks.list (A := X.A.in1) hh _ p (Nat.ne_of_lt hlt) its.toArray,
    ⟨⟨_, Heap.get?_push_size _ rfl, rfl, rfl⟩, hl.push _⟩, fun i v s' Q' E' hP hQ => ?_, fun h' tk hk => ?_⟩
  · obtain ⟨b, e, rfl⟩ := bls_get rv (by simpa using hP)
    simp only [e, Option.getD_some] at hQ
    exact wpAny_truthy_bool hQ
  · have e : ((List.range its.toArray.size).all fun i => (bs[i]?).getD true) = bs.all id := by
      rw [List.size_toArray, hlen]; exact PyProof.Rows.LSm.range_all bs
    rw [e]
    exact ⟨.bl (bs.all id), H, I.kept (PyProof.Rows.LSm.kept_iter hk), rfl, q⟩
end
end L2

set_option Elab.async false
set_option linter.all false
set_option maxRecDepth 100000
set_option maxHeartbeats 4000000
namespace W
open PySem L2
theorem idx_get {N : Nat} {rows : List (List Int)} (h : Idx N rows) {i : Nat} {r : List Int} (e : rows[i]? = some r) : ∃ (a b : Nat) (m : Int), r = [(a : Int), (b : Int), m] ∧ a < N ∧ b < N ∧ (rows.map ofRow)[i]? = some (a, b, m) := by
  obtain ⟨a, b, m, rfl, ha, hb⟩ := h r (List.mem_of_getElem? e)
  refine ⟨a, b, m, rfl, ha, hb, ?_⟩
  rw [List.getElem?_map, e]
  show some ((a : Int).toNat, (b : Int).toNat, m) = _
  rw [Int.toNat_natCast, Int.toNat_natCast]
section
variable {P : Program} {w : World} {K : PySem.W.Frag} {mg : Str → Option Value} {base : Heap}
noncomputable abbrev nKc : List Str := ["_law_one", "_law_other", "_law_most", "_law_times"]
theorem scLk : FnScope ["_law_w", "_law_times"] ["_law_w", "_law_times"] (defScope sL_keeps) := ⟨rfl, rfl, rfl, by decide +kernel, rfl, by decide +kernel, by decide +kernel⟩
theorem coLk : CompOk (defScope sL_keeps) ["_law_w", "_law_times"] (fsc [(".0", .local), ("_law_one", .local), ("_law_other", .local), ("_law_most", .local), ("_law_times", .free)]) nKc [none, none, none, some 1] := ⟨rfl, by decide +kernel, by decide +kernel, by decide +kernel, rfl, by decide +kernel⟩
theorem ndKc : nKc.Nodup := by decide +kernel
theorem ok_lkeeps {f fB : Addr} {fd fdB : FuncData} (F : Fn K mg "_law_keeps" sL_keeps ["_law_w", "_law_times"] f fd) (FB : Fn K mg "_law_bounds" sL_bounds ["_law_w"] fB fdB) (GB : FnOk P w K mg base CX0 1 fB fdB ["_law_w"] spLBounds) :
    FnOk P w K mg base CX0 2 f fd ["_law_w", "_law_times"] spLKeeps := by
  refine F.F.ok scLk (fun vs H Q E h => ?_) (fun cdv A outer s H vs Q E hr h => ?_)
  · obtain ⟨wp, _, _, tl, _, _, _, _, _, rfl, _⟩ := h
    rfl
  · obtain ⟨wp, ta, fa, tl, N, la, rT, rF, t, rfl, D0, hok, ht, k⟩ := h
    have n1 := hok.n1
    refine ⟨_, pss_cons (ps_if (pt_cmpR op_ne (pe_ix ix_list0 (pv 1) pe_int (fun _ _ => rfl)) pe_int (nomark _)) (pss_one (ps_ret pe_bl)) pss_nil)
      (pss_one (ps_ret (pe_cmpR (op_eqI hr.units) (pe_comp rfl (pi_list (pe_call GB hr rfl FB.g FB.F.kp FB.b .nil pass0 (pa_cons (pv 0) pa_nil))) coLk
        (fun cl ex s0 H0 => ⟨pg_tupK (K := K) (n := 3) rfl rfl (pgs_cons (pg_name (i := 0) ndKc rfl (Or.inl rfl)) (pgs_cons (pg_name (i := 1) ndKc rfl (Or.inl rfl)) (pgs_cons (pg_name (i := 2) ndKc rfl (Or.inl rfl)) pgs_nil))),
          pif_one (pt_cmpR op_gt (pe_op op_sub (pe_ix ix_list0 (pv 3) (pv 1) (fun _ _ => rfl)) (pe_ix ix_list0 (pv 3) (pv 0) (fun _ _ => rfl))) (pv 2) (nomark _)), pe_int⟩)) (pe_lst pa_nil) (nomark _)))), ?_⟩
    have at0 : atI (lsI N t) 0 = some (.int (t 0)) := lsI_at (i := 0) (by omega)
    refine ⟨_, rfl, rdL ht at0 ⟨rfl, _, rfl, ?_⟩⟩
    refine ite2 (fun hc => ?_) (fun hc => ?_)
    · refine k false H (Same.refl _) ⟨fun z => (nomatch z), fun z => ?_⟩
      have : ¬ t 0 = 0 := by simpa using hc
      exact absurd z.1 this
    · have t0 : t 0 = 0 := by simpa using hc
      refine ⟨_, rfl, wp, ta, fa, _, la, rT, rF, rfl, D0, hok, fun bl H1 hbl s1 R1 => ⟨bl, rfl, ?_, fun Da hDa => ?_⟩⟩
      · obtain ⟨ps, R⟩ := R1
        exact ⟨_, SqL.of R.1⟩
      obtain ⟨ps, R⟩ := R1
      have hlen : (allB (N : Int) la rT rF).length ≤ 100 := by
        unfold allB
        rw [List.length_append, List.length_append, roomB_len, spanB_len hok.fourT, spanB_len hok.fourF]
        have := hok.tl
        have := hok.fl
        have := hok.n2
        omega
      have hix := hok.idx
      generalize allB (N : Int) la rT rF = rows at *
      refine comp_list (xs := ps.map V.ref) (fun j σ' H' => ∃ v0 v1 v2 c, σ' = [v0, v1, v2, some (.ref tl)] ∧ H' Da = some (.lst ((List.replicate c (1 : Int)).map V.int)) ∧ c ≤ j ∧ (c = 0 ↔ ∀ x ∈ (rows.map ofRow).take j, t x.2.1 - t x.1 ≤ x.2.2) ∧ Same H1 H') ?_ ?_ ?_ ?_
      · exact ⟨none, none, none, 0, rfl, upd_same, Nat.le_refl _, ⟨fun _ x hx => (nomatch hx), fun _ => rfl⟩, same_new hDa⟩
      · rintro j σ' H2 _ ⟨v0, v1, v2, c, rfl, _, _, _, s2⟩
        exact SqL.of (s2 _ _ R.1)
      · rintro j x σ' H2 hx ⟨v0, v1, v2, c, rfl, e2, hcj, hiff, s2⟩
        obtain ⟨q, r, rfl, hq, hr', hqt⟩ := R.get hx
        obtain ⟨a', b', m, e4, ha', hb', hBj⟩ := idx_get hix hr'
        subst e4
        have hj : j < rows.length := (List.getElem?_eq_some_iff.mp hr').1
        have ht2 := s2 _ _ (s1 _ _ ht)
        refine ⟨q, _, rfl, SqT.of (s2 _ _ hqt), rfl, _, _, rfl, _, _, rfl, _, _, rfl, rfl, ?_⟩
        refine ⟨_, rfl, rdLv rfl ht2 (lsI_at hb') ⟨_, rfl, rdLv rfl ht2 (lsI_at ha') ⟨_, _, rfl, rfl, _, rfl, _, _, rfl, rfl, _, rfl, ?_⟩⟩⟩
        have tk : (rows.map ofRow).take (j + 1) = (rows.map ofRow).take j ++ [(a', b', m)] := by rw [List.take_succ, hBj]; rfl
        rw [tk]
        refine ite2 (fun hc => ?_) (fun hc => ?_)
        · have hc' : m < t b' - t a' := by simpa using hc
          refine ⟨_, e2, ?_, _, _, _, c + 1, rfl, ?_, by omega, ⟨fun z => by omega, fun z => ?_⟩, fun b o e => ?_⟩
          · rw [List.length_map, List.length_replicate]; exact small1000 (by omega)
          · rw [upd_same, List.replicate_succ', List.map_append]; rfl
          · have := z (a', b', m) (List.mem_append_right _ List.mem_cons_self)
            have h2 : t b' - t a' ≤ m := this
            omega
          · rw [upd_ne (ne_of_none e hDa)]; exact s2 _ _ e
        · have hc' : ¬ m < t b' - t a' := by simpa using hc
          refine ⟨_, _, _, c, rfl, e2, by omega, ⟨fun z x hx => ?_, fun z => hiff.mpr fun x hx => z x (List.mem_append_left _ hx)⟩, s2⟩
          rcases List.mem_append.mp hx with y | y
          · exact hiff.mp z x y
          · rw [List.mem_singleton.mp y]
            show t b' - t a' ≤ m
            omega
      · rintro σ' H2 ⟨v0, v1, v2, c, rfl, e2, _, hiff, s2⟩
        have hBl : (rows.map ofRow).take (ps.map V.ref).length = rows.map ofRow := by
          rw [List.length_map, R.len, ← List.length_map (f := ofRow)]
          exact List.take_length
        rw [hBl] at hiff
        refine ⟨Nat.zero_le _, fun q hq => ⟨Da, q, List.replicate c 1, [], rfl, rfl, SqL.of ?_, SqL.of upd_same, ?_⟩⟩
        · exact same_new hq _ _ e2
        · refine k _ _ ((s1.trans s2).trans (same_new hq)) ?_
          show decide (List.replicate c (1 : Int) = []) = true ↔ _
          rw [decide_eq_true_eq, List.replicate_eq_nil_iff]
          exact ⟨fun z => ⟨t0, hiff.mp z⟩, fun z => hiff.mpr z.2⟩
end
end W

set_option Elab.async false
set_option linter.all false
set_option maxRecDepth 100000
set_option maxHeartbeats 4000000
namespace W
open PySem L2
noncomputable def spEarl (C CN : Addr) : Sp := fun vs H Q E => ∃ (p : Addr) (N : Nat) (la : Int) (T F : List (List Int)), vs = [.ref p] ∧ WebAt C H p (N : Int) la T F ∧ WebOk (N : Int) la T F ∧
  (∀ k l H', k < N → (MB.rounds ((allB (N : Int) la T F).map ofRow) (k + 1)).q = none → H l = none → Same H H' → H' l = some (.lst (lsI N (MB.rounds ((allB (N : Int) la T F).map ofRow) (k + 1)).t)) → Q (.ref l) H') ∧
  ((∀ k, k < N → (MB.rounds ((allB (N : Int) la T F).map ofRow) (k + 1)).q ≠ none) → ∀ d fs H', H d = none → Same H H' → H' d = some (excD d fs) → E (.ref CN) (some d) H')
noncomputable def spLate (C CN : Addr) : Sp := fun vs H Q E => ∃ (p : Addr) (N : Nat) (la : Int) (T F : List (List Int)), vs = [.ref p] ∧ WebAt C H p (N : Int) la T F ∧ WebOk (N : Int) la T F ∧
  (∀ k l H', k < N → (MB.rounds ((allB (N : Int) la T F).map ofRow) (k + 1)).q = none → H l = none → Same H H' → H' l = some (.lst (lsI N (MB.tightF N la ((allB (N : Int) la T F).map ofRow) 0))) → Q (.ref l) H') ∧
  ((∀ k, k < N → (MB.rounds ((allB (N : Int) la T F).map ofRow) (k + 1)).q ≠ none) → ∀ d fs H', H d = none → Same H H' → H' d = some (excD d fs) → E (.ref CN) (some d) H')
noncomputable def spKeeps (C : Addr) : Sp := fun vs H Q _ => ∃ (p tl : Addr) (N : Nat) (la : Int) (T F : List (List Int)) (t : Nat → Int), vs = [.ref p, .ref tl] ∧ WebAt C H p (N : Int) la T F ∧ WebOk (N : Int) la T F ∧ H tl = some (.lst (lsI N t)) ∧
  ∀ (b : Bool) H', Same H H' → (b = true ↔ (t 0 = 0 ∧ ∀ x ∈ (allB (N : Int) la T F).map ofRow, t x.2.1 - t x.1 ≤ x.2.2)) → Q (.bl b) H'
section
variable {P : Program} {w : World} {K : PySem.W.Frag} {mg : Str → Option Value} {base : Heap}
theorem scEa : FnScope ["web"] ["web"] (defScope sP_earliest) := ⟨rfl, rfl, rfl, by decide +kernel, rfl, by decide +kernel, by decide +kernel⟩
theorem scLa : FnScope ["web"] ["web"] (defScope sP_latest) := ⟨rfl, rfl, rfl, by decide +kernel, rfl, by decide +kernel, by decide +kernel⟩
theorem scKp : FnScope ["web", "times"] ["web", "times"] (defScope sP_keeps) := ⟨rfl, rfl, rfl, by decide +kernel, rfl, by decide +kernel, by decide +kernel⟩
noncomputable abbrev nKp : List Str := ["a", "b", "most", "times"]
theorem coKp : CompOk (defScope sP_keeps) ["web", "times"] (fsc [(".0", .local), ("a", .local), ("b", .local), ("most", .local), ("times", .free)]) nKp [none, none, none, some 1] := ⟨rfl, by decide +kernel, by decide +kernel, by decide +kernel, rfl, by decide +kernel⟩
theorem ndKp : nKp.Nodup := by decide +kernel
theorem ok_earliest {f C CN fB fE : Addr} {fd fdB fdE : FuncData} (F : Fn K mg "earliest" sP_earliest ["web"] f fd) (TC : TxtC K mg C)
    (FB : Fn K mg "told_bounds" sP_told_bounds ["web"] fB fdB) (GB : FnOk P w K mg base CX0 3 fB fdB ["web"] (spTold C))
    (FE : Fn K mg "earliest_times" sP_earliest_times ["many", "bounds"] fE fdE) (GE : FnOk P w K mg base (CX1 P w) 3 fE fdE ["many", "bounds"] (spEarly CN)) :
    FnOk P w K mg base (CX1 P w) 4 f fd ["web"] (spEarl C CN) := by
  refine F.F.ok1 scEa (fun vs H Q E h => ?_) (fun cdv A outer s H vs Q E hr h => ?_)
  · obtain ⟨p, _, _, _, _, rfl, _⟩ := h
    rfl
  · obtain ⟨p, N, la, rT, rF, rfl, W0, hok, kq, ke⟩ := h
    have n1 := hok.n1
    have n2 := hok.n2
    refine ⟨_, pss_one (ps_ret (pe_call GE hr rfl FE.g FE.F.kp FE.b .nil (pass1 (E := E) fun _ _ _ z => z) (pa_cons (pe_fld (pv 0) rfl) (pa_cons (pe_call GB hr rfl FB.g FB.F.kp FB.b .nil pass0 (pa_cons (pv 0) pa_nil)) pa_nil)))), ?_⟩
    obtain ⟨dx, ta, fa, hp, _, _⟩ := id W0
    refine ⟨_, rfl, p, C, dx, _, _, rfl, hp, TC.cl, TC.nM, w_many _ _ _ _, _, rfl, p, _, la, rT, rF, rfl, W0, hok, fun bl H1 hbl s1 R1 => ?_⟩
    refine ⟨N, bl, _, rfl, by omega, by omega, R1, hok.idx, fun k tl H2 hk hq htl s2 e2 => ?_, fun hno x d l ring H2 hx hring hd hl s2 ed el => ?_⟩
    · exact kq k tl H2 hk hq (s1.free htl) (s1.trans s2) e2
    · exact ke hno d _ H2 (s1.free hd) (s1.trans s2) ed
theorem ok_latest {f C CN fT : Addr} {fd fdT : FuncData} (F : Fn K mg "latest" sP_latest ["web"] f fd) (FT : Fn K mg "tight" sP_tight ["web"] fT fdT) (GT : FnOk P w K mg base (CX1 P w) 4 fT fdT ["web"] (spTight C CN)) :
    FnOk P w K mg base (CX1 P w) 5 f fd ["web"] (spLate C CN) := by
  refine F.F.ok1 scLa (fun vs H Q E h => ?_) (fun cdv A outer s H vs Q E hr h => ?_)
  · obtain ⟨p, _, _, _, _, rfl, _⟩ := h
    rfl
  · obtain ⟨p, N, la, rT, rF, rfl, W0, hok, kq, ke⟩ := h
    have n1 := hok.n1
    have n2 := hok.n2
    refine ⟨_, pss_one (ps_ret (pe_ix ix_list0 (pe_call GT hr rfl FT.g FT.F.kp FT.b .nil (pass1 (E := E) fun _ _ _ z => z) (pa_cons (pv 0) pa_nil)) pe_int (fun _ _ => rfl))), ?_⟩
    refine ⟨_, rfl, p, N, la, rT, rF, rfl, W0, hok, fun k l rs H1 hk hq hl hrs s1 G => ?_, fun hno x d l ring H2 hx hring hd hl s2 ed el => ke hno d _ H2 hd s2 ed⟩
    obtain ⟨r0, hr0⟩ := G.has (i := 0) (by omega)
    exact rdL G.top (G.at_ hr0) (kq k r0 H1 hk hq (hrs r0 (List.mem_of_getElem? hr0)) s1 (G.row 0 r0 hr0))
theorem ok_keeps {f C fB : Addr} {fd fdB : FuncData} (F : Fn K mg "keeps" sP_keeps ["web", "times"] f fd) (all : mg "all" = none)
    (FB : Fn K mg "told_bounds" sP_told_bounds ["web"] fB fdB) (GB : FnOk P w K mg base CX0 3 fB fdB ["web"] (spTold C)) : FnOk P w K mg base CX0 4 f fd ["web", "times"] (spKeeps C) := by
  refine F.F.ok scKp (fun vs H Q E h => ?_) (fun cdv A outer s H vs Q E hr h => ?_)
  · obtain ⟨p, tl, _, _, _, _, _, rfl, _⟩ := h
    rfl
  · obtain ⟨p, tl, N, la, rT, rF, t, rfl, W0, hok, ht, k⟩ := h
    have n1 := hok.n1
    refine ⟨_, pss_one (ps_ret (pe_and (pe_cmpR op_eq (pe_ix ix_list0 (pv 1) pe_int (fun _ _ => rfl)) pe_int (nomark _))
      (pe_one (pe_callB (call_allL rfl) (by rfl) all (by decide +kernel) (pa_cons (pe_comp rfl (pi_list (pe_call GB hr rfl FB.g FB.F.kp FB.b .nil pass0 (pa_cons (pv 0) pa_nil))) coKp
        (fun cl ex s0 H0 => ⟨pg_tupK (K := K) (n := 3) rfl rfl (pgs_cons (pg_name (i := 0) ndKp rfl (Or.inl rfl)) (pgs_cons (pg_name (i := 1) ndKp rfl (Or.inl rfl)) (pgs_cons (pg_name (i := 2) ndKp rfl (Or.inl rfl)) pgs_nil))),
          pif_none, pe_cmpR op_le (pe_op op_sub (pe_ix ix_list0 (pv 3) (pv 1) (fun _ _ => rfl)) (pe_ix ix_list0 (pv 3) (pv 0) (fun _ _ => rfl))) (pv 2) (nomark _)⟩)) pa_nil))))), ?_⟩
    have at0 : atI (lsI N t) 0 = some (.int (t 0)) := lsI_at (i := 0) (by omega)
    refine ⟨_, rfl, rdL ht at0 ⟨rfl, ?_⟩⟩
    refine ⟨_, rfl, ite2 (fun hc => ?_) (fun hc => ?_)⟩
    · have t0 : t 0 = 0 := by simpa using hc
      refine ⟨_, rfl, p, _, la, rT, rF, rfl, W0, hok, fun bl H1 hbl s1 R1 => ⟨bl, rfl, ?_, fun Da hDa => ?_⟩⟩
      · obtain ⟨ps, R⟩ := R1
        exact ⟨_, SqL.of R.1⟩
      obtain ⟨ps, R⟩ := R1
      have hlen : (allB (N : Int) la rT rF).length ≤ 100 := by
        unfold allB
        rw [List.length_append, List.length_append, roomB_len, spanB_len hok.fourT, spanB_len hok.fourF]
        have := hok.tl
        have := hok.fl
        have := hok.n2
        omega
      have hix := hok.idx
      generalize allB (N : Int) la rT rF = rows at *
      refine comp_list (xs := ps.map V.ref) (fun j σ' H' => ∃ v0 v1 v2, σ' = [v0, v1, v2, some (.ref tl)] ∧ H' Da = some (.lst ((((rows.map ofRow).take j).map fun x => decide (t x.2.1 - t x.1 ≤ x.2.2)).map V.bl)) ∧ Same H1 H') ?_ ?_ ?_ ?_
      · exact ⟨none, none, none, rfl, upd_same, same_new hDa⟩
      · rintro j σ' H2 _ ⟨v0, v1, v2, rfl, _, s2⟩
        exact SqL.of (s2 _ _ R.1)
      · rintro j x σ' H2 hx ⟨v0, v1, v2, rfl, e2, s2⟩
        obtain ⟨q, r, rfl, hq, hr', hqt⟩ := R.get hx
        obtain ⟨a', b', m, e4, ha', hb', hBj⟩ := idx_get hix hr'
        subst e4
        have hj : j < rows.length := (List.getElem?_eq_some_iff.mp hr').1
        have ht2 := s2 _ _ (s1 _ _ ht)
        refine ⟨q, _, rfl, SqT.of (s2 _ _ hqt), rfl, _, _, rfl, _, _, rfl, _, _, rfl, rfl, ?_⟩
        refine ⟨_, rfl, rdLv rfl ht2 (lsI_at hb') ⟨_, rfl, rdLv rfl ht2 (lsI_at ha') ⟨_, _, rfl, rfl, _, rfl, _, _, rfl, rfl, ?_⟩⟩⟩
        have tk : (rows.map ofRow).take (j + 1) = (rows.map ofRow).take j ++ [(a', b', m)] := by rw [List.take_succ, hBj]; rfl
        rw [tk]
        refine ⟨_, e2, ?_, _, _, _, rfl, ?_, fun b o e => ?_⟩
        · rw [List.length_map, List.length_map, List.length_take, List.length_map]; exact small1000 (by omega)
        · rw [upd_same, List.map_append, List.map_append]; rfl
        · rw [upd_ne (ne_of_none e hDa)]; exact s2 _ _ e
      · rintro σ' H2 ⟨v0, v1, v2, rfl, e2, s2⟩
        have hBl : (rows.map ofRow).take (ps.map V.ref).length = rows.map ofRow := by
          rw [List.length_map, R.len, ← List.length_map (f := ofRow)]
          exact List.take_length
        rw [hBl] at e2
        refine ⟨Da, _, rfl, e2, k _ _ (s1.trans s2) ?_⟩
        rw [List.all_map, List.all_eq_true]
        exact ⟨fun z => ⟨t0, fun x hx => by simpa using z x hx⟩, fun z x hx => by simpa using z.2 x hx⟩
    · refine k false H (Same.refl _) ⟨fun z => (nomatch z), fun z => ?_⟩
      have : ¬ t 0 = 0 := by simpa using hc
      exact absurd z.1 this
end
end W

set_option Elab.async false
set_option linter.all false
set_option maxRecDepth 100000
set_option maxHeartbeats 1000000
/-! A lambda that is handed to a def of the module, over the hand layer: what it captures stays known to the callee, in a larger base. -/
namespace L2
open PySem PySem.Spec PyProof.Rows

noncomputable def BMod (mg : Str → Option Value) (base : Heap) : Prop := ∃ bm o, mg "__builtins__" = some (.ref bm) ∧ bm ≠ builtinsNs ∧ base.get? bm = some o ∧ o.cls = .type "module" ∧ o.dict = some builtinsNs ∧ o.data = .plain

section
variable {X : Cx} {pins : List (Addr × Obj)} {σ : St} {H : Hp} {s : Shared} {h' : Heap}
theorem Inv.tabbed {P : Addr} {ps more : Array Value} {t' : Nat} (I : Inv X pins σ H s) (hP : H P = some (.tbl ps)) (hx : ∀ b o, b ≠ P → s.heap.get? b = some o → h'.get? b = some o) (hP' : h'.get? P = some (PySem.W.tabObj (ps ++ more))) :
    Inv X pins σ (upd H P (.tbl (ps ++ more))) { s with heap := h', toks := t' } := by
  have ne : ∀ b, H b = none → b ≠ P := fun b e z => by rw [z, hP] at e; cases e
  refine I.un (t' := t') ⟨fun b o e n _ _ => hx b o (ne b n) e, fun b o e n _ _ => ⟨o.slots, hx b o (ne b n) e⟩, fun b o e n _ => by rw [upd_ne (ne b n)]; exact n, fun b o e _ => ?_, fun b xs e => ?_, fun b o u e => ?_, fun b qs e => ?_⟩ fun b u e => ?_
  · by_cases hb : b = P
    · exact ⟨_, hb ▸ hP'⟩
    · exact ⟨o, hx b o hb e⟩
  · rw [upd_ne (ne_of e hP (fun z => nomatch z))]; exact e
  · rw [upd_ne (ne_of e hP (fun z => nomatch z))]; exact e
  · by_cases hb : b = P
    · subst hb
      rw [hP] at e
      cases e
      exact ⟨more, upd_same⟩
    · exact ⟨#[], by rw [upd_ne hb, e]; simp⟩
  · by_cases hb : b = P
    · subst hb
      rw [upd_same] at e
      cases e
      exact hP'
    · rw [upd_ne hb] at e
      refine (I.hok b u e).stay (fun c v hc q => hx c v ?_ q) (fun c q => by rw [upd_ne (ne_of q hP (fun z => nomatch z))]; exact q) fun c xs q => by rw [upd_ne (ne_of q hP (fun z => nomatch z))]; exact q
      rcases hc with rfl | hc
      · exact hb
      · exact ne_of hc hP (fun z => nomatch z)
end

/-! ### a base that knows more -/
noncomputable def moreBase (h base : Heap) (l : List Addr) : Heap := PySem.W.hideAll h ((List.range h.objs.size).filter fun a => (base.get? a).isNone && !l.contains a)
theorem moreBase_size {h base : Heap} {l : List Addr} : (moreBase h base l).objs.size = h.objs.size := PySem.W.hideAll_size _ _
theorem moreBase_get {h base : Heap} {l : List Addr} {b : Addr} {o : Obj} (e : h.get? b = some o) (k : (∃ o', base.get? b = some o') ∨ b ∈ l) : (moreBase h base l).get? b = some o := by
  refine PySem.W.hideAll_get _ e fun z => ?_
  have z := (List.mem_filter.mp z).2
  simp only [Bool.and_eq_true] at z
  rcases k with ⟨o', q⟩ | q
  · rw [q] at z; exact absurd z.1 (by simp)
  · have := z.2
    rw [List.contains_iff_mem.mpr q] at this
    cases this
theorem of_moreBase {h base : Heap} {l : List Addr} {b : Addr} {o : Obj} (e : (moreBase h base l).get? b = some o) : h.get? b = some o ∧ ((∃ o', base.get? b = some o') ∨ b ∈ l) := by
  have e1 := PySem.W.of_hideAll _ e
  refine ⟨e1, ?_⟩
  cases q : base.get? b with
  | some o' => exact .inl ⟨o', rfl⟩
  | none =>
    refine .inr ?_
    cases hc : l.contains b with
    | true => exact List.contains_iff_mem.mp hc
    | false =>
      have : (moreBase h base l).get? b = none := PySem.W.hideAll_none _ (List.mem_filter.mpr ⟨List.mem_range.mpr (Heap.lt_size e1), by rw [q, hc]; rfl⟩)
      rw [this] at e
      cases e
theorem Mod.keeps {K : PySem.W.Frag} {mg : Str → Option Value} {base base' : Heap} (m : Mod K mg base) (k : ∀ b o, base.get? b = some o → base'.get? b = some o) : Mod K mg base' :=
  ⟨m.kin.keeps k, m.glob.keeps k, let ⟨mb, h1, h2⟩ := m.blt; ⟨mb, h1.keeps k, h2⟩, m.nolimit.keeps k⟩
theorem frames_more {h base : Heap} {l : List Addr} : ∀ {es : List Env}, h.FunFrames base es → (∀ a ∈ l, a ∉ frs es) → h.FunFrames (moreBase h base l) es
  | [], _, _ => trivial
  | env :: r, hl, n => by
    obtain ⟨hk, ⟨L, o, hf, hn, ho, hd⟩, hr⟩ := hl
    refine ⟨hk, ⟨L, o, hf, ?_, ho, hd⟩, frames_more hr fun a ha z => n a ha ?_⟩
    · cases q : (moreBase h base l).get? L with
      | none => rfl
      | some o' =>
        rcases (of_moreBase q).2 with ⟨o2, z⟩ | z
        · rw [hn] at z; cases z
        · exact absurd (show L ∈ frs (env :: r) by unfold frs; rw [List.filterMap_cons, hf]; exact List.mem_cons_self) (n L z)
    · unfold frs; rw [List.filterMap_cons, hf]; exact List.mem_cons_of_mem _ z

/-! ### the lambda's body -/
noncomputable def cxLam (CX : CXT) (P : Program) (w : World) (K : PySem.W.Frag) (mg : Str → Option Value) (base : Heap) (N : List Str) (qual : Str) (scope : Scope) (f : Addr) (cd : Value) (clos : List (Str × Addr)) (A : Around) (outer : List Env) (s : Shared) (H : Hp) (E : XK) : Cx where
  prog := P
  w := w
  K := K
  mg := mg
  base := base
  A := A.deeper (PySem.W.envX qual scope s.heap.objs.size f cd clos)
  N := N
  s₀ := s
  H₀ := H
  env := PySem.W.envX qual scope s.heap.objs.size f cd clos
  outer := outer
  stack := PySem.W.envX qual scope s.heap.objs.size f cd clos :: outer
  ex := []
  calm := true
  fn := fun _ => false
  pn := []
  xe := fun e s' => wpAny (model P w) (A.deeper (PySem.W.envX qual scope s.heap.objs.size f cd clos)) (leaving (PySem.W.envX qual scope s.heap.objs.size f cd clos) e) (fun _ s'' => CX outer H s E e s'') (fun e' s'' => CX outer H s E e' s'') s'

structure Caught (scope : Scope) (clos : List (Str × Addr)) (y : Str) (cy : Addr) : Prop where
  kind : scope.kind = .function
  co : scope.isCoroutine = false
  gen : scope.isGenerator = false
  nocell : ∀ x ∈ scope.names, x.2 ≠ .cell
  free : scope.names.lookup y = some .free
  only : ∀ x, scope.names.lookup x = some .free → x = y
  has : clos.lookup y = some cy
  one : ∀ x c, clos.lookup x = some c → x = y ∧ c = cy

section
variable {CX : CXT} {P : Program} {w : World} {K : PySem.W.Frag} {mg : Str → Option Value} {base : Heap} {y : Str} {qual : Str} {scope : Scope} {f cy : Addr} {cd : Value} {clos : List (Str × Addr)} {A : Around} {outer : List Env} {s : Shared} {H : Hp} {E EX : XK} {wv : V} {u : Value}
theorem inv_lam {h1 : Heap} {tk : Nat} {m : Str → Option Value} (S : Caught scope clos y cy) (hd : A.handled = none) (e0 : Env0 P w K mg base A outer s H) (hc : s.heap.IsCell cy (some u)) (hH : H cy = none) (r : RelV wv u)
    (hn : h1.Ns s.heap.objs.size m) (hk : ∀ b o, s.heap.get? b = some o → h1.get? b = some o) : Inv (cxLam CX P w K mg base [y] qual scope f cd clos A outer s H E) [] [some wv] H { s with heap := h1, toks := tk } := by
  have noA : ∀ b : Addr, b ∉ (cxLam CX P w K mg base [y] qual scope f cd clos A outer s H E).ex := fun b z => absurd (show b ∈ ([] : List Addr) from z) (by simp)
  have hc1 : h1.IsCell cy (some u) := let ⟨o, ho, hd⟩ := hc; ⟨o, hk _ _ ho, hd⟩
  refine ⟨⟨e0.mod, S.kind, rfl, rfl, Nat.le_refl _, fun x z c h1 h2 => ?_, fun x hx => ?_, fun x c hf _ => absurd (show false = true from hf) Bool.false_ne_true, fun _ => hd, Around.frames_deeper e0.frames, .inr ⟨rfl, rfl⟩, fun b z => absurd z (noA b), e0.bs, e0.bsz, fun b _ _ => noA b, fun b z => absurd z (noA b), e0.funs, e0.frf⟩,
    rfl, e0.bare, Un.kept hk, ⟨m, hn, fun i x v h1 h2 h3 => ?_⟩, fun x c h => ?_, e0.hok.fresh (Nat.le_refl _), fun x c h => ?_, fun p hp => absurd (show p ∈ ([] : List (Addr × Obj)) from hp) (by simp), e0.hok.kept hk, rfl⟩
  · exact (S.one x c h1).1.trans (S.one z c h2).1.symm
  · have hx : scope.names.lookup x = some .cell ∨ scope.names.lookup x = some .free := hx
    rcases hx with hx | hx
    · exact absurd rfl (S.nocell _ (PySem.mem_of_lookup hx))
    · rw [S.only x hx]; exact ⟨cy, S.has⟩
  · cases i with
    | zero =>
      cases h1
      cases h2
      exact ⟨u, r, .inr ⟨.inr S.free, cy, S.has, hc1⟩⟩
    | succ i => cases h1
  · rw [(S.one x c h).2]; exact ⟨_, hc1⟩
  · rw [(S.one x c h).2]; exact hH

theorem passL {N : List Str} (h : ∀ C dx H', E C dx H' → EX C dx H') : Passes (CX1 P w) (cxLam (CX1 P w) P w K mg base N qual scope f cd clos A outer s H EX) E := by
  intro pins σ H1 s1 e s' I hx
  obtain ⟨a, C, dx, H', rfl, os, bare, un, hok, fl, hE⟩ := hx
  have I' := I.call' (s' := s') (ch := []) os un hok bare (fun b z => absurd z (by simp))
  have fl' := fl.back fun b o e => I.base.there b o e (by intro z; exact absurd (show b ∈ ([] : List Addr) from z) (by simp))
  show wpAny (model P w) (A.deeper (PySem.W.envX qual scope s.heap.objs.size f cd clos)) (leaving (PySem.W.envX qual scope s.heap.objs.size f cd clos) (.ref a)) (fun _ s'' => CX1 P w outer H s EX (.ref a) s'') _ s'
  refine leave_exc (L := s.heap.objs.size) I'.ok.frames I'.stack rfl fl' (fun b o e => I'.base.there b o e (by intro z; exact absurd (show b ∈ ([] : List Addr) from z) (by simp))) (fun b hb => I'.hok.fresh hb) fun h' f' k => ?_
  refine ⟨a, C, dx, H', rfl, I'.os, I'.bare, I'.base.keptBut k fun b o e hb => ?_, I'.hok.keptBut k I'.stkFree, f', h _ _ _ hE⟩
  unfold frs at hb
  rw [List.filterMap_cons] at hb
  rcases List.mem_cons.mp hb with z | z
  · exact absurd (Heap.lt_size e) (by rw [z]; exact Nat.lt_irrefl _)
  · exact z
end

structure LamAt (params : Arguments) (body : Expr) (scope : Scope) (y : Str) (base : Heap) (f : Addr) (fd : FuncData) (wv : V) : Prop where
  at_ : ∃ (qual : Str) (clos : List (Str × Addr)) (pm : Value) (c' : Addr) (ctv : Value) (cy : Addr) (u : Value), fd = PySem.W.kla_fn "<lambda>" qual params body scope clos pm (.ref c') ctv ∧ base.get? f = some { cls := .type "function", data := .func fd } ∧
    base.CodeRec (.ref c') qual ∧ Caught scope clos y cy ∧ base.IsCell cy (some u) ∧ RelV wv u
theorem LamAt.fnAt {params : Arguments} {body : Expr} {scope : Scope} {y : Str} {base : Heap} {f : Addr} {fd : FuncData} {wv : V} (l : LamAt params body scope y base f fd wv) : PySem.W.FnAt f base := by
  obtain ⟨_, _, _, _, _, _, _, _, e, _⟩ := l.at_
  exact ⟨_, _, _, _, e⟩

theorem fn_lam {P : Program} {w : World} {K : PySem.W.Frag} {mg : Str → Option Value} {base : Heap} {k : Nat} {f : Addr} {fd : FuncData} {params : Arguments} {body : Expr} {scope : Scope} {y : Str} {wv : V} {sp : Hp → VK → XK → Prop} (L : LamAt params body scope y base f fd wv)
    (hbody : ∀ (qual : Str) (cd : Value) (clos : List (Str × Addr)) (A : Around) (outer : List Env) (s : Shared) (H : Hp) (Q : VK) (E : XK), Room k (A.deeper (PySem.W.envX qual scope s.heap.objs.size f cd clos)) → sp H Q E →
      ∃ t, PE (cxLam (CX1 P w) P w K mg base [y] qual scope f cd clos A outer s H E) body t ∧ t [some wv] H Q) :
    FnOk P w K mg base (CX1 P w) (k + 1) f fd [] (fun vs H Q E => vs = [] ∧ sp H Q E) := by
  obtain ⟨qual, clos, pm, c', ctv, cy, u, rfl, hf, hcd, S, ⟨oc, hoc, hdc⟩, r⟩ := L.at_
  refine ⟨fun vs H Q E h => by rw [h.1]; rfl, fun A outer s H args us vs Q E hr e0 hb rv hsp => ?_⟩
  obtain ⟨rfl, hsp⟩ := hsp
  have K0 : ∀ b o, base.get? b = some o → s.heap.get? b = some o := fun b o e => (e0.bs b o e).1
  have lim : s.heap.NoLimit := e0.mod.nolimit.keeps K0
  refine PySem.W.kla_callFunE hr.depth (K0 _ _ hf) rfl S.co S.gen rfl (hcd.keeps K0) (hb _ _ _ _ ?_)
  refine wpAny_newFunctionEnv S.nocell (fun x hx => absurd (show x ∈ ([] : List (Str × Value)) from hx) (by simp)) (fun h1 hns hsb => ⟨lim.fresh _ hsb, ?_⟩) S.kind
  have hk : ∀ b o, s.heap.get? b = some o → h1.get? b = some o := fun b o e => hsb.extBut b o (Nat.ne_of_lt (Heap.lt_size e)) (Heap.get?_push_of_some _ e)
  obtain ⟨t, ht, hq⟩ := hbody qual (.ref c') clos A outer s H Q E (hr.deeper _) hsp
  refine PySem.W.kla_codeExpr (wpAny_mono (ht [] _ [some wv] H Q (inv_lam S hr.hd e0 ⟨oc, K0 _ _ hoc, hdc⟩ (e0.bs _ _ hoc).2 r hns hk) hq) (fun v s' hs => ?_) fun e s' hs => hs)
  obtain ⟨v', H', J, rv', q⟩ := hs
  exact ⟨v', H', J.os, J.bare, J.base, J.hok, rv', q⟩

/-! ### work(): a def's parameter is called, in a try's body -/
section
variable {X : Cx} {pins0 : List (Addr × Obj)} {Ex : Addr → Option Addr → St → Hp → Prop} {k : Nat} {f : Addr} {fd : FuncData} {sp : Sp} {x : Str} {p pos : Pos} {i : Nat}
theorem pe_callV0 (F : FnOk X.prog X.w X.K X.mg X.base (CX1 X.prog X.w) k f fd [] sp) (hr : Room k X.A) (hf : PySem.W.FnAt f X.base) (hb : ∀ s : Shared, BindsTo s fd ⟨[], []⟩ []) (hN : X.N[i]? = some x) (hv : Vis X.env.scope x)
    (hd : (x == ("__debug__" : Str)) = false := by decide) (hcd : (x == ("__classdict__" : Str)) = false := by decide) :
    PE (tryCx X pins0 Ex) (.Call (.Name x p) [] [] pos) (fun σ H Q => σ[i]? = some (some (.ref f)) ∧ sp [] H Q (fun C dx H' => ∃ c, C = .ref c ∧ Ex c dx σ H')) := by
  intro pins s σ H Q I zz
  obtain ⟨hσ, q⟩ := zz
  refine wpAny_Call_Name_kw (thn (pe_var (X := tryCx X pins0 Ex) (i := i) (pos := p) hN hv hd hcd pins s σ H (fun v H1 => v = .ref f ∧ H1 = H) I ⟨_, hσ, rfl, rfl⟩) fun uf s1 zz => ?_)
  obtain ⟨vf, H1, I1, r1, e1, e2⟩ := zz
  subst e1 e2
  obtain rfl : uf = Value.ref f := r1
  obtain ⟨oc, od, fd', sl, ho⟩ := hf
  refine PySem.W.callWith_F0 ⟨oc, od, fd', sl, I1.bk _ _ ho⟩ ?_
  refine wpAny_call (codeAny_mono (F.run X.A X.stack s1 H1 ⟨[], []⟩ [] [] Q _ hr I1.env0 (hb s1) .nil q) fun r s' hq => ?_)
  cases r with
  | error e =>
    obtain ⟨a, C, dx, H', rfl, os, bare, un, hok, fl, c, hc, hE⟩ := hq
    cases hc
    have I' := I1.call' (s' := s') (ch := []) os un hok bare (fun b z => absurd z (by simp))
    exact ⟨a, C, dx, σ, H', σ, H1, s1, rfl, I1.untry, I'.untry, fun b o e => un.there b o e (by simp), fl, hE⟩
  | ok fl =>
    cases fl with
    | ret u => exact I1.after hq
    | next => exact False.elim hq
    | brk => exact False.elim hq
    | cont => exact False.elim hq
end

/-! ### g(lambda: ..) -/
section
variable {X : Cx} {k : Nat} {fN P c : Addr} {fdN : FuncData} {sp : Heap → Sp} {x y q : Str} {p pos lpos : Pos} {i : Nat} {params : Arguments} {body : Expr} {scope : Scope}
noncomputable def tLam (X : Cx) (P : Addr) (lpos : Pos) (params : Arguments) (body : Expr) (scope : Scope) (y : Str) (i : Nat) (sp : Heap → Sp) : TE := fun σ H Q => ∃ ps wv, H P = some (.tbl ps) ∧ TriplesOk ps.toList ∧ codeAmong lpos ps.toList = none ∧ σ[i]? = some (some wv) ∧
  ∀ c' f fd base', Mod X.K X.mg base' → LamAt params body scope y base' f fd wv → sp base' [.ref f] (upd H P (.tbl (ps ++ #[rawInt lpos.line, rawInt lpos.col, .ref c']))) Q E0
theorem pe_lamCall (F : ∀ base', Mod X.K X.mg base' → FnOk X.prog X.w X.K X.mg base' CX0 k fN fdN [q] (sp base')) (hr : Room k X.A) (hg : Gl X x) (hm : X.mg x = some (.ref fN)) (hk : PySem.W.keepIn X.K (.ref fN) = true) (hb : Binds X.K fdN [q] [])
    (hc : X.env.code = .ref c) (C : PySem.W.CodeHd X.base c P) (bm : BMod X.mg X.base) (hN : X.N[i]? = some y) (hv : X.env.scope.names.lookup y = some .cell) (hfn : X.fn y = true)
    (S : scope.kind = .function ∧ scope.isCoroutine = false ∧ scope.isGenerator = false ∧ (∀ x ∈ scope.names, x.2 ≠ .cell) ∧ scope.names.lookup y = some .free ∧ ∀ x ∈ scope.names, x.2 = .free → x.1 = y)
    (hps : defaultsOf params X.env = ([], [])) (hdb : (x == ("__debug__" : Str)) = false := by decide) (he : starEach [.Lambda params body scope lpos] X.env = [(false, eval (.Lambda params body scope lpos) X.env)] := by rfl) :
    PE X (.Call (.Name x p) [.Lambda params body scope lpos] [] pos) (tLam X P lpos params body scope y i sp) := by
  intro pins s σ H Q I zz
  obtain ⟨ps, wv, hP, ht, hnf, hσ, h⟩ := zz
  refine wpAny_Call_Name_kw (ld_glob I hg hm ?_ hdb)
  obtain ⟨S1, S2, S3, S4, S5, S6⟩ := S
  -- the cells that it takes along
  have hcell : ∃ cy, X.env.cells.lookup y = some cy := I.ok.has y (.inl hv)
  obtain ⟨cy, hcy⟩ := hcell
  obtain ⟨cl, hcl, cl1, cl2⟩ := closure_ok (scope := scope) (env := X.env) (fun z hz hfree => by rw [S6 z hz hfree]; exact ⟨cy, hcy⟩)
  have S' : Caught scope cl y cy := by
    obtain ⟨c0, e0⟩ := cl2 y (PySem.mem_of_lookup S5)
    have e1 := (cl1 y c0 e0).1
    rw [hcy] at e1
    cases e1
    refine ⟨S1, S2, S3, S4, S5, fun z hz => S6 (z, .free) (PySem.mem_of_lookup hz) rfl, e0, fun z c hz => ?_⟩
    obtain ⟨q1, q2⟩ := cl1 z c hz
    have e : z = y := S6 (z, .free) q2 rfl
    subst e
    rw [hcy] at q1
    cases q1
    exact ⟨rfl, rfl⟩
  obtain ⟨m, hn, hl⟩ := id I.loc
  obtain ⟨u, ru, hlook⟩ := hl i y wv hN hσ (.inr (.inl hv))
  obtain ⟨oc, hoc, hdc⟩ : s.heap.IsCell cy (some u) := by
    rcases hlook with ⟨z, _⟩ | ⟨_, c0, e0, z⟩
    · have z : X.env.scope.names.lookup y = some .local := z
      rw [hv] at z
      cases z
    · rw [hcy] at e0
      cases e0
      exact z
  have Hcy : H cy = none := I.freeC y cy hcy
  have hgs : s.heap.Ns mainGlobals X.mg := I.mod.glob.keeps I.bk
  obtain ⟨bmA, ob, b1, b2, b3, b4, b5, b6⟩ := bm
  have b3' := I.bk _ _ b3
  have hPs : s.heap.get? P = some (PySem.W.tabObj ps) := I.hok P _ hP
  have hgP : mainGlobals ≠ P := fun z => by
    obtain ⟨o, es, ep, e, hd, _⟩ := hgs
    rw [z, hPs] at e; cases e; cases hd
  have hbP : bmA ≠ P := fun z => by rw [z, hPs] at b3'; cases b3'; cases b4
  have hbG : bmA ≠ mainGlobals := fun z => by
    obtain ⟨o, es, ep, e, hd, _⟩ := hgs
    rw [z, e] at b3'; cases b3'; rw [hd] at b6; cases b6
  have neP : ∀ b, H b = none → b ≠ P := fun b e z => by rw [z, hP] at e; cases e
  refine PySem.W.callWith_K (h₀ := X.base) (rest := []) I.ok.mod.kin hk ?_ he (by rfl)
  rw [he]
  refine Calls.spliced_cons ?_
  refine PySem.W.kla_eval hps (PySem.W.kla_makeFunction (mg := X.mg) hcl I.ok.glob hgs hc (C.keeps I.bk) hPs ht hnf hgP ⟨bmA, ob, b1, b2, hbG, hbP, b3', b4, b5, b6⟩ fun c' ctv h' tk hx hge hlt hrec htb => ?_)
  obtain ⟨c2, oc2, vs2, tq, e2, hoc2, hd2, hv2⟩ := hrec
  cases e2
  have I1 : Inv X pins σ (upd H P (.tbl (ps ++ #[rawInt lpos.line, rawInt lpos.col, .ref c']))) { s with heap := h'.push (PySem.W.kla_obj "<lambda>" (X.env.qual ++ "<lambda>") params body scope cl ((X.mg "__name__").getD .none) c' ctv), toks := tk } :=
    I.tabbed hP (fun b o hb e => Heap.get?_push_of_some _ (hx b o hb e)) (Heap.get?_push_of_some _ htb)
  refine Calls.spliced_nil ⟨I1.kIn, ?_⟩
  have szf : s.heap.objs.size ≤ h'.objs.size := Nat.le_of_lt (Nat.lt_of_le_of_lt hge hlt)
  have gf := Heap.get?_push_size (o := PySem.W.kla_obj "<lambda>" (X.env.qual ++ "<lambda>") params body scope cl ((X.mg "__name__").getD .none) c' ctv) h' rfl
  have gc := Heap.get?_push_of_some (PySem.W.kla_obj "<lambda>" (X.env.qual ++ "<lambda>") params body scope cl ((X.mg "__name__").getD .none) c' ctv) hoc2
  have gy := Heap.get?_push_of_some (PySem.W.kla_obj "<lambda>" (X.env.qual ++ "<lambda>") params body scope cl ((X.mg "__name__").getD .none) c' ctv) (hx cy oc (neP cy Hcy) hoc)
  generalize h'.push (PySem.W.kla_obj "<lambda>" (X.env.qual ++ "<lambda>") params body scope cl ((X.mg "__name__").getD .none) c' ctv) = h2 at *
  have Hf : H h'.objs.size = none := I.hok.fresh szf
  have Hc : H c' = none := I.hok.fresh hge
  have K1 : ∀ b o, X.base.get? b = some o → (moreBase h2 X.base [h'.objs.size, c', cy]).get? b = some o := fun b o e => moreBase_get (I1.bk b o e) (.inl ⟨o, e⟩)
  have M1 := I1.mod.keeps K1
  have e0 : Env0 X.prog X.w X.K X.mg (moreBase h2 X.base [h'.objs.size, c', cy]) X.A X.stack { s with heap := h2, toks := tk } (upd H P (.tbl (ps ++ #[rawInt lpos.line, rawInt lpos.col, .ref c']))) := by
    refine ⟨I1.ok.frames, M1, fun b o e => ?_, Nat.le_of_eq moreBase_size, frames_more I1.stack fun a ha z => ?_, I1.stkFree, I1.hok, I1.bare⟩
    · obtain ⟨e1, k⟩ := of_moreBase e
      refine ⟨e1, ?_⟩
      rcases k with ⟨o', k⟩ | k
      · exact (I1.bs b o' k).2
      · have : H b = none := by
          rcases List.mem_cons.mp k with rfl | k
          · exact Hf
          · rcases List.mem_cons.mp k with rfl | k
            · exact Hc
            · rw [List.mem_singleton.mp k]; exact Hcy
        rw [upd_ne (neP b this)]
        exact this
    · have ol : a < s.heap.objs.size := by
        obtain ⟨_, o, ho, _⟩ := I.stack.mem z
        exact Heap.lt_size ho
      rcases List.mem_cons.mp ha with rfl | ha
      · exact absurd (Nat.lt_of_lt_of_le ol szf) (Nat.lt_irrefl _)
      · rcases List.mem_cons.mp ha with rfl | ha
        · exact absurd (Nat.lt_of_lt_of_le ol hge) (Nat.lt_irrefl _)
        · obtain rfl := List.mem_singleton.mp ha
          rcases List.mem_cons.mp (I.stkSub a z) with z | z
          · exact I.cne y a hcy z
          · obtain ⟨_, o, ho, _⟩ := I.ok.funs.mem z
            exact absurd (Nat.lt_of_lt_of_le (Heap.lt_size ho) (I.ok.cab y a hfn hcy)) (Nat.lt_irrefl _)
  have L : LamAt params body scope y (moreBase h2 X.base [h'.objs.size, c', cy]) h'.objs.size _ wv := ⟨_, cl, _, c', ctv, cy, u, rfl, moreBase_get gf (.inr (by simp)), ⟨c', oc2, vs2, tq, rfl, moreBase_get gc (.inr (by simp)), hd2, hv2⟩, S', ⟨oc, moreBase_get gy (.inr (by simp)), hdc⟩, ru⟩
  refine wpAny_call (codeAny_mono ((F _ M1).run X.A X.stack _ _ ⟨[.ref h'.objs.size], []⟩ [.ref h'.objs.size] [.ref h'.objs.size] Q E0 hr e0 (hb _ [.ref h'.objs.size] I1.kIn rfl) (.cons rfl .nil) (h c' _ _ _ M1 L)) fun r s' hq => ?_)
  cases r with
  | error e => exact False.elim hq
  | ok fl =>
    cases fl with
    | ret u => exact I1.after hq
    | next => exact False.elim hq
    | brk => exact False.elim hq
    | cont => exact False.elim hq
end
end L2

set_option Elab.async false
set_option linter.all false
set_option maxRecDepth 100000
set_option maxHeartbeats 1000000
namespace L2
open PySem PySem.Spec PyProof.Rows
noncomputable def OnlyT (T : Addr) (H : Hp) : Prop := ∀ b, H b = none ∨ (b ≠ T ∧ ∃ o xs, H b = some (.frz o (.lst xs))) ∨ (b = T ∧ H b = some (.tbl #[]))

theorem law_callT {P : Program} {w : World} {K : PySem.W.Frag} {mg mb : Str → Option Value} {CX : CXT} {k : Nat} {fa a T c : Addr} {fd : FuncData} {x : Str} {sp : Sp} {s₁ : Shared} {vs : List Value} {ns : List Int}
    (KX : K.In s₁.heap) (hT : s₁.heap.get? T = some (PySem.W.tabObj #[])) (KT : K.lookup T = none) (hC : PySem.W.CodeHd s₁.heap c T) (hns : s₁.heap.Ns mainGlobals mg) (hb : s₁.heap.Ns builtinsNs mb) (hbb : ∀ x : Str, x ≠ "__name__" → mb x = bootBuiltins x) (hlim : s₁.heap.NoLimit)
    (hbm : BMod mg s₁.heap) (hg : s₁.gens = #[])
    (ha : s₁.heap.get? a = some { cls := .type "list", data := .seq vs.toArray }) (hi : IntsAre vs ns) (hl : ns.length ≤ sizeLine) (hr : Room k callerA)
    (F : ∀ base : Heap, K.In base → base.Ns mainGlobals mg → BMod mg base → FnOk P w K mg base CX k fa fd [x] sp) (hbind : ∀ (s : Shared) (u : Value), BindsTo s fd ⟨[u], []⟩ [(x, u)])
    (hsp : ∀ H : Hp, OnlyT T H → H T = some (.tbl #[]) → SqL K H a (ns.map V.int) → sp [.ref a] H (fun v _ => v = .bl true) fun _ _ _ => False)
    (hCX : ∀ H e s', CX [] H s₁ (fun _ _ _ => False) e s' → False) :
    codeAny (model P w) callerA (.call (.ref fa) ⟨[.ref a], []⟩) (fun r s' => r = .ok (.ret (.bool true)) ∧ OldK s₁.heap s'.heap ∧ s'.os = s₁.os ∧ AllBare s'.gens) s₁ := by
  have rv := vals_ints hi
  have lenV := hi.length
  have aT : a ≠ T := fun z => by rw [z, hT] at ha; cases ha
  have core : ∀ H : Hp, OnlyT T H → H T = some (.tbl #[]) → SqL K H a (ns.map V.int) → HOk P w H s₁.heap → (∀ b, H b ≠ none → b = a ∨ b = T) → (H a ≠ none → K.lookup a = none) →
      codeAny (model P w) callerA (.call (.ref fa) ⟨[.ref a], []⟩) (fun r s' => r = .ok (.ret (.bool true)) ∧ OldK s₁.heap s'.heap ∧ s'.os = s₁.os ∧ AllBare s'.gens) s₁ := by
    intro H hO hHT hS hok hA hK
    have base_of : ∀ {b : Addr} {o : Obj}, s₁.heap.get? b = some o → H b = none → (hidT s₁.heap H).get? b = some o := fun e n => hidT_get e n
    have noB : ∀ {b : Addr} {o : Obj}, s₁.heap.get? b = some o → (∀ its n, o.data ≠ .seq its n) → (∀ ps, o.data ≠ .fields ps) → H b = none := fun {b o} e d1 d2 => by
      cases q : H b with
      | none => rfl
      | some u =>
        rcases hA b (by rw [q]; simp) with e' | e'
        · subst e'; rw [ha] at e; cases e; exact absurd rfl (d1 _ _)
        · subst e'; rw [hT] at e; cases e; exact absurd rfl (d2 _)
    have nsK : ∀ {b : Addr} {m : Str → Option Value}, s₁.heap.Ns b m → (hidT s₁.heap H).Ns b m := fun {b m} ⟨o, es, ep, e, d, r⟩ => ⟨o, es, ep, base_of e (noB e (fun _ _ z => by rw [d] at z; cases z) (fun _ z => by rw [d] at z; cases z)), d, r⟩
    have hKb : K.In (hidT s₁.heap H) := fun b o e => base_of (KX b o e) (by
      cases q : H b with
      | none => rfl
      | some u =>
        rcases hA b (by rw [q]; simp) with e' | e'
        · subst e'; rw [hK (by rw [q]; simp)] at e; cases e
        · subst e'; rw [KT] at e; cases e)
    have hB : BMod mg (hidT s₁.heap H) := by
      obtain ⟨bm, o, b1, b2, b3, b4, b5, b6⟩ := hbm
      exact ⟨bm, o, b1, b2, base_of b3 (noB b3 (fun _ _ z => by rw [b6] at z; cases z) (fun _ z => by rw [b6] at z; cases z)), b4, b5, b6⟩
    have hM : Mod K mg (hidT s₁.heap H) := ⟨hKb, nsK hns, ⟨mb, nsK hb, hbb⟩, let ⟨mc, h1, h2⟩ := hlim; ⟨mc, nsK h1, h2⟩⟩
    have e0 : Env0 P w K mg (hidT s₁.heap H) callerA [] s₁ H := ⟨rfl, hM, fun b o e => of_hidT e, Nat.le_of_eq (hidT_size _ _), trivial, fun b hb => absurd (show b ∈ ([] : List Addr) from hb) (by simp), hok, .of_eq hg⟩
    refine codeAny_mono ((F _ hKb (nsK hns) hB).run callerA [] s₁ H ⟨[.ref a], []⟩ [.ref a] [.ref a] _ _ hr e0 (hbind s₁ (.ref a)) (.cons rfl .nil) (hsp H hO hHT hS)) fun r s' h => ?_
    cases r with
    | error e => exact (hCX H e s' h).elim
    | ok fl =>
      cases fl with
      | next => exact False.elim h
      | brk => exact False.elim h
      | cont => exact False.elim h
      | ret u =>
        obtain ⟨v, H', os, bare, un, hok', r', q⟩ := h
        have q' : v = .bl true := q
        subst q'
        obtain rfl : u = Value.bool true := r'
        obtain ⟨more, em⟩ := un.tbls T #[] hHT
        have hT' : s'.heap.get? T = some (PySem.W.tabObj (#[] ++ more)) := hok' T _ em
        have keep : ∀ b o, s₁.heap.get? b = some o → b ≠ T → s'.heap.get? b = some o := fun b o e hb => by
          rcases hO b with z | ⟨_, ob, xs, z⟩ | ⟨z, _⟩
          · exact un.keep b o e z (by intro z; exact absurd (show b ∈ ([] : List Addr) from z) (by simp)) (by simp)
          · have z2 := un.frzs b ob _ z
            obtain ⟨e1, _⟩ := hok b _ z
            obtain ⟨e2, _⟩ := hok' b _ z2
            rw [e] at e1; cases e1
            exact e2
          · exact absurd z hb
        refine ⟨rfl, ⟨fun b o e => ?_, fun b o e => ?_⟩, os, bare⟩
        · by_cases hb : b = T
          · subst hb
            rw [hT] at e
            cases e
            exact .inr (.inl ⟨(hC.tab hT).isCodeTable, rfl, #[], more, rfl, hT'⟩)
          · exact .inl (keep b o e hb)
        · by_cases hb : b = T
          · subst hb; exact ⟨_, hT'⟩
          · exact ⟨o, keep b o e hb⟩
  cases hk : K.lookup a with
  | some o =>
    have e := KX a o hk
    rw [ha] at e
    cases e
    refine core (fun b => if b = T then some (.tbl #[]) else none) (fun b => ?_) (if_pos rfl) (.inr ⟨_, vs.toArray, _, hk, rfl, rfl, rfl, by rw [List.size_toArray, lenV]; exact hl, by simpa using rv⟩) (fun b u z => ?_) (fun b z => ?_) fun z => absurd (if_neg aT) z
    · by_cases hb : b = T
      · exact .inr (.inr ⟨hb, if_pos hb⟩)
      · exact .inl (if_neg hb)
    · by_cases hb : b = T
      · have z' := (if_pos hb).symm.trans z
        cases z'
        subst hb
        exact hT
      · have z' := (if_neg hb).symm.trans z
        cases z'
    · by_cases hb : b = T
      · exact .inr hb
      · exact absurd (if_neg hb) z
  | none =>
    refine core (fun b => if b = T then some (.tbl #[]) else if b = a then some (.frz { cls := .type "list", data := .seq vs.toArray } (.lst (ns.map V.int))) else none) (fun b => ?_) (if_pos rfl) (.inl (.inr ⟨{ cls := .type "list", data := .seq vs.toArray }, (if_neg aT).trans (if_pos rfl)⟩)) (fun b u z => ?_) (fun b z => ?_) fun _ => hk
    · by_cases hb : b = T
      · exact .inr (.inr ⟨hb, if_pos hb⟩)
      · by_cases hb2 : b = a
        · exact .inr (.inl ⟨hb, _, _, (if_neg hb).trans (if_pos hb2)⟩)
        · exact .inl ((if_neg hb).trans (if_neg hb2))
    · by_cases hb : b = T
      · have z' := (if_pos hb).symm.trans z
        cases z'
        subst hb
        exact hT
      · have z := (if_neg hb).symm.trans z
        by_cases hb2 : b = a
        · have z' := (if_pos hb2).symm.trans z
          cases z'
          subst hb2
          exact ⟨ha, by rw [List.length_map]; exact hl, vs, _, rv, ha⟩
        · have z' := (if_neg hb2).symm.trans z
          cases z'
    · by_cases hb : b = T
      · exact .inr hb
      · by_cases hb2 : b = a
        · exact .inl hb2
        · exact absurd ((if_neg hb).trans (if_neg hb2)) z

theorem walk_ofT {l : PySem.W.OpenLaw} {n k : Nat} {q : Program} {loose : List Str} {XP : (Str → Option Value) → Heap → Prop} {YP : World → Heap → Prop} {d : DefRec} {K : Params → PySem.W.Frag} {CX : CXT} {sp : Addr → PySem.W.Frag → Sp} {x : Str} {T : Addr}
    (hn : l.most = some n) (hn2 : n ≤ sizeLine) (hdf : d.params.defaults = []) (hr : Room k callerA)
    (hY : ∀ (w : World) (h : Heap), YP w h → (K w.params).In h ∧ h.get? T = some (PySem.W.tabObj #[]))
    (hK : ∀ w : World, (K w.params).lookup T = none)
    (F : ∀ (w : World) (mg : Str → Option Value) (fa : Addr) (h : Heap), (K w.params).In h → h.Ns mainGlobals mg → mg d.name = some (.ref fa) →
      ∃ (fd : FuncData) (c : Addr), (∀ (s : Shared) (u : Value), BindsTo s fd ⟨[u], []⟩ [(x, u)]) ∧ PySem.W.codeHdIn (K w.params) c T = true ∧
        ∀ base : Heap, (K w.params).In base → base.Ns mainGlobals mg → BMod mg base → FnOk l.prog w (K w.params) mg base CX k fa fd [x] (sp T (K w.params)))
    (hsp : ∀ (K : PySem.W.Frag) (H : Hp) (a : Addr) (ns : List Int), ns.length ≤ n → OnlyT T H → H T = some (.tbl #[]) → SqL K H a (ns.map V.int) → sp T K [.ref a] H (fun v _ => v = .bl true) fun _ _ _ => False)
    (hCX : ∀ (H : Hp) (s : Shared) (e : Value) (s' : Shared), CX [] H s (fun _ _ _ => False) e s' → False) :
    PySem.W.WalkO q loose XP YP l.row.toRowW d [] (fun f vs => PySem.call f vs) := by
  refine Att.attach_call hn hdf fun w s₀ s₁ mg mb fa o pm cd doc a vs ns G Y ho hd hcd hmg hobj hints hlen hg => ?_
  obtain ⟨KX, hT⟩ := hY w _ Y
  obtain ⟨fd, c, hb, hc, hF⟩ := F w mg fa _ KX G.T.g hmg
  exact law_callT KX hT (hK w) (PySem.W.codeHd_of_K KX hc) G.T.g G.T.b G.T.builtins G.T.nolimit G.T.bmain hg hobj hints (Nat.le_trans hlen hn2) hr hF hb (fun H hO hH hS => hsp (K w.params) H a ns hlen hO hH hS) fun H e s' => hCX H s₁ e s'
end L2

set_option Elab.async false
set_option linter.all false
set_option maxRecDepth 100000
set_option maxHeartbeats 4000000
namespace W
open PySem L2
noncomputable def spNone (P : Program) (w : World) (K : PySem.W.Frag) (mg : Str → Option Value) (CN : Addr) (k : Nat) (base : Heap) : Sp := fun vs H Q _ => ∃ (f : Addr) (fd : FuncData) (spw : Sp), vs = [.ref f] ∧ FnOk P w K mg base (CX1 P w) k f fd [] spw ∧ PySem.W.FnAt f base ∧
  (∀ s : Shared, BindsTo s fd ⟨[], []⟩ []) ∧ (∀ (Q' : VK) (E' : XK), (∀ d fs H', Same H H' → H' d = some (excD d fs) → E' (.ref CN) (some d) H') → spw [] H Q' E') ∧ ∀ H', Same H H' → Q (.bl true) H'
section
variable {P : Program} {w : World} {K : PySem.W.Frag} {mg : Str → Option Value} {base : Heap}
noncomputable abbrev nNn : List Str := ["_law_work", "_law_e"]
theorem scNn : FnScope nNn ["_law_work"] (defScope sL_none) := ⟨rfl, rfl, rfl, by decide +kernel, rfl, by decide +kernel, by decide +kernel⟩
noncomputable def ExNn (CN : Addr) (Q : VK) : Addr → Option Addr → St → Hp → Prop := fun C' dx σ H' => C' = CN ∧ σ.length = 2 ∧ ∃ (d : Addr) (fs : List (Str × V)), dx = some d ∧ H' d = some (excD d fs) ∧ ∀ H'', Same H' H'' → Q (.bl true) H''
theorem ok_none {f CN CM fIs : Addr} {fd fdIs : FuncData} {k : Nat} (F : Fn K mg "_law_none" sL_none ["_law_work"] f fd) (mgM : mg "MomentError" = some (.ref CM)) (exm : PySem.W.exmOne K (.ref CN) (.ref CM) = some true) (hk : 1 ≤ k)
    (FIs : Fn K mg "_law_is" sL_is ["_law_e", "_law_word"] fIs fdIs) (GIs : FnOkH P w K mg base CX0 1 fIs fdIs ["_law_e", "_law_word"] (spIs CN "times")) :
    FnOk P w K mg base CX0 (k + 1) f fd ["_law_work"] (spNone P w K mg CN k base) := by
  refine F.F.ok scNn (fun vs H Q E h => ?_) (fun cdv A outer s H vs Q E hr h => ?_)
  · obtain ⟨_, _, _, rfl, _⟩ := h
    rfl
  · obtain ⟨fw, fdw, spw, rfl, GW, fnw, bw, q, kq⟩ := h
    have hr1 : Room 1 _ := hr.mono hk
    refine ⟨_, pss_cons (ps_tryA (i := 1) (Cn := CM) (Ex := ExNn CN Q) rfl rfl scNn.nd rfl rfl rfl mgM
        (fun pins => pss_one (ps_expr (pe_callV0 (i := 0) GW hr fnw bw rfl (Or.inl rfl))))
        (fun a => pss_one (ps_ret (pe_callX rfl GIs ⟨hr1.dp, hr1.un⟩ rfl FIs.g FIs.F.kp FIs.b .nil pass0 (pa_cons (pv 1) (pa_cons pe_str pa_nil))))))
      (pss_one ps_never), ?_⟩
    refine ⟨?_, fun C' dx' σ' H' hEx => ?_⟩
    · exact ⟨rfl, q _ _ fun d fs H' s' ed => ⟨CN, rfl, rfl, rfl, d, fs, rfl, ed, fun H'' s'' => kq H'' (s'.trans s'')⟩⟩
    · obtain ⟨rfl, hlen, dd, fs, rfl, ed, kk⟩ := hEx
      refine ⟨exm, fun ea t tb hea => ?_⟩
      have se := same_new (o := excZ ea C' (some dd) t tb) hea
      have ze : upd H' ea (excZ ea C' (some dd) t tb) ea = some (excZ ea C' (some dd) t tb) := upd_same
      have dE := se _ _ ed
      generalize upd H' ea (excZ ea C' (some dd) t tb) = H8 at *
      exact ⟨_, List.getElem?_set_self (by omega), ⟨_, _, _, _, _, ze⟩, ea, dd, t, tb, _, _, rfl, ze, dE, fun H9 s9 => kk H9 (se.trans s9)⟩
end
end W

/-! The earliest times of bounds, and of the same bounds with what a moment asks of itself brought to nought. -/
namespace MB
open MA
theorem relax_le {p : Nat → Int} {s : Rx} {x : B3} (h : ∀ i, s.t i ≤ p i) (hx : p x.2.1 - p x.1 ≤ x.2.2) (i : Nat) : (relax s x).t i ≤ p i := by
  unfold relax
  split
  · show put s.t x.1 (s.t x.2.1 - x.2.2) i ≤ p i
    unfold put
    split
    · rename_i e
      have := h x.2.1
      rw [e]
      omega
    · exact h i
  · exact h i
theorem fold_le {p : Nat → Int} : ∀ {B : List B3} {s : Rx}, (∀ i, s.t i ≤ p i) → (∀ x ∈ B, p x.2.1 - p x.1 ≤ x.2.2) → ∀ i, (B.foldl relax s).t i ≤ p i
  | [], _, h, _, i => h i
  | x :: B, s, h, hb, i => by
    rw [List.foldl_cons]
    exact fold_le (B := B) (fun i => relax_le h (hb x List.mem_cons_self) i) (fun y hy => hb y (List.mem_cons_of_mem _ hy)) i
theorem rounds_le {B : List B3} {p : Nat → Int} (h0 : ∀ i, 0 ≤ p i) (hb : ∀ x ∈ B, p x.2.1 - p x.1 ≤ x.2.2) : ∀ k i, (rounds B k).t i ≤ p i
  | 0, i => h0 i
  | k + 1, i => fold_le (B := B) (s := begin (rounds B k)) (fun i => rounds_le h0 hb k i) hb i
theorem relax_ge {s : Rx} {x : B3} (i : Nat) : s.t i ≤ (relax s x).t i := by
  unfold relax
  split
  · rename_i h
    show s.t i ≤ put s.t x.1 (s.t x.2.1 - x.2.2) i
    unfold put
    split
    · rename_i e
      rw [e]
      omega
    · exact Int.le_refl _
  · exact Int.le_refl _
theorem fold_ge : ∀ {B : List B3} {s : Rx} (i : Nat), s.t i ≤ (B.foldl relax s).t i
  | [], _, _ => Int.le_refl _
  | x :: B, s, i => by
    rw [List.foldl_cons]
    exact Int.le_trans (relax_ge i) (fold_ge (B := B) i)
theorem rounds_ge {B : List B3} : ∀ k i, 0 ≤ (rounds B k).t i
  | 0, _ => Int.le_refl _
  | k + 1, i => Int.le_trans (rounds_ge k i) (fold_ge (B := B) (s := begin (rounds B k)) i)
structure Two (n : Nat) (la : Int) (B W : List B3) (O : Nat → Prop) : Prop where
  o0 : O 0
  own : ∀ x ∈ B, O x.1 ∧ O x.2.1
  le : ∀ x ∈ B, ∃ m, (x.1, x.2.1, m) ∈ W ∧ m ≤ x.2.2
  eq : ∀ x ∈ W, x ∈ B ∨ (x.1 = x.2.1 ∧ 0 ≤ x.2.2)
  up : ∀ i, 1 ≤ i → i < n → O i → (0, i, la) ∈ B
  dn : ∀ i, 1 ≤ i → i < n → O i → (i, 0, 0) ∈ B
open Classical in
noncomputable def onO (O : Nat → Prop) (t : Nat → Int) (z : Int) : Nat → Int := fun i => if O i then t i else z
theorem onO_y {O : Nat → Prop} {t : Nat → Int} {z : Int} {i : Nat} (h : O i) : onO O t z i = t i := by unfold onO; rw [if_pos h]
theorem onO_n {O : Nat → Prop} {t : Nat → Int} {z : Int} {i : Nat} (h : ¬ O i) : onO O t z i = z := by unfold onO; rw [if_neg h]
section
variable {n : Nat} {la lb : Int} {B W : List B3} {O : Nat → Prop} {t : Nat → Int}
theorem Two.near (h : Two n la B W O) (hla : 0 ≤ la) (ht : ∀ x ∈ B, t x.2.1 - t x.1 ≤ x.2.2) {i : Nat} (hi : i < n) (ho : O i) : t 0 ≤ t i ∧ t i ≤ t 0 + la := by
  by_cases e : i = 0
  · subst e; omega
  · have a : t i - t 0 ≤ la := ht _ (h.up i (by omega) hi ho)
    have b : t 0 - t i ≤ 0 := ht _ (h.dn i (by omega) hi ho)
    omega
theorem Two.pot (h : Two n la B W O) (hla : 0 ≤ la) (hl : la ≤ lb) (ht : ∀ x ∈ B, t x.2.1 - t x.1 ≤ x.2.2) : Pot n lb W (onO O t (t 0)) := by
  have nr : ∀ i, i < n → t 0 ≤ onO O t (t 0) i ∧ onO O t (t 0) i ≤ t 0 + la := fun i hi => by
    by_cases o : O i
    · rw [onO_y o]; exact h.near hla ht hi o
    · rw [onO_n o]; omega
  refine ⟨fun i j hi hj _ => ?_, fun x hx => ?_⟩
  · have a := nr i hi
    have b := nr j hj
    omega
  · rcases h.eq x hx with q | ⟨q, z⟩
    · obtain ⟨o1, o2⟩ := h.own x q
      rw [onO_y o1, onO_y o2]
      exact ht x q
    · rw [q]; omega
theorem Two.is (h : Two n la B W O) (hn : 1 ≤ n) (hla : 0 ≤ la) (hl : la ≤ lb) (hB : InB n B) (hW : InB n W) {k : Nat} (hq : (rounds B (k + 1)).q = none) {i : Nat} (hi : i < n) (ho : O i) : (rounds B (k + 1)).t i = 0 - allI n n (tabB W (T0 lb)) i 0 := by
  have ht := (quiet hq).2
  have P := h.pot hla hl ht
  have tab := tight_tab P
  rw [law_tab P i 0 hi (by omega)]
  -- moment 0 comes at 0
  have z : (rounds B (k + 1)).t 0 = 0 := by
    have up := rounds_le (B := B) (p := onO (fun i => O i ∧ i < n) (fun i => (rounds B (k + 1)).t i - (rounds B (k + 1)).t 0) 0) (fun i => by
      by_cases o : O i ∧ i < n
      · rw [onO_y (O := fun i => O i ∧ i < n) o]
        have := h.near hla ht o.2 o.1
        show 0 ≤ (rounds B (k + 1)).t i - (rounds B (k + 1)).t 0
        omega
      · rw [onO_n (O := fun i => O i ∧ i < n) o]; exact Int.le_refl _) (fun x hx => by
      obtain ⟨o1, o2⟩ := h.own x hx
      obtain ⟨b1, b2⟩ := hB x hx
      rw [onO_y (O := fun i => O i ∧ i < n) ⟨o1, b1⟩, onO_y (O := fun i => O i ∧ i < n) ⟨o2, b2⟩]
      have := ht x hx
      omega) (k + 1) 0
    rw [onO_y (O := fun i => O i ∧ i < n) ⟨h.o0, by omega⟩] at up
    have lo := rounds_ge (B := B) (k + 1) 0
    omega
  have low := tab.low i 0 hi (by omega)
  rw [onO_y ho, onO_y h.o0, z] at low
  -- no times are earlier
  have up := rounds_le (B := B) (p := onO (fun i => O i ∧ i < n) (fun i => 0 - tightF n lb W i 0) 0) (fun i => by
      by_cases o : O i ∧ i < n
      · rw [onO_y (O := fun i => O i ∧ i < n) o]
        show 0 ≤ 0 - tightF n lb W i 0
        by_cases e : i = 0
        · subst e
          rw [tab.dia 0 (by omega)]
          exact Int.le_refl _
        · obtain ⟨m, hm, hle⟩ := h.le _ (h.dn i (by omega) o.2 o.1)
          have b : tightF n lb W i 0 ≤ m := tight_b hm
          have hle : m ≤ 0 := hle
          omega
      · rw [onO_n (O := fun i => O i ∧ i < n) o]; exact Int.le_refl _) (fun x hx => by
      obtain ⟨o1, o2⟩ := h.own x hx
      obtain ⟨b1, b2⟩ := hB x hx
      rw [onO_y (O := fun i => O i ∧ i < n) ⟨o1, b1⟩, onO_y (O := fun i => O i ∧ i < n) ⟨o2, b2⟩]
      obtain ⟨m, hm, hle⟩ := h.le x hx
      have b : tightF n lb W x.1 x.2.1 ≤ m := tight_b hm
      have c := tab.tri x.2.1 b2 x.1 0 b1 (by omega)
      omega) (k + 1) i
  rw [onO_y (O := fun i => O i ∧ i < n) ⟨ho, hi⟩] at up
  omega
end
end MB

set_option Elab.async false
set_option linter.all false
set_option maxRecDepth 100000
set_option maxHeartbeats 4000000
namespace L2
open PySem PySem.Spec PyProof.Rows
theorem Fun.okC {P : Program} {w : World} {K : PySem.W.Frag} {mg : Str → Option Value} {base : Heap} {x qual : Str} {st : Stmt} {f c : Addr} {fd : FuncData} {N ps : List Str} {k : Nat} {sp : Sp} (F : Fun K x qual st f fd) (hc : fd.code = .ref c) (S : FnScope N ps (defScope st)) (len : ∀ vs H Q E, sp vs H Q E → vs.length = ps.length)
    (hbody : ∀ (A : Around) (outer : List Env) (s : Shared) (H : Hp) (vs : List V) (Q : VK) (E : XK), Room k (A.deeper (PyProof.Rows.envOfC qual (defScope st) s.heap.objs.size f (.ref c))) → sp vs H Q E →
      ∃ t, PSs (cxOf CX0 P w K mg base N qual (defScope st) f (.ref c) A outer s H E).nox (defBody st) t ∧ t { nx := fun _ H' => Q .non H', rt := Q } (start N vs) H) : FnOk P w K mg base CX0 (k + 1) f fd ps sp := by
  obtain ⟨oc, od, kV, doc, pm, an, cdv, ct, osl, rfl, lk, hcd⟩ := F.ex
  obtain rfl : cdv = .ref c := hc
  refine fn_of lk hcd S len fun A outer s H vs Q E hr hsp => ?_
  obtain ⟨t, h, q⟩ := hbody A outer s H vs Q E hr hsp
  exact ⟨t, h.nox, q⟩
end L2
namespace MB
theorem two_self {n : Nat} {la : Int} {B : List B3} (r : Room0 n la B) : Two n la B B (fun _ => True) := ⟨trivial, fun _ _ => ⟨trivial, trivial⟩, fun x hx => ⟨x.2.2, hx, Int.le_refl _⟩, fun _ hx => .inl hx, fun i a b _ => r.up i a b, fun i a b _ => r.dn i a b⟩
end MB
namespace W
open PySem L2
noncomputable def spLawT (T : Addr) (K : PySem.W.Frag) : Sp := fun vs H Q _ => ∃ a ns, vs = [.ref a] ∧ ScrAt K H a ns ∧ H T = some (.tbl #[]) ∧ ∀ H', Q (.bl true) H'
theorem scr_ofT {K : PySem.W.Frag} {H : Hp} {a T : Addr} {ns : List Int} (o : OnlyT T H) (h : SqL K H a (ns.map V.int)) : ScrAt K H a ns := by
  rcases h with (h | h) | h
  · rcases o a with z | ⟨_, ob, xs, z⟩ | ⟨_, z⟩
    · rw [z] at h; cases h
    · rw [z] at h; cases h
    · rw [z] at h; cases h
  · exact .inl h
  · exact .inr h
theorem ints_lsI : ∀ {N : Nat} {tt : List Int}, tt.length = N → tt.map V.int = lsI N (fun i => tt.getD i 0) := by
  intro N tt h
  rw [lsI_map]
  congr 1
  refine List.ext_getElem (by rw [List.length_map, List.length_range, h]) fun i h1 h2 => ?_
  rw [List.getElem_map, List.getElem_range, List.getD_eq_getElem?_getD, List.getElem?_eq_getElem h1]
  rfl
theorem rows_ned {K : PySem.W.Frag} {sa d : Addr} {H : Hp} {a : Addr} {rows : List (List Int)} (h : RowsAt H a rows) (D : Dice K sa H d) : a ≠ d := fun e => by
  obtain ⟨ps, h, _⟩ := h
  obtain ⟨p, q⟩ := D.at_
  rw [e, q] at h
  have h := HO.lst.inj (Option.some.inj h)
  cases ps with
  | nil => cases h
  | cons x t =>
    cases t with
    | nil => cases h
    | cons y t => cases h
theorem WebAt.keep {K : PySem.W.Frag} {sa d C p : Addr} {H H' : Hp} {n la : Int} {T F : List (List Int)} (h : WebAt C H p n la T F) (D : Dice K sa H d) (k : Keep d H H') : WebAt C H' p n la T F := by
  obtain ⟨dx, ta, fa, e, rt, rf⟩ := h
  obtain ⟨q, hd⟩ := id D.at_
  exact ⟨dx, ta, fa, k _ _ e (ne_of e hd (fun z => nomatch z)), rt.keep k hd (rows_ned rt D), rf.keep k hd (rows_ned rf D)⟩
theorem DrawnAt.keepD {K : PySem.W.Frag} {sa d : Addr} {H H' : Hp} {wp ta fa : Addr} {n la : Int} {T F : List (List Int)} (h : DrawnAt H wp ta fa n la T F) (D : Dice K sa H d) (k : Keep d H H') : DrawnAt H' wp ta fa n la T F := by
  obtain ⟨q, hd⟩ := id D.at_
  exact h.keep k hd (rows_ned h.t D) (rows_ned h.f D)
theorem rows_tab {Tb : Addr} {H H' : Hp} {ps : Array Value} {a : Addr} {rows : List (List Int)} (h : RowsAt H a rows) (k : Keep Tb H H') (hT : H Tb = some (.tbl ps)) : RowsAt H' a rows := by
  obtain ⟨qs, e, q⟩ := h
  exact ⟨qs, k _ _ e (ne_of e hT (fun z => nomatch z)), paired_imp q fun _ _ e => k _ _ e (ne_of e hT (fun z => nomatch z))⟩
theorem WebAt.tab {Tb C p : Addr} {H H' : Hp} {ps : Array Value} {n la : Int} {T F : List (List Int)} (h : WebAt C H p n la T F) (k : Keep Tb H H') (hT : H Tb = some (.tbl ps)) : WebAt C H' p n la T F := by
  obtain ⟨dx, ta, fa, e, rt, rf⟩ := h
  exact ⟨dx, ta, fa, k _ _ e (ne_of e hT (fun z => nomatch z)), rows_tab rt k hT, rows_tab rf k hT⟩
theorem DrawnAt.tab {Tb : Addr} {H H' : Hp} {ps : Array Value} {wp ta fa : Addr} {n la : Int} {T F : List (List Int)} (h : DrawnAt H wp ta fa n la T F) (k : Keep Tb H H') (hT : H Tb = some (.tbl ps)) : DrawnAt H' wp ta fa n la T F :=
  ⟨k _ _ h.tup (ne_of h.tup hT (fun z => nomatch z)), rows_tab h.t k hT, rows_tab h.f k hT⟩
theorem rows_nei {H : Hp} {a q : Addr} {rows : List (List Int)} {N : Nat} {t : Nat → Int} (h : RowsAt H a rows) (hq : H q = some (.lst (lsI N t))) (hN : 1 ≤ N) : a ≠ q := fun e => by
  obtain ⟨ps, h, _⟩ := h
  rw [e, hq] at h
  have h := HO.lst.inj (Option.some.inj h)
  have h0 : (lsI N t)[0]? = some (.int (t 0)) := lsI_get (by omega)
  rw [h] at h0
  cases ps with
  | nil => cases h0
  | cons x r => cases h0
theorem WebAt.keepI {C p q : Addr} {H H' : Hp} {n la : Int} {T F : List (List Int)} {N : Nat} {t : Nat → Int} (h : WebAt C H p n la T F) (k : Keep q H H') (hq : H q = some (.lst (lsI N t))) (hN : 1 ≤ N) : WebAt C H' p n la T F := by
  obtain ⟨dx, ta, fa, e, rt, rf⟩ := h
  exact ⟨dx, ta, fa, k _ _ e (ne_of e hq (fun z => nomatch z)), rt.keep k hq (rows_nei rt hq hN), rf.keep k hq (rows_nei rf hq hN)⟩
theorem DrawnAt.keepI {q : Addr} {H H' : Hp} {wp ta fa : Addr} {n la : Int} {T F : List (List Int)} {N : Nat} {t : Nat → Int} (h : DrawnAt H wp ta fa n la T F) (k : Keep q H H') (hq : H q = some (.lst (lsI N t))) (hN : 1 ≤ N) : DrawnAt H' wp ta fa n la T F :=
  h.keep k hq (rows_nei h.t hq hN) (rows_nei h.f hq hN)
theorem keep_upd0 {d : Addr} {H : Hp} {o : HO} : Keep d H (upd H d o) := fun b u e n => by rw [upd_ne n]; exact e
section
variable {P : Program} {w : World} {K : PySem.W.Frag} {mg : Str → Option Value} {base : Heap}
noncomputable abbrev n03 : List Str := ["_law_script", "_law_d", "_law_w", "_law_web_here", "_law_table_here", "_law_times", "_law_dues", "_law_way", "_law_at", "_law_handed", "_law_found"]
theorem sc03 : FnScope n03 ["_law_script"] (defScope sLaw) := ⟨rfl, rfl, rfl, by decide +kernel, rfl, by decide +kernel, by decide +kernel⟩
theorem co3a : CompOk (defScope sLaw) n03 (fsc [(".0", .local), ("_law_k", .local), ("_law_next", .globalImplicit), ("_law_d", .free), ("_law_w", .free)]) ["_law_k", "_law_d", "_law_w"] [none, some 1, some 2] := ⟨rfl, by decide +kernel, by decide +kernel, by decide +kernel, rfl, by decide +kernel⟩
theorem co3b : CompOk (defScope sLaw) n03 (fsc [(".0", .local), ("_law_k", .local), ("_law_table_here", .free)]) ["_law_k", "_law_table_here"] [none, some 4] := ⟨rfl, by decide +kernel, by decide +kernel, by decide +kernel, rfl, by decide +kernel⟩
theorem nd3a : (["_law_k", "_law_d", "_law_w"] : List Str).Nodup := by decide +kernel
theorem nd3b : (["_law_k", "_law_table_here"] : List Str).Nodup := by decide +kernel
section
seal L2.PE L2.PA L2.PT L2.PS L2.PSs L2.PG L2.PGs L2.PI L2.PO
noncomputable def brT (s : Stmt) : List Stmt := match s with
  | .If _ a _ _ => a
  | _ => []
noncomputable def brF (s : Stmt) : List Stmt := match s with
  | .If _ _ b _ => b
  | _ => []
noncomputable abbrev s6 : Stmt := (defBody sLaw).getD 5 (.Pass ⟨0, 0, 0, 0⟩)
variable {A : Around} {outer : List Env} {s : Shared} {H0 : Hp} {E : XK} {Q : VK} {f c C CN : Addr}
noncomputable def J3 (C d wp x ta fa : Addr) (N : Nat) (la : Int) (rT rF : List (List Int)) : St → Hp → Prop := fun σ' H' => ∃ (v0 v4 v6 v7 v8 : Option V) (tl' : Addr) (t' : Nat → Int), σ' = [v0, some (.ref d), some (.ref wp), some (.ref x), v4, some (.ref tl'), v6, v7, v8, none, none] ∧ H' tl' = some (.lst (lsI N t')) ∧ DrawnAt H' wp ta fa (N : Int) la rT rF ∧ WebAt C H' x (N : Int) la rT rF
theorem law_c {fKp fLK : Addr} {fdKp fdLK : FuncData} (T : TxtK K mg) (kbb : PySem.W.kitOne K (.type "bool") (.type "bool") = some true)
    (FKp : Fn K mg "keeps" sP_keeps ["web", "times"] fKp fdKp) (GKp : FnOk P w K mg base CX0 4 fKp fdKp ["web", "times"] (spKeeps C))
    (FLK : Fn K mg "_law_keeps" sL_keeps ["_law_w", "_law_times"] fLK fdLK) (GLK : FnOk P w K mg base CX0 2 fLK fdLK ["_law_w", "_law_times"] spLKeeps)
    (hr : Room 7 (A.deeper (PyProof.Rows.envOfC "law" (defScope sLaw) s.heap.objs.size f (.ref c)))) (k : ∀ H', Q (.bl true) H') (nx : St → Hp → Prop) :
    ∃ t, PSs (cxOf CX0 P w K mg base n03 "law" (defScope sLaw) f (.ref c) A outer s H0 E).nox ((defBody sLaw).drop 6) t ∧ ∀ {d wp x ta fa : Addr} {N : Nat} {la : Int} {rT rF : List (List Int)}, WebOk (N : Int) la rT rF → ∀ σ' H', J3 C d wp x ta fa N la rT rF σ' H' → t { nx := nx, rt := Q } σ' H' := by
  have hr1 : Room 1 _ := hr.mono (by decide)
  have hr2 : Room 2 _ := hr.mono (by decide)
  have hr4 : Room 4 _ := hr.mono (by decide)
  refine ⟨_, pss_consA (ps_set (i := 9) sc03.nd rfl (Or.inl rfl) (pe_callTy call_list_of (by rfl) T.list (by decide +kernel) (pa_cons (pv 5) pa_nil)))
      (pss_consA (ps_set (i := 10) sc03.nd rfl (Or.inl rfl) (pe_call GKp hr4 rfl FKp.g FKp.F.kp FKp.b .nil pass0 (pa_cons (pv 3) (pa_cons (pv 9) pa_nil))))
      (pss_one (ps_ret (pe_and (pe_callB call_isinst (by rfl) T.isi (by decide +kernel) (pa_cons (pv 10) (pa_cons (pe_bltn (v := .ty "bool") rfl T.bool (by decide +kernel) rfl) pa_nil)))
        (pe_and (pe_cmpR op_eq (pv 10) (pe_call GLK hr2 rfl FLK.g FLK.F.kp FLK.b .nil pass0 (pa_cons (pv 2) (pa_cons (pv 5) pa_nil))) (nomark _)) (pe_one (pe_cmpR (op_eqI hr.units) (pv 9) (pv 5) (nomark _)))))))), ?_⟩
  rintro d wp x ta fa N la rT rF hok σ' H' ⟨v0, v4, v6, v7, v8, tl', t', rfl, et', DA', W'⟩
  refine fun N6 c6 => ⟨_, rfl, tl', _, rfl, .inl (SqL.of et'), fun hl hhl => c6 _ _ ?_⟩
  have sh := same_new (o := .lst (lsI N t')) hhl
  refine fun N7 c7 => ⟨_, rfl, _, rfl, x, hl, N, la, rT, rF, t', rfl, W'.same sh, hok, upd_same, fun b H7 s7 hb => c7 _ _ ?_⟩
  refine ⟨_, rfl, _, _, _, _, rfl, .bl b, kbb, _, rfl, iteT ?_⟩
  refine ⟨_, rfl, _, rfl, _, rfl, wp, ta, fa, tl', N, la, rT, rF, t', rfl, (DA'.same sh).same s7, hok, s7 _ _ (sh _ _ et'), fun b2 H8 s8 hb2 => ⟨rfl, _, rfl, ?_⟩⟩
  have bb : b = b2 := by
    cases b <;> cases b2
    · rfl
    · exact absurd (hb.mpr (hb2.mp rfl)) (by decide)
    · exact absurd (hb2.mpr (hb.mp rfl)) (by decide)
    · rfl
  refine iteBT (decide_eq_true (by rw [bb])) ?_
  have f1 := s8 _ _ (s7 _ _ (upd_same (H := H') (a := hl) (o := .lst (lsI N t'))))
  have f2 := s8 _ _ (s7 _ _ (sh _ _ et'))
  rw [lsI_map] at f1 f2
  exact ⟨_, rfl, _, rfl, hl, tl', _, _, rfl, rfl, SqL.of f1, SqL.of f2, bl_of (k _) (by simp)⟩
theorem law_n {Tb fE fTl fNo : Addr} {fdE fdTl fdNo : FuncData} (hC : PySem.W.CodeHd base c Tb) (bm : BMod mg base)
    (FE : Fn K mg "earliest" sP_earliest ["web"] fE fdE) (GE : ∀ b : Heap, FnOk P w K mg b (CX1 P w) 4 fE fdE ["web"] (spEarl C CN))
    (FTl : Fn K mg "latest" sP_latest ["web"] fTl fdTl) (GTl : ∀ b : Heap, FnOk P w K mg b (CX1 P w) 5 fTl fdTl ["web"] (spLate C CN))
    (FNo : Fn K mg "_law_none" sL_none ["_law_work"] fNo fdNo) (GNo : ∀ b : Heap, FnOk P w K mg b CX0 7 fNo fdNo ["_law_work"] (spNone P w K mg CN 6 b))
    (hr : Room 7 (A.deeper (PyProof.Rows.envOfC "law" (defScope sLaw) s.heap.objs.size f (.ref c)))) :
    ∃ t, PSs (cxOf CX0 P w K mg base n03 "law" (defScope sLaw) f (.ref c) A outer s H0 E).nox (brT s6) t ∧ ∀ {a d wp x ta fa tl : Addr} {N : Nat} {la : Int} {rT rF : List (List Int)} {tt : Nat → Int}, WebOk (N : Int) la rT rF → 1 ≤ N → N ≤ 8 → 1 ≤ la → la ≤ 60 → ∀ nx : St → Hp → Prop, (∀ σ' H', J3 C d wp x ta fa N la rT rF σ' H' → nx σ' H') → ∀ H9 : Hp, DrawnAt H9 wp ta fa (N : Int) la rT rF → WebAt C H9 x (N : Int) la rT rF → H9 Tb = some (.tbl #[]) → H9 tl = some (.lst (lsI N tt)) → (∃ i, i < N ∧ lawT N (allB (N : Int) la rT rF) i i < 0) →
      t { nx := nx, rt := Q } [some (.ref a), some (.ref d), some (.ref wp), some (.ref x), some .non, some (.ref tl), none, none, none, none, none] H9 := by
  refine ⟨_, pss_consA (ps_if (pt_not (pt_val (pe_lamCall (i := 3) (P := Tb) (fun b _ => GNo b) hr rfl FNo.g FNo.F.kp FNo.b rfl hC bm rfl rfl rfl ⟨rfl, rfl, rfl, by decide +kernel, rfl, by decide +kernel⟩ rfl))) pss_never pss_nil)
        (pss_one (ps_if (pt_not (pt_val (pe_lamCall (i := 3) (P := Tb) (fun b _ => GNo b) hr rfl FNo.g FNo.F.kp FNo.b rfl hC bm rfl rfl rfl ⟨rfl, rfl, rfl, by decide +kernel, rfl, by decide +kernel⟩ rfl))) pss_never pss_nil)), ?_⟩
  intro a d wp x ta fa tl N la rT rF tt hok n1 n8 hl1 hl2 nx hnx H9 DA9 W9 T9 et hneg
  have hB := hok.idx.inB
  have hno : ∀ kk, kk < N → (MB.rounds ((allB (N : Int) la rT rF).map ofRow) (kk + 1)).q ≠ none := fun kk hkk hq => by
    have pot := pot_of hl1 hq
    obtain ⟨i, hi, hlt⟩ := hneg
    have e := MB.law_is (lb := big) (by omega) (by show la ≤ 10 ^ 6; omega) room0_of hB pot i i hi hi
    have dia := (MB.tight_tab pot).dia i hi
    have hlt : MB.allI N N (MB.tabB ((allB (N : Int) la rT rF).map ofRow) (MB.T0 big)) i i < 0 := hlt
    omega
  refine fun N6 c6 => ⟨#[], _, T9, trivial, rfl, rfl, fun c' fl fdl b' M' L => ?_⟩
  refine ⟨fl, fdl, _, rfl, fn_lam (k := 5) (sp := fun H Q E => spEarl C CN [.ref x] H Q E) L (fun qual cd clos A outer s H Q E hr h => ⟨_, pe_call (GE b') (hr.mono (by decide)) rfl FE.g FE.F.kp FE.b .nil (passL (E := E) fun _ _ _ z => z) (pa_cons (pv 0) pa_nil), _, rfl, h⟩), L.fnAt, ?_, ?_, ?_⟩
  · intro s
    obtain ⟨_, _, _, _, _, _, _, rfl, _⟩ := L.at_
    exact .of_eq rfl
  · exact fun Q' E' hE => ⟨rfl, x, N, la, rT, rF, rfl, W9.tab keep_upd0 T9, hok, fun kk _ _ hkk hq => absurd hq (hno kk hkk), fun _ dd fs H' _ s' ed => hE dd fs H' s' ed⟩
  intro H10 s10
  refine ⟨_, rfl, iteB rfl (c6 _ _ ?_)⟩
  have T10 := s10 _ _ (upd_same (H := H9) (a := Tb))
  have W10 := (W9.tab keep_upd0 T9).same s10
  have DA10 := (DA9.tab keep_upd0 T9).same s10
  have e10 := s10 _ _ (keep_upd0 _ _ et (ne_of et T9 (fun z => nomatch z)))
  refine ⟨_, _, T10, ?_, ?_, rfl, fun c'' fl fdl b' M' L => ?_⟩
  · trivial
  · rfl
  refine ⟨fl, fdl, _, rfl, fn_lam (k := 5) (sp := fun H Q E => spLate C CN [.ref x] H Q E) L (fun qual cd clos A outer s H Q E hr h => ⟨_, pe_call (GTl b') (hr.mono (by decide)) rfl FTl.g FTl.F.kp FTl.b .nil (passL (E := E) fun _ _ _ z => z) (pa_cons (pv 0) pa_nil), _, rfl, h⟩), L.fnAt, ?_, ?_, ?_⟩
  · intro s
    obtain ⟨_, _, _, _, _, _, _, rfl, _⟩ := L.at_
    exact .of_eq rfl
  · exact fun Q' E' hE => ⟨rfl, x, N, la, rT, rF, rfl, W10.tab keep_upd0 T10, hok, fun kk _ _ hkk hq => absurd hq (hno kk hkk), fun _ dd fs H' _ s' ed => hE dd fs H' s' ed⟩
  intro H11 s11
  refine ⟨_, rfl, iteB rfl (hnx _ _ ⟨_, _, _, _, _, tl, _, rfl, s11 _ _ (keep_upd0 _ _ e10 (ne_of e10 T10 (fun z => nomatch z))), (DA10.tab keep_upd0 T10).same s11, (W10.tab keep_upd0 T10).same s11⟩)⟩
theorem law_g {fN fL fE fTl : Addr} {fdN fdL fdE fdTl : FuncData} (T : TxtK K mg)
    (FN : Fn K mg "_law_next" sNext ["_law_dice", "_law_many"] fN fdN) (GN : FnOk P w K mg base CX0 1 fN fdN ["_law_dice", "_law_many"] (spNext K))
    (FL : Fn K mg "_law_like" sL_like ["_law_found", "_law_due"] fL fdL) (GL : FnOk P w K mg base CX0 2 fL fdL ["_law_found", "_law_due"] (spLike 1))
    (FE : Fn K mg "earliest" sP_earliest ["web"] fE fdE) (GE : ∀ b : Heap, FnOk P w K mg b (CX1 P w) 4 fE fdE ["web"] (spEarl C CN))
    (FTl : Fn K mg "latest" sP_latest ["web"] fTl fdTl) (GTl : ∀ b : Heap, FnOk P w K mg b (CX1 P w) 5 fTl fdTl ["web"] (spLate C CN))
    (hr : Room 7 (A.deeper (PyProof.Rows.envOfC "law" (defScope sLaw) s.heap.objs.size f (.ref c)))) :
    ∃ t, PSs (cxOf CX0 P w K mg base n03 "law" (defScope sLaw) f (.ref c) A outer s H0 E).nox (brF s6) t ∧ ∀ {a d wp x ta fa tl dl : Addr} {ds : List Addr} {N : Nat} {la : Int} {rT rF : List (List Int)} {tt : Nat → Int}, WebOk (N : Int) la rT rF → 1 ≤ N → N ≤ 8 → 1 ≤ la → la ≤ 60 → ∀ nx : St → Hp → Prop, (∀ σ' H', J3 C d wp x ta fa N la rT rF σ' H' → nx σ' H') → ∀ H9 : Hp, DrawnAt H9 wp ta fa (N : Int) la rT rF → WebAt C H9 x (N : Int) la rT rF → Dice K a H9 d → H9 tl = some (.lst (lsI N tt)) → GridAt H9 dl ds N (lawT N (allB (N : Int) la rT rF)) → (∀ i, i < N → 0 ≤ lawT N (allB (N : Int) la rT rF) i i) →
      t { nx := nx, rt := Q } [some (.ref a), some (.ref d), some (.ref wp), some (.ref x), some (.ref dl), some (.ref tl), none, none, none, none, none] H9 := by
  have hr1 : Room 1 _ := hr.mono (by decide)
  have hr2 : Room 2 _ := hr.mono (by decide)
  have hr4 : Room 4 _ := hr.mono (by decide)
  have hr5 : Room 5 _ := hr.mono (by decide)
  refine ⟨_, pss_consA (ps_set (i := 6) sc03.nd rfl (Or.inl rfl) (pe_lst (pa_cons (pe_comp rfl (pi_range1 rfl T.range (pa_cons (pe_ix ix_tup0 (pv 2) pe_int (fun _ _ => rfl)) pa_nil)) co3b
            (fun cl ex s0 H0 => ⟨pg_name (i := 0) nd3b rfl (Or.inl rfl), pif_none, pe_op op_sub pe_int (pe_ix ix_list0 (pe_ix ix_list0 (pv 1) (pv 0) (fun _ _ => rfl)) pe_int (fun _ _ => rfl))⟩))
          (pa_cons (pe_callTy call_list_of (by rfl) T.list (by decide +kernel) (pa_cons (pe_ix ix_list0 (pv 4) pe_int (fun _ _ => rfl)) pa_nil)) pa_nil))))
        (pss_consA (ps_if (PW.pt (pw_or (pt_not (pt_val (pe_call GL hr2 rfl FL.g FL.F.kp FL.b .nil pass0 (pa_cons (pe_call (GE base) hr4 rfl FE.g FE.F.kp FE.b .nil passN (pa_cons (pv 3) pa_nil)) (pa_cons (pe_ix ix_list0 (pv 6) pe_int (fun _ _ => rfl)) pa_nil)))))
          (pw_or1 (pt_not (pt_val (pe_call GL hr2 rfl FL.g FL.F.kp FL.b .nil pass0 (pa_cons (pe_call (GTl base) hr5 rfl FTl.g FTl.F.kp FTl.b .nil passN (pa_cons (pv 3) pa_nil)) (pa_cons (pe_ix ix_list0 (pv 6) pe_int (fun _ _ => rfl)) pa_nil)))))))) pss_never pss_nil)
        (pss_consA (ps_set (i := 7) sc03.nd rfl (Or.inl rfl) (pe_call GN hr1 rfl FN.g FN.F.kp FN.b .nil pass0 (pa_cons (pv 1) (pa_cons pe_int pa_nil))))
        (pss_one (ps_if (pt_cmpR op_lt (pv 7) pe_int (nomark _))
          (pss_consA (ps_set (i := 5) sc03.nd rfl (Or.inl rfl) (pe_ix ix_list0 (pv 6) (pv 7) (fun _ _ => rfl)))
          (pss_consA (ps_set (i := 8) sc03.nd rfl (Or.inl rfl) (pe_call GN hr1 rfl FN.g FN.F.kp FN.b .nil pass0 (pa_cons (pv 1) (pa_cons (pe_ix ix_tup0 (pv 2) pe_int (fun _ _ => rfl)) pa_nil))))
          (pss_one (ps_asg (pe_op op_sub (pe_op op_add (pe_ix ix_list0 (pv 5) (pv 8) (fun _ _ => rfl)) (pe_call GN hr1 rfl FN.g FN.F.kp FN.b .nil pass0 (pa_cons (pv 1) (pa_cons pe_int pa_nil)))) pe_int) (pg_sub (pv 5) (pv 8) set_list))))) pss_nil)))), ?_⟩
  intro a d wp x ta fa tl dl ds N la rT rF tt hok n1 n8 hl1 hl2 nx hnx H9 DA9 W9 D9 et G9 hpos
  have hB := hok.idx.inB
  obtain ⟨kk0, hkk0, hq0⟩ : ∃ kk, kk < N ∧ (MB.rounds ((allB (N : Int) la rT rF).map ofRow) (kk + 1)).q = none := by
    rcases MB.two_ways n1 hB with h | ⟨_, h⟩
    · exact h
    · exact absurd (MB.times_of (by omega) hB hpos) h
  have two := MB.two_self (room0_of (N := N) (la := la) (T := rT) (F := rF))
  have tis : ∀ kk, (MB.rounds ((allB (N : Int) la rT rF).map ofRow) (kk + 1)).q = none → ∀ i, i < N → (MB.rounds ((allB (N : Int) la rT rF).map ofRow) (kk + 1)).t i = 0 - lawT N (allB (N : Int) la rT rF) i 0 := fun kk hq i hi =>
    two.is (lb := big) n1 (by omega) (by show la ≤ 10 ^ 6; omega) hB hB hq hi trivial
  have lis := MB.law_is (lb := big) (by omega) (by show la ≤ 10 ^ 6; omega) room0_of hB (pot_of hl1 hq0)
  -- what is due
  refine fun N6 c6 => ⟨_, rfl, rdT DA9.tup rfl ⟨_, rfl, by omega, by omega, fun Da hDa => ?_⟩⟩
  have sDa := same_new (o := .lst []) hDa
  refine comp_range (n := ((N : Int)).toNat) (fun i σ' H' => ∃ v, σ' = [v, some (.ref dl)] ∧ H' Da = some (.lst (lsI i fun j => 0 - lawT N (allB (N : Int) la rT rF) j 0)) ∧ Same H9 H') ⟨none, rfl, upd_same, sDa⟩ ?_ ?_
  · rintro i σ' H10 hi ⟨v, rfl, e10, s10⟩
    rw [Int.toNat_natCast] at hi
    have G10 := G9.same s10
    obtain ⟨r, hr'⟩ := G10.has hi
    have ei : (0 : Int) + (i : Int) = (i : Int) := by omega
    rw [ei]
    refine ⟨_, rfl, rdLv rfl G10.top (G10.at_ hr') (rdL (G10.row i r hr') (lsI_at (i := 0) (by omega)) ⟨_, _, rfl, rfl, _, e10, ?_, _, rfl, ?_, fun b o e => ?_⟩)⟩
    · rw [lsI_len]
      exact small1000 (by omega)
    · rw [upd_same, lsI_succ]
    · rw [upd_ne (ne_of_none e hDa)]
      exact s10 _ _ e
  rintro σ' H10 ⟨v, rfl, e10, s10⟩
  rw [Int.toNat_natCast] at e10
  have G10 := G9.same s10
  obtain ⟨q0, hq0'⟩ := G10.has (i := 0) (by omega)
  have Dad : Da ≠ d := fun e => by
    obtain ⟨o, q⟩ := D9.there
    rw [← e, hDa] at q
    cases q
  refine ⟨_, rfl, rdL G10.top (G10.at_ hq0') ⟨q0, _, rfl, .inl (SqL.of (G10.row 0 q0 hq0')), fun l2 hl2 => ⟨by show 2 ≤ sizeLine; decide, fun p hp => c6 _ _ ?_⟩⟩⟩
  have sl2 := same_new (o := .lst (lsI N (lawT N (allB (N : Int) la rT rF) 0))) hl2
  have sp := same_new (o := .lst [V.ref Da, V.ref l2]) hp
  have s11 := (s10.trans sl2).trans sp
  have e11 := sp _ _ (sl2 _ _ e10)
  have l11 := sp _ _ (upd_same (H := H10) (a := l2) (o := .lst (lsI N (lawT N (allB (N : Int) la rT rF) 0))))
  have p11 : upd (upd H10 l2 (.lst (lsI N (lawT N (allB (N : Int) la rT rF) 0)))) p (.lst [V.ref Da, V.ref l2]) p = some (.lst [V.ref Da, V.ref l2]) := upd_same
  have l2d : l2 ≠ d := fun e => by
    obtain ⟨o, q⟩ := D9.there
    rw [← e] at q
    rw [s10 _ _ q] at hl2
    cases hl2
  have pd : p ≠ d := fun e => by
    obtain ⟨o, q⟩ := D9.there
    rw [← e] at q
    rw [sl2 _ _ (s10 _ _ q)] at hp
    cases hp
  generalize upd (upd H10 l2 (.lst (lsI N (lawT N (allB (N : Int) la rT rF) 0)))) p (.lst [V.ref Da, V.ref l2]) = H11 at *
  have W11 := W9.same s11
  have D11 := D9.same s11
  have DA11 := DA9.same s11
  have t11 := s11 _ _ et
  clear sl2 sp s10 e10 sDa hDa G10 G9 s11
  -- earliest, latest
  refine fun N7 c7 => ⟨_, rfl, x, N, la, rT, rF, rfl, W11, hok, fun kk lE H12 hkk hq hlE s12 eE => ⟨_, rfl, rdL (s12 _ _ p11) rfl ⟨_, _, rfl, ?_, _, rfl, iteB rfl ?_⟩⟩, fun hno => absurd hq0 (hno kk0 hkk0)⟩
  · exact .inr (.inr ⟨lE, Da, _, _, rfl, rfl, .inl ⟨eE, s12 _ _ e11⟩, by rw [lsI_len, lsI_len], by rw [lsI_len]; omega, ints_like fun i hi => tis kk hq i hi⟩)
  refine ⟨_, rfl, x, N, la, rT, rF, rfl, W11.same s12, hok, fun kk' lL H13 hkk' hq' hlL s13 eL => ⟨_, rfl, rdL (s13 _ _ (s12 _ _ p11)) rfl ⟨_, _, rfl, ?_, _, rfl, iteB rfl (c7 _ _ ?_)⟩⟩, fun hno => absurd hq0 (hno kk0 hkk0)⟩
  · exact .inr (.inr ⟨lL, l2, _, _, rfl, rfl, .inl ⟨eL, s13 _ _ (s12 _ _ l11)⟩, by rw [lsI_len, lsI_len], by rw [lsI_len]; omega, ints_like fun i hi => (lis 0 i (by omega) hi).symm⟩)
  have s := s12.trans s13
  have e13 := s _ _ e11
  have l13 := s _ _ l11
  have p13 := s _ _ p11
  have W13 := W11.same s
  have D13 := D11.same s
  have DA13 := DA11.same s
  have t13 := s _ _ t11
  clear s s12 s13 eE eL W11 D11 DA11 e11 l11 p11 t11 hlE hlL
  -- which way
  refine fun N8 c8 => ⟨_, rfl, d, a, _, rfl, D13, by decide, fun way H14 g0 g1 D14 k14 => c8 _ _ ?_⟩
  have e14 := k14 _ _ e13 Dad
  have l14 := k14 _ _ l13 l2d
  have p14 := k14 _ _ p13 pd
  have W14 := W13.keep D13 k14
  have DA14 := DA13.keepD D13 k14
  have tld : tl ≠ d := fun e => by
    obtain ⟨pz, hdz⟩ := D13.at_
    rw [e, hdz] at t13
    have h0 : (lsI N tt)[0]? = some (.int (tt 0)) := lsI_get (i := 0) (by omega)
    rw [← HO.lst.inj (Option.some.inj t13)] at h0
    cases h0
  have t14 := k14 _ _ t13 tld
  clear k14 e13 l13 p13 W13 DA13 t13 D13
  refine ⟨_, rfl, _, _, rfl, rfl, _, rfl, ite2 (fun hw => ?_) (fun _ => hnx _ _ ⟨_, _, _, _, _, tl, _, rfl, t14, DA14, W14⟩)⟩
  have hw' : way < 2 := by simpa using hw
  obtain ⟨q, tq, hat, eq, qd⟩ : ∃ (q : Addr) (tq : Nat → Int), atI [V.ref Da, V.ref l2] way = some (.ref q) ∧ H14 q = some (.lst (lsI N tq)) ∧ q ≠ d := by
    by_cases c : way = 0
    · exact ⟨Da, _, by rw [c]; rfl, e14, Dad⟩
    · have : way = 1 := by omega
      exact ⟨l2, _, by rw [this]; rfl, l14, l2d⟩
  refine fun N9 c9 => ⟨_, rfl, rdLv rfl p14 hat (c9 _ _ ?_)⟩
  refine fun N10 c10 => ⟨_, rfl, _, rfl, rdT DA14.tup rfl ⟨d, a, _, rfl, D14, by omega, fun at_ H15 g2 g3 D15 k15 => c10 _ _ ?_⟩⟩
  obtain ⟨m, rfl⟩ : ∃ m : Nat, at_ = m := ⟨at_.toNat, by omega⟩
  have hm : m < N := by omega
  have eq15 := k15 _ _ eq qd
  have W15 := W14.keep D14 k15
  have DA15 := DA14.keepD D14 k15
  refine ⟨_, rfl, rdLv rfl eq15 (lsI_at hm) ⟨_, rfl, d, a, _, rfl, D15, by decide, fun r3 H16 g4 g5 D16 k16 => ⟨_, _, rfl, rfl, _, _, rfl, rfl, ?_⟩⟩⟩
  have eq16 := k16 _ _ eq15 qd
  have W16 := W15.keep D15 k16
  have DA16 := DA15.keepD D15 k16
  refine ⟨_, rfl, _, rfl, q, _, _, m, rfl, rfl, eq16, lsI_ix hm, ?_⟩
  rw [lsI_set]
  exact hnx _ _ ⟨_, _, _, _, _, q, _, rfl, upd_same, DA16.keepI keep_upd0 eq16 n1, W16.keepI keep_upd0 eq16 n1⟩
theorem ok_law {Tb fN fW fE fTl fKp fI fL fLT fLB fLK fNo : Addr} {fd fdN fdW fdE fdTl fdKp fdI fdL fdLT fdLB fdLK fdNo : FuncData} (F : Fn K mg "law" sLaw ["_law_script"] f fd) (hc : fd.code = .ref c) (hC : PySem.W.CodeHd base c Tb) (bm : BMod mg base) (T : TxtK K mg) (TC : TxtC K mg C)
    (kbb : PySem.W.kitOne K (.type "bool") (.type "bool") = some true)
    (FN : Fn K mg "_law_next" sNext ["_law_dice", "_law_many"] fN fdN) (GN : FnOk P w K mg base CX0 1 fN fdN ["_law_dice", "_law_many"] (spNext K))
    (FW : Fn K mg "_law_web" sWeb ["_law_d", "_law_most", "_law_last", "_law_wide"] fW fdW) (GW : FnOk P w K mg base CX0 3 fW fdW ["_law_d", "_law_most", "_law_last", "_law_wide"] (spWeb K))
    (FE : Fn K mg "earliest" sP_earliest ["web"] fE fdE) (GE : ∀ b : Heap, FnOk P w K mg b (CX1 P w) 4 fE fdE ["web"] (spEarl C CN))
    (FTl : Fn K mg "latest" sP_latest ["web"] fTl fdTl) (GTl : ∀ b : Heap, FnOk P w K mg b (CX1 P w) 5 fTl fdTl ["web"] (spLate C CN))
    (FKp : Fn K mg "keeps" sP_keeps ["web", "times"] fKp fdKp) (GKp : FnOk P w K mg base CX0 4 fKp fdKp ["web", "times"] (spKeeps C))
    (M : Mk K C fI) (bI : Binds K fdI ["self", "many", "last", "ties", "falls"] []) (GI : FnOk P w K mg base CX0 3 fI fdI ["self", "many", "last", "ties", "falls"] (spInit C))
    (FL : Fn K mg "_law_like" sL_like ["_law_found", "_law_due"] fL fdL) (GL : FnOk P w K mg base CX0 2 fL fdL ["_law_found", "_law_due"] (spLike 1))
    (FLT : Fn K mg "_law_table" sL_table ["_law_many", "_law_bounds_here"] fLT fdLT) (GLT : FnOk P w K mg base CX0 1 fLT fdLT ["_law_many", "_law_bounds_here"] spLTable)
    (FLB : Fn K mg "_law_bounds" sL_bounds ["_law_w"] fLB fdLB) (GLB : FnOkH P w K mg base CX0 1 fLB fdLB ["_law_w"] spLBounds)
    (FLK : Fn K mg "_law_keeps" sL_keeps ["_law_w", "_law_times"] fLK fdLK) (GLK : FnOk P w K mg base CX0 2 fLK fdLK ["_law_w", "_law_times"] spLKeeps)
    (FNo : Fn K mg "_law_none" sL_none ["_law_work"] fNo fdNo) (GNo : ∀ b : Heap, FnOk P w K mg b CX0 7 fNo fdNo ["_law_work"] (spNone P w K mg CN 6 b)) :
    FnOk P w K mg base CX0 8 f fd ["_law_script"] (spLawT Tb K) := by
  refine F.F.okC hc sc03 (fun vs H Q E h => ?_) (fun A outer s H vs Q E hr h => ?_)
  · obtain ⟨a, ns, rfl, _⟩ := h
    rfl
  · obtain ⟨a, ns, rfl, hS, hTb, k⟩ := h
    have hr1 : Room 1 _ := hr.mono (by decide)
    have hr2 : Room 2 _ := hr.mono (by decide)
    have hr3 : Room 3 _ := hr.mono (by decide)
    have hr4 : Room 4 _ := hr.mono (by decide)
    have hr5 : Room 5 _ := hr.mono (by decide)
    obtain ⟨tC, hC', rC⟩ := law_c (f := f) (c := c) (C := C) (A := A) (outer := outer) (s := s) (H0 := H) (E := E) (base := base) (Q := Q) T kbb FKp GKp FLK GLK hr k (fun _ H' => Q .non H')
    obtain ⟨tN, hN', rN⟩ := law_n (f := f) (c := c) (C := C) (A := A) (outer := outer) (s := s) (H0 := H) (E := E) (Q := Q) hC bm FE GE FTl GTl FNo GNo hr
    obtain ⟨tG, hG', rG⟩ := law_g (f := f) (c := c) (C := C) (A := A) (outer := outer) (s := s) (H0 := H) (E := E) (Q := Q) T FN GN FL GL FE GE FTl GTl hr
    refine ⟨_, pss_consA (ps_set (i := 1) sc03.nd rfl (Or.inr rfl) (pe_lst (pa_cons (pv 0) (pa_cons pe_int pa_nil))))
      (pss_consA (ps_set (i := 2) sc03.nd rfl (Or.inr rfl) (pe_call GW hr3 rfl FW.g FW.F.kp FW.b .nil pass0 (pa_cons (pv 1) (pa_cons pe_int (pa_cons
        (pe_ix ix_list0 (pe_lst (pa_cons pe_int (pa_cons pe_int pa_nil))) (pe_callTy call_int1 (by rfl) T.int (by decide +kernel) (pa_cons (pe_cmpR op_eq (pe_call GN hr1 rfl FN.g FN.F.kp FN.b .nil pass0 (pa_cons (pv 1) (pa_cons pe_int pa_nil))) pe_int (nomark _)) pa_nil)) (fun _ _ => rfl)) (pa_cons pe_int pa_nil))))))
      (pss_consA (ps_set (i := 3) sc03.nd rfl (Or.inr rfl) (pe_make M GI hr4 rfl TC.mgC bI .nil pass0 (pa_cons (pe_ix ix_tup0 (pv 2) pe_int (fun _ _ => rfl)) (pa_cons (pe_ix ix_tup0 (pv 2) pe_int (fun _ _ => rfl)) (pa_cons (pe_ix ix_tup0 (pv 2) pe_int (fun _ _ => rfl)) (pa_cons (pe_ix ix_tup0 (pv 2) pe_int (fun _ _ => rfl)) pa_nil))))))
      (pss_consA (ps_set (i := 4) sc03.nd rfl (Or.inr rfl) (pe_call GLT hr1 rfl FLT.g FLT.F.kp FLT.b .nil pass0 (pa_cons (pe_ix ix_tup0 (pv 2) pe_int (fun _ _ => rfl)) (pa_cons (pe_call GLB.fn hr1 rfl FLB.g FLB.F.kp FLB.b .nil pass0 (pa_cons (pv 2) pa_nil)) pa_nil))))
      (pss_consA (ps_set (i := 5) sc03.nd rfl (Or.inl rfl) (pe_op op_cat (pe_lst (pa_cons pe_int pa_nil)) (pe_comp rfl (pi_range1 rfl T.range (pa_cons (pe_op op_sub (pe_ix ix_tup0 (pv 2) pe_int (fun _ _ => rfl)) pe_int) pa_nil)) co3a
        (fun cl ex s0 H0 => ⟨pg_name (i := 0) nd3a rfl (Or.inl rfl), pif_none, pe_op op_sub (pe_call GN hr1 rfl FN.g FN.F.kp FN.b .nil pass0 (pa_cons (pv 1) (pa_cons (pe_op op_add (pe_ix ix_tup0 (pv 2) pe_int (fun _ _ => rfl)) pe_int) pa_nil))) pe_int⟩))))
      (pss_cons (ps_cut (ps_if (pt_cmpR op_isN (pv 4) pe_non (nomark _)) hN' hG')) hC'))))), ?_⟩
    -- the dice
    refine fun N1 c1 => ⟨_, rfl, by show 2 ≤ sizeLine; decide, fun d hd => c1 _ _ ?_⟩
    have sd := same_new (o := .lst [.ref a, .int 0]) hd
    have D1 : Dice K a (upd H d (.lst [.ref a, .int 0])) d := ⟨⟨0, upd_same⟩, ⟨ns, hS.same sd⟩⟩
    have T1 := sd _ _ hTb
    generalize upd H d (.lst [.ref a, .int 0]) = H1 at *
    -- [20, 60][..]
    refine fun N2 c2 => ⟨_, rfl, by show 2 ≤ sizeLine; decide, fun ll hll => ?_⟩
    have lld : ll ≠ d := fun z => by
      obtain ⟨o, q⟩ := D1.there
      rw [← z, hll] at q
      cases q
    refine ⟨_, rfl, d, a, 4, rfl, D1.new hll, by decide, fun r0 H2 _ _ D2 k2 => ⟨rfl, .inr ⟨_, rfl, ?_⟩⟩⟩
    have e2 := k2 _ _ (upd_same (H := H1) (a := ll) (o := .lst [.int 20, .int 60])) lld
    obtain ⟨p1, hd1⟩ := id D1.at_
    have T2 := k2 _ _ (same_new hll _ _ T1) (ne_of T1 hd1 (fun z => nomatch z))
    obtain ⟨lz, hlz1, hlz2, hat⟩ : ∃ lz : Int, 1 ≤ lz ∧ lz ≤ 60 ∧ atI [V.int 20, V.int 60] (if decide (V.int r0 = V.int 3) = true then 1 else 0) = some (.int lz) := by
      by_cases e : r0 = 3
      · exact ⟨60, by decide, by decide, by subst e; rfl⟩
      · refine ⟨20, by decide, by decide, ?_⟩
        have : decide (V.int r0 = V.int 3) = false := decide_eq_false fun z => e (V.int.inj z)
        rw [this]
        rfl
    refine ⟨ll, _, _, _, rfl, rfl, e2, hat, ?_⟩
    -- the web
    refine ⟨d, a, 8, lz, 8, rfl, D2, by decide, by decide, hlz1, hlz2, by decide, by decide, fun wp ta fa n la rT rF H3 etup RT RF hok n2 nm lm D3 k3 tad fad few => c2 _ _ ?_⟩
    obtain ⟨N, rfl⟩ : ∃ N : Nat, n = N := ⟨n.toNat, by omega⟩
    have DA3 : DrawnAt H3 wp ta fa (N : Int) la rT rF := ⟨etup, RT, RF⟩
    obtain ⟨p2, hd2⟩ := id D2.at_
    have T3 := k3 _ _ T2 (ne_of T2 hd2 (fun z => nomatch z))
    have hl1 := hok.l1
    have hl2 := hok.l2
    clear e2 k2 k3 few hat
    refine fun N3 c3 => ⟨_, rfl, rdT etup rfl ⟨_, rfl, rdT etup rfl ⟨_, rfl, rdT etup rfl ⟨_, rfl, rdT etup rfl fun x dx nx ndx nex => ?_⟩⟩⟩⟩
    have s3 : Same H3 (upd (upd H3 dx (.own x)) x (.ins C dx [])) := fun b o e => by
      rw [upd_ne (ne_of_none e nx), upd_ne (ne_of_none e ndx)]
      exact e
    refine ⟨x, dx, _, la, ta, fa, rT, rF, rfl, upd_same, RT.same s3, RF.same s3, hok, fun H4 W4 k4 => ⟨rfl, c3 _ _ ?_⟩⟩
    have s4 : Same H3 H4 := fun b o e => k4 b o (s3 b o e) (ne_of_none e nx)
    have DA4 := DA3.same s4
    have D4 := D3.same s4
    have T4 := s4 _ _ T3
    clear k4 s3 nx ndx
    have hix := hok.idx
    have hB := hix.inB
    have n1 : 1 ≤ N := by have := hok.n1; omega
    have n8 : N ≤ 8 := by have := hok.n2; omega
    -- the law's own table
    refine fun N4 c4 => ⟨_, rfl, rdT DA4.tup rfl ⟨_, rfl, wp, ta, fa, _, la, rT, rF, rfl, DA4, hok, fun bl H5 hbl s5 R5 => ?_⟩⟩
    have D5 := D4.same s5
    -- behind the table
    have rest : ∀ (vt : V) (H6 : Hp), Same H5 H6 → ((vt = .non ∧ ∃ i, i < N ∧ lawT N (allB (N : Int) la rT rF) i i < 0) ∨ ∃ dl ds, vt = .ref dl ∧ GridAt H6 dl ds N (lawT N (allB (N : Int) la rT rF)) ∧ dl ≠ d ∧ (∀ r ∈ ds, r ≠ d) ∧ ∀ i, i < N → 0 ≤ lawT N (allB (N : Int) la rT rF) i i) →
        N4 ((((((L2.start n03 [V.ref a]).set 1 (some (V.ref d))).set 2 (some (V.ref wp))).set 3 (some (V.ref x))).set 4 (some vt))) H6 := fun vt H6 s6 hv => c4 _ _ ?_
    · refine ⟨N, bl, _, rfl, n1, n8, R5, hix, fun hneg H6 s6 => rest _ _ s6 (.inl ⟨rfl, hneg⟩), fun hpos dl ds H6 hdl hds s6 G6 => rest _ _ s6 (.inr ⟨dl, ds, rfl, G6, ?_, ?_, hpos⟩)⟩
      · intro z
        obtain ⟨o, q⟩ := D5.there
        rw [← z, hdl] at q
        cases q
      · intro r hr z
        obtain ⟨o, q⟩ := D5.there
        rw [← z, hds r hr] at q
        cases q
    have DA6 := DA4.same (s5.trans s6)
    have D6 := D5.same s6
    have W6 := W4.same (s5.trans s6)
    have T6 := s6 _ _ (s5 _ _ T4)
    clear D1 D2 D3 D4 D5 DA3 DA4 W4 T1 T2 T3 T4 etup RT RF R5
    -- times = [0] + [..]
    refine fun N5 c5 => ⟨by show 1 ≤ sizeLine; decide, fun z hz => ⟨_, rfl, ?_⟩⟩
    have sz := same_new (o := .lst [V.int 0]) hz
    have ez : upd H6 z (.lst [V.int 0]) z = some (.lst [V.int 0]) := upd_same
    have DAz := DA6.same sz
    have Dz := D6.same sz
    have zd : z ≠ d := fun e => by
      obtain ⟨o, q⟩ := D6.there
      rw [← e, hz] at q
      cases q
    refine rdT DAz.tup rfl ⟨_, _, rfl, rfl, _, rfl, by omega, by omega, fun Da hDa => ?_⟩
    have Dad : Da ≠ d := fun e => by
      obtain ⟨o, q⟩ := Dz.there
      rw [← e, hDa] at q
      cases q
    generalize upd H6 z (.lst [V.int 0]) = H7 at *
    refine comp_range (n := ((N : Int) - 1).toNat) (fun i σ' H' => ∃ v, ∃ ts : List Int, σ' = [v, some (.ref d), some (.ref wp)] ∧ ts.length = i ∧ H' Da = some (.lst (ts.map V.int)) ∧ Dice K a H' d ∧ Keep d H7 H') ?_ ?_ ?_
    · exact ⟨none, [], rfl, rfl, upd_same, Dz.new hDa, keep_upd (Keep.refl d H7) hDa⟩
    · rintro i σ' H8 hi ⟨v, ts, rfl, hlen, e1, D8, k8⟩
      obtain ⟨pz, hdz⟩ := id Dz.at_
      have tup8 := k8 _ _ DAz.tup (ne_of DAz.tup hdz (fun z => nomatch z))
      refine ⟨_, rfl, _, rfl, rdT tup8 rfl ⟨_, _, rfl, rfl, d, a, _, rfl, D8, by omega, fun r H9 h0 h1 D9 k9 => ⟨_, _, rfl, rfl, ?_⟩⟩⟩
      have f1 := k9 _ _ e1 Dad
      refine ⟨_, f1, ?_, _, ts ++ [r - 1], rfl, by rw [List.length_append, hlen]; rfl, ?_, D9.upd f1 Dad, keep_upd (k8.trans k9) hDa⟩
      · rw [List.length_map]
        exact small1000 (by omega)
      · rw [upd_same, List.map_append]
        rfl
    rintro σ' H8 ⟨v, ts, rfl, hlen, e1, D8, k8⟩
    have ez8 := k8 _ _ ez zd
    refine ⟨z, Da, _, _, rfl, rfl, ez8, e1, ?_, fun tl htl => c5 _ _ ?_⟩
    · rw [List.length_map]
      exact Nat.le_of_lt (small1000 (by simp; omega))
    have DA8 := DAz.keepD Dz k8
    have W8 := (W6.same sz).keep Dz k8
    obtain ⟨pz, hdz⟩ := id Dz.at_
    have T7 := sz _ _ T6
    have T8 := k8 _ _ T7 (ne_of T7 hdz (fun z => nomatch z))
    have hv8 : (vt = .non ∧ ∃ i, i < N ∧ lawT N (allB (N : Int) la rT rF) i i < 0) ∨ ∃ dl ds, vt = .ref dl ∧ GridAt H8 dl ds N (lawT N (allB (N : Int) la rT rF)) ∧ ∀ i, i < N → 0 ≤ lawT N (allB (N : Int) la rT rF) i i := by
      rcases hv with h | ⟨dl, ds, h1, h2, h3, h4, h5⟩
      · exact .inl h
      · exact .inr ⟨dl, ds, h1, (h2.same sz).keep k8 h3 h4, h5⟩
    have hN : (0 :: ts).length = N := by
      clear hv hv8
      rw [List.length_cons, hlen]
      omega
    have st := same_new (o := .lst ([V.int 0] ++ ts.map V.int)) htl
    have et : upd H8 tl (.lst ([V.int 0] ++ ts.map V.int)) tl = some (.lst (lsI N fun i => (0 :: ts).getD i 0)) := by
      rw [upd_same]
      have e : [V.int 0] ++ ts.map V.int = (0 :: ts).map V.int := rfl
      rw [e, ints_lsI hN]
    have DA9 := DA8.same st
    have D9 := D8.same st
    have W9 := W8.same st
    have T9 := st _ _ T8
    have hv9 : (vt = .non ∧ ∃ i, i < N ∧ lawT N (allB (N : Int) la rT rF) i i < 0) ∨ ∃ dl ds, vt = .ref dl ∧ GridAt (upd H8 tl (.lst ([V.int 0] ++ ts.map V.int))) dl ds N (lawT N (allB (N : Int) la rT rF)) ∧ ∀ i, i < N → 0 ≤ lawT N (allB (N : Int) la rT rF) i i := by
      rcases hv8 with h | ⟨dl, ds, h1, h2, h5⟩
      · exact .inl h
      · exact .inr ⟨dl, ds, h1, h2.same st, h5⟩
    generalize upd H8 tl (.lst ([V.int 0] ++ ts.map V.int)) = H9 at *
    clear st D8 DA8 W8 T8 T7 hv8 hv hdz k8 e1 ez8 DAz Dz ez zd sz hz D6 DA6 W6 T6 hDa Dad s5 s6 s4 c1 c2 c3 c4 c5 N1 N2 N3 N4 N5
    refine ⟨J3 C d wp x ta fa N la rT rF, ?_, rC hok⟩
    refine ⟨_, rfl, rfl, _, rfl, ?_⟩
    rcases hv9 with ⟨rfl, hneg⟩ | ⟨dl, ds, rfl, G9, hpos⟩
    · exact iteBT rfl (rN hok n1 n8 hl1 hl2 _ (fun _ _ z => z) H9 DA9 W9 T9 et hneg)
    · exact iteB rfl (rG hok n1 n8 hl1 hl2 _ (fun _ _ z => z) H9 DA9 W9 D9 et G9 hpos)
end
end
end W

set_option Elab.async false
set_option linter.all false
set_option maxRecDepth 100000
set_option maxHeartbeats 4000000
namespace W
open PySem L2
section
variable {K : PySem.W.Frag} {mg : Str → Option Value} {h : Heap}
theorem fn_mk {x : Str} {st : Stmt} {ps : List Str} {f : Addr} {oc : Value} {od an : Option Addr} {osl : Array (Option Value)} {kV doc pm cdv ct : Value} (X : K.In h) (G : h.Ns mainGlobals mg) (a : PySem.W.nsIn K mainGlobals x = some (some (.ref f)))
    (l : K.lookup f = some ⟨oc, od, .func (PySem.W.fnOf x x (defArgs st) (defBody st) (defScope st) .none kV doc pm an cdv ct), osl⟩) (c : PySem.W.codeIn K cdv x = true) (k : PySem.W.keepIn K (.ref f) = true)
    (hb : ∀ (kV doc pm : Value) (an : Option Addr) (cdv ct : Value) (us : List Value), us.length = ps.length → bindArgs (PySem.W.fnOf x x (defArgs st) (defBody st) (defScope st) .none kV doc pm an cdv ct) ⟨us, []⟩ = pure (ps.zip us)) :
    Fn K mg x st ps f (PySem.W.fnOf x x (defArgs st) (defBody st) (defScope st) .none kV doc pm an cdv ct) :=
  have F := fun_mk (st := st) l c k
  ⟨F, F.binds hb, PySem.W.mg_of X G a⟩
structure MtK (K : PySem.W.Frag) (C : Addr) (m q : Str) (st : Stmt) (ps : List Str) (f : Addr) (fd : FuncData) : Prop where
  F : Fun K m q st f fd
  b : Binds K fd ps []
  a : PySem.W.findIn K (.ref C) m = some (some (.ref f))
  i : PySem.W.isFn K (.ref f) = true
theorem MtK.meth {C f : Addr} {m q : Str} {st : Stmt} {ps : List Str} {fd : FuncData} (h : MtK K C m q st ps f fd) : Meth K C m f := ⟨h.a, h.i, h.F.kp⟩
theorem mt_mk {C : Addr} {x q : Str} {st : Stmt} {ps : List Str} {f : Addr} {oc : Value} {od an : Option Addr} {osl : Array (Option Value)} {kV doc pm cdv ct : Value} (a : PySem.W.findIn K (.ref C) x = some (some (.ref f))) (i : PySem.W.isFn K (.ref f) = true)
    (l : K.lookup f = some ⟨oc, od, .func (PySem.W.fnOf x q (defArgs st) (defBody st) (defScope st) .none kV doc pm an cdv ct), osl⟩) (c : PySem.W.codeIn K cdv q = true) (k : PySem.W.keepIn K (.ref f) = true)
    (hb : ∀ (kV doc pm : Value) (an : Option Addr) (cdv ct : Value) (us : List Value), us.length = ps.length → bindArgs (PySem.W.fnOf x q (defArgs st) (defBody st) (defScope st) .none kV doc pm an cdv ct) ⟨us, []⟩ = pure (ps.zip us)) :
    MtK K C x q st ps f (PySem.W.fnOf x q (defArgs st) (defBody st) (defScope st) .none kV doc pm an cdv ct) :=
  have F := fun_mk (st := st) l c k
  ⟨F, F.binds hb, a, i⟩
structure WebK (K : PySem.W.Frag) (mg : Str → Option Value) (C : Addr) : Prop where
  tc : TxtC K mg C
  mk_ : PySem.W.makesIn K C = true
  kc : PySem.W.keepIn K (.ref C) = true
theorem web_mk {C : Addr} (X : K.In h) (G : h.Ns mainGlobals mg) (aC : PySem.W.nsIn K mainGlobals "Web" = some (some (.ref C))) (pg : PySem.W.plainGet K C Str.empty = true) (hd : PySem.W.hasDictIn K C = true) (po : PySem.W.plainOver K C = true)
    (sa : PySem.W.findIn K (.ref C) "__setattr__" = some (some (.builtin "object.__setattr__"))) (mk : PySem.W.makesIn K C = true) (kc : PySem.W.keepIn K (.ref C) = true)
    (n1 : PySem.W.findIn K (.ref C) "many" = some none) (n2 : PySem.W.findIn K (.ref C) "last" = some none) (n3 : PySem.W.findIn K (.ref C) "told_ties" = some none) (n4 : PySem.W.findIn K (.ref C) "told_falls" = some none) : WebK K mg C :=
  ⟨⟨⟨pg, hd, po, sa⟩, n1, n2, n3, n4, PySem.W.mg_of X G aC⟩, mk, kc⟩
theorem txtW_mk {t1 t2 t3 t4 : Tok} (X : K.In h) (G : h.Ns mainGlobals mg) (m1 : PySem.W.nsIn K mainGlobals "MOST_MOMENTS" = some (some (.int 8 t1))) (m2 : PySem.W.nsIn K mainGlobals "LATEST_LAST" = some (some (.int 60 t2)))
    (m3 : PySem.W.nsIn K mainGlobals "WIDEST_SPAN" = some (some (.int 60 t3))) (m4 : PySem.W.nsIn K mainGlobals "LONGEST_FALL" = some (some (.int 60 t4))) (z : PySem.W.nsIn K mainGlobals "list" = some none) : TxtW mg :=
  ⟨⟨t1, PySem.W.mg_of X G m1⟩, ⟨t2, PySem.W.mg_of X G m2⟩, ⟨t3, PySem.W.mg_of X G m3⟩, ⟨t4, PySem.W.mg_of X G m4⟩, PySem.W.mg_none_of X G z⟩
theorem exc_mk {C M fI N : Addr} {nm q : Str} {bs : List Value} {sn : List Str} {sub : List Value} {ab : Bool} {col : Option Bool} {dd : Option Addr} {k0 k1 k2 k3 k5 : Option Value}
    (l : K.lookup C = some (excClassObj nm q C N bs (.ref M :: bmV) true sn sub ab col dd k0 k1 k2 k3 k5 "ValueError.__new__")) (no : PySem.W.nsOkIn K N = true) (ni : PySem.W.nsIn K N "__init__" = some (some (.ref fI)))
    (tl : PySem.W.tailIn K bmV (.ref M :: bmV) = true) (fn : PySem.W.isFn K (.ref fI) = true) (kp : PySem.W.keepIn K (.ref C) = true) (sa : PySem.W.findIn K (.ref C) "__setattr__" = some (some (.builtin "object.__setattr__"))) : ExcC K C M fI :=
  ⟨⟨nm, q, N, bs, sn, sub, ab, col, dd, k0, k1, k2, k3, k5, l, no, ni⟩, tl, fn, kp, sa⟩
end
end W
namespace W
open PySem L2
section
variable {K : PySem.W.Frag} {mg : Str → Option Value} {h : Heap}
theorem txtE_mk {C M fI : Addr} (X : K.In h) (G : h.Ns mainGlobals mg) (aC : PySem.W.nsIn K mainGlobals "NoTimes" = some (some (.ref C))) (aM : PySem.W.nsIn K mainGlobals "MomentError" = some (some (.ref M))) (ex : ExcC K C M fI)
    (b1 : PySem.W.typeIn K (.ref M) = some (.type "type")) (b2 : PySem.W.specialIn K (.ref M) "__getattribute__" = some (some (.builtin "type.__getattribute__"))) (b3 : PySem.W.findIn K (.type "type") "__getattribute__" = some (some (.builtin "type.__getattribute__")))
    (b4 : PySem.W.nsIn K cStatics "thirdparty.any" = some none) (b5 : PySem.W.findCls K (.ref M) (.type "type") "__init__" = some (.val (.builtin "ValueError.__init__"))) (b6 : PySem.W.subIn K (.type "type") (.type "type") = some true)
    (nR : PySem.W.findIn K (.ref C) "ring" = some none) (z1 : PySem.W.nsIn K mainGlobals "range" = some none) (z2 : PySem.W.nsIn K mainGlobals "len" = some none) (z3 : PySem.W.nsIn K mainGlobals "list" = some none) : TxtE K mg C M fI :=
  ⟨PySem.W.mg_none_of X G z1, PySem.W.mg_none_of X G z2, PySem.W.mg_none_of X G z3, ex, ⟨b1, b2, b3, b4, b5, b6⟩, PySem.W.mg_of X G aM, nR, PySem.W.mg_of X G aC⟩
end
end W

set_option Elab.async false
set_option linter.all false
set_option maxRecDepth 100000
set_option maxHeartbeats 4000000
namespace W
open PySem L2
section
variable {K : PySem.W.Frag} {mg : Str → Option Value} {h : Heap}
theorem txtI_mk {C c1 c2 c3 c4 c5 : Addr} {b1 b2 b3 b4 b5 : Bool} (X : K.In h) (G : h.Ns mainGlobals mg) (z1 : PySem.W.nsIn K mainGlobals "isinstance" = some none) (z2 : PySem.W.nsIn K mainGlobals "ValueError" = some none) (g : ExcG K C)
    (a1 : PySem.W.nsIn K mainGlobals "BadWeb" = some (some (.ref c1))) (q1 : PySem.W.kitOne K (.ref C) (.ref c1) = some b1) (a2 : PySem.W.nsIn K mainGlobals "NoTimes" = some (some (.ref c2))) (q2 : PySem.W.kitOne K (.ref C) (.ref c2) = some b2)
    (a3 : PySem.W.nsIn K mainGlobals "NoHand" = some (some (.ref c3))) (q3 : PySem.W.kitOne K (.ref C) (.ref c3) = some b3) (a4 : PySem.W.nsIn K mainGlobals "BadFall" = some (some (.ref c4))) (q4 : PySem.W.kitOne K (.ref C) (.ref c4) = some b4)
    (a5 : PySem.W.nsIn K mainGlobals "BadText" = some (some (.ref c5))) (q5 : PySem.W.kitOne K (.ref C) (.ref c5) = some b5) (kv : PySem.W.kitOne K (.ref C) (.type "ValueError") = some true) : TxtI K mg C b1 b2 b3 b4 b5 :=
  ⟨PySem.W.mg_none_of X G z1, PySem.W.mg_none_of X G z2, g, ⟨c1, PySem.W.mg_of X G a1, q1⟩, ⟨c2, PySem.W.mg_of X G a2, q2⟩, ⟨c3, PySem.W.mg_of X G a3, q3⟩, ⟨c4, PySem.W.mg_of X G a4, q4⟩, ⟨c5, PySem.W.mg_of X G a5, q5⟩, kv⟩
theorem txtK_mk (X : K.In h) (G : h.Ns mainGlobals mg) (z1 : PySem.W.nsIn K mainGlobals "range" = some none) (z2 : PySem.W.nsIn K mainGlobals "isinstance" = some none) (z3 : PySem.W.nsIn K mainGlobals "int" = some none) (z4 : PySem.W.nsIn K mainGlobals "bool" = some none)
    (z5 : PySem.W.nsIn K mainGlobals "str" = some none) (z6 : PySem.W.nsIn K mainGlobals "tuple" = some none) (z7 : PySem.W.nsIn K mainGlobals "list" = some none) (z8 : PySem.W.nsIn K mainGlobals "len" = some none)
    (k1 : PySem.W.kitOne K (.type "int") (.type "str") = some false) (k2 : PySem.W.kitOne K (.type "int") (.type "bool") = some false) (k3 : PySem.W.kitOne K (.type "NoneType") (.type "str") = some false) (k4 : PySem.W.kitOne K (.type "NoneType") (.type "int") = some false)
    (k5 : PySem.W.kitOne K (.type "list") (.type "str") = some false) (k6 : PySem.W.kitOne K (.type "list") (.type "int") = some false) (k7 : PySem.W.kitOne K (.type "list") (.type "tuple") = some false) (k8 : PySem.W.kitOne K (.type "tuple") (.type "str") = some false)
    (k9 : PySem.W.kitOne K (.type "tuple") (.type "int") = some false) (k10 : PySem.W.kitOne K (.type "tuple") (.type "list") = some false) : TxtK K mg :=
  ⟨PySem.W.mg_none_of X G z1, PySem.W.mg_none_of X G z2, PySem.W.mg_none_of X G z3, PySem.W.mg_none_of X G z4, PySem.W.mg_none_of X G z5, PySem.W.mg_none_of X G z6, PySem.W.mg_none_of X G z7, PySem.W.mg_none_of X G z8, k1, k2, k3, k4, k5, k6, k7, k8, k9, k10⟩
end
end W

namespace L2
theorem lenS {α : Type} {n : Nat} : ∀ {us : List α}, us.length = n + 1 → ∃ a t, us = a :: t ∧ t.length = n
  | a :: t, h => ⟨a, t, rfl, Nat.succ.inj h⟩
theorem len1 {α : Type} (us : List α) (h : us.length = 1) : ∃ a, us = [a] := by
  obtain ⟨a, t0, rfl, h0⟩ := lenS h
  obtain rfl := List.eq_nil_of_length_eq_zero h0
  exact ⟨a, rfl⟩
theorem len2 {α : Type} (us : List α) (h : us.length = 2) : ∃ a b, us = [a, b] := by
  obtain ⟨a, t0, rfl, h0⟩ := lenS h
  obtain ⟨b, t1, rfl, h1⟩ := lenS h0
  obtain rfl := List.eq_nil_of_length_eq_zero h1
  exact ⟨a, b, rfl⟩
theorem len3 {α : Type} (us : List α) (h : us.length = 3) : ∃ a b c, us = [a, b, c] := by
  obtain ⟨a, t0, rfl, h0⟩ := lenS h
  obtain ⟨b, t1, rfl, h1⟩ := lenS h0
  obtain ⟨c, t2, rfl, h2⟩ := lenS h1
  obtain rfl := List.eq_nil_of_length_eq_zero h2
  exact ⟨a, b, c, rfl⟩
theorem len4 {α : Type} (us : List α) (h : us.length = 4) : ∃ a b c d, us = [a, b, c, d] := by
  obtain ⟨a, t0, rfl, h0⟩ := lenS h
  obtain ⟨b, t1, rfl, h1⟩ := lenS h0
  obtain ⟨c, t2, rfl, h2⟩ := lenS h1
  obtain ⟨d, t3, rfl, h3⟩ := lenS h2
  obtain rfl := List.eq_nil_of_length_eq_zero h3
  exact ⟨a, b, c, d, rfl⟩
theorem len5 {α : Type} (us : List α) (h : us.length = 5) : ∃ a b c d e, us = [a, b, c, d, e] := by
  obtain ⟨a, t0, rfl, h0⟩ := lenS h
  obtain ⟨b, t1, rfl, h1⟩ := lenS h0
  obtain ⟨c, t2, rfl, h2⟩ := lenS h1
  obtain ⟨d, t3, rfl, h3⟩ := lenS h2
  obtain ⟨e, t4, rfl, h4⟩ := lenS h3
  obtain rfl := List.eq_nil_of_length_eq_zero h4
  exact ⟨a, b, c, d, e, rfl⟩
end L2

/-- this name is taken so that the head lays no twin of its fragment: nothing of the proof reaches that twin, and it is 4 MB of the compiled text -/
noncomputable def PySem.W.Fast.tw10886654140915817883 : Unit := ()
set_option Elab.async false
open PySem PySem.W PyProof.Rows
set_option maxRecDepth 100000 in
set_option maxHeartbeats 0 in
theorem PySem.Challenge.cw_momentties_k03_times_kept_holds : PySem.Challenge.rw_momentties_k03_times_kept.Holds := by
  w_on; o_law; k_head; (case hw => w_witness2)
  k_fill
  refine L2.walk_ofT (l := PySem.Challenge.rw_momentties_k03_times_kept) (n := 63) (k := 8) (x := "_law_script") (CX := L2.CX0) (sp := _root_.W.spLawT) rfl (by decide) rfl ⟨rfl, by decide, by decide⟩ (fun w h Y => ⟨PySem.W.km_in_of Y, PySem.W.km_tabs_of Y _ List.mem_cons_self⟩) ?K ?F (fun K H a ns hl hO hT hS => ⟨a, ns, rfl, _root_.W.scr_ofT hO hS, hT, fun _ => rfl⟩) (fun _ _ _ _ z => z)
  case K => exact fun w => by with_unfolding_all rfl
  case F =>
    intro w mg fa h KX G hmg
    have F_room_bounds : ∃ f fd, _root_.W.Fn (L2.KOf KX) mg "room_bounds" _root_.W.sP_room_bounds ["web"] f fd := by
      dsimp only [L2.KOf]
      refine' ⟨_, _, _root_.W.fn_mk KX G ?a ?l ?c ?k ?b⟩
      (case a => k_is); (case l => k_is); (case c => k_is); (case k => k_is); (case b => exact fun _ _ _ _ _ _ us hl => by obtain ⟨a, rfl⟩ := L2.len1 us hl; rfl)
    obtain ⟨f_room_bounds, d_room_bounds, F_room_bounds⟩ := F_room_bounds
    have F_span_bounds : ∃ f fd, _root_.W.Fn (L2.KOf KX) mg "span_bounds" _root_.W.sP_span_bounds ["spans"] f fd := by
      dsimp only [L2.KOf]
      refine' ⟨_, _, _root_.W.fn_mk KX G ?a ?l ?c ?k ?b⟩
      (case a => k_is); (case l => k_is); (case c => k_is); (case k => k_is); (case b => exact fun _ _ _ _ _ _ us hl => by obtain ⟨a, rfl⟩ := L2.len1 us hl; rfl)
    obtain ⟨f_span_bounds, d_span_bounds, F_span_bounds⟩ := F_span_bounds
    have F_bounds_with : ∃ f fd, _root_.W.Fn (L2.KOf KX) mg "bounds_with" _root_.W.sP_bounds_with ["web", "ties"] f fd := by
      dsimp only [L2.KOf]
      refine' ⟨_, _, _root_.W.fn_mk KX G ?a ?l ?c ?k ?b⟩
      (case a => k_is); (case l => k_is); (case c => k_is); (case k => k_is); (case b => exact fun _ _ _ _ _ _ us hl => by obtain ⟨a, b, rfl⟩ := L2.len2 us hl; rfl)
    obtain ⟨f_bounds_with, d_bounds_with, F_bounds_with⟩ := F_bounds_with
    have F_told_bounds : ∃ f fd, _root_.W.Fn (L2.KOf KX) mg "told_bounds" _root_.W.sP_told_bounds ["web"] f fd := by
      dsimp only [L2.KOf]
      refine' ⟨_, _, _root_.W.fn_mk KX G ?a ?l ?c ?k ?b⟩
      (case a => k_is); (case l => k_is); (case c => k_is); (case k => k_is); (case b => exact fun _ _ _ _ _ _ us hl => by obtain ⟨a, rfl⟩ := L2.len1 us hl; rfl)
    obtain ⟨f_told_bounds, d_told_bounds, F_told_bounds⟩ := F_told_bounds
    have F_ring_behind : ∃ f fd, _root_.W.Fn (L2.KOf KX) mg "ring_behind" _root_.W.sP_ring_behind ["pushers", "moment"] f fd := by
      dsimp only [L2.KOf]
      refine' ⟨_, _, _root_.W.fn_mk KX G ?a ?l ?c ?k ?b⟩
      (case a => k_is); (case l => k_is); (case c => k_is); (case k => k_is); (case b => exact fun _ _ _ _ _ _ us hl => by obtain ⟨a, b, rfl⟩ := L2.len2 us hl; rfl)
    obtain ⟨f_ring_behind, d_ring_behind, F_ring_behind⟩ := F_ring_behind
    have F_earliest_times : ∃ f fd, _root_.W.Fn (L2.KOf KX) mg "earliest_times" _root_.W.sP_earliest_times ["many", "bounds"] f fd := by
      dsimp only [L2.KOf]
      refine' ⟨_, _, _root_.W.fn_mk KX G ?a ?l ?c ?k ?b⟩
      (case a => k_is); (case l => k_is); (case c => k_is); (case k => k_is); (case b => exact fun _ _ _ _ _ _ us hl => by obtain ⟨a, b, rfl⟩ := L2.len2 us hl; rfl)
    obtain ⟨f_earliest_times, d_earliest_times, F_earliest_times⟩ := F_earliest_times
    have F_tight_table : ∃ f fd, _root_.W.Fn (L2.KOf KX) mg "tight_table" _root_.W.sP_tight_table ["web", "bounds"] f fd := by
      dsimp only [L2.KOf]
      refine' ⟨_, _, _root_.W.fn_mk KX G ?a ?l ?c ?k ?b⟩
      (case a => k_is); (case l => k_is); (case c => k_is); (case k => k_is); (case b => exact fun _ _ _ _ _ _ us hl => by obtain ⟨a, b, rfl⟩ := L2.len2 us hl; rfl)
    obtain ⟨f_tight_table, d_tight_table, F_tight_table⟩ := F_tight_table
    have F_tight : ∃ f fd, _root_.W.Fn (L2.KOf KX) mg "tight" _root_.W.sP_tight ["web"] f fd := by
      dsimp only [L2.KOf]
      refine' ⟨_, _, _root_.W.fn_mk KX G ?a ?l ?c ?k ?b⟩
      (case a => k_is); (case l => k_is); (case c => k_is); (case k => k_is); (case b => exact fun _ _ _ _ _ _ us hl => by obtain ⟨a, rfl⟩ := L2.len1 us hl; rfl)
    obtain ⟨f_tight, d_tight, F_tight⟩ := F_tight
    have F_earliest : ∃ f fd, _root_.W.Fn (L2.KOf KX) mg "earliest" _root_.W.sP_earliest ["web"] f fd := by
      dsimp only [L2.KOf]
      refine' ⟨_, _, _root_.W.fn_mk KX G ?a ?l ?c ?k ?b⟩
      (case a => k_is); (case l => k_is); (case c => k_is); (case k => k_is); (case b => exact fun _ _ _ _ _ _ us hl => by obtain ⟨a, rfl⟩ := L2.len1 us hl; rfl)
    obtain ⟨f_earliest, d_earliest, F_earliest⟩ := F_earliest
    have F_latest : ∃ f fd, _root_.W.Fn (L2.KOf KX) mg "latest" _root_.W.sP_latest ["web"] f fd := by
      dsimp only [L2.KOf]
      refine' ⟨_, _, _root_.W.fn_mk KX G ?a ?l ?c ?k ?b⟩
      (case a => k_is); (case l => k_is); (case c => k_is); (case k => k_is); (case b => exact fun _ _ _ _ _ _ us hl => by obtain ⟨a, rfl⟩ := L2.len1 us hl; rfl)
    obtain ⟨f_latest, d_latest, F_latest⟩ := F_latest
    have F_keeps : ∃ f fd, _root_.W.Fn (L2.KOf KX) mg "keeps" _root_.W.sP_keeps ["web", "times"] f fd := by
      dsimp only [L2.KOf]
      refine' ⟨_, _, _root_.W.fn_mk KX G ?a ?l ?c ?k ?b⟩
      (case a => k_is); (case l => k_is); (case c => k_is); (case k => k_is); (case b => exact fun _ _ _ _ _ _ us hl => by obtain ⟨a, b, rfl⟩ := L2.len2 us hl; rfl)
    obtain ⟨f_keeps, d_keeps, F_keeps⟩ := F_keeps
    have F_are_two_moments : ∃ f fd, _root_.W.Fn (L2.KOf KX) mg "are_two_moments" _root_.W.sP_are_two_moments ["many", "one", "other"] f fd := by
      dsimp only [L2.KOf]
      refine' ⟨_, _, _root_.W.fn_mk KX G ?a ?l ?c ?k ?b⟩
      (case a => k_is); (case l => k_is); (case c => k_is); (case k => k_is); (case b => exact fun _ _ _ _ _ _ us hl => by obtain ⟨a, b, c, rfl⟩ := L2.len3 us hl; rfl)
    obtain ⟨f_are_two_moments, d_are_two_moments, F_are_two_moments⟩ := F_are_two_moments
    have F_look_over_size : ∃ f fd, _root_.W.Fn (L2.KOf KX) mg "look_over_size" _root_.W.sP_look_over_size ["many", "last"] f fd := by
      dsimp only [L2.KOf]
      refine' ⟨_, _, _root_.W.fn_mk KX G ?a ?l ?c ?k ?b⟩
      (case a => k_is); (case l => k_is); (case c => k_is); (case k => k_is); (case b => exact fun _ _ _ _ _ _ us hl => by obtain ⟨a, b, rfl⟩ := L2.len2 us hl; rfl)
    obtain ⟨f_look_over_size, d_look_over_size, F_look_over_size⟩ := F_look_over_size
    have F_look_over_ties : ∃ f fd, _root_.W.Fn (L2.KOf KX) mg "look_over_ties" _root_.W.sP_look_over_ties ["many", "ties"] f fd := by
      dsimp only [L2.KOf]
      refine' ⟨_, _, _root_.W.fn_mk KX G ?a ?l ?c ?k ?b⟩
      (case a => k_is); (case l => k_is); (case c => k_is); (case k => k_is); (case b => exact fun _ _ _ _ _ _ us hl => by obtain ⟨a, b, rfl⟩ := L2.len2 us hl; rfl)
    obtain ⟨f_look_over_ties, d_look_over_ties, F_look_over_ties⟩ := F_look_over_ties
    have F_look_over_falls : ∃ f fd, _root_.W.Fn (L2.KOf KX) mg "look_over_falls" _root_.W.sP_look_over_falls ["many", "falls"] f fd := by
      dsimp only [L2.KOf]
      refine' ⟨_, _, _root_.W.fn_mk KX G ?a ?l ?c ?k ?b⟩
      (case a => k_is); (case l => k_is); (case c => k_is); (case k => k_is); (case b => exact fun _ _ _ _ _ _ us hl => by obtain ⟨a, b, rfl⟩ := L2.len2 us hl; rfl)
    obtain ⟨f_look_over_falls, d_look_over_falls, F_look_over_falls⟩ := F_look_over_falls
    have C_Web : ∃ C, _root_.W.WebK (L2.KOf KX) mg C ∧ PySem.W.nsIn (L2.KOf KX) mainGlobals "Web" = some (some (.ref C)) := by
      dsimp only [L2.KOf]
      refine' ⟨_, _root_.W.web_mk KX G ?aC ?pg ?hd ?po ?sa ?mk ?kc ?n1 ?n2 ?n3 ?n4, ?aD⟩
      (case aC => k_is); (case pg => k_is); (case hd => k_is); (case po => k_is); (case sa => k_is); (case mk => k_is); (case kc => k_is); (case n1 => k_is); (case n2 => k_is); (case n3 => k_is); (case n4 => k_is); (case aD => k_is)
    obtain ⟨c_Web, C_Web, a_Web⟩ := C_Web
    have M_init : ∃ f fd, _root_.W.MtK (L2.KOf KX) c_Web "__init__" "Web.__init__" _root_.W.sC_Web_init ["self", "many", "last", "ties", "falls"] f fd := by
      have e : ∃ C f fd, PySem.W.nsIn (L2.KOf KX) mainGlobals "Web" = some (some (.ref C)) ∧ _root_.W.MtK (L2.KOf KX) C "__init__" "Web.__init__" _root_.W.sC_Web_init ["self", "many", "last", "ties", "falls"] f fd := by
        dsimp only [L2.KOf]
        refine' ⟨_, _, _, ?aC, _root_.W.mt_mk ?a ?i ?l ?c ?k ?b⟩
        (case aC => k_is); (case a => k_is); (case i => k_is); (case l => k_is); (case c => k_is); (case k => k_is); (case b => exact fun _ _ _ _ _ _ us hl => by obtain ⟨a, b, c, d, e, rfl⟩ := L2.len5 us hl; rfl)
      obtain ⟨C, f, fd, e1, e2⟩ := e
      rw [a_Web] at e1
      cases e1
      exact ⟨f, fd, e2⟩
    obtain ⟨m_init, e_init, M_init⟩ := M_init
    have M_ties : ∃ f fd, _root_.W.MtK (L2.KOf KX) c_Web "ties" "Web.ties" _root_.W.sC_Web_ties ["self"] f fd := by
      have e : ∃ C f fd, PySem.W.nsIn (L2.KOf KX) mainGlobals "Web" = some (some (.ref C)) ∧ _root_.W.MtK (L2.KOf KX) C "ties" "Web.ties" _root_.W.sC_Web_ties ["self"] f fd := by
        dsimp only [L2.KOf]
        refine' ⟨_, _, _, ?aC, _root_.W.mt_mk ?a ?i ?l ?c ?k ?b⟩
        (case aC => k_is); (case a => k_is); (case i => k_is); (case l => k_is); (case c => k_is); (case k => k_is); (case b => exact fun _ _ _ _ _ _ us hl => by obtain ⟨a, rfl⟩ := L2.len1 us hl; rfl)
      obtain ⟨C, f, fd, e1, e2⟩ := e
      rw [a_Web] at e1
      cases e1
      exact ⟨f, fd, e2⟩
    obtain ⟨m_ties, e_ties, M_ties⟩ := M_ties
    have M_falls : ∃ f fd, _root_.W.MtK (L2.KOf KX) c_Web "falls" "Web.falls" _root_.W.sC_Web_falls ["self"] f fd := by
      have e : ∃ C f fd, PySem.W.nsIn (L2.KOf KX) mainGlobals "Web" = some (some (.ref C)) ∧ _root_.W.MtK (L2.KOf KX) C "falls" "Web.falls" _root_.W.sC_Web_falls ["self"] f fd := by
        dsimp only [L2.KOf]
        refine' ⟨_, _, _, ?aC, _root_.W.mt_mk ?a ?i ?l ?c ?k ?b⟩
        (case aC => k_is); (case a => k_is); (case i => k_is); (case l => k_is); (case c => k_is); (case k => k_is); (case b => exact fun _ _ _ _ _ _ us hl => by obtain ⟨a, rfl⟩ := L2.len1 us hl; rfl)
      obtain ⟨C, f, fd, e1, e2⟩ := e
      rw [a_Web] at e1
      cases e1
      exact ⟨f, fd, e2⟩
    obtain ⟨m_falls, e_falls, M_falls⟩ := M_falls
    have F_law_next : ∃ f fd, _root_.W.Fn (L2.KOf KX) mg "_law_next" _root_.W.sNext ["_law_dice", "_law_many"] f fd := by
      dsimp only [L2.KOf]
      refine' ⟨_, _, _root_.W.fn_mk KX G ?a ?l ?c ?k ?b⟩
      (case a => k_is); (case l => k_is); (case c => k_is); (case k => k_is); (case b => exact fun _ _ _ _ _ _ us hl => by obtain ⟨a, b, rfl⟩ := L2.len2 us hl; rfl)
    obtain ⟨f_law_next, d_law_next, F_law_next⟩ := F_law_next
    have F_law_like : ∃ f fd, _root_.W.Fn (L2.KOf KX) mg "_law_like" _root_.W.sL_like ["_law_found", "_law_due"] f fd := by
      dsimp only [L2.KOf]
      refine' ⟨_, _, _root_.W.fn_mk KX G ?a ?l ?c ?k ?b⟩
      (case a => k_is); (case l => k_is); (case c => k_is); (case k => k_is); (case b => exact fun _ _ _ _ _ _ us hl => by obtain ⟨a, b, rfl⟩ := L2.len2 us hl; rfl)
    obtain ⟨f_law_like, d_law_like, F_law_like⟩ := F_law_like
    have F_law_named : ∃ f fd, _root_.W.Fn (L2.KOf KX) mg "_law_named" _root_.W.sNamed ["_law_moment", "_law_many", "_law_turn"] f fd := by
      dsimp only [L2.KOf]
      refine' ⟨_, _, _root_.W.fn_mk KX G ?a ?l ?c ?k ?b⟩
      (case a => k_is); (case l => k_is); (case c => k_is); (case k => k_is); (case b => exact fun _ _ _ _ _ _ us hl => by obtain ⟨a, b, c, rfl⟩ := L2.len3 us hl; rfl)
    obtain ⟨f_law_named, d_law_named, F_law_named⟩ := F_law_named
    have F_law_falls : ∃ f fd, _root_.W.Fn (L2.KOf KX) mg "_law_falls" _root_.W.sFalls ["_law_d", "_law_many", "_law_wide"] f fd := by
      dsimp only [L2.KOf]
      refine' ⟨_, _, _root_.W.fn_mk KX G ?a ?l ?c ?k ?b⟩
      (case a => k_is); (case l => k_is); (case c => k_is); (case k => k_is); (case b => exact fun _ _ _ _ _ _ us hl => by obtain ⟨a, b, c, rfl⟩ := L2.len3 us hl; rfl)
    obtain ⟨f_law_falls, d_law_falls, F_law_falls⟩ := F_law_falls
    have F_law_ties : ∃ f fd, _root_.W.Fn (L2.KOf KX) mg "_law_ties" _root_.W.sTies ["_law_d", "_law_many", "_law_last", "_law_wide"] f fd := by
      dsimp only [L2.KOf]
      refine' ⟨_, _, _root_.W.fn_mk KX G ?a ?l ?c ?k ?b⟩
      (case a => k_is); (case l => k_is); (case c => k_is); (case k => k_is); (case b => exact fun _ _ _ _ _ _ us hl => by obtain ⟨a, b, c, d, rfl⟩ := L2.len4 us hl; rfl)
    obtain ⟨f_law_ties, d_law_ties, F_law_ties⟩ := F_law_ties
    have F_law_web : ∃ f fd, _root_.W.Fn (L2.KOf KX) mg "_law_web" _root_.W.sWeb ["_law_d", "_law_most", "_law_last", "_law_wide"] f fd := by
      dsimp only [L2.KOf]
      refine' ⟨_, _, _root_.W.fn_mk KX G ?a ?l ?c ?k ?b⟩
      (case a => k_is); (case l => k_is); (case c => k_is); (case k => k_is); (case b => exact fun _ _ _ _ _ _ us hl => by obtain ⟨a, b, c, d, rfl⟩ := L2.len4 us hl; rfl)
    obtain ⟨f_law_web, d_law_web, F_law_web⟩ := F_law_web
    have F_law_bounds : ∃ f fd, _root_.W.Fn (L2.KOf KX) mg "_law_bounds" _root_.W.sL_bounds ["_law_w"] f fd := by
      dsimp only [L2.KOf]
      refine' ⟨_, _, _root_.W.fn_mk KX G ?a ?l ?c ?k ?b⟩
      (case a => k_is); (case l => k_is); (case c => k_is); (case k => k_is); (case b => exact fun _ _ _ _ _ _ us hl => by obtain ⟨a, rfl⟩ := L2.len1 us hl; rfl)
    obtain ⟨f_law_bounds, d_law_bounds, F_law_bounds⟩ := F_law_bounds
    have F_law_table : ∃ f fd, _root_.W.Fn (L2.KOf KX) mg "_law_table" _root_.W.sL_table ["_law_many", "_law_bounds_here"] f fd := by
      dsimp only [L2.KOf]
      refine' ⟨_, _, _root_.W.fn_mk KX G ?a ?l ?c ?k ?b⟩
      (case a => k_is); (case l => k_is); (case c => k_is); (case k => k_is); (case b => exact fun _ _ _ _ _ _ us hl => by obtain ⟨a, b, rfl⟩ := L2.len2 us hl; rfl)
    obtain ⟨f_law_table, d_law_table, F_law_table⟩ := F_law_table
    have F_law_is : ∃ f fd, _root_.W.Fn (L2.KOf KX) mg "_law_is" _root_.W.sL_is ["_law_e", "_law_word"] f fd := by
      dsimp only [L2.KOf]
      refine' ⟨_, _, _root_.W.fn_mk KX G ?a ?l ?c ?k ?b⟩
      (case a => k_is); (case l => k_is); (case c => k_is); (case k => k_is); (case b => exact fun _ _ _ _ _ _ us hl => by obtain ⟨a, b, rfl⟩ := L2.len2 us hl; rfl)
    obtain ⟨f_law_is, d_law_is, F_law_is⟩ := F_law_is
    have F_law_keeps : ∃ f fd, _root_.W.Fn (L2.KOf KX) mg "_law_keeps" _root_.W.sL_keeps ["_law_w", "_law_times"] f fd := by
      dsimp only [L2.KOf]
      refine' ⟨_, _, _root_.W.fn_mk KX G ?a ?l ?c ?k ?b⟩
      (case a => k_is); (case l => k_is); (case c => k_is); (case k => k_is); (case b => exact fun _ _ _ _ _ _ us hl => by obtain ⟨a, b, rfl⟩ := L2.len2 us hl; rfl)
    obtain ⟨f_law_keeps, d_law_keeps, F_law_keeps⟩ := F_law_keeps
    have F_law_none : ∃ f fd, _root_.W.Fn (L2.KOf KX) mg "_law_none" _root_.W.sL_none ["_law_work"] f fd := by
      dsimp only [L2.KOf]
      refine' ⟨_, _, _root_.W.fn_mk KX G ?a ?l ?c ?k ?b⟩
      (case a => k_is); (case l => k_is); (case c => k_is); (case k => k_is); (case b => exact fun _ _ _ _ _ _ us hl => by obtain ⟨a, rfl⟩ := L2.len1 us hl; rfl)
    obtain ⟨f_law_none, d_law_none, F_law_none⟩ := F_law_none
    have F_law : ∃ f fd c, _root_.W.Fn (L2.KOf KX) mg "law" _root_.W.sLaw ["_law_script"] f fd ∧ (∀ (s : Shared) (u : Value), BindsTo s fd ⟨[u], []⟩ [("_law_script", u)]) ∧ fd.code = .ref c ∧ PySem.W.codeHdIn (L2.KOf KX) c 339 = true := by
      dsimp only [L2.KOf]
      refine' ⟨_, _, _, _root_.W.fn_mk KX G ?a ?l ?c ?k ?b, ?bb, ?cc, ?ch⟩
      (case a => k_is); (case l => k_is); (case c => k_is); (case k => k_is); (case b => exact fun _ _ _ _ _ _ us hl => by obtain ⟨a, rfl⟩ := L2.len1 us hl; rfl); (case bb => exact fun s u => .of_eq rfl); (case cc => rfl); (case ch => with_unfolding_all rfl)
    obtain ⟨f_law, d_law, c_law, F_law, b_law, cd_law, ch_law⟩ := F_law
    have CN : ∃ C M fI fd, _root_.W.TxtE (L2.KOf KX) mg C M fI ∧ L2.Fun (L2.KOf KX) "__init__" "NoTimes.__init__" _root_.W.sC_NoTimes_init fI fd ∧ L2.Binds (L2.KOf KX) fd ["self", "ring"] [] ∧ PySem.W.exmOne (L2.KOf KX) (.ref C) (.ref M) = some true ∧ _root_.W.TxtI (L2.KOf KX) mg C false true false false false := by
      dsimp only [L2.KOf]
      refine' ⟨_, _, _, _, _root_.W.txtE_mk KX G ?aC ?aM ?ex ?b1 ?b2 ?b3 ?b4 ?b5 ?b6 ?nR ?z1 ?z2 ?z3, L2.fun_mk ?fl ?fc ?fk, ?fb, ?xm, _root_.W.txtI_mk KX G ?y1 ?y2 ⟨?g1, ?g2, ?g3, ?g4, ?g5, ?g6, ?g7, ?g8⟩ ?a1 ?q1 ?a2 ?q2 ?a3 ?q3 ?a4 ?q4 ?a5 ?q5 ?kv⟩
      (case aC => k_is); (case aM => k_is)
      case ex =>
        refine' _root_.W.exc_mk ?l ?no ?ni ?tl ?fn ?kp ?sa
        (case l => k_is); (case no => with_unfolding_all rfl); (case ni => k_is); (case tl => with_unfolding_all rfl); (case fn => k_is); (case kp => k_is); (case sa => k_is)
      (case b1 => k_is); (case b2 => k_is); (case b3 => k_is); (case b4 => k_is); (case b5 => k_is); (case b6 => k_is); (case nR => k_is); (case z1 => k_is); (case z2 => k_is); (case z3 => k_is)
      (case fl => k_is); (case fc => k_is); (case fk => k_is)
      (case xm => with_unfolding_all rfl)
      (case y1 => k_is); (case y2 => k_is); (case g1 => k_is); (case g2 => k_is); (case g3 => k_is); (case g4 => k_is); (case g5 => k_is); (case g6 => k_is); (case g7 => k_is); (case g8 => k_is)
      (case a1 => k_is); (case a2 => k_is); (case a3 => k_is); (case a4 => k_is); (case a5 => k_is)
      (case q1 => with_unfolding_all rfl); (case q2 => with_unfolding_all rfl); (case q3 => with_unfolding_all rfl); (case q4 => with_unfolding_all rfl); (case q5 => with_unfolding_all rfl); (case kv => with_unfolding_all rfl)
      case fb => exact .all fun us hl => by obtain ⟨a, b, rfl⟩ := L2.len2 us hl; rfl
    obtain ⟨cN, cM, fI, dI, TE, FI, bI, exm, TI⟩ := CN
    have TW : _root_.W.TxtW mg := by
      refine' _root_.W.txtW_mk KX G ?a ?b ?c ?d ?e
      (case a => k_is); (case b => k_is); (case c => k_is); (case d => k_is); (case e => k_is)
    have TK : _root_.W.TxtK (L2.KOf KX) mg := by
      dsimp only [L2.KOf]
      refine' _root_.W.txtK_mk KX G ?z1 ?z2 ?z3 ?z4 ?z5 ?z6 ?z7 ?z8 ?k1 ?k2 ?k3 ?k4 ?k5 ?k6 ?k7 ?k8 ?k9 ?k10
      (case z1 => k_is); (case z2 => k_is); (case z3 => k_is); (case z4 => k_is); (case z5 => k_is); (case z6 => k_is); (case z7 => k_is); (case z8 => k_is)
      all_goals with_unfolding_all rfl
    have Z : PySem.W.nsIn (L2.KOf KX) mainGlobals "min" = some none ∧ PySem.W.nsIn (L2.KOf KX) mainGlobals "max" = some none ∧ PySem.W.nsIn (L2.KOf KX) mainGlobals "all" = some none ∧ PySem.W.kitOne (L2.KOf KX) (.type "bool") (.type "bool") = some true := by
      dsimp only [L2.KOf]
      refine' ⟨?a, ?b, ?c, ?d⟩
      (case a => k_is); (case b => k_is); (case c => k_is); (case d => with_unfolding_all rfl)
    have zr := TK.range
    have zm := PySem.W.mg_none_of KX G Z.1
    have TL : _root_.W.TxtL (L2.KOf KX) mg := ⟨zr, TK.isi, TK.int, TK.bool, TK.ib⟩
    have e0 := hmg.symm.trans F_law.g
    cases e0
    refine ⟨d_law, c_law, b_law, ch_law, fun base kb nb bm => ?gg⟩
    case gg =>
      have Gt := fun b : Heap => _root_.W.ok_tiesM (P := PySem.Challenge.rw_momentties_k03_times_kept.prog) (w := w) (base := b) M_ties.F TW C_Web.tc
      have Gf := fun b : Heap => _root_.W.ok_fallsM (P := PySem.Challenge.rw_momentties_k03_times_kept.prog) (w := w) (base := b) M_falls.F TW C_Web.tc
      have GR := fun b : Heap => _root_.W.ok_room (P := PySem.Challenge.rw_momentties_k03_times_kept.prog) (w := w) (base := b) F_room_bounds ⟨zr⟩ C_Web.tc
      have GSp := fun b : Heap => _root_.W.ok_span (P := PySem.Challenge.rw_momentties_k03_times_kept.prog) (w := w) (base := b) F_span_bounds
      have GB := fun b : Heap => _root_.W.ok_with F_bounds_with C_Web.tc F_room_bounds (GR b) F_span_bounds (GSp b) M_falls.meth M_falls.b (Gf b)
      have GTo := fun b : Heap => _root_.W.ok_told F_told_bounds C_Web.tc F_bounds_with (GB b) M_ties.meth M_ties.b (Gt b)
      have GNT := fun b : Heap => _root_.W.ok_noT (P := PySem.Challenge.rw_momentties_k03_times_kept.prog) (w := w) (base := b) FI TE
      have GRi := fun b : Heap => _root_.W.ok_ring (P := PySem.Challenge.rw_momentties_k03_times_kept.prog) (w := w) (base := b) F_ring_behind TE
      have GE := fun b : Heap => _root_.W.ok_early F_earliest_times TE bI (GNT b) F_ring_behind (GRi b)
      have GTa := fun b : Heap => _root_.W.ok_table (P := PySem.Challenge.rw_momentties_k03_times_kept.prog) (w := w) (base := b) F_tight_table ⟨zr, TE.list, zm⟩ C_Web.tc
      have GTi := fun b : Heap => _root_.W.ok_tight F_tight C_Web.tc F_told_bounds (GTo b) F_earliest_times (GE b) F_tight_table (GTa b)
      have GEa := fun b : Heap => _root_.W.ok_earliest F_earliest C_Web.tc F_told_bounds (GTo b) F_earliest_times (GE b)
      have GLa := fun b : Heap => _root_.W.ok_latest F_latest F_tight (GTi b)
      have GIs := fun b : Heap => _root_.W.ok_is (P := PySem.Challenge.rw_momentties_k03_times_kept.prog) (w := w) (base := b) (wd := "times") F_law_is TI (by decide +kernel)
      have GNo := fun b : Heap => _root_.W.ok_none (k := 6) F_law_none TE.mo exm (by decide) F_law_is (GIs b)
      have GN := _root_.W.ok_next (P := PySem.Challenge.rw_momentties_k03_times_kept.prog) (w := w) (base := base) F_law_next TE.len
      have GM := _root_.W.ok_named (P := PySem.Challenge.rw_momentties_k03_times_kept.prog) (w := w) (base := base) F_law_named
      have GF := _root_.W.ok_falls F_law_falls F_law_next GN zm zr
      have GT := _root_.W.ok_ties F_law_ties F_law_next GN zm (PySem.W.mg_none_of KX G Z.2.1) zr
      have GW := _root_.W.ok_web F_law_web F_law_next GN F_law_named GM F_law_falls GF F_law_ties GT
      have G2 := _root_.W.ok_two (P := PySem.Challenge.rw_momentties_k03_times_kept.prog) (w := w) (base := base) F_are_two_moments
      have GS := _root_.W.ok_size (P := PySem.Challenge.rw_momentties_k03_times_kept.prog) (w := w) (base := base) F_look_over_size TW
      have GLT := _root_.W.ok_lties F_look_over_ties TW F_are_two_moments G2
      have GLF := _root_.W.ok_lfalls F_look_over_falls TW F_are_two_moments G2
      have GI := _root_.W.ok_init M_init.F TW C_Web.tc F_look_over_size GS F_look_over_ties GLT F_look_over_falls GLF
      have GKp := _root_.W.ok_keeps F_keeps (PySem.W.mg_none_of KX G Z.2.2.1) F_told_bounds (GTo base)
      have GLB := _root_.W.ok_lbounds (P := PySem.Challenge.rw_momentties_k03_times_kept.prog) (w := w) (base := base) F_law_bounds TL
      have GLk := _root_.W.ok_like (P := PySem.Challenge.rw_momentties_k03_times_kept.prog) (w := w) (base := base) F_law_like TK 1
      have GTb := _root_.W.ok_ltable (P := PySem.Challenge.rw_momentties_k03_times_kept.prog) (w := w) (base := base) F_law_table ⟨zr, TE.list, zm⟩ TK.int
      have GLK := _root_.W.ok_lkeeps F_law_keeps F_law_bounds GLB.fn
      exact _root_.W.ok_law F_law cd_law (PySem.W.codeHd_of_K kb ch_law) bm TK C_Web.tc Z.2.2.2 F_law_next GN F_law_web GW F_earliest GEa F_latest GLa F_keeps GKp ⟨C_Web.mk_, M_init.a, M_init.i, C_Web.kc⟩ M_init.b GI F_law_like GLk F_law_table GTb F_law_bounds GLB F_law_keeps GLK F_law_none GNo
